/- The functions compute what their models say. -/
import Derived.Test.YtpccmkphddipdabKExactReplayLogC3
set_option linter.unusedVariables false
set_option linter.unusedSimpArgs false
set_option maxRecDepth 20000
namespace Go.Vs
open Go Go.Proofs
attribute [local irreducible] Code.wp Code.wpIn wpList wpListIn wpQuiet Calls CallsIn

theorem c_laws_FnExactReplayLog {aList_0 : List (Int × (List Int) × Int)} {aLog_1 : List (Int × (Int × (List Int) × Int))} {aaList_0 : Option Addr} {caList_0 : Nat} {aaLog_1 : Option Addr} {caLog_1 : Nat} {r : Bool} (h : M.laws_FnExactReplayLog aList_0 aLog_1 = some r) :
    Cal2 Try.prog 9 [(Sl aaList_0 aList_0 caList_0), (Sl aaLog_1 aLog_1 caLog_1)] [Ch.ro 0 (Sl aaList_0 aList_0 caList_0) aList_0, Ch.ro 0 (Sl aaLog_1 aLog_1 caLog_1) aLog_1] (fun n0 v L => v = (B r) ∧ L = []) := by
 refine cal2 (n := 119) Try.func9 rfl rfl rfl rfl ?_
 intro S0 σ0 n0 hn0 H
 unfold M.laws_FnExactReplayLog at h
 refine c_seq ?_
 refine rg ?_
 refine st (v := (B false)) (rv_assign rfl) ?_
 refine w_end ?_
 refine q_then ?_
 refine c_seq ?_
 refine rg ?_
 refine st (v := (I 1048576)) (rv_assign rfl) ?_
 refine w_end ?_
 refine q_then ?_
 refine c_seq ?_
 refine rg ?_
 refine st (v := (Sl aaList_0 aList_0 caList_0)) (rv_move rfl) ?_
 refine st (v := (I 1048576)) (rv_move rfl) ?_
 obtain ⟨r1, hx2, h'⟩ := bind_some h
 clear h
 have h := h'; clear h'
 have hc3 := c_laws_szItemS (aa_0 := aaList_0) (ca_0 := caList_0) hx2
 refine st_call (cx_call hc3 (ent_f hc3.fn rfl) hn0 (show Hp S0 σ0 _ ([Ch.ro 0 (Sl aaList_0 aList_0 caList_0) aList_0] ++ [Ch.ro 0 (Sl aaList_0 aList_0 caList_0) aList_0, Ch.ro 0 (Sl aaLog_1 aLog_1 caLog_1) aLog_1]) from (H.sel' [0, 0, 1] rfl rfl))) wn ?_
 rintro _ σ4 ⟨_, ⟨rfl, rfl⟩, H, -⟩
 replace H : Hp S0 σ0 σ4 [Ch.ro 0 (Sl aaList_0 aList_0 caList_0) aList_0, Ch.ro 0 (Sl aaLog_1 aLog_1 caLog_1) aLog_1] := H
 refine st (v := (I r1)) (rv_assign rfl) ?_
 refine w_end ?_
 refine q_then ?_
 refine c_seq ?_
 refine c_seq ?_
 refine rg ?_
 refine st (v := (I r1)) (rv_move rfl) ?_
 refine st (v := (B (decide (r1 < 0)))) (rv_lss (a := r1) (b := 0) rfl rfl) ?_
 refine w_end ?_
 refine q_then ?_
 refine cd_cond (decide (r1 < 0)) rfl (fun hb5 => ?_) (fun hb5 => ?_)
 ·replace h := bif_t hb5 h
  refine c_seq ?_
  refine rg ?_
  refine st (v := (B true)) (rv_assign rfl) ?_
  refine w_end ?_
  refine q_then ?_
  refine c_ret ?_
  refine q_then_r ?_
  obtain rfl := Option.some.inj h
  exact fin_ret (v := (B true)) (results_ok Try.results9 (res_tmp (v := (B true)) rfl res_nil) rfl) ⟨rfl, rfl⟩ (H.sel' [] rfl rfl)
 ·replace h := bif_f hb5 h
  refine c_skip ?_
  refine q_then ?_
  refine c_seq ?_
  refine rg ?_
  refine st (v := (Sl aaLog_1 aLog_1 caLog_1)) (rv_move rfl) ?_
  refine st (v := (I r1)) (rv_move rfl) ?_
  obtain ⟨r6, hx7, h'⟩ := bind_some h
  clear h
  have h := h'; clear h'
  have hc8 := c_laws_szEntryS (aa_0 := aaLog_1) (ca_0 := caLog_1) hx7
  refine st_call (cx_call hc8 (ent_f hc8.fn rfl) hn0 (show Hp S0 σ0 _ ([Ch.ro 0 (Sl aaLog_1 aLog_1 caLog_1) aLog_1] ++ [Ch.ro 0 (Sl aaList_0 aList_0 caList_0) aList_0, Ch.ro 0 (Sl aaLog_1 aLog_1 caLog_1) aLog_1]) from (H.sel' [1, 0, 1] rfl rfl))) wn ?_
  rintro _ σ9 ⟨_, ⟨rfl, rfl⟩, H, -⟩
  replace H : Hp S0 σ0 σ9 [Ch.ro 0 (Sl aaList_0 aList_0 caList_0) aList_0, Ch.ro 0 (Sl aaLog_1 aLog_1 caLog_1) aLog_1] := H
  refine st (v := (I r6)) (rv_assign rfl) ?_
  refine w_end ?_
  refine q_then ?_
  refine c_seq ?_
  refine c_seq ?_
  refine rg ?_
  refine st (v := (I r6)) (rv_move rfl) ?_
  refine st (v := (B (decide (r6 < 0)))) (rv_lss (a := r6) (b := 0) rfl rfl) ?_
  refine w_end ?_
  refine q_then ?_
  refine cd_cond (decide (r6 < 0)) rfl (fun hb10 => ?_) (fun hb10 => ?_)
  ·replace h := bif_t hb10 h
   refine c_seq ?_
   refine rg ?_
   refine st (v := (B true)) (rv_assign rfl) ?_
   refine w_end ?_
   refine q_then ?_
   refine c_ret ?_
   refine q_then_r ?_
   obtain rfl := Option.some.inj h
   exact fin_ret (v := (B true)) (results_ok Try.results9 (res_tmp (v := (B true)) rfl res_nil) rfl) ⟨rfl, rfl⟩ (H.sel' [] rfl rfl)
  ·replace h := bif_f hb10 h
   refine c_skip ?_
   refine q_then ?_
   refine c_seq ?_
   refine rg ?_
   refine st (v := (Sl aaList_0 aList_0 caList_0)) (rv_move rfl) ?_
   obtain ⟨r11, hx12, h'⟩ := bind_some h
   clear h
   have h := h'; clear h'
   have hc13 := c_laws_toItemS (aa_0 := aaList_0) (ca_0 := caList_0) hx12
   refine st_call (cx_call hc13 (ent_f hc13.fn rfl) hn0 (show Hp S0 σ0 _ ([Ch.ro 0 (Sl aaList_0 aList_0 caList_0) aList_0] ++ [Ch.ro 0 (Sl aaList_0 aList_0 caList_0) aList_0, Ch.ro 0 (Sl aaLog_1 aLog_1 caLog_1) aLog_1]) from (H.sel' [0, 0, 1] rfl rfl))) wn ?_
   rintro _ σ18 ⟨_, ⟨a14, c15, K16, rfl, rfl, hK17⟩, H, -⟩
   replace H : Hp S0 σ0 σ18 [Ch.big K16, Ch.ro 0 (Sl aaList_0 aList_0 caList_0) aList_0, Ch.ro 0 (Sl aaLog_1 aLog_1 caLog_1) aLog_1] := H
   refine st (v := (Sl aaLog_1 aLog_1 caLog_1)) (rv_move rfl) ?_
   obtain ⟨r19, hx20, h'⟩ := bind_some h
   clear h
   have h := h'; clear h'
   have hc21 := c_laws_toEntryS (aa_0 := aaLog_1) (ca_0 := caLog_1) hx20
   refine st_call (cx_call hc21 (ent_f hc21.fn rfl) hn0 (show Hp S0 σ0 _ ([Ch.ro 0 (Sl aaLog_1 aLog_1 caLog_1) aLog_1] ++ [Ch.big K16, Ch.ro 0 (Sl aaList_0 aList_0 caList_0) aList_0, Ch.ro 0 (Sl aaLog_1 aLog_1 caLog_1) aLog_1]) from (H.sel' [2, 0, 1, 2] rfl rfl))) wn ?_
   rintro _ σ26 ⟨_, ⟨a22, c23, K24, rfl, rfl, hK25⟩, H, -⟩
   replace H : Hp S0 σ0 σ26 [Ch.big K24, Ch.big K16, Ch.ro 0 (Sl aaList_0 aList_0 caList_0) aList_0, Ch.ro 0 (Sl aaLog_1 aLog_1 caLog_1) aLog_1] := H
   obtain ⟨r27, hx28, h'⟩ := bind_some h
   clear h
   have h := h'; clear h'
   have hc29 := c_spec_ReplayLog (alist_0 := a14) (clist_0 := c15) (alog_1 := a22) (clog_1 := c23) hx28
   have hle := Nat.le_trans hn0 H.size
   refine st_call (cx_lend (Loan.lendB hK17.lends (Loan.lendB hK25.lends Loan.nil)) hc29 (ent_f hc29.fn rfl) (show Hp S0 σ0 _ ([Ch.big K16, Ch.big K24] ++ ([] ++ [Ch.ro 0 (Sl aaList_0 aList_0 caList_0) aList_0, Ch.ro 0 (Sl aaLog_1 aLog_1 caLog_1) aLog_1])) from (H.sel' [1, 0, 2, 3] rfl rfl)) (by rintro _ _ _ ⟨_, _, rfl, rfl⟩; exact ⟨Ab.own (Nat.le_refl _), trivial⟩)) wn ?_
   rintro _ σ32 ⟨_, ⟨a30, c31, rfl, rfl⟩, H, -, -⟩
   replace H : Hp S0 σ0 σ32 [Ch.own σ26.size σ26.size (Sl a30 r27.1 c31) r27.1, Ch.big K16, Ch.big K24, Ch.ro 0 (Sl aaList_0 aList_0 caList_0) aList_0, Ch.ro 0 (Sl aaLog_1 aLog_1 caLog_1) aLog_1] := H
   replace H := H.ownLow 0 n0 n0 rfl hle hle
   clear hle
   replace H : Hp S0 σ0 σ32 [Ch.own n0 n0 (Sl a30 r27.1 c31) r27.1, Ch.big K16, Ch.big K24, Ch.ro 0 (Sl aaList_0 aList_0 caList_0) aList_0, Ch.ro 0 (Sl aaLog_1 aLog_1 caLog_1) aLog_1] := H
   refine st (v := (.tuple #[(Sl a30 r27.1 c31), (I r27.2)])) (rv_move rfl) ?_
   refine st (v := (Sl a30 r27.1 c31)) (rv_extract rfl rfl) ?_
   refine st (v := (I r27.2)) (rv_extract rfl rfl) ?_
   refine st (v := (Sl a30 r27.1 c31)) (rv_assign rfl) ?_
   refine st (v := (I r27.2)) (rv_assign rfl) ?_
   refine w_end ?_
   refine q_then ?_
   refine c_seq ?_
   refine rg ?_
   refine st (v := (Sl aaList_0 aList_0 caList_0)) (rv_move rfl) ?_
   obtain ⟨r33, hx34, h'⟩ := bind_some h
   clear h
   have h := h'; clear h'
   have hc35 := c_laws_toItemS (aa_0 := aaList_0) (ca_0 := caList_0) hx34
   refine st_call (cx_call hc35 (ent_f hc35.fn rfl) hn0 (show Hp S0 σ0 _ ([Ch.ro 0 (Sl aaList_0 aList_0 caList_0) aList_0] ++ [Ch.own n0 n0 (Sl a30 r27.1 c31) r27.1, Ch.big K16, Ch.big K24, Ch.ro 0 (Sl aaList_0 aList_0 caList_0) aList_0, Ch.ro 0 (Sl aaLog_1 aLog_1 caLog_1) aLog_1]) from (H.sel' [3, 0, 1, 2, 3, 4] rfl rfl))) wn ?_
   rintro _ σ40 ⟨_, ⟨a36, c37, K38, rfl, rfl, hK39⟩, H, -⟩
   replace H : Hp S0 σ0 σ40 [Ch.big K38, Ch.own n0 n0 (Sl a30 r27.1 c31) r27.1, Ch.big K16, Ch.big K24, Ch.ro 0 (Sl aaList_0 aList_0 caList_0) aList_0, Ch.ro 0 (Sl aaLog_1 aLog_1 caLog_1) aLog_1] := H
   refine st (v := (Sl a36 r33 c37)) (rv_assign rfl) ?_
   refine w_end ?_
   refine q_then ?_
   refine c_seq ?_
   refine rg ?_
   refine st (v := (Sl aaLog_1 aLog_1 caLog_1)) (rv_move rfl) ?_
   obtain ⟨r41, hx42, h'⟩ := bind_some h
   clear h
   have h := h'; clear h'
   have hc43 := c_laws_toEntryS (aa_0 := aaLog_1) (ca_0 := caLog_1) hx42
   refine st_call (cx_call hc43 (ent_f hc43.fn rfl) hn0 (show Hp S0 σ0 _ ([Ch.ro 0 (Sl aaLog_1 aLog_1 caLog_1) aLog_1] ++ [Ch.big K38, Ch.own n0 n0 (Sl a30 r27.1 c31) r27.1, Ch.big K16, Ch.big K24, Ch.ro 0 (Sl aaList_0 aList_0 caList_0) aList_0, Ch.ro 0 (Sl aaLog_1 aLog_1 caLog_1) aLog_1]) from (H.sel' [5, 0, 1, 2, 3, 4, 5] rfl rfl))) wn ?_
   rintro _ σ48 ⟨_, ⟨a44, c45, K46, rfl, rfl, hK47⟩, H, -⟩
   replace H : Hp S0 σ0 σ48 [Ch.big K46, Ch.big K38, Ch.own n0 n0 (Sl a30 r27.1 c31) r27.1, Ch.big K16, Ch.big K24, Ch.ro 0 (Sl aaList_0 aList_0 caList_0) aList_0, Ch.ro 0 (Sl aaLog_1 aLog_1 caLog_1) aLog_1] := H
   refine st (v := (Sl a44 r41 c45)) (rv_assign rfl) ?_
   refine w_end ?_
   refine q_then ?_
   refine c_seq ?_
   refine rg ?_
   refine st (v := (Sl a36 r33 c37)) (rv_move rfl) ?_
   refine st (v := (Sl a44 r41 c45)) (rv_move rfl) ?_
   obtain ⟨r49, hx50, h'⟩ := bind_some h
   clear h
   have h := h'; clear h'
   have hc51 := c_impl_ReplayLogD (alist_0 := a36) (clist_0 := c37) (alog_1 := a44) (clog_1 := c45) hx50
   have hle := Nat.le_trans hn0 H.size
   refine st_call (cx_lend (Loan.lendB hK39.lends (Loan.lendB hK47.lends Loan.nil)) hc51 (ent_f hc51.fn rfl) (show Hp S0 σ0 _ ([Ch.big K38, Ch.big K46] ++ ([] ++ [Ch.own n0 n0 (Sl a30 r27.1 c31) r27.1, Ch.big K16, Ch.big K24, Ch.ro 0 (Sl aaList_0 aList_0 caList_0) aList_0, Ch.ro 0 (Sl aaLog_1 aLog_1 caLog_1) aLog_1])) from (H.sel' [1, 0, 2, 3, 4, 5, 6] rfl rfl)) (by rintro _ _ _ ⟨_, _, _, rfl, rfl, hK55⟩; exact ⟨Dp.abSc hK55, trivial⟩)) wn ?_
   rintro _ σ56 ⟨_, ⟨a52, c53, K54, rfl, rfl, hK55⟩, H, -, -⟩
   replace H : Hp S0 σ0 σ56 [Ch.big K54, Ch.big K38, Ch.big K46, Ch.own n0 n0 (Sl a30 r27.1 c31) r27.1, Ch.big K16, Ch.big K24, Ch.ro 0 (Sl aaList_0 aList_0 caList_0) aList_0, Ch.ro 0 (Sl aaLog_1 aLog_1 caLog_1) aLog_1] := H
   clear hle
   replace H : Hp S0 σ0 σ56 [Ch.big K54, Ch.big K38, Ch.big K46, Ch.own n0 n0 (Sl a30 r27.1 c31) r27.1, Ch.big K16, Ch.big K24, Ch.ro 0 (Sl aaList_0 aList_0 caList_0) aList_0, Ch.ro 0 (Sl aaLog_1 aLog_1 caLog_1) aLog_1] := H
   replace H : Hp S0 σ0 σ56 [Ch.big K54, Ch.big K38, Ch.big K46, Ch.own n0 n0 (Sl a30 r27.1 c31) r27.1, Ch.ro 0 (Sl aaList_0 aList_0 caList_0) aList_0, Ch.ro 0 (Sl aaLog_1 aLog_1 caLog_1) aLog_1] := H.sel' [0, 1, 2, 3, 6, 7] rfl rfl
   refine st (v := (.tuple #[(Sl a52 r49.1 c53), (I r49.2)])) (rv_move rfl) ?_
   refine st (v := (Sl a52 r49.1 c53)) (rv_extract rfl rfl) ?_
   refine st (v := (I r49.2)) (rv_extract rfl rfl) ?_
   refine st (v := (Sl a52 r49.1 c53)) (rv_assign rfl) ?_
   refine st (v := (I r49.2)) (rv_assign rfl) ?_
   refine w_end ?_
   refine q_then ?_
   refine c_seq ?_
   refine c_seq ?_
   obtain ⟨o57, hj, h'⟩ := bind_some h
   clear h
   refine c_cut (fun e a w => e = .normal ∧ ∃ (ρ : Nat → Value) (σ : St), a = fr 119 (updL ρ [(0, (Sl aaList_0 aList_0 caList_0)), (1, (Sl aaLog_1 aLog_1 caLog_1)), (6, (Sl a30 r27.1 c31)), (7, (I r27.2)), (8, (Sl a36 r33 c37)), (9, (Sl a44 r41 c45)), (10, (Sl a52 r49.1 c53)), (11, (I r49.2)), (53, (B o57))]) ∧ w = σ.w ∧ Hp S0 σ0 σ [Ch.ro 0 (Sl aaList_0 aList_0 caList_0) aList_0, Ch.ro 0 (Sl aaLog_1 aLog_1 caLog_1) aLog_1, Ch.own n0 n0 (Sl a30 r27.1 c31) r27.1, Ch.big K38, Ch.big K46, Ch.big K54]) ?_ ?_
   ·clear h'
    rename _ = some o57 => h
    refine rg ?_
    refine st (v := (Sl a52 r49.1 c53)) (rv_move rfl) ?_
    refine st (v := (Sl a30 r27.1 c31)) (rv_move rfl) ?_
    obtain ⟨r58, hx59, h'⟩ := bind_some h
    clear h
    have h := h'; clear h'
    have hc60 := c_laws_eqItemS (aa_0 := a52) (ca_0 := c53) (ab_1 := a30) (cb_1 := c31) hx59
    have hle := Nat.le_trans hn0 H.size
    refine st_call (cx_lend (Loan.lendB hK55.lends (Loan.lend Loan.nil)) hc60 (ent_f hc60.fn rfl) (show Hp S0 σ0 _ ([Ch.big K54, Ch.own n0 n0 (Sl a30 r27.1 c31) r27.1] ++ ([] ++ [Ch.big K38, Ch.big K46, Ch.ro 0 (Sl aaList_0 aList_0 caList_0) aList_0, Ch.ro 0 (Sl aaLog_1 aLog_1 caLog_1) aLog_1])) from (H.sel' [0, 3, 1, 2, 4, 5] rfl rfl)) (by rintro _ _ _ ⟨rfl, rfl⟩; exact trivial)) wn ?_
    rintro _ σ61 ⟨_, ⟨rfl, rfl⟩, H, -, -⟩
    replace H : Hp S0 σ0 σ61 [Ch.big K54, Ch.own n0 n0 (Sl a30 r27.1 c31) r27.1, Ch.big K38, Ch.big K46, Ch.ro 0 (Sl aaList_0 aList_0 caList_0) aList_0, Ch.ro 0 (Sl aaLog_1 aLog_1 caLog_1) aLog_1] := H
    clear hle
    replace H : Hp S0 σ0 σ61 [Ch.big K54, Ch.own n0 n0 (Sl a30 r27.1 c31) r27.1, Ch.big K38, Ch.big K46, Ch.ro 0 (Sl aaList_0 aList_0 caList_0) aList_0, Ch.ro 0 (Sl aaLog_1 aLog_1 caLog_1) aLog_1] := H
    refine st (v := (B (!r58))) (rv_not rfl) ?_
    refine st (v := (B (!r58))) (rv_move rfl) ?_
    rcases Bool.eq_false_or_eq_true (!r58) with hb62 | hb62
    ·replace h := bif_t hb62 h
     refine st_skip (congrArg some hb62) ?_
     refine st_skip (congrArg some hb62) ?_
     refine st_skip (congrArg some hb62) ?_
     refine st (v := (B true)) (rv_pick_t (congrArg B hb62) rfl) ?_
     refine w_end ?_
     obtain rfl := Option.some.inj h
     exact ⟨rfl, _, σ61, fr_join ⟨rfl, rfl, rfl, rfl, rfl, rfl, rfl, rfl, rfl, trivial⟩, rfl, H.sel' [4, 5, 1, 2, 3, 0] rfl rfl⟩
    ·replace h := bif_f hb62 h
     refine st_g (v := (I r49.2)) (congrArg some hb62) (rv_move rfl) ?_
     refine st_g (v := (I r27.2)) (congrArg some hb62) (rv_move rfl) ?_
     refine st_g (v := (B (r49.2 != r27.2))) (congrArg some hb62) (rv_neq (a := r49.2) (b := r27.2) rfl rfl) ?_
     refine st (v := (B (r49.2 != r27.2))) (rv_pick_f (congrArg B hb62) rfl) ?_
     refine w_end ?_
     obtain rfl := Option.some.inj h
     exact ⟨rfl, _, σ61, fr_join ⟨rfl, rfl, rfl, rfl, rfl, rfl, rfl, rfl, rfl, trivial⟩, rfl, H.sel' [4, 5, 1, 2, 3, 0] rfl rfl⟩
   ·clear hj
    have h := h'
    clear h' H
    rintro e a w ⟨rfl, ρ, σ63, rfl, rfl, H⟩
    refine q_then ?_
    refine cd_cond o57 rfl (fun hb64 => ?_) (fun hb64 => ?_)
    ·replace h := bif_t hb64 h
     refine c_seq ?_
     refine rg ?_
     refine st (v := (B false)) (rv_assign rfl) ?_
     refine w_end ?_
     refine q_then ?_
     refine c_ret ?_
     refine q_then_r ?_
     obtain rfl := Option.some.inj h
     exact fin_ret (v := (B false)) (results_ok Try.results9 (res_tmp (v := (B false)) rfl res_nil) rfl) ⟨rfl, rfl⟩ (H.sel' [] rfl rfl)
    ·replace h := bif_f hb64 h
     refine c_skip ?_
     refine q_then ?_
     refine c_seq ?_
     refine c_seq ?_
     refine rg ?_
     refine st (v := (Sl a36 r33 c37)) (rv_move rfl) ?_
     refine st (v := (Sl aaList_0 aList_0 caList_0)) (rv_move rfl) ?_
     obtain ⟨r65, hx66, h'⟩ := bind_some h
     clear h
     have h := h'; clear h'
     have hc67 := c_laws_toItemS (aa_0 := aaList_0) (ca_0 := caList_0) hx66
     refine st_call (cx_call hc67 (ent_f hc67.fn rfl) hn0 (show Hp S0 σ0 _ ([Ch.ro 0 (Sl aaList_0 aList_0 caList_0) aList_0] ++ [Ch.ro 0 (Sl aaList_0 aList_0 caList_0) aList_0, Ch.ro 0 (Sl aaLog_1 aLog_1 caLog_1) aLog_1, Ch.own n0 n0 (Sl a30 r27.1 c31) r27.1, Ch.big K38, Ch.big K46, Ch.big K54]) from (H.sel' [0, 0, 1, 2, 3, 4, 5] rfl rfl))) wn ?_
     rintro _ σ72 ⟨_, ⟨a68, c69, K70, rfl, rfl, hK71⟩, H, -⟩
     replace H : Hp S0 σ0 σ72 [Ch.big K70, Ch.ro 0 (Sl aaList_0 aList_0 caList_0) aList_0, Ch.ro 0 (Sl aaLog_1 aLog_1 caLog_1) aLog_1, Ch.own n0 n0 (Sl a30 r27.1 c31) r27.1, Ch.big K38, Ch.big K46, Ch.big K54] := H
     obtain ⟨r73, hx74, h'⟩ := bind_some h
     clear h
     have h := h'; clear h'
     have hc75 := c_laws_eqItemS (aa_0 := a36) (ca_0 := c37) (ab_1 := a68) (cb_1 := c69) hx74
     have hle := Nat.le_trans hn0 H.size
     refine st_call (cx_lend (Loan.lendB hK39.lends (Loan.lendB hK71.lends Loan.nil)) hc75 (ent_f hc75.fn rfl) (show Hp S0 σ0 _ ([Ch.big K38, Ch.big K70] ++ ([] ++ [Ch.ro 0 (Sl aaList_0 aList_0 caList_0) aList_0, Ch.ro 0 (Sl aaLog_1 aLog_1 caLog_1) aLog_1, Ch.own n0 n0 (Sl a30 r27.1 c31) r27.1, Ch.big K46, Ch.big K54])) from (H.sel' [4, 0, 1, 2, 3, 5, 6] rfl rfl)) (by rintro _ _ _ ⟨rfl, rfl⟩; exact trivial)) wn ?_
     rintro _ σ76 ⟨_, ⟨rfl, rfl⟩, H, -, -⟩
     replace H : Hp S0 σ0 σ76 [Ch.big K38, Ch.big K70, Ch.ro 0 (Sl aaList_0 aList_0 caList_0) aList_0, Ch.ro 0 (Sl aaLog_1 aLog_1 caLog_1) aLog_1, Ch.own n0 n0 (Sl a30 r27.1 c31) r27.1, Ch.big K46, Ch.big K54] := H
     clear hle
     replace H : Hp S0 σ0 σ76 [Ch.big K38, Ch.big K70, Ch.ro 0 (Sl aaList_0 aList_0 caList_0) aList_0, Ch.ro 0 (Sl aaLog_1 aLog_1 caLog_1) aLog_1, Ch.own n0 n0 (Sl a30 r27.1 c31) r27.1, Ch.big K46, Ch.big K54] := H
     refine st (v := (B (!r73))) (rv_not rfl) ?_
     refine w_end ?_
     refine q_then ?_
     refine cd_cond (!r73) rfl (fun hb77 => ?_) (fun hb77 => ?_)
     ·replace h := bif_t hb77 h
      refine c_seq ?_
      refine rg ?_
      refine st (v := (B false)) (rv_assign rfl) ?_
      refine w_end ?_
      refine q_then ?_
      refine c_ret ?_
      refine q_then_r ?_
      obtain rfl := Option.some.inj h
      exact fin_ret (v := (B false)) (results_ok Try.results9 (res_tmp (v := (B false)) rfl res_nil) rfl) ⟨rfl, rfl⟩ (H.sel' [] rfl rfl)
     ·replace h := bif_f hb77 h
      refine c_skip ?_
      refine q_then ?_
      refine c_seq ?_
      refine c_seq ?_
      refine rg ?_
      refine st (v := (Sl a44 r41 c45)) (rv_move rfl) ?_
      refine st (v := (Sl aaLog_1 aLog_1 caLog_1)) (rv_move rfl) ?_
      obtain ⟨r78, hx79, h'⟩ := bind_some h
      clear h
      have h := h'; clear h'
      have hc80 := c_laws_toEntryS (aa_0 := aaLog_1) (ca_0 := caLog_1) hx79
      refine st_call (cx_call hc80 (ent_f hc80.fn rfl) hn0 (show Hp S0 σ0 _ ([Ch.ro 0 (Sl aaLog_1 aLog_1 caLog_1) aLog_1] ++ [Ch.big K38, Ch.big K70, Ch.ro 0 (Sl aaList_0 aList_0 caList_0) aList_0, Ch.ro 0 (Sl aaLog_1 aLog_1 caLog_1) aLog_1, Ch.own n0 n0 (Sl a30 r27.1 c31) r27.1, Ch.big K46, Ch.big K54]) from (H.sel' [3, 0, 1, 2, 3, 4, 5, 6] rfl rfl))) wn ?_
      rintro _ σ85 ⟨_, ⟨a81, c82, K83, rfl, rfl, hK84⟩, H, -⟩
      replace H : Hp S0 σ0 σ85 [Ch.big K83, Ch.big K38, Ch.big K70, Ch.ro 0 (Sl aaList_0 aList_0 caList_0) aList_0, Ch.ro 0 (Sl aaLog_1 aLog_1 caLog_1) aLog_1, Ch.own n0 n0 (Sl a30 r27.1 c31) r27.1, Ch.big K46, Ch.big K54] := H
      replace H : Hp S0 σ0 σ85 [Ch.big K83, Ch.big K38, Ch.ro 0 (Sl aaList_0 aList_0 caList_0) aList_0, Ch.ro 0 (Sl aaLog_1 aLog_1 caLog_1) aLog_1, Ch.own n0 n0 (Sl a30 r27.1 c31) r27.1, Ch.big K46, Ch.big K54] := H.sel' [0, 1, 3, 4, 5, 6, 7] rfl rfl
      obtain ⟨r86, hx87, h'⟩ := bind_some h
      clear h
      have h := h'; clear h'
      have hc88 := c_laws_eqEntryS (aa_0 := a44) (ca_0 := c45) (ab_1 := a81) (cb_1 := c82) hx87
      have hle := Nat.le_trans hn0 H.size
      refine st_call (cx_lend (Loan.lendB hK47.lends (Loan.lendB hK84.lends Loan.nil)) hc88 (ent_f hc88.fn rfl) (show Hp S0 σ0 _ ([Ch.big K46, Ch.big K83] ++ ([] ++ [Ch.big K38, Ch.ro 0 (Sl aaList_0 aList_0 caList_0) aList_0, Ch.ro 0 (Sl aaLog_1 aLog_1 caLog_1) aLog_1, Ch.own n0 n0 (Sl a30 r27.1 c31) r27.1, Ch.big K54])) from (H.sel' [5, 0, 1, 2, 3, 4, 6] rfl rfl)) (by rintro _ _ _ ⟨rfl, rfl⟩; exact trivial)) wn ?_
      rintro _ σ89 ⟨_, ⟨rfl, rfl⟩, H, -, -⟩
      replace H : Hp S0 σ0 σ89 [Ch.big K46, Ch.big K83, Ch.big K38, Ch.ro 0 (Sl aaList_0 aList_0 caList_0) aList_0, Ch.ro 0 (Sl aaLog_1 aLog_1 caLog_1) aLog_1, Ch.own n0 n0 (Sl a30 r27.1 c31) r27.1, Ch.big K54] := H
      clear hle
      replace H : Hp S0 σ0 σ89 [Ch.big K46, Ch.big K83, Ch.big K38, Ch.ro 0 (Sl aaList_0 aList_0 caList_0) aList_0, Ch.ro 0 (Sl aaLog_1 aLog_1 caLog_1) aLog_1, Ch.own n0 n0 (Sl a30 r27.1 c31) r27.1, Ch.big K54] := H
      refine st (v := (B (!r86))) (rv_not rfl) ?_
      refine w_end ?_
      refine q_then ?_
      refine cd_cond (!r86) rfl (fun hb90 => ?_) (fun hb90 => ?_)
      ·replace h := bif_t hb90 h
       refine c_seq ?_
       refine rg ?_
       refine st (v := (B false)) (rv_assign rfl) ?_
       refine w_end ?_
       refine q_then ?_
       refine c_ret ?_
       refine q_then_r ?_
       obtain rfl := Option.some.inj h
       exact fin_ret (v := (B false)) (results_ok Try.results9 (res_tmp (v := (B false)) rfl res_nil) rfl) ⟨rfl, rfl⟩ (H.sel' [] rfl rfl)
      ·replace h := bif_f hb90 h
       refine c_skip ?_
       refine q_then ?_
       refine c_seq ?_
       refine rg ?_
       refine st (v := (I 1)) (rv_assign rfl) ?_
       refine w_end ?_
       refine q_then ?_
       refine c_seq ?_
       refine rg ?_
       refine st (v := (Sl a36 r33 c37)) (rv_move rfl) ?_
       refine st (v := (I 1)) (rv_move rfl) ?_
       obtain ⟨r91, hx92, h'⟩ := bind_some h
       clear h
       have h := h'; clear h'
       have hc93 := c_laws_markItemS (aa_0 := a36) (ca_0 := c37) (hK := hK39) hx92
       refine st_call (cx_call hc93 (ent_f hc93.fn rfl) hn0 (show Hp S0 σ0 _ ([Ch.big K38] ++ [Ch.big K46, Ch.big K83, Ch.ro 0 (Sl aaList_0 aList_0 caList_0) aList_0, Ch.ro 0 (Sl aaLog_1 aLog_1 caLog_1) aLog_1, Ch.own n0 n0 (Sl a30 r27.1 c31) r27.1, Ch.big K54]) from (H.sel' [2, 0, 1, 3, 4, 5, 6] rfl rfl))) wn ?_
       rintro _ σ95 ⟨_, ⟨rfl, rfl, hn94⟩, H, -⟩
       replace H : Hp S0 σ0 σ95 [Ch.ro 0 (Sl a36 r91.2 c37) r91.2, Ch.big K46, Ch.big K83, Ch.ro 0 (Sl aaList_0 aList_0 caList_0) aList_0, Ch.ro 0 (Sl aaLog_1 aLog_1 caLog_1) aLog_1, Ch.own n0 n0 (Sl a30 r27.1 c31) r27.1, Ch.big K54] := H
       have hsl : (Sl a36 r33 c37) = (Sl a36 r91.2 c37) := sl_len hn94.symm
       try rw [hsl]
       try rw [hsl] at H
       clear hsl
       refine st (v := (I r91.1)) (rv_assign rfl) ?_
       refine w_end ?_
       refine q_then ?_
       refine c_seq ?_
       refine rg ?_
       refine st (v := (Sl a44 r41 c45)) (rv_move rfl) ?_
       refine st (v := (I r91.1)) (rv_move rfl) ?_
       obtain ⟨r96, hx97, h'⟩ := bind_some h
       clear h
       have h := h'; clear h'
       have hc98 := c_laws_markEntryS (aa_0 := a44) (ca_0 := c45) (hK := hK47) hx97
       refine st_call (cx_call hc98 (ent_f hc98.fn rfl) hn0 (show Hp S0 σ0 _ ([Ch.big K46] ++ [Ch.ro 0 (Sl a36 r91.2 c37) r91.2, Ch.big K83, Ch.ro 0 (Sl aaList_0 aList_0 caList_0) aList_0, Ch.ro 0 (Sl aaLog_1 aLog_1 caLog_1) aLog_1, Ch.own n0 n0 (Sl a30 r27.1 c31) r27.1, Ch.big K54]) from (H.sel' [1, 0, 2, 3, 4, 5, 6] rfl rfl))) wn ?_
       rintro _ σ99 ⟨_, ⟨rfl, rfl⟩, H, -⟩
       replace H : Hp S0 σ0 σ99 [Ch.ro 0 (Sl a36 r91.2 c37) r91.2, Ch.big K83, Ch.ro 0 (Sl aaList_0 aList_0 caList_0) aList_0, Ch.ro 0 (Sl aaLog_1 aLog_1 caLog_1) aLog_1, Ch.own n0 n0 (Sl a30 r27.1 c31) r27.1, Ch.big K54] := H
       refine st (v := (I r96)) (rv_assign rfl) ?_
       refine w_end ?_
       refine q_then ?_
       refine c_seq ?_
       refine c_seq ?_
       obtain ⟨o100, hj, h'⟩ := bind_some h
       clear h
       refine c_cut (fun e a w => e = .normal ∧ ∃ (ρ : Nat → Value) (σ : St), a = fr 119 (updL ρ [(0, (Sl aaList_0 aList_0 caList_0)), (1, (Sl aaLog_1 aLog_1 caLog_1)), (6, (Sl a30 r27.1 c31)), (7, (I r27.2)), (10, (Sl a52 r49.1 c53)), (82, (B o100))]) ∧ w = σ.w ∧ Hp S0 σ0 σ [Ch.ro 0 (Sl aaList_0 aList_0 caList_0) aList_0, Ch.ro 0 (Sl aaLog_1 aLog_1 caLog_1) aLog_1, Ch.own n0 n0 (Sl a30 r27.1 c31) r27.1, Ch.big K54]) ?_ ?_
       ·clear h'
        rename _ = some o100 => h
        refine rg ?_
        refine st (v := (I r96)) (rv_move rfl) ?_
        refine st (v := (B (decide (r96 < 0)))) (rv_lss (a := r96) (b := 0) rfl rfl) ?_
        refine st (v := (B (decide (r96 < 0)))) (rv_move rfl) ?_
        rcases Bool.eq_false_or_eq_true (decide (r96 < 0)) with hb101 | hb101
        ·replace h := bif_t hb101 h
         refine st_skip (congrArg some hb101) ?_
         refine st_skip (congrArg some hb101) ?_
         refine st_skip (congrArg some hb101) ?_
         refine st_skip (congrArg some hb101) ?_
         refine st (v := (B true)) (rv_pick_t (congrArg B hb101) rfl) ?_
         refine st (v := (B true)) (rv_move rfl) ?_
         refine st_skip rfl ?_
         refine st_skip rfl ?_
         refine st_skip rfl ?_
         refine st (v := (B true)) (rv_pick_t rfl rfl) ?_
         refine w_end ?_
         obtain rfl := Option.some.inj h
         exact ⟨rfl, _, σ99, fr_join ⟨rfl, rfl, rfl, rfl, rfl, rfl, trivial⟩, rfl, H.sel' [2, 3, 4, 5] rfl rfl⟩
        ·replace h := bif_f hb101 h
         refine st_g (v := (Sl a52 r49.1 c53)) (congrArg some hb101) (rv_move rfl) ?_
         refine st_g (v := (Sl a30 r27.1 c31)) (congrArg some hb101) (rv_move rfl) ?_
         obtain ⟨r102, hx103, h'⟩ := bind_some h
         clear h
         have h := h'; clear h'
         have hc104 := c_laws_eqItemS (aa_0 := a52) (ca_0 := c53) (ab_1 := a30) (cb_1 := c31) hx103
         have hle := Nat.le_trans hn0 H.size
         refine st_call (cx_lend (Loan.lendB hK55.lends (Loan.lend Loan.nil)) hc104 (ent_f hc104.fn rfl) (show Hp S0 σ0 _ ([Ch.big K54, Ch.own n0 n0 (Sl a30 r27.1 c31) r27.1] ++ ([] ++ [Ch.ro 0 (Sl a36 r91.2 c37) r91.2, Ch.big K83, Ch.ro 0 (Sl aaList_0 aList_0 caList_0) aList_0, Ch.ro 0 (Sl aaLog_1 aLog_1 caLog_1) aLog_1])) from (H.sel' [5, 4, 0, 1, 2, 3] rfl rfl)) (by rintro _ _ _ ⟨rfl, rfl⟩; exact trivial)) (wanted_yes rfl (by exact (congrArg some hb101))) ?_
         rintro _ σ105 ⟨_, ⟨rfl, rfl⟩, H, -, -⟩
         replace H : Hp S0 σ0 σ105 [Ch.big K54, Ch.own n0 n0 (Sl a30 r27.1 c31) r27.1, Ch.ro 0 (Sl a36 r91.2 c37) r91.2, Ch.big K83, Ch.ro 0 (Sl aaList_0 aList_0 caList_0) aList_0, Ch.ro 0 (Sl aaLog_1 aLog_1 caLog_1) aLog_1] := H
         clear hle
         replace H : Hp S0 σ0 σ105 [Ch.big K54, Ch.own n0 n0 (Sl a30 r27.1 c31) r27.1, Ch.ro 0 (Sl a36 r91.2 c37) r91.2, Ch.big K83, Ch.ro 0 (Sl aaList_0 aList_0 caList_0) aList_0, Ch.ro 0 (Sl aaLog_1 aLog_1 caLog_1) aLog_1] := H
         refine st_g (v := (B (!r102))) (congrArg some hb101) (rv_not rfl) ?_
         refine st (v := (B (!r102))) (rv_pick_f (congrArg B hb101) rfl) ?_
         refine st (v := (B (!r102))) (rv_move rfl) ?_
         rcases Bool.eq_false_or_eq_true (!r102) with hb106 | hb106
         ·replace h := bif_t hb106 h
          refine st_skip (congrArg some hb106) ?_
          refine st_skip (congrArg some hb106) ?_
          refine st_skip (congrArg some hb106) ?_
          refine st (v := (B true)) (rv_pick_t (congrArg B hb106) rfl) ?_
          refine w_end ?_
          obtain rfl := Option.some.inj h
          exact ⟨rfl, _, σ105, fr_join ⟨rfl, rfl, rfl, rfl, rfl, rfl, trivial⟩, rfl, H.sel' [4, 5, 1, 0] rfl rfl⟩
         ·replace h := bif_f hb106 h
          refine st_g (v := (I r49.2)) (congrArg some hb106) (rv_move rfl) ?_
          refine st_g (v := (I r27.2)) (congrArg some hb106) (rv_move rfl) ?_
          refine st_g (v := (B (r49.2 != r27.2))) (congrArg some hb106) (rv_neq (a := r49.2) (b := r27.2) rfl rfl) ?_
          refine st (v := (B (r49.2 != r27.2))) (rv_pick_f (congrArg B hb106) rfl) ?_
          refine w_end ?_
          obtain rfl := Option.some.inj h
          exact ⟨rfl, _, σ105, fr_join ⟨rfl, rfl, rfl, rfl, rfl, rfl, trivial⟩, rfl, H.sel' [4, 5, 1, 0] rfl rfl⟩
       ·clear hj
        have h := h'
        clear h' H
        rintro e a w ⟨rfl, ρ, σ107, rfl, rfl, H⟩
        refine q_then ?_
        refine cd_cond o100 rfl (fun hb108 => ?_) (fun hb108 => ?_)
        ·replace h := bif_t hb108 h
         refine c_seq ?_
         refine rg ?_
         refine st (v := (B false)) (rv_assign rfl) ?_
         refine w_end ?_
         refine q_then ?_
         refine c_ret ?_
         refine q_then_r ?_
         obtain rfl := Option.some.inj h
         exact fin_ret (v := (B false)) (results_ok Try.results9 (res_tmp (v := (B false)) rfl res_nil) rfl) ⟨rfl, rfl⟩ (H.sel' [] rfl rfl)
        ·replace h := bif_f hb108 h
         refine c_skip ?_
         refine q_then ?_
         refine c_seq ?_
         refine rg ?_
         refine st (v := (I 1)) (rv_assign rfl) ?_
         refine w_end ?_
         refine q_then ?_
         refine c_seq ?_
         refine rg ?_
         refine st (v := (Sl a52 r49.1 c53)) (rv_move rfl) ?_
         refine st (v := (I 1)) (rv_move rfl) ?_
         obtain ⟨r109, hx110, h'⟩ := bind_some h
         clear h
         have h := h'; clear h'
         have hc111 := c_laws_markItemS (aa_0 := a52) (ca_0 := c53) (hK := hK55) hx110
         refine st_call (cx_call hc111 (ent_f hc111.fn rfl) hn0 (show Hp S0 σ0 _ ([Ch.big K54] ++ [Ch.ro 0 (Sl aaList_0 aList_0 caList_0) aList_0, Ch.ro 0 (Sl aaLog_1 aLog_1 caLog_1) aLog_1, Ch.own n0 n0 (Sl a30 r27.1 c31) r27.1]) from (H.sel' [3, 0, 1, 2] rfl rfl))) wn ?_
         rintro _ σ113 ⟨_, ⟨rfl, rfl, hn112⟩, H, -⟩
         replace H : Hp S0 σ0 σ113 [Ch.ro 0 (Sl a52 r109.2 c53) r109.2, Ch.ro 0 (Sl aaList_0 aList_0 caList_0) aList_0, Ch.ro 0 (Sl aaLog_1 aLog_1 caLog_1) aLog_1, Ch.own n0 n0 (Sl a30 r27.1 c31) r27.1] := H
         have hsl : (Sl a52 r49.1 c53) = (Sl a52 r109.2 c53) := sl_len hn112.symm
         try rw [hsl]
         try rw [hsl] at H
         clear hsl
         refine st (v := (I r109.1)) (rv_assign rfl) ?_
         refine w_end ?_
         refine q_then ?_
         refine c_seq ?_
         refine rg ?_
         refine st (v := (I 1)) (rv_assign rfl) ?_
         refine w_end ?_
         refine q_then ?_
         refine c_seq ?_
         refine rg ?_
         refine st (v := (Sl a52 r109.2 c53)) (rv_move rfl) ?_
         refine st (v := (I 1)) (rv_move rfl) ?_
         obtain ⟨r114, hx115, h'⟩ := bind_some h
         clear h
         have h := h'; clear h'
         have hc116 := c_laws_heldItemS (aa_0 := a52) (ca_0 := c53) hx115
         refine st_call (cx_call hc116 (ent_f hc116.fn rfl) hn0 (show Hp S0 σ0 _ ([Ch.ro 0 (Sl a52 r109.2 c53) r109.2] ++ [Ch.ro 0 (Sl a52 r109.2 c53) r109.2, Ch.ro 0 (Sl aaList_0 aList_0 caList_0) aList_0, Ch.ro 0 (Sl aaLog_1 aLog_1 caLog_1) aLog_1, Ch.own n0 n0 (Sl a30 r27.1 c31) r27.1]) from (H.sel' [0, 0, 1, 2, 3] rfl rfl))) wn ?_
         rintro _ σ117 ⟨_, ⟨rfl, rfl⟩, H, -⟩
         replace H : Hp S0 σ0 σ117 [Ch.ro 0 (Sl a52 r109.2 c53) r109.2, Ch.ro 0 (Sl aaList_0 aList_0 caList_0) aList_0, Ch.ro 0 (Sl aaLog_1 aLog_1 caLog_1) aLog_1, Ch.own n0 n0 (Sl a30 r27.1 c31) r27.1] := H
         refine st (v := (I r114)) (rv_assign rfl) ?_
         refine w_end ?_
         refine q_then ?_
         refine c_seq ?_
         refine c_seq ?_
         refine rg ?_
         refine st (v := (I r114)) (rv_move rfl) ?_
         refine st (v := (B (decide (r114 < 0)))) (rv_lss (a := r114) (b := 0) rfl rfl) ?_
         refine w_end ?_
         refine q_then ?_
         refine cd_cond (decide (r114 < 0)) rfl (fun hb118 => ?_) (fun hb118 => ?_)
         ·replace h := bif_t hb118 h
          refine c_seq ?_
          refine rg ?_
          refine st (v := (B false)) (rv_assign rfl) ?_
          refine w_end ?_
          refine q_then ?_
          refine c_ret ?_
          refine q_then_r ?_
          obtain rfl := Option.some.inj h
          exact fin_ret (v := (B false)) (results_ok Try.results9 (res_tmp (v := (B false)) rfl res_nil) rfl) ⟨rfl, rfl⟩ (H.sel' [] rfl rfl)
         ·replace h := bif_f hb118 h
          refine c_skip ?_
          refine q_then ?_
          refine c_seq ?_
          refine c_seq ?_
          refine rg ?_
          refine st (v := (I r114)) (rv_move rfl) ?_
          refine st (v := (I r109.1)) (rv_move rfl) ?_
          refine st (v := (B (r114 != r109.1))) (rv_neq (a := r114) (b := r109.1) rfl rfl) ?_
          refine w_end ?_
          refine q_then ?_
          refine cd_cond (r114 != r109.1) rfl (fun hb119 => ?_) (fun hb119 => ?_)
          ·replace h := bif_t hb119 h
           refine c_seq ?_
           refine rg ?_
           refine st (v := (B false)) (rv_assign rfl) ?_
           refine w_end ?_
           refine q_then ?_
           refine c_ret ?_
           refine q_then_r ?_
           obtain rfl := Option.some.inj h
           exact fin_ret (v := (B false)) (results_ok Try.results9 (res_tmp (v := (B false)) rfl res_nil) rfl) ⟨rfl, rfl⟩ (H.sel' [] rfl rfl)
          ·replace h := bif_f hb119 h
           refine c_skip ?_
           refine q_then ?_
           refine c_seq ?_
           refine rg ?_
           refine st (v := (Sl aaList_0 aList_0 caList_0)) (rv_move rfl) ?_
           obtain ⟨r120, hx121, h'⟩ := bind_some h
           clear h
           have h := h'; clear h'
           have hc122 := c_laws_toItemS (aa_0 := aaList_0) (ca_0 := caList_0) hx121
           refine st_call (cx_call hc122 (ent_f hc122.fn rfl) hn0 (show Hp S0 σ0 _ ([Ch.ro 0 (Sl aaList_0 aList_0 caList_0) aList_0] ++ [Ch.ro 0 (Sl a52 r109.2 c53) r109.2, Ch.ro 0 (Sl aaList_0 aList_0 caList_0) aList_0, Ch.ro 0 (Sl aaLog_1 aLog_1 caLog_1) aLog_1, Ch.own n0 n0 (Sl a30 r27.1 c31) r27.1]) from (H.sel' [1, 0, 1, 2, 3] rfl rfl))) wn ?_
           rintro _ σ127 ⟨_, ⟨a123, c124, K125, rfl, rfl, hK126⟩, H, -⟩
           replace H : Hp S0 σ0 σ127 [Ch.big K125, Ch.ro 0 (Sl a52 r109.2 c53) r109.2, Ch.ro 0 (Sl aaList_0 aList_0 caList_0) aList_0, Ch.ro 0 (Sl aaLog_1 aLog_1 caLog_1) aLog_1, Ch.own n0 n0 (Sl a30 r27.1 c31) r27.1] := H
           refine st (v := (Sl aaLog_1 aLog_1 caLog_1)) (rv_move rfl) ?_
           obtain ⟨r128, hx129, h'⟩ := bind_some h
           clear h
           have h := h'; clear h'
           have hc130 := c_laws_toEntryS (aa_0 := aaLog_1) (ca_0 := caLog_1) hx129
           refine st_call (cx_call hc130 (ent_f hc130.fn rfl) hn0 (show Hp S0 σ0 _ ([Ch.ro 0 (Sl aaLog_1 aLog_1 caLog_1) aLog_1] ++ [Ch.big K125, Ch.ro 0 (Sl a52 r109.2 c53) r109.2, Ch.ro 0 (Sl aaList_0 aList_0 caList_0) aList_0, Ch.ro 0 (Sl aaLog_1 aLog_1 caLog_1) aLog_1, Ch.own n0 n0 (Sl a30 r27.1 c31) r27.1]) from (H.sel' [3, 0, 1, 2, 3, 4] rfl rfl))) wn ?_
           rintro _ σ135 ⟨_, ⟨a131, c132, K133, rfl, rfl, hK134⟩, H, -⟩
           replace H : Hp S0 σ0 σ135 [Ch.big K133, Ch.big K125, Ch.ro 0 (Sl a52 r109.2 c53) r109.2, Ch.ro 0 (Sl aaList_0 aList_0 caList_0) aList_0, Ch.ro 0 (Sl aaLog_1 aLog_1 caLog_1) aLog_1, Ch.own n0 n0 (Sl a30 r27.1 c31) r27.1] := H
           obtain ⟨r136, hx137, h'⟩ := bind_some h
           clear h
           have h := h'; clear h'
           have hc138 := c_impl_ReplayLogD (alist_0 := a123) (clist_0 := c124) (alog_1 := a131) (clog_1 := c132) hx137
           have hle := Nat.le_trans hn0 H.size
           refine st_call (cx_lend (Loan.lendB hK126.lends (Loan.lendB hK134.lends Loan.nil)) hc138 (ent_f hc138.fn rfl) (show Hp S0 σ0 _ ([Ch.big K125, Ch.big K133] ++ ([] ++ [Ch.ro 0 (Sl a52 r109.2 c53) r109.2, Ch.ro 0 (Sl aaList_0 aList_0 caList_0) aList_0, Ch.ro 0 (Sl aaLog_1 aLog_1 caLog_1) aLog_1, Ch.own n0 n0 (Sl a30 r27.1 c31) r27.1])) from (H.sel' [1, 0, 2, 3, 4, 5] rfl rfl)) (by rintro _ _ _ ⟨_, _, _, rfl, rfl, hK142⟩; exact ⟨Dp.abSc hK142, trivial⟩)) wn ?_
           rintro _ σ143 ⟨_, ⟨a139, c140, K141, rfl, rfl, hK142⟩, H, -, -⟩
           replace H : Hp S0 σ0 σ143 [Ch.big K141, Ch.big K125, Ch.big K133, Ch.ro 0 (Sl a52 r109.2 c53) r109.2, Ch.ro 0 (Sl aaList_0 aList_0 caList_0) aList_0, Ch.ro 0 (Sl aaLog_1 aLog_1 caLog_1) aLog_1, Ch.own n0 n0 (Sl a30 r27.1 c31) r27.1] := H
           clear hle
           replace H : Hp S0 σ0 σ143 [Ch.big K141, Ch.big K125, Ch.big K133, Ch.ro 0 (Sl a52 r109.2 c53) r109.2, Ch.ro 0 (Sl aaList_0 aList_0 caList_0) aList_0, Ch.ro 0 (Sl aaLog_1 aLog_1 caLog_1) aLog_1, Ch.own n0 n0 (Sl a30 r27.1 c31) r27.1] := H
           refine st (v := (.tuple #[(Sl a139 r136.1 c140), (I r136.2)])) (rv_move rfl) ?_
           refine st (v := (Sl a139 r136.1 c140)) (rv_extract rfl rfl) ?_
           refine st (v := (I r136.2)) (rv_extract rfl rfl) ?_
           refine st (v := (Sl a139 r136.1 c140)) (rv_assign rfl) ?_
           refine st (v := (I r136.2)) (rv_assign rfl) ?_
           refine w_end ?_
           refine q_then ?_
           refine c_seq ?_
           refine c_seq ?_
           obtain ⟨o144, hj, h'⟩ := bind_some h
           clear h
           refine c_cut (fun e a w => e = .normal ∧ ∃ (ρ : Nat → Value) (σ : St), a = fr 119 (updL ρ [(10, (Sl a52 r109.2 c53)), (13, (I r109.1)), (110, (B o144))]) ∧ w = σ.w ∧ Hp S0 σ0 σ [Ch.ro 0 (Sl a52 r109.2 c53) r109.2]) ?_ ?_
           ·clear h'
            rename _ = some o144 => h
            refine rg ?_
            refine st (v := (Sl a139 r136.1 c140)) (rv_move rfl) ?_
            refine st (v := (Sl a30 r27.1 c31)) (rv_move rfl) ?_
            obtain ⟨σ145, hw146, H, -⟩ := H.pub 6 rfl (Nat.le_refl _)
            rw [← hw146]; clear hw146
            replace H := H.roLow 0 0 rfl (Nat.zero_le _)
            obtain ⟨r147, hx148, h'⟩ := bind_some h
            clear h
            have h := h'; clear h'
            have hc149 := c_laws_eqItemS (aa_0 := a139) (ca_0 := c140) (ab_1 := a30) (cb_1 := c31) hx148
            have hle := Nat.le_trans hn0 H.size
            refine st_call (cx_lend (Loan.lendB hK142.lends (Loan.same Loan.nil)) hc149 (ent_f hc149.fn rfl) (show Hp S0 σ0 _ ([Ch.big K141] ++ ([Ch.ro 0 (Sl a30 r27.1 c31) r27.1] ++ [Ch.ro 0 (Sl a30 r27.1 c31) r27.1, Ch.ro n0 (Sl a30 r27.1 c31) r27.1, Ch.big K125, Ch.big K133, Ch.ro 0 (Sl a52 r109.2 c53) r109.2, Ch.ro 0 (Sl aaList_0 aList_0 caList_0) aList_0, Ch.ro 0 (Sl aaLog_1 aLog_1 caLog_1) aLog_1])) from (H.sel' [2, 0, 0, 1, 3, 4, 5, 6, 7] rfl rfl)) (by rintro _ _ _ ⟨rfl, rfl⟩; exact trivial)) wn ?_
            rintro _ σ150 ⟨_, ⟨rfl, rfl⟩, H, -, -⟩
            replace H : Hp S0 σ0 σ150 [Ch.big K141, Ch.ro 0 (Sl a30 r27.1 c31) r27.1, Ch.ro n0 (Sl a30 r27.1 c31) r27.1, Ch.big K125, Ch.big K133, Ch.ro 0 (Sl a52 r109.2 c53) r109.2, Ch.ro 0 (Sl aaList_0 aList_0 caList_0) aList_0, Ch.ro 0 (Sl aaLog_1 aLog_1 caLog_1) aLog_1] := H
            clear hle
            replace H : Hp S0 σ0 σ150 [Ch.big K141, Ch.ro 0 (Sl a30 r27.1 c31) r27.1, Ch.ro n0 (Sl a30 r27.1 c31) r27.1, Ch.big K125, Ch.big K133, Ch.ro 0 (Sl a52 r109.2 c53) r109.2, Ch.ro 0 (Sl aaList_0 aList_0 caList_0) aList_0, Ch.ro 0 (Sl aaLog_1 aLog_1 caLog_1) aLog_1] := H
            replace H : Hp S0 σ0 σ150 [Ch.ro 0 (Sl a52 r109.2 c53) r109.2] := H.sel' [5] rfl rfl
            refine st (v := (B (!r147))) (rv_not rfl) ?_
            refine st (v := (B (!r147))) (rv_move rfl) ?_
            rcases Bool.eq_false_or_eq_true (!r147) with hb151 | hb151
            ·replace h := bif_t hb151 h
             refine st_skip (congrArg some hb151) ?_
             refine st_skip (congrArg some hb151) ?_
             refine st_skip (congrArg some hb151) ?_
             refine st (v := (B true)) (rv_pick_t (congrArg B hb151) rfl) ?_
             refine w_end ?_
             obtain rfl := Option.some.inj h
             exact ⟨rfl, _, σ150, fr_join ⟨rfl, rfl, rfl, trivial⟩, rfl, H.sel' [0] rfl rfl⟩
            ·replace h := bif_f hb151 h
             refine st_g (v := (I r136.2)) (congrArg some hb151) (rv_move rfl) ?_
             refine st_g (v := (I r27.2)) (congrArg some hb151) (rv_move rfl) ?_
             refine st_g (v := (B (r136.2 != r27.2))) (congrArg some hb151) (rv_neq (a := r136.2) (b := r27.2) rfl rfl) ?_
             refine st (v := (B (r136.2 != r27.2))) (rv_pick_f (congrArg B hb151) rfl) ?_
             refine w_end ?_
             obtain rfl := Option.some.inj h
             exact ⟨rfl, _, σ150, fr_join ⟨rfl, rfl, rfl, trivial⟩, rfl, H.sel' [0] rfl rfl⟩
           ·clear hj
            have h := h'
            clear h' H
            rintro e a w ⟨rfl, ρ, σ152, rfl, rfl, H⟩
            refine q_then ?_
            refine cd_cond o144 rfl (fun hb153 => ?_) (fun hb153 => ?_)
            ·replace h := bif_t hb153 h
             refine c_seq ?_
             refine rg ?_
             refine st (v := (B false)) (rv_assign rfl) ?_
             refine w_end ?_
             refine q_then ?_
             refine c_ret ?_
             refine q_then_r ?_
             obtain rfl := Option.some.inj h
             exact fin_ret (v := (B false)) (results_ok Try.results9 (res_tmp (v := (B false)) rfl res_nil) rfl) ⟨rfl, rfl⟩ (H.sel' [] rfl rfl)
            ·replace h := bif_f hb153 h
             refine c_skip ?_
             refine q_then ?_
             refine c_seq ?_
             refine rg ?_
             refine st (v := (I 1)) (rv_assign rfl) ?_
             refine w_end ?_
             refine q_then ?_
             refine c_seq ?_
             refine rg ?_
             refine st (v := (Sl a52 r109.2 c53)) (rv_move rfl) ?_
             refine st (v := (I 1)) (rv_move rfl) ?_
             obtain ⟨r154, hx155, h'⟩ := bind_some h
             clear h
             have h := h'; clear h'
             have hc156 := c_laws_heldItemS (aa_0 := a52) (ca_0 := c53) hx155
             refine st_call (cx_call hc156 (ent_f hc156.fn rfl) hn0 (show Hp S0 σ0 _ ([Ch.ro 0 (Sl a52 r109.2 c53) r109.2] ++ [Ch.ro 0 (Sl a52 r109.2 c53) r109.2]) from (H.sel' [0, 0] rfl rfl))) wn ?_
             rintro _ σ157 ⟨_, ⟨rfl, rfl⟩, H, -⟩
             replace H : Hp S0 σ0 σ157 [Ch.ro 0 (Sl a52 r109.2 c53) r109.2] := H
             refine st (v := (I r154)) (rv_assign rfl) ?_
             refine w_end ?_
             refine q_then ?_
             refine c_seq ?_
             refine c_seq ?_
             refine rg ?_
             refine st (v := (I r154)) (rv_move rfl) ?_
             refine st (v := (B (decide (r154 < 0)))) (rv_lss (a := r154) (b := 0) rfl rfl) ?_
             refine w_end ?_
             refine q_then ?_
             refine cd_cond (decide (r154 < 0)) rfl (fun hb158 => ?_) (fun hb158 => ?_)
             ·replace h := bif_t hb158 h
              refine c_seq ?_
              refine rg ?_
              refine st (v := (B false)) (rv_assign rfl) ?_
              refine w_end ?_
              refine q_then ?_
              refine c_ret ?_
              refine q_then_r ?_
              obtain rfl := Option.some.inj h
              exact fin_ret (v := (B false)) (results_ok Try.results9 (res_tmp (v := (B false)) rfl res_nil) rfl) ⟨rfl, rfl⟩ (H.sel' [] rfl rfl)
             ·replace h := bif_f hb158 h
              refine c_skip ?_
              refine q_then ?_
              refine c_seq ?_
              refine c_seq ?_
              refine rg ?_
              refine st (v := (I r154)) (rv_move rfl) ?_
              refine st (v := (I r109.1)) (rv_move rfl) ?_
              refine st (v := (B (r154 != r109.1))) (rv_neq (a := r154) (b := r109.1) rfl rfl) ?_
              refine w_end ?_
              refine q_then ?_
              refine cd_cond (r154 != r109.1) rfl (fun hb159 => ?_) (fun hb159 => ?_)
              ·replace h := bif_t hb159 h
               refine c_seq ?_
               refine rg ?_
               refine st (v := (B false)) (rv_assign rfl) ?_
               refine w_end ?_
               refine q_then ?_
               refine c_ret ?_
               refine q_then_r ?_
               obtain rfl := Option.some.inj h
               exact fin_ret (v := (B false)) (results_ok Try.results9 (res_tmp (v := (B false)) rfl res_nil) rfl) ⟨rfl, rfl⟩ (H.sel' [] rfl rfl)
              ·replace h := bif_f hb159 h
               refine c_skip ?_
               refine q_then ?_
               refine c_seq ?_
               refine rg ?_
               refine st (v := (B true)) (rv_assign rfl) ?_
               refine w_end ?_
               refine q_then ?_
               refine c_ret ?_
               obtain rfl := Option.some.inj h
               exact fin_ret (v := (B true)) (results_ok Try.results9 (res_tmp (v := (B true)) rfl res_nil) rfl) ⟨rfl, rfl⟩ (H.sel' [] rfl rfl)

end Go.Vs
