/- The functions compute what their models say. -/
import Derived.Test.YtdjjikmfkejdiaeKExactTreeVisitsC4
set_option linter.unusedVariables false
set_option linter.unusedSimpArgs false
set_option maxRecDepth 20000
namespace Go.Vs
open Go Go.Proofs
attribute [local irreducible] Code.wp Code.wpIn wpList wpListIn wpQuiet Calls CallsIn

theorem c_laws_FnExactTreeVisits {aList_0 : List (Int × (List Int) × Int)} {aKind_1 : Int} {aAt_2 : List Int} {aK_3 : Int} {aaList_0 : Option Addr} {caList_0 : Nat} {aaAt_2 : Option Addr} {caAt_2 : Nat} {r : Bool} (h : M.laws_FnExactTreeVisits aList_0 aKind_1 aAt_2 aK_3 = some r) :
    Cal2 Try.prog 6 [(Sl aaList_0 aList_0 caList_0), (I aKind_1), (Sl aaAt_2 aAt_2 caAt_2), (I aK_3)] [Ch.ro 0 (Sl aaList_0 aList_0 caList_0) aList_0, Ch.ro 0 (Sl aaAt_2 aAt_2 caAt_2) aAt_2] (fun n0 v L => v = (B r) ∧ L = []) := by
 refine cal2 (n := 51) Try.func6 rfl rfl rfl rfl ?_
 intro S0 σ0 n0 hn0 H
 unfold M.laws_FnExactTreeVisits at h
 refine c_seq ?_
 refine rg ?_
 refine st (v := (B false)) (rv_assign rfl) ?_
 refine w_end ?_
 refine q_then ?_
 refine c_seq ?_
 refine c_seq ?_
 refine rg ?_
 refine st (v := (Sl aaAt_2 aAt_2 caAt_2)) (rv_move rfl) ?_
 refine st (v := (I (aAt_2.length : Int))) (rv_len Try.underlying23 rfl) ?_
 refine st (v := (B (decide (1048576 < (aAt_2.length : Int))))) (rv_gtr (a := (aAt_2.length : Int)) (b := 1048576) rfl rfl) ?_
 refine w_end ?_
 refine q_then ?_
 refine cd_cond (decide (1048576 < (aAt_2.length : Int))) rfl (fun hb1 => ?_) (fun hb1 => ?_)
 ·replace h := bif_t hb1 h
  refine c_seq ?_
  refine rg ?_
  refine st (v := (B true)) (rv_assign rfl) ?_
  refine w_end ?_
  refine q_then ?_
  refine c_ret ?_
  refine q_then_r ?_
  obtain rfl := Option.some.inj h
  exact fin_ret (v := (B true)) (results_ok Try.results6 (res_tmp (v := (B true)) rfl res_nil) rfl) ⟨rfl, rfl⟩ (H.sel' [] rfl rfl)
 ·replace h := bif_f hb1 h
  refine c_skip ?_
  refine q_then ?_
  refine c_seq ?_
  refine rg ?_
  refine st (v := (I 1048576)) (rv_assign rfl) ?_
  refine w_end ?_
  refine q_then ?_
  refine c_seq ?_
  refine rg ?_
  refine st (v := (Sl aaList_0 aList_0 caList_0)) (rv_move rfl) ?_
  refine st (v := (I 1048576)) (rv_move rfl) ?_
  obtain ⟨r2, hx3, h'⟩ := bind_some h
  clear h
  have h := h'; clear h'
  have hc4 := c_laws_szItemS (aa_0 := aaList_0) (ca_0 := caList_0) hx3
  refine st_call (cx_call hc4 (ent_f hc4.fn rfl) hn0 (show Hp S0 σ0 _ ([Ch.ro 0 (Sl aaList_0 aList_0 caList_0) aList_0] ++ [Ch.ro 0 (Sl aaList_0 aList_0 caList_0) aList_0, Ch.ro 0 (Sl aaAt_2 aAt_2 caAt_2) aAt_2]) from (H.sel' [0, 0, 1] rfl rfl))) wn ?_
  rintro _ σ5 ⟨_, ⟨rfl, rfl⟩, H, -⟩
  replace H : Hp S0 σ0 σ5 [Ch.ro 0 (Sl aaList_0 aList_0 caList_0) aList_0, Ch.ro 0 (Sl aaAt_2 aAt_2 caAt_2) aAt_2] := H
  refine st (v := (I r2)) (rv_assign rfl) ?_
  refine w_end ?_
  refine q_then ?_
  refine c_seq ?_
  refine c_seq ?_
  refine rg ?_
  refine st (v := (I r2)) (rv_move rfl) ?_
  refine st (v := (B (decide (r2 < 0)))) (rv_lss (a := r2) (b := 0) rfl rfl) ?_
  refine w_end ?_
  refine q_then ?_
  refine cd_cond (decide (r2 < 0)) rfl (fun hb6 => ?_) (fun hb6 => ?_)
  ·replace h := bif_t hb6 h
   refine c_seq ?_
   refine rg ?_
   refine st (v := (B true)) (rv_assign rfl) ?_
   refine w_end ?_
   refine q_then ?_
   refine c_ret ?_
   refine q_then_r ?_
   obtain rfl := Option.some.inj h
   exact fin_ret (v := (B true)) (results_ok Try.results6 (res_tmp (v := (B true)) rfl res_nil) rfl) ⟨rfl, rfl⟩ (H.sel' [] rfl rfl)
  ·replace h := bif_f hb6 h
   refine c_skip ?_
   refine q_then ?_
   refine c_seq ?_
   refine rg ?_
   refine st (v := (Sl aaList_0 aList_0 caList_0)) (rv_move rfl) ?_
   obtain ⟨r7, hx8, h'⟩ := bind_some h
   clear h
   have h := h'; clear h'
   have hc9 := c_laws_toItemS (aa_0 := aaList_0) (ca_0 := caList_0) hx8
   refine st_call (cx_call hc9 (ent_f hc9.fn rfl) hn0 (show Hp S0 σ0 _ ([Ch.ro 0 (Sl aaList_0 aList_0 caList_0) aList_0] ++ [Ch.ro 0 (Sl aaList_0 aList_0 caList_0) aList_0, Ch.ro 0 (Sl aaAt_2 aAt_2 caAt_2) aAt_2]) from (H.sel' [0, 0, 1] rfl rfl))) wn ?_
   rintro _ σ13 ⟨_, ⟨a10, c11, rfl, rfl, ht12⟩, H, -⟩
   replace H : Hp S0 σ0 σ13 [Ch.own n0 n0 (Sl a10 r7 c11) r7, Ch.ro 0 (Sl aaList_0 aList_0 caList_0) aList_0, Ch.ro 0 (Sl aaAt_2 aAt_2 caAt_2) aAt_2] := H
   refine st (v := (I aKind_1)) (rv_move rfl) ?_
   refine st (v := (Sl aaAt_2 aAt_2 caAt_2)) (rv_move rfl) ?_
   obtain ⟨r14, hx15, h'⟩ := bind_some h
   clear h
   have h := h'; clear h'
   have hc16 := c_laws_toIntS (aa_0 := aaAt_2) (ca_0 := caAt_2) hx15
   refine st_call (cx_call hc16 (ent_f hc16.fn rfl) hn0 (show Hp S0 σ0 _ ([Ch.ro 0 (Sl aaAt_2 aAt_2 caAt_2) aAt_2] ++ [Ch.own n0 n0 (Sl a10 r7 c11) r7, Ch.ro 0 (Sl aaList_0 aList_0 caList_0) aList_0, Ch.ro 0 (Sl aaAt_2 aAt_2 caAt_2) aAt_2]) from (H.sel' [2, 0, 1, 2] rfl rfl))) wn ?_
   rintro _ σ20 ⟨_, ⟨a17, c18, rfl, rfl, ht19⟩, H, -⟩
   replace H : Hp S0 σ0 σ20 [Ch.own n0 n0 (Sl a17 r14 c18) r14, Ch.own n0 n0 (Sl a10 r7 c11) r7, Ch.ro 0 (Sl aaList_0 aList_0 caList_0) aList_0, Ch.ro 0 (Sl aaAt_2 aAt_2 caAt_2) aAt_2] := H
   refine st (v := (I aK_3)) (rv_move rfl) ?_
   obtain ⟨σ21, hw22, H, -⟩ := H.pub 1 rfl (Nat.le_refl _)
   rw [← hw22]; clear hw22
   obtain ⟨σ23, hw24, H, -⟩ := H.pub 1 rfl (Nat.le_refl _)
   rw [← hw24]; clear hw24
   replace H := H.roLow 1 0 rfl (Nat.zero_le _)
   replace H := H.roLow 1 0 rfl (Nat.zero_le _)
   obtain ⟨r25, hx26, h'⟩ := bind_some h
   clear h
   have h := h'; clear h'
   have hc27 := c_spec_TreeVisits (alist_0 := a10) (clist_0 := c11) (aat_2 := a17) (cat_2 := c18) hx26
   refine st_call (cx_call hc27 (ent_f hc27.fn rfl) hn0 (show Hp S0 σ0 _ ([Ch.ro 0 (Sl a10 r7 c11) r7, Ch.ro 0 (Sl a17 r14 c18) r14] ++ [Ch.ro 0 (Sl a17 r14 c18) r14, Ch.ro 0 (Sl a10 r7 c11) r7, Ch.ro n0 (Sl a17 r14 c18) r14, Ch.ro n0 (Sl a10 r7 c11) r7, Ch.ro 0 (Sl aaList_0 aList_0 caList_0) aList_0, Ch.ro 0 (Sl aaAt_2 aAt_2 caAt_2) aAt_2]) from (H.sel' [1, 0, 0, 1, 2, 3, 4, 5] rfl rfl))) wn ?_
   rintro _ σ28 ⟨_, ⟨rfl, rfl⟩, H, -⟩
   replace H : Hp S0 σ0 σ28 [Ch.ro 0 (Sl a17 r14 c18) r14, Ch.ro 0 (Sl a10 r7 c11) r7, Ch.ro n0 (Sl a17 r14 c18) r14, Ch.ro n0 (Sl a10 r7 c11) r7, Ch.ro 0 (Sl aaList_0 aList_0 caList_0) aList_0, Ch.ro 0 (Sl aaAt_2 aAt_2 caAt_2) aAt_2] := H
   refine st (v := (I r25)) (rv_assign rfl) ?_
   refine w_end ?_
   refine q_then ?_
   refine c_seq ?_
   refine rg ?_
   refine st (v := (Sl aaList_0 aList_0 caList_0)) (rv_move rfl) ?_
   obtain ⟨r29, hx30, h'⟩ := bind_some h
   clear h
   have h := h'; clear h'
   have hc31 := c_laws_toItemS (aa_0 := aaList_0) (ca_0 := caList_0) hx30
   refine st_call (cx_call hc31 (ent_f hc31.fn rfl) hn0 (show Hp S0 σ0 _ ([Ch.ro 0 (Sl aaList_0 aList_0 caList_0) aList_0] ++ [Ch.ro 0 (Sl a17 r14 c18) r14, Ch.ro 0 (Sl a10 r7 c11) r7, Ch.ro n0 (Sl a17 r14 c18) r14, Ch.ro n0 (Sl a10 r7 c11) r7, Ch.ro 0 (Sl aaList_0 aList_0 caList_0) aList_0, Ch.ro 0 (Sl aaAt_2 aAt_2 caAt_2) aAt_2]) from (H.sel' [4, 0, 1, 2, 3, 4, 5] rfl rfl))) wn ?_
   rintro _ σ35 ⟨_, ⟨a32, c33, rfl, rfl, ht34⟩, H, -⟩
   replace H : Hp S0 σ0 σ35 [Ch.own n0 n0 (Sl a32 r29 c33) r29, Ch.ro 0 (Sl a17 r14 c18) r14, Ch.ro 0 (Sl a10 r7 c11) r7, Ch.ro n0 (Sl a17 r14 c18) r14, Ch.ro n0 (Sl a10 r7 c11) r7, Ch.ro 0 (Sl aaList_0 aList_0 caList_0) aList_0, Ch.ro 0 (Sl aaAt_2 aAt_2 caAt_2) aAt_2] := H
   refine st (v := (Sl a32 r29 c33)) (rv_assign rfl) ?_
   refine w_end ?_
   refine q_then ?_
   refine c_seq ?_
   refine rg ?_
   refine st (v := (Sl aaAt_2 aAt_2 caAt_2)) (rv_move rfl) ?_
   obtain ⟨r36, hx37, h'⟩ := bind_some h
   clear h
   have h := h'; clear h'
   have hc38 := c_laws_toIntS (aa_0 := aaAt_2) (ca_0 := caAt_2) hx37
   refine st_call (cx_call hc38 (ent_f hc38.fn rfl) hn0 (show Hp S0 σ0 _ ([Ch.ro 0 (Sl aaAt_2 aAt_2 caAt_2) aAt_2] ++ [Ch.own n0 n0 (Sl a32 r29 c33) r29, Ch.ro 0 (Sl a17 r14 c18) r14, Ch.ro 0 (Sl a10 r7 c11) r7, Ch.ro n0 (Sl a17 r14 c18) r14, Ch.ro n0 (Sl a10 r7 c11) r7, Ch.ro 0 (Sl aaList_0 aList_0 caList_0) aList_0, Ch.ro 0 (Sl aaAt_2 aAt_2 caAt_2) aAt_2]) from (H.sel' [6, 0, 1, 2, 3, 4, 5, 6] rfl rfl))) wn ?_
   rintro _ σ42 ⟨_, ⟨a39, c40, rfl, rfl, ht41⟩, H, -⟩
   replace H : Hp S0 σ0 σ42 [Ch.own n0 n0 (Sl a39 r36 c40) r36, Ch.own n0 n0 (Sl a32 r29 c33) r29, Ch.ro 0 (Sl a17 r14 c18) r14, Ch.ro 0 (Sl a10 r7 c11) r7, Ch.ro n0 (Sl a17 r14 c18) r14, Ch.ro n0 (Sl a10 r7 c11) r7, Ch.ro 0 (Sl aaList_0 aList_0 caList_0) aList_0, Ch.ro 0 (Sl aaAt_2 aAt_2 caAt_2) aAt_2] := H
   replace H : Hp S0 σ0 σ42 [Ch.own n0 n0 (Sl a39 r36 c40) r36, Ch.own n0 n0 (Sl a32 r29 c33) r29, Ch.ro 0 (Sl aaList_0 aList_0 caList_0) aList_0, Ch.ro 0 (Sl aaAt_2 aAt_2 caAt_2) aAt_2] := H.sel' [0, 1, 6, 7] rfl rfl
   refine st (v := (Sl a39 r36 c40)) (rv_assign rfl) ?_
   refine w_end ?_
   refine q_then ?_
   refine c_seq ?_
   refine rg ?_
   refine st (v := (Sl a32 r29 c33)) (rv_move rfl) ?_
   refine st (v := (I aKind_1)) (rv_move rfl) ?_
   refine st (v := (Sl a39 r36 c40)) (rv_move rfl) ?_
   refine st (v := (I aK_3)) (rv_move rfl) ?_
   obtain ⟨r43, hx44, h'⟩ := bind_some h
   clear h
   have h := h'; clear h'
   have hc45 := c_impl_TreeVisits (alist_0 := a32) (clist_0 := c33) (aat_2 := a39) (cat_2 := c40) hx44
   have hle := Nat.le_trans hn0 H.size
   refine st_call (cx_lend (Loan.lend (Loan.lend Loan.nil)) hc45 (ent_f hc45.fn rfl) (show Hp S0 σ0 _ ([Ch.own n0 n0 (Sl a32 r29 c33) r29, Ch.own n0 n0 (Sl a39 r36 c40) r36] ++ ([] ++ [Ch.ro 0 (Sl aaList_0 aList_0 caList_0) aList_0, Ch.ro 0 (Sl aaAt_2 aAt_2 caAt_2) aAt_2])) from (H.sel' [1, 0, 2, 3] rfl rfl)) (by rintro _ _ _ ⟨rfl, rfl⟩; exact trivial)) wn ?_
   rintro _ σ46 ⟨_, ⟨rfl, rfl⟩, H, -, -⟩
   replace H : Hp S0 σ0 σ46 [Ch.own n0 n0 (Sl a32 r29 c33) r29, Ch.own n0 n0 (Sl a39 r36 c40) r36, Ch.ro 0 (Sl aaList_0 aList_0 caList_0) aList_0, Ch.ro 0 (Sl aaAt_2 aAt_2 caAt_2) aAt_2] := H
   clear hle
   replace H : Hp S0 σ0 σ46 [Ch.own n0 n0 (Sl a32 r29 c33) r29, Ch.own n0 n0 (Sl a39 r36 c40) r36, Ch.ro 0 (Sl aaList_0 aList_0 caList_0) aList_0, Ch.ro 0 (Sl aaAt_2 aAt_2 caAt_2) aAt_2] := H
   refine st (v := (I r43)) (rv_assign rfl) ?_
   refine w_end ?_
   refine q_then ?_
   refine c_seq ?_
   refine c_seq ?_
   refine rg ?_
   refine st (v := (I r43)) (rv_move rfl) ?_
   refine st (v := (I r25)) (rv_move rfl) ?_
   refine st (v := (B (r43 != r25))) (rv_neq (a := r43) (b := r25) rfl rfl) ?_
   refine w_end ?_
   refine q_then ?_
   refine cd_cond (r43 != r25) rfl (fun hb47 => ?_) (fun hb47 => ?_)
   ·replace h := bif_t hb47 h
    refine c_seq ?_
    refine rg ?_
    refine st (v := (B false)) (rv_assign rfl) ?_
    refine w_end ?_
    refine q_then ?_
    refine c_ret ?_
    refine q_then_r ?_
    obtain rfl := Option.some.inj h
    exact fin_ret (v := (B false)) (results_ok Try.results6 (res_tmp (v := (B false)) rfl res_nil) rfl) ⟨rfl, rfl⟩ (H.sel' [] rfl rfl)
   ·replace h := bif_f hb47 h
    refine c_skip ?_
    refine q_then ?_
    refine c_seq ?_
    refine c_seq ?_
    refine rg ?_
    refine st (v := (Sl a32 r29 c33)) (rv_move rfl) ?_
    refine st (v := (Sl aaList_0 aList_0 caList_0)) (rv_move rfl) ?_
    obtain ⟨r48, hx49, h'⟩ := bind_some h
    clear h
    have h := h'; clear h'
    have hc50 := c_laws_toItemS (aa_0 := aaList_0) (ca_0 := caList_0) hx49
    refine st_call (cx_call hc50 (ent_f hc50.fn rfl) hn0 (show Hp S0 σ0 _ ([Ch.ro 0 (Sl aaList_0 aList_0 caList_0) aList_0] ++ [Ch.own n0 n0 (Sl a32 r29 c33) r29, Ch.own n0 n0 (Sl a39 r36 c40) r36, Ch.ro 0 (Sl aaList_0 aList_0 caList_0) aList_0, Ch.ro 0 (Sl aaAt_2 aAt_2 caAt_2) aAt_2]) from (H.sel' [2, 0, 1, 2, 3] rfl rfl))) wn ?_
    rintro _ σ54 ⟨_, ⟨a51, c52, rfl, rfl, ht53⟩, H, -⟩
    replace H : Hp S0 σ0 σ54 [Ch.own n0 n0 (Sl a51 r48 c52) r48, Ch.own n0 n0 (Sl a32 r29 c33) r29, Ch.own n0 n0 (Sl a39 r36 c40) r36, Ch.ro 0 (Sl aaList_0 aList_0 caList_0) aList_0, Ch.ro 0 (Sl aaAt_2 aAt_2 caAt_2) aAt_2] := H
    obtain ⟨σ55, hw56, H, -⟩ := H.pub 1 rfl (Nat.le_refl _)
    rw [← hw56]; clear hw56
    obtain ⟨σ57, hw58, H, -⟩ := H.pub 1 rfl (Nat.le_refl _)
    rw [← hw58]; clear hw58
    replace H := H.roLow 1 0 rfl (Nat.zero_le _)
    replace H := H.roLow 1 0 rfl (Nat.zero_le _)
    obtain ⟨r59, hx60, h'⟩ := bind_some h
    clear h
    have h := h'; clear h'
    have hc61 := c_laws_eqItemS (aa_0 := a32) (ca_0 := c33) (ab_1 := a51) (cb_1 := c52) hx60
    refine st_call (cx_call hc61 (ent_f hc61.fn rfl) hn0 (show Hp S0 σ0 _ ([Ch.ro 0 (Sl a32 r29 c33) r29, Ch.ro 0 (Sl a51 r48 c52) r48] ++ [Ch.ro 0 (Sl a51 r48 c52) r48, Ch.ro 0 (Sl a32 r29 c33) r29, Ch.ro n0 (Sl a51 r48 c52) r48, Ch.ro n0 (Sl a32 r29 c33) r29, Ch.own n0 n0 (Sl a39 r36 c40) r36, Ch.ro 0 (Sl aaList_0 aList_0 caList_0) aList_0, Ch.ro 0 (Sl aaAt_2 aAt_2 caAt_2) aAt_2]) from (H.sel' [1, 0, 0, 1, 2, 3, 4, 5, 6] rfl rfl))) wn ?_
    rintro _ σ62 ⟨_, ⟨rfl, rfl⟩, H, -⟩
    replace H : Hp S0 σ0 σ62 [Ch.ro 0 (Sl a51 r48 c52) r48, Ch.ro 0 (Sl a32 r29 c33) r29, Ch.ro n0 (Sl a51 r48 c52) r48, Ch.ro n0 (Sl a32 r29 c33) r29, Ch.own n0 n0 (Sl a39 r36 c40) r36, Ch.ro 0 (Sl aaList_0 aList_0 caList_0) aList_0, Ch.ro 0 (Sl aaAt_2 aAt_2 caAt_2) aAt_2] := H
    refine st (v := (B (!r59))) (rv_not rfl) ?_
    refine w_end ?_
    refine q_then ?_
    refine cd_cond (!r59) rfl (fun hb63 => ?_) (fun hb63 => ?_)
    ·replace h := bif_t hb63 h
     refine c_seq ?_
     refine rg ?_
     refine st (v := (B false)) (rv_assign rfl) ?_
     refine w_end ?_
     refine q_then ?_
     refine c_ret ?_
     refine q_then_r ?_
     obtain rfl := Option.some.inj h
     exact fin_ret (v := (B false)) (results_ok Try.results6 (res_tmp (v := (B false)) rfl res_nil) rfl) ⟨rfl, rfl⟩ (H.sel' [] rfl rfl)
    ·replace h := bif_f hb63 h
     refine c_skip ?_
     refine q_then ?_
     refine c_seq ?_
     refine c_seq ?_
     refine rg ?_
     refine st (v := (Sl a39 r36 c40)) (rv_move rfl) ?_
     refine st (v := (Sl aaAt_2 aAt_2 caAt_2)) (rv_move rfl) ?_
     obtain ⟨r64, hx65, h'⟩ := bind_some h
     clear h
     have h := h'; clear h'
     have hc66 := c_laws_toIntS (aa_0 := aaAt_2) (ca_0 := caAt_2) hx65
     refine st_call (cx_call hc66 (ent_f hc66.fn rfl) hn0 (show Hp S0 σ0 _ ([Ch.ro 0 (Sl aaAt_2 aAt_2 caAt_2) aAt_2] ++ [Ch.ro 0 (Sl a51 r48 c52) r48, Ch.ro 0 (Sl a32 r29 c33) r29, Ch.ro n0 (Sl a51 r48 c52) r48, Ch.ro n0 (Sl a32 r29 c33) r29, Ch.own n0 n0 (Sl a39 r36 c40) r36, Ch.ro 0 (Sl aaList_0 aList_0 caList_0) aList_0, Ch.ro 0 (Sl aaAt_2 aAt_2 caAt_2) aAt_2]) from (H.sel' [6, 0, 1, 2, 3, 4, 5, 6] rfl rfl))) wn ?_
     rintro _ σ70 ⟨_, ⟨a67, c68, rfl, rfl, ht69⟩, H, -⟩
     replace H : Hp S0 σ0 σ70 [Ch.own n0 n0 (Sl a67 r64 c68) r64, Ch.ro 0 (Sl a51 r48 c52) r48, Ch.ro 0 (Sl a32 r29 c33) r29, Ch.ro n0 (Sl a51 r48 c52) r48, Ch.ro n0 (Sl a32 r29 c33) r29, Ch.own n0 n0 (Sl a39 r36 c40) r36, Ch.ro 0 (Sl aaList_0 aList_0 caList_0) aList_0, Ch.ro 0 (Sl aaAt_2 aAt_2 caAt_2) aAt_2] := H
     replace H : Hp S0 σ0 σ70 [Ch.own n0 n0 (Sl a67 r64 c68) r64, Ch.own n0 n0 (Sl a39 r36 c40) r36] := H.sel' [0, 5] rfl rfl
     obtain ⟨σ71, hw72, H, -⟩ := H.pub 1 rfl (Nat.le_refl _)
     rw [← hw72]; clear hw72
     obtain ⟨σ73, hw74, H, -⟩ := H.pub 1 rfl (Nat.le_refl _)
     rw [← hw74]; clear hw74
     replace H := H.roLow 1 0 rfl (Nat.zero_le _)
     replace H := H.roLow 1 0 rfl (Nat.zero_le _)
     obtain ⟨r75, hx76, h'⟩ := bind_some h
     clear h
     have h := h'; clear h'
     have hc77 := c_laws_eqIntS (aa_0 := a39) (ca_0 := c40) (ab_1 := a67) (cb_1 := c68) hx76
     refine st_call (cx_call hc77 (ent_f hc77.fn rfl) hn0 (show Hp S0 σ0 _ ([Ch.ro 0 (Sl a39 r36 c40) r36, Ch.ro 0 (Sl a67 r64 c68) r64] ++ [Ch.ro 0 (Sl a67 r64 c68) r64, Ch.ro 0 (Sl a39 r36 c40) r36, Ch.ro n0 (Sl a67 r64 c68) r64, Ch.ro n0 (Sl a39 r36 c40) r36]) from (H.sel' [1, 0, 0, 1, 2, 3] rfl rfl))) wn ?_
     rintro _ σ78 ⟨_, ⟨rfl, rfl⟩, H, -⟩
     replace H : Hp S0 σ0 σ78 [Ch.ro 0 (Sl a67 r64 c68) r64, Ch.ro 0 (Sl a39 r36 c40) r36, Ch.ro n0 (Sl a67 r64 c68) r64, Ch.ro n0 (Sl a39 r36 c40) r36] := H
     refine st (v := (B (!r75))) (rv_not rfl) ?_
     refine w_end ?_
     refine q_then ?_
     refine cd_cond (!r75) rfl (fun hb79 => ?_) (fun hb79 => ?_)
     ·replace h := bif_t hb79 h
      refine c_seq ?_
      refine rg ?_
      refine st (v := (B false)) (rv_assign rfl) ?_
      refine w_end ?_
      refine q_then ?_
      refine c_ret ?_
      refine q_then_r ?_
      obtain rfl := Option.some.inj h
      exact fin_ret (v := (B false)) (results_ok Try.results6 (res_tmp (v := (B false)) rfl res_nil) rfl) ⟨rfl, rfl⟩ (H.sel' [] rfl rfl)
     ·replace h := bif_f hb79 h
      refine c_skip ?_
      refine q_then ?_
      refine c_seq ?_
      refine rg ?_
      refine st (v := (B true)) (rv_assign rfl) ?_
      refine w_end ?_
      refine q_then ?_
      refine c_ret ?_
      obtain rfl := Option.some.inj h
      exact fin_ret (v := (B true)) (results_ok Try.results6 (res_tmp (v := (B true)) rfl res_nil) rfl) ⟨rfl, rfl⟩ (H.sel' [] rfl rfl)

end Go.Vs
