/- The functions compute what their models say. -/
import Derived.Test.YtdjjikmfkejdiaeKExactWithinDistC3
set_option linter.unusedVariables false
set_option linter.unusedSimpArgs false
set_option maxRecDepth 20000
namespace Go.Vs
open Go Go.Proofs
attribute [local irreducible] Code.wp Code.wpIn wpList wpListIn wpQuiet Calls CallsIn

theorem c_laws_FnExactWithinDist {aList_0 : List (Int × (List Int) × Int)} {aKind_1 : Int} {aAt_2 : List Int} {aMost_3 : Int} {aaList_0 : Option Addr} {caList_0 : Nat} {aaAt_2 : Option Addr} {caAt_2 : Nat} {r : Bool} (h : M.laws_FnExactWithinDist aList_0 aKind_1 aAt_2 aMost_3 = some r) :
    Cal2 Try.prog 3 [(Sl aaList_0 aList_0 caList_0), (I aKind_1), (Sl aaAt_2 aAt_2 caAt_2), (I aMost_3)] [Ch.ro 0 (Sl aaList_0 aList_0 caList_0) aList_0, Ch.ro 0 (Sl aaAt_2 aAt_2 caAt_2) aAt_2] (fun n0 v L => v = (B r) ∧ L = []) := by
 refine cal2 (n := 100) Try.func3 rfl rfl rfl rfl ?_
 intro S0 σ0 n0 hn0 H
 unfold M.laws_FnExactWithinDist at h
 refine c_seq ?_
 refine rg ?_
 refine st (v := (B false)) (rv_assign rfl) ?_
 refine w_end ?_
 refine q_then ?_
 refine c_seq ?_
 refine c_seq ?_
 refine rg ?_
 refine st (v := (Sl aaAt_2 aAt_2 caAt_2)) (rv_move rfl) ?_
 refine st (v := (I (aAt_2.length : Int))) (rv_len Try.underlying23 rfl) ?_
 refine st (v := (B (decide (1048576 < (aAt_2.length : Int))))) (rv_gtr (a := (aAt_2.length : Int)) (b := 1048576) rfl rfl) ?_
 refine w_end ?_
 refine q_then ?_
 refine cd_cond (decide (1048576 < (aAt_2.length : Int))) rfl (fun hb1 => ?_) (fun hb1 => ?_)
 ·replace h := bif_t hb1 h
  refine c_seq ?_
  refine rg ?_
  refine st (v := (B true)) (rv_assign rfl) ?_
  refine w_end ?_
  refine q_then ?_
  refine c_ret ?_
  refine q_then_r ?_
  obtain rfl := Option.some.inj h
  exact fin_ret (v := (B true)) (results_ok Try.results3 (res_tmp (v := (B true)) rfl res_nil) rfl) ⟨rfl, rfl⟩ (H.sel' [] rfl rfl)
 ·replace h := bif_f hb1 h
  refine c_skip ?_
  refine q_then ?_
  refine c_seq ?_
  refine rg ?_
  refine st (v := (I 1048576)) (rv_assign rfl) ?_
  refine w_end ?_
  refine q_then ?_
  refine c_seq ?_
  refine rg ?_
  refine st (v := (Sl aaList_0 aList_0 caList_0)) (rv_move rfl) ?_
  refine st (v := (I 1048576)) (rv_move rfl) ?_
  obtain ⟨r2, hx3, h'⟩ := bind_some h
  clear h
  have h := h'; clear h'
  have hc4 := c_laws_szItemS (aa_0 := aaList_0) (ca_0 := caList_0) hx3
  refine st_call (cx_call hc4 (ent_f hc4.fn rfl) hn0 (show Hp S0 σ0 _ ([Ch.ro 0 (Sl aaList_0 aList_0 caList_0) aList_0] ++ [Ch.ro 0 (Sl aaList_0 aList_0 caList_0) aList_0, Ch.ro 0 (Sl aaAt_2 aAt_2 caAt_2) aAt_2]) from (H.sel' [0, 0, 1] rfl rfl))) wn ?_
  rintro _ σ5 ⟨_, ⟨rfl, rfl⟩, H, -⟩
  replace H : Hp S0 σ0 σ5 [Ch.ro 0 (Sl aaList_0 aList_0 caList_0) aList_0, Ch.ro 0 (Sl aaAt_2 aAt_2 caAt_2) aAt_2] := H
  refine st (v := (I r2)) (rv_assign rfl) ?_
  refine w_end ?_
  refine q_then ?_
  refine c_seq ?_
  refine c_seq ?_
  refine rg ?_
  refine st (v := (I r2)) (rv_move rfl) ?_
  refine st (v := (B (decide (r2 < 0)))) (rv_lss (a := r2) (b := 0) rfl rfl) ?_
  refine w_end ?_
  refine q_then ?_
  refine cd_cond (decide (r2 < 0)) rfl (fun hb6 => ?_) (fun hb6 => ?_)
  ·replace h := bif_t hb6 h
   refine c_seq ?_
   refine rg ?_
   refine st (v := (B true)) (rv_assign rfl) ?_
   refine w_end ?_
   refine q_then ?_
   refine c_ret ?_
   refine q_then_r ?_
   obtain rfl := Option.some.inj h
   exact fin_ret (v := (B true)) (results_ok Try.results3 (res_tmp (v := (B true)) rfl res_nil) rfl) ⟨rfl, rfl⟩ (H.sel' [] rfl rfl)
  ·replace h := bif_f hb6 h
   refine c_skip ?_
   refine q_then ?_
   refine c_seq ?_
   refine rg ?_
   refine st (v := (Sl aaList_0 aList_0 caList_0)) (rv_move rfl) ?_
   obtain ⟨r7, hx8, h'⟩ := bind_some h
   clear h
   have h := h'; clear h'
   have hc9 := c_laws_toItemS (aa_0 := aaList_0) (ca_0 := caList_0) hx8
   refine st_call (cx_call hc9 (ent_f hc9.fn rfl) hn0 (show Hp S0 σ0 _ ([Ch.ro 0 (Sl aaList_0 aList_0 caList_0) aList_0] ++ [Ch.ro 0 (Sl aaList_0 aList_0 caList_0) aList_0, Ch.ro 0 (Sl aaAt_2 aAt_2 caAt_2) aAt_2]) from (H.sel' [0, 0, 1] rfl rfl))) wn ?_
   rintro _ σ14 ⟨_, ⟨a10, c11, K12, rfl, rfl, hK13⟩, H, -⟩
   replace H : Hp S0 σ0 σ14 [Ch.big K12, Ch.ro 0 (Sl aaList_0 aList_0 caList_0) aList_0, Ch.ro 0 (Sl aaAt_2 aAt_2 caAt_2) aAt_2] := H
   refine st (v := (I aKind_1)) (rv_move rfl) ?_
   refine st (v := (Sl aaAt_2 aAt_2 caAt_2)) (rv_move rfl) ?_
   obtain ⟨r15, hx16, h'⟩ := bind_some h
   clear h
   have h := h'; clear h'
   have hc17 := c_laws_toIntS (aa_0 := aaAt_2) (ca_0 := caAt_2) hx16
   refine st_call (cx_call hc17 (ent_f hc17.fn rfl) hn0 (show Hp S0 σ0 _ ([Ch.ro 0 (Sl aaAt_2 aAt_2 caAt_2) aAt_2] ++ [Ch.big K12, Ch.ro 0 (Sl aaList_0 aList_0 caList_0) aList_0, Ch.ro 0 (Sl aaAt_2 aAt_2 caAt_2) aAt_2]) from (H.sel' [2, 0, 1, 2] rfl rfl))) wn ?_
   rintro _ σ21 ⟨_, ⟨a18, c19, rfl, rfl, ht20⟩, H, -⟩
   replace H : Hp S0 σ0 σ21 [Ch.own n0 n0 (Sl a18 r15 c19) r15, Ch.big K12, Ch.ro 0 (Sl aaList_0 aList_0 caList_0) aList_0, Ch.ro 0 (Sl aaAt_2 aAt_2 caAt_2) aAt_2] := H
   refine st (v := (I aMost_3)) (rv_move rfl) ?_
   obtain ⟨σ22, hw23, H, -⟩ := H.pub 0 rfl (Nat.le_refl _)
   rw [← hw23]; clear hw23
   replace H := H.roLow 0 0 rfl (Nat.zero_le _)
   obtain ⟨r24, hx25, h'⟩ := bind_some h
   clear h
   have h := h'; clear h'
   have hc26 := c_spec_WithinDist (alist_0 := a10) (clist_0 := c11) (aat_2 := a18) (cat_2 := c19) hx25
   have hle := Nat.le_trans hn0 H.size
   refine st_call (cx_lend (Loan.lendB hK13.lends (Loan.same Loan.nil)) hc26 (ent_f hc26.fn rfl) (show Hp S0 σ0 _ ([Ch.big K12] ++ ([Ch.ro 0 (Sl a18 r15 c19) r15] ++ [Ch.ro 0 (Sl a18 r15 c19) r15, Ch.ro n0 (Sl a18 r15 c19) r15, Ch.ro 0 (Sl aaList_0 aList_0 caList_0) aList_0, Ch.ro 0 (Sl aaAt_2 aAt_2 caAt_2) aAt_2])) from (H.sel' [2, 0, 0, 1, 3, 4] rfl rfl)) (by rintro _ _ _ ⟨_, _, rfl, rfl⟩; exact ⟨Ab.ownSc, trivial⟩)) wn ?_
   rintro _ σ29 ⟨_, ⟨a27, c28, rfl, rfl⟩, H, -, -⟩
   replace H : Hp S0 σ0 σ29 [Ch.own σ22.size σ22.size (Sl a27 r24 c28) r24, Ch.big K12, Ch.ro 0 (Sl a18 r15 c19) r15, Ch.ro n0 (Sl a18 r15 c19) r15, Ch.ro 0 (Sl aaList_0 aList_0 caList_0) aList_0, Ch.ro 0 (Sl aaAt_2 aAt_2 caAt_2) aAt_2] := H
   replace H := H.ownLow 0 n0 n0 rfl hle hle
   clear hle
   replace H : Hp S0 σ0 σ29 [Ch.own n0 n0 (Sl a27 r24 c28) r24, Ch.big K12, Ch.ro 0 (Sl a18 r15 c19) r15, Ch.ro n0 (Sl a18 r15 c19) r15, Ch.ro 0 (Sl aaList_0 aList_0 caList_0) aList_0, Ch.ro 0 (Sl aaAt_2 aAt_2 caAt_2) aAt_2] := H
   refine st (v := (Sl a27 r24 c28)) (rv_assign rfl) ?_
   refine w_end ?_
   refine q_then ?_
   refine c_seq ?_
   refine rg ?_
   refine st (v := (Sl aaList_0 aList_0 caList_0)) (rv_move rfl) ?_
   obtain ⟨r30, hx31, h'⟩ := bind_some h
   clear h
   have h := h'; clear h'
   have hc32 := c_laws_toItemS (aa_0 := aaList_0) (ca_0 := caList_0) hx31
   refine st_call (cx_call hc32 (ent_f hc32.fn rfl) hn0 (show Hp S0 σ0 _ ([Ch.ro 0 (Sl aaList_0 aList_0 caList_0) aList_0] ++ [Ch.own n0 n0 (Sl a27 r24 c28) r24, Ch.big K12, Ch.ro 0 (Sl a18 r15 c19) r15, Ch.ro n0 (Sl a18 r15 c19) r15, Ch.ro 0 (Sl aaList_0 aList_0 caList_0) aList_0, Ch.ro 0 (Sl aaAt_2 aAt_2 caAt_2) aAt_2]) from (H.sel' [4, 0, 1, 2, 3, 4, 5] rfl rfl))) wn ?_
   rintro _ σ37 ⟨_, ⟨a33, c34, K35, rfl, rfl, hK36⟩, H, -⟩
   replace H : Hp S0 σ0 σ37 [Ch.big K35, Ch.own n0 n0 (Sl a27 r24 c28) r24, Ch.big K12, Ch.ro 0 (Sl a18 r15 c19) r15, Ch.ro n0 (Sl a18 r15 c19) r15, Ch.ro 0 (Sl aaList_0 aList_0 caList_0) aList_0, Ch.ro 0 (Sl aaAt_2 aAt_2 caAt_2) aAt_2] := H
   refine st (v := (Sl a33 r30 c34)) (rv_assign rfl) ?_
   refine w_end ?_
   refine q_then ?_
   refine c_seq ?_
   refine rg ?_
   refine st (v := (Sl aaAt_2 aAt_2 caAt_2)) (rv_move rfl) ?_
   obtain ⟨r38, hx39, h'⟩ := bind_some h
   clear h
   have h := h'; clear h'
   have hc40 := c_laws_toIntS (aa_0 := aaAt_2) (ca_0 := caAt_2) hx39
   refine st_call (cx_call hc40 (ent_f hc40.fn rfl) hn0 (show Hp S0 σ0 _ ([Ch.ro 0 (Sl aaAt_2 aAt_2 caAt_2) aAt_2] ++ [Ch.big K35, Ch.own n0 n0 (Sl a27 r24 c28) r24, Ch.big K12, Ch.ro 0 (Sl a18 r15 c19) r15, Ch.ro n0 (Sl a18 r15 c19) r15, Ch.ro 0 (Sl aaList_0 aList_0 caList_0) aList_0, Ch.ro 0 (Sl aaAt_2 aAt_2 caAt_2) aAt_2]) from (H.sel' [6, 0, 1, 2, 3, 4, 5, 6] rfl rfl))) wn ?_
   rintro _ σ44 ⟨_, ⟨a41, c42, rfl, rfl, ht43⟩, H, -⟩
   replace H : Hp S0 σ0 σ44 [Ch.own n0 n0 (Sl a41 r38 c42) r38, Ch.big K35, Ch.own n0 n0 (Sl a27 r24 c28) r24, Ch.big K12, Ch.ro 0 (Sl a18 r15 c19) r15, Ch.ro n0 (Sl a18 r15 c19) r15, Ch.ro 0 (Sl aaList_0 aList_0 caList_0) aList_0, Ch.ro 0 (Sl aaAt_2 aAt_2 caAt_2) aAt_2] := H
   replace H : Hp S0 σ0 σ44 [Ch.own n0 n0 (Sl a41 r38 c42) r38, Ch.big K35, Ch.own n0 n0 (Sl a27 r24 c28) r24, Ch.ro 0 (Sl aaList_0 aList_0 caList_0) aList_0, Ch.ro 0 (Sl aaAt_2 aAt_2 caAt_2) aAt_2] := H.sel' [0, 1, 2, 6, 7] rfl rfl
   refine st (v := (Sl a41 r38 c42)) (rv_assign rfl) ?_
   refine w_end ?_
   refine q_then ?_
   refine c_seq ?_
   refine rg ?_
   refine st (v := (Sl a33 r30 c34)) (rv_move rfl) ?_
   refine st (v := (I aKind_1)) (rv_move rfl) ?_
   refine st (v := (Sl a41 r38 c42)) (rv_move rfl) ?_
   refine st (v := (I aMost_3)) (rv_move rfl) ?_
   obtain ⟨r45, hx46, h'⟩ := bind_some h
   clear h
   have h := h'; clear h'
   have hc47 := c_impl_WithinDist (alist_0 := a33) (clist_0 := c34) (aat_2 := a41) (cat_2 := c42) hx46
   have hle := Nat.le_trans hn0 H.size
   refine st_call (cx_lend (Loan.lendB hK36.lends (Loan.lend Loan.nil)) hc47 (ent_f hc47.fn rfl) (show Hp S0 σ0 _ ([Ch.big K35, Ch.own n0 n0 (Sl a41 r38 c42) r38] ++ ([] ++ [Ch.own n0 n0 (Sl a27 r24 c28) r24, Ch.ro 0 (Sl aaList_0 aList_0 caList_0) aList_0, Ch.ro 0 (Sl aaAt_2 aAt_2 caAt_2) aAt_2])) from (H.sel' [1, 0, 2, 3, 4] rfl rfl)) (by rintro _ _ _ ⟨_, _, rfl, rfl⟩; exact ⟨Ab.ownSc, trivial⟩)) wn ?_
   rintro _ σ50 ⟨_, ⟨a48, c49, rfl, rfl⟩, H, -, -⟩
   replace H : Hp S0 σ0 σ50 [Ch.own 0 σ44.size (Sl a48 r45 c49) r45, Ch.big K35, Ch.own n0 n0 (Sl a41 r38 c42) r38, Ch.own n0 n0 (Sl a27 r24 c28) r24, Ch.ro 0 (Sl aaList_0 aList_0 caList_0) aList_0, Ch.ro 0 (Sl aaAt_2 aAt_2 caAt_2) aAt_2] := H
   replace H := H.ownLow 0 0 n0 rfl (Nat.le_refl _) hle
   clear hle
   replace H : Hp S0 σ0 σ50 [Ch.own 0 n0 (Sl a48 r45 c49) r45, Ch.big K35, Ch.own n0 n0 (Sl a41 r38 c42) r38, Ch.own n0 n0 (Sl a27 r24 c28) r24, Ch.ro 0 (Sl aaList_0 aList_0 caList_0) aList_0, Ch.ro 0 (Sl aaAt_2 aAt_2 caAt_2) aAt_2] := H
   refine st (v := (Sl a48 r45 c49)) (rv_assign rfl) ?_
   refine w_end ?_
   refine q_then ?_
   refine c_seq ?_
   refine c_seq ?_
   refine rg ?_
   refine st (v := (Sl a48 r45 c49)) (rv_move rfl) ?_
   refine st (v := (Sl a27 r24 c28)) (rv_move rfl) ?_
   obtain ⟨r51, hx52, h'⟩ := bind_some h
   clear h
   have h := h'; clear h'
   have hc53 := c_laws_eqHitS (aa_0 := a48) (ca_0 := c49) (ab_1 := a27) (cb_1 := c28) hx52
   have hle := Nat.le_trans hn0 H.size
   refine st_call (cx_lend (Loan.lend (Loan.lend Loan.nil)) hc53 (ent_f hc53.fn rfl) (show Hp S0 σ0 _ ([Ch.own 0 n0 (Sl a48 r45 c49) r45, Ch.own n0 n0 (Sl a27 r24 c28) r24] ++ ([] ++ [Ch.big K35, Ch.own n0 n0 (Sl a41 r38 c42) r38, Ch.ro 0 (Sl aaList_0 aList_0 caList_0) aList_0, Ch.ro 0 (Sl aaAt_2 aAt_2 caAt_2) aAt_2])) from (H.sel' [0, 3, 1, 2, 4, 5] rfl rfl)) (by rintro _ _ _ ⟨rfl, rfl⟩; exact trivial)) wn ?_
   rintro _ σ54 ⟨_, ⟨rfl, rfl⟩, H, -, -⟩
   replace H : Hp S0 σ0 σ54 [Ch.own 0 n0 (Sl a48 r45 c49) r45, Ch.own n0 n0 (Sl a27 r24 c28) r24, Ch.big K35, Ch.own n0 n0 (Sl a41 r38 c42) r38, Ch.ro 0 (Sl aaList_0 aList_0 caList_0) aList_0, Ch.ro 0 (Sl aaAt_2 aAt_2 caAt_2) aAt_2] := H
   clear hle
   replace H : Hp S0 σ0 σ54 [Ch.own 0 n0 (Sl a48 r45 c49) r45, Ch.own n0 n0 (Sl a27 r24 c28) r24, Ch.big K35, Ch.own n0 n0 (Sl a41 r38 c42) r38, Ch.ro 0 (Sl aaList_0 aList_0 caList_0) aList_0, Ch.ro 0 (Sl aaAt_2 aAt_2 caAt_2) aAt_2] := H
   refine st (v := (B (!r51))) (rv_not rfl) ?_
   refine w_end ?_
   refine q_then ?_
   refine cd_cond (!r51) rfl (fun hb55 => ?_) (fun hb55 => ?_)
   ·replace h := bif_t hb55 h
    refine c_seq ?_
    refine rg ?_
    refine st (v := (B false)) (rv_assign rfl) ?_
    refine w_end ?_
    refine q_then ?_
    refine c_ret ?_
    refine q_then_r ?_
    obtain rfl := Option.some.inj h
    exact fin_ret (v := (B false)) (results_ok Try.results3 (res_tmp (v := (B false)) rfl res_nil) rfl) ⟨rfl, rfl⟩ (H.sel' [] rfl rfl)
   ·replace h := bif_f hb55 h
    refine c_skip ?_
    refine q_then ?_
    refine c_seq ?_
    refine c_seq ?_
    refine rg ?_
    refine st (v := (Sl a33 r30 c34)) (rv_move rfl) ?_
    refine st (v := (Sl aaList_0 aList_0 caList_0)) (rv_move rfl) ?_
    obtain ⟨r56, hx57, h'⟩ := bind_some h
    clear h
    have h := h'; clear h'
    have hc58 := c_laws_toItemS (aa_0 := aaList_0) (ca_0 := caList_0) hx57
    refine st_call (cx_call hc58 (ent_f hc58.fn rfl) hn0 (show Hp S0 σ0 _ ([Ch.ro 0 (Sl aaList_0 aList_0 caList_0) aList_0] ++ [Ch.own 0 n0 (Sl a48 r45 c49) r45, Ch.own n0 n0 (Sl a27 r24 c28) r24, Ch.big K35, Ch.own n0 n0 (Sl a41 r38 c42) r38, Ch.ro 0 (Sl aaList_0 aList_0 caList_0) aList_0, Ch.ro 0 (Sl aaAt_2 aAt_2 caAt_2) aAt_2]) from (H.sel' [4, 0, 1, 2, 3, 4, 5] rfl rfl))) wn ?_
    rintro _ σ63 ⟨_, ⟨a59, c60, K61, rfl, rfl, hK62⟩, H, -⟩
    replace H : Hp S0 σ0 σ63 [Ch.big K61, Ch.own 0 n0 (Sl a48 r45 c49) r45, Ch.own n0 n0 (Sl a27 r24 c28) r24, Ch.big K35, Ch.own n0 n0 (Sl a41 r38 c42) r38, Ch.ro 0 (Sl aaList_0 aList_0 caList_0) aList_0, Ch.ro 0 (Sl aaAt_2 aAt_2 caAt_2) aAt_2] := H
    obtain ⟨r64, hx65, h'⟩ := bind_some h
    clear h
    have h := h'; clear h'
    have hc66 := c_laws_eqItemS (aa_0 := a33) (ca_0 := c34) (ab_1 := a59) (cb_1 := c60) hx65
    have hle := Nat.le_trans hn0 H.size
    refine st_call (cx_lend (Loan.lendB hK36.lends (Loan.lendB hK62.lends Loan.nil)) hc66 (ent_f hc66.fn rfl) (show Hp S0 σ0 _ ([Ch.big K35, Ch.big K61] ++ ([] ++ [Ch.own 0 n0 (Sl a48 r45 c49) r45, Ch.own n0 n0 (Sl a27 r24 c28) r24, Ch.own n0 n0 (Sl a41 r38 c42) r38, Ch.ro 0 (Sl aaList_0 aList_0 caList_0) aList_0, Ch.ro 0 (Sl aaAt_2 aAt_2 caAt_2) aAt_2])) from (H.sel' [3, 0, 1, 2, 4, 5, 6] rfl rfl)) (by rintro _ _ _ ⟨rfl, rfl⟩; exact trivial)) wn ?_
    rintro _ σ67 ⟨_, ⟨rfl, rfl⟩, H, -, -⟩
    replace H : Hp S0 σ0 σ67 [Ch.big K35, Ch.big K61, Ch.own 0 n0 (Sl a48 r45 c49) r45, Ch.own n0 n0 (Sl a27 r24 c28) r24, Ch.own n0 n0 (Sl a41 r38 c42) r38, Ch.ro 0 (Sl aaList_0 aList_0 caList_0) aList_0, Ch.ro 0 (Sl aaAt_2 aAt_2 caAt_2) aAt_2] := H
    clear hle
    replace H : Hp S0 σ0 σ67 [Ch.big K35, Ch.big K61, Ch.own 0 n0 (Sl a48 r45 c49) r45, Ch.own n0 n0 (Sl a27 r24 c28) r24, Ch.own n0 n0 (Sl a41 r38 c42) r38, Ch.ro 0 (Sl aaList_0 aList_0 caList_0) aList_0, Ch.ro 0 (Sl aaAt_2 aAt_2 caAt_2) aAt_2] := H
    refine st (v := (B (!r64))) (rv_not rfl) ?_
    refine w_end ?_
    refine q_then ?_
    refine cd_cond (!r64) rfl (fun hb68 => ?_) (fun hb68 => ?_)
    ·replace h := bif_t hb68 h
     refine c_seq ?_
     refine rg ?_
     refine st (v := (B false)) (rv_assign rfl) ?_
     refine w_end ?_
     refine q_then ?_
     refine c_ret ?_
     refine q_then_r ?_
     obtain rfl := Option.some.inj h
     exact fin_ret (v := (B false)) (results_ok Try.results3 (res_tmp (v := (B false)) rfl res_nil) rfl) ⟨rfl, rfl⟩ (H.sel' [] rfl rfl)
    ·replace h := bif_f hb68 h
     refine c_skip ?_
     refine q_then ?_
     refine c_seq ?_
     refine c_seq ?_
     refine rg ?_
     refine st (v := (Sl a41 r38 c42)) (rv_move rfl) ?_
     refine st (v := (Sl aaAt_2 aAt_2 caAt_2)) (rv_move rfl) ?_
     obtain ⟨r69, hx70, h'⟩ := bind_some h
     clear h
     have h := h'; clear h'
     have hc71 := c_laws_toIntS (aa_0 := aaAt_2) (ca_0 := caAt_2) hx70
     refine st_call (cx_call hc71 (ent_f hc71.fn rfl) hn0 (show Hp S0 σ0 _ ([Ch.ro 0 (Sl aaAt_2 aAt_2 caAt_2) aAt_2] ++ [Ch.big K35, Ch.big K61, Ch.own 0 n0 (Sl a48 r45 c49) r45, Ch.own n0 n0 (Sl a27 r24 c28) r24, Ch.own n0 n0 (Sl a41 r38 c42) r38, Ch.ro 0 (Sl aaList_0 aList_0 caList_0) aList_0, Ch.ro 0 (Sl aaAt_2 aAt_2 caAt_2) aAt_2]) from (H.sel' [6, 0, 1, 2, 3, 4, 5, 6] rfl rfl))) wn ?_
     rintro _ σ75 ⟨_, ⟨a72, c73, rfl, rfl, ht74⟩, H, -⟩
     replace H : Hp S0 σ0 σ75 [Ch.own n0 n0 (Sl a72 r69 c73) r69, Ch.big K35, Ch.big K61, Ch.own 0 n0 (Sl a48 r45 c49) r45, Ch.own n0 n0 (Sl a27 r24 c28) r24, Ch.own n0 n0 (Sl a41 r38 c42) r38, Ch.ro 0 (Sl aaList_0 aList_0 caList_0) aList_0, Ch.ro 0 (Sl aaAt_2 aAt_2 caAt_2) aAt_2] := H
     replace H : Hp S0 σ0 σ75 [Ch.own n0 n0 (Sl a72 r69 c73) r69, Ch.big K35, Ch.own 0 n0 (Sl a48 r45 c49) r45, Ch.own n0 n0 (Sl a27 r24 c28) r24, Ch.own n0 n0 (Sl a41 r38 c42) r38, Ch.ro 0 (Sl aaList_0 aList_0 caList_0) aList_0, Ch.ro 0 (Sl aaAt_2 aAt_2 caAt_2) aAt_2] := H.sel' [0, 1, 3, 4, 5, 6, 7] rfl rfl
     obtain ⟨σ76, hw77, H, -⟩ := H.pub 0 rfl (Nat.le_refl _)
     rw [← hw77]; clear hw77
     replace H := H.roLow 0 0 rfl (Nat.zero_le _)
     obtain ⟨r78, hx79, h'⟩ := bind_some h
     clear h
     have h := h'; clear h'
     have hc80 := c_laws_eqIntS (aa_0 := a41) (ca_0 := c42) (ab_1 := a72) (cb_1 := c73) hx79
     have hle := Nat.le_trans hn0 H.size
     refine st_call (cx_lend (Loan.lend (Loan.same Loan.nil)) hc80 (ent_f hc80.fn rfl) (show Hp S0 σ0 _ ([Ch.own n0 n0 (Sl a41 r38 c42) r38] ++ ([Ch.ro 0 (Sl a72 r69 c73) r69] ++ [Ch.ro 0 (Sl a72 r69 c73) r69, Ch.ro n0 (Sl a72 r69 c73) r69, Ch.big K35, Ch.own 0 n0 (Sl a48 r45 c49) r45, Ch.own n0 n0 (Sl a27 r24 c28) r24, Ch.ro 0 (Sl aaList_0 aList_0 caList_0) aList_0, Ch.ro 0 (Sl aaAt_2 aAt_2 caAt_2) aAt_2])) from (H.sel' [5, 0, 0, 1, 2, 3, 4, 6, 7] rfl rfl)) (by rintro _ _ _ ⟨rfl, rfl⟩; exact trivial)) wn ?_
     rintro _ σ81 ⟨_, ⟨rfl, rfl⟩, H, -, -⟩
     replace H : Hp S0 σ0 σ81 [Ch.own n0 n0 (Sl a41 r38 c42) r38, Ch.ro 0 (Sl a72 r69 c73) r69, Ch.ro n0 (Sl a72 r69 c73) r69, Ch.big K35, Ch.own 0 n0 (Sl a48 r45 c49) r45, Ch.own n0 n0 (Sl a27 r24 c28) r24, Ch.ro 0 (Sl aaList_0 aList_0 caList_0) aList_0, Ch.ro 0 (Sl aaAt_2 aAt_2 caAt_2) aAt_2] := H
     clear hle
     replace H : Hp S0 σ0 σ81 [Ch.own n0 n0 (Sl a41 r38 c42) r38, Ch.ro 0 (Sl a72 r69 c73) r69, Ch.ro n0 (Sl a72 r69 c73) r69, Ch.big K35, Ch.own 0 n0 (Sl a48 r45 c49) r45, Ch.own n0 n0 (Sl a27 r24 c28) r24, Ch.ro 0 (Sl aaList_0 aList_0 caList_0) aList_0, Ch.ro 0 (Sl aaAt_2 aAt_2 caAt_2) aAt_2] := H
     replace H : Hp S0 σ0 σ81 [Ch.own n0 n0 (Sl a41 r38 c42) r38, Ch.big K35, Ch.own 0 n0 (Sl a48 r45 c49) r45, Ch.own n0 n0 (Sl a27 r24 c28) r24, Ch.ro 0 (Sl aaList_0 aList_0 caList_0) aList_0, Ch.ro 0 (Sl aaAt_2 aAt_2 caAt_2) aAt_2] := H.sel' [0, 3, 4, 5, 6, 7] rfl rfl
     refine st (v := (B (!r78))) (rv_not rfl) ?_
     refine w_end ?_
     refine q_then ?_
     refine cd_cond (!r78) rfl (fun hb82 => ?_) (fun hb82 => ?_)
     ·replace h := bif_t hb82 h
      refine c_seq ?_
      refine rg ?_
      refine st (v := (B false)) (rv_assign rfl) ?_
      refine w_end ?_
      refine q_then ?_
      refine c_ret ?_
      refine q_then_r ?_
      obtain rfl := Option.some.inj h
      exact fin_ret (v := (B false)) (results_ok Try.results3 (res_tmp (v := (B false)) rfl res_nil) rfl) ⟨rfl, rfl⟩ (H.sel' [] rfl rfl)
     ·replace h := bif_f hb82 h
      refine c_skip ?_
      refine q_then ?_
      refine c_seq ?_
      refine rg ?_
      refine st (v := (I 1)) (rv_assign rfl) ?_
      refine w_end ?_
      refine q_then ?_
      refine c_seq ?_
      refine rg ?_
      refine st (v := (Sl a33 r30 c34)) (rv_move rfl) ?_
      refine st (v := (I 1)) (rv_move rfl) ?_
      obtain ⟨r83, hx84, h'⟩ := bind_some h
      clear h
      have h := h'; clear h'
      have hc85 := c_laws_markItemS (aa_0 := a33) (ca_0 := c34) (hK := hK36) hx84
      refine st_call (cx_call hc85 (ent_f hc85.fn rfl) hn0 (show Hp S0 σ0 _ ([Ch.big K35] ++ [Ch.own n0 n0 (Sl a41 r38 c42) r38, Ch.own 0 n0 (Sl a48 r45 c49) r45, Ch.own n0 n0 (Sl a27 r24 c28) r24, Ch.ro 0 (Sl aaList_0 aList_0 caList_0) aList_0, Ch.ro 0 (Sl aaAt_2 aAt_2 caAt_2) aAt_2]) from (H.sel' [1, 0, 2, 3, 4, 5] rfl rfl))) wn ?_
      rintro _ σ86 ⟨_, ⟨rfl, rfl⟩, H, -⟩
      replace H : Hp S0 σ0 σ86 [Ch.own n0 n0 (Sl a41 r38 c42) r38, Ch.own 0 n0 (Sl a48 r45 c49) r45, Ch.own n0 n0 (Sl a27 r24 c28) r24, Ch.ro 0 (Sl aaList_0 aList_0 caList_0) aList_0, Ch.ro 0 (Sl aaAt_2 aAt_2 caAt_2) aAt_2] := H
      refine st (v := (I r83)) (rv_assign rfl) ?_
      refine w_end ?_
      refine q_then ?_
      refine c_seq ?_
      refine rg ?_
      refine st (v := (Sl a41 r38 c42)) (rv_move rfl) ?_
      refine st (v := (I r83)) (rv_move rfl) ?_
      replace H := H.ownLow 0 0 0 rfl (Nat.zero_le _) (Nat.zero_le _)
      obtain ⟨r87, hx88, h'⟩ := bind_some h
      clear h
      have h := h'; clear h'
      have hc89 := c_laws_markIntS (aa_0 := a41) (ca_0 := c42) hx88
      refine st_call (cx_call hc89 (ent_f hc89.fn rfl) hn0 (show Hp S0 σ0 _ ([Ch.own 0 0 (Sl a41 r38 c42) r38] ++ [Ch.own 0 n0 (Sl a48 r45 c49) r45, Ch.own n0 n0 (Sl a27 r24 c28) r24, Ch.ro 0 (Sl aaList_0 aList_0 caList_0) aList_0, Ch.ro 0 (Sl aaAt_2 aAt_2 caAt_2) aAt_2]) from (H.sel' [0, 1, 2, 3, 4] rfl rfl))) wn ?_
      rintro _ σ91 ⟨_, ⟨rfl, rfl, hn90⟩, H, -⟩
      replace H : Hp S0 σ0 σ91 [Ch.own 0 0 (Sl a41 r87.2 c42) r87.2, Ch.own 0 n0 (Sl a48 r45 c49) r45, Ch.own n0 n0 (Sl a27 r24 c28) r24, Ch.ro 0 (Sl aaList_0 aList_0 caList_0) aList_0, Ch.ro 0 (Sl aaAt_2 aAt_2 caAt_2) aAt_2] := H
      have hsl : (Sl a41 r38 c42) = (Sl a41 r87.2 c42) := sl_len hn90.symm
      try rw [hsl]
      try rw [hsl] at H
      clear hsl
      refine st (v := (I r87.1)) (rv_assign rfl) ?_
      refine w_end ?_
      refine q_then ?_
      refine c_seq ?_
      refine c_seq ?_
      obtain ⟨o92, hj, h'⟩ := bind_some h
      clear h
      refine c_cut (fun e a w => e = .normal ∧ ∃ (ρ : Nat → Value) (σ : St), a = fr 100 (updL ρ [(0, (Sl aaList_0 aList_0 caList_0)), (1, (I aKind_1)), (2, (Sl aaAt_2 aAt_2 caAt_2)), (3, (I aMost_3)), (10, (Sl a27 r24 c28)), (13, (Sl a48 r45 c49)), (69, (B o92))]) ∧ w = σ.w ∧ Hp S0 σ0 σ [Ch.ro 0 (Sl aaList_0 aList_0 caList_0) aList_0, Ch.ro 0 (Sl aaAt_2 aAt_2 caAt_2) aAt_2, Ch.own n0 n0 (Sl a27 r24 c28) r24, Ch.own 0 n0 (Sl a48 r45 c49) r45]) ?_ ?_
      ·clear h'
       rename _ = some o92 => h
       refine rg ?_
       refine st (v := (I r87.1)) (rv_move rfl) ?_
       refine st (v := (B (decide (r87.1 < 0)))) (rv_lss (a := r87.1) (b := 0) rfl rfl) ?_
       refine st (v := (B (decide (r87.1 < 0)))) (rv_move rfl) ?_
       rcases Bool.eq_false_or_eq_true (decide (r87.1 < 0)) with hb93 | hb93
       ·replace h := bif_t hb93 h
        refine st_skip (congrArg some hb93) ?_
        refine st_skip (congrArg some hb93) ?_
        refine st_skip (congrArg some hb93) ?_
        refine st_skip (congrArg some hb93) ?_
        refine st (v := (B true)) (rv_pick_t (congrArg B hb93) rfl) ?_
        refine w_end ?_
        obtain rfl := Option.some.inj h
        exact ⟨rfl, _, σ91, fr_join ⟨rfl, rfl, rfl, rfl, rfl, rfl, rfl, trivial⟩, rfl, H.sel' [3, 4, 2, 1] rfl rfl⟩
       ·replace h := bif_f hb93 h
        refine st_g (v := (Sl a48 r45 c49)) (congrArg some hb93) (rv_move rfl) ?_
        refine st_g (v := (Sl a27 r24 c28)) (congrArg some hb93) (rv_move rfl) ?_
        obtain ⟨r94, hx95, h'⟩ := bind_some h
        clear h
        have h := h'; clear h'
        have hc96 := c_laws_eqHitS (aa_0 := a48) (ca_0 := c49) (ab_1 := a27) (cb_1 := c28) hx95
        have hle := Nat.le_trans hn0 H.size
        refine st_call (cx_lend (Loan.lend (Loan.lend Loan.nil)) hc96 (ent_f hc96.fn rfl) (show Hp S0 σ0 _ ([Ch.own 0 n0 (Sl a48 r45 c49) r45, Ch.own n0 n0 (Sl a27 r24 c28) r24] ++ ([] ++ [Ch.own 0 0 (Sl a41 r87.2 c42) r87.2, Ch.ro 0 (Sl aaList_0 aList_0 caList_0) aList_0, Ch.ro 0 (Sl aaAt_2 aAt_2 caAt_2) aAt_2])) from (H.sel' [1, 2, 0, 3, 4] rfl rfl)) (by rintro _ _ _ ⟨rfl, rfl⟩; exact trivial)) (wanted_yes rfl (by exact (congrArg some hb93))) ?_
        rintro _ σ97 ⟨_, ⟨rfl, rfl⟩, H, -, -⟩
        replace H : Hp S0 σ0 σ97 [Ch.own 0 n0 (Sl a48 r45 c49) r45, Ch.own n0 n0 (Sl a27 r24 c28) r24, Ch.own 0 0 (Sl a41 r87.2 c42) r87.2, Ch.ro 0 (Sl aaList_0 aList_0 caList_0) aList_0, Ch.ro 0 (Sl aaAt_2 aAt_2 caAt_2) aAt_2] := H
        clear hle
        replace H : Hp S0 σ0 σ97 [Ch.own 0 n0 (Sl a48 r45 c49) r45, Ch.own n0 n0 (Sl a27 r24 c28) r24, Ch.own 0 0 (Sl a41 r87.2 c42) r87.2, Ch.ro 0 (Sl aaList_0 aList_0 caList_0) aList_0, Ch.ro 0 (Sl aaAt_2 aAt_2 caAt_2) aAt_2] := H
        refine st_g (v := (B (!r94))) (congrArg some hb93) (rv_not rfl) ?_
        refine st (v := (B (!r94))) (rv_pick_f (congrArg B hb93) rfl) ?_
        refine w_end ?_
        obtain rfl := Option.some.inj h
        exact ⟨rfl, _, σ97, fr_join ⟨rfl, rfl, rfl, rfl, rfl, rfl, rfl, trivial⟩, rfl, H.sel' [3, 4, 1, 0] rfl rfl⟩
      ·clear hj
       have h := h'
       clear h' H
       rintro e a w ⟨rfl, ρ, σ98, rfl, rfl, H⟩
       refine q_then ?_
       refine cd_cond o92 rfl (fun hb99 => ?_) (fun hb99 => ?_)
       ·replace h := bif_t hb99 h
        refine c_seq ?_
        refine rg ?_
        refine st (v := (B false)) (rv_assign rfl) ?_
        refine w_end ?_
        refine q_then ?_
        refine c_ret ?_
        refine q_then_r ?_
        obtain rfl := Option.some.inj h
        exact fin_ret (v := (B false)) (results_ok Try.results3 (res_tmp (v := (B false)) rfl res_nil) rfl) ⟨rfl, rfl⟩ (H.sel' [] rfl rfl)
       ·replace h := bif_f hb99 h
        refine c_skip ?_
        refine q_then ?_
        refine c_seq ?_
        refine rg ?_
        refine st (v := (I 1)) (rv_assign rfl) ?_
        refine w_end ?_
        refine q_then ?_
        refine c_seq ?_
        refine rg ?_
        refine st (v := (Sl a48 r45 c49)) (rv_move rfl) ?_
        refine st (v := (I 1)) (rv_move rfl) ?_
        replace H := H.ownLow 3 0 0 rfl (Nat.zero_le _) (Nat.zero_le _)
        obtain ⟨r100, hx101, h'⟩ := bind_some h
        clear h
        have h := h'; clear h'
        have hc102 := c_laws_markHitS (aa_0 := a48) (ca_0 := c49) hx101
        refine st_call (cx_call hc102 (ent_f hc102.fn rfl) hn0 (show Hp S0 σ0 _ ([Ch.own 0 0 (Sl a48 r45 c49) r45] ++ [Ch.ro 0 (Sl aaList_0 aList_0 caList_0) aList_0, Ch.ro 0 (Sl aaAt_2 aAt_2 caAt_2) aAt_2, Ch.own n0 n0 (Sl a27 r24 c28) r24]) from (H.sel' [0, 1, 2, 3] rfl rfl))) wn ?_
        rintro _ σ104 ⟨_, ⟨rfl, rfl, hn103⟩, H, -⟩
        replace H : Hp S0 σ0 σ104 [Ch.own 0 0 (Sl a48 r100.2 c49) r100.2, Ch.ro 0 (Sl aaList_0 aList_0 caList_0) aList_0, Ch.ro 0 (Sl aaAt_2 aAt_2 caAt_2) aAt_2, Ch.own n0 n0 (Sl a27 r24 c28) r24] := H
        have hsl : (Sl a48 r45 c49) = (Sl a48 r100.2 c49) := sl_len hn103.symm
        try rw [hsl]
        try rw [hsl] at H
        clear hsl
        refine st (v := (I r100.1)) (rv_assign rfl) ?_
        refine w_end ?_
        refine q_then ?_
        refine c_seq ?_
        refine rg ?_
        refine st (v := (I 1)) (rv_assign rfl) ?_
        refine w_end ?_
        refine q_then ?_
        refine c_seq ?_
        refine rg ?_
        refine st (v := (Sl a48 r100.2 c49)) (rv_move rfl) ?_
        refine st (v := (I 1)) (rv_move rfl) ?_
        obtain ⟨r105, hx106, h'⟩ := bind_some h
        clear h
        have h := h'; clear h'
        have hc107 := c_laws_heldHitS (aa_0 := a48) (ca_0 := c49) hx106
        have hle := Nat.le_trans hn0 H.size
        refine st_call (cx_lend (Loan.lend Loan.nil) hc107 (ent_f hc107.fn rfl) (show Hp S0 σ0 _ ([Ch.own 0 0 (Sl a48 r100.2 c49) r100.2] ++ ([] ++ [Ch.ro 0 (Sl aaList_0 aList_0 caList_0) aList_0, Ch.ro 0 (Sl aaAt_2 aAt_2 caAt_2) aAt_2, Ch.own n0 n0 (Sl a27 r24 c28) r24])) from (H.sel' [0, 1, 2, 3] rfl rfl)) (by rintro _ _ _ ⟨rfl, rfl⟩; exact trivial)) wn ?_
        rintro _ σ108 ⟨_, ⟨rfl, rfl⟩, H, -, -⟩
        replace H : Hp S0 σ0 σ108 [Ch.own 0 0 (Sl a48 r100.2 c49) r100.2, Ch.ro 0 (Sl aaList_0 aList_0 caList_0) aList_0, Ch.ro 0 (Sl aaAt_2 aAt_2 caAt_2) aAt_2, Ch.own n0 n0 (Sl a27 r24 c28) r24] := H
        clear hle
        replace H : Hp S0 σ0 σ108 [Ch.own 0 0 (Sl a48 r100.2 c49) r100.2, Ch.ro 0 (Sl aaList_0 aList_0 caList_0) aList_0, Ch.ro 0 (Sl aaAt_2 aAt_2 caAt_2) aAt_2, Ch.own n0 n0 (Sl a27 r24 c28) r24] := H
        refine st (v := (I r105)) (rv_assign rfl) ?_
        refine w_end ?_
        refine q_then ?_
        refine c_seq ?_
        refine c_seq ?_
        refine rg ?_
        refine st (v := (I r105)) (rv_move rfl) ?_
        refine st (v := (B (decide (r105 < 0)))) (rv_lss (a := r105) (b := 0) rfl rfl) ?_
        refine w_end ?_
        refine q_then ?_
        refine cd_cond (decide (r105 < 0)) rfl (fun hb109 => ?_) (fun hb109 => ?_)
        ·replace h := bif_t hb109 h
         refine c_seq ?_
         refine rg ?_
         refine st (v := (B false)) (rv_assign rfl) ?_
         refine w_end ?_
         refine q_then ?_
         refine c_ret ?_
         refine q_then_r ?_
         obtain rfl := Option.some.inj h
         exact fin_ret (v := (B false)) (results_ok Try.results3 (res_tmp (v := (B false)) rfl res_nil) rfl) ⟨rfl, rfl⟩ (H.sel' [] rfl rfl)
        ·replace h := bif_f hb109 h
         refine c_skip ?_
         refine q_then ?_
         refine c_seq ?_
         refine c_seq ?_
         refine rg ?_
         refine st (v := (I r105)) (rv_move rfl) ?_
         refine st (v := (I r100.1)) (rv_move rfl) ?_
         refine st (v := (B (r105 != r100.1))) (rv_neq (a := r105) (b := r100.1) rfl rfl) ?_
         refine w_end ?_
         refine q_then ?_
         refine cd_cond (r105 != r100.1) rfl (fun hb110 => ?_) (fun hb110 => ?_)
         ·replace h := bif_t hb110 h
          refine c_seq ?_
          refine rg ?_
          refine st (v := (B false)) (rv_assign rfl) ?_
          refine w_end ?_
          refine q_then ?_
          refine c_ret ?_
          refine q_then_r ?_
          obtain rfl := Option.some.inj h
          exact fin_ret (v := (B false)) (results_ok Try.results3 (res_tmp (v := (B false)) rfl res_nil) rfl) ⟨rfl, rfl⟩ (H.sel' [] rfl rfl)
         ·replace h := bif_f hb110 h
          refine c_skip ?_
          refine q_then ?_
          refine c_seq ?_
          refine rg ?_
          refine st (v := (Sl aaList_0 aList_0 caList_0)) (rv_move rfl) ?_
          obtain ⟨r111, hx112, h'⟩ := bind_some h
          clear h
          have h := h'; clear h'
          have hc113 := c_laws_toItemS (aa_0 := aaList_0) (ca_0 := caList_0) hx112
          refine st_call (cx_call hc113 (ent_f hc113.fn rfl) hn0 (show Hp S0 σ0 _ ([Ch.ro 0 (Sl aaList_0 aList_0 caList_0) aList_0] ++ [Ch.own 0 0 (Sl a48 r100.2 c49) r100.2, Ch.ro 0 (Sl aaList_0 aList_0 caList_0) aList_0, Ch.ro 0 (Sl aaAt_2 aAt_2 caAt_2) aAt_2, Ch.own n0 n0 (Sl a27 r24 c28) r24]) from (H.sel' [1, 0, 1, 2, 3] rfl rfl))) wn ?_
          rintro _ σ118 ⟨_, ⟨a114, c115, K116, rfl, rfl, hK117⟩, H, -⟩
          replace H : Hp S0 σ0 σ118 [Ch.big K116, Ch.own 0 0 (Sl a48 r100.2 c49) r100.2, Ch.ro 0 (Sl aaList_0 aList_0 caList_0) aList_0, Ch.ro 0 (Sl aaAt_2 aAt_2 caAt_2) aAt_2, Ch.own n0 n0 (Sl a27 r24 c28) r24] := H
          refine st (v := (I aKind_1)) (rv_move rfl) ?_
          refine st (v := (Sl aaAt_2 aAt_2 caAt_2)) (rv_move rfl) ?_
          obtain ⟨r119, hx120, h'⟩ := bind_some h
          clear h
          have h := h'; clear h'
          have hc121 := c_laws_toIntS (aa_0 := aaAt_2) (ca_0 := caAt_2) hx120
          refine st_call (cx_call hc121 (ent_f hc121.fn rfl) hn0 (show Hp S0 σ0 _ ([Ch.ro 0 (Sl aaAt_2 aAt_2 caAt_2) aAt_2] ++ [Ch.big K116, Ch.own 0 0 (Sl a48 r100.2 c49) r100.2, Ch.ro 0 (Sl aaList_0 aList_0 caList_0) aList_0, Ch.ro 0 (Sl aaAt_2 aAt_2 caAt_2) aAt_2, Ch.own n0 n0 (Sl a27 r24 c28) r24]) from (H.sel' [3, 0, 1, 2, 3, 4] rfl rfl))) wn ?_
          rintro _ σ125 ⟨_, ⟨a122, c123, rfl, rfl, ht124⟩, H, -⟩
          replace H : Hp S0 σ0 σ125 [Ch.own n0 n0 (Sl a122 r119 c123) r119, Ch.big K116, Ch.own 0 0 (Sl a48 r100.2 c49) r100.2, Ch.ro 0 (Sl aaList_0 aList_0 caList_0) aList_0, Ch.ro 0 (Sl aaAt_2 aAt_2 caAt_2) aAt_2, Ch.own n0 n0 (Sl a27 r24 c28) r24] := H
          refine st (v := (I aMost_3)) (rv_move rfl) ?_
          obtain ⟨σ126, hw127, H, -⟩ := H.pub 0 rfl (Nat.le_refl _)
          rw [← hw127]; clear hw127
          replace H := H.roLow 0 0 rfl (Nat.zero_le _)
          obtain ⟨r128, hx129, h'⟩ := bind_some h
          clear h
          have h := h'; clear h'
          have hc130 := c_impl_WithinDist (alist_0 := a114) (clist_0 := c115) (aat_2 := a122) (cat_2 := c123) hx129
          have hle := Nat.le_trans hn0 H.size
          refine st_call (cx_lend (Loan.lendB hK117.lends (Loan.same Loan.nil)) hc130 (ent_f hc130.fn rfl) (show Hp S0 σ0 _ ([Ch.big K116] ++ ([Ch.ro 0 (Sl a122 r119 c123) r119] ++ [Ch.ro 0 (Sl a122 r119 c123) r119, Ch.ro n0 (Sl a122 r119 c123) r119, Ch.own 0 0 (Sl a48 r100.2 c49) r100.2, Ch.ro 0 (Sl aaList_0 aList_0 caList_0) aList_0, Ch.ro 0 (Sl aaAt_2 aAt_2 caAt_2) aAt_2, Ch.own n0 n0 (Sl a27 r24 c28) r24])) from (H.sel' [2, 0, 0, 1, 3, 4, 5, 6] rfl rfl)) (by rintro _ _ _ ⟨_, _, rfl, rfl⟩; exact ⟨Ab.ownSc, trivial⟩)) wn ?_
          rintro _ σ133 ⟨_, ⟨a131, c132, rfl, rfl⟩, H, -, -⟩
          replace H : Hp S0 σ0 σ133 [Ch.own 0 σ126.size (Sl a131 r128 c132) r128, Ch.big K116, Ch.ro 0 (Sl a122 r119 c123) r119, Ch.ro n0 (Sl a122 r119 c123) r119, Ch.own 0 0 (Sl a48 r100.2 c49) r100.2, Ch.ro 0 (Sl aaList_0 aList_0 caList_0) aList_0, Ch.ro 0 (Sl aaAt_2 aAt_2 caAt_2) aAt_2, Ch.own n0 n0 (Sl a27 r24 c28) r24] := H
          replace H := H.ownLow 0 0 n0 rfl (Nat.le_refl _) hle
          clear hle
          replace H : Hp S0 σ0 σ133 [Ch.own 0 n0 (Sl a131 r128 c132) r128, Ch.big K116, Ch.ro 0 (Sl a122 r119 c123) r119, Ch.ro n0 (Sl a122 r119 c123) r119, Ch.own 0 0 (Sl a48 r100.2 c49) r100.2, Ch.ro 0 (Sl aaList_0 aList_0 caList_0) aList_0, Ch.ro 0 (Sl aaAt_2 aAt_2 caAt_2) aAt_2, Ch.own n0 n0 (Sl a27 r24 c28) r24] := H
          replace H : Hp S0 σ0 σ133 [Ch.own 0 n0 (Sl a131 r128 c132) r128, Ch.own 0 0 (Sl a48 r100.2 c49) r100.2, Ch.own n0 n0 (Sl a27 r24 c28) r24] := H.sel' [0, 4, 7] rfl rfl
          refine st (v := (Sl a131 r128 c132)) (rv_assign rfl) ?_
          refine w_end ?_
          refine q_then ?_
          refine c_seq ?_
          refine c_seq ?_
          refine rg ?_
          refine st (v := (Sl a131 r128 c132)) (rv_move rfl) ?_
          refine st (v := (Sl a27 r24 c28)) (rv_move rfl) ?_
          replace H := H.ownLow 0 0 0 rfl (Nat.le_refl _) (Nat.zero_le _)
          obtain ⟨σ134, hw135, H, -⟩ := H.pub 0 rfl (Nat.le_refl _)
          rw [← hw135]; clear hw135
          obtain ⟨σ136, hw137, H, -⟩ := H.pub 2 rfl (Nat.le_refl _)
          rw [← hw137]; clear hw137
          replace H := H.roLow 0 0 rfl (Nat.zero_le _)
          obtain ⟨r138, hx139, h'⟩ := bind_some h
          clear h
          have h := h'; clear h'
          have hc140 := c_laws_eqHitS (aa_0 := a131) (ca_0 := c132) (ab_1 := a27) (cb_1 := c28) hx139
          refine st_call (cx_call hc140 (ent_f hc140.fn rfl) hn0 (show Hp S0 σ0 _ ([Ch.ro 0 (Sl a131 r128 c132) r128, Ch.ro 0 (Sl a27 r24 c28) r24] ++ [Ch.ro 0 (Sl a27 r24 c28) r24, Ch.ro n0 (Sl a27 r24 c28) r24, Ch.ro 0 (Sl a131 r128 c132) r128, Ch.own 0 0 (Sl a48 r100.2 c49) r100.2]) from (H.sel' [2, 0, 0, 1, 2, 3] rfl rfl))) wn ?_
          rintro _ σ141 ⟨_, ⟨rfl, rfl⟩, H, -⟩
          replace H : Hp S0 σ0 σ141 [Ch.ro 0 (Sl a27 r24 c28) r24, Ch.ro n0 (Sl a27 r24 c28) r24, Ch.ro 0 (Sl a131 r128 c132) r128, Ch.own 0 0 (Sl a48 r100.2 c49) r100.2] := H
          refine st (v := (B (!r138))) (rv_not rfl) ?_
          refine w_end ?_
          refine q_then ?_
          refine cd_cond (!r138) rfl (fun hb142 => ?_) (fun hb142 => ?_)
          ·replace h := bif_t hb142 h
           refine c_seq ?_
           refine rg ?_
           refine st (v := (B false)) (rv_assign rfl) ?_
           refine w_end ?_
           refine q_then ?_
           refine c_ret ?_
           refine q_then_r ?_
           obtain rfl := Option.some.inj h
           exact fin_ret (v := (B false)) (results_ok Try.results3 (res_tmp (v := (B false)) rfl res_nil) rfl) ⟨rfl, rfl⟩ (H.sel' [] rfl rfl)
          ·replace h := bif_f hb142 h
           refine c_skip ?_
           refine q_then ?_
           refine c_seq ?_
           refine rg ?_
           refine st (v := (I 1)) (rv_assign rfl) ?_
           refine w_end ?_
           refine q_then ?_
           refine c_seq ?_
           refine rg ?_
           refine st (v := (Sl a48 r100.2 c49)) (rv_move rfl) ?_
           refine st (v := (I 1)) (rv_move rfl) ?_
           obtain ⟨σ143, hw144, H, -⟩ := H.pub 3 rfl (Nat.le_refl _)
           rw [← hw144]; clear hw144
           obtain ⟨r145, hx146, h'⟩ := bind_some h
           clear h
           have h := h'; clear h'
           have hc147 := c_laws_heldHitS (aa_0 := a48) (ca_0 := c49) hx146
           refine st_call (cx_call hc147 (ent_f hc147.fn rfl) hn0 (show Hp S0 σ0 _ ([Ch.ro 0 (Sl a48 r100.2 c49) r100.2] ++ [Ch.ro 0 (Sl a48 r100.2 c49) r100.2, Ch.ro 0 (Sl a27 r24 c28) r24, Ch.ro n0 (Sl a27 r24 c28) r24, Ch.ro 0 (Sl a131 r128 c132) r128]) from (H.sel' [0, 0, 1, 2, 3] rfl rfl))) wn ?_
           rintro _ σ148 ⟨_, ⟨rfl, rfl⟩, H, -⟩
           replace H : Hp S0 σ0 σ148 [Ch.ro 0 (Sl a48 r100.2 c49) r100.2, Ch.ro 0 (Sl a27 r24 c28) r24, Ch.ro n0 (Sl a27 r24 c28) r24, Ch.ro 0 (Sl a131 r128 c132) r128] := H
           refine st (v := (I r145)) (rv_assign rfl) ?_
           refine w_end ?_
           refine q_then ?_
           refine c_seq ?_
           refine c_seq ?_
           refine rg ?_
           refine st (v := (I r145)) (rv_move rfl) ?_
           refine st (v := (B (decide (r145 < 0)))) (rv_lss (a := r145) (b := 0) rfl rfl) ?_
           refine w_end ?_
           refine q_then ?_
           refine cd_cond (decide (r145 < 0)) rfl (fun hb149 => ?_) (fun hb149 => ?_)
           ·replace h := bif_t hb149 h
            refine c_seq ?_
            refine rg ?_
            refine st (v := (B false)) (rv_assign rfl) ?_
            refine w_end ?_
            refine q_then ?_
            refine c_ret ?_
            refine q_then_r ?_
            obtain rfl := Option.some.inj h
            exact fin_ret (v := (B false)) (results_ok Try.results3 (res_tmp (v := (B false)) rfl res_nil) rfl) ⟨rfl, rfl⟩ (H.sel' [] rfl rfl)
           ·replace h := bif_f hb149 h
            refine c_skip ?_
            refine q_then ?_
            refine c_seq ?_
            refine c_seq ?_
            refine rg ?_
            refine st (v := (I r145)) (rv_move rfl) ?_
            refine st (v := (I r100.1)) (rv_move rfl) ?_
            refine st (v := (B (r145 != r100.1))) (rv_neq (a := r145) (b := r100.1) rfl rfl) ?_
            refine w_end ?_
            refine q_then ?_
            refine cd_cond (r145 != r100.1) rfl (fun hb150 => ?_) (fun hb150 => ?_)
            ·replace h := bif_t hb150 h
             refine c_seq ?_
             refine rg ?_
             refine st (v := (B false)) (rv_assign rfl) ?_
             refine w_end ?_
             refine q_then ?_
             refine c_ret ?_
             refine q_then_r ?_
             obtain rfl := Option.some.inj h
             exact fin_ret (v := (B false)) (results_ok Try.results3 (res_tmp (v := (B false)) rfl res_nil) rfl) ⟨rfl, rfl⟩ (H.sel' [] rfl rfl)
            ·replace h := bif_f hb150 h
             refine c_skip ?_
             refine q_then ?_
             refine c_seq ?_
             refine rg ?_
             refine st (v := (B true)) (rv_assign rfl) ?_
             refine w_end ?_
             refine q_then ?_
             refine c_ret ?_
             obtain rfl := Option.some.inj h
             exact fin_ret (v := (B true)) (results_ok Try.results3 (res_tmp (v := (B true)) rfl res_nil) rfl) ⟨rfl, rfl⟩ (H.sel' [] rfl rfl)

end Go.Vs
