/- The functions compute what their models say. -/
import Derived.Test.YtnkflplbeagljaaKMergeHitsStoresC4
set_option linter.unusedVariables false
set_option linter.unusedSimpArgs false
set_option maxRecDepth 20000
namespace Go.Vs
open Go Go.Proofs
attribute [local irreducible] Code.wp Code.wpIn wpList wpListIn wpQuiet Calls CallsIn

theorem c_laws_FnMergeHitsStores {code_0 : List UInt8} {acode_0 : Option Addr} {ccode_0 : Nat} {r : Bool} (h : M.laws_FnMergeHitsStores code_0 = some r) :
    Cal2 Try.prog 7 [(Sl acode_0 code_0 ccode_0)] [Ch.ro 0 (Sl acode_0 code_0 ccode_0) code_0] (fun n0 v L => v = (B r) ∧ L = []) := by
 refine cal2 (n := 65) Try.func7 rfl rfl rfl rfl ?_
 intro S0 σ0 n0 hn0 H
 unfold M.laws_FnMergeHitsStores at h
 refine c_seq ?_
 refine rg ?_
 refine st (v := (B false)) (rv_assign rfl) ?_
 refine w_end ?_
 refine q_then ?_
 refine c_seq ?_
 refine c_seq ?_
 refine rg ?_
 refine st (v := (Sl acode_0 code_0 ccode_0)) (rv_move rfl) ?_
 refine st (v := (I (code_0.length : Int))) (rv_len Try.underlying22 rfl) ?_
 refine st (v := (B (decide (1048576 < (code_0.length : Int))))) (rv_gtr (a := (code_0.length : Int)) (b := 1048576) rfl rfl) ?_
 refine w_end ?_
 refine q_then ?_
 refine cd_cond (decide (1048576 < (code_0.length : Int))) rfl (fun hb1 => ?_) (fun hb1 => ?_)
 ·replace h := bif_t hb1 h
  refine c_seq ?_
  refine rg ?_
  refine st (v := (B true)) (rv_assign rfl) ?_
  refine w_end ?_
  refine q_then ?_
  refine c_ret ?_
  refine q_then_r ?_
  obtain rfl := Option.some.inj h
  exact fin_ret (v := (B true)) (results_ok Try.results7 (res_tmp (v := (B true)) rfl res_nil) rfl) ⟨rfl, rfl⟩ (H.sel' [] rfl rfl)
 ·replace h := bif_f hb1 h
  refine c_skip ?_
  refine q_then ?_
  refine c_seq ?_
  refine rg ?_
  refine st (v := (Sl acode_0 code_0 ccode_0)) (rv_move rfl) ?_
  obtain ⟨r2, hx3, h'⟩ := bind_some h
  clear h
  have h := h'; clear h'
  have hc4 := c_spec_DrawNearest (acode_0 := acode_0) (ccode_0 := ccode_0) hx3
  refine st_call (cx_call hc4 (ent_f hc4.fn rfl) hn0 (show Hp S0 σ0 _ ([Ch.ro 0 (Sl acode_0 code_0 ccode_0) code_0] ++ [Ch.ro 0 (Sl acode_0 code_0 ccode_0) code_0]) from (H.sel' [0, 0] rfl rfl))) wn ?_
  rintro _ σ9 ⟨_, ⟨a5, c6, a7, c8, rfl, rfl⟩, H, -⟩
  replace H : Hp S0 σ0 σ9 [Ch.own n0 n0 (Sl a5 r2.1 c6) r2.1, Ch.own n0 n0 (Sl a7 r2.2.2.1 c8) r2.2.2.1, Ch.ro 0 (Sl acode_0 code_0 ccode_0) code_0] := H
  refine st (v := (.tuple #[(Sl a5 r2.1 c6), (I r2.2.1), (Sl a7 r2.2.2.1 c8), (I r2.2.2.2)])) (rv_move rfl) ?_
  refine st (v := (Sl a5 r2.1 c6)) (rv_extract rfl rfl) ?_
  refine st (v := (I r2.2.1)) (rv_extract rfl rfl) ?_
  refine st (v := (Sl a7 r2.2.2.1 c8)) (rv_extract rfl rfl) ?_
  refine st (v := (I r2.2.2.2)) (rv_extract rfl rfl) ?_
  refine st (v := (Sl a5 r2.1 c6)) (rv_assign rfl) ?_
  refine st (v := (I r2.2.1)) (rv_assign rfl) ?_
  refine st (v := (Sl a7 r2.2.2.1 c8)) (rv_assign rfl) ?_
  refine st (v := (I r2.2.2.2)) (rv_assign rfl) ?_
  refine w_end ?_
  refine q_then ?_
  refine c_seq ?_
  refine rg ?_
  refine st (v := (Sl a5 r2.1 c6)) (rv_move rfl) ?_
  refine st (v := (I r2.2.1)) (rv_move rfl) ?_
  refine st (v := (Sl a7 r2.2.2.1 c8)) (rv_move rfl) ?_
  refine st (v := (I r2.2.2.2)) (rv_move rfl) ?_
  obtain ⟨r10, hx11, h'⟩ := bind_some h
  clear h
  have h := h'; clear h'
  have hc12 := c_impl_Nearest (alist_0 := a5) (clist_0 := c6) (aat_2 := a7) (cat_2 := c8) hx11
  have hle := Nat.le_trans hn0 H.size
  refine st_call (cx_lend (Loan.lend (Loan.lend Loan.nil)) hc12 (ent_f hc12.fn rfl) (show Hp S0 σ0 _ ([Ch.own n0 n0 (Sl a5 r2.1 c6) r2.1, Ch.own n0 n0 (Sl a7 r2.2.2.1 c8) r2.2.2.1] ++ ([] ++ [Ch.ro 0 (Sl acode_0 code_0 ccode_0) code_0])) from (H.sel' [0, 1, 2] rfl rfl)) (by rintro _ _ _ ⟨_, _, rfl, rfl⟩; exact ⟨Ab.ownSc, trivial⟩)) wn ?_
  rintro _ σ15 ⟨_, ⟨a13, c14, rfl, rfl⟩, H, -, -⟩
  replace H : Hp S0 σ0 σ15 [Ch.own 0 σ9.size (Sl a13 r10 c14) r10, Ch.own n0 n0 (Sl a5 r2.1 c6) r2.1, Ch.own n0 n0 (Sl a7 r2.2.2.1 c8) r2.2.2.1, Ch.ro 0 (Sl acode_0 code_0 ccode_0) code_0] := H
  replace H := H.ownLow 0 0 n0 rfl (Nat.le_refl _) hle
  clear hle
  replace H : Hp S0 σ0 σ15 [Ch.own 0 n0 (Sl a13 r10 c14) r10, Ch.own n0 n0 (Sl a5 r2.1 c6) r2.1, Ch.own n0 n0 (Sl a7 r2.2.2.1 c8) r2.2.2.1, Ch.ro 0 (Sl acode_0 code_0 ccode_0) code_0] := H
  refine st (v := (Sl a13 r10 c14)) (rv_assign rfl) ?_
  refine w_end ?_
  refine q_then ?_
  refine c_seq ?_
  refine c_seq ?_
  obtain ⟨o16, hj, h'⟩ := bind_some h
  clear h
  refine c_cut (fun e a w => e = .normal ∧ ∃ (ρ : Nat → Value) (σ : St), a = fr 65 (updL ρ [(3, (Sl a5 r2.1 c6)), (4, (I r2.2.1)), (5, (Sl a7 r2.2.2.1 c8)), (6, (I r2.2.2.2)), (7, (Sl a13 r10 c14)), (36, (B o16))]) ∧ w = σ.w ∧ Hp S0 σ0 σ [Ch.own n0 n0 (Sl a5 r2.1 c6) r2.1, Ch.own n0 n0 (Sl a7 r2.2.2.1 c8) r2.2.2.1, Ch.own 0 n0 (Sl a13 r10 c14) r10]) ?_ ?_
  ·clear h'
   rename _ = some o16 => h
   refine rg ?_
   refine st (v := (Sl a13 r10 c14)) (rv_move rfl) ?_
   refine st (v := (Sl a5 r2.1 c6)) (rv_move rfl) ?_
   refine st (v := (I r2.2.1)) (rv_move rfl) ?_
   refine st (v := (Sl a7 r2.2.2.1 c8)) (rv_move rfl) ?_
   refine st (v := (I r2.2.2.2)) (rv_move rfl) ?_
   obtain ⟨r17, hx18, h'⟩ := bind_some h
   clear h
   have h := h'; clear h'
   have hc19 := c_spec_Nearest (alist_0 := a5) (clist_0 := c6) (aat_2 := a7) (cat_2 := c8) hx18
   have hle := Nat.le_trans hn0 H.size
   refine st_call (cx_lend (Loan.lend (Loan.lend Loan.nil)) hc19 (ent_f hc19.fn rfl) (show Hp S0 σ0 _ ([Ch.own n0 n0 (Sl a5 r2.1 c6) r2.1, Ch.own n0 n0 (Sl a7 r2.2.2.1 c8) r2.2.2.1] ++ ([] ++ [Ch.own 0 n0 (Sl a13 r10 c14) r10, Ch.ro 0 (Sl acode_0 code_0 ccode_0) code_0])) from (H.sel' [1, 2, 0, 3] rfl rfl)) (by rintro _ _ _ ⟨_, _, rfl, rfl⟩; exact ⟨Ab.ownSc, trivial⟩)) wn ?_
   rintro _ σ22 ⟨_, ⟨a20, c21, rfl, rfl⟩, H, -, -⟩
   replace H : Hp S0 σ0 σ22 [Ch.own σ15.size σ15.size (Sl a20 r17 c21) r17, Ch.own n0 n0 (Sl a5 r2.1 c6) r2.1, Ch.own n0 n0 (Sl a7 r2.2.2.1 c8) r2.2.2.1, Ch.own 0 n0 (Sl a13 r10 c14) r10, Ch.ro 0 (Sl acode_0 code_0 ccode_0) code_0] := H
   replace H := H.ownLow 0 n0 n0 rfl hle hle
   clear hle
   replace H : Hp S0 σ0 σ22 [Ch.own n0 n0 (Sl a20 r17 c21) r17, Ch.own n0 n0 (Sl a5 r2.1 c6) r2.1, Ch.own n0 n0 (Sl a7 r2.2.2.1 c8) r2.2.2.1, Ch.own 0 n0 (Sl a13 r10 c14) r10, Ch.ro 0 (Sl acode_0 code_0 ccode_0) code_0] := H
   obtain ⟨σ23, hw24, H, -⟩ := H.pub 0 rfl (Nat.le_refl _)
   rw [← hw24]; clear hw24
   replace H := H.roLow 0 0 rfl (Nat.zero_le _)
   obtain ⟨r25, hx26, h'⟩ := bind_some h
   clear h
   have h := h'; clear h'
   have hc27 := c_laws_equalHits (aa_0 := a13) (ca_0 := c14) (ab_1 := a20) (cb_1 := c21) hx26
   have hle := Nat.le_trans hn0 H.size
   refine st_call (cx_lend (Loan.lend (Loan.same Loan.nil)) hc27 (ent_f hc27.fn rfl) (show Hp S0 σ0 _ ([Ch.own 0 n0 (Sl a13 r10 c14) r10] ++ ([Ch.ro 0 (Sl a20 r17 c21) r17] ++ [Ch.ro 0 (Sl a20 r17 c21) r17, Ch.ro n0 (Sl a20 r17 c21) r17, Ch.own n0 n0 (Sl a5 r2.1 c6) r2.1, Ch.own n0 n0 (Sl a7 r2.2.2.1 c8) r2.2.2.1, Ch.ro 0 (Sl acode_0 code_0 ccode_0) code_0])) from (H.sel' [4, 0, 0, 1, 2, 3, 5] rfl rfl)) (by rintro _ _ _ ⟨rfl, rfl⟩; exact trivial)) wn ?_
   rintro _ σ28 ⟨_, ⟨rfl, rfl⟩, H, -, -⟩
   replace H : Hp S0 σ0 σ28 [Ch.own 0 n0 (Sl a13 r10 c14) r10, Ch.ro 0 (Sl a20 r17 c21) r17, Ch.ro n0 (Sl a20 r17 c21) r17, Ch.own n0 n0 (Sl a5 r2.1 c6) r2.1, Ch.own n0 n0 (Sl a7 r2.2.2.1 c8) r2.2.2.1, Ch.ro 0 (Sl acode_0 code_0 ccode_0) code_0] := H
   clear hle
   replace H : Hp S0 σ0 σ28 [Ch.own 0 n0 (Sl a13 r10 c14) r10, Ch.ro 0 (Sl a20 r17 c21) r17, Ch.ro n0 (Sl a20 r17 c21) r17, Ch.own n0 n0 (Sl a5 r2.1 c6) r2.1, Ch.own n0 n0 (Sl a7 r2.2.2.1 c8) r2.2.2.1, Ch.ro 0 (Sl acode_0 code_0 ccode_0) code_0] := H
   refine st (v := (B (!r25))) (rv_not rfl) ?_
   refine st (v := (B (!r25))) (rv_move rfl) ?_
   rcases Bool.eq_false_or_eq_true (!r25) with hb29 | hb29
   ·replace h := bif_t hb29 h
    refine st_skip (congrArg some hb29) ?_
    refine st_skip (congrArg some hb29) ?_
    refine st_skip (congrArg some hb29) ?_
    refine st (v := (B true)) (rv_pick_t (congrArg B hb29) rfl) ?_
    refine w_end ?_
    obtain rfl := Option.some.inj h
    exact ⟨rfl, _, σ28, fr_join ⟨rfl, rfl, rfl, rfl, rfl, rfl, trivial⟩, rfl, H.sel' [3, 4, 0] rfl rfl⟩
   ·replace h := bif_f hb29 h
    refine st_g (v := (Sl a13 r10 c14)) (congrArg some hb29) (rv_move rfl) ?_
    refine st_g (v := (I (r10.length : Int))) (congrArg some hb29) (rv_len Try.underlying27 rfl) ?_
    refine st_g (v := (B ((r10.length : Int) == 0))) (congrArg some hb29) (rv_eql (a := (r10.length : Int)) (b := 0) rfl rfl) ?_
    refine st (v := (B ((r10.length : Int) == 0))) (rv_pick_f (congrArg B hb29) rfl) ?_
    refine w_end ?_
    obtain rfl := Option.some.inj h
    exact ⟨rfl, _, σ28, fr_join ⟨rfl, rfl, rfl, rfl, rfl, rfl, trivial⟩, rfl, H.sel' [3, 4, 0] rfl rfl⟩
  ·clear hj
   have h := h'
   clear h' H
   rintro e a w ⟨rfl, ρ, σ30, rfl, rfl, H⟩
   refine q_then ?_
   refine cd_cond o16 rfl (fun hb31 => ?_) (fun hb31 => ?_)
   ·replace h := bif_t hb31 h
    refine c_seq ?_
    refine rg ?_
    refine st (v := (Sl a13 r10 c14)) (rv_move rfl) ?_
    refine st (v := (Sl a5 r2.1 c6)) (rv_move rfl) ?_
    refine st (v := (I r2.2.1)) (rv_move rfl) ?_
    refine st (v := (Sl a7 r2.2.2.1 c8)) (rv_move rfl) ?_
    refine st (v := (I r2.2.2.2)) (rv_move rfl) ?_
    obtain ⟨σ32, hw33, H, -⟩ := H.pub 0 rfl (Nat.le_refl _)
    rw [← hw33]; clear hw33
    obtain ⟨σ34, hw35, H, -⟩ := H.pub 1 rfl (Nat.le_refl _)
    rw [← hw35]; clear hw35
    replace H := H.roLow 1 0 rfl (Nat.zero_le _)
    replace H := H.roLow 1 0 rfl (Nat.zero_le _)
    obtain ⟨r36, hx37, h'⟩ := bind_some h
    clear h
    have h := h'; clear h'
    have hc38 := c_spec_Nearest (alist_0 := a5) (clist_0 := c6) (aat_2 := a7) (cat_2 := c8) hx37
    refine st_call (cx_call hc38 (ent_f hc38.fn rfl) hn0 (show Hp S0 σ0 _ ([Ch.ro 0 (Sl a5 r2.1 c6) r2.1, Ch.ro 0 (Sl a7 r2.2.2.1 c8) r2.2.2.1] ++ [Ch.ro 0 (Sl a7 r2.2.2.1 c8) r2.2.2.1, Ch.ro 0 (Sl a5 r2.1 c6) r2.1, Ch.ro n0 (Sl a7 r2.2.2.1 c8) r2.2.2.1, Ch.ro n0 (Sl a5 r2.1 c6) r2.1, Ch.own 0 n0 (Sl a13 r10 c14) r10]) from (H.sel' [1, 0, 0, 1, 2, 3, 4] rfl rfl))) wn ?_
    rintro _ σ41 ⟨_, ⟨a39, c40, rfl, rfl⟩, H, -⟩
    replace H : Hp S0 σ0 σ41 [Ch.own n0 n0 (Sl a39 r36 c40) r36, Ch.ro 0 (Sl a7 r2.2.2.1 c8) r2.2.2.1, Ch.ro 0 (Sl a5 r2.1 c6) r2.1, Ch.ro n0 (Sl a7 r2.2.2.1 c8) r2.2.2.1, Ch.ro n0 (Sl a5 r2.1 c6) r2.1, Ch.own 0 n0 (Sl a13 r10 c14) r10] := H
    replace H := H.ownLow 5 0 0 rfl (Nat.le_refl _) (Nat.zero_le _)
    obtain ⟨σ42, hw43, H, -⟩ := H.pub 0 rfl (Nat.le_refl _)
    rw [← hw43]; clear hw43
    obtain ⟨σ44, hw45, H, -⟩ := H.pub 1 rfl (Nat.le_refl _)
    rw [← hw45]; clear hw45
    replace H := H.roLow 0 0 rfl (Nat.zero_le _)
    obtain ⟨r46, hx47, h'⟩ := bind_some h
    clear h
    have h := h'; clear h'
    have hc48 := c_laws_equalHits (aa_0 := a13) (ca_0 := c14) (ab_1 := a39) (cb_1 := c40) hx47
    refine st_call (cx_call hc48 (ent_f hc48.fn rfl) hn0 (show Hp S0 σ0 _ ([Ch.ro 0 (Sl a13 r10 c14) r10, Ch.ro 0 (Sl a39 r36 c40) r36] ++ [Ch.ro 0 (Sl a39 r36 c40) r36, Ch.ro n0 (Sl a39 r36 c40) r36, Ch.ro 0 (Sl a13 r10 c14) r10, Ch.ro 0 (Sl a7 r2.2.2.1 c8) r2.2.2.1, Ch.ro 0 (Sl a5 r2.1 c6) r2.1, Ch.ro n0 (Sl a7 r2.2.2.1 c8) r2.2.2.1, Ch.ro n0 (Sl a5 r2.1 c6) r2.1]) from (H.sel' [2, 0, 0, 1, 2, 3, 4, 5, 6] rfl rfl))) wn ?_
    rintro _ σ49 ⟨_, ⟨rfl, rfl⟩, H, -⟩
    replace H : Hp S0 σ0 σ49 [Ch.ro 0 (Sl a39 r36 c40) r36, Ch.ro n0 (Sl a39 r36 c40) r36, Ch.ro 0 (Sl a13 r10 c14) r10, Ch.ro 0 (Sl a7 r2.2.2.1 c8) r2.2.2.1, Ch.ro 0 (Sl a5 r2.1 c6) r2.1, Ch.ro n0 (Sl a7 r2.2.2.1 c8) r2.2.2.1, Ch.ro n0 (Sl a5 r2.1 c6) r2.1] := H
    refine st (v := (B r46)) (rv_assign rfl) ?_
    refine w_end ?_
    refine q_then ?_
    refine c_ret ?_
    refine q_then_r ?_
    obtain rfl := Option.some.inj h
    exact fin_ret (v := (B r46)) (results_ok Try.results7 (res_tmp (v := (B r46)) rfl res_nil) rfl) ⟨rfl, rfl⟩ (H.sel' [] rfl rfl)
   ·replace h := bif_f hb31 h
    refine c_skip ?_
    refine q_then ?_
    refine c_seq ?_
    refine rg ?_
    refine st (v := (Sl a5 r2.1 c6)) (rv_move rfl) ?_
    refine st (v := (I (r2.1.length : Int))) (rv_len Try.underlying23 rfl) ?_
    refine st (v := (I (w64 ((r2.1.length : Int).tdiv 2)))) (rv_quo (a := (r2.1.length : Int)) (b := 2) rfl rfl (by decide)) ?_
    refine st (v := (I (w64 ((r2.1.length : Int).tdiv 2)))) (rv_assign rfl) ?_
    refine w_end ?_
    refine q_then ?_
    refine c_seq ?_
    obtain ⟨σ50, hw51, H, -⟩ := H.pub 0 rfl (Nat.le_refl _)
    rw [← hw51]; clear hw51
    obtain ⟨σ52, hw53, H, -⟩ := H.pub 1 rfl (Nat.le_refl _)
    rw [← hw53]; clear hw53
    obtain ⟨xs54, hx55, h'⟩ := bind_some h
    clear h
    have h := h'; clear h'
    obtain ⟨a56, c57, hs58, hR59⟩ := (H.ro 1 rfl).slice hx55
    replace H := H.add (d := Ch.ro n0 (Sl a56 xs54 c57) xs54) hR59 (fun _ h => h)
    clear hR59
    replace H := H.roLow 0 0 rfl (Nat.zero_le _)
    replace H := H.roLow 2 0 rfl (Nat.zero_le _)
    obtain ⟨r60, hx61, h'⟩ := bind_some h
    clear h
    have h := h'; clear h'
    have hc62 := c_impl_Nearest (alist_0 := a56) (clist_0 := c57) (aat_2 := a7) (cat_2 := c8) hx61
    obtain ⟨xs65, hx66, h'⟩ := bind_some h
    clear h
    have h := h'; clear h'
    obtain ⟨a67, c68, hs69, hR70⟩ := (H.ro 4 rfl).slice hx66
    replace H := H.add (d := Ch.ro n0 (Sl a67 xs65 c68) xs65) hR70 (fun _ h => h)
    clear hR70
    replace H := H.roLow 0 0 rfl (Nat.zero_le _)
    replace H := H.roLow 5 0 rfl (Nat.zero_le _)
    obtain ⟨r71, hx72, h'⟩ := bind_some h
    clear h
    have h := h'; clear h'
    have hc73 := c_impl_Nearest (alist_0 := a67) (clist_0 := c68) (aat_2 := a7) (cat_2 := c8) hx72
    obtain ⟨r76, hx77, h'⟩ := bind_some h
    clear h
    have h := h'; clear h'
    have hc78 := fun (a63 : Option Addr) (c64 : Nat) (a74 : Option Addr) (c75 : Nat) => c_impl_MergeHits (aa_0 := a63) (ca_0 := c64) (ab_1 := a74) (cb_1 := c75) hx77
    have Hs := H
    refine rg2 (σ := σ52) (Nm := (Option Addr) × (Nat) × (Option Addr) × (Nat) × (Option Addr) × (Nat)) 17 [6, 13, 15] [[false, false, false], [true, false, false], [true, true, false], [true, true, true]] [[(0, 0)], [(0, 0)], [(0, 0)], [(0, 0)], [(0, 0)], [(0, 0)], [(0, 1)], [(0, 0), (1, 1)], [(0, 0), (1, 1)], [(0, 0), (1, 1)], [(0, 0), (1, 1)], [(0, 0), (1, 1)], [(0, 0), (1, 1)], [(1, 2)], [(0, 0), (1, 1), (2, 2)], [(2, 3)], [(0, 0), (1, 1), (2, 2), (3, 3)]] 3 [fun ((a63, c64, a74, c75, a79, c80) : (Option Addr) × (Nat) × (Option Addr) × (Nat) × (Option Addr) × (Nat)) => fun σm => Hp S0 σ0 σm [Ch.ro 0 (Sl a7 r2.2.2.1 c8) r2.2.2.1, Ch.ro 0 (Sl a67 xs65 c68) xs65, Ch.ro n0 (Sl a67 xs65 c68) xs65, Ch.ro 0 (Sl a7 r2.2.2.1 c8) r2.2.2.1, Ch.ro 0 (Sl a56 xs54 c57) xs54, Ch.ro n0 (Sl a56 xs54 c57) xs54, Ch.ro n0 (Sl a7 r2.2.2.1 c8) r2.2.2.1, Ch.ro n0 (Sl a5 r2.1 c6) r2.1, Ch.own 0 n0 (Sl a13 r10 c14) r10] ∧ Md (cov []) σ52 σm, fun ((a63, c64, a74, c75, a79, c80) : (Option Addr) × (Nat) × (Option Addr) × (Nat) × (Option Addr) × (Nat)) => fun σm => Hp S0 σ0 σm [Ch.ro 0 (Sl a63 r60 c64) r60, Ch.ro 0 (Sl a7 r2.2.2.1 c8) r2.2.2.1, Ch.ro 0 (Sl a67 xs65 c68) xs65, Ch.ro n0 (Sl a67 xs65 c68) xs65, Ch.ro 0 (Sl a7 r2.2.2.1 c8) r2.2.2.1, Ch.ro 0 (Sl a56 xs54 c57) xs54, Ch.ro n0 (Sl a56 xs54 c57) xs54, Ch.ro n0 (Sl a7 r2.2.2.1 c8) r2.2.2.1, Ch.ro n0 (Sl a5 r2.1 c6) r2.1, Ch.own 0 n0 (Sl a13 r10 c14) r10] ∧ Md (fun i => (cov []) i ∨ (fun i => (cov [Ch.ro 0 (Sl a56 xs54 c57) xs54, Ch.ro 0 (Sl a7 r2.2.2.1 c8) r2.2.2.1]) i ∨ (fun b => blk (Sl a63 r60 c64) = some b) i) i) σ52 σm, fun ((a63, c64, a74, c75, a79, c80) : (Option Addr) × (Nat) × (Option Addr) × (Nat) × (Option Addr) × (Nat)) => fun σm => Hp S0 σ0 σm [Ch.ro 0 (Sl a74 r71 c75) r71, Ch.ro 0 (Sl a63 r60 c64) r60, Ch.ro 0 (Sl a7 r2.2.2.1 c8) r2.2.2.1, Ch.ro 0 (Sl a67 xs65 c68) xs65, Ch.ro n0 (Sl a67 xs65 c68) xs65, Ch.ro 0 (Sl a7 r2.2.2.1 c8) r2.2.2.1, Ch.ro 0 (Sl a56 xs54 c57) xs54, Ch.ro n0 (Sl a56 xs54 c57) xs54, Ch.ro n0 (Sl a7 r2.2.2.1 c8) r2.2.2.1, Ch.ro n0 (Sl a5 r2.1 c6) r2.1, Ch.own 0 n0 (Sl a13 r10 c14) r10] ∧ Md (fun i => (fun i => (cov []) i ∨ (fun i => (cov [Ch.ro 0 (Sl a56 xs54 c57) xs54, Ch.ro 0 (Sl a7 r2.2.2.1 c8) r2.2.2.1]) i ∨ (fun b => blk (Sl a63 r60 c64) = some b) i) i) i ∨ (fun i => (cov [Ch.ro 0 (Sl a67 xs65 c68) xs65, Ch.ro 0 (Sl a7 r2.2.2.1 c8) r2.2.2.1]) i ∨ (fun b => blk (Sl a74 r71 c75) = some b) i) i) σ52 σm, fun ((a63, c64, a74, c75, a79, c80) : (Option Addr) × (Nat) × (Option Addr) × (Nat) × (Option Addr) × (Nat)) => fun σm => Hp S0 σ0 σm [Ch.own n0 n0 (Sl a79 r76 c80) r76, Ch.ro 0 (Sl a74 r71 c75) r71, Ch.ro 0 (Sl a63 r60 c64) r60, Ch.ro 0 (Sl a7 r2.2.2.1 c8) r2.2.2.1, Ch.ro 0 (Sl a67 xs65 c68) xs65, Ch.ro n0 (Sl a67 xs65 c68) xs65, Ch.ro 0 (Sl a7 r2.2.2.1 c8) r2.2.2.1, Ch.ro 0 (Sl a56 xs54 c57) xs54, Ch.ro n0 (Sl a56 xs54 c57) xs54, Ch.ro n0 (Sl a7 r2.2.2.1 c8) r2.2.2.1, Ch.ro n0 (Sl a5 r2.1 c6) r2.1, Ch.own 0 n0 (Sl a13 r10 c14) r10] ∧ Md (fun i => (fun i => (cov []) i ∨ (fun i => (cov [Ch.ro 0 (Sl a56 xs54 c57) xs54, Ch.ro 0 (Sl a7 r2.2.2.1 c8) r2.2.2.1]) i ∨ (fun b => blk (Sl a63 r60 c64) = some b) i) i) i ∨ (fun i => (cov [Ch.ro 0 (Sl a67 xs65 c68) xs65, Ch.ro 0 (Sl a7 r2.2.2.1 c8) r2.2.2.1]) i ∨ (fun b => blk (Sl a74 r71 c75) = some b) i) i) σ52 σm] [fun ((a63, c64, a74, c75, a79, c80) : (Option Addr) × (Nat) × (Option Addr) × (Nat) × (Option Addr) × (Nat)) => (Sl a5 r2.1 c6), fun ((a63, c64, a74, c75, a79, c80) : (Option Addr) × (Nat) × (Option Addr) × (Nat) × (Option Addr) × (Nat)) => (I (w64 ((r2.1.length : Int).tdiv 2))), fun ((a63, c64, a74, c75, a79, c80) : (Option Addr) × (Nat) × (Option Addr) × (Nat) × (Option Addr) × (Nat)) => (Sl a56 xs54 c57), fun ((a63, c64, a74, c75, a79, c80) : (Option Addr) × (Nat) × (Option Addr) × (Nat) × (Option Addr) × (Nat)) => (I r2.2.1), fun ((a63, c64, a74, c75, a79, c80) : (Option Addr) × (Nat) × (Option Addr) × (Nat) × (Option Addr) × (Nat)) => (Sl a7 r2.2.2.1 c8), fun ((a63, c64, a74, c75, a79, c80) : (Option Addr) × (Nat) × (Option Addr) × (Nat) × (Option Addr) × (Nat)) => (I r2.2.2.2), fun ((a63, c64, a74, c75, a79, c80) : (Option Addr) × (Nat) × (Option Addr) × (Nat) × (Option Addr) × (Nat)) => (Sl a63 r60 c64), fun ((a63, c64, a74, c75, a79, c80) : (Option Addr) × (Nat) × (Option Addr) × (Nat) × (Option Addr) × (Nat)) => (Sl a5 r2.1 c6), fun ((a63, c64, a74, c75, a79, c80) : (Option Addr) × (Nat) × (Option Addr) × (Nat) × (Option Addr) × (Nat)) => (I (w64 ((r2.1.length : Int).tdiv 2))), fun ((a63, c64, a74, c75, a79, c80) : (Option Addr) × (Nat) × (Option Addr) × (Nat) × (Option Addr) × (Nat)) => (Sl a67 xs65 c68), fun ((a63, c64, a74, c75, a79, c80) : (Option Addr) × (Nat) × (Option Addr) × (Nat) × (Option Addr) × (Nat)) => (I r2.2.1), fun ((a63, c64, a74, c75, a79, c80) : (Option Addr) × (Nat) × (Option Addr) × (Nat) × (Option Addr) × (Nat)) => (Sl a7 r2.2.2.1 c8), fun ((a63, c64, a74, c75, a79, c80) : (Option Addr) × (Nat) × (Option Addr) × (Nat) × (Option Addr) × (Nat)) => (I r2.2.2.2), fun ((a63, c64, a74, c75, a79, c80) : (Option Addr) × (Nat) × (Option Addr) × (Nat) × (Option Addr) × (Nat)) => (Sl a74 r71 c75), fun ((a63, c64, a74, c75, a79, c80) : (Option Addr) × (Nat) × (Option Addr) × (Nat) × (Option Addr) × (Nat)) => (I r2.2.2.2), fun ((a63, c64, a74, c75, a79, c80) : (Option Addr) × (Nat) × (Option Addr) × (Nat) × (Option Addr) × (Nat)) => (Sl a79 r76 c80), fun ((a63, c64, a74, c75, a79, c80) : (Option Addr) × (Nat) × (Option Addr) × (Nat) × (Option Addr) × (Nat)) => (Sl a13 r10 c14)] (none, 0, none, 0, none, 0) (by kernel_rfl) (by kernel_rfl) ?_ ?_ ?_
    ·intro σm m0
     exact ⟨H.grow (m0.mono fun _ h => h.elim), m0⟩
    ·refine ac rfl (by
       intro k; rintro ⟨a63, c64, a74, c75, a79, c80⟩ ρ σm hJ hoff hdep
       have e3 := look_off (N := 65) (hoff 3 rfl) rfl
       exact dp_v (v := (Sl a5 r2.1 c6)) wn (rv_move e3) rfl hJ) ?_
     refine ac rfl (by
       intro k; rintro ⟨a63, c64, a74, c75, a79, c80⟩ ρ σm hJ hoff hdep
       have e8 := look_off (N := 65) (hoff 8 rfl) rfl
       exact dp_v (v := (I (w64 ((r2.1.length : Int).tdiv 2)))) wn (rv_move e8) rfl hJ) ?_
     refine ac rfl (by
       intro k; rintro ⟨a63, c64, a74, c75, a79, c80⟩ ρ σm hJ hoff hdep
       have e47 := hdep 0 rfl rfl 47 rfl
       have e48 := hdep 1 rfl rfl 48 rfl
       exact dp_v (v := (Sl a56 xs54 c57)) wn (rv_slice_h Try.underlying23 ti34 hs58 e47 e48) rfl hJ) ?_
     refine ac rfl (by
       intro k; rintro ⟨a63, c64, a74, c75, a79, c80⟩ ρ σm hJ hoff hdep
       have e4 := look_off (N := 65) (hoff 4 rfl) rfl
       exact dp_v (v := (I r2.2.1)) wn (rv_move e4) rfl hJ) ?_
     refine ac rfl (by
       intro k; rintro ⟨a63, c64, a74, c75, a79, c80⟩ ρ σm hJ hoff hdep
       have e5 := look_off (N := 65) (hoff 5 rfl) rfl
       exact dp_v (v := (Sl a7 r2.2.2.1 c8)) wn (rv_move e5) rfl hJ) ?_
     refine ac rfl (by
       intro k; rintro ⟨a63, c64, a74, c75, a79, c80⟩ ρ σm hJ hoff hdep
       have e6 := look_off (N := 65) (hoff 6 rfl) rfl
       exact dp_v (v := (I r2.2.2.2)) wn (rv_move e6) rfl hJ) ?_
     refine all_cons (by
       refine ⟨?_, ?_⟩
       ·rintro ⟨a63, c64, a74, c75, a79, c80⟩ ρ σm hJ hoff hdep
        have e49 : look 65 ρ 49 = (Sl a56 xs54 c57) := hdep 2 rfl rfl 49 rfl
        have e50 : look 65 ρ 50 = (I r2.2.1) := hdep 3 rfl rfl 50 rfl
        have e51 : look 65 ρ 51 = (Sl a7 r2.2.2.1 c8) := hdep 4 rfl rfl 51 rfl
        have e52 : look 65 ρ 52 = (I r2.2.2.2) := hdep 5 rfl rfl 52 rfl
        obtain ⟨H, m⟩ := id hJ
        refine dp_cx wn (cx_call hc62 (ent_f hc62.fn (by show [look 65 ρ 49, look 65 ρ 50, look 65 ρ 51, look 65 ρ 52] = _; rw [e49, e50, e51, e52])) hn0 (show Hp S0 σ0 _ ([Ch.ro 0 (Sl a56 xs54 c57) xs54, Ch.ro 0 (Sl a7 r2.2.2.1 c8) r2.2.2.1] ++ [Ch.ro 0 (Sl a7 r2.2.2.1 c8) r2.2.2.1, Ch.ro 0 (Sl a67 xs65 c68) xs65, Ch.ro n0 (Sl a67 xs65 c68) xs65, Ch.ro 0 (Sl a7 r2.2.2.1 c8) r2.2.2.1, Ch.ro 0 (Sl a56 xs54 c57) xs54, Ch.ro n0 (Sl a56 xs54 c57) xs54, Ch.ro n0 (Sl a7 r2.2.2.1 c8) r2.2.2.1, Ch.ro n0 (Sl a5 r2.1 c6) r2.1, Ch.own 0 n0 (Sl a13 r10 c14) r10]) from (H.sel' [4, 3, 0, 1, 2, 3, 4, 5, 6, 7, 8] rfl rfl))) ?_
        rintro _ σq ⟨_, ⟨a63x, c64x, rfl, rfl⟩, H2, m2⟩
        obtain ⟨σr0, hwr0, H2, mr0⟩ := H2.pubSc 0 rfl
        exact ⟨_, (a63x, c64x, a74, c75, a79, c80), hwr0, rfl, ⟨H2.sel' [0, 1, 2, 3, 4, 5, 6, 7, 8, 9] rfl rfl, m.comp (m2.comp mr0)⟩, stab [0, 1, 2, 3, 4, 5, 7, 8, 9, 10, 11, 12, 14, 16] (by kernel_rfl) ⟨rfl, rfl, rfl, rfl, rfl, rfl, rfl, rfl, rfl, rfl, rfl, rfl, rfl, rfl, trivial⟩⟩
       trivial) ?_
     refine ac rfl (by
       intro k; rintro ⟨a63, c64, a74, c75, a79, c80⟩ ρ σm hJ hoff hdep
       have e3 := look_off (N := 65) (hoff 3 rfl) rfl
       exact dp_v (v := (Sl a5 r2.1 c6)) wn (rv_move e3) rfl hJ) ?_
     refine ac rfl (by
       intro k; rintro ⟨a63, c64, a74, c75, a79, c80⟩ ρ σm hJ hoff hdep
       have e8 := look_off (N := 65) (hoff 8 rfl) rfl
       exact dp_v (v := (I (w64 ((r2.1.length : Int).tdiv 2)))) wn (rv_move e8) rfl hJ) ?_
     refine ac rfl (by
       intro k; rintro ⟨a63, c64, a74, c75, a79, c80⟩ ρ σm hJ hoff hdep
       have e54 := hdep 7 rfl rfl 54 rfl
       have e55 := hdep 8 rfl rfl 55 rfl
       exact dp_v (v := (Sl a67 xs65 c68)) wn (rv_slice_l Try.underlying23 ti34 hs69 e54 e55) rfl hJ) ?_
     refine ac rfl (by
       intro k; rintro ⟨a63, c64, a74, c75, a79, c80⟩ ρ σm hJ hoff hdep
       have e4 := look_off (N := 65) (hoff 4 rfl) rfl
       exact dp_v (v := (I r2.2.1)) wn (rv_move e4) rfl hJ) ?_
     refine ac rfl (by
       intro k; rintro ⟨a63, c64, a74, c75, a79, c80⟩ ρ σm hJ hoff hdep
       have e5 := look_off (N := 65) (hoff 5 rfl) rfl
       exact dp_v (v := (Sl a7 r2.2.2.1 c8)) wn (rv_move e5) rfl hJ) ?_
     refine ac rfl (by
       intro k; rintro ⟨a63, c64, a74, c75, a79, c80⟩ ρ σm hJ hoff hdep
       have e6 := look_off (N := 65) (hoff 6 rfl) rfl
       exact dp_v (v := (I r2.2.2.2)) wn (rv_move e6) rfl hJ) ?_
     refine all_cons (by
       refine ⟨?_, ?_⟩
       ·rintro ⟨a63, c64, a74, c75, a79, c80⟩ ρ σm hJ hoff hdep
        have e56 : look 65 ρ 56 = (Sl a67 xs65 c68) := hdep 9 rfl rfl 56 rfl
        have e57 : look 65 ρ 57 = (I r2.2.1) := hdep 10 rfl rfl 57 rfl
        have e58 : look 65 ρ 58 = (Sl a7 r2.2.2.1 c8) := hdep 11 rfl rfl 58 rfl
        have e59 : look 65 ρ 59 = (I r2.2.2.2) := hdep 12 rfl rfl 59 rfl
        obtain ⟨H, m⟩ := id hJ
        refine dp_cx wn (cx_call hc73 (ent_f hc73.fn (by show [look 65 ρ 56, look 65 ρ 57, look 65 ρ 58, look 65 ρ 59] = _; rw [e56, e57, e58, e59])) hn0 (show Hp S0 σ0 _ ([Ch.ro 0 (Sl a67 xs65 c68) xs65, Ch.ro 0 (Sl a7 r2.2.2.1 c8) r2.2.2.1] ++ [Ch.ro 0 (Sl a63 r60 c64) r60, Ch.ro 0 (Sl a7 r2.2.2.1 c8) r2.2.2.1, Ch.ro 0 (Sl a67 xs65 c68) xs65, Ch.ro n0 (Sl a67 xs65 c68) xs65, Ch.ro 0 (Sl a7 r2.2.2.1 c8) r2.2.2.1, Ch.ro 0 (Sl a56 xs54 c57) xs54, Ch.ro n0 (Sl a56 xs54 c57) xs54, Ch.ro n0 (Sl a7 r2.2.2.1 c8) r2.2.2.1, Ch.ro n0 (Sl a5 r2.1 c6) r2.1, Ch.own 0 n0 (Sl a13 r10 c14) r10]) from (H.sel' [2, 1, 0, 1, 2, 3, 4, 5, 6, 7, 8, 9] rfl rfl))) ?_
        rintro _ σq ⟨_, ⟨a74x, c75x, rfl, rfl⟩, H2, m2⟩
        obtain ⟨σr0, hwr0, H2, mr0⟩ := H2.pubSc 0 rfl
        exact ⟨_, (a63, c64, a74x, c75x, a79, c80), hwr0, rfl, ⟨H2.sel' [0, 1, 2, 3, 4, 5, 6, 7, 8, 9, 10] rfl rfl, m.comp (m2.comp mr0)⟩, stab [0, 1, 2, 3, 4, 5, 6, 7, 8, 9, 10, 11, 12, 14, 16] (by kernel_rfl) ⟨rfl, rfl, rfl, rfl, rfl, rfl, rfl, rfl, rfl, rfl, rfl, rfl, rfl, rfl, rfl, trivial⟩⟩
       trivial) ?_
     refine ac rfl (by
       intro k; rintro ⟨a63, c64, a74, c75, a79, c80⟩ ρ σm hJ hoff hdep
       have e6 := look_off (N := 65) (hoff 6 rfl) rfl
       exact dp_v (v := (I r2.2.2.2)) wn (rv_move e6) rfl hJ) ?_
     refine all_cons (by
       refine ⟨?_, ?_⟩
       ·rintro ⟨a63, c64, a74, c75, a79, c80⟩ ρ σm hJ hoff hdep
        have e53 : look 65 ρ 53 = (Sl a63 r60 c64) := hdep 6 rfl rfl 53 rfl
        have e60 : look 65 ρ 60 = (Sl a74 r71 c75) := hdep 13 rfl rfl 60 rfl
        have e61 : look 65 ρ 61 = (I r2.2.2.2) := hdep 14 rfl rfl 61 rfl
        obtain ⟨H, m⟩ := id hJ
        refine dp_cx wn (cx_call (hc78 a63 c64 a74 c75) (ent_f (hc78 a63 c64 a74 c75).fn (by show [look 65 ρ 53, look 65 ρ 60, look 65 ρ 61] = _; rw [e53, e60, e61])) hn0 (show Hp S0 σ0 _ ([Ch.ro 0 (Sl a63 r60 c64) r60, Ch.ro 0 (Sl a74 r71 c75) r71] ++ [Ch.ro 0 (Sl a74 r71 c75) r71, Ch.ro 0 (Sl a63 r60 c64) r60, Ch.ro 0 (Sl a7 r2.2.2.1 c8) r2.2.2.1, Ch.ro 0 (Sl a67 xs65 c68) xs65, Ch.ro n0 (Sl a67 xs65 c68) xs65, Ch.ro 0 (Sl a7 r2.2.2.1 c8) r2.2.2.1, Ch.ro 0 (Sl a56 xs54 c57) xs54, Ch.ro n0 (Sl a56 xs54 c57) xs54, Ch.ro n0 (Sl a7 r2.2.2.1 c8) r2.2.2.1, Ch.ro n0 (Sl a5 r2.1 c6) r2.1, Ch.own 0 n0 (Sl a13 r10 c14) r10]) from (H.sel' [1, 0, 0, 1, 2, 3, 4, 5, 6, 7, 8, 9, 10] rfl rfl))) ?_
        rintro _ σq ⟨_, ⟨a79x, c80x, rfl, rfl⟩, H2, m2⟩
        exact ⟨_, (a63, c64, a74, c75, a79x, c80x), rfl, rfl, ⟨H2.sel' [0, 1, 2, 3, 4, 5, 6, 7, 8, 9, 10, 11] rfl rfl, m.comp0 (m2.mono (fun i h => by simp [cov, Ch.ro] at h))⟩, stab [0, 1, 2, 3, 4, 5, 6, 7, 8, 9, 10, 11, 12, 13, 14, 16] (by kernel_rfl) ⟨rfl, rfl, rfl, rfl, rfl, rfl, rfl, rfl, rfl, rfl, rfl, rfl, rfl, rfl, rfl, rfl, trivial⟩⟩
       trivial) ?_
     refine ac rfl (by
       intro k; rintro ⟨a63, c64, a74, c75, a79, c80⟩ ρ σm hJ hoff hdep
       have e7 := look_off (N := 65) (hoff 7 rfl) rfl
       exact dp_v (v := (Sl a13 r10 c14)) wn (rv_move e7) rfl hJ) ?_
     exact all_nil
    ·rintro ⟨a63, c64, a74, c75, a79, c80⟩ ρ σ81 hJ hoff hrel
     have e62 := hrel 15 rfl 62 rfl
     have e63 := hrel 16 rfl 63 rfl
     obtain ⟨H, -⟩ := (show Hp S0 σ0 σ81 [Ch.own n0 n0 (Sl a79 r76 c80) r76, Ch.ro 0 (Sl a74 r71 c75) r71, Ch.ro 0 (Sl a63 r60 c64) r60, Ch.ro 0 (Sl a7 r2.2.2.1 c8) r2.2.2.1, Ch.ro 0 (Sl a67 xs65 c68) xs65, Ch.ro n0 (Sl a67 xs65 c68) xs65, Ch.ro 0 (Sl a7 r2.2.2.1 c8) r2.2.2.1, Ch.ro 0 (Sl a56 xs54 c57) xs54, Ch.ro n0 (Sl a56 xs54 c57) xs54, Ch.ro n0 (Sl a7 r2.2.2.1 c8) r2.2.2.1, Ch.ro n0 (Sl a5 r2.1 c6) r2.1, Ch.own 0 n0 (Sl a13 r10 c14) r10] ∧ Md (fun i => (fun i => (cov []) i ∨ (fun i => (cov [Ch.ro 0 (Sl a56 xs54 c57) xs54, Ch.ro 0 (Sl a7 r2.2.2.1 c8) r2.2.2.1]) i ∨ (fun b => blk (Sl a63 r60 c64) = some b) i) i) i ∨ (fun i => (cov [Ch.ro 0 (Sl a67 xs65 c68) xs65, Ch.ro 0 (Sl a7 r2.2.2.1 c8) r2.2.2.1]) i ∨ (fun b => blk (Sl a74 r71 c75) = some b) i) i) σ52 σ81 from hJ)
     clear hJ Hs
     rw [fr_lookL (L := [(62, (Sl a79 r76 c80)), (63, (Sl a13 r10 c14))]) ⟨e62, e63, trivial⟩]
     clear hoff hrel e62 e63
     obtain ⟨σ82, hw83, H, -⟩ := H.pub 0 rfl (Nat.le_refl _)
     rw [← hw83]; clear hw83
     replace H := H.ownLow 11 0 0 rfl (Nat.le_refl _) (Nat.zero_le _)
     obtain ⟨σ84, hw85, H, -⟩ := H.pub 0 rfl (Nat.le_refl _)
     rw [← hw85]; clear hw85
     replace H := H.roLow 1 0 rfl (Nat.zero_le _)
     obtain ⟨r86, hx87, h'⟩ := bind_some h
     clear h
     have h := h'; clear h'
     have hc88 := c_laws_equalHits (aa_0 := a79) (ca_0 := c80) (ab_1 := a13) (cb_1 := c14) hx87
     refine st_call (cx_call hc88 (ent_f hc88.fn rfl) hn0 (show Hp S0 σ0 _ ([Ch.ro 0 (Sl a79 r76 c80) r76, Ch.ro 0 (Sl a13 r10 c14) r10] ++ [Ch.ro 0 (Sl a79 r76 c80) r76, Ch.ro 0 (Sl a13 r10 c14) r10, Ch.ro n0 (Sl a79 r76 c80) r76, Ch.ro 0 (Sl a74 r71 c75) r71, Ch.ro 0 (Sl a63 r60 c64) r60, Ch.ro 0 (Sl a7 r2.2.2.1 c8) r2.2.2.1, Ch.ro 0 (Sl a67 xs65 c68) xs65, Ch.ro n0 (Sl a67 xs65 c68) xs65, Ch.ro 0 (Sl a7 r2.2.2.1 c8) r2.2.2.1, Ch.ro 0 (Sl a56 xs54 c57) xs54, Ch.ro n0 (Sl a56 xs54 c57) xs54, Ch.ro n0 (Sl a7 r2.2.2.1 c8) r2.2.2.1, Ch.ro n0 (Sl a5 r2.1 c6) r2.1]) from (H.sel' [0, 1, 0, 1, 2, 3, 4, 5, 6, 7, 8, 9, 10, 11, 12] rfl rfl))) wn ?_
     rintro _ σ89 ⟨_, ⟨rfl, rfl⟩, H, -⟩
     replace H : Hp S0 σ0 σ89 [Ch.ro 0 (Sl a79 r76 c80) r76, Ch.ro 0 (Sl a13 r10 c14) r10, Ch.ro n0 (Sl a79 r76 c80) r76, Ch.ro 0 (Sl a74 r71 c75) r71, Ch.ro 0 (Sl a63 r60 c64) r60, Ch.ro 0 (Sl a7 r2.2.2.1 c8) r2.2.2.1, Ch.ro 0 (Sl a67 xs65 c68) xs65, Ch.ro n0 (Sl a67 xs65 c68) xs65, Ch.ro 0 (Sl a7 r2.2.2.1 c8) r2.2.2.1, Ch.ro 0 (Sl a56 xs54 c57) xs54, Ch.ro n0 (Sl a56 xs54 c57) xs54, Ch.ro n0 (Sl a7 r2.2.2.1 c8) r2.2.2.1, Ch.ro n0 (Sl a5 r2.1 c6) r2.1] := H
     replace H : Hp S0 σ0 σ89 [] := H.sel' [] rfl rfl
     refine st (v := (B r86)) (rv_assign rfl) ?_
     refine w_end ?_
     refine q_then ?_
     refine c_ret ?_
     obtain rfl := Option.some.inj h
     exact fin_ret (v := (B r86)) (results_ok Try.results7 (res_tmp (v := (B r86)) rfl res_nil) rfl) ⟨rfl, rfl⟩ (H.sel' [] rfl rfl)

end Go.Vs
