/- The functions compute what their models say. -/
import Derived.Test.YtjcaokajkkkniabKBitsApartWayC1
set_option linter.unusedVariables false
set_option linter.unusedSimpArgs false
set_option maxRecDepth 20000
namespace Go.Vs
open Go Go.Proofs
attribute [local irreducible] Code.wp Code.wpIn wpList wpListIn wpQuiet Calls CallsIn

theorem c_laws_FnBitsApartWay {code_0 : List UInt8} {acode_0 : Option Addr} {ccode_0 : Nat} {r : Bool} (h : M.laws_FnBitsApartWay code_0 = some r) :
    Cal2 Try.prog 3 [(Sl acode_0 code_0 ccode_0)] [Ch.ro 0 (Sl acode_0 code_0 ccode_0) code_0] (fun n0 v L => v = (B r) ∧ L = []) := by
 refine cal2 (n := 47) Try.func3 rfl rfl rfl rfl ?_
 intro S0 σ0 n0 hn0 H
 unfold M.laws_FnBitsApartWay at h
 refine c_seq ?_
 refine rg ?_
 refine st (v := (B false)) (rv_assign rfl) ?_
 refine w_end ?_
 refine q_then ?_
 refine c_seq ?_
 refine c_seq ?_
 refine rg ?_
 refine st (v := (Sl acode_0 code_0 ccode_0)) (rv_move rfl) ?_
 refine st (v := (I (code_0.length : Int))) (rv_len Try.underlying22 rfl) ?_
 refine st (v := (B (decide (1048576 < (code_0.length : Int))))) (rv_gtr (a := (code_0.length : Int)) (b := 1048576) rfl rfl) ?_
 refine w_end ?_
 refine q_then ?_
 refine cd_cond (decide (1048576 < (code_0.length : Int))) rfl (fun hb1 => ?_) (fun hb1 => ?_)
 ·replace h := bif_t hb1 h
  refine c_seq ?_
  refine rg ?_
  refine st (v := (B true)) (rv_assign rfl) ?_
  refine w_end ?_
  refine q_then ?_
  refine c_ret ?_
  refine q_then_r ?_
  obtain rfl := Option.some.inj h
  exact fin_ret (v := (B true)) (results_ok Try.results3 (res_tmp (v := (B true)) rfl res_nil) rfl) ⟨rfl, rfl⟩ (H.sel' [] rfl rfl)
 ·replace h := bif_f hb1 h
  refine c_skip ?_
  refine q_then ?_
  refine c_seq ?_
  refine rg ?_
  refine st (v := (Sl acode_0 code_0 ccode_0)) (rv_move rfl) ?_
  obtain ⟨r2, hx3, h'⟩ := bind_some h
  clear h
  have h := h'; clear h'
  have hc4 := c_spec_DrawBitsApart (acode_0 := acode_0) (ccode_0 := ccode_0) hx3
  refine st_call (cx_call hc4 (ent_f hc4.fn rfl) hn0 (show Hp S0 σ0 _ ([Ch.ro 0 (Sl acode_0 code_0 ccode_0) code_0] ++ [Ch.ro 0 (Sl acode_0 code_0 ccode_0) code_0]) from (H.sel' [0, 0] rfl rfl))) wn ?_
  rintro _ σ5 ⟨_, ⟨rfl, rfl⟩, H, -⟩
  replace H : Hp S0 σ0 σ5 [Ch.ro 0 (Sl acode_0 code_0 ccode_0) code_0] := H
  refine st (v := (.tuple #[(I r2.1), (I r2.2)])) (rv_move rfl) ?_
  refine st (v := (I r2.1)) (rv_extract rfl rfl) ?_
  refine st (v := (I r2.2)) (rv_extract rfl rfl) ?_
  refine st (v := (I r2.1)) (rv_assign rfl) ?_
  refine st (v := (I r2.2)) (rv_assign rfl) ?_
  refine w_end ?_
  refine q_then ?_
  refine c_seq ?_
  refine rg ?_
  refine st (v := (I r2.1)) (rv_move rfl) ?_
  refine st (v := (I r2.2)) (rv_move rfl) ?_
  obtain ⟨r6, hx7, h'⟩ := bind_some h
  clear h
  have h := h'; clear h'
  have hc8 := c_impl_BitsApart hx7
  refine st_call (cx_call hc8 (ent_f hc8.fn rfl) hn0 (show Hp S0 σ0 _ ([] ++ [Ch.ro 0 (Sl acode_0 code_0 ccode_0) code_0]) from (H.sel' [0] rfl rfl))) wn ?_
  rintro _ σ9 ⟨_, ⟨rfl, rfl⟩, H, -⟩
  replace H : Hp S0 σ0 σ9 [Ch.ro 0 (Sl acode_0 code_0 ccode_0) code_0] := H
  refine st (v := (I r6)) (rv_assign rfl) ?_
  refine w_end ?_
  refine q_then ?_
  refine c_seq ?_
  refine c_seq ?_
  obtain ⟨o10, hj, h'⟩ := bind_some h
  clear h
  refine c_cut (fun e a w => e = .normal ∧ ∃ (ρ : Nat → Value) (σ : St), a = fr 47 (updL ρ [(3, (I r2.1)), (4, (I r2.2)), (5, (I r6)), (26, (B o10))]) ∧ w = σ.w ∧ Hp S0 σ0 σ []) ?_ ?_
  ·clear h'
   rename _ = some o10 => h
   refine rg ?_
   refine st (v := (I r6)) (rv_move rfl) ?_
   refine st (v := (I r2.1)) (rv_move rfl) ?_
   refine st (v := (I r2.2)) (rv_move rfl) ?_
   obtain ⟨r11, hx12, h'⟩ := bind_some h
   clear h
   have h := h'; clear h'
   have hc13 := c_spec_BitsApart hx12
   refine st_call (cx_call hc13 (ent_f hc13.fn rfl) hn0 (show Hp S0 σ0 _ ([] ++ [Ch.ro 0 (Sl acode_0 code_0 ccode_0) code_0]) from (H.sel' [0] rfl rfl))) wn ?_
   rintro _ σ14 ⟨_, ⟨rfl, rfl⟩, H, -⟩
   replace H : Hp S0 σ0 σ14 [Ch.ro 0 (Sl acode_0 code_0 ccode_0) code_0] := H
   refine st (v := (B (r6 != r11))) (rv_neq (a := r6) (b := r11) rfl rfl) ?_
   refine st (v := (B (r6 != r11))) (rv_move rfl) ?_
   rcases Bool.eq_false_or_eq_true (r6 != r11) with hb15 | hb15
   ·replace h := bif_t hb15 h
    refine st_skip (congrArg some hb15) ?_
    refine st_skip (congrArg some hb15) ?_
    refine st (v := (B true)) (rv_pick_t (congrArg B hb15) rfl) ?_
    refine w_end ?_
    obtain rfl := Option.some.inj h
    exact ⟨rfl, _, σ14, fr_join ⟨rfl, rfl, rfl, rfl, trivial⟩, rfl, H.sel' [] rfl rfl⟩
   ·replace h := bif_f hb15 h
    refine st_g (v := (I r6)) (congrArg some hb15) (rv_move rfl) ?_
    refine st_g (v := (B (decide (r6 < 0)))) (congrArg some hb15) (rv_lss (a := r6) (b := 0) rfl rfl) ?_
    refine st (v := (B (decide (r6 < 0)))) (rv_pick_f (congrArg B hb15) rfl) ?_
    refine w_end ?_
    obtain rfl := Option.some.inj h
    exact ⟨rfl, _, σ14, fr_join ⟨rfl, rfl, rfl, rfl, trivial⟩, rfl, H.sel' [] rfl rfl⟩
  ·clear hj
   have h := h'
   clear h' H
   rintro e a w ⟨rfl, ρ, σ16, rfl, rfl, H⟩
   refine q_then ?_
   refine cd_cond o10 rfl (fun hb17 => ?_) (fun hb17 => ?_)
   ·replace h := bif_t hb17 h
    refine c_seq ?_
    refine rg ?_
    refine st (v := (I r6)) (rv_move rfl) ?_
    refine st (v := (I r2.1)) (rv_move rfl) ?_
    refine st (v := (I r2.2)) (rv_move rfl) ?_
    obtain ⟨r18, hx19, h'⟩ := bind_some h
    clear h
    have h := h'; clear h'
    have hc20 := c_spec_BitsApart hx19
    refine st_call (cx_call hc20 (ent_f hc20.fn rfl) hn0 (show Hp S0 σ0 _ ([] ++ []) from (H.sel' [] rfl rfl))) wn ?_
    rintro _ σ21 ⟨_, ⟨rfl, rfl⟩, H, -⟩
    replace H : Hp S0 σ0 σ21 [] := H
    refine st (v := (B (r6 == r18))) (rv_eql (a := r6) (b := r18) rfl rfl) ?_
    refine st (v := (B (r6 == r18))) (rv_assign rfl) ?_
    refine w_end ?_
    refine q_then ?_
    refine c_ret ?_
    refine q_then_r ?_
    obtain rfl := Option.some.inj h
    exact fin_ret (v := (B (r6 == r18))) (results_ok Try.results3 (res_tmp (v := (B (r6 == r18))) rfl res_nil) rfl) ⟨rfl, rfl⟩ (H.sel' [] rfl rfl)
   ·replace h := bif_f hb17 h
    refine c_skip ?_
    refine q_then ?_
    refine c_seq ?_
    refine rg ?_
    refine st (v := (I r2.1)) (rv_move rfl) ?_
    obtain ⟨r22, hx23, h'⟩ := bind_some h
    clear h
    have h := h'; clear h'
    have hc24 := c_impl_BitsApart hx23
    refine st_call (cx_call hc24 (ent_f hc24.fn rfl) hn0 (show Hp S0 σ0 _ ([] ++ []) from (H.sel' [] rfl rfl))) wn ?_
    rintro _ σ25 ⟨_, ⟨rfl, rfl⟩, H, -⟩
    replace H : Hp S0 σ0 σ25 [] := H
    refine st (v := (I r2.2)) (rv_move rfl) ?_
    obtain ⟨r26, hx27, h'⟩ := bind_some h
    clear h
    have h := h'; clear h'
    have hc28 := c_impl_BitsApart hx27
    refine st_call (cx_call hc28 (ent_f hc28.fn rfl) hn0 (show Hp S0 σ0 _ ([] ++ []) from (H.sel' [] rfl rfl))) wn ?_
    rintro _ σ29 ⟨_, ⟨rfl, rfl⟩, H, -⟩
    replace H : Hp S0 σ0 σ29 [] := H
    refine st (v := (I (w64 (r22 + r26)))) (rv_add (a := r22) (b := r26) rfl rfl) ?_
    refine st (v := (I (w64 (r22 + r26)))) (rv_assign rfl) ?_
    refine w_end ?_
    refine q_then ?_
    refine c_seq ?_
    refine rg ?_
    refine st (v := (I r6)) (rv_move rfl) ?_
    refine st (v := (I (w64 (r22 + r26)))) (rv_move rfl) ?_
    refine st (v := (B (decide (r6 ≤ (w64 (r22 + r26)))))) (rv_leq (a := r6) (b := (w64 (r22 + r26))) rfl rfl) ?_
    refine st (v := (B (decide (r6 ≤ (w64 (r22 + r26)))))) (rv_move rfl) ?_
    rcases Bool.eq_false_or_eq_true (decide (r6 ≤ (w64 (r22 + r26)))) with hb30 | hb30
    ·replace h := bif_t hb30 h
     refine st_g (v := (I (w64 (r22 + r26)))) (congrArg some hb30) (rv_move rfl) ?_
     refine st_g (v := (I r6)) (congrArg some hb30) (rv_move rfl) ?_
     refine st_g (v := (I (w64 ((w64 (r22 + r26)) - r6)))) (congrArg some hb30) (rv_sub (a := (w64 (r22 + r26))) (b := r6) rfl rfl) ?_
     refine st_g (v := (I ((w64 ((w64 (r22 + r26)) - r6)).tmod 2))) (congrArg some hb30) (rv_rem (a := (w64 ((w64 (r22 + r26)) - r6))) (b := 2) rfl rfl (by decide)) ?_
     refine st_g (v := (B (((w64 ((w64 (r22 + r26)) - r6)).tmod 2) == 0))) (congrArg some hb30) (rv_eql (a := ((w64 ((w64 (r22 + r26)) - r6)).tmod 2)) (b := 0) rfl rfl) ?_
     refine st (v := (B (((w64 ((w64 (r22 + r26)) - r6)).tmod 2) == 0))) (rv_pick_t (congrArg B hb30) rfl) ?_
     refine st (v := (B (((w64 ((w64 (r22 + r26)) - r6)).tmod 2) == 0))) (rv_assign rfl) ?_
     refine w_end ?_
     refine q_then ?_
     refine c_ret ?_
     obtain rfl := Option.some.inj h
     exact fin_ret (v := (B (((w64 ((w64 (r22 + r26)) - r6)).tmod 2) == 0))) (results_ok Try.results3 (res_tmp (v := (B (((w64 ((w64 (r22 + r26)) - r6)).tmod 2) == 0))) rfl res_nil) rfl) ⟨rfl, rfl⟩ (H.sel' [] rfl rfl)
    ·replace h := bif_f hb30 h
     refine st_skip (congrArg some hb30) ?_
     refine st_skip (congrArg some hb30) ?_
     refine st_skip (congrArg some hb30) ?_
     refine st_skip (congrArg some hb30) ?_
     refine st_skip (congrArg some hb30) ?_
     refine st (v := (B false)) (rv_pick_f (congrArg B hb30) rfl) ?_
     refine st (v := (B false)) (rv_assign rfl) ?_
     refine w_end ?_
     refine q_then ?_
     refine c_ret ?_
     obtain rfl := Option.some.inj h
     exact fin_ret (v := (B false)) (results_ok Try.results3 (res_tmp (v := (B false)) rfl res_nil) rfl) ⟨rfl, rfl⟩ (H.sel' [] rfl rfl)

end Go.Vs
