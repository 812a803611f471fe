/- The functions compute what their models say. -/
import Derived.Test.YtjcaokajkkkniaaKCodeDistancesC2
set_option linter.unusedVariables false
set_option linter.unusedSimpArgs false
set_option maxRecDepth 20000
namespace Go.Vs
open Go Go.Proofs
attribute [local irreducible] Code.wp Code.wpIn wpList wpListIn wpQuiet Calls CallsIn

theorem c_spec_CodeDistances {b_0 : (List (List Int)) × (List (List Int))} {at_1 : List Int} {ab_0_0 : Option Addr} {cb_0_0 : Nat} {ab_0_1 : Option Addr} {cb_0_1 : Nat} {aat_1 : Option Addr} {cat_1 : Nat} {r : (List Int)} (h : M.spec_CodeDistances b_0 at_1 = some r) :
    Cal2 Try.prog 27 [(.agg #[(Sl ab_0_0 b_0.1 cb_0_0), (Sl ab_0_1 b_0.2 cb_0_1)]), (Sl aat_1 at_1 cat_1)] [Ch.ro 0 (Sl ab_0_0 b_0.1 cb_0_0) b_0.1, Ch.ro 0 (Sl ab_0_1 b_0.2 cb_0_1) b_0.2, Ch.ro 0 (Sl aat_1 at_1 cat_1) at_1] (fun n0 v L => ∃ (az1 : Option Addr), ∃ (cz2 : Nat), v = (Sl az1 r cz2) ∧ L = [Ch.own n0 n0 (Sl az1 r cz2) r]) := by
 refine cal2 (n := 29) Try.func27 rfl rfl rfl rfl ?_
 intro S0 σ0 n0 hn0 H
 unfold M.spec_CodeDistances at h
 refine c_seq ?_
 refine rg ?_
 refine st_ex (ex_box (cs := [(Sl ab_0_0 b_0.1 cb_0_0), (Sl ab_0_1 b_0.2 cb_0_1)]) H hn0 rfl rfl) wn ?_
 rintro _ σ2 ⟨b1, rfl, H, -⟩
 refine st (v := (.slice none 0 0)) (rv_assign rfl) ?_
 refine w_end ?_
 refine q_then ?_
 refine c_seq ?_
 refine rg ?_
 refine st_ex (ex_buildSlice (el := n0) (xs := ([] : List Int)) (ps := []) (cs := []) H hn0 Try.underlying29 ti3 rfl rfl (by kernel_rfl) (.nil) rfl) wn ?_
 rintro _ σ4 ⟨b3, rfl, H, -⟩
 refine st (v := (Sl (some ⟨b3, 0, none⟩) ([] : List Int) 0)) (rv_assign rfl) ?_
 refine w_end ?_
 refine q_then ?_
 refine c_seq ?_
 refine c_seq ?_
 obtain ⟨o5, hj, h'⟩ := bind_some h
 clear h
 refine c_cut (fun e a w => e = .normal ∧ ∃ (ρ : Nat → Value) (σ : St), a = fr 29 (updL ρ [(1, (Sl aat_1 at_1 cat_1)), (2, (pt b1 0)), (5, (Sl (some ⟨b3, 0, none⟩) ([] : List Int) 0)), (15, (B o5))]) ∧ w = σ.w ∧ Hp S0 σ0 σ [Ch.ro 0 (Sl aat_1 at_1 cat_1) at_1, Ch.ro 0 (Sl ab_0_0 b_0.1 cb_0_0) b_0.1, Ch.ro 0 (Sl ab_0_1 b_0.2 cb_0_1) b_0.2, Ch.bx n0 b1 0 [(Sl ab_0_0 b_0.1 cb_0_0), (Sl ab_0_1 b_0.2 cb_0_1)] [] [], Ch.own n0 n0 (Sl (some ⟨b3, 0, none⟩) ([] : List Int) 0) ([] : List Int)]) ?_ ?_
 ·clear h'
  rename _ = some o5 => h
  refine rg ?_
  have hc6 := H.cells 1 rfl
  refine st (v := (.agg #[(Sl ab_0_0 b_0.1 cb_0_0), (Sl ab_0_1 b_0.2 cb_0_1)])) (rv_load (cs := [(Sl ab_0_0 b_0.1 cb_0_0), (Sl ab_0_1 b_0.2 cb_0_1)]) Try.underlying25 rfl ti25 rfl rfl hc6) ?_
  obtain ⟨r7, hx8, h'⟩ := bind_some h
  clear h
  have h := h'; clear h'
  have hc9 := c_spec_validBook (ab_0_0 := ab_0_0) (cb_0_0 := cb_0_0) (ab_0_1 := ab_0_1) (cb_0_1 := cb_0_1) hx8
  refine st_call (cx_call hc9 (ent_f hc9.fn rfl) hn0 (show Hp S0 σ0 _ ([Ch.ro 0 (Sl ab_0_0 b_0.1 cb_0_0) b_0.1, Ch.ro 0 (Sl ab_0_1 b_0.2 cb_0_1) b_0.2] ++ [Ch.own n0 n0 (Sl (some ⟨b3, 0, none⟩) ([] : List Int) 0) ([] : List Int), Ch.bx n0 b1 0 [(Sl ab_0_0 b_0.1 cb_0_0), (Sl ab_0_1 b_0.2 cb_0_1)] [] [], Ch.ro 0 (Sl ab_0_0 b_0.1 cb_0_0) b_0.1, Ch.ro 0 (Sl ab_0_1 b_0.2 cb_0_1) b_0.2, Ch.ro 0 (Sl aat_1 at_1 cat_1) at_1]) from (H.sel' [2, 3, 0, 1, 2, 3, 4] rfl rfl))) wn ?_
  rintro _ σ10 ⟨_, ⟨rfl, rfl⟩, H, -⟩
  replace H : Hp S0 σ0 σ10 [Ch.own n0 n0 (Sl (some ⟨b3, 0, none⟩) ([] : List Int) 0) ([] : List Int), Ch.bx n0 b1 0 [(Sl ab_0_0 b_0.1 cb_0_0), (Sl ab_0_1 b_0.2 cb_0_1)] [] [], Ch.ro 0 (Sl ab_0_0 b_0.1 cb_0_0) b_0.1, Ch.ro 0 (Sl ab_0_1 b_0.2 cb_0_1) b_0.2, Ch.ro 0 (Sl aat_1 at_1 cat_1) at_1] := H
  refine st (v := (B (!r7))) (rv_not rfl) ?_
  refine st (v := (B (!r7))) (rv_move rfl) ?_
  rcases Bool.eq_false_or_eq_true (!r7) with hb11 | hb11
  ·replace h := bif_t hb11 h
   refine st_skip (congrArg some hb11) ?_
   refine st_skip (congrArg some hb11) ?_
   refine st_skip (congrArg some hb11) ?_
   refine st (v := (B true)) (rv_pick_t (congrArg B hb11) rfl) ?_
   refine w_end ?_
   obtain rfl := Option.some.inj h
   exact ⟨rfl, _, σ10, fr_join ⟨rfl, rfl, rfl, rfl, trivial⟩, rfl, H.sel' [4, 2, 3, 1, 0] rfl rfl⟩
  ·replace h := bif_f hb11 h
   refine st_g (v := (Sl aat_1 at_1 cat_1)) (congrArg some hb11) (rv_move rfl) ?_
   obtain ⟨r12, hx13, h'⟩ := bind_some h
   clear h
   have h := h'; clear h'
   have hc14 := c_spec_isVector (av_0 := aat_1) (cv_0 := cat_1) hx13
   refine st_call (cx_call hc14 (ent_f hc14.fn rfl) hn0 (show Hp S0 σ0 _ ([Ch.ro 0 (Sl aat_1 at_1 cat_1) at_1] ++ [Ch.own n0 n0 (Sl (some ⟨b3, 0, none⟩) ([] : List Int) 0) ([] : List Int), Ch.bx n0 b1 0 [(Sl ab_0_0 b_0.1 cb_0_0), (Sl ab_0_1 b_0.2 cb_0_1)] [] [], Ch.ro 0 (Sl ab_0_0 b_0.1 cb_0_0) b_0.1, Ch.ro 0 (Sl ab_0_1 b_0.2 cb_0_1) b_0.2, Ch.ro 0 (Sl aat_1 at_1 cat_1) at_1]) from (H.sel' [4, 0, 1, 2, 3, 4] rfl rfl))) (wanted_yes rfl (by exact (congrArg some hb11))) ?_
   rintro _ σ15 ⟨_, ⟨rfl, rfl⟩, H, -⟩
   replace H : Hp S0 σ0 σ15 [Ch.own n0 n0 (Sl (some ⟨b3, 0, none⟩) ([] : List Int) 0) ([] : List Int), Ch.bx n0 b1 0 [(Sl ab_0_0 b_0.1 cb_0_0), (Sl ab_0_1 b_0.2 cb_0_1)] [] [], Ch.ro 0 (Sl ab_0_0 b_0.1 cb_0_0) b_0.1, Ch.ro 0 (Sl ab_0_1 b_0.2 cb_0_1) b_0.2, Ch.ro 0 (Sl aat_1 at_1 cat_1) at_1] := H
   refine st_g (v := (B (!r12))) (congrArg some hb11) (rv_not rfl) ?_
   refine st (v := (B (!r12))) (rv_pick_f (congrArg B hb11) rfl) ?_
   refine w_end ?_
   obtain rfl := Option.some.inj h
   exact ⟨rfl, _, σ15, fr_join ⟨rfl, rfl, rfl, rfl, trivial⟩, rfl, H.sel' [4, 2, 3, 1, 0] rfl rfl⟩
 ·clear hj
  have h := h'
  clear h' H
  rintro e a w ⟨rfl, ρ, σ16, rfl, rfl, H⟩
  refine q_then ?_
  refine cd_cond o5 rfl (fun hb17 => ?_) (fun hb17 => ?_)
  ·replace h := bif_t hb17 h
   refine c_seq ?_
   refine rg ?_
   refine st (v := (.slice none 0 0)) (rv_assign rfl) ?_
   refine w_end ?_
   refine q_then ?_
   refine c_ret ?_
   refine q_then_r ?_
   replace H := H.nilOwn Int n0 n0
   obtain rfl := Option.some.inj h
   exact fin_ret (v := (.slice none 0 0)) (results_ok Try.results27 (res_tmp (v := (.slice none 0 0)) rfl res_nil) rfl) ⟨none, 0, rfl, rfl⟩ (H.sel' [0] rfl rfl)
  ·replace h := bif_f hb17 h
   refine c_skip ?_
   refine q_then ?_
   refine c_seq ?_
   refine c_seq ?_
   refine rg ?_
   refine st (v := (I 0)) (rv_assign rfl) ?_
   refine w_end ?_
   refine q_then ?_
   obtain ⟨o18, hj, h'⟩ := bind_some h
   clear h
   refine c_cut (fun e a w => e = .normal ∧ ∃ (ρ : Nat → Value) (σ : St) (aj1 : Option Addr) (cj2 : Nat), a = fr 29 (updL ρ [(5, (Sl aj1 o18 cj2))]) ∧ w = σ.w ∧ Hp S0 σ0 σ [Ch.own n0 n0 (Sl aj1 o18 cj2) o18]) ?_ ?_
   ·clear h'
    rename _ = some o18 => h
    refine c_blk ?_
    refine wp_loopM _ h (fun s19 a w => ∃ (ρ : Nat → Value) (σ : St) (aj1 : Option Addr) (cj2 : Nat), a = fr 29 (updL ρ [(1, (Sl aat_1 at_1 cat_1)), (2, (pt b1 0)), (5, (Sl aj1 s19.1 cj2)), (6, (I s19.2))]) ∧ w = σ.w ∧ Hp S0 σ0 σ [Ch.ro 0 (Sl aat_1 at_1 cat_1) at_1, Ch.ro 0 (Sl ab_0_0 b_0.1 cb_0_0) b_0.1, Ch.ro 0 (Sl ab_0_1 b_0.2 cb_0_1) b_0.2, Ch.bx n0 b1 0 [(Sl ab_0_0 b_0.1 cb_0_0), (Sl ab_0_1 b_0.2 cb_0_1)] [] [], Ch.own n0 n0 (Sl aj1 s19.1 cj2) s19.1]) ⟨_, σ16, (some ⟨b3, 0, none⟩), 0, fr_join ⟨rfl, rfl, rfl, rfl, trivial⟩, rfl, H.sel' [0, 1, 2, 3, 4] rfl rfl⟩ ?_
    clear h H
    rintro s19 a w o ⟨ρ, σ20, a21, c22, rfl, rfl, H⟩ h hres
    refine c_seq ?_
    refine c_seq ?_
    refine rg ?_
    refine st (v := (I s19.2)) (rv_move rfl) ?_
    refine st (v := (B (decide (s19.2 < 16)))) (rv_lss (a := s19.2) (b := 16) rfl rfl) ?_
    refine w_end ?_
    refine q_then ?_
    refine cd_cond (decide (s19.2 < 16)) rfl (fun hb23 => ?_) (fun hb23 => ?_)
    ·replace h := bif_t hb23 h
     refine c_skip ?_
     refine q_then ?_
     refine c_seq ?_
     refine c_blk ?_
     refine rg ?_
     refine st (v := (Sl a21 s19.1 c22)) (rv_move rfl) ?_
     have hc24 := H.cells 3 rfl
     refine st (v := (.agg #[(Sl ab_0_0 b_0.1 cb_0_0), (Sl ab_0_1 b_0.2 cb_0_1)])) (rv_load (cs := [(Sl ab_0_0 b_0.1 cb_0_0), (Sl ab_0_1 b_0.2 cb_0_1)]) Try.underlying25 rfl ti25 rfl rfl hc24) ?_
     refine st (v := (I s19.2)) (rv_move rfl) ?_
     obtain ⟨r25, hx26, h'⟩ := bind_some h
     clear h
     have h := h'; clear h'
     have hc27 := c_spec_decode (ab_0_0 := ab_0_0) (cb_0_0 := cb_0_0) (ab_0_1 := ab_0_1) (cb_0_1 := cb_0_1) hx26
     refine st_call (cx_call hc27 (ent_f hc27.fn rfl) hn0 (show Hp S0 σ0 _ ([Ch.ro 0 (Sl ab_0_0 b_0.1 cb_0_0) b_0.1, Ch.ro 0 (Sl ab_0_1 b_0.2 cb_0_1) b_0.2] ++ [Ch.ro 0 (Sl aat_1 at_1 cat_1) at_1, Ch.ro 0 (Sl ab_0_0 b_0.1 cb_0_0) b_0.1, Ch.ro 0 (Sl ab_0_1 b_0.2 cb_0_1) b_0.2, Ch.bx n0 b1 0 [(Sl ab_0_0 b_0.1 cb_0_0), (Sl ab_0_1 b_0.2 cb_0_1)] [] [], Ch.own n0 n0 (Sl a21 s19.1 c22) s19.1]) from (H.sel' [1, 2, 0, 1, 2, 3, 4] rfl rfl))) wn ?_
     rintro _ σ30 ⟨_, ⟨a28, c29, rfl, rfl⟩, H, -⟩
     replace H : Hp S0 σ0 σ30 [Ch.own n0 n0 (Sl a28 r25 c29) r25, Ch.ro 0 (Sl aat_1 at_1 cat_1) at_1, Ch.ro 0 (Sl ab_0_0 b_0.1 cb_0_0) b_0.1, Ch.ro 0 (Sl ab_0_1 b_0.2 cb_0_1) b_0.2, Ch.bx n0 b1 0 [(Sl ab_0_0 b_0.1 cb_0_0), (Sl ab_0_1 b_0.2 cb_0_1)] [] [], Ch.own n0 n0 (Sl a21 s19.1 c22) s19.1] := H
     refine st (v := (Sl aat_1 at_1 cat_1)) (rv_move rfl) ?_
     obtain ⟨σ31, hw32, H, -⟩ := H.pub 0 rfl (Nat.le_refl _)
     rw [← hw32]; clear hw32
     replace H := H.roLow 0 0 rfl (Nat.zero_le _)
     obtain ⟨r33, hx34, h'⟩ := bind_some h
     clear h
     have h := h'; clear h'
     have hc35 := c_spec_dist (aa_1 := a28) (ca_1 := c29) (ab_2 := aat_1) (cb_2 := cat_1) hx34
     refine st_call (cx_call hc35 (ent_f hc35.fn rfl) hn0 (show Hp S0 σ0 _ ([Ch.ro 0 (Sl a28 r25 c29) r25, Ch.ro 0 (Sl aat_1 at_1 cat_1) at_1] ++ [Ch.ro 0 (Sl a28 r25 c29) r25, Ch.ro n0 (Sl a28 r25 c29) r25, Ch.ro 0 (Sl aat_1 at_1 cat_1) at_1, Ch.ro 0 (Sl ab_0_0 b_0.1 cb_0_0) b_0.1, Ch.ro 0 (Sl ab_0_1 b_0.2 cb_0_1) b_0.2, Ch.bx n0 b1 0 [(Sl ab_0_0 b_0.1 cb_0_0), (Sl ab_0_1 b_0.2 cb_0_1)] [] [], Ch.own n0 n0 (Sl a21 s19.1 c22) s19.1]) from (H.sel' [0, 2, 0, 1, 2, 3, 4, 5, 6] rfl rfl))) wn ?_
     rintro _ σ36 ⟨_, ⟨rfl, rfl⟩, H, -⟩
     replace H : Hp S0 σ0 σ36 [Ch.ro 0 (Sl a28 r25 c29) r25, Ch.ro n0 (Sl a28 r25 c29) r25, Ch.ro 0 (Sl aat_1 at_1 cat_1) at_1, Ch.ro 0 (Sl ab_0_0 b_0.1 cb_0_0) b_0.1, Ch.ro 0 (Sl ab_0_1 b_0.2 cb_0_1) b_0.2, Ch.bx n0 b1 0 [(Sl ab_0_0 b_0.1 cb_0_0), (Sl ab_0_1 b_0.2 cb_0_1)] [] [], Ch.own n0 n0 (Sl a21 s19.1 c22) s19.1] := H
     refine st_ex (ex_buildSlice (el := n0) (xs := ([r33] : List Int)) (ps := [(0, (I r33))]) (cs := [(I r33)]) H hn0 Try.underlying29 ti3 rfl rfl (by kernel_rfl) (.cons (c := [(I r33)]) rfl (.nil)) rfl) wn ?_
     rintro _ σ38 ⟨b37, rfl, H, -⟩
     replace H : Hp S0 σ0 σ38 [Ch.own n0 n0 (Sl (some ⟨b37, 0, none⟩) ([r33] : List Int) 1) ([r33] : List Int), Ch.ro 0 (Sl aat_1 at_1 cat_1) at_1, Ch.ro 0 (Sl ab_0_0 b_0.1 cb_0_0) b_0.1, Ch.ro 0 (Sl ab_0_1 b_0.2 cb_0_1) b_0.2, Ch.bx n0 b1 0 [(Sl ab_0_0 b_0.1 cb_0_0), (Sl ab_0_1 b_0.2 cb_0_1)] [] [], Ch.own n0 n0 (Sl a21 s19.1 c22) s19.1] := H.sel' [0, 3, 4, 5, 6, 7] rfl rfl
     obtain ⟨xs39, hx40, h'⟩ := bind_some h
     clear h
     have h := h'; clear h'
     refine st_ex (ex_append H (i := 5) rfl Try.underlying29 Try.underlying29 ti3 rfl rfl (by decide) (H.own 0 rfl).rd hx40 hn0 rfl rfl) wn ?_
     rintro _ σ43 ⟨a41, c42, rfl, H, -⟩
     refine st (v := (Sl a41 xs39 c42)) (rv_assign rfl) ?_
     refine w_end ?_
     refine q_blk ?_
     refine q_then ?_
     refine rg ?_
     refine st (v := (I s19.2)) (rv_move rfl) ?_
     refine st (v := (I (w64 (s19.2 + 1)))) (rv_add (a := s19.2) (b := 1) rfl rfl) ?_
     refine st (v := (I (w64 (s19.2 + 1)))) (rv_assign rfl) ?_
     refine w_end ?_
     refine q_then ?_
     obtain rfl := Option.some.inj h
     exact ⟨_, rfl, _, σ43, a41, c42, fr_join ⟨rfl, rfl, rfl, rfl, trivial⟩, rfl, H.sel' [2, 3, 4, 5, 0] rfl rfl⟩
    ·replace h := bif_f hb23 h
     refine c_exit ?_
     refine q_then_x ?_
     refine q_then_x ?_
     refine q_blk_hit ?_
     obtain rfl := Option.some.inj h
     obtain rfl := hres _ rfl
     exact ⟨rfl, _, σ20, a21, c22, fr_join ⟨rfl, trivial⟩, rfl, H.sel' [4] rfl rfl⟩
   ·clear hj
    have h := h'
    clear h' H
    rintro e a w ⟨rfl, ρ, σ44, a45, c46, rfl, rfl, H⟩
    refine q_then ?_
    refine c_seq ?_
    refine rg ?_
    refine st (v := (Sl a45 o18 c46)) (rv_move rfl) ?_
    refine st (v := (Sl a45 o18 c46)) (rv_assign rfl) ?_
    refine w_end ?_
    refine q_then ?_
    refine c_ret ?_
    obtain rfl := Option.some.inj h
    exact fin_ret (v := (Sl a45 o18 c46)) (results_ok Try.results27 (res_tmp (v := (Sl a45 o18 c46)) rfl res_nil) rfl) ⟨a45, c46, rfl, rfl⟩ (H.sel' [0] rfl rfl)

theorem c_laws_FnCodeDistances {code_0 : List UInt8} {acode_0 : Option Addr} {ccode_0 : Nat} {r : Bool} (h : M.laws_FnCodeDistances code_0 = some r) :
    Cal2 Try.prog 7 [(Sl acode_0 code_0 ccode_0)] [Ch.ro 0 (Sl acode_0 code_0 ccode_0) code_0] (fun n0 v L => v = (B r) ∧ L = []) := by
 refine cal2 (n := 78) Try.func7 rfl rfl rfl rfl ?_
 intro S0 σ0 n0 hn0 H
 unfold M.laws_FnCodeDistances at h
 refine c_seq ?_
 refine rg ?_
 refine st (v := (B false)) (rv_assign rfl) ?_
 refine w_end ?_
 refine q_then ?_
 refine c_seq ?_
 refine c_seq ?_
 refine rg ?_
 refine st (v := (Sl acode_0 code_0 ccode_0)) (rv_move rfl) ?_
 refine st (v := (I (code_0.length : Int))) (rv_len Try.underlying22 rfl) ?_
 refine st (v := (B (decide (1048576 < (code_0.length : Int))))) (rv_gtr (a := (code_0.length : Int)) (b := 1048576) rfl rfl) ?_
 refine w_end ?_
 refine q_then ?_
 refine cd_cond (decide (1048576 < (code_0.length : Int))) rfl (fun hb1 => ?_) (fun hb1 => ?_)
 ·replace h := bif_t hb1 h
  refine c_seq ?_
  refine rg ?_
  refine st (v := (B true)) (rv_assign rfl) ?_
  refine w_end ?_
  refine q_then ?_
  refine c_ret ?_
  refine q_then_r ?_
  obtain rfl := Option.some.inj h
  exact fin_ret (v := (B true)) (results_ok Try.results7 (res_tmp (v := (B true)) rfl res_nil) rfl) ⟨rfl, rfl⟩ (H.sel' [] rfl rfl)
 ·replace h := bif_f hb1 h
  refine c_skip ?_
  refine q_then ?_
  refine c_seq ?_
  refine rg ?_
  refine st (v := (Sl acode_0 code_0 ccode_0)) (rv_move rfl) ?_
  obtain ⟨r2, hx3, h'⟩ := bind_some h
  clear h
  have h := h'; clear h'
  have hc4 := c_spec_DrawCodeDistances (acode_0 := acode_0) (ccode_0 := ccode_0) hx3
  refine st_call (cx_call hc4 (ent_f hc4.fn rfl) hn0 (show Hp S0 σ0 _ ([Ch.ro 0 (Sl acode_0 code_0 ccode_0) code_0] ++ [Ch.ro 0 (Sl acode_0 code_0 ccode_0) code_0]) from (H.sel' [0, 0] rfl rfl))) wn ?_
  rintro _ σ11 ⟨_, ⟨a5, c6, a7, c8, a9, c10, rfl, rfl⟩, H, -⟩
  replace H : Hp S0 σ0 σ11 [Ch.own n0 n0 (Sl a5 r2.1.1 c6) r2.1.1, Ch.own n0 n0 (Sl a7 r2.1.2 c8) r2.1.2, Ch.own n0 n0 (Sl a9 r2.2 c10) r2.2, Ch.ro 0 (Sl acode_0 code_0 ccode_0) code_0] := H
  refine st (v := (.tuple #[(.agg #[(Sl a5 r2.1.1 c6), (Sl a7 r2.1.2 c8)]), (Sl a9 r2.2 c10)])) (rv_move rfl) ?_
  refine st (v := (.agg #[(Sl a5 r2.1.1 c6), (Sl a7 r2.1.2 c8)])) (rv_extract rfl rfl) ?_
  refine st (v := (Sl a9 r2.2 c10)) (rv_extract rfl rfl) ?_
  refine st_ex (ex_alloc (cs := [(.slice none 0 0), (.slice none 0 0)]) H hn0 ti25 rfl) wn ?_
  rintro _ σ13 ⟨b12, rfl, H, -⟩
  refine st_exS (ex_store_box (k := 0) (cs := [(.slice none 0 0), (.slice none 0 0)]) (vs := [(Sl a5 r2.1.1 c6), (Sl a7 r2.1.2 c8)]) (cs' := [(Sl a5 r2.1.1 c6), (Sl a7 r2.1.2 c8)]) H (i := 0) rfl ti25 rfl rfl rfl rfl rfl (Nat.le_of_ble_eq_true rfl) (by simp [plain]) rfl) wn ?_
  rintro σ14 ⟨H, -⟩
  refine st (v := (Sl a9 r2.2 c10)) (rv_assign rfl) ?_
  refine w_end ?_
  refine q_then ?_
  refine c_seq ?_
  refine rg ?_
  have hc15 := H.cells 0 rfl
  refine st (v := (.agg #[(Sl a5 r2.1.1 c6), (Sl a7 r2.1.2 c8)])) (rv_load (cs := [(Sl a5 r2.1.1 c6), (Sl a7 r2.1.2 c8)]) Try.underlying25 rfl ti25 rfl rfl hc15) ?_
  refine st (v := (Sl a9 r2.2 c10)) (rv_move rfl) ?_
  obtain ⟨r16, hx17, h'⟩ := bind_some h
  clear h
  have h := h'; clear h'
  have hc18 := c_impl_CodeDistances (ab_0_0 := a5) (cb_0_0 := c6) (ab_0_1 := a7) (cb_0_1 := c8) (aat_1 := a9) (cat_1 := c10) hx17
  have hle := Nat.le_trans hn0 H.size
  refine st_call (cx_lend (Loan.lend (Loan.lend (Loan.lend Loan.nil))) hc18 (ent_f hc18.fn rfl) (show Hp S0 σ0 _ ([Ch.own n0 n0 (Sl a5 r2.1.1 c6) r2.1.1, Ch.own n0 n0 (Sl a7 r2.1.2 c8) r2.1.2, Ch.own n0 n0 (Sl a9 r2.2 c10) r2.2] ++ ([] ++ [Ch.bx n0 b12 0 [(Sl a5 r2.1.1 c6), (Sl a7 r2.1.2 c8)] [] [], Ch.ro 0 (Sl acode_0 code_0 ccode_0) code_0])) from (H.sel' [1, 2, 3, 0, 4] rfl rfl)) (by rintro _ _ _ ⟨_, _, rfl, rfl⟩; exact ⟨Ab.ownSc, trivial⟩)) wn ?_
  rintro _ σ21 ⟨_, ⟨a19, c20, rfl, rfl⟩, H, -, -⟩
  replace H : Hp S0 σ0 σ21 [Ch.own σ14.size σ14.size (Sl a19 r16 c20) r16, Ch.own n0 n0 (Sl a5 r2.1.1 c6) r2.1.1, Ch.own n0 n0 (Sl a7 r2.1.2 c8) r2.1.2, Ch.own n0 n0 (Sl a9 r2.2 c10) r2.2, Ch.bx n0 b12 0 [(Sl a5 r2.1.1 c6), (Sl a7 r2.1.2 c8)] [] [], Ch.ro 0 (Sl acode_0 code_0 ccode_0) code_0] := H
  replace H := H.ownLow 0 n0 n0 rfl hle hle
  clear hle
  replace H : Hp S0 σ0 σ21 [Ch.own n0 n0 (Sl a19 r16 c20) r16, Ch.own n0 n0 (Sl a5 r2.1.1 c6) r2.1.1, Ch.own n0 n0 (Sl a7 r2.1.2 c8) r2.1.2, Ch.own n0 n0 (Sl a9 r2.2 c10) r2.2, Ch.bx n0 b12 0 [(Sl a5 r2.1.1 c6), (Sl a7 r2.1.2 c8)] [] [], Ch.ro 0 (Sl acode_0 code_0 ccode_0) code_0] := H
  refine st (v := (Sl a19 r16 c20)) (rv_assign rfl) ?_
  refine w_end ?_
  refine q_then ?_
  refine c_seq ?_
  refine c_seq ?_
  obtain ⟨o22, hj, h'⟩ := bind_some h
  clear h
  refine c_cut (fun e a w => e = .normal ∧ ∃ (ρ : Nat → Value) (σ : St), a = fr 78 (updL ρ [(3, (pt b12 0)), (4, (Sl a9 r2.2 c10)), (5, (Sl a19 r16 c20)), (29, (B o22))]) ∧ w = σ.w ∧ Hp S0 σ0 σ [Ch.own n0 n0 (Sl a5 r2.1.1 c6) r2.1.1, Ch.own n0 n0 (Sl a7 r2.1.2 c8) r2.1.2, Ch.bx n0 b12 0 [(Sl a5 r2.1.1 c6), (Sl a7 r2.1.2 c8)] [] [], Ch.own n0 n0 (Sl a9 r2.2 c10) r2.2, Ch.own n0 n0 (Sl a19 r16 c20) r16]) ?_ ?_
  ·clear h'
   rename _ = some o22 => h
   refine rg ?_
   refine st (v := (Sl a19 r16 c20)) (rv_move rfl) ?_
   have hc23 := H.cells 4 rfl
   refine st (v := (.agg #[(Sl a5 r2.1.1 c6), (Sl a7 r2.1.2 c8)])) (rv_load (cs := [(Sl a5 r2.1.1 c6), (Sl a7 r2.1.2 c8)]) Try.underlying25 rfl ti25 rfl rfl hc23) ?_
   refine st (v := (Sl a9 r2.2 c10)) (rv_move rfl) ?_
   obtain ⟨r24, hx25, h'⟩ := bind_some h
   clear h
   have h := h'; clear h'
   have hc26 := c_spec_CodeDistances (ab_0_0 := a5) (cb_0_0 := c6) (ab_0_1 := a7) (cb_0_1 := c8) (aat_1 := a9) (cat_1 := c10) hx25
   have hle := Nat.le_trans hn0 H.size
   refine st_call (cx_lend (Loan.lend (Loan.lend (Loan.lend Loan.nil))) hc26 (ent_f hc26.fn rfl) (show Hp S0 σ0 _ ([Ch.own n0 n0 (Sl a5 r2.1.1 c6) r2.1.1, Ch.own n0 n0 (Sl a7 r2.1.2 c8) r2.1.2, Ch.own n0 n0 (Sl a9 r2.2 c10) r2.2] ++ ([] ++ [Ch.own n0 n0 (Sl a19 r16 c20) r16, Ch.bx n0 b12 0 [(Sl a5 r2.1.1 c6), (Sl a7 r2.1.2 c8)] [] [], Ch.ro 0 (Sl acode_0 code_0 ccode_0) code_0])) from (H.sel' [1, 2, 3, 0, 4, 5] rfl rfl)) (by rintro _ _ _ ⟨_, _, rfl, rfl⟩; exact ⟨Ab.ownSc, trivial⟩)) wn ?_
   rintro _ σ29 ⟨_, ⟨a27, c28, rfl, rfl⟩, H, -, -⟩
   replace H : Hp S0 σ0 σ29 [Ch.own σ21.size σ21.size (Sl a27 r24 c28) r24, Ch.own n0 n0 (Sl a5 r2.1.1 c6) r2.1.1, Ch.own n0 n0 (Sl a7 r2.1.2 c8) r2.1.2, Ch.own n0 n0 (Sl a9 r2.2 c10) r2.2, Ch.own n0 n0 (Sl a19 r16 c20) r16, Ch.bx n0 b12 0 [(Sl a5 r2.1.1 c6), (Sl a7 r2.1.2 c8)] [] [], Ch.ro 0 (Sl acode_0 code_0 ccode_0) code_0] := H
   replace H := H.ownLow 0 n0 n0 rfl hle hle
   clear hle
   replace H : Hp S0 σ0 σ29 [Ch.own n0 n0 (Sl a27 r24 c28) r24, Ch.own n0 n0 (Sl a5 r2.1.1 c6) r2.1.1, Ch.own n0 n0 (Sl a7 r2.1.2 c8) r2.1.2, Ch.own n0 n0 (Sl a9 r2.2 c10) r2.2, Ch.own n0 n0 (Sl a19 r16 c20) r16, Ch.bx n0 b12 0 [(Sl a5 r2.1.1 c6), (Sl a7 r2.1.2 c8)] [] [], Ch.ro 0 (Sl acode_0 code_0 ccode_0) code_0] := H
   obtain ⟨σ30, hw31, H, -⟩ := H.pub 0 rfl (Nat.le_refl _)
   rw [← hw31]; clear hw31
   replace H := H.roLow 0 0 rfl (Nat.zero_le _)
   obtain ⟨r32, hx33, h'⟩ := bind_some h
   clear h
   have h := h'; clear h'
   have hc34 := c_laws_equalInts (aa_0 := a19) (ca_0 := c20) (ab_1 := a27) (cb_1 := c28) hx33
   have hle := Nat.le_trans hn0 H.size
   refine st_call (cx_lend (Loan.lend (Loan.same Loan.nil)) hc34 (ent_f hc34.fn rfl) (show Hp S0 σ0 _ ([Ch.own n0 n0 (Sl a19 r16 c20) r16] ++ ([Ch.ro 0 (Sl a27 r24 c28) r24] ++ [Ch.ro 0 (Sl a27 r24 c28) r24, Ch.ro n0 (Sl a27 r24 c28) r24, Ch.own n0 n0 (Sl a5 r2.1.1 c6) r2.1.1, Ch.own n0 n0 (Sl a7 r2.1.2 c8) r2.1.2, Ch.own n0 n0 (Sl a9 r2.2 c10) r2.2, Ch.bx n0 b12 0 [(Sl a5 r2.1.1 c6), (Sl a7 r2.1.2 c8)] [] [], Ch.ro 0 (Sl acode_0 code_0 ccode_0) code_0])) from (H.sel' [5, 0, 0, 1, 2, 3, 4, 6, 7] rfl rfl)) (by rintro _ _ _ ⟨rfl, rfl⟩; exact trivial)) wn ?_
   rintro _ σ35 ⟨_, ⟨rfl, rfl⟩, H, -, -⟩
   replace H : Hp S0 σ0 σ35 [Ch.own n0 n0 (Sl a19 r16 c20) r16, Ch.ro 0 (Sl a27 r24 c28) r24, Ch.ro n0 (Sl a27 r24 c28) r24, Ch.own n0 n0 (Sl a5 r2.1.1 c6) r2.1.1, Ch.own n0 n0 (Sl a7 r2.1.2 c8) r2.1.2, Ch.own n0 n0 (Sl a9 r2.2 c10) r2.2, Ch.bx n0 b12 0 [(Sl a5 r2.1.1 c6), (Sl a7 r2.1.2 c8)] [] [], Ch.ro 0 (Sl acode_0 code_0 ccode_0) code_0] := H
   clear hle
   replace H : Hp S0 σ0 σ35 [Ch.own n0 n0 (Sl a19 r16 c20) r16, Ch.ro 0 (Sl a27 r24 c28) r24, Ch.ro n0 (Sl a27 r24 c28) r24, Ch.own n0 n0 (Sl a5 r2.1.1 c6) r2.1.1, Ch.own n0 n0 (Sl a7 r2.1.2 c8) r2.1.2, Ch.own n0 n0 (Sl a9 r2.2 c10) r2.2, Ch.bx n0 b12 0 [(Sl a5 r2.1.1 c6), (Sl a7 r2.1.2 c8)] [] [], Ch.ro 0 (Sl acode_0 code_0 ccode_0) code_0] := H
   replace H : Hp S0 σ0 σ35 [Ch.own n0 n0 (Sl a19 r16 c20) r16, Ch.own n0 n0 (Sl a5 r2.1.1 c6) r2.1.1, Ch.own n0 n0 (Sl a7 r2.1.2 c8) r2.1.2, Ch.own n0 n0 (Sl a9 r2.2 c10) r2.2, Ch.bx n0 b12 0 [(Sl a5 r2.1.1 c6), (Sl a7 r2.1.2 c8)] [] []] := H.sel' [0, 3, 4, 5, 6] rfl rfl
   refine st (v := (B (!r32))) (rv_not rfl) ?_
   refine st (v := (B (!r32))) (rv_move rfl) ?_
   rcases Bool.eq_false_or_eq_true (!r32) with hb36 | hb36
   ·replace h := bif_t hb36 h
    refine st_skip (congrArg some hb36) ?_
    refine st_skip (congrArg some hb36) ?_
    refine st_skip (congrArg some hb36) ?_
    refine st (v := (B true)) (rv_pick_t (congrArg B hb36) rfl) ?_
    refine w_end ?_
    obtain rfl := Option.some.inj h
    exact ⟨rfl, _, σ35, fr_join ⟨rfl, rfl, rfl, rfl, trivial⟩, rfl, H.sel' [1, 2, 4, 3, 0] rfl rfl⟩
   ·replace h := bif_f hb36 h
    refine st_g (v := (Sl a19 r16 c20)) (congrArg some hb36) (rv_move rfl) ?_
    refine st_g (v := (I (r16.length : Int))) (congrArg some hb36) (rv_len Try.underlying29 rfl) ?_
    refine st_g (v := (B ((r16.length : Int) == 0))) (congrArg some hb36) (rv_eql (a := (r16.length : Int)) (b := 0) rfl rfl) ?_
    refine st (v := (B ((r16.length : Int) == 0))) (rv_pick_f (congrArg B hb36) rfl) ?_
    refine w_end ?_
    obtain rfl := Option.some.inj h
    exact ⟨rfl, _, σ35, fr_join ⟨rfl, rfl, rfl, rfl, trivial⟩, rfl, H.sel' [1, 2, 4, 3, 0] rfl rfl⟩
  ·clear hj
   have h := h'
   clear h' H
   rintro e a w ⟨rfl, ρ, σ37, rfl, rfl, H⟩
   refine q_then ?_
   refine cd_cond o22 rfl (fun hb38 => ?_) (fun hb38 => ?_)
   ·replace h := bif_t hb38 h
    refine c_seq ?_
    refine rg ?_
    refine st (v := (Sl a19 r16 c20)) (rv_move rfl) ?_
    have hc39 := H.cells 2 rfl
    refine st (v := (.agg #[(Sl a5 r2.1.1 c6), (Sl a7 r2.1.2 c8)])) (rv_load (cs := [(Sl a5 r2.1.1 c6), (Sl a7 r2.1.2 c8)]) Try.underlying25 rfl ti25 rfl rfl hc39) ?_
    refine st (v := (Sl a9 r2.2 c10)) (rv_move rfl) ?_
    obtain ⟨σ40, hw41, H, -⟩ := H.pub 0 rfl (Nat.le_refl _)
    rw [← hw41]; clear hw41
    obtain ⟨σ42, hw43, H, -⟩ := H.pub 1 rfl (Nat.le_refl _)
    rw [← hw43]; clear hw43
    obtain ⟨σ44, hw45, H, -⟩ := H.pub 3 rfl (Nat.le_refl _)
    rw [← hw45]; clear hw45
    replace H := H.roLow 2 0 rfl (Nat.zero_le _)
    replace H := H.roLow 2 0 rfl (Nat.zero_le _)
    replace H := H.roLow 2 0 rfl (Nat.zero_le _)
    obtain ⟨r46, hx47, h'⟩ := bind_some h
    clear h
    have h := h'; clear h'
    have hc48 := c_spec_CodeDistances (ab_0_0 := a5) (cb_0_0 := c6) (ab_0_1 := a7) (cb_0_1 := c8) (aat_1 := a9) (cat_1 := c10) hx47
    refine st_call (cx_call hc48 (ent_f hc48.fn rfl) hn0 (show Hp S0 σ0 _ ([Ch.ro 0 (Sl a5 r2.1.1 c6) r2.1.1, Ch.ro 0 (Sl a7 r2.1.2 c8) r2.1.2, Ch.ro 0 (Sl a9 r2.2 c10) r2.2] ++ [Ch.ro 0 (Sl a9 r2.2 c10) r2.2, Ch.ro 0 (Sl a7 r2.1.2 c8) r2.1.2, Ch.ro 0 (Sl a5 r2.1.1 c6) r2.1.1, Ch.ro n0 (Sl a9 r2.2 c10) r2.2, Ch.ro n0 (Sl a7 r2.1.2 c8) r2.1.2, Ch.ro n0 (Sl a5 r2.1.1 c6) r2.1.1, Ch.bx n0 b12 0 [(Sl a5 r2.1.1 c6), (Sl a7 r2.1.2 c8)] [] [], Ch.own n0 n0 (Sl a19 r16 c20) r16]) from (H.sel' [2, 1, 0, 0, 1, 2, 3, 4, 5, 6, 7] rfl rfl))) wn ?_
    rintro _ σ51 ⟨_, ⟨a49, c50, rfl, rfl⟩, H, -⟩
    replace H : Hp S0 σ0 σ51 [Ch.own n0 n0 (Sl a49 r46 c50) r46, Ch.ro 0 (Sl a9 r2.2 c10) r2.2, Ch.ro 0 (Sl a7 r2.1.2 c8) r2.1.2, Ch.ro 0 (Sl a5 r2.1.1 c6) r2.1.1, Ch.ro n0 (Sl a9 r2.2 c10) r2.2, Ch.ro n0 (Sl a7 r2.1.2 c8) r2.1.2, Ch.ro n0 (Sl a5 r2.1.1 c6) r2.1.1, Ch.bx n0 b12 0 [(Sl a5 r2.1.1 c6), (Sl a7 r2.1.2 c8)] [] [], Ch.own n0 n0 (Sl a19 r16 c20) r16] := H
    replace H : Hp S0 σ0 σ51 [Ch.own n0 n0 (Sl a49 r46 c50) r46, Ch.own n0 n0 (Sl a19 r16 c20) r16] := H.sel' [0, 8] rfl rfl
    obtain ⟨σ52, hw53, H, -⟩ := H.pub 1 rfl (Nat.le_refl _)
    rw [← hw53]; clear hw53
    obtain ⟨σ54, hw55, H, -⟩ := H.pub 1 rfl (Nat.le_refl _)
    rw [← hw55]; clear hw55
    replace H := H.roLow 1 0 rfl (Nat.zero_le _)
    replace H := H.roLow 1 0 rfl (Nat.zero_le _)
    obtain ⟨r56, hx57, h'⟩ := bind_some h
    clear h
    have h := h'; clear h'
    have hc58 := c_laws_equalInts (aa_0 := a19) (ca_0 := c20) (ab_1 := a49) (cb_1 := c50) hx57
    refine st_call (cx_call hc58 (ent_f hc58.fn rfl) hn0 (show Hp S0 σ0 _ ([Ch.ro 0 (Sl a19 r16 c20) r16, Ch.ro 0 (Sl a49 r46 c50) r46] ++ [Ch.ro 0 (Sl a49 r46 c50) r46, Ch.ro 0 (Sl a19 r16 c20) r16, Ch.ro n0 (Sl a49 r46 c50) r46, Ch.ro n0 (Sl a19 r16 c20) r16]) from (H.sel' [1, 0, 0, 1, 2, 3] rfl rfl))) wn ?_
    rintro _ σ59 ⟨_, ⟨rfl, rfl⟩, H, -⟩
    replace H : Hp S0 σ0 σ59 [Ch.ro 0 (Sl a49 r46 c50) r46, Ch.ro 0 (Sl a19 r16 c20) r16, Ch.ro n0 (Sl a49 r46 c50) r46, Ch.ro n0 (Sl a19 r16 c20) r16] := H
    refine st (v := (B r56)) (rv_assign rfl) ?_
    refine w_end ?_
    refine q_then ?_
    refine c_ret ?_
    refine q_then_r ?_
    obtain rfl := Option.some.inj h
    exact fin_ret (v := (B r56)) (results_ok Try.results7 (res_tmp (v := (B r56)) rfl res_nil) rfl) ⟨rfl, rfl⟩ (H.sel' [] rfl rfl)
   ·replace h := bif_f hb38 h
    refine c_skip ?_
    refine q_then ?_
    refine c_seq ?_
    refine rg ?_
    have hc60 := H.cells 2 rfl
    refine st (v := (.agg #[(Sl a5 r2.1.1 c6), (Sl a7 r2.1.2 c8)])) (rv_load (cs := [(Sl a5 r2.1.1 c6), (Sl a7 r2.1.2 c8)]) Try.underlying25 rfl ti25 rfl rfl hc60) ?_
    refine st (v := (Sl a9 r2.2 c10)) (rv_move rfl) ?_
    obtain ⟨r61, hx62, h'⟩ := bind_some h
    clear h
    have h := h'; clear h'
    have hc63 := c_impl_EncodeVector (ab_0_0 := a5) (cb_0_0 := c6) (ab_0_1 := a7) (cb_0_1 := c8) (aat_1 := a9) (cat_1 := c10) hx62
    have hle := Nat.le_trans hn0 H.size
    refine st_call (cx_lend (Loan.lend (Loan.lend (Loan.lend Loan.nil))) hc63 (ent_f hc63.fn rfl) (show Hp S0 σ0 _ ([Ch.own n0 n0 (Sl a5 r2.1.1 c6) r2.1.1, Ch.own n0 n0 (Sl a7 r2.1.2 c8) r2.1.2, Ch.own n0 n0 (Sl a9 r2.2 c10) r2.2] ++ ([] ++ [Ch.bx n0 b12 0 [(Sl a5 r2.1.1 c6), (Sl a7 r2.1.2 c8)] [] [], Ch.own n0 n0 (Sl a19 r16 c20) r16])) from (H.sel' [0, 1, 3, 2, 4] rfl rfl)) (by rintro _ _ _ ⟨rfl, rfl⟩; exact trivial)) wn ?_
    rintro _ σ64 ⟨_, ⟨rfl, rfl⟩, H, -, -⟩
    replace H : Hp S0 σ0 σ64 [Ch.own n0 n0 (Sl a5 r2.1.1 c6) r2.1.1, Ch.own n0 n0 (Sl a7 r2.1.2 c8) r2.1.2, Ch.own n0 n0 (Sl a9 r2.2 c10) r2.2, Ch.bx n0 b12 0 [(Sl a5 r2.1.1 c6), (Sl a7 r2.1.2 c8)] [] [], Ch.own n0 n0 (Sl a19 r16 c20) r16] := H
    clear hle
    replace H : Hp S0 σ0 σ64 [Ch.own n0 n0 (Sl a5 r2.1.1 c6) r2.1.1, Ch.own n0 n0 (Sl a7 r2.1.2 c8) r2.1.2, Ch.own n0 n0 (Sl a9 r2.2 c10) r2.2, Ch.bx n0 b12 0 [(Sl a5 r2.1.1 c6), (Sl a7 r2.1.2 c8)] [] [], Ch.own n0 n0 (Sl a19 r16 c20) r16] := H
    refine st (v := (I r61)) (rv_assign rfl) ?_
    refine w_end ?_
    refine q_then ?_
    refine c_seq ?_
    refine c_seq ?_
    refine rg ?_
    refine st (v := (I 0)) (rv_assign rfl) ?_
    refine w_end ?_
    refine q_then ?_
    obtain ⟨o65, hj, h'⟩ := bind_some h
    clear h
    refine c_cut (fun e a w => (∃ t, o65 = (.inl t) ∧ e = .normal ∧ ∃ (ρ : Nat → Value) (σ : St), a = fr 78 (updL ρ [(5, (Sl a19 r16 c20))]) ∧ w = σ.w ∧ Hp S0 σ0 σ [Ch.own n0 n0 (Sl a19 r16 c20) r16]) ∨ (∃ t, o65 = (.inr t) ∧ e = .ret ∧ ∃ (ρ : Nat → Value) (σ : St), a = fr 78 (updL ρ [(2, (B t))]) ∧ w = σ.w ∧ Hp S0 σ0 σ [])) ?_ ?_
    ·clear h'
     rename _ = some o65 => h
     refine c_blk ?_
     obtain ⟨σ67, hw68, H, -⟩ := H.pub 0 rfl (Nat.le_refl _)
     rw [← hw68]; clear hw68
     obtain ⟨σ69, hw70, H, -⟩ := H.pub 1 rfl (Nat.le_refl _)
     rw [← hw70]; clear hw70
     obtain ⟨σ71, hw72, H, -⟩ := H.pub 2 rfl (Nat.le_refl _)
     rw [← hw72]; clear hw72
     refine wp_loopM _ h (fun s66 a w => ∃ (ρ : Nat → Value) (σ : St), a = fr 78 (updL ρ [(3, (pt b12 0)), (4, (Sl a9 r2.2 c10)), (5, (Sl a19 r16 c20)), (6, (I r61)), (7, (I s66))]) ∧ w = σ.w ∧ Hp S0 σ0 σ [Ch.ro n0 (Sl a5 r2.1.1 c6) r2.1.1, Ch.ro n0 (Sl a7 r2.1.2 c8) r2.1.2, Ch.bx n0 b12 0 [(Sl a5 r2.1.1 c6), (Sl a7 r2.1.2 c8)] [] [], Ch.ro n0 (Sl a9 r2.2 c10) r2.2, Ch.own n0 n0 (Sl a19 r16 c20) r16]) ⟨_, σ71, fr_join ⟨rfl, rfl, rfl, rfl, rfl, trivial⟩, rfl, H.sel' [2, 1, 3, 0, 4] rfl rfl⟩ ?_
     clear h H
     rintro s66 a w o ⟨ρ, σ73, rfl, rfl, H⟩ h hres
     refine c_seq ?_
     refine c_seq ?_
     refine rg ?_
     refine st (v := (I s66)) (rv_move rfl) ?_
     refine st (v := (Sl a19 r16 c20)) (rv_move rfl) ?_
     refine st (v := (I (r16.length : Int))) (rv_len Try.underlying29 rfl) ?_
     refine st (v := (B (decide (s66 < (r16.length : Int))))) (rv_lss (a := s66) (b := (r16.length : Int)) rfl rfl) ?_
     refine w_end ?_
     refine q_then ?_
     refine cd_cond (decide (s66 < (r16.length : Int))) rfl (fun hb74 => ?_) (fun hb74 => ?_)
     ·replace h := bif_t hb74 h
      refine c_skip ?_
      refine q_then ?_
      refine c_seq ?_
      refine c_blk ?_
      refine c_seq ?_
      obtain ⟨o75, hj, h'⟩ := bind_some h
      clear h
      refine c_cut (fun e a w => e = .normal ∧ ∃ (ρ : Nat → Value) (σ : St), a = fr 78 (updL ρ [(3, (pt b12 0)), (4, (Sl a9 r2.2 c10)), (5, (Sl a19 r16 c20)), (6, (I r61)), (7, (I s66)), (74, (B o75))]) ∧ w = σ.w ∧ Hp S0 σ0 σ [Ch.ro n0 (Sl a5 r2.1.1 c6) r2.1.1, Ch.ro n0 (Sl a7 r2.1.2 c8) r2.1.2, Ch.bx n0 b12 0 [(Sl a5 r2.1.1 c6), (Sl a7 r2.1.2 c8)] [] [], Ch.ro n0 (Sl a9 r2.2 c10) r2.2, Ch.own n0 n0 (Sl a19 r16 c20) r16]) ?_ ?_
      ·clear h'
       rename _ = some o75 => h
       obtain ⟨x76, hx77, h'⟩ := bind_some h
       clear h
       have h := h'; clear h'
       obtain ⟨b79, o80, hi78, -⟩ := (H.own 4 rfl).ix hx77
       have hc81 := ((H.own 4 rfl).at hx77 hi78).int
       have hc82 := H.cells 2 rfl
       replace H := H.roLow 0 0 rfl (Nat.zero_le _)
       replace H := H.roLow 2 0 rfl (Nat.zero_le _)
       obtain ⟨r83, hx84, h'⟩ := bind_some h
       clear h
       have h := h'; clear h'
       have hc85 := c_impl_DecodeVector (ab_0_0 := a5) (cb_0_0 := c6) (ab_0_1 := a7) (cb_0_1 := c8) hx84
       replace H := H.roLow 5 0 rfl (Nat.zero_le _)
       obtain ⟨r88, hx89, h'⟩ := bind_some h
       clear h
       have h := h'; clear h'
       have hc90 := fun (a86 : Option Addr) (c87 : Nat) => c_impl_Distance (aa_1 := a86) (ca_1 := c87) (ab_2 := a9) (cb_2 := c10) hx89
       rcases Bool.eq_false_or_eq_true (x76 != r88) with hb91 | hb91
       ·replace h := bif_t hb91 h
        have Hs := H
        refine rg2 (σ := σ73) (Nm := (Option Addr) × (Nat)) 29 [6, 8] [[false, false], [true, false], [true, true]] [[(0, 0), (1, 1), (2, 2)], [(0, 0), (1, 1), (2, 2)], [(0, 0), (1, 1), (2, 2)], [(0, 0), (1, 1), (2, 2)], [(0, 0)], [(0, 0)], [(0, 1)], [(0, 0), (1, 1)], [(1, 2)], [(2, 2)], [(2, 2)], [(2, 2)], [(2, 2)], [(2, 2)], [(2, 2)], [(2, 2)], [(2, 2)], [(2, 2)], [(2, 2)], [(2, 2)], [(2, 2)], [(2, 2)], [(2, 2)], [(2, 2)], [(2, 2)], [(2, 2)], [(2, 2)], [(2, 2)], [(2, 2)]] 2 [fun ((a86, c87) : (Option Addr) × (Nat)) => fun σm => Hp S0 σ0 σm [Ch.ro 0 (Sl a9 r2.2 c10) r2.2, Ch.ro 0 (Sl a7 r2.1.2 c8) r2.1.2, Ch.ro 0 (Sl a5 r2.1.1 c6) r2.1.1, Ch.ro n0 (Sl a5 r2.1.1 c6) r2.1.1, Ch.ro n0 (Sl a7 r2.1.2 c8) r2.1.2, Ch.bx n0 b12 0 [(Sl a5 r2.1.1 c6), (Sl a7 r2.1.2 c8)] [] [], Ch.ro n0 (Sl a9 r2.2 c10) r2.2, Ch.own n0 n0 (Sl a19 r16 c20) r16] ∧ Md (cov []) σ73 σm, fun ((a86, c87) : (Option Addr) × (Nat)) => fun σm => Hp S0 σ0 σm [Ch.ro 0 (Sl a86 r83 c87) r83, Ch.ro 0 (Sl a9 r2.2 c10) r2.2, Ch.ro 0 (Sl a7 r2.1.2 c8) r2.1.2, Ch.ro 0 (Sl a5 r2.1.1 c6) r2.1.1, Ch.ro n0 (Sl a5 r2.1.1 c6) r2.1.1, Ch.ro n0 (Sl a7 r2.1.2 c8) r2.1.2, Ch.bx n0 b12 0 [(Sl a5 r2.1.1 c6), (Sl a7 r2.1.2 c8)] [] [], Ch.ro n0 (Sl a9 r2.2 c10) r2.2, Ch.own n0 n0 (Sl a19 r16 c20) r16] ∧ Md (fun i => (cov []) i ∨ (fun i => (cov [Ch.ro 0 (Sl a5 r2.1.1 c6) r2.1.1, Ch.ro 0 (Sl a7 r2.1.2 c8) r2.1.2]) i ∨ (fun b => blk (Sl a86 r83 c87) = some b) i) i) σ73 σm, fun ((a86, c87) : (Option Addr) × (Nat)) => fun σm => Hp S0 σ0 σm [Ch.ro 0 (Sl a86 r83 c87) r83, Ch.ro 0 (Sl a9 r2.2 c10) r2.2, Ch.ro 0 (Sl a7 r2.1.2 c8) r2.1.2, Ch.ro 0 (Sl a5 r2.1.1 c6) r2.1.1, Ch.ro n0 (Sl a5 r2.1.1 c6) r2.1.1, Ch.ro n0 (Sl a7 r2.1.2 c8) r2.1.2, Ch.bx n0 b12 0 [(Sl a5 r2.1.1 c6), (Sl a7 r2.1.2 c8)] [] [], Ch.ro n0 (Sl a9 r2.2 c10) r2.2, Ch.own n0 n0 (Sl a19 r16 c20) r16] ∧ Md (fun i => (cov []) i ∨ (fun i => (cov [Ch.ro 0 (Sl a5 r2.1.1 c6) r2.1.1, Ch.ro 0 (Sl a7 r2.1.2 c8) r2.1.2]) i ∨ (fun b => blk (Sl a86 r83 c87) = some b) i) i) σ73 σm] [fun ((a86, c87) : (Option Addr) × (Nat)) => (Sl a19 r16 c20), fun ((a86, c87) : (Option Addr) × (Nat)) => (I s66), fun ((a86, c87) : (Option Addr) × (Nat)) => (pt b79 o80), fun ((a86, c87) : (Option Addr) × (Nat)) => (I x76), fun ((a86, c87) : (Option Addr) × (Nat)) => (.agg #[(Sl a5 r2.1.1 c6), (Sl a7 r2.1.2 c8)]), fun ((a86, c87) : (Option Addr) × (Nat)) => (I s66), fun ((a86, c87) : (Option Addr) × (Nat)) => (Sl a86 r83 c87), fun ((a86, c87) : (Option Addr) × (Nat)) => (Sl a9 r2.2 c10), fun ((a86, c87) : (Option Addr) × (Nat)) => (I r88), fun ((a86, c87) : (Option Addr) × (Nat)) => (B (x76 != r88)), fun ((a86, c87) : (Option Addr) × (Nat)) => (B (x76 != r88)), fun ((a86, c87) : (Option Addr) × (Nat)) => undef, fun ((a86, c87) : (Option Addr) × (Nat)) => undef, fun ((a86, c87) : (Option Addr) × (Nat)) => (B true), fun ((a86, c87) : (Option Addr) × (Nat)) => (B true), fun ((a86, c87) : (Option Addr) × (Nat)) => undef, fun ((a86, c87) : (Option Addr) × (Nat)) => undef, fun ((a86, c87) : (Option Addr) × (Nat)) => undef, fun ((a86, c87) : (Option Addr) × (Nat)) => undef, fun ((a86, c87) : (Option Addr) × (Nat)) => (B true), fun ((a86, c87) : (Option Addr) × (Nat)) => (B true), fun ((a86, c87) : (Option Addr) × (Nat)) => undef, fun ((a86, c87) : (Option Addr) × (Nat)) => undef, fun ((a86, c87) : (Option Addr) × (Nat)) => undef, fun ((a86, c87) : (Option Addr) × (Nat)) => undef, fun ((a86, c87) : (Option Addr) × (Nat)) => undef, fun ((a86, c87) : (Option Addr) × (Nat)) => undef, fun ((a86, c87) : (Option Addr) × (Nat)) => undef, fun ((a86, c87) : (Option Addr) × (Nat)) => undef] (none, 0) (by kernel_rfl) (by kernel_rfl) ?_ ?_ ?_
        ·intro σm m0
         exact ⟨H.grow (m0.mono fun _ h => h.elim), m0⟩
        ·refine ac rfl (by
           intro k; rintro ⟨a86, c87⟩ ρ σm hJ hoff hdep
           have e5 := look_off (N := 78) (hoff 5 rfl) rfl
           exact dp_v (v := (Sl a19 r16 c20)) wn (rv_move e5) rfl hJ) ?_
         refine ac rfl (by
           intro k; rintro ⟨a86, c87⟩ ρ σm hJ hoff hdep
           have e7 := look_off (N := 78) (hoff 7 rfl) rfl
           exact dp_v (v := (I s66)) wn (rv_move e7) rfl hJ) ?_
         refine ac rfl (by
           intro k; rintro ⟨a86, c87⟩ ρ σm hJ hoff hdep
           have e44 := hdep 0 rfl rfl 44 rfl
           have e45 := hdep 1 rfl rfl 45 rfl
           exact dp_v (v := (pt b79 o80)) wn (rv_ix Try.underlying29 ti3 e44 e45 hi78) rfl hJ) ?_
         refine all_cons (by
           refine ⟨?_, ?_⟩
           ·rintro ⟨a86, c87⟩ ρ σm hJ hoff hdep
            have e46 := hdep 2 rfl rfl 46 rfl
            obtain ⟨H, m⟩ := id hJ
            have hc81 := ((H.own 7 rfl).at hx77 hi78).int
            exact dp_v (v := (I x76)) wn (rv_load1 Try.underlying3 rfl e46 hc81) rfl hJ
           refine ⟨?_, ?_⟩
           ·rintro ⟨a86, c87⟩ ρ σm hJ hoff hdep
            have e46 := hdep 2 rfl rfl 46 rfl
            obtain ⟨H, m⟩ := id hJ
            have hc81 := ((H.own 8 rfl).at hx77 hi78).int
            exact dp_v (v := (I x76)) wn (rv_load1 Try.underlying3 rfl e46 hc81) rfl hJ
           refine ⟨?_, ?_⟩
           ·rintro ⟨a86, c87⟩ ρ σm hJ hoff hdep
            have e46 := hdep 2 rfl rfl 46 rfl
            obtain ⟨H, m⟩ := id hJ
            have hc81 := ((H.own 8 rfl).at hx77 hi78).int
            exact dp_v (v := (I x76)) wn (rv_load1 Try.underlying3 rfl e46 hc81) rfl hJ
           trivial) ?_
         refine all_cons (by
           refine ⟨?_, ?_⟩
           ·rintro ⟨a86, c87⟩ ρ σm hJ hoff hdep
            have e3 := look_off (N := 78) (hoff 3 rfl) rfl
            obtain ⟨H, m⟩ := id hJ
            have hc82 := H.cells 5 rfl
            exact dp_v (v := (.agg #[(Sl a5 r2.1.1 c6), (Sl a7 r2.1.2 c8)])) wn (rv_load (cs := [(Sl a5 r2.1.1 c6), (Sl a7 r2.1.2 c8)]) Try.underlying25 rfl ti25 e3 rfl hc82) rfl hJ
           trivial) ?_
         refine ac rfl (by
           intro k; rintro ⟨a86, c87⟩ ρ σm hJ hoff hdep
           have e7 := look_off (N := 78) (hoff 7 rfl) rfl
           exact dp_v (v := (I s66)) wn (rv_move e7) rfl hJ) ?_
         refine all_cons (by
           refine ⟨?_, ?_⟩
           ·rintro ⟨a86, c87⟩ ρ σm hJ hoff hdep
            have e48 : look 78 ρ 48 = (.agg #[(Sl a5 r2.1.1 c6), (Sl a7 r2.1.2 c8)]) := hdep 4 rfl rfl 48 rfl
            have e49 : look 78 ρ 49 = (I s66) := hdep 5 rfl rfl 49 rfl
            obtain ⟨H, m⟩ := id hJ
            refine dp_cx wn (cx_call hc85 (ent_f hc85.fn (by show [look 78 ρ 48, look 78 ρ 49] = _; rw [e48, e49])) hn0 (show Hp S0 σ0 _ ([Ch.ro 0 (Sl a5 r2.1.1 c6) r2.1.1, Ch.ro 0 (Sl a7 r2.1.2 c8) r2.1.2] ++ [Ch.ro 0 (Sl a9 r2.2 c10) r2.2, Ch.ro 0 (Sl a7 r2.1.2 c8) r2.1.2, Ch.ro 0 (Sl a5 r2.1.1 c6) r2.1.1, Ch.ro n0 (Sl a5 r2.1.1 c6) r2.1.1, Ch.ro n0 (Sl a7 r2.1.2 c8) r2.1.2, Ch.bx n0 b12 0 [(Sl a5 r2.1.1 c6), (Sl a7 r2.1.2 c8)] [] [], Ch.ro n0 (Sl a9 r2.2 c10) r2.2, Ch.own n0 n0 (Sl a19 r16 c20) r16]) from (H.sel' [2, 1, 0, 1, 2, 3, 4, 5, 6, 7] rfl rfl))) ?_
            rintro _ σq ⟨_, ⟨a86x, c87x, rfl, rfl⟩, H2, m2⟩
            obtain ⟨σr0, hwr0, H2, mr0⟩ := H2.pubSc 0 rfl
            exact ⟨_, (a86x, c87x), hwr0, rfl, ⟨H2.sel' [0, 1, 2, 3, 4, 5, 6, 7, 8] rfl rfl, m.comp (m2.comp mr0)⟩, stab [0, 1, 2, 3, 4, 5, 7] (by kernel_rfl) ⟨rfl, rfl, rfl, rfl, rfl, rfl, rfl, trivial⟩⟩
           trivial) ?_
         refine ac rfl (by
           intro k; rintro ⟨a86, c87⟩ ρ σm hJ hoff hdep
           have e4 := look_off (N := 78) (hoff 4 rfl) rfl
           exact dp_v (v := (Sl a9 r2.2 c10)) wn (rv_move e4) rfl hJ) ?_
         refine all_cons (by
           refine ⟨?_, ?_⟩
           ·rintro ⟨a86, c87⟩ ρ σm hJ hoff hdep
            have e50 : look 78 ρ 50 = (Sl a86 r83 c87) := hdep 6 rfl rfl 50 rfl
            have e51 : look 78 ρ 51 = (Sl a9 r2.2 c10) := hdep 7 rfl rfl 51 rfl
            obtain ⟨H, m⟩ := id hJ
            refine dp_cx wn (cx_call (hc90 a86 c87) (ent_f (hc90 a86 c87).fn (by show [(I 3), look 78 ρ 50, look 78 ρ 51] = _; rw [e50, e51])) hn0 (show Hp S0 σ0 _ ([Ch.ro 0 (Sl a86 r83 c87) r83, Ch.ro 0 (Sl a9 r2.2 c10) r2.2] ++ [Ch.ro 0 (Sl a86 r83 c87) r83, Ch.ro 0 (Sl a9 r2.2 c10) r2.2, Ch.ro 0 (Sl a7 r2.1.2 c8) r2.1.2, Ch.ro 0 (Sl a5 r2.1.1 c6) r2.1.1, Ch.ro n0 (Sl a5 r2.1.1 c6) r2.1.1, Ch.ro n0 (Sl a7 r2.1.2 c8) r2.1.2, Ch.bx n0 b12 0 [(Sl a5 r2.1.1 c6), (Sl a7 r2.1.2 c8)] [] [], Ch.ro n0 (Sl a9 r2.2 c10) r2.2, Ch.own n0 n0 (Sl a19 r16 c20) r16]) from (H.sel' [0, 1, 0, 1, 2, 3, 4, 5, 6, 7, 8] rfl rfl))) ?_
            rintro _ σq ⟨_, ⟨rfl, rfl⟩, H2, m2⟩
            exact ⟨_, (a86, c87), rfl, rfl, ⟨H2.sel' [0, 1, 2, 3, 4, 5, 6, 7, 8] rfl rfl, m.comp0 (m2.mono (fun i h => by simp [cov, Ch.ro] at h))⟩, stab [0, 1, 2, 3, 4, 5, 6, 7] (by kernel_rfl) ⟨rfl, rfl, rfl, rfl, rfl, rfl, rfl, rfl, trivial⟩⟩
           trivial) ?_
         refine ac rfl (by
           intro k; rintro ⟨a86, c87⟩ ρ σm hJ hoff hdep
           have e47 := hdep 3 rfl rfl 47 rfl
           have e52 := hdep 8 rfl rfl 52 rfl
           exact dp_v (v := (B (x76 != r88))) wn (rv_neq (a := x76) (b := r88) e47 e52) rfl hJ) ?_
         refine ac rfl (by
           intro k; rintro ⟨a86, c87⟩ ρ σm hJ hoff hdep
           have e53 := hdep 9 rfl rfl 53 rfl
           exact dp_v (v := (B (x76 != r88))) wn (rv_move e53) rfl hJ) ?_
         refine ac rfl (by
           intro k; rintro ⟨a86, c87⟩ ρ σm hJ hoff hdep
           have e54 := hdep 10 rfl rfl 54 rfl
           exact dp_skip (wanted_no rfl (yv_of rfl (e54.trans (congrArg B hb91)))) rfl hJ) ?_
         refine ac rfl (by
           intro k; rintro ⟨a86, c87⟩ ρ σm hJ hoff hdep
           have e54 := hdep 10 rfl rfl 54 rfl
           exact dp_skip (wanted_no rfl (yv_of rfl (e54.trans (congrArg B hb91)))) rfl hJ) ?_
         refine ac rfl (by
           intro k; rintro ⟨a86, c87⟩ ρ σm hJ hoff hdep
           have e54 := hdep 10 rfl rfl 54 rfl
           exact dp_v (v := (B true)) wn (rv_pick_t (e54.trans (congrArg B hb91)) rfl) rfl hJ) ?_
         refine ac rfl (by
           intro k; rintro ⟨a86, c87⟩ ρ σm hJ hoff hdep
           have e57 := hdep 13 rfl rfl 57 rfl
           exact dp_v (v := (B true)) wn (rv_move e57) rfl hJ) ?_
         refine ac rfl (by
           intro k; rintro ⟨a86, c87⟩ ρ σm hJ hoff hdep
           have e58 := hdep 14 rfl rfl 58 rfl
           exact dp_skip (wanted_no rfl (yv_of rfl e58)) rfl hJ) ?_
         refine ac rfl (by
           intro k; rintro ⟨a86, c87⟩ ρ σm hJ hoff hdep
           have e58 := hdep 14 rfl rfl 58 rfl
           exact dp_skip (wanted_no rfl (yv_of rfl e58)) rfl hJ) ?_
         refine ac rfl (by
           intro k; rintro ⟨a86, c87⟩ ρ σm hJ hoff hdep
           have e58 := hdep 14 rfl rfl 58 rfl
           exact dp_skip (wanted_no rfl (yv_of rfl e58)) rfl hJ) ?_
         refine ac rfl (by
           intro k; rintro ⟨a86, c87⟩ ρ σm hJ hoff hdep
           have e58 := hdep 14 rfl rfl 58 rfl
           exact dp_skip (wanted_no rfl (yv_of rfl e58)) rfl hJ) ?_
         refine ac rfl (by
           intro k; rintro ⟨a86, c87⟩ ρ σm hJ hoff hdep
           have e58 := hdep 14 rfl rfl 58 rfl
           exact dp_v (v := (B true)) wn (rv_pick_t e58 rfl) rfl hJ) ?_
         refine ac rfl (by
           intro k; rintro ⟨a86, c87⟩ ρ σm hJ hoff hdep
           have e63 := hdep 19 rfl rfl 63 rfl
           exact dp_v (v := (B true)) wn (rv_move e63) rfl hJ) ?_
         refine ac rfl (by
           intro k; rintro ⟨a86, c87⟩ ρ σm hJ hoff hdep
           have e64 := hdep 20 rfl rfl 64 rfl
           exact dp_skip (wanted_no rfl (yv_of rfl e64)) rfl hJ) ?_
         refine ac rfl (by
           intro k; rintro ⟨a86, c87⟩ ρ σm hJ hoff hdep
           have e64 := hdep 20 rfl rfl 64 rfl
           exact dp_skip (wanted_no rfl (yv_of rfl e64)) rfl hJ) ?_
         refine ac rfl (by
           intro k; rintro ⟨a86, c87⟩ ρ σm hJ hoff hdep
           have e64 := hdep 20 rfl rfl 64 rfl
           exact dp_skip (wanted_no rfl (yv_of rfl e64)) rfl hJ) ?_
         refine ac rfl (by
           intro k; rintro ⟨a86, c87⟩ ρ σm hJ hoff hdep
           have e64 := hdep 20 rfl rfl 64 rfl
           exact dp_skip (wanted_no rfl (yv_of rfl e64)) rfl hJ) ?_
         refine ac rfl (by
           intro k; rintro ⟨a86, c87⟩ ρ σm hJ hoff hdep
           have e64 := hdep 20 rfl rfl 64 rfl
           exact dp_skip (wanted_no rfl (yv_of rfl e64)) rfl hJ) ?_
         refine ac rfl (by
           intro k; rintro ⟨a86, c87⟩ ρ σm hJ hoff hdep
           have e64 := hdep 20 rfl rfl 64 rfl
           exact dp_skip (wanted_no rfl (yv_of rfl e64)) rfl hJ) ?_
         refine ac rfl (by
           intro k; rintro ⟨a86, c87⟩ ρ σm hJ hoff hdep
           have e64 := hdep 20 rfl rfl 64 rfl
           exact dp_skip (wanted_no rfl (yv_of rfl e64)) rfl hJ) ?_
         refine ac rfl (by
           intro k; rintro ⟨a86, c87⟩ ρ σm hJ hoff hdep
           have e64 := hdep 20 rfl rfl 64 rfl
           exact dp_skip (wanted_no rfl (yv_of rfl e64)) rfl hJ) ?_
         exact all_nil
        ·rintro ⟨a86, c87⟩ ρ σ92 hJ hoff hrel
         have e3 := look_off (N := 78) (hoff 3 rfl) rfl
         have e4 := look_off (N := 78) (hoff 4 rfl) rfl
         have e5 := look_off (N := 78) (hoff 5 rfl) rfl
         have e6 := look_off (N := 78) (hoff 6 rfl) rfl
         have e7 := look_off (N := 78) (hoff 7 rfl) rfl
         have e64 := hrel 20 rfl 64 rfl
         have e68 := hrel 24 rfl 68 rfl
         have e72 := hrel 28 rfl 72 rfl
         obtain ⟨H, -⟩ := (show Hp S0 σ0 σ92 [Ch.ro 0 (Sl a86 r83 c87) r83, Ch.ro 0 (Sl a9 r2.2 c10) r2.2, Ch.ro 0 (Sl a7 r2.1.2 c8) r2.1.2, Ch.ro 0 (Sl a5 r2.1.1 c6) r2.1.1, Ch.ro n0 (Sl a5 r2.1.1 c6) r2.1.1, Ch.ro n0 (Sl a7 r2.1.2 c8) r2.1.2, Ch.bx n0 b12 0 [(Sl a5 r2.1.1 c6), (Sl a7 r2.1.2 c8)] [] [], Ch.ro n0 (Sl a9 r2.2 c10) r2.2, Ch.own n0 n0 (Sl a19 r16 c20) r16] ∧ Md (fun i => (cov []) i ∨ (fun i => (cov [Ch.ro 0 (Sl a5 r2.1.1 c6) r2.1.1, Ch.ro 0 (Sl a7 r2.1.2 c8) r2.1.2]) i ∨ (fun b => blk (Sl a86 r83 c87) = some b) i) i) σ73 σ92 from hJ)
         clear hJ Hs
         rw [fr_lookL (L := [(3, (pt b12 0)), (4, (Sl a9 r2.2 c10)), (5, (Sl a19 r16 c20)), (6, (I r61)), (7, (I s66)), (64, (B true)), (68, undef), (72, undef)]) ⟨e3, e4, e5, e6, e7, e64, e68, e72, trivial⟩]
         clear hoff hrel e3 e4 e5 e6 e7 e64 e68 e72
         refine st_skip rfl ?_
         refine st (v := (B true)) (rv_pick_t rfl rfl) ?_
         refine w_end ?_
         obtain rfl := Option.some.inj h
         exact ⟨rfl, _, σ92, fr_join ⟨rfl, rfl, rfl, rfl, rfl, rfl, trivial⟩, rfl, H.sel' [4, 5, 6, 7, 8] rfl rfl⟩
       ·replace h := bif_f hb91 h
        rcases Bool.eq_false_or_eq_true (decide (r61 < 0)) with hb93 | hb93
        ·replace h := bif_t hb93 h
         have Hs := H
         refine rg2 (σ := σ73) (Nm := (Option Addr) × (Nat)) 29 [6, 8] [[false, false], [true, false], [true, true]] [[(0, 0), (1, 1), (2, 2)], [(0, 0), (1, 1), (2, 2)], [(0, 0), (1, 1), (2, 2)], [(0, 0), (1, 1), (2, 2)], [(0, 0)], [(0, 0)], [(0, 1)], [(0, 0), (1, 1)], [(1, 2)], [(2, 2)], [(2, 2)], [(2, 2)], [(2, 2)], [(2, 2)], [(2, 2)], [(2, 2)], [(2, 2)], [(2, 2)], [(2, 2)], [(2, 2)], [(2, 2)], [(2, 2)], [(2, 2)], [(2, 2)], [(2, 2)], [(2, 2)], [(2, 2)], [(2, 2)], [(2, 2)]] 2 [fun ((a86, c87) : (Option Addr) × (Nat)) => fun σm => Hp S0 σ0 σm [Ch.ro 0 (Sl a9 r2.2 c10) r2.2, Ch.ro 0 (Sl a7 r2.1.2 c8) r2.1.2, Ch.ro 0 (Sl a5 r2.1.1 c6) r2.1.1, Ch.ro n0 (Sl a5 r2.1.1 c6) r2.1.1, Ch.ro n0 (Sl a7 r2.1.2 c8) r2.1.2, Ch.bx n0 b12 0 [(Sl a5 r2.1.1 c6), (Sl a7 r2.1.2 c8)] [] [], Ch.ro n0 (Sl a9 r2.2 c10) r2.2, Ch.own n0 n0 (Sl a19 r16 c20) r16] ∧ Md (cov []) σ73 σm, fun ((a86, c87) : (Option Addr) × (Nat)) => fun σm => Hp S0 σ0 σm [Ch.ro 0 (Sl a86 r83 c87) r83, Ch.ro 0 (Sl a9 r2.2 c10) r2.2, Ch.ro 0 (Sl a7 r2.1.2 c8) r2.1.2, Ch.ro 0 (Sl a5 r2.1.1 c6) r2.1.1, Ch.ro n0 (Sl a5 r2.1.1 c6) r2.1.1, Ch.ro n0 (Sl a7 r2.1.2 c8) r2.1.2, Ch.bx n0 b12 0 [(Sl a5 r2.1.1 c6), (Sl a7 r2.1.2 c8)] [] [], Ch.ro n0 (Sl a9 r2.2 c10) r2.2, Ch.own n0 n0 (Sl a19 r16 c20) r16] ∧ Md (fun i => (cov []) i ∨ (fun i => (cov [Ch.ro 0 (Sl a5 r2.1.1 c6) r2.1.1, Ch.ro 0 (Sl a7 r2.1.2 c8) r2.1.2]) i ∨ (fun b => blk (Sl a86 r83 c87) = some b) i) i) σ73 σm, fun ((a86, c87) : (Option Addr) × (Nat)) => fun σm => Hp S0 σ0 σm [Ch.ro 0 (Sl a86 r83 c87) r83, Ch.ro 0 (Sl a9 r2.2 c10) r2.2, Ch.ro 0 (Sl a7 r2.1.2 c8) r2.1.2, Ch.ro 0 (Sl a5 r2.1.1 c6) r2.1.1, Ch.ro n0 (Sl a5 r2.1.1 c6) r2.1.1, Ch.ro n0 (Sl a7 r2.1.2 c8) r2.1.2, Ch.bx n0 b12 0 [(Sl a5 r2.1.1 c6), (Sl a7 r2.1.2 c8)] [] [], Ch.ro n0 (Sl a9 r2.2 c10) r2.2, Ch.own n0 n0 (Sl a19 r16 c20) r16] ∧ Md (fun i => (cov []) i ∨ (fun i => (cov [Ch.ro 0 (Sl a5 r2.1.1 c6) r2.1.1, Ch.ro 0 (Sl a7 r2.1.2 c8) r2.1.2]) i ∨ (fun b => blk (Sl a86 r83 c87) = some b) i) i) σ73 σm] [fun ((a86, c87) : (Option Addr) × (Nat)) => (Sl a19 r16 c20), fun ((a86, c87) : (Option Addr) × (Nat)) => (I s66), fun ((a86, c87) : (Option Addr) × (Nat)) => (pt b79 o80), fun ((a86, c87) : (Option Addr) × (Nat)) => (I x76), fun ((a86, c87) : (Option Addr) × (Nat)) => (.agg #[(Sl a5 r2.1.1 c6), (Sl a7 r2.1.2 c8)]), fun ((a86, c87) : (Option Addr) × (Nat)) => (I s66), fun ((a86, c87) : (Option Addr) × (Nat)) => (Sl a86 r83 c87), fun ((a86, c87) : (Option Addr) × (Nat)) => (Sl a9 r2.2 c10), fun ((a86, c87) : (Option Addr) × (Nat)) => (I r88), fun ((a86, c87) : (Option Addr) × (Nat)) => (B (x76 != r88)), fun ((a86, c87) : (Option Addr) × (Nat)) => (B (x76 != r88)), fun ((a86, c87) : (Option Addr) × (Nat)) => (I r61), fun ((a86, c87) : (Option Addr) × (Nat)) => (B (decide (r61 < 0))), fun ((a86, c87) : (Option Addr) × (Nat)) => (B (decide (r61 < 0))), fun ((a86, c87) : (Option Addr) × (Nat)) => (B (decide (r61 < 0))), fun ((a86, c87) : (Option Addr) × (Nat)) => undef, fun ((a86, c87) : (Option Addr) × (Nat)) => undef, fun ((a86, c87) : (Option Addr) × (Nat)) => undef, fun ((a86, c87) : (Option Addr) × (Nat)) => undef, fun ((a86, c87) : (Option Addr) × (Nat)) => (B true), fun ((a86, c87) : (Option Addr) × (Nat)) => (B true), fun ((a86, c87) : (Option Addr) × (Nat)) => undef, fun ((a86, c87) : (Option Addr) × (Nat)) => undef, fun ((a86, c87) : (Option Addr) × (Nat)) => undef, fun ((a86, c87) : (Option Addr) × (Nat)) => undef, fun ((a86, c87) : (Option Addr) × (Nat)) => undef, fun ((a86, c87) : (Option Addr) × (Nat)) => undef, fun ((a86, c87) : (Option Addr) × (Nat)) => undef, fun ((a86, c87) : (Option Addr) × (Nat)) => undef] (none, 0) (by kernel_rfl) (by kernel_rfl) ?_ ?_ ?_
         ·intro σm m0
          exact ⟨H.grow (m0.mono fun _ h => h.elim), m0⟩
         ·refine ac rfl (by
            intro k; rintro ⟨a86, c87⟩ ρ σm hJ hoff hdep
            have e5 := look_off (N := 78) (hoff 5 rfl) rfl
            exact dp_v (v := (Sl a19 r16 c20)) wn (rv_move e5) rfl hJ) ?_
          refine ac rfl (by
            intro k; rintro ⟨a86, c87⟩ ρ σm hJ hoff hdep
            have e7 := look_off (N := 78) (hoff 7 rfl) rfl
            exact dp_v (v := (I s66)) wn (rv_move e7) rfl hJ) ?_
          refine ac rfl (by
            intro k; rintro ⟨a86, c87⟩ ρ σm hJ hoff hdep
            have e44 := hdep 0 rfl rfl 44 rfl
            have e45 := hdep 1 rfl rfl 45 rfl
            exact dp_v (v := (pt b79 o80)) wn (rv_ix Try.underlying29 ti3 e44 e45 hi78) rfl hJ) ?_
          refine all_cons (by
            refine ⟨?_, ?_⟩
            ·rintro ⟨a86, c87⟩ ρ σm hJ hoff hdep
             have e46 := hdep 2 rfl rfl 46 rfl
             obtain ⟨H, m⟩ := id hJ
             have hc81 := ((H.own 7 rfl).at hx77 hi78).int
             exact dp_v (v := (I x76)) wn (rv_load1 Try.underlying3 rfl e46 hc81) rfl hJ
            refine ⟨?_, ?_⟩
            ·rintro ⟨a86, c87⟩ ρ σm hJ hoff hdep
             have e46 := hdep 2 rfl rfl 46 rfl
             obtain ⟨H, m⟩ := id hJ
             have hc81 := ((H.own 8 rfl).at hx77 hi78).int
             exact dp_v (v := (I x76)) wn (rv_load1 Try.underlying3 rfl e46 hc81) rfl hJ
            refine ⟨?_, ?_⟩
            ·rintro ⟨a86, c87⟩ ρ σm hJ hoff hdep
             have e46 := hdep 2 rfl rfl 46 rfl
             obtain ⟨H, m⟩ := id hJ
             have hc81 := ((H.own 8 rfl).at hx77 hi78).int
             exact dp_v (v := (I x76)) wn (rv_load1 Try.underlying3 rfl e46 hc81) rfl hJ
            trivial) ?_
          refine all_cons (by
            refine ⟨?_, ?_⟩
            ·rintro ⟨a86, c87⟩ ρ σm hJ hoff hdep
             have e3 := look_off (N := 78) (hoff 3 rfl) rfl
             obtain ⟨H, m⟩ := id hJ
             have hc82 := H.cells 5 rfl
             exact dp_v (v := (.agg #[(Sl a5 r2.1.1 c6), (Sl a7 r2.1.2 c8)])) wn (rv_load (cs := [(Sl a5 r2.1.1 c6), (Sl a7 r2.1.2 c8)]) Try.underlying25 rfl ti25 e3 rfl hc82) rfl hJ
            trivial) ?_
          refine ac rfl (by
            intro k; rintro ⟨a86, c87⟩ ρ σm hJ hoff hdep
            have e7 := look_off (N := 78) (hoff 7 rfl) rfl
            exact dp_v (v := (I s66)) wn (rv_move e7) rfl hJ) ?_
          refine all_cons (by
            refine ⟨?_, ?_⟩
            ·rintro ⟨a86, c87⟩ ρ σm hJ hoff hdep
             have e48 : look 78 ρ 48 = (.agg #[(Sl a5 r2.1.1 c6), (Sl a7 r2.1.2 c8)]) := hdep 4 rfl rfl 48 rfl
             have e49 : look 78 ρ 49 = (I s66) := hdep 5 rfl rfl 49 rfl
             obtain ⟨H, m⟩ := id hJ
             refine dp_cx wn (cx_call hc85 (ent_f hc85.fn (by show [look 78 ρ 48, look 78 ρ 49] = _; rw [e48, e49])) hn0 (show Hp S0 σ0 _ ([Ch.ro 0 (Sl a5 r2.1.1 c6) r2.1.1, Ch.ro 0 (Sl a7 r2.1.2 c8) r2.1.2] ++ [Ch.ro 0 (Sl a9 r2.2 c10) r2.2, Ch.ro 0 (Sl a7 r2.1.2 c8) r2.1.2, Ch.ro 0 (Sl a5 r2.1.1 c6) r2.1.1, Ch.ro n0 (Sl a5 r2.1.1 c6) r2.1.1, Ch.ro n0 (Sl a7 r2.1.2 c8) r2.1.2, Ch.bx n0 b12 0 [(Sl a5 r2.1.1 c6), (Sl a7 r2.1.2 c8)] [] [], Ch.ro n0 (Sl a9 r2.2 c10) r2.2, Ch.own n0 n0 (Sl a19 r16 c20) r16]) from (H.sel' [2, 1, 0, 1, 2, 3, 4, 5, 6, 7] rfl rfl))) ?_
             rintro _ σq ⟨_, ⟨a86x, c87x, rfl, rfl⟩, H2, m2⟩
             obtain ⟨σr0, hwr0, H2, mr0⟩ := H2.pubSc 0 rfl
             exact ⟨_, (a86x, c87x), hwr0, rfl, ⟨H2.sel' [0, 1, 2, 3, 4, 5, 6, 7, 8] rfl rfl, m.comp (m2.comp mr0)⟩, stab [0, 1, 2, 3, 4, 5, 7] (by kernel_rfl) ⟨rfl, rfl, rfl, rfl, rfl, rfl, rfl, trivial⟩⟩
            trivial) ?_
          refine ac rfl (by
            intro k; rintro ⟨a86, c87⟩ ρ σm hJ hoff hdep
            have e4 := look_off (N := 78) (hoff 4 rfl) rfl
            exact dp_v (v := (Sl a9 r2.2 c10)) wn (rv_move e4) rfl hJ) ?_
          refine all_cons (by
            refine ⟨?_, ?_⟩
            ·rintro ⟨a86, c87⟩ ρ σm hJ hoff hdep
             have e50 : look 78 ρ 50 = (Sl a86 r83 c87) := hdep 6 rfl rfl 50 rfl
             have e51 : look 78 ρ 51 = (Sl a9 r2.2 c10) := hdep 7 rfl rfl 51 rfl
             obtain ⟨H, m⟩ := id hJ
             refine dp_cx wn (cx_call (hc90 a86 c87) (ent_f (hc90 a86 c87).fn (by show [(I 3), look 78 ρ 50, look 78 ρ 51] = _; rw [e50, e51])) hn0 (show Hp S0 σ0 _ ([Ch.ro 0 (Sl a86 r83 c87) r83, Ch.ro 0 (Sl a9 r2.2 c10) r2.2] ++ [Ch.ro 0 (Sl a86 r83 c87) r83, Ch.ro 0 (Sl a9 r2.2 c10) r2.2, Ch.ro 0 (Sl a7 r2.1.2 c8) r2.1.2, Ch.ro 0 (Sl a5 r2.1.1 c6) r2.1.1, Ch.ro n0 (Sl a5 r2.1.1 c6) r2.1.1, Ch.ro n0 (Sl a7 r2.1.2 c8) r2.1.2, Ch.bx n0 b12 0 [(Sl a5 r2.1.1 c6), (Sl a7 r2.1.2 c8)] [] [], Ch.ro n0 (Sl a9 r2.2 c10) r2.2, Ch.own n0 n0 (Sl a19 r16 c20) r16]) from (H.sel' [0, 1, 0, 1, 2, 3, 4, 5, 6, 7, 8] rfl rfl))) ?_
             rintro _ σq ⟨_, ⟨rfl, rfl⟩, H2, m2⟩
             exact ⟨_, (a86, c87), rfl, rfl, ⟨H2.sel' [0, 1, 2, 3, 4, 5, 6, 7, 8] rfl rfl, m.comp0 (m2.mono (fun i h => by simp [cov, Ch.ro] at h))⟩, stab [0, 1, 2, 3, 4, 5, 6, 7] (by kernel_rfl) ⟨rfl, rfl, rfl, rfl, rfl, rfl, rfl, rfl, trivial⟩⟩
            trivial) ?_
          refine ac rfl (by
            intro k; rintro ⟨a86, c87⟩ ρ σm hJ hoff hdep
            have e47 := hdep 3 rfl rfl 47 rfl
            have e52 := hdep 8 rfl rfl 52 rfl
            exact dp_v (v := (B (x76 != r88))) wn (rv_neq (a := x76) (b := r88) e47 e52) rfl hJ) ?_
          refine ac rfl (by
            intro k; rintro ⟨a86, c87⟩ ρ σm hJ hoff hdep
            have e53 := hdep 9 rfl rfl 53 rfl
            exact dp_v (v := (B (x76 != r88))) wn (rv_move e53) rfl hJ) ?_
          refine ac rfl (by
            intro k; rintro ⟨a86, c87⟩ ρ σm hJ hoff hdep
            have e6 := look_off (N := 78) (hoff 6 rfl) rfl
            have e54 := hdep 10 rfl rfl 54 rfl
            exact dp_v (v := (I r61)) (wanted_yes rfl (yv_of rfl (e54.trans (congrArg B hb91)))) (rv_move e6) rfl hJ) ?_
          refine ac rfl (by
            intro k; rintro ⟨a86, c87⟩ ρ σm hJ hoff hdep
            have e55 := hdep 11 rfl rfl 55 rfl
            have e54 := hdep 10 rfl rfl 54 rfl
            exact dp_v (v := (B (decide (r61 < 0)))) (wanted_yes rfl (yv_of rfl (e54.trans (congrArg B hb91)))) (rv_lss (a := r61) (b := 0) e55 rfl) rfl hJ) ?_
          refine ac rfl (by
            intro k; rintro ⟨a86, c87⟩ ρ σm hJ hoff hdep
            have e54 := hdep 10 rfl rfl 54 rfl
            have e56 := hdep 12 rfl rfl 56 rfl
            exact dp_v (v := (B (decide (r61 < 0)))) wn (rv_pick_f (e54.trans (congrArg B hb91)) e56) rfl hJ) ?_
          refine ac rfl (by
            intro k; rintro ⟨a86, c87⟩ ρ σm hJ hoff hdep
            have e57 := hdep 13 rfl rfl 57 rfl
            exact dp_v (v := (B (decide (r61 < 0)))) wn (rv_move e57) rfl hJ) ?_
          refine ac rfl (by
            intro k; rintro ⟨a86, c87⟩ ρ σm hJ hoff hdep
            have e58 := hdep 14 rfl rfl 58 rfl
            exact dp_skip (wanted_no rfl (yv_of rfl (e58.trans (congrArg B hb93)))) rfl hJ) ?_
          refine ac rfl (by
            intro k; rintro ⟨a86, c87⟩ ρ σm hJ hoff hdep
            have e58 := hdep 14 rfl rfl 58 rfl
            exact dp_skip (wanted_no rfl (yv_of rfl (e58.trans (congrArg B hb93)))) rfl hJ) ?_
          refine ac rfl (by
            intro k; rintro ⟨a86, c87⟩ ρ σm hJ hoff hdep
            have e58 := hdep 14 rfl rfl 58 rfl
            exact dp_skip (wanted_no rfl (yv_of rfl (e58.trans (congrArg B hb93)))) rfl hJ) ?_
          refine ac rfl (by
            intro k; rintro ⟨a86, c87⟩ ρ σm hJ hoff hdep
            have e58 := hdep 14 rfl rfl 58 rfl
            exact dp_skip (wanted_no rfl (yv_of rfl (e58.trans (congrArg B hb93)))) rfl hJ) ?_
          refine ac rfl (by
            intro k; rintro ⟨a86, c87⟩ ρ σm hJ hoff hdep
            have e58 := hdep 14 rfl rfl 58 rfl
            exact dp_v (v := (B true)) wn (rv_pick_t (e58.trans (congrArg B hb93)) rfl) rfl hJ) ?_
          refine ac rfl (by
            intro k; rintro ⟨a86, c87⟩ ρ σm hJ hoff hdep
            have e63 := hdep 19 rfl rfl 63 rfl
            exact dp_v (v := (B true)) wn (rv_move e63) rfl hJ) ?_
          refine ac rfl (by
            intro k; rintro ⟨a86, c87⟩ ρ σm hJ hoff hdep
            have e64 := hdep 20 rfl rfl 64 rfl
            exact dp_skip (wanted_no rfl (yv_of rfl e64)) rfl hJ) ?_
          refine ac rfl (by
            intro k; rintro ⟨a86, c87⟩ ρ σm hJ hoff hdep
            have e64 := hdep 20 rfl rfl 64 rfl
            exact dp_skip (wanted_no rfl (yv_of rfl e64)) rfl hJ) ?_
          refine ac rfl (by
            intro k; rintro ⟨a86, c87⟩ ρ σm hJ hoff hdep
            have e64 := hdep 20 rfl rfl 64 rfl
            exact dp_skip (wanted_no rfl (yv_of rfl e64)) rfl hJ) ?_
          refine ac rfl (by
            intro k; rintro ⟨a86, c87⟩ ρ σm hJ hoff hdep
            have e64 := hdep 20 rfl rfl 64 rfl
            exact dp_skip (wanted_no rfl (yv_of rfl e64)) rfl hJ) ?_
          refine ac rfl (by
            intro k; rintro ⟨a86, c87⟩ ρ σm hJ hoff hdep
            have e64 := hdep 20 rfl rfl 64 rfl
            exact dp_skip (wanted_no rfl (yv_of rfl e64)) rfl hJ) ?_
          refine ac rfl (by
            intro k; rintro ⟨a86, c87⟩ ρ σm hJ hoff hdep
            have e64 := hdep 20 rfl rfl 64 rfl
            exact dp_skip (wanted_no rfl (yv_of rfl e64)) rfl hJ) ?_
          refine ac rfl (by
            intro k; rintro ⟨a86, c87⟩ ρ σm hJ hoff hdep
            have e64 := hdep 20 rfl rfl 64 rfl
            exact dp_skip (wanted_no rfl (yv_of rfl e64)) rfl hJ) ?_
          refine ac rfl (by
            intro k; rintro ⟨a86, c87⟩ ρ σm hJ hoff hdep
            have e64 := hdep 20 rfl rfl 64 rfl
            exact dp_skip (wanted_no rfl (yv_of rfl e64)) rfl hJ) ?_
          exact all_nil
         ·rintro ⟨a86, c87⟩ ρ σ94 hJ hoff hrel
          have e3 := look_off (N := 78) (hoff 3 rfl) rfl
          have e4 := look_off (N := 78) (hoff 4 rfl) rfl
          have e5 := look_off (N := 78) (hoff 5 rfl) rfl
          have e6 := look_off (N := 78) (hoff 6 rfl) rfl
          have e7 := look_off (N := 78) (hoff 7 rfl) rfl
          have e64 := hrel 20 rfl 64 rfl
          have e68 := hrel 24 rfl 68 rfl
          have e72 := hrel 28 rfl 72 rfl
          obtain ⟨H, -⟩ := (show Hp S0 σ0 σ94 [Ch.ro 0 (Sl a86 r83 c87) r83, Ch.ro 0 (Sl a9 r2.2 c10) r2.2, Ch.ro 0 (Sl a7 r2.1.2 c8) r2.1.2, Ch.ro 0 (Sl a5 r2.1.1 c6) r2.1.1, Ch.ro n0 (Sl a5 r2.1.1 c6) r2.1.1, Ch.ro n0 (Sl a7 r2.1.2 c8) r2.1.2, Ch.bx n0 b12 0 [(Sl a5 r2.1.1 c6), (Sl a7 r2.1.2 c8)] [] [], Ch.ro n0 (Sl a9 r2.2 c10) r2.2, Ch.own n0 n0 (Sl a19 r16 c20) r16] ∧ Md (fun i => (cov []) i ∨ (fun i => (cov [Ch.ro 0 (Sl a5 r2.1.1 c6) r2.1.1, Ch.ro 0 (Sl a7 r2.1.2 c8) r2.1.2]) i ∨ (fun b => blk (Sl a86 r83 c87) = some b) i) i) σ73 σ94 from hJ)
          clear hJ Hs
          rw [fr_lookL (L := [(3, (pt b12 0)), (4, (Sl a9 r2.2 c10)), (5, (Sl a19 r16 c20)), (6, (I r61)), (7, (I s66)), (64, (B true)), (68, undef), (72, undef)]) ⟨e3, e4, e5, e6, e7, e64, e68, e72, trivial⟩]
          clear hoff hrel e3 e4 e5 e6 e7 e64 e68 e72
          refine st_skip rfl ?_
          refine st (v := (B true)) (rv_pick_t rfl rfl) ?_
          refine w_end ?_
          obtain rfl := Option.some.inj h
          exact ⟨rfl, _, σ94, fr_join ⟨rfl, rfl, rfl, rfl, rfl, rfl, trivial⟩, rfl, H.sel' [4, 5, 6, 7, 8] rfl rfl⟩
        ·replace h := bif_f hb93 h
         rcases Bool.eq_false_or_eq_true (decide ((r16.length : Int) ≤ r61)) with hb95 | hb95
         ·replace h := bif_t hb95 h
          have Hs := H
          refine rg2 (σ := σ73) (Nm := (Option Addr) × (Nat)) 29 [6, 8] [[false, false], [true, false], [true, true]] [[(0, 0), (1, 1), (2, 2)], [(0, 0), (1, 1), (2, 2)], [(0, 0), (1, 1), (2, 2)], [(0, 0), (1, 1), (2, 2)], [(0, 0)], [(0, 0)], [(0, 1)], [(0, 0), (1, 1)], [(1, 2)], [(2, 2)], [(2, 2)], [(2, 2)], [(2, 2)], [(2, 2)], [(2, 2)], [(2, 2)], [(2, 2)], [(2, 2)], [(2, 2)], [(2, 2)], [(2, 2)], [(2, 2)], [(2, 2)], [(2, 2)], [(2, 2)], [(2, 2)], [(2, 2)], [(2, 2)], [(2, 2)]] 2 [fun ((a86, c87) : (Option Addr) × (Nat)) => fun σm => Hp S0 σ0 σm [Ch.ro 0 (Sl a9 r2.2 c10) r2.2, Ch.ro 0 (Sl a7 r2.1.2 c8) r2.1.2, Ch.ro 0 (Sl a5 r2.1.1 c6) r2.1.1, Ch.ro n0 (Sl a5 r2.1.1 c6) r2.1.1, Ch.ro n0 (Sl a7 r2.1.2 c8) r2.1.2, Ch.bx n0 b12 0 [(Sl a5 r2.1.1 c6), (Sl a7 r2.1.2 c8)] [] [], Ch.ro n0 (Sl a9 r2.2 c10) r2.2, Ch.own n0 n0 (Sl a19 r16 c20) r16] ∧ Md (cov []) σ73 σm, fun ((a86, c87) : (Option Addr) × (Nat)) => fun σm => Hp S0 σ0 σm [Ch.ro 0 (Sl a86 r83 c87) r83, Ch.ro 0 (Sl a9 r2.2 c10) r2.2, Ch.ro 0 (Sl a7 r2.1.2 c8) r2.1.2, Ch.ro 0 (Sl a5 r2.1.1 c6) r2.1.1, Ch.ro n0 (Sl a5 r2.1.1 c6) r2.1.1, Ch.ro n0 (Sl a7 r2.1.2 c8) r2.1.2, Ch.bx n0 b12 0 [(Sl a5 r2.1.1 c6), (Sl a7 r2.1.2 c8)] [] [], Ch.ro n0 (Sl a9 r2.2 c10) r2.2, Ch.own n0 n0 (Sl a19 r16 c20) r16] ∧ Md (fun i => (cov []) i ∨ (fun i => (cov [Ch.ro 0 (Sl a5 r2.1.1 c6) r2.1.1, Ch.ro 0 (Sl a7 r2.1.2 c8) r2.1.2]) i ∨ (fun b => blk (Sl a86 r83 c87) = some b) i) i) σ73 σm, fun ((a86, c87) : (Option Addr) × (Nat)) => fun σm => Hp S0 σ0 σm [Ch.ro 0 (Sl a86 r83 c87) r83, Ch.ro 0 (Sl a9 r2.2 c10) r2.2, Ch.ro 0 (Sl a7 r2.1.2 c8) r2.1.2, Ch.ro 0 (Sl a5 r2.1.1 c6) r2.1.1, Ch.ro n0 (Sl a5 r2.1.1 c6) r2.1.1, Ch.ro n0 (Sl a7 r2.1.2 c8) r2.1.2, Ch.bx n0 b12 0 [(Sl a5 r2.1.1 c6), (Sl a7 r2.1.2 c8)] [] [], Ch.ro n0 (Sl a9 r2.2 c10) r2.2, Ch.own n0 n0 (Sl a19 r16 c20) r16] ∧ Md (fun i => (cov []) i ∨ (fun i => (cov [Ch.ro 0 (Sl a5 r2.1.1 c6) r2.1.1, Ch.ro 0 (Sl a7 r2.1.2 c8) r2.1.2]) i ∨ (fun b => blk (Sl a86 r83 c87) = some b) i) i) σ73 σm] [fun ((a86, c87) : (Option Addr) × (Nat)) => (Sl a19 r16 c20), fun ((a86, c87) : (Option Addr) × (Nat)) => (I s66), fun ((a86, c87) : (Option Addr) × (Nat)) => (pt b79 o80), fun ((a86, c87) : (Option Addr) × (Nat)) => (I x76), fun ((a86, c87) : (Option Addr) × (Nat)) => (.agg #[(Sl a5 r2.1.1 c6), (Sl a7 r2.1.2 c8)]), fun ((a86, c87) : (Option Addr) × (Nat)) => (I s66), fun ((a86, c87) : (Option Addr) × (Nat)) => (Sl a86 r83 c87), fun ((a86, c87) : (Option Addr) × (Nat)) => (Sl a9 r2.2 c10), fun ((a86, c87) : (Option Addr) × (Nat)) => (I r88), fun ((a86, c87) : (Option Addr) × (Nat)) => (B (x76 != r88)), fun ((a86, c87) : (Option Addr) × (Nat)) => (B (x76 != r88)), fun ((a86, c87) : (Option Addr) × (Nat)) => (I r61), fun ((a86, c87) : (Option Addr) × (Nat)) => (B (decide (r61 < 0))), fun ((a86, c87) : (Option Addr) × (Nat)) => (B (decide (r61 < 0))), fun ((a86, c87) : (Option Addr) × (Nat)) => (B (decide (r61 < 0))), fun ((a86, c87) : (Option Addr) × (Nat)) => (I r61), fun ((a86, c87) : (Option Addr) × (Nat)) => (Sl a19 r16 c20), fun ((a86, c87) : (Option Addr) × (Nat)) => (I (r16.length : Int)), fun ((a86, c87) : (Option Addr) × (Nat)) => (B (decide ((r16.length : Int) ≤ r61))), fun ((a86, c87) : (Option Addr) × (Nat)) => (B (decide ((r16.length : Int) ≤ r61))), fun ((a86, c87) : (Option Addr) × (Nat)) => (B (decide ((r16.length : Int) ≤ r61))), fun ((a86, c87) : (Option Addr) × (Nat)) => undef, fun ((a86, c87) : (Option Addr) × (Nat)) => undef, fun ((a86, c87) : (Option Addr) × (Nat)) => undef, fun ((a86, c87) : (Option Addr) × (Nat)) => undef, fun ((a86, c87) : (Option Addr) × (Nat)) => undef, fun ((a86, c87) : (Option Addr) × (Nat)) => undef, fun ((a86, c87) : (Option Addr) × (Nat)) => undef, fun ((a86, c87) : (Option Addr) × (Nat)) => undef] (none, 0) (by kernel_rfl) (by kernel_rfl) ?_ ?_ ?_
          ·intro σm m0
           exact ⟨H.grow (m0.mono fun _ h => h.elim), m0⟩
          ·refine ac rfl (by
             intro k; rintro ⟨a86, c87⟩ ρ σm hJ hoff hdep
             have e5 := look_off (N := 78) (hoff 5 rfl) rfl
             exact dp_v (v := (Sl a19 r16 c20)) wn (rv_move e5) rfl hJ) ?_
           refine ac rfl (by
             intro k; rintro ⟨a86, c87⟩ ρ σm hJ hoff hdep
             have e7 := look_off (N := 78) (hoff 7 rfl) rfl
             exact dp_v (v := (I s66)) wn (rv_move e7) rfl hJ) ?_
           refine ac rfl (by
             intro k; rintro ⟨a86, c87⟩ ρ σm hJ hoff hdep
             have e44 := hdep 0 rfl rfl 44 rfl
             have e45 := hdep 1 rfl rfl 45 rfl
             exact dp_v (v := (pt b79 o80)) wn (rv_ix Try.underlying29 ti3 e44 e45 hi78) rfl hJ) ?_
           refine all_cons (by
             refine ⟨?_, ?_⟩
             ·rintro ⟨a86, c87⟩ ρ σm hJ hoff hdep
              have e46 := hdep 2 rfl rfl 46 rfl
              obtain ⟨H, m⟩ := id hJ
              have hc81 := ((H.own 7 rfl).at hx77 hi78).int
              exact dp_v (v := (I x76)) wn (rv_load1 Try.underlying3 rfl e46 hc81) rfl hJ
             refine ⟨?_, ?_⟩
             ·rintro ⟨a86, c87⟩ ρ σm hJ hoff hdep
              have e46 := hdep 2 rfl rfl 46 rfl
              obtain ⟨H, m⟩ := id hJ
              have hc81 := ((H.own 8 rfl).at hx77 hi78).int
              exact dp_v (v := (I x76)) wn (rv_load1 Try.underlying3 rfl e46 hc81) rfl hJ
             refine ⟨?_, ?_⟩
             ·rintro ⟨a86, c87⟩ ρ σm hJ hoff hdep
              have e46 := hdep 2 rfl rfl 46 rfl
              obtain ⟨H, m⟩ := id hJ
              have hc81 := ((H.own 8 rfl).at hx77 hi78).int
              exact dp_v (v := (I x76)) wn (rv_load1 Try.underlying3 rfl e46 hc81) rfl hJ
             trivial) ?_
           refine all_cons (by
             refine ⟨?_, ?_⟩
             ·rintro ⟨a86, c87⟩ ρ σm hJ hoff hdep
              have e3 := look_off (N := 78) (hoff 3 rfl) rfl
              obtain ⟨H, m⟩ := id hJ
              have hc82 := H.cells 5 rfl
              exact dp_v (v := (.agg #[(Sl a5 r2.1.1 c6), (Sl a7 r2.1.2 c8)])) wn (rv_load (cs := [(Sl a5 r2.1.1 c6), (Sl a7 r2.1.2 c8)]) Try.underlying25 rfl ti25 e3 rfl hc82) rfl hJ
             trivial) ?_
           refine ac rfl (by
             intro k; rintro ⟨a86, c87⟩ ρ σm hJ hoff hdep
             have e7 := look_off (N := 78) (hoff 7 rfl) rfl
             exact dp_v (v := (I s66)) wn (rv_move e7) rfl hJ) ?_
           refine all_cons (by
             refine ⟨?_, ?_⟩
             ·rintro ⟨a86, c87⟩ ρ σm hJ hoff hdep
              have e48 : look 78 ρ 48 = (.agg #[(Sl a5 r2.1.1 c6), (Sl a7 r2.1.2 c8)]) := hdep 4 rfl rfl 48 rfl
              have e49 : look 78 ρ 49 = (I s66) := hdep 5 rfl rfl 49 rfl
              obtain ⟨H, m⟩ := id hJ
              refine dp_cx wn (cx_call hc85 (ent_f hc85.fn (by show [look 78 ρ 48, look 78 ρ 49] = _; rw [e48, e49])) hn0 (show Hp S0 σ0 _ ([Ch.ro 0 (Sl a5 r2.1.1 c6) r2.1.1, Ch.ro 0 (Sl a7 r2.1.2 c8) r2.1.2] ++ [Ch.ro 0 (Sl a9 r2.2 c10) r2.2, Ch.ro 0 (Sl a7 r2.1.2 c8) r2.1.2, Ch.ro 0 (Sl a5 r2.1.1 c6) r2.1.1, Ch.ro n0 (Sl a5 r2.1.1 c6) r2.1.1, Ch.ro n0 (Sl a7 r2.1.2 c8) r2.1.2, Ch.bx n0 b12 0 [(Sl a5 r2.1.1 c6), (Sl a7 r2.1.2 c8)] [] [], Ch.ro n0 (Sl a9 r2.2 c10) r2.2, Ch.own n0 n0 (Sl a19 r16 c20) r16]) from (H.sel' [2, 1, 0, 1, 2, 3, 4, 5, 6, 7] rfl rfl))) ?_
              rintro _ σq ⟨_, ⟨a86x, c87x, rfl, rfl⟩, H2, m2⟩
              obtain ⟨σr0, hwr0, H2, mr0⟩ := H2.pubSc 0 rfl
              exact ⟨_, (a86x, c87x), hwr0, rfl, ⟨H2.sel' [0, 1, 2, 3, 4, 5, 6, 7, 8] rfl rfl, m.comp (m2.comp mr0)⟩, stab [0, 1, 2, 3, 4, 5, 7] (by kernel_rfl) ⟨rfl, rfl, rfl, rfl, rfl, rfl, rfl, trivial⟩⟩
             trivial) ?_
           refine ac rfl (by
             intro k; rintro ⟨a86, c87⟩ ρ σm hJ hoff hdep
             have e4 := look_off (N := 78) (hoff 4 rfl) rfl
             exact dp_v (v := (Sl a9 r2.2 c10)) wn (rv_move e4) rfl hJ) ?_
           refine all_cons (by
             refine ⟨?_, ?_⟩
             ·rintro ⟨a86, c87⟩ ρ σm hJ hoff hdep
              have e50 : look 78 ρ 50 = (Sl a86 r83 c87) := hdep 6 rfl rfl 50 rfl
              have e51 : look 78 ρ 51 = (Sl a9 r2.2 c10) := hdep 7 rfl rfl 51 rfl
              obtain ⟨H, m⟩ := id hJ
              refine dp_cx wn (cx_call (hc90 a86 c87) (ent_f (hc90 a86 c87).fn (by show [(I 3), look 78 ρ 50, look 78 ρ 51] = _; rw [e50, e51])) hn0 (show Hp S0 σ0 _ ([Ch.ro 0 (Sl a86 r83 c87) r83, Ch.ro 0 (Sl a9 r2.2 c10) r2.2] ++ [Ch.ro 0 (Sl a86 r83 c87) r83, Ch.ro 0 (Sl a9 r2.2 c10) r2.2, Ch.ro 0 (Sl a7 r2.1.2 c8) r2.1.2, Ch.ro 0 (Sl a5 r2.1.1 c6) r2.1.1, Ch.ro n0 (Sl a5 r2.1.1 c6) r2.1.1, Ch.ro n0 (Sl a7 r2.1.2 c8) r2.1.2, Ch.bx n0 b12 0 [(Sl a5 r2.1.1 c6), (Sl a7 r2.1.2 c8)] [] [], Ch.ro n0 (Sl a9 r2.2 c10) r2.2, Ch.own n0 n0 (Sl a19 r16 c20) r16]) from (H.sel' [0, 1, 0, 1, 2, 3, 4, 5, 6, 7, 8] rfl rfl))) ?_
              rintro _ σq ⟨_, ⟨rfl, rfl⟩, H2, m2⟩
              exact ⟨_, (a86, c87), rfl, rfl, ⟨H2.sel' [0, 1, 2, 3, 4, 5, 6, 7, 8] rfl rfl, m.comp0 (m2.mono (fun i h => by simp [cov, Ch.ro] at h))⟩, stab [0, 1, 2, 3, 4, 5, 6, 7] (by kernel_rfl) ⟨rfl, rfl, rfl, rfl, rfl, rfl, rfl, rfl, trivial⟩⟩
             trivial) ?_
           refine ac rfl (by
             intro k; rintro ⟨a86, c87⟩ ρ σm hJ hoff hdep
             have e47 := hdep 3 rfl rfl 47 rfl
             have e52 := hdep 8 rfl rfl 52 rfl
             exact dp_v (v := (B (x76 != r88))) wn (rv_neq (a := x76) (b := r88) e47 e52) rfl hJ) ?_
           refine ac rfl (by
             intro k; rintro ⟨a86, c87⟩ ρ σm hJ hoff hdep
             have e53 := hdep 9 rfl rfl 53 rfl
             exact dp_v (v := (B (x76 != r88))) wn (rv_move e53) rfl hJ) ?_
           refine ac rfl (by
             intro k; rintro ⟨a86, c87⟩ ρ σm hJ hoff hdep
             have e6 := look_off (N := 78) (hoff 6 rfl) rfl
             have e54 := hdep 10 rfl rfl 54 rfl
             exact dp_v (v := (I r61)) (wanted_yes rfl (yv_of rfl (e54.trans (congrArg B hb91)))) (rv_move e6) rfl hJ) ?_
           refine ac rfl (by
             intro k; rintro ⟨a86, c87⟩ ρ σm hJ hoff hdep
             have e55 := hdep 11 rfl rfl 55 rfl
             have e54 := hdep 10 rfl rfl 54 rfl
             exact dp_v (v := (B (decide (r61 < 0)))) (wanted_yes rfl (yv_of rfl (e54.trans (congrArg B hb91)))) (rv_lss (a := r61) (b := 0) e55 rfl) rfl hJ) ?_
           refine ac rfl (by
             intro k; rintro ⟨a86, c87⟩ ρ σm hJ hoff hdep
             have e54 := hdep 10 rfl rfl 54 rfl
             have e56 := hdep 12 rfl rfl 56 rfl
             exact dp_v (v := (B (decide (r61 < 0)))) wn (rv_pick_f (e54.trans (congrArg B hb91)) e56) rfl hJ) ?_
           refine ac rfl (by
             intro k; rintro ⟨a86, c87⟩ ρ σm hJ hoff hdep
             have e57 := hdep 13 rfl rfl 57 rfl
             exact dp_v (v := (B (decide (r61 < 0)))) wn (rv_move e57) rfl hJ) ?_
           refine ac rfl (by
             intro k; rintro ⟨a86, c87⟩ ρ σm hJ hoff hdep
             have e6 := look_off (N := 78) (hoff 6 rfl) rfl
             have e58 := hdep 14 rfl rfl 58 rfl
             exact dp_v (v := (I r61)) (wanted_yes rfl (yv_of rfl (e58.trans (congrArg B hb93)))) (rv_move e6) rfl hJ) ?_
           refine ac rfl (by
             intro k; rintro ⟨a86, c87⟩ ρ σm hJ hoff hdep
             have e5 := look_off (N := 78) (hoff 5 rfl) rfl
             have e58 := hdep 14 rfl rfl 58 rfl
             exact dp_v (v := (Sl a19 r16 c20)) (wanted_yes rfl (yv_of rfl (e58.trans (congrArg B hb93)))) (rv_move e5) rfl hJ) ?_
           refine ac rfl (by
             intro k; rintro ⟨a86, c87⟩ ρ σm hJ hoff hdep
             have e60 := hdep 16 rfl rfl 60 rfl
             have e58 := hdep 14 rfl rfl 58 rfl
             exact dp_v (v := (I (r16.length : Int))) (wanted_yes rfl (yv_of rfl (e58.trans (congrArg B hb93)))) (rv_len Try.underlying29 e60) rfl hJ) ?_
           refine ac rfl (by
             intro k; rintro ⟨a86, c87⟩ ρ σm hJ hoff hdep
             have e59 := hdep 15 rfl rfl 59 rfl
             have e61 := hdep 17 rfl rfl 61 rfl
             have e58 := hdep 14 rfl rfl 58 rfl
             exact dp_v (v := (B (decide ((r16.length : Int) ≤ r61)))) (wanted_yes rfl (yv_of rfl (e58.trans (congrArg B hb93)))) (rv_geq (a := r61) (b := (r16.length : Int)) e59 e61) rfl hJ) ?_
           refine ac rfl (by
             intro k; rintro ⟨a86, c87⟩ ρ σm hJ hoff hdep
             have e58 := hdep 14 rfl rfl 58 rfl
             have e62 := hdep 18 rfl rfl 62 rfl
             exact dp_v (v := (B (decide ((r16.length : Int) ≤ r61)))) wn (rv_pick_f (e58.trans (congrArg B hb93)) e62) rfl hJ) ?_
           refine ac rfl (by
             intro k; rintro ⟨a86, c87⟩ ρ σm hJ hoff hdep
             have e63 := hdep 19 rfl rfl 63 rfl
             exact dp_v (v := (B (decide ((r16.length : Int) ≤ r61)))) wn (rv_move e63) rfl hJ) ?_
           refine ac rfl (by
             intro k; rintro ⟨a86, c87⟩ ρ σm hJ hoff hdep
             have e64 := hdep 20 rfl rfl 64 rfl
             exact dp_skip (wanted_no rfl (yv_of rfl (e64.trans (congrArg B hb95)))) rfl hJ) ?_
           refine ac rfl (by
             intro k; rintro ⟨a86, c87⟩ ρ σm hJ hoff hdep
             have e64 := hdep 20 rfl rfl 64 rfl
             exact dp_skip (wanted_no rfl (yv_of rfl (e64.trans (congrArg B hb95)))) rfl hJ) ?_
           refine ac rfl (by
             intro k; rintro ⟨a86, c87⟩ ρ σm hJ hoff hdep
             have e64 := hdep 20 rfl rfl 64 rfl
             exact dp_skip (wanted_no rfl (yv_of rfl (e64.trans (congrArg B hb95)))) rfl hJ) ?_
           refine ac rfl (by
             intro k; rintro ⟨a86, c87⟩ ρ σm hJ hoff hdep
             have e64 := hdep 20 rfl rfl 64 rfl
             exact dp_skip (wanted_no rfl (yv_of rfl (e64.trans (congrArg B hb95)))) rfl hJ) ?_
           refine ac rfl (by
             intro k; rintro ⟨a86, c87⟩ ρ σm hJ hoff hdep
             have e64 := hdep 20 rfl rfl 64 rfl
             exact dp_skip (wanted_no rfl (yv_of rfl (e64.trans (congrArg B hb95)))) rfl hJ) ?_
           refine ac rfl (by
             intro k; rintro ⟨a86, c87⟩ ρ σm hJ hoff hdep
             have e64 := hdep 20 rfl rfl 64 rfl
             exact dp_skip (wanted_no rfl (yv_of rfl (e64.trans (congrArg B hb95)))) rfl hJ) ?_
           refine ac rfl (by
             intro k; rintro ⟨a86, c87⟩ ρ σm hJ hoff hdep
             have e64 := hdep 20 rfl rfl 64 rfl
             exact dp_skip (wanted_no rfl (yv_of rfl (e64.trans (congrArg B hb95)))) rfl hJ) ?_
           refine ac rfl (by
             intro k; rintro ⟨a86, c87⟩ ρ σm hJ hoff hdep
             have e64 := hdep 20 rfl rfl 64 rfl
             exact dp_skip (wanted_no rfl (yv_of rfl (e64.trans (congrArg B hb95)))) rfl hJ) ?_
           exact all_nil
          ·rintro ⟨a86, c87⟩ ρ σ96 hJ hoff hrel
           have e3 := look_off (N := 78) (hoff 3 rfl) rfl
           have e4 := look_off (N := 78) (hoff 4 rfl) rfl
           have e5 := look_off (N := 78) (hoff 5 rfl) rfl
           have e6 := look_off (N := 78) (hoff 6 rfl) rfl
           have e7 := look_off (N := 78) (hoff 7 rfl) rfl
           have e64 := hrel 20 rfl 64 rfl
           have e68 := hrel 24 rfl 68 rfl
           have e72 := hrel 28 rfl 72 rfl
           obtain ⟨H, -⟩ := (show Hp S0 σ0 σ96 [Ch.ro 0 (Sl a86 r83 c87) r83, Ch.ro 0 (Sl a9 r2.2 c10) r2.2, Ch.ro 0 (Sl a7 r2.1.2 c8) r2.1.2, Ch.ro 0 (Sl a5 r2.1.1 c6) r2.1.1, Ch.ro n0 (Sl a5 r2.1.1 c6) r2.1.1, Ch.ro n0 (Sl a7 r2.1.2 c8) r2.1.2, Ch.bx n0 b12 0 [(Sl a5 r2.1.1 c6), (Sl a7 r2.1.2 c8)] [] [], Ch.ro n0 (Sl a9 r2.2 c10) r2.2, Ch.own n0 n0 (Sl a19 r16 c20) r16] ∧ Md (fun i => (cov []) i ∨ (fun i => (cov [Ch.ro 0 (Sl a5 r2.1.1 c6) r2.1.1, Ch.ro 0 (Sl a7 r2.1.2 c8) r2.1.2]) i ∨ (fun b => blk (Sl a86 r83 c87) = some b) i) i) σ73 σ96 from hJ)
           clear hJ Hs
           rw [fr_lookL (L := [(3, (pt b12 0)), (4, (Sl a9 r2.2 c10)), (5, (Sl a19 r16 c20)), (6, (I r61)), (7, (I s66)), (64, (B (decide ((r16.length : Int) ≤ r61)))), (68, undef), (72, undef)]) ⟨e3, e4, e5, e6, e7, e64, e68, e72, trivial⟩]
           clear hoff hrel e3 e4 e5 e6 e7 e64 e68 e72
           refine st_skip (congrArg some hb95) ?_
           refine st (v := (B true)) (rv_pick_t (congrArg B hb95) rfl) ?_
           refine w_end ?_
           obtain rfl := Option.some.inj h
           exact ⟨rfl, _, σ96, fr_join ⟨rfl, rfl, rfl, rfl, rfl, rfl, trivial⟩, rfl, H.sel' [4, 5, 6, 7, 8] rfl rfl⟩
         ·replace h := bif_f hb95 h
          obtain ⟨x97, hx98, h'⟩ := bind_some h
          clear h
          have h := h'; clear h'
          obtain ⟨b100, o101, hi99, -⟩ := (H.own 7 rfl).ix hx98
          have hc102 := ((H.own 7 rfl).at hx98 hi99).int
          obtain ⟨x103, hx104, h'⟩ := bind_some h
          clear h
          have h := h'; clear h'
          obtain ⟨b106, o107, hi105, -⟩ := (H.own 7 rfl).ix hx104
          have hc108 := ((H.own 7 rfl).at hx104 hi105).int
          have Hs := H
          refine rg2 (σ := σ73) (Nm := (Option Addr) × (Nat)) 29 [6, 8] [[false, false], [true, false], [true, true]] [[(0, 0), (1, 1), (2, 2)], [(0, 0), (1, 1), (2, 2)], [(0, 0), (1, 1), (2, 2)], [(0, 0), (1, 1), (2, 2)], [(0, 0)], [(0, 0)], [(0, 1)], [(0, 0), (1, 1)], [(1, 2)], [(2, 2)], [(2, 2)], [(2, 2)], [(2, 2)], [(2, 2)], [(2, 2)], [(2, 2)], [(2, 2)], [(2, 2)], [(2, 2)], [(2, 2)], [(2, 2)], [(2, 2)], [(2, 2)], [(2, 2)], [(2, 2)], [(2, 2)], [(2, 2)], [(2, 2)], [(2, 2)]] 2 [fun ((a86, c87) : (Option Addr) × (Nat)) => fun σm => Hp S0 σ0 σm [Ch.ro 0 (Sl a9 r2.2 c10) r2.2, Ch.ro 0 (Sl a7 r2.1.2 c8) r2.1.2, Ch.ro 0 (Sl a5 r2.1.1 c6) r2.1.1, Ch.ro n0 (Sl a5 r2.1.1 c6) r2.1.1, Ch.ro n0 (Sl a7 r2.1.2 c8) r2.1.2, Ch.bx n0 b12 0 [(Sl a5 r2.1.1 c6), (Sl a7 r2.1.2 c8)] [] [], Ch.ro n0 (Sl a9 r2.2 c10) r2.2, Ch.own n0 n0 (Sl a19 r16 c20) r16] ∧ Md (cov []) σ73 σm, fun ((a86, c87) : (Option Addr) × (Nat)) => fun σm => Hp S0 σ0 σm [Ch.ro 0 (Sl a86 r83 c87) r83, Ch.ro 0 (Sl a9 r2.2 c10) r2.2, Ch.ro 0 (Sl a7 r2.1.2 c8) r2.1.2, Ch.ro 0 (Sl a5 r2.1.1 c6) r2.1.1, Ch.ro n0 (Sl a5 r2.1.1 c6) r2.1.1, Ch.ro n0 (Sl a7 r2.1.2 c8) r2.1.2, Ch.bx n0 b12 0 [(Sl a5 r2.1.1 c6), (Sl a7 r2.1.2 c8)] [] [], Ch.ro n0 (Sl a9 r2.2 c10) r2.2, Ch.own n0 n0 (Sl a19 r16 c20) r16] ∧ Md (fun i => (cov []) i ∨ (fun i => (cov [Ch.ro 0 (Sl a5 r2.1.1 c6) r2.1.1, Ch.ro 0 (Sl a7 r2.1.2 c8) r2.1.2]) i ∨ (fun b => blk (Sl a86 r83 c87) = some b) i) i) σ73 σm, fun ((a86, c87) : (Option Addr) × (Nat)) => fun σm => Hp S0 σ0 σm [Ch.ro 0 (Sl a86 r83 c87) r83, Ch.ro 0 (Sl a9 r2.2 c10) r2.2, Ch.ro 0 (Sl a7 r2.1.2 c8) r2.1.2, Ch.ro 0 (Sl a5 r2.1.1 c6) r2.1.1, Ch.ro n0 (Sl a5 r2.1.1 c6) r2.1.1, Ch.ro n0 (Sl a7 r2.1.2 c8) r2.1.2, Ch.bx n0 b12 0 [(Sl a5 r2.1.1 c6), (Sl a7 r2.1.2 c8)] [] [], Ch.ro n0 (Sl a9 r2.2 c10) r2.2, Ch.own n0 n0 (Sl a19 r16 c20) r16] ∧ Md (fun i => (cov []) i ∨ (fun i => (cov [Ch.ro 0 (Sl a5 r2.1.1 c6) r2.1.1, Ch.ro 0 (Sl a7 r2.1.2 c8) r2.1.2]) i ∨ (fun b => blk (Sl a86 r83 c87) = some b) i) i) σ73 σm] [fun ((a86, c87) : (Option Addr) × (Nat)) => (Sl a19 r16 c20), fun ((a86, c87) : (Option Addr) × (Nat)) => (I s66), fun ((a86, c87) : (Option Addr) × (Nat)) => (pt b79 o80), fun ((a86, c87) : (Option Addr) × (Nat)) => (I x76), fun ((a86, c87) : (Option Addr) × (Nat)) => (.agg #[(Sl a5 r2.1.1 c6), (Sl a7 r2.1.2 c8)]), fun ((a86, c87) : (Option Addr) × (Nat)) => (I s66), fun ((a86, c87) : (Option Addr) × (Nat)) => (Sl a86 r83 c87), fun ((a86, c87) : (Option Addr) × (Nat)) => (Sl a9 r2.2 c10), fun ((a86, c87) : (Option Addr) × (Nat)) => (I r88), fun ((a86, c87) : (Option Addr) × (Nat)) => (B (x76 != r88)), fun ((a86, c87) : (Option Addr) × (Nat)) => (B (x76 != r88)), fun ((a86, c87) : (Option Addr) × (Nat)) => (I r61), fun ((a86, c87) : (Option Addr) × (Nat)) => (B (decide (r61 < 0))), fun ((a86, c87) : (Option Addr) × (Nat)) => (B (decide (r61 < 0))), fun ((a86, c87) : (Option Addr) × (Nat)) => (B (decide (r61 < 0))), fun ((a86, c87) : (Option Addr) × (Nat)) => (I r61), fun ((a86, c87) : (Option Addr) × (Nat)) => (Sl a19 r16 c20), fun ((a86, c87) : (Option Addr) × (Nat)) => (I (r16.length : Int)), fun ((a86, c87) : (Option Addr) × (Nat)) => (B (decide ((r16.length : Int) ≤ r61))), fun ((a86, c87) : (Option Addr) × (Nat)) => (B (decide ((r16.length : Int) ≤ r61))), fun ((a86, c87) : (Option Addr) × (Nat)) => (B (decide ((r16.length : Int) ≤ r61))), fun ((a86, c87) : (Option Addr) × (Nat)) => (Sl a19 r16 c20), fun ((a86, c87) : (Option Addr) × (Nat)) => (I s66), fun ((a86, c87) : (Option Addr) × (Nat)) => (pt b100 o101), fun ((a86, c87) : (Option Addr) × (Nat)) => (I x97), fun ((a86, c87) : (Option Addr) × (Nat)) => (Sl a19 r16 c20), fun ((a86, c87) : (Option Addr) × (Nat)) => (I r61), fun ((a86, c87) : (Option Addr) × (Nat)) => (pt b106 o107), fun ((a86, c87) : (Option Addr) × (Nat)) => (I x103)] (none, 0) (by kernel_rfl) (by kernel_rfl) ?_ ?_ ?_
          ·intro σm m0
           exact ⟨H.grow (m0.mono fun _ h => h.elim), m0⟩
          ·refine ac rfl (by
             intro k; rintro ⟨a86, c87⟩ ρ σm hJ hoff hdep
             have e5 := look_off (N := 78) (hoff 5 rfl) rfl
             exact dp_v (v := (Sl a19 r16 c20)) wn (rv_move e5) rfl hJ) ?_
           refine ac rfl (by
             intro k; rintro ⟨a86, c87⟩ ρ σm hJ hoff hdep
             have e7 := look_off (N := 78) (hoff 7 rfl) rfl
             exact dp_v (v := (I s66)) wn (rv_move e7) rfl hJ) ?_
           refine ac rfl (by
             intro k; rintro ⟨a86, c87⟩ ρ σm hJ hoff hdep
             have e44 := hdep 0 rfl rfl 44 rfl
             have e45 := hdep 1 rfl rfl 45 rfl
             exact dp_v (v := (pt b79 o80)) wn (rv_ix Try.underlying29 ti3 e44 e45 hi78) rfl hJ) ?_
           refine all_cons (by
             refine ⟨?_, ?_⟩
             ·rintro ⟨a86, c87⟩ ρ σm hJ hoff hdep
              have e46 := hdep 2 rfl rfl 46 rfl
              obtain ⟨H, m⟩ := id hJ
              have hc81 := ((H.own 7 rfl).at hx77 hi78).int
              exact dp_v (v := (I x76)) wn (rv_load1 Try.underlying3 rfl e46 hc81) rfl hJ
             refine ⟨?_, ?_⟩
             ·rintro ⟨a86, c87⟩ ρ σm hJ hoff hdep
              have e46 := hdep 2 rfl rfl 46 rfl
              obtain ⟨H, m⟩ := id hJ
              have hc81 := ((H.own 8 rfl).at hx77 hi78).int
              exact dp_v (v := (I x76)) wn (rv_load1 Try.underlying3 rfl e46 hc81) rfl hJ
             refine ⟨?_, ?_⟩
             ·rintro ⟨a86, c87⟩ ρ σm hJ hoff hdep
              have e46 := hdep 2 rfl rfl 46 rfl
              obtain ⟨H, m⟩ := id hJ
              have hc81 := ((H.own 8 rfl).at hx77 hi78).int
              exact dp_v (v := (I x76)) wn (rv_load1 Try.underlying3 rfl e46 hc81) rfl hJ
             trivial) ?_
           refine all_cons (by
             refine ⟨?_, ?_⟩
             ·rintro ⟨a86, c87⟩ ρ σm hJ hoff hdep
              have e3 := look_off (N := 78) (hoff 3 rfl) rfl
              obtain ⟨H, m⟩ := id hJ
              have hc82 := H.cells 5 rfl
              exact dp_v (v := (.agg #[(Sl a5 r2.1.1 c6), (Sl a7 r2.1.2 c8)])) wn (rv_load (cs := [(Sl a5 r2.1.1 c6), (Sl a7 r2.1.2 c8)]) Try.underlying25 rfl ti25 e3 rfl hc82) rfl hJ
             trivial) ?_
           refine ac rfl (by
             intro k; rintro ⟨a86, c87⟩ ρ σm hJ hoff hdep
             have e7 := look_off (N := 78) (hoff 7 rfl) rfl
             exact dp_v (v := (I s66)) wn (rv_move e7) rfl hJ) ?_
           refine all_cons (by
             refine ⟨?_, ?_⟩
             ·rintro ⟨a86, c87⟩ ρ σm hJ hoff hdep
              have e48 : look 78 ρ 48 = (.agg #[(Sl a5 r2.1.1 c6), (Sl a7 r2.1.2 c8)]) := hdep 4 rfl rfl 48 rfl
              have e49 : look 78 ρ 49 = (I s66) := hdep 5 rfl rfl 49 rfl
              obtain ⟨H, m⟩ := id hJ
              refine dp_cx wn (cx_call hc85 (ent_f hc85.fn (by show [look 78 ρ 48, look 78 ρ 49] = _; rw [e48, e49])) hn0 (show Hp S0 σ0 _ ([Ch.ro 0 (Sl a5 r2.1.1 c6) r2.1.1, Ch.ro 0 (Sl a7 r2.1.2 c8) r2.1.2] ++ [Ch.ro 0 (Sl a9 r2.2 c10) r2.2, Ch.ro 0 (Sl a7 r2.1.2 c8) r2.1.2, Ch.ro 0 (Sl a5 r2.1.1 c6) r2.1.1, Ch.ro n0 (Sl a5 r2.1.1 c6) r2.1.1, Ch.ro n0 (Sl a7 r2.1.2 c8) r2.1.2, Ch.bx n0 b12 0 [(Sl a5 r2.1.1 c6), (Sl a7 r2.1.2 c8)] [] [], Ch.ro n0 (Sl a9 r2.2 c10) r2.2, Ch.own n0 n0 (Sl a19 r16 c20) r16]) from (H.sel' [2, 1, 0, 1, 2, 3, 4, 5, 6, 7] rfl rfl))) ?_
              rintro _ σq ⟨_, ⟨a86x, c87x, rfl, rfl⟩, H2, m2⟩
              obtain ⟨σr0, hwr0, H2, mr0⟩ := H2.pubSc 0 rfl
              exact ⟨_, (a86x, c87x), hwr0, rfl, ⟨H2.sel' [0, 1, 2, 3, 4, 5, 6, 7, 8] rfl rfl, m.comp (m2.comp mr0)⟩, stab [0, 1, 2, 3, 4, 5, 7] (by kernel_rfl) ⟨rfl, rfl, rfl, rfl, rfl, rfl, rfl, trivial⟩⟩
             trivial) ?_
           refine ac rfl (by
             intro k; rintro ⟨a86, c87⟩ ρ σm hJ hoff hdep
             have e4 := look_off (N := 78) (hoff 4 rfl) rfl
             exact dp_v (v := (Sl a9 r2.2 c10)) wn (rv_move e4) rfl hJ) ?_
           refine all_cons (by
             refine ⟨?_, ?_⟩
             ·rintro ⟨a86, c87⟩ ρ σm hJ hoff hdep
              have e50 : look 78 ρ 50 = (Sl a86 r83 c87) := hdep 6 rfl rfl 50 rfl
              have e51 : look 78 ρ 51 = (Sl a9 r2.2 c10) := hdep 7 rfl rfl 51 rfl
              obtain ⟨H, m⟩ := id hJ
              refine dp_cx wn (cx_call (hc90 a86 c87) (ent_f (hc90 a86 c87).fn (by show [(I 3), look 78 ρ 50, look 78 ρ 51] = _; rw [e50, e51])) hn0 (show Hp S0 σ0 _ ([Ch.ro 0 (Sl a86 r83 c87) r83, Ch.ro 0 (Sl a9 r2.2 c10) r2.2] ++ [Ch.ro 0 (Sl a86 r83 c87) r83, Ch.ro 0 (Sl a9 r2.2 c10) r2.2, Ch.ro 0 (Sl a7 r2.1.2 c8) r2.1.2, Ch.ro 0 (Sl a5 r2.1.1 c6) r2.1.1, Ch.ro n0 (Sl a5 r2.1.1 c6) r2.1.1, Ch.ro n0 (Sl a7 r2.1.2 c8) r2.1.2, Ch.bx n0 b12 0 [(Sl a5 r2.1.1 c6), (Sl a7 r2.1.2 c8)] [] [], Ch.ro n0 (Sl a9 r2.2 c10) r2.2, Ch.own n0 n0 (Sl a19 r16 c20) r16]) from (H.sel' [0, 1, 0, 1, 2, 3, 4, 5, 6, 7, 8] rfl rfl))) ?_
              rintro _ σq ⟨_, ⟨rfl, rfl⟩, H2, m2⟩
              exact ⟨_, (a86, c87), rfl, rfl, ⟨H2.sel' [0, 1, 2, 3, 4, 5, 6, 7, 8] rfl rfl, m.comp0 (m2.mono (fun i h => by simp [cov, Ch.ro] at h))⟩, stab [0, 1, 2, 3, 4, 5, 6, 7] (by kernel_rfl) ⟨rfl, rfl, rfl, rfl, rfl, rfl, rfl, rfl, trivial⟩⟩
             trivial) ?_
           refine ac rfl (by
             intro k; rintro ⟨a86, c87⟩ ρ σm hJ hoff hdep
             have e47 := hdep 3 rfl rfl 47 rfl
             have e52 := hdep 8 rfl rfl 52 rfl
             exact dp_v (v := (B (x76 != r88))) wn (rv_neq (a := x76) (b := r88) e47 e52) rfl hJ) ?_
           refine ac rfl (by
             intro k; rintro ⟨a86, c87⟩ ρ σm hJ hoff hdep
             have e53 := hdep 9 rfl rfl 53 rfl
             exact dp_v (v := (B (x76 != r88))) wn (rv_move e53) rfl hJ) ?_
           refine ac rfl (by
             intro k; rintro ⟨a86, c87⟩ ρ σm hJ hoff hdep
             have e6 := look_off (N := 78) (hoff 6 rfl) rfl
             have e54 := hdep 10 rfl rfl 54 rfl
             exact dp_v (v := (I r61)) (wanted_yes rfl (yv_of rfl (e54.trans (congrArg B hb91)))) (rv_move e6) rfl hJ) ?_
           refine ac rfl (by
             intro k; rintro ⟨a86, c87⟩ ρ σm hJ hoff hdep
             have e55 := hdep 11 rfl rfl 55 rfl
             have e54 := hdep 10 rfl rfl 54 rfl
             exact dp_v (v := (B (decide (r61 < 0)))) (wanted_yes rfl (yv_of rfl (e54.trans (congrArg B hb91)))) (rv_lss (a := r61) (b := 0) e55 rfl) rfl hJ) ?_
           refine ac rfl (by
             intro k; rintro ⟨a86, c87⟩ ρ σm hJ hoff hdep
             have e54 := hdep 10 rfl rfl 54 rfl
             have e56 := hdep 12 rfl rfl 56 rfl
             exact dp_v (v := (B (decide (r61 < 0)))) wn (rv_pick_f (e54.trans (congrArg B hb91)) e56) rfl hJ) ?_
           refine ac rfl (by
             intro k; rintro ⟨a86, c87⟩ ρ σm hJ hoff hdep
             have e57 := hdep 13 rfl rfl 57 rfl
             exact dp_v (v := (B (decide (r61 < 0)))) wn (rv_move e57) rfl hJ) ?_
           refine ac rfl (by
             intro k; rintro ⟨a86, c87⟩ ρ σm hJ hoff hdep
             have e6 := look_off (N := 78) (hoff 6 rfl) rfl
             have e58 := hdep 14 rfl rfl 58 rfl
             exact dp_v (v := (I r61)) (wanted_yes rfl (yv_of rfl (e58.trans (congrArg B hb93)))) (rv_move e6) rfl hJ) ?_
           refine ac rfl (by
             intro k; rintro ⟨a86, c87⟩ ρ σm hJ hoff hdep
             have e5 := look_off (N := 78) (hoff 5 rfl) rfl
             have e58 := hdep 14 rfl rfl 58 rfl
             exact dp_v (v := (Sl a19 r16 c20)) (wanted_yes rfl (yv_of rfl (e58.trans (congrArg B hb93)))) (rv_move e5) rfl hJ) ?_
           refine ac rfl (by
             intro k; rintro ⟨a86, c87⟩ ρ σm hJ hoff hdep
             have e60 := hdep 16 rfl rfl 60 rfl
             have e58 := hdep 14 rfl rfl 58 rfl
             exact dp_v (v := (I (r16.length : Int))) (wanted_yes rfl (yv_of rfl (e58.trans (congrArg B hb93)))) (rv_len Try.underlying29 e60) rfl hJ) ?_
           refine ac rfl (by
             intro k; rintro ⟨a86, c87⟩ ρ σm hJ hoff hdep
             have e59 := hdep 15 rfl rfl 59 rfl
             have e61 := hdep 17 rfl rfl 61 rfl
             have e58 := hdep 14 rfl rfl 58 rfl
             exact dp_v (v := (B (decide ((r16.length : Int) ≤ r61)))) (wanted_yes rfl (yv_of rfl (e58.trans (congrArg B hb93)))) (rv_geq (a := r61) (b := (r16.length : Int)) e59 e61) rfl hJ) ?_
           refine ac rfl (by
             intro k; rintro ⟨a86, c87⟩ ρ σm hJ hoff hdep
             have e58 := hdep 14 rfl rfl 58 rfl
             have e62 := hdep 18 rfl rfl 62 rfl
             exact dp_v (v := (B (decide ((r16.length : Int) ≤ r61)))) wn (rv_pick_f (e58.trans (congrArg B hb93)) e62) rfl hJ) ?_
           refine ac rfl (by
             intro k; rintro ⟨a86, c87⟩ ρ σm hJ hoff hdep
             have e63 := hdep 19 rfl rfl 63 rfl
             exact dp_v (v := (B (decide ((r16.length : Int) ≤ r61)))) wn (rv_move e63) rfl hJ) ?_
           refine ac rfl (by
             intro k; rintro ⟨a86, c87⟩ ρ σm hJ hoff hdep
             have e5 := look_off (N := 78) (hoff 5 rfl) rfl
             have e64 := hdep 20 rfl rfl 64 rfl
             exact dp_v (v := (Sl a19 r16 c20)) (wanted_yes rfl (yv_of rfl (e64.trans (congrArg B hb95)))) (rv_move e5) rfl hJ) ?_
           refine ac rfl (by
             intro k; rintro ⟨a86, c87⟩ ρ σm hJ hoff hdep
             have e7 := look_off (N := 78) (hoff 7 rfl) rfl
             have e64 := hdep 20 rfl rfl 64 rfl
             exact dp_v (v := (I s66)) (wanted_yes rfl (yv_of rfl (e64.trans (congrArg B hb95)))) (rv_move e7) rfl hJ) ?_
           refine ac rfl (by
             intro k; rintro ⟨a86, c87⟩ ρ σm hJ hoff hdep
             have e65 := hdep 21 rfl rfl 65 rfl
             have e66 := hdep 22 rfl rfl 66 rfl
             have e64 := hdep 20 rfl rfl 64 rfl
             exact dp_v (v := (pt b100 o101)) (wanted_yes rfl (yv_of rfl (e64.trans (congrArg B hb95)))) (rv_ix Try.underlying29 ti3 e65 e66 hi99) rfl hJ) ?_
           refine all_cons (by
             refine ⟨?_, ?_⟩
             ·rintro ⟨a86, c87⟩ ρ σm hJ hoff hdep
              have e67 := hdep 23 rfl rfl 67 rfl
              have e64 := hdep 20 rfl rfl 64 rfl
              obtain ⟨H, m⟩ := id hJ
              have hc102 := ((H.own 8 rfl).at hx98 hi99).int
              exact dp_v (v := (I x97)) (wanted_yes rfl (yv_of rfl (e64.trans (congrArg B hb95)))) (rv_load1 Try.underlying3 rfl e67 hc102) rfl hJ
             trivial) ?_
           refine ac rfl (by
             intro k; rintro ⟨a86, c87⟩ ρ σm hJ hoff hdep
             have e5 := look_off (N := 78) (hoff 5 rfl) rfl
             have e64 := hdep 20 rfl rfl 64 rfl
             exact dp_v (v := (Sl a19 r16 c20)) (wanted_yes rfl (yv_of rfl (e64.trans (congrArg B hb95)))) (rv_move e5) rfl hJ) ?_
           refine ac rfl (by
             intro k; rintro ⟨a86, c87⟩ ρ σm hJ hoff hdep
             have e6 := look_off (N := 78) (hoff 6 rfl) rfl
             have e64 := hdep 20 rfl rfl 64 rfl
             exact dp_v (v := (I r61)) (wanted_yes rfl (yv_of rfl (e64.trans (congrArg B hb95)))) (rv_move e6) rfl hJ) ?_
           refine ac rfl (by
             intro k; rintro ⟨a86, c87⟩ ρ σm hJ hoff hdep
             have e69 := hdep 25 rfl rfl 69 rfl
             have e70 := hdep 26 rfl rfl 70 rfl
             have e64 := hdep 20 rfl rfl 64 rfl
             exact dp_v (v := (pt b106 o107)) (wanted_yes rfl (yv_of rfl (e64.trans (congrArg B hb95)))) (rv_ix Try.underlying29 ti3 e69 e70 hi105) rfl hJ) ?_
           refine all_cons (by
             refine ⟨?_, ?_⟩
             ·rintro ⟨a86, c87⟩ ρ σm hJ hoff hdep
              have e71 := hdep 27 rfl rfl 71 rfl
              have e64 := hdep 20 rfl rfl 64 rfl
              obtain ⟨H, m⟩ := id hJ
              have hc108 := ((H.own 8 rfl).at hx104 hi105).int
              exact dp_v (v := (I x103)) (wanted_yes rfl (yv_of rfl (e64.trans (congrArg B hb95)))) (rv_load1 Try.underlying3 rfl e71 hc108) rfl hJ
             trivial) ?_
           exact all_nil
          ·rintro ⟨a86, c87⟩ ρ σ109 hJ hoff hrel
           have e3 := look_off (N := 78) (hoff 3 rfl) rfl
           have e4 := look_off (N := 78) (hoff 4 rfl) rfl
           have e5 := look_off (N := 78) (hoff 5 rfl) rfl
           have e6 := look_off (N := 78) (hoff 6 rfl) rfl
           have e7 := look_off (N := 78) (hoff 7 rfl) rfl
           have e64 := hrel 20 rfl 64 rfl
           have e68 := hrel 24 rfl 68 rfl
           have e72 := hrel 28 rfl 72 rfl
           obtain ⟨H, -⟩ := (show Hp S0 σ0 σ109 [Ch.ro 0 (Sl a86 r83 c87) r83, Ch.ro 0 (Sl a9 r2.2 c10) r2.2, Ch.ro 0 (Sl a7 r2.1.2 c8) r2.1.2, Ch.ro 0 (Sl a5 r2.1.1 c6) r2.1.1, Ch.ro n0 (Sl a5 r2.1.1 c6) r2.1.1, Ch.ro n0 (Sl a7 r2.1.2 c8) r2.1.2, Ch.bx n0 b12 0 [(Sl a5 r2.1.1 c6), (Sl a7 r2.1.2 c8)] [] [], Ch.ro n0 (Sl a9 r2.2 c10) r2.2, Ch.own n0 n0 (Sl a19 r16 c20) r16] ∧ Md (fun i => (cov []) i ∨ (fun i => (cov [Ch.ro 0 (Sl a5 r2.1.1 c6) r2.1.1, Ch.ro 0 (Sl a7 r2.1.2 c8) r2.1.2]) i ∨ (fun b => blk (Sl a86 r83 c87) = some b) i) i) σ73 σ109 from hJ)
           clear hJ Hs
           rw [fr_lookL (L := [(3, (pt b12 0)), (4, (Sl a9 r2.2 c10)), (5, (Sl a19 r16 c20)), (6, (I r61)), (7, (I s66)), (64, (B (decide ((r16.length : Int) ≤ r61)))), (68, (I x97)), (72, (I x103))]) ⟨e3, e4, e5, e6, e7, e64, e68, e72, trivial⟩]
           clear hoff hrel e3 e4 e5 e6 e7 e64 e68 e72
           refine st_g (v := (B (decide (x97 < x103)))) (congrArg some hb95) (rv_lss (a := x97) (b := x103) rfl rfl) ?_
           refine st (v := (B (decide (x97 < x103)))) (rv_pick_f (congrArg B hb95) rfl) ?_
           refine w_end ?_
           obtain rfl := Option.some.inj h
           exact ⟨rfl, _, σ109, fr_join ⟨rfl, rfl, rfl, rfl, rfl, rfl, trivial⟩, rfl, H.sel' [4, 5, 6, 7, 8] rfl rfl⟩
      ·clear hj
       have h := h'
       clear h' H
       rintro e a w ⟨rfl, ρ, σ110, rfl, rfl, H⟩
       refine q_then ?_
       refine cd_cond o75 rfl (fun hb111 => ?_) (fun hb111 => ?_)
       ·replace h := bif_t hb111 h
        refine c_seq ?_
        refine rg ?_
        refine st (v := (B false)) (rv_assign rfl) ?_
        refine w_end ?_
        refine q_then ?_
        refine c_ret ?_
        refine q_blk_r ?_
        refine q_then_r ?_
        refine q_then_r ?_
        refine q_blk_r ?_
        obtain rfl := Option.some.inj h
        obtain rfl := hres _ rfl
        exact .inr (⟨_, rfl, rfl, _, σ110, fr_join ⟨rfl, trivial⟩, rfl, H.sel' [] rfl rfl⟩)
       ·replace h := bif_f hb111 h
        refine c_skip ?_
        refine q_blk ?_
        refine q_then ?_
        refine rg ?_
        refine st (v := (I s66)) (rv_move rfl) ?_
        refine st (v := (I (w64 (s66 + 1)))) (rv_add (a := s66) (b := 1) rfl rfl) ?_
        refine st (v := (I (w64 (s66 + 1)))) (rv_assign rfl) ?_
        refine w_end ?_
        refine q_then ?_
        obtain rfl := Option.some.inj h
        exact ⟨_, rfl, _, σ110, fr_join ⟨rfl, rfl, rfl, rfl, rfl, trivial⟩, rfl, H.sel' [0, 1, 2, 3, 4] rfl rfl⟩
     ·replace h := bif_f hb74 h
      refine c_exit ?_
      refine q_then_x ?_
      refine q_then_x ?_
      refine q_blk_hit ?_
      obtain rfl := Option.some.inj h
      obtain rfl := hres _ rfl
      exact .inl ⟨_, rfl, rfl, _, σ73, fr_join ⟨rfl, trivial⟩, rfl, H.sel' [4] rfl rfl⟩
    ·clear hj
     have h := h'
     clear h' H
     rintro e a w (⟨t112, rfl, rfl, ρ, σ113, rfl, rfl, H⟩ | ⟨t114, rfl, rfl, ρ, σ115, rfl, rfl, H⟩)
     ·replace h := selim_l h
      refine q_then ?_
      refine c_seq ?_
      refine rg ?_
      refine st (v := (Sl a19 r16 c20)) (rv_move rfl) ?_
      refine st (v := (I (r16.length : Int))) (rv_len Try.underlying29 rfl) ?_
      refine st (v := (B ((r16.length : Int) == 16))) (rv_eql (a := (r16.length : Int)) (b := 16) rfl rfl) ?_
      refine st (v := (B ((r16.length : Int) == 16))) (rv_assign rfl) ?_
      refine w_end ?_
      refine q_then ?_
      refine c_ret ?_
      obtain rfl := Option.some.inj h
      exact fin_ret (v := (B ((r16.length : Int) == 16))) (results_ok Try.results7 (res_tmp (v := (B ((r16.length : Int) == 16))) rfl res_nil) rfl) ⟨rfl, rfl⟩ (H.sel' [] rfl rfl)
     ·replace h := selim_r h
      refine q_then_r ?_
      obtain rfl := Option.some.inj h
      exact fin_ret (v := (B t114)) (results_ok Try.results7 (res_tmp (v := (B t114)) rfl res_nil) rfl) ⟨rfl, rfl⟩ (H.sel' [] rfl rfl)

end Go.Vs
