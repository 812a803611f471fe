/- The functions compute what their models say. -/
import Derived.Test.YtjcaokajkkkniabKExactDecodeVectorC1
set_option linter.unusedVariables false
set_option linter.unusedSimpArgs false
set_option maxRecDepth 20000
namespace Go.Vs
open Go Go.Proofs
attribute [local irreducible] Code.wp Code.wpIn wpList wpListIn wpQuiet Calls CallsIn

theorem c_laws_heldIntS {a_0 : List Int} {k_1 : Int} {aa_0 : Option Addr} {ca_0 : Nat} {r : Int} (h : M.laws_heldIntS a_0 k_1 = some r) :
    Cal2 Try.prog 41 [(Sl aa_0 a_0 ca_0), (I k_1)] [Ch.ro 0 (Sl aa_0 a_0 ca_0) a_0] (fun n0 v L => v = (I r) ∧ L = []) := by
 refine cal2 (n := 21) Try.func41 rfl rfl rfl rfl ?_
 intro S0 σ0 n0 hn0 H
 unfold M.laws_heldIntS at h
 refine c_seq ?_
 refine rg ?_
 refine st (v := (I 0)) (rv_assign rfl) ?_
 refine w_end ?_
 refine q_then ?_
 refine c_seq ?_
 refine c_seq ?_
 refine rg ?_
 refine st (v := (I 0)) (rv_assign rfl) ?_
 refine w_end ?_
 refine q_then ?_
 obtain ⟨o1, hj, h'⟩ := bind_some h
 clear h
 refine c_cut (fun e a w => (∃ t, o1 = (.inl t) ∧ e = .normal ∧ ∃ (ρ : Nat → Value) (σ : St), a = fr 21 (updL ρ [(1, (I t))]) ∧ w = σ.w ∧ Hp S0 σ0 σ []) ∨ (∃ t, o1 = (.inr t) ∧ e = .ret ∧ ∃ (ρ : Nat → Value) (σ : St), a = fr 21 (updL ρ [(4, (I t))]) ∧ w = σ.w ∧ Hp S0 σ0 σ [])) ?_ ?_
 ·clear h'
  rename _ = some o1 => h
  refine c_blk ?_
  refine wp_loopM _ h (fun s2 a w => ∃ (ρ : Nat → Value) (σ : St), a = fr 21 (updL ρ [(0, (Sl aa_0 a_0 ca_0)), (1, (I s2.1)), (5, (I s2.2))]) ∧ w = σ.w ∧ Hp S0 σ0 σ [Ch.ro 0 (Sl aa_0 a_0 ca_0) a_0]) ⟨_, σ0, fr_join ⟨rfl, rfl, rfl, trivial⟩, rfl, H.sel' [0] rfl rfl⟩ ?_
  clear h H
  rintro s2 a w o ⟨ρ, σ3, rfl, rfl, H⟩ h hres
  refine c_seq ?_
  refine c_seq ?_
  refine rg ?_
  refine st (v := (I s2.2)) (rv_move rfl) ?_
  refine st (v := (Sl aa_0 a_0 ca_0)) (rv_move rfl) ?_
  refine st (v := (I (a_0.length : Int))) (rv_len Try.underlying29 rfl) ?_
  refine st (v := (B (decide (s2.2 < (a_0.length : Int))))) (rv_lss (a := s2.2) (b := (a_0.length : Int)) rfl rfl) ?_
  refine w_end ?_
  refine q_then ?_
  refine cd_cond (decide (s2.2 < (a_0.length : Int))) rfl (fun hb4 => ?_) (fun hb4 => ?_)
  ·replace h := bif_t hb4 h
   refine c_skip ?_
   refine q_then ?_
   refine c_seq ?_
   refine c_blk ?_
   refine c_seq ?_
   refine c_seq ?_
   refine rg ?_
   refine st (v := (Sl aa_0 a_0 ca_0)) (rv_move rfl) ?_
   refine st (v := (I s2.2)) (rv_move rfl) ?_
   obtain ⟨x5, hx6, h'⟩ := bind_some h
   clear h
   have h := h'; clear h'
   obtain ⟨b8, o9, hi7, -⟩ := (H.ro 0 rfl).ix hx6
   refine st (v := (pt b8 o9)) (rv_ix Try.underlying29 ti3 rfl rfl hi7) ?_
   have hc10 := ((H.ro 0 rfl).at hx6 hi7).int
   refine st (v := (I x5)) (rv_load1 Try.underlying3 rfl rfl hc10) ?_
   refine st (v := (I s2.1)) (rv_move rfl) ?_
   refine st (v := (B (x5 != s2.1))) (rv_neq (a := x5) (b := s2.1) rfl rfl) ?_
   refine w_end ?_
   refine q_then ?_
   refine cd_cond (x5 != s2.1) rfl (fun hb11 => ?_) (fun hb11 => ?_)
   ·replace h := bif_t hb11 h
    refine c_seq ?_
    refine rg ?_
    refine st (v := (I (-1))) (rv_assign rfl) ?_
    refine w_end ?_
    refine q_then ?_
    refine c_ret ?_
    refine q_then_r ?_
    refine q_blk_r ?_
    refine q_then_r ?_
    refine q_then_r ?_
    refine q_blk_r ?_
    obtain rfl := Option.some.inj h
    obtain rfl := hres _ rfl
    exact .inr (⟨_, rfl, rfl, _, σ3, fr_join ⟨rfl, trivial⟩, rfl, H.sel' [] rfl rfl⟩)
   ·replace h := bif_f hb11 h
    refine c_skip ?_
    refine q_then ?_
    refine rg ?_
    refine st (v := (I s2.1)) (rv_move rfl) ?_
    refine st (v := (I (w64 (s2.1 + 1)))) (rv_add (a := s2.1) (b := 1) rfl rfl) ?_
    refine st (v := (I (w64 (s2.1 + 1)))) (rv_assign rfl) ?_
    refine w_end ?_
    refine q_blk ?_
    refine q_then ?_
    refine rg ?_
    refine st (v := (I s2.2)) (rv_move rfl) ?_
    refine st (v := (I (w64 (s2.2 + 1)))) (rv_add (a := s2.2) (b := 1) rfl rfl) ?_
    refine st (v := (I (w64 (s2.2 + 1)))) (rv_assign rfl) ?_
    refine w_end ?_
    refine q_then ?_
    obtain rfl := Option.some.inj h
    exact ⟨_, rfl, _, σ3, fr_join ⟨rfl, rfl, rfl, trivial⟩, rfl, H.sel' [0] rfl rfl⟩
  ·replace h := bif_f hb4 h
   refine c_exit ?_
   refine q_then_x ?_
   refine q_then_x ?_
   refine q_blk_hit ?_
   obtain rfl := Option.some.inj h
   obtain rfl := hres _ rfl
   exact .inl ⟨_, rfl, rfl, _, σ3, fr_join ⟨rfl, trivial⟩, rfl, H.sel' [] rfl rfl⟩
 ·clear hj
  have h := h'
  clear h' H
  rintro e a w (⟨t12, rfl, rfl, ρ, σ13, rfl, rfl, H⟩ | ⟨t14, rfl, rfl, ρ, σ15, rfl, rfl, H⟩)
  ·replace h := selim_l h
   refine q_then ?_
   refine c_seq ?_
   refine rg ?_
   refine st (v := (I t12)) (rv_move rfl) ?_
   refine st (v := (I t12)) (rv_assign rfl) ?_
   refine w_end ?_
   refine q_then ?_
   refine c_ret ?_
   obtain rfl := Option.some.inj h
   exact fin_ret (v := (I t12)) (results_ok Try.results41 (res_tmp (v := (I t12)) rfl res_nil) rfl) ⟨rfl, rfl⟩ (H.sel' [] rfl rfl)
  ·replace h := selim_r h
   refine q_then_r ?_
   obtain rfl := Option.some.inj h
   exact fin_ret (v := (I t14)) (results_ok Try.results41 (res_tmp (v := (I t14)) rfl res_nil) rfl) ⟨rfl, rfl⟩ (H.sel' [] rfl rfl)

theorem c_laws_FnExactDecodeVector {aB_0 : (List (List Int)) × (List (List Int))} {aCode_1 : Int} {aaB_0_0 : Option Addr} {caB_0_0 : Nat} {aaB_0_1 : Option Addr} {caB_0_1 : Nat} {r : Bool} (h : M.laws_FnExactDecodeVector aB_0 aCode_1 = some r) :
    Cal2 Try.prog 13 [(.agg #[(Sl aaB_0_0 aB_0.1 caB_0_0), (Sl aaB_0_1 aB_0.2 caB_0_1)]), (I aCode_1)] [Ch.ro 0 (Sl aaB_0_0 aB_0.1 caB_0_0) aB_0.1, Ch.ro 0 (Sl aaB_0_1 aB_0.2 caB_0_1) aB_0.2] (fun n0 v L => v = (B r) ∧ L = []) := by
 refine cal2 (n := 74) Try.func13 rfl rfl rfl rfl ?_
 intro S0 σ0 n0 hn0 H
 unfold M.laws_FnExactDecodeVector at h
 refine c_seq ?_
 refine rg ?_
 refine st_ex (ex_box (cs := [(Sl aaB_0_0 aB_0.1 caB_0_0), (Sl aaB_0_1 aB_0.2 caB_0_1)]) H hn0 rfl rfl) wn ?_
 rintro _ σ2 ⟨b1, rfl, H, -⟩
 refine st (v := (B false)) (rv_assign rfl) ?_
 refine w_end ?_
 refine q_then ?_
 refine c_seq ?_
 refine rg ?_
 refine st (v := (I 1048576)) (rv_assign rfl) ?_
 refine w_end ?_
 refine q_then ?_
 refine c_seq ?_
 refine rg ?_
 have hc3 := H.cells 0 rfl
 refine st (v := (.agg #[(Sl aaB_0_0 aB_0.1 caB_0_0), (Sl aaB_0_1 aB_0.2 caB_0_1)])) (rv_load (cs := [(Sl aaB_0_0 aB_0.1 caB_0_0), (Sl aaB_0_1 aB_0.2 caB_0_1)]) Try.underlying49 rfl ti49 rfl rfl hc3) ?_
 refine st (v := (I 1048576)) (rv_move rfl) ?_
 obtain ⟨r4, hx5, h'⟩ := bind_some h
 clear h
 have h := h'; clear h'
 have hc6 := c_laws_szBook (aa_0_0 := aaB_0_0) (ca_0_0 := caB_0_0) (aa_0_1 := aaB_0_1) (ca_0_1 := caB_0_1) hx5
 refine st_call (cx_call hc6 (ent_f hc6.fn rfl) hn0 (show Hp S0 σ0 _ ([Ch.ro 0 (Sl aaB_0_0 aB_0.1 caB_0_0) aB_0.1, Ch.ro 0 (Sl aaB_0_1 aB_0.2 caB_0_1) aB_0.2] ++ [Ch.bx n0 b1 0 [(Sl aaB_0_0 aB_0.1 caB_0_0), (Sl aaB_0_1 aB_0.2 caB_0_1)] [] [], Ch.ro 0 (Sl aaB_0_0 aB_0.1 caB_0_0) aB_0.1, Ch.ro 0 (Sl aaB_0_1 aB_0.2 caB_0_1) aB_0.2]) from (H.sel' [1, 2, 0, 1, 2] rfl rfl))) wn ?_
 rintro _ σ7 ⟨_, ⟨rfl, rfl⟩, H, -⟩
 replace H : Hp S0 σ0 σ7 [Ch.bx n0 b1 0 [(Sl aaB_0_0 aB_0.1 caB_0_0), (Sl aaB_0_1 aB_0.2 caB_0_1)] [] [], Ch.ro 0 (Sl aaB_0_0 aB_0.1 caB_0_0) aB_0.1, Ch.ro 0 (Sl aaB_0_1 aB_0.2 caB_0_1) aB_0.2] := H
 refine st (v := (I r4)) (rv_assign rfl) ?_
 refine w_end ?_
 refine q_then ?_
 refine c_seq ?_
 refine c_seq ?_
 refine rg ?_
 refine st (v := (I r4)) (rv_move rfl) ?_
 refine st (v := (B (decide (r4 < 0)))) (rv_lss (a := r4) (b := 0) rfl rfl) ?_
 refine w_end ?_
 refine q_then ?_
 refine cd_cond (decide (r4 < 0)) rfl (fun hb8 => ?_) (fun hb8 => ?_)
 ·replace h := bif_t hb8 h
  refine c_seq ?_
  refine rg ?_
  refine st (v := (B true)) (rv_assign rfl) ?_
  refine w_end ?_
  refine q_then ?_
  refine c_ret ?_
  refine q_then_r ?_
  obtain rfl := Option.some.inj h
  exact fin_ret (v := (B true)) (results_ok Try.results13 (res_tmp (v := (B true)) rfl res_nil) rfl) ⟨rfl, rfl⟩ (H.sel' [] rfl rfl)
 ·replace h := bif_f hb8 h
  refine c_skip ?_
  refine q_then ?_
  refine c_seq ?_
  refine rg ?_
  have hc9 := H.cells 0 rfl
  refine st (v := (.agg #[(Sl aaB_0_0 aB_0.1 caB_0_0), (Sl aaB_0_1 aB_0.2 caB_0_1)])) (rv_load (cs := [(Sl aaB_0_0 aB_0.1 caB_0_0), (Sl aaB_0_1 aB_0.2 caB_0_1)]) Try.underlying49 rfl ti49 rfl rfl hc9) ?_
  obtain ⟨r10, hx11, h'⟩ := bind_some h
  clear h
  have h := h'; clear h'
  have hc12 := c_laws_toBookD (aa_0_0 := aaB_0_0) (ca_0_0 := caB_0_0) (aa_0_1 := aaB_0_1) (ca_0_1 := caB_0_1) hx11
  refine st_call (cx_call hc12 (ent_f hc12.fn rfl) hn0 (show Hp S0 σ0 _ ([Ch.ro 0 (Sl aaB_0_0 aB_0.1 caB_0_0) aB_0.1, Ch.ro 0 (Sl aaB_0_1 aB_0.2 caB_0_1) aB_0.2] ++ [Ch.bx n0 b1 0 [(Sl aaB_0_0 aB_0.1 caB_0_0), (Sl aaB_0_1 aB_0.2 caB_0_1)] [] [], Ch.ro 0 (Sl aaB_0_0 aB_0.1 caB_0_0) aB_0.1, Ch.ro 0 (Sl aaB_0_1 aB_0.2 caB_0_1) aB_0.2]) from (H.sel' [1, 2, 0, 1, 2] rfl rfl))) wn ?_
  rintro _ σ21 ⟨_, ⟨a13, c14, K15, a17, c18, K19, rfl, rfl, hK16, hK20⟩, H, -⟩
  replace H : Hp S0 σ0 σ21 [Ch.big K15, Ch.big K19, Ch.bx n0 b1 0 [(Sl aaB_0_0 aB_0.1 caB_0_0), (Sl aaB_0_1 aB_0.2 caB_0_1)] [] [], Ch.ro 0 (Sl aaB_0_0 aB_0.1 caB_0_0) aB_0.1, Ch.ro 0 (Sl aaB_0_1 aB_0.2 caB_0_1) aB_0.2] := H
  refine st (v := (I aCode_1)) (rv_move rfl) ?_
  obtain ⟨r22, hx23, h'⟩ := bind_some h
  clear h
  have h := h'; clear h'
  have hc24 := c_spec_DecodeVector (ab_0_0 := a13) (cb_0_0 := c14) (ab_0_1 := a17) (cb_0_1 := c18) hx23
  have hle := Nat.le_trans hn0 H.size
  refine st_call (cx_lend (Loan.lendB hK16.lends (Loan.lendB hK20.lends Loan.nil)) hc24 (ent_f hc24.fn rfl) (show Hp S0 σ0 _ ([Ch.big K15, Ch.big K19] ++ ([] ++ [Ch.bx n0 b1 0 [(Sl aaB_0_0 aB_0.1 caB_0_0), (Sl aaB_0_1 aB_0.2 caB_0_1)] [] [], Ch.ro 0 (Sl aaB_0_0 aB_0.1 caB_0_0) aB_0.1, Ch.ro 0 (Sl aaB_0_1 aB_0.2 caB_0_1) aB_0.2])) from (H.sel' [0, 1, 2, 3, 4] rfl rfl)) (by rintro _ _ _ ⟨_, _, rfl, rfl⟩; exact ⟨Ab.ownSc, trivial⟩)) wn ?_
  rintro _ σ27 ⟨_, ⟨a25, c26, rfl, rfl⟩, H, -, -⟩
  replace H : Hp S0 σ0 σ27 [Ch.own σ21.size σ21.size (Sl a25 r22 c26) r22, Ch.big K15, Ch.big K19, Ch.bx n0 b1 0 [(Sl aaB_0_0 aB_0.1 caB_0_0), (Sl aaB_0_1 aB_0.2 caB_0_1)] [] [], Ch.ro 0 (Sl aaB_0_0 aB_0.1 caB_0_0) aB_0.1, Ch.ro 0 (Sl aaB_0_1 aB_0.2 caB_0_1) aB_0.2] := H
  replace H := H.ownLow 0 n0 n0 rfl hle hle
  clear hle
  replace H : Hp S0 σ0 σ27 [Ch.own n0 n0 (Sl a25 r22 c26) r22, Ch.big K15, Ch.big K19, Ch.bx n0 b1 0 [(Sl aaB_0_0 aB_0.1 caB_0_0), (Sl aaB_0_1 aB_0.2 caB_0_1)] [] [], Ch.ro 0 (Sl aaB_0_0 aB_0.1 caB_0_0) aB_0.1, Ch.ro 0 (Sl aaB_0_1 aB_0.2 caB_0_1) aB_0.2] := H
  refine st (v := (Sl a25 r22 c26)) (rv_assign rfl) ?_
  refine w_end ?_
  refine q_then ?_
  refine c_seq ?_
  refine rg ?_
  have hc28 := H.cells 3 rfl
  refine st (v := (.agg #[(Sl aaB_0_0 aB_0.1 caB_0_0), (Sl aaB_0_1 aB_0.2 caB_0_1)])) (rv_load (cs := [(Sl aaB_0_0 aB_0.1 caB_0_0), (Sl aaB_0_1 aB_0.2 caB_0_1)]) Try.underlying49 rfl ti49 rfl rfl hc28) ?_
  obtain ⟨r29, hx30, h'⟩ := bind_some h
  clear h
  have h := h'; clear h'
  have hc31 := c_laws_toBookD (aa_0_0 := aaB_0_0) (ca_0_0 := caB_0_0) (aa_0_1 := aaB_0_1) (ca_0_1 := caB_0_1) hx30
  refine st_call (cx_call hc31 (ent_f hc31.fn rfl) hn0 (show Hp S0 σ0 _ ([Ch.ro 0 (Sl aaB_0_0 aB_0.1 caB_0_0) aB_0.1, Ch.ro 0 (Sl aaB_0_1 aB_0.2 caB_0_1) aB_0.2] ++ [Ch.own n0 n0 (Sl a25 r22 c26) r22, Ch.big K15, Ch.big K19, Ch.bx n0 b1 0 [(Sl aaB_0_0 aB_0.1 caB_0_0), (Sl aaB_0_1 aB_0.2 caB_0_1)] [] [], Ch.ro 0 (Sl aaB_0_0 aB_0.1 caB_0_0) aB_0.1, Ch.ro 0 (Sl aaB_0_1 aB_0.2 caB_0_1) aB_0.2]) from (H.sel' [4, 5, 0, 1, 2, 3, 4, 5] rfl rfl))) wn ?_
  rintro _ σ40 ⟨_, ⟨a32, c33, K34, a36, c37, K38, rfl, rfl, hK35, hK39⟩, H, -⟩
  replace H : Hp S0 σ0 σ40 [Ch.big K34, Ch.big K38, Ch.own n0 n0 (Sl a25 r22 c26) r22, Ch.big K15, Ch.big K19, Ch.bx n0 b1 0 [(Sl aaB_0_0 aB_0.1 caB_0_0), (Sl aaB_0_1 aB_0.2 caB_0_1)] [] [], Ch.ro 0 (Sl aaB_0_0 aB_0.1 caB_0_0) aB_0.1, Ch.ro 0 (Sl aaB_0_1 aB_0.2 caB_0_1) aB_0.2] := H
  replace H : Hp S0 σ0 σ40 [Ch.big K34, Ch.big K38, Ch.own n0 n0 (Sl a25 r22 c26) r22, Ch.bx n0 b1 0 [(Sl aaB_0_0 aB_0.1 caB_0_0), (Sl aaB_0_1 aB_0.2 caB_0_1)] [] [], Ch.ro 0 (Sl aaB_0_0 aB_0.1 caB_0_0) aB_0.1, Ch.ro 0 (Sl aaB_0_1 aB_0.2 caB_0_1) aB_0.2] := H.sel' [0, 1, 2, 5, 6, 7] rfl rfl
  refine st_ex (ex_alloc (cs := [(.slice none 0 0), (.slice none 0 0)]) H hn0 ti39 rfl) wn ?_
  rintro _ σ42 ⟨b41, rfl, H, -⟩
  refine st_exS (ex_store_box (k := 0) (cs := [(.slice none 0 0), (.slice none 0 0)]) (vs := [(Sl a32 r29.1 c33), (Sl a36 r29.2 c37)]) (cs' := [(Sl a32 r29.1 c33), (Sl a36 r29.2 c37)]) H (i := 0) rfl ti39 rfl rfl rfl rfl rfl (Nat.le_of_ble_eq_true rfl) (by simp [plain]) rfl) wn ?_
  rintro σ43 ⟨H, -⟩
  refine w_end ?_
  refine q_then ?_
  refine c_seq ?_
  refine rg ?_
  have hc44 := H.cells 0 rfl
  refine st (v := (.agg #[(Sl a32 r29.1 c33), (Sl a36 r29.2 c37)])) (rv_load (cs := [(Sl a32 r29.1 c33), (Sl a36 r29.2 c37)]) Try.underlying39 rfl ti39 rfl rfl hc44) ?_
  refine st (v := (I aCode_1)) (rv_move rfl) ?_
  obtain ⟨r45, hx46, h'⟩ := bind_some h
  clear h
  have h := h'; clear h'
  have hc47 := c_impl_DecodeVector (ab_0_0 := a32) (cb_0_0 := c33) (ab_0_1 := a36) (cb_0_1 := c37) hx46
  have hle := Nat.le_trans hn0 H.size
  refine st_call (cx_lend (Loan.lendB hK35.lends (Loan.lendB hK39.lends Loan.nil)) hc47 (ent_f hc47.fn rfl) (show Hp S0 σ0 _ ([Ch.big K34, Ch.big K38] ++ ([] ++ [Ch.bx n0 b41 0 [(Sl a32 r29.1 c33), (Sl a36 r29.2 c37)] [] [], Ch.own n0 n0 (Sl a25 r22 c26) r22, Ch.bx n0 b1 0 [(Sl aaB_0_0 aB_0.1 caB_0_0), (Sl aaB_0_1 aB_0.2 caB_0_1)] [] [], Ch.ro 0 (Sl aaB_0_0 aB_0.1 caB_0_0) aB_0.1, Ch.ro 0 (Sl aaB_0_1 aB_0.2 caB_0_1) aB_0.2])) from (H.sel' [1, 2, 0, 3, 4, 5, 6] rfl rfl)) (by rintro _ _ _ ⟨_, _, rfl, rfl⟩; exact ⟨Ab.ownSc, trivial⟩)) wn ?_
  rintro _ σ50 ⟨_, ⟨a48, c49, rfl, rfl⟩, H, -, -⟩
  replace H : Hp S0 σ0 σ50 [Ch.own 0 σ43.size (Sl a48 r45 c49) r45, Ch.big K34, Ch.big K38, Ch.bx n0 b41 0 [(Sl a32 r29.1 c33), (Sl a36 r29.2 c37)] [] [], Ch.own n0 n0 (Sl a25 r22 c26) r22, Ch.bx n0 b1 0 [(Sl aaB_0_0 aB_0.1 caB_0_0), (Sl aaB_0_1 aB_0.2 caB_0_1)] [] [], Ch.ro 0 (Sl aaB_0_0 aB_0.1 caB_0_0) aB_0.1, Ch.ro 0 (Sl aaB_0_1 aB_0.2 caB_0_1) aB_0.2] := H
  replace H := H.ownLow 0 0 n0 rfl (Nat.le_refl _) hle
  clear hle
  replace H : Hp S0 σ0 σ50 [Ch.own 0 n0 (Sl a48 r45 c49) r45, Ch.big K34, Ch.big K38, Ch.bx n0 b41 0 [(Sl a32 r29.1 c33), (Sl a36 r29.2 c37)] [] [], Ch.own n0 n0 (Sl a25 r22 c26) r22, Ch.bx n0 b1 0 [(Sl aaB_0_0 aB_0.1 caB_0_0), (Sl aaB_0_1 aB_0.2 caB_0_1)] [] [], Ch.ro 0 (Sl aaB_0_0 aB_0.1 caB_0_0) aB_0.1, Ch.ro 0 (Sl aaB_0_1 aB_0.2 caB_0_1) aB_0.2] := H
  refine st (v := (Sl a48 r45 c49)) (rv_assign rfl) ?_
  refine w_end ?_
  refine q_then ?_
  refine c_seq ?_
  refine c_seq ?_
  refine rg ?_
  refine st (v := (Sl a48 r45 c49)) (rv_move rfl) ?_
  refine st (v := (Sl a25 r22 c26)) (rv_move rfl) ?_
  obtain ⟨r51, hx52, h'⟩ := bind_some h
  clear h
  have h := h'; clear h'
  have hc53 := c_laws_eqIntS (aa_0 := a48) (ca_0 := c49) (ab_1 := a25) (cb_1 := c26) hx52
  have hle := Nat.le_trans hn0 H.size
  refine st_call (cx_lend (Loan.lend (Loan.lend Loan.nil)) hc53 (ent_f hc53.fn rfl) (show Hp S0 σ0 _ ([Ch.own 0 n0 (Sl a48 r45 c49) r45, Ch.own n0 n0 (Sl a25 r22 c26) r22] ++ ([] ++ [Ch.big K34, Ch.big K38, Ch.bx n0 b41 0 [(Sl a32 r29.1 c33), (Sl a36 r29.2 c37)] [] [], Ch.bx n0 b1 0 [(Sl aaB_0_0 aB_0.1 caB_0_0), (Sl aaB_0_1 aB_0.2 caB_0_1)] [] [], Ch.ro 0 (Sl aaB_0_0 aB_0.1 caB_0_0) aB_0.1, Ch.ro 0 (Sl aaB_0_1 aB_0.2 caB_0_1) aB_0.2])) from (H.sel' [0, 4, 1, 2, 3, 5, 6, 7] rfl rfl)) (by rintro _ _ _ ⟨rfl, rfl⟩; exact trivial)) wn ?_
  rintro _ σ54 ⟨_, ⟨rfl, rfl⟩, H, -, -⟩
  replace H : Hp S0 σ0 σ54 [Ch.own 0 n0 (Sl a48 r45 c49) r45, Ch.own n0 n0 (Sl a25 r22 c26) r22, Ch.big K34, Ch.big K38, Ch.bx n0 b41 0 [(Sl a32 r29.1 c33), (Sl a36 r29.2 c37)] [] [], Ch.bx n0 b1 0 [(Sl aaB_0_0 aB_0.1 caB_0_0), (Sl aaB_0_1 aB_0.2 caB_0_1)] [] [], Ch.ro 0 (Sl aaB_0_0 aB_0.1 caB_0_0) aB_0.1, Ch.ro 0 (Sl aaB_0_1 aB_0.2 caB_0_1) aB_0.2] := H
  clear hle
  replace H : Hp S0 σ0 σ54 [Ch.own 0 n0 (Sl a48 r45 c49) r45, Ch.own n0 n0 (Sl a25 r22 c26) r22, Ch.big K34, Ch.big K38, Ch.bx n0 b41 0 [(Sl a32 r29.1 c33), (Sl a36 r29.2 c37)] [] [], Ch.bx n0 b1 0 [(Sl aaB_0_0 aB_0.1 caB_0_0), (Sl aaB_0_1 aB_0.2 caB_0_1)] [] [], Ch.ro 0 (Sl aaB_0_0 aB_0.1 caB_0_0) aB_0.1, Ch.ro 0 (Sl aaB_0_1 aB_0.2 caB_0_1) aB_0.2] := H
  refine st (v := (B (!r51))) (rv_not rfl) ?_
  refine w_end ?_
  refine q_then ?_
  refine cd_cond (!r51) rfl (fun hb55 => ?_) (fun hb55 => ?_)
  ·replace h := bif_t hb55 h
   refine c_seq ?_
   refine rg ?_
   refine st (v := (B false)) (rv_assign rfl) ?_
   refine w_end ?_
   refine q_then ?_
   refine c_ret ?_
   refine q_then_r ?_
   obtain rfl := Option.some.inj h
   exact fin_ret (v := (B false)) (results_ok Try.results13 (res_tmp (v := (B false)) rfl res_nil) rfl) ⟨rfl, rfl⟩ (H.sel' [] rfl rfl)
  ·replace h := bif_f hb55 h
   refine c_skip ?_
   refine q_then ?_
   refine c_seq ?_
   refine c_seq ?_
   have hc56 := H.cells 4 rfl
   have hc57 := H.cells 5 rfl
   obtain ⟨r58, hx59, h'⟩ := bind_some h
   clear h
   have h := h'; clear h'
   have hc60 := c_laws_toBookD (aa_0_0 := aaB_0_0) (ca_0_0 := caB_0_0) (aa_0_1 := aaB_0_1) (ca_0_1 := caB_0_1) hx59
   have Hs := H
   refine rg2 (σ := σ54) (Nm := (Option Addr) × (Nat) × (List Ch) × (Option Addr) × (Nat) × (List Ch)) 3 [2] [[false], [true]] [[(0, 0), (1, 1)], [(0, 0)], [(0, 1)]] 1 [fun ((a61, c62, K63, a65, c66, K67) : (Option Addr) × (Nat) × (List Ch) × (Option Addr) × (Nat) × (List Ch)) => fun σm => Hp S0 σ0 σm [Ch.own 0 n0 (Sl a48 r45 c49) r45, Ch.own n0 n0 (Sl a25 r22 c26) r22, Ch.big K34, Ch.big K38, Ch.bx n0 b41 0 [(Sl a32 r29.1 c33), (Sl a36 r29.2 c37)] [] [], Ch.bx n0 b1 0 [(Sl aaB_0_0 aB_0.1 caB_0_0), (Sl aaB_0_1 aB_0.2 caB_0_1)] [] [], Ch.ro 0 (Sl aaB_0_0 aB_0.1 caB_0_0) aB_0.1, Ch.ro 0 (Sl aaB_0_1 aB_0.2 caB_0_1) aB_0.2] ∧ Md (cov []) σ54 σm, fun ((a61, c62, K63, a65, c66, K67) : (Option Addr) × (Nat) × (List Ch) × (Option Addr) × (Nat) × (List Ch)) => fun σm => Hp S0 σ0 σm [Ch.big K63, Ch.big K67, Ch.own 0 n0 (Sl a48 r45 c49) r45, Ch.own n0 n0 (Sl a25 r22 c26) r22, Ch.big K34, Ch.big K38, Ch.bx n0 b41 0 [(Sl a32 r29.1 c33), (Sl a36 r29.2 c37)] [] [], Ch.bx n0 b1 0 [(Sl aaB_0_0 aB_0.1 caB_0_0), (Sl aaB_0_1 aB_0.2 caB_0_1)] [] [], Ch.ro 0 (Sl aaB_0_0 aB_0.1 caB_0_0) aB_0.1, Ch.ro 0 (Sl aaB_0_1 aB_0.2 caB_0_1) aB_0.2] ∧ Md (cov []) σ54 σm ∧ Dp 0 (Sl a61 r58.1 c62) r58.1 K63 ∧ Dp 0 (Sl a65 r58.2 c66) r58.2 K67] [fun ((a61, c62, K63, a65, c66, K67) : (Option Addr) × (Nat) × (List Ch) × (Option Addr) × (Nat) × (List Ch)) => (.agg #[(Sl a32 r29.1 c33), (Sl a36 r29.2 c37)]), fun ((a61, c62, K63, a65, c66, K67) : (Option Addr) × (Nat) × (List Ch) × (Option Addr) × (Nat) × (List Ch)) => (.agg #[(Sl aaB_0_0 aB_0.1 caB_0_0), (Sl aaB_0_1 aB_0.2 caB_0_1)]), fun ((a61, c62, K63, a65, c66, K67) : (Option Addr) × (Nat) × (List Ch) × (Option Addr) × (Nat) × (List Ch)) => (.agg #[(Sl a61 r58.1 c62), (Sl a65 r58.2 c66)])] (none, 0, [], none, 0, []) (by kernel_rfl) (by kernel_rfl) ?_ ?_ ?_
   ·intro σm m0
    exact ⟨H.grow (m0.mono fun _ h => h.elim), m0⟩
   ·refine all_cons (by
      refine ⟨?_, ?_⟩
      ·rintro ⟨a61, c62, K63, a65, c66, K67⟩ ρ σm hJ hoff hdep
       have e7 := look_off (N := 74) (hoff 7 rfl) rfl
       obtain ⟨H, m⟩ := id hJ
       have hc56 := H.cells 4 rfl
       exact dp_v (v := (.agg #[(Sl a32 r29.1 c33), (Sl a36 r29.2 c37)])) wn (rv_load (cs := [(Sl a32 r29.1 c33), (Sl a36 r29.2 c37)]) Try.underlying39 rfl ti39 e7 rfl hc56) rfl hJ
      refine ⟨?_, ?_⟩
      ·rintro ⟨a61, c62, K63, a65, c66, K67⟩ ρ σm hJ hoff hdep
       have e7 := look_off (N := 74) (hoff 7 rfl) rfl
       obtain ⟨H, m, hK64, hK68⟩ := id hJ
       have hc56 := H.cells 6 rfl
       exact dp_v (v := (.agg #[(Sl a32 r29.1 c33), (Sl a36 r29.2 c37)])) wn (rv_load (cs := [(Sl a32 r29.1 c33), (Sl a36 r29.2 c37)]) Try.underlying39 rfl ti39 e7 rfl hc56) rfl hJ
      trivial) ?_
    refine all_cons (by
      refine ⟨?_, ?_⟩
      ·rintro ⟨a61, c62, K63, a65, c66, K67⟩ ρ σm hJ hoff hdep
       have e2 := look_off (N := 74) (hoff 2 rfl) rfl
       obtain ⟨H, m⟩ := id hJ
       have hc57 := H.cells 5 rfl
       exact dp_v (v := (.agg #[(Sl aaB_0_0 aB_0.1 caB_0_0), (Sl aaB_0_1 aB_0.2 caB_0_1)])) wn (rv_load (cs := [(Sl aaB_0_0 aB_0.1 caB_0_0), (Sl aaB_0_1 aB_0.2 caB_0_1)]) Try.underlying49 rfl ti49 e2 rfl hc57) rfl hJ
      trivial) ?_
    refine all_cons (by
      refine ⟨?_, ?_⟩
      ·rintro ⟨a61, c62, K63, a65, c66, K67⟩ ρ σm hJ hoff hdep
       have e32 : look 74 ρ 32 = (.agg #[(Sl aaB_0_0 aB_0.1 caB_0_0), (Sl aaB_0_1 aB_0.2 caB_0_1)]) := hdep 1 rfl rfl 32 rfl
       obtain ⟨H, m⟩ := id hJ
       refine dp_cx wn (cx_call hc60 (ent_f hc60.fn (by show [look 74 ρ 32] = _; rw [e32])) hn0 (show Hp S0 σ0 _ ([Ch.ro 0 (Sl aaB_0_0 aB_0.1 caB_0_0) aB_0.1, Ch.ro 0 (Sl aaB_0_1 aB_0.2 caB_0_1) aB_0.2] ++ [Ch.own 0 n0 (Sl a48 r45 c49) r45, Ch.own n0 n0 (Sl a25 r22 c26) r22, Ch.big K34, Ch.big K38, Ch.bx n0 b41 0 [(Sl a32 r29.1 c33), (Sl a36 r29.2 c37)] [] [], Ch.bx n0 b1 0 [(Sl aaB_0_0 aB_0.1 caB_0_0), (Sl aaB_0_1 aB_0.2 caB_0_1)] [] [], Ch.ro 0 (Sl aaB_0_0 aB_0.1 caB_0_0) aB_0.1, Ch.ro 0 (Sl aaB_0_1 aB_0.2 caB_0_1) aB_0.2]) from (H.sel' [6, 7, 0, 1, 2, 3, 4, 5, 6, 7] rfl rfl))) ?_
       rintro _ σq ⟨_, ⟨a61x, c62x, K63x, a65x, c66x, K67x, rfl, rfl, hK64, hK68⟩, H2, m2⟩
       exact ⟨_, (a61x, c62x, K63x, a65x, c66x, K67x), rfl, rfl, ⟨H2.sel' [0, 1, 2, 3, 4, 5, 6, 7, 8, 9] rfl rfl, m.comp0 (m2.mono (fun i h => by simp [cov, Ch.ro] at h)), hK64, hK68⟩, stab [0, 1] (by kernel_rfl) ⟨rfl, rfl, trivial⟩⟩
      trivial) ?_
    exact all_nil
   ·rintro ⟨a61, c62, K63, a65, c66, K67⟩ ρ σ69 hJ hoff hrel
    have e1 := look_off (N := 74) (hoff 1 rfl) rfl
    have e2 := look_off (N := 74) (hoff 2 rfl) rfl
    have e6 := look_off (N := 74) (hoff 6 rfl) rfl
    have e7 := look_off (N := 74) (hoff 7 rfl) rfl
    have e8 := look_off (N := 74) (hoff 8 rfl) rfl
    have e31 := hrel 0 rfl 31 rfl
    have e33 := hrel 2 rfl 33 rfl
    obtain ⟨H, -, hK64, hK68⟩ := (show Hp S0 σ0 σ69 [Ch.big K63, Ch.big K67, Ch.own 0 n0 (Sl a48 r45 c49) r45, Ch.own n0 n0 (Sl a25 r22 c26) r22, Ch.big K34, Ch.big K38, Ch.bx n0 b41 0 [(Sl a32 r29.1 c33), (Sl a36 r29.2 c37)] [] [], Ch.bx n0 b1 0 [(Sl aaB_0_0 aB_0.1 caB_0_0), (Sl aaB_0_1 aB_0.2 caB_0_1)] [] [], Ch.ro 0 (Sl aaB_0_0 aB_0.1 caB_0_0) aB_0.1, Ch.ro 0 (Sl aaB_0_1 aB_0.2 caB_0_1) aB_0.2] ∧ Md (cov []) σ54 σ69 ∧ Dp 0 (Sl a61 r58.1 c62) r58.1 K63 ∧ Dp 0 (Sl a65 r58.2 c66) r58.2 K67 from hJ)
    clear hJ Hs
    rw [fr_lookL (L := [(1, (I aCode_1)), (2, (pt b1 0)), (6, (Sl a25 r22 c26)), (7, (pt b41 0)), (8, (Sl a48 r45 c49)), (31, (.agg #[(Sl a32 r29.1 c33), (Sl a36 r29.2 c37)])), (33, (.agg #[(Sl a61 r58.1 c62), (Sl a65 r58.2 c66)]))]) ⟨e1, e2, e6, e7, e8, e31, e33, trivial⟩]
    clear hoff hrel e1 e2 e6 e7 e8 e31 e33
    obtain ⟨r70, hx71, h'⟩ := bind_some h
    clear h
    have h := h'; clear h'
    have hc72 := c_laws_eqBook (aa_0_0 := a32) (ca_0_0 := c33) (aa_0_1 := a36) (ca_0_1 := c37) (ab_1_0 := a61) (cb_1_0 := c62) (ab_1_1 := a65) (cb_1_1 := c66) hx71
    have hle := Nat.le_trans hn0 H.size
    refine st_call (cx_lend (Loan.lendB hK35.lends (Loan.lendB hK39.lends (Loan.lendB hK64.lends (Loan.lendB hK68.lends Loan.nil)))) hc72 (ent_f hc72.fn rfl) (show Hp S0 σ0 _ ([Ch.big K34, Ch.big K38, Ch.big K63, Ch.big K67] ++ ([] ++ [Ch.own 0 n0 (Sl a48 r45 c49) r45, Ch.own n0 n0 (Sl a25 r22 c26) r22, Ch.bx n0 b41 0 [(Sl a32 r29.1 c33), (Sl a36 r29.2 c37)] [] [], Ch.bx n0 b1 0 [(Sl aaB_0_0 aB_0.1 caB_0_0), (Sl aaB_0_1 aB_0.2 caB_0_1)] [] [], Ch.ro 0 (Sl aaB_0_0 aB_0.1 caB_0_0) aB_0.1, Ch.ro 0 (Sl aaB_0_1 aB_0.2 caB_0_1) aB_0.2])) from (H.sel' [4, 5, 0, 1, 2, 3, 6, 7, 8, 9] rfl rfl)) (by rintro _ _ _ ⟨rfl, rfl⟩; exact trivial)) wn ?_
    rintro _ σ73 ⟨_, ⟨rfl, rfl⟩, H, -, -⟩
    replace H : Hp S0 σ0 σ73 [Ch.big K34, Ch.big K38, Ch.big K63, Ch.big K67, Ch.own 0 n0 (Sl a48 r45 c49) r45, Ch.own n0 n0 (Sl a25 r22 c26) r22, Ch.bx n0 b41 0 [(Sl a32 r29.1 c33), (Sl a36 r29.2 c37)] [] [], Ch.bx n0 b1 0 [(Sl aaB_0_0 aB_0.1 caB_0_0), (Sl aaB_0_1 aB_0.2 caB_0_1)] [] [], Ch.ro 0 (Sl aaB_0_0 aB_0.1 caB_0_0) aB_0.1, Ch.ro 0 (Sl aaB_0_1 aB_0.2 caB_0_1) aB_0.2] := H
    clear hle
    replace H : Hp S0 σ0 σ73 [Ch.big K34, Ch.big K38, Ch.big K63, Ch.big K67, Ch.own 0 n0 (Sl a48 r45 c49) r45, Ch.own n0 n0 (Sl a25 r22 c26) r22, Ch.bx n0 b41 0 [(Sl a32 r29.1 c33), (Sl a36 r29.2 c37)] [] [], Ch.bx n0 b1 0 [(Sl aaB_0_0 aB_0.1 caB_0_0), (Sl aaB_0_1 aB_0.2 caB_0_1)] [] [], Ch.ro 0 (Sl aaB_0_0 aB_0.1 caB_0_0) aB_0.1, Ch.ro 0 (Sl aaB_0_1 aB_0.2 caB_0_1) aB_0.2] := H
    replace H : Hp S0 σ0 σ73 [Ch.big K34, Ch.big K38, Ch.own 0 n0 (Sl a48 r45 c49) r45, Ch.own n0 n0 (Sl a25 r22 c26) r22, Ch.bx n0 b41 0 [(Sl a32 r29.1 c33), (Sl a36 r29.2 c37)] [] [], Ch.bx n0 b1 0 [(Sl aaB_0_0 aB_0.1 caB_0_0), (Sl aaB_0_1 aB_0.2 caB_0_1)] [] [], Ch.ro 0 (Sl aaB_0_0 aB_0.1 caB_0_0) aB_0.1, Ch.ro 0 (Sl aaB_0_1 aB_0.2 caB_0_1) aB_0.2] := H.sel' [0, 1, 4, 5, 6, 7, 8, 9] rfl rfl
    refine st (v := (B (!r70))) (rv_not rfl) ?_
    refine w_end ?_
    refine q_then ?_
    refine cd_cond (!r70) rfl (fun hb74 => ?_) (fun hb74 => ?_)
    ·replace h := bif_t hb74 h
     refine c_seq ?_
     refine rg ?_
     refine st (v := (B false)) (rv_assign rfl) ?_
     refine w_end ?_
     refine q_then ?_
     refine c_ret ?_
     refine q_then_r ?_
     obtain rfl := Option.some.inj h
     exact fin_ret (v := (B false)) (results_ok Try.results13 (res_tmp (v := (B false)) rfl res_nil) rfl) ⟨rfl, rfl⟩ (H.sel' [] rfl rfl)
    ·replace h := bif_f hb74 h
     refine c_skip ?_
     refine q_then ?_
     refine c_seq ?_
     refine rg ?_
     refine st (v := (I 1)) (rv_assign rfl) ?_
     refine w_end ?_
     refine q_then ?_
     refine c_seq ?_
     refine rg ?_
     have hc75 := H.cells 4 rfl
     refine st (v := (.agg #[(Sl a32 r29.1 c33), (Sl a36 r29.2 c37)])) (rv_load (cs := [(Sl a32 r29.1 c33), (Sl a36 r29.2 c37)]) Try.underlying39 rfl ti39 rfl rfl hc75) ?_
     refine st (v := (I 1)) (rv_move rfl) ?_
     obtain ⟨r76, hx77, h'⟩ := bind_some h
     clear h
     have h := h'; clear h'
     have hc78 := c_laws_markBook (aa_0_0 := a32) (ca_0_0 := c33) (hKa_0_0 := hK35) (aa_0_1 := a36) (ca_0_1 := c37) (hKa_0_1 := hK39) hx77
     refine st_call (cx_call hc78 (ent_f hc78.fn rfl) hn0 (show Hp S0 σ0 _ ([Ch.big K34, Ch.big K38] ++ [Ch.own 0 n0 (Sl a48 r45 c49) r45, Ch.own n0 n0 (Sl a25 r22 c26) r22, Ch.bx n0 b41 0 [(Sl a32 r29.1 c33), (Sl a36 r29.2 c37)] [] [], Ch.bx n0 b1 0 [(Sl aaB_0_0 aB_0.1 caB_0_0), (Sl aaB_0_1 aB_0.2 caB_0_1)] [] [], Ch.ro 0 (Sl aaB_0_0 aB_0.1 caB_0_0) aB_0.1, Ch.ro 0 (Sl aaB_0_1 aB_0.2 caB_0_1) aB_0.2]) from (H.sel' [0, 1, 2, 3, 4, 5, 6, 7] rfl rfl))) wn ?_
     rintro _ σ79 ⟨_, ⟨rfl, rfl⟩, H, -⟩
     replace H : Hp S0 σ0 σ79 [Ch.own 0 n0 (Sl a48 r45 c49) r45, Ch.own n0 n0 (Sl a25 r22 c26) r22, Ch.bx n0 b41 0 [(Sl a32 r29.1 c33), (Sl a36 r29.2 c37)] [] [], Ch.bx n0 b1 0 [(Sl aaB_0_0 aB_0.1 caB_0_0), (Sl aaB_0_1 aB_0.2 caB_0_1)] [] [], Ch.ro 0 (Sl aaB_0_0 aB_0.1 caB_0_0) aB_0.1, Ch.ro 0 (Sl aaB_0_1 aB_0.2 caB_0_1) aB_0.2] := H
     refine st (v := (I r76)) (rv_assign rfl) ?_
     refine w_end ?_
     refine q_then ?_
     refine c_seq ?_
     refine c_seq ?_
     obtain ⟨o80, hj, h'⟩ := bind_some h
     clear h
     refine c_cut (fun e a w => e = .normal ∧ ∃ (ρ : Nat → Value) (σ : St), a = fr 74 (updL ρ [(1, (I aCode_1)), (2, (pt b1 0)), (6, (Sl a25 r22 c26)), (8, (Sl a48 r45 c49)), (46, (B o80))]) ∧ w = σ.w ∧ Hp S0 σ0 σ [Ch.ro 0 (Sl aaB_0_0 aB_0.1 caB_0_0) aB_0.1, Ch.ro 0 (Sl aaB_0_1 aB_0.2 caB_0_1) aB_0.2, Ch.bx n0 b1 0 [(Sl aaB_0_0 aB_0.1 caB_0_0), (Sl aaB_0_1 aB_0.2 caB_0_1)] [] [], Ch.own n0 n0 (Sl a25 r22 c26) r22, Ch.own 0 n0 (Sl a48 r45 c49) r45]) ?_ ?_
     ·clear h'
      rename _ = some o80 => h
      refine rg ?_
      refine st (v := (I r76)) (rv_move rfl) ?_
      refine st (v := (B (decide (r76 < 0)))) (rv_lss (a := r76) (b := 0) rfl rfl) ?_
      refine st (v := (B (decide (r76 < 0)))) (rv_move rfl) ?_
      rcases Bool.eq_false_or_eq_true (decide (r76 < 0)) with hb81 | hb81
      ·replace h := bif_t hb81 h
       refine st_skip (congrArg some hb81) ?_
       refine st_skip (congrArg some hb81) ?_
       refine st_skip (congrArg some hb81) ?_
       refine st_skip (congrArg some hb81) ?_
       refine st (v := (B true)) (rv_pick_t (congrArg B hb81) rfl) ?_
       refine w_end ?_
       obtain rfl := Option.some.inj h
       exact ⟨rfl, _, σ79, fr_join ⟨rfl, rfl, rfl, rfl, rfl, trivial⟩, rfl, H.sel' [4, 5, 3, 1, 0] rfl rfl⟩
      ·replace h := bif_f hb81 h
       refine st_g (v := (Sl a48 r45 c49)) (congrArg some hb81) (rv_move rfl) ?_
       refine st_g (v := (Sl a25 r22 c26)) (congrArg some hb81) (rv_move rfl) ?_
       obtain ⟨r82, hx83, h'⟩ := bind_some h
       clear h
       have h := h'; clear h'
       have hc84 := c_laws_eqIntS (aa_0 := a48) (ca_0 := c49) (ab_1 := a25) (cb_1 := c26) hx83
       have hle := Nat.le_trans hn0 H.size
       refine st_call (cx_lend (Loan.lend (Loan.lend Loan.nil)) hc84 (ent_f hc84.fn rfl) (show Hp S0 σ0 _ ([Ch.own 0 n0 (Sl a48 r45 c49) r45, Ch.own n0 n0 (Sl a25 r22 c26) r22] ++ ([] ++ [Ch.bx n0 b41 0 [(Sl a32 r29.1 c33), (Sl a36 r29.2 c37)] [] [], Ch.bx n0 b1 0 [(Sl aaB_0_0 aB_0.1 caB_0_0), (Sl aaB_0_1 aB_0.2 caB_0_1)] [] [], Ch.ro 0 (Sl aaB_0_0 aB_0.1 caB_0_0) aB_0.1, Ch.ro 0 (Sl aaB_0_1 aB_0.2 caB_0_1) aB_0.2])) from (H.sel' [0, 1, 2, 3, 4, 5] rfl rfl)) (by rintro _ _ _ ⟨rfl, rfl⟩; exact trivial)) (wanted_yes rfl (by exact (congrArg some hb81))) ?_
       rintro _ σ85 ⟨_, ⟨rfl, rfl⟩, H, -, -⟩
       replace H : Hp S0 σ0 σ85 [Ch.own 0 n0 (Sl a48 r45 c49) r45, Ch.own n0 n0 (Sl a25 r22 c26) r22, Ch.bx n0 b41 0 [(Sl a32 r29.1 c33), (Sl a36 r29.2 c37)] [] [], Ch.bx n0 b1 0 [(Sl aaB_0_0 aB_0.1 caB_0_0), (Sl aaB_0_1 aB_0.2 caB_0_1)] [] [], Ch.ro 0 (Sl aaB_0_0 aB_0.1 caB_0_0) aB_0.1, Ch.ro 0 (Sl aaB_0_1 aB_0.2 caB_0_1) aB_0.2] := H
       clear hle
       replace H : Hp S0 σ0 σ85 [Ch.own 0 n0 (Sl a48 r45 c49) r45, Ch.own n0 n0 (Sl a25 r22 c26) r22, Ch.bx n0 b41 0 [(Sl a32 r29.1 c33), (Sl a36 r29.2 c37)] [] [], Ch.bx n0 b1 0 [(Sl aaB_0_0 aB_0.1 caB_0_0), (Sl aaB_0_1 aB_0.2 caB_0_1)] [] [], Ch.ro 0 (Sl aaB_0_0 aB_0.1 caB_0_0) aB_0.1, Ch.ro 0 (Sl aaB_0_1 aB_0.2 caB_0_1) aB_0.2] := H
       refine st_g (v := (B (!r82))) (congrArg some hb81) (rv_not rfl) ?_
       refine st (v := (B (!r82))) (rv_pick_f (congrArg B hb81) rfl) ?_
       refine w_end ?_
       obtain rfl := Option.some.inj h
       exact ⟨rfl, _, σ85, fr_join ⟨rfl, rfl, rfl, rfl, rfl, trivial⟩, rfl, H.sel' [4, 5, 3, 1, 0] rfl rfl⟩
     ·clear hj
      have h := h'
      clear h' H
      rintro e a w ⟨rfl, ρ, σ86, rfl, rfl, H⟩
      refine q_then ?_
      refine cd_cond o80 rfl (fun hb87 => ?_) (fun hb87 => ?_)
      ·replace h := bif_t hb87 h
       refine c_seq ?_
       refine rg ?_
       refine st (v := (B false)) (rv_assign rfl) ?_
       refine w_end ?_
       refine q_then ?_
       refine c_ret ?_
       refine q_then_r ?_
       obtain rfl := Option.some.inj h
       exact fin_ret (v := (B false)) (results_ok Try.results13 (res_tmp (v := (B false)) rfl res_nil) rfl) ⟨rfl, rfl⟩ (H.sel' [] rfl rfl)
      ·replace h := bif_f hb87 h
       refine c_skip ?_
       refine q_then ?_
       refine c_seq ?_
       refine rg ?_
       refine st (v := (I 1)) (rv_assign rfl) ?_
       refine w_end ?_
       refine q_then ?_
       refine c_seq ?_
       refine rg ?_
       refine st (v := (Sl a48 r45 c49)) (rv_move rfl) ?_
       refine st (v := (I 1)) (rv_move rfl) ?_
       replace H := H.ownLow 4 0 0 rfl (Nat.zero_le _) (Nat.zero_le _)
       obtain ⟨r88, hx89, h'⟩ := bind_some h
       clear h
       have h := h'; clear h'
       have hc90 := c_laws_markIntS (aa_0 := a48) (ca_0 := c49) hx89
       refine st_call (cx_call hc90 (ent_f hc90.fn rfl) hn0 (show Hp S0 σ0 _ ([Ch.own 0 0 (Sl a48 r45 c49) r45] ++ [Ch.ro 0 (Sl aaB_0_0 aB_0.1 caB_0_0) aB_0.1, Ch.ro 0 (Sl aaB_0_1 aB_0.2 caB_0_1) aB_0.2, Ch.bx n0 b1 0 [(Sl aaB_0_0 aB_0.1 caB_0_0), (Sl aaB_0_1 aB_0.2 caB_0_1)] [] [], Ch.own n0 n0 (Sl a25 r22 c26) r22]) from (H.sel' [0, 1, 2, 3, 4] rfl rfl))) wn ?_
       rintro _ σ92 ⟨_, ⟨rfl, rfl, hn91⟩, H, -⟩
       replace H : Hp S0 σ0 σ92 [Ch.own 0 0 (Sl a48 r88.2 c49) r88.2, Ch.ro 0 (Sl aaB_0_0 aB_0.1 caB_0_0) aB_0.1, Ch.ro 0 (Sl aaB_0_1 aB_0.2 caB_0_1) aB_0.2, Ch.bx n0 b1 0 [(Sl aaB_0_0 aB_0.1 caB_0_0), (Sl aaB_0_1 aB_0.2 caB_0_1)] [] [], Ch.own n0 n0 (Sl a25 r22 c26) r22] := H
       have hsl : (Sl a48 r45 c49) = (Sl a48 r88.2 c49) := sl_len hn91.symm
       try rw [hsl]
       try rw [hsl] at H
       clear hsl
       refine st (v := (I r88.1)) (rv_assign rfl) ?_
       refine w_end ?_
       refine q_then ?_
       refine c_seq ?_
       refine rg ?_
       refine st (v := (I 1)) (rv_assign rfl) ?_
       refine w_end ?_
       refine q_then ?_
       refine c_seq ?_
       refine rg ?_
       refine st (v := (Sl a48 r88.2 c49)) (rv_move rfl) ?_
       refine st (v := (I 1)) (rv_move rfl) ?_
       obtain ⟨r93, hx94, h'⟩ := bind_some h
       clear h
       have h := h'; clear h'
       have hc95 := c_laws_heldIntS (aa_0 := a48) (ca_0 := c49) hx94
       have hle := Nat.le_trans hn0 H.size
       refine st_call (cx_lend (Loan.lend Loan.nil) hc95 (ent_f hc95.fn rfl) (show Hp S0 σ0 _ ([Ch.own 0 0 (Sl a48 r88.2 c49) r88.2] ++ ([] ++ [Ch.ro 0 (Sl aaB_0_0 aB_0.1 caB_0_0) aB_0.1, Ch.ro 0 (Sl aaB_0_1 aB_0.2 caB_0_1) aB_0.2, Ch.bx n0 b1 0 [(Sl aaB_0_0 aB_0.1 caB_0_0), (Sl aaB_0_1 aB_0.2 caB_0_1)] [] [], Ch.own n0 n0 (Sl a25 r22 c26) r22])) from (H.sel' [0, 1, 2, 3, 4] rfl rfl)) (by rintro _ _ _ ⟨rfl, rfl⟩; exact trivial)) wn ?_
       rintro _ σ96 ⟨_, ⟨rfl, rfl⟩, H, -, -⟩
       replace H : Hp S0 σ0 σ96 [Ch.own 0 0 (Sl a48 r88.2 c49) r88.2, Ch.ro 0 (Sl aaB_0_0 aB_0.1 caB_0_0) aB_0.1, Ch.ro 0 (Sl aaB_0_1 aB_0.2 caB_0_1) aB_0.2, Ch.bx n0 b1 0 [(Sl aaB_0_0 aB_0.1 caB_0_0), (Sl aaB_0_1 aB_0.2 caB_0_1)] [] [], Ch.own n0 n0 (Sl a25 r22 c26) r22] := H
       clear hle
       replace H : Hp S0 σ0 σ96 [Ch.own 0 0 (Sl a48 r88.2 c49) r88.2, Ch.ro 0 (Sl aaB_0_0 aB_0.1 caB_0_0) aB_0.1, Ch.ro 0 (Sl aaB_0_1 aB_0.2 caB_0_1) aB_0.2, Ch.bx n0 b1 0 [(Sl aaB_0_0 aB_0.1 caB_0_0), (Sl aaB_0_1 aB_0.2 caB_0_1)] [] [], Ch.own n0 n0 (Sl a25 r22 c26) r22] := H
       refine st (v := (I r93)) (rv_assign rfl) ?_
       refine w_end ?_
       refine q_then ?_
       refine c_seq ?_
       refine c_seq ?_
       refine rg ?_
       refine st (v := (I r93)) (rv_move rfl) ?_
       refine st (v := (B (decide (r93 < 0)))) (rv_lss (a := r93) (b := 0) rfl rfl) ?_
       refine w_end ?_
       refine q_then ?_
       refine cd_cond (decide (r93 < 0)) rfl (fun hb97 => ?_) (fun hb97 => ?_)
       ·replace h := bif_t hb97 h
        refine c_seq ?_
        refine rg ?_
        refine st (v := (B false)) (rv_assign rfl) ?_
        refine w_end ?_
        refine q_then ?_
        refine c_ret ?_
        refine q_then_r ?_
        obtain rfl := Option.some.inj h
        exact fin_ret (v := (B false)) (results_ok Try.results13 (res_tmp (v := (B false)) rfl res_nil) rfl) ⟨rfl, rfl⟩ (H.sel' [] rfl rfl)
       ·replace h := bif_f hb97 h
        refine c_skip ?_
        refine q_then ?_
        refine c_seq ?_
        refine c_seq ?_
        refine rg ?_
        refine st (v := (I r93)) (rv_move rfl) ?_
        refine st (v := (I r88.1)) (rv_move rfl) ?_
        refine st (v := (B (r93 != r88.1))) (rv_neq (a := r93) (b := r88.1) rfl rfl) ?_
        refine w_end ?_
        refine q_then ?_
        refine cd_cond (r93 != r88.1) rfl (fun hb98 => ?_) (fun hb98 => ?_)
        ·replace h := bif_t hb98 h
         refine c_seq ?_
         refine rg ?_
         refine st (v := (B false)) (rv_assign rfl) ?_
         refine w_end ?_
         refine q_then ?_
         refine c_ret ?_
         refine q_then_r ?_
         obtain rfl := Option.some.inj h
         exact fin_ret (v := (B false)) (results_ok Try.results13 (res_tmp (v := (B false)) rfl res_nil) rfl) ⟨rfl, rfl⟩ (H.sel' [] rfl rfl)
        ·replace h := bif_f hb98 h
         refine c_skip ?_
         refine q_then ?_
         refine c_seq ?_
         refine rg ?_
         have hc99 := H.cells 3 rfl
         refine st (v := (.agg #[(Sl aaB_0_0 aB_0.1 caB_0_0), (Sl aaB_0_1 aB_0.2 caB_0_1)])) (rv_load (cs := [(Sl aaB_0_0 aB_0.1 caB_0_0), (Sl aaB_0_1 aB_0.2 caB_0_1)]) Try.underlying49 rfl ti49 rfl rfl hc99) ?_
         obtain ⟨r100, hx101, h'⟩ := bind_some h
         clear h
         have h := h'; clear h'
         have hc102 := c_laws_toBookD (aa_0_0 := aaB_0_0) (ca_0_0 := caB_0_0) (aa_0_1 := aaB_0_1) (ca_0_1 := caB_0_1) hx101
         refine st_call (cx_call hc102 (ent_f hc102.fn rfl) hn0 (show Hp S0 σ0 _ ([Ch.ro 0 (Sl aaB_0_0 aB_0.1 caB_0_0) aB_0.1, Ch.ro 0 (Sl aaB_0_1 aB_0.2 caB_0_1) aB_0.2] ++ [Ch.own 0 0 (Sl a48 r88.2 c49) r88.2, Ch.ro 0 (Sl aaB_0_0 aB_0.1 caB_0_0) aB_0.1, Ch.ro 0 (Sl aaB_0_1 aB_0.2 caB_0_1) aB_0.2, Ch.bx n0 b1 0 [(Sl aaB_0_0 aB_0.1 caB_0_0), (Sl aaB_0_1 aB_0.2 caB_0_1)] [] [], Ch.own n0 n0 (Sl a25 r22 c26) r22]) from (H.sel' [1, 2, 0, 1, 2, 3, 4] rfl rfl))) wn ?_
         rintro _ σ111 ⟨_, ⟨a103, c104, K105, a107, c108, K109, rfl, rfl, hK106, hK110⟩, H, -⟩
         replace H : Hp S0 σ0 σ111 [Ch.big K105, Ch.big K109, Ch.own 0 0 (Sl a48 r88.2 c49) r88.2, Ch.ro 0 (Sl aaB_0_0 aB_0.1 caB_0_0) aB_0.1, Ch.ro 0 (Sl aaB_0_1 aB_0.2 caB_0_1) aB_0.2, Ch.bx n0 b1 0 [(Sl aaB_0_0 aB_0.1 caB_0_0), (Sl aaB_0_1 aB_0.2 caB_0_1)] [] [], Ch.own n0 n0 (Sl a25 r22 c26) r22] := H
         refine st (v := (I aCode_1)) (rv_move rfl) ?_
         obtain ⟨r112, hx113, h'⟩ := bind_some h
         clear h
         have h := h'; clear h'
         have hc114 := c_impl_DecodeVector (ab_0_0 := a103) (cb_0_0 := c104) (ab_0_1 := a107) (cb_0_1 := c108) hx113
         have hle := Nat.le_trans hn0 H.size
         refine st_call (cx_lend (Loan.lendB hK106.lends (Loan.lendB hK110.lends Loan.nil)) hc114 (ent_f hc114.fn rfl) (show Hp S0 σ0 _ ([Ch.big K105, Ch.big K109] ++ ([] ++ [Ch.own 0 0 (Sl a48 r88.2 c49) r88.2, Ch.ro 0 (Sl aaB_0_0 aB_0.1 caB_0_0) aB_0.1, Ch.ro 0 (Sl aaB_0_1 aB_0.2 caB_0_1) aB_0.2, Ch.bx n0 b1 0 [(Sl aaB_0_0 aB_0.1 caB_0_0), (Sl aaB_0_1 aB_0.2 caB_0_1)] [] [], Ch.own n0 n0 (Sl a25 r22 c26) r22])) from (H.sel' [0, 1, 2, 3, 4, 5, 6] rfl rfl)) (by rintro _ _ _ ⟨_, _, rfl, rfl⟩; exact ⟨Ab.ownSc, trivial⟩)) wn ?_
         rintro _ σ117 ⟨_, ⟨a115, c116, rfl, rfl⟩, H, -, -⟩
         replace H : Hp S0 σ0 σ117 [Ch.own 0 σ111.size (Sl a115 r112 c116) r112, Ch.big K105, Ch.big K109, Ch.own 0 0 (Sl a48 r88.2 c49) r88.2, Ch.ro 0 (Sl aaB_0_0 aB_0.1 caB_0_0) aB_0.1, Ch.ro 0 (Sl aaB_0_1 aB_0.2 caB_0_1) aB_0.2, Ch.bx n0 b1 0 [(Sl aaB_0_0 aB_0.1 caB_0_0), (Sl aaB_0_1 aB_0.2 caB_0_1)] [] [], Ch.own n0 n0 (Sl a25 r22 c26) r22] := H
         replace H := H.ownLow 0 0 n0 rfl (Nat.le_refl _) hle
         clear hle
         replace H : Hp S0 σ0 σ117 [Ch.own 0 n0 (Sl a115 r112 c116) r112, Ch.big K105, Ch.big K109, Ch.own 0 0 (Sl a48 r88.2 c49) r88.2, Ch.ro 0 (Sl aaB_0_0 aB_0.1 caB_0_0) aB_0.1, Ch.ro 0 (Sl aaB_0_1 aB_0.2 caB_0_1) aB_0.2, Ch.bx n0 b1 0 [(Sl aaB_0_0 aB_0.1 caB_0_0), (Sl aaB_0_1 aB_0.2 caB_0_1)] [] [], Ch.own n0 n0 (Sl a25 r22 c26) r22] := H
         replace H : Hp S0 σ0 σ117 [Ch.own 0 n0 (Sl a115 r112 c116) r112, Ch.own 0 0 (Sl a48 r88.2 c49) r88.2, Ch.own n0 n0 (Sl a25 r22 c26) r22] := H.sel' [0, 3, 7] rfl rfl
         refine st (v := (Sl a115 r112 c116)) (rv_assign rfl) ?_
         refine w_end ?_
         refine q_then ?_
         refine c_seq ?_
         refine c_seq ?_
         refine rg ?_
         refine st (v := (Sl a115 r112 c116)) (rv_move rfl) ?_
         refine st (v := (Sl a25 r22 c26)) (rv_move rfl) ?_
         replace H := H.ownLow 0 0 0 rfl (Nat.le_refl _) (Nat.zero_le _)
         obtain ⟨σ118, hw119, H, -⟩ := H.pub 0 rfl (Nat.le_refl _)
         rw [← hw119]; clear hw119
         obtain ⟨σ120, hw121, H, -⟩ := H.pub 2 rfl (Nat.le_refl _)
         rw [← hw121]; clear hw121
         replace H := H.roLow 0 0 rfl (Nat.zero_le _)
         obtain ⟨r122, hx123, h'⟩ := bind_some h
         clear h
         have h := h'; clear h'
         have hc124 := c_laws_eqIntS (aa_0 := a115) (ca_0 := c116) (ab_1 := a25) (cb_1 := c26) hx123
         refine st_call (cx_call hc124 (ent_f hc124.fn rfl) hn0 (show Hp S0 σ0 _ ([Ch.ro 0 (Sl a115 r112 c116) r112, Ch.ro 0 (Sl a25 r22 c26) r22] ++ [Ch.ro 0 (Sl a25 r22 c26) r22, Ch.ro n0 (Sl a25 r22 c26) r22, Ch.ro 0 (Sl a115 r112 c116) r112, Ch.own 0 0 (Sl a48 r88.2 c49) r88.2]) from (H.sel' [2, 0, 0, 1, 2, 3] rfl rfl))) wn ?_
         rintro _ σ125 ⟨_, ⟨rfl, rfl⟩, H, -⟩
         replace H : Hp S0 σ0 σ125 [Ch.ro 0 (Sl a25 r22 c26) r22, Ch.ro n0 (Sl a25 r22 c26) r22, Ch.ro 0 (Sl a115 r112 c116) r112, Ch.own 0 0 (Sl a48 r88.2 c49) r88.2] := H
         refine st (v := (B (!r122))) (rv_not rfl) ?_
         refine w_end ?_
         refine q_then ?_
         refine cd_cond (!r122) rfl (fun hb126 => ?_) (fun hb126 => ?_)
         ·replace h := bif_t hb126 h
          refine c_seq ?_
          refine rg ?_
          refine st (v := (B false)) (rv_assign rfl) ?_
          refine w_end ?_
          refine q_then ?_
          refine c_ret ?_
          refine q_then_r ?_
          obtain rfl := Option.some.inj h
          exact fin_ret (v := (B false)) (results_ok Try.results13 (res_tmp (v := (B false)) rfl res_nil) rfl) ⟨rfl, rfl⟩ (H.sel' [] rfl rfl)
         ·replace h := bif_f hb126 h
          refine c_skip ?_
          refine q_then ?_
          refine c_seq ?_
          refine rg ?_
          refine st (v := (I 1)) (rv_assign rfl) ?_
          refine w_end ?_
          refine q_then ?_
          refine c_seq ?_
          refine rg ?_
          refine st (v := (Sl a48 r88.2 c49)) (rv_move rfl) ?_
          refine st (v := (I 1)) (rv_move rfl) ?_
          obtain ⟨σ127, hw128, H, -⟩ := H.pub 3 rfl (Nat.le_refl _)
          rw [← hw128]; clear hw128
          obtain ⟨r129, hx130, h'⟩ := bind_some h
          clear h
          have h := h'; clear h'
          have hc131 := c_laws_heldIntS (aa_0 := a48) (ca_0 := c49) hx130
          refine st_call (cx_call hc131 (ent_f hc131.fn rfl) hn0 (show Hp S0 σ0 _ ([Ch.ro 0 (Sl a48 r88.2 c49) r88.2] ++ [Ch.ro 0 (Sl a48 r88.2 c49) r88.2, Ch.ro 0 (Sl a25 r22 c26) r22, Ch.ro n0 (Sl a25 r22 c26) r22, Ch.ro 0 (Sl a115 r112 c116) r112]) from (H.sel' [0, 0, 1, 2, 3] rfl rfl))) wn ?_
          rintro _ σ132 ⟨_, ⟨rfl, rfl⟩, H, -⟩
          replace H : Hp S0 σ0 σ132 [Ch.ro 0 (Sl a48 r88.2 c49) r88.2, Ch.ro 0 (Sl a25 r22 c26) r22, Ch.ro n0 (Sl a25 r22 c26) r22, Ch.ro 0 (Sl a115 r112 c116) r112] := H
          refine st (v := (I r129)) (rv_assign rfl) ?_
          refine w_end ?_
          refine q_then ?_
          refine c_seq ?_
          refine c_seq ?_
          refine rg ?_
          refine st (v := (I r129)) (rv_move rfl) ?_
          refine st (v := (B (decide (r129 < 0)))) (rv_lss (a := r129) (b := 0) rfl rfl) ?_
          refine w_end ?_
          refine q_then ?_
          refine cd_cond (decide (r129 < 0)) rfl (fun hb133 => ?_) (fun hb133 => ?_)
          ·replace h := bif_t hb133 h
           refine c_seq ?_
           refine rg ?_
           refine st (v := (B false)) (rv_assign rfl) ?_
           refine w_end ?_
           refine q_then ?_
           refine c_ret ?_
           refine q_then_r ?_
           obtain rfl := Option.some.inj h
           exact fin_ret (v := (B false)) (results_ok Try.results13 (res_tmp (v := (B false)) rfl res_nil) rfl) ⟨rfl, rfl⟩ (H.sel' [] rfl rfl)
          ·replace h := bif_f hb133 h
           refine c_skip ?_
           refine q_then ?_
           refine c_seq ?_
           refine c_seq ?_
           refine rg ?_
           refine st (v := (I r129)) (rv_move rfl) ?_
           refine st (v := (I r88.1)) (rv_move rfl) ?_
           refine st (v := (B (r129 != r88.1))) (rv_neq (a := r129) (b := r88.1) rfl rfl) ?_
           refine w_end ?_
           refine q_then ?_
           refine cd_cond (r129 != r88.1) rfl (fun hb134 => ?_) (fun hb134 => ?_)
           ·replace h := bif_t hb134 h
            refine c_seq ?_
            refine rg ?_
            refine st (v := (B false)) (rv_assign rfl) ?_
            refine w_end ?_
            refine q_then ?_
            refine c_ret ?_
            refine q_then_r ?_
            obtain rfl := Option.some.inj h
            exact fin_ret (v := (B false)) (results_ok Try.results13 (res_tmp (v := (B false)) rfl res_nil) rfl) ⟨rfl, rfl⟩ (H.sel' [] rfl rfl)
           ·replace h := bif_f hb134 h
            refine c_skip ?_
            refine q_then ?_
            refine c_seq ?_
            refine rg ?_
            refine st (v := (B true)) (rv_assign rfl) ?_
            refine w_end ?_
            refine q_then ?_
            refine c_ret ?_
            obtain rfl := Option.some.inj h
            exact fin_ret (v := (B true)) (results_ok Try.results13 (res_tmp (v := (B true)) rfl res_nil) rfl) ⟨rfl, rfl⟩ (H.sel' [] rfl rfl)

end Go.Vs
