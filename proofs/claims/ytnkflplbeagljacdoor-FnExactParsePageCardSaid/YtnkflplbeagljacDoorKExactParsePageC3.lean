/- The functions compute what their models say. -/
import Derived.Test.YtnkflplbeagljacDoorKExactParsePageC2
set_option linter.unusedVariables false
set_option linter.unusedSimpArgs false
set_option maxRecDepth 20000
namespace Go.Vs
open Go Go.Proofs
attribute [local irreducible] Code.wp Code.wpIn wpList wpListIn wpQuiet Calls CallsIn

theorem c_laws_heldItemS {a_0 : List (Int × (List Int) × Int)} {k_1 : Int} {aa_0 : Option Addr} {ca_0 : Nat} {r : Int} (h : M.laws_heldItemS a_0 k_1 = some r) :
    Cal2 Tryd.prog 18 [(Sl aa_0 a_0 ca_0), (I k_1)] [Ch.ro 0 (Sl aa_0 a_0 ca_0) a_0] (fun n0 v L => v = (I r) ∧ L = []) := by
 refine cal2 (n := 40) Tryd.func18 rfl rfl rfl rfl ?_
 intro S0 σ0 n0 hn0 H
 unfold M.laws_heldItemS at h
 refine c_seq ?_
 refine rg ?_
 refine st (v := (I 0)) (rv_assign rfl) ?_
 refine w_end ?_
 refine q_then ?_
 refine c_seq ?_
 refine c_seq ?_
 refine rg ?_
 refine st (v := (I 0)) (rv_assign rfl) ?_
 refine w_end ?_
 refine q_then ?_
 obtain ⟨o1, hj, h'⟩ := bind_some h
 clear h
 refine c_cut (fun e a w => (∃ t, o1 = (.inl t) ∧ e = .normal ∧ ∃ (ρ : Nat → Value) (σ : St), a = fr 40 (updL ρ [(1, (I t))]) ∧ w = σ.w ∧ Hp S0 σ0 σ []) ∨ (∃ t, o1 = (.inr t) ∧ e = .ret ∧ ∃ (ρ : Nat → Value) (σ : St), a = fr 40 (updL ρ [(4, (I t))]) ∧ w = σ.w ∧ Hp S0 σ0 σ [])) ?_ ?_
 ·clear h'
  rename _ = some o1 => h
  refine c_blk ?_
  refine wp_loopM _ h (fun s2 a w => ∃ (ρ : Nat → Value) (σ : St), a = fr 40 (updL ρ [(0, (Sl aa_0 a_0 ca_0)), (1, (I s2.1)), (5, (I s2.2))]) ∧ w = σ.w ∧ Hp S0 σ0 σ [Ch.ro 0 (Sl aa_0 a_0 ca_0) a_0]) ⟨_, σ0, fr_join ⟨rfl, rfl, rfl, trivial⟩, rfl, H.sel' [0] rfl rfl⟩ ?_
  clear h H
  rintro s2 a w o ⟨ρ, σ3, rfl, rfl, H⟩ h hres
  refine c_seq ?_
  refine c_seq ?_
  refine rg ?_
  refine st (v := (I s2.2)) (rv_move rfl) ?_
  refine st (v := (Sl aa_0 a_0 ca_0)) (rv_move rfl) ?_
  refine st (v := (I (a_0.length : Int))) (rv_len Tryd.underlying23 rfl) ?_
  refine st (v := (B (decide (s2.2 < (a_0.length : Int))))) (rv_lss (a := s2.2) (b := (a_0.length : Int)) rfl rfl) ?_
  refine w_end ?_
  refine q_then ?_
  refine cd_cond (decide (s2.2 < (a_0.length : Int))) rfl (fun hb4 => ?_) (fun hb4 => ?_)
  ·replace h := bif_t hb4 h
   refine c_skip ?_
   refine q_then ?_
   refine c_seq ?_
   refine c_blk ?_
   refine c_seq ?_
   refine c_seq ?_
   refine rg ?_
   refine st (v := (Sl aa_0 a_0 ca_0)) (rv_move rfl) ?_
   refine st (v := (I s2.2)) (rv_move rfl) ?_
   obtain ⟨x5, hx6, h'⟩ := bind_some h
   clear h
   have h := h'; clear h'
   obtain ⟨b8, o9, hi7, -⟩ := (H.ro 0 rfl).ix hx6
   refine st (v := (pt b8 o9)) (rv_ix Tryd.underlying23 ti41 rfl rfl hi7) ?_
   refine st (v := (pt b8 (o9 + 0))) (rv_fieldAddr (off := 0) (ft := 3) Tryd.underlying41 rfl ti3 rfl rfl) ?_
   have hc10 := ((H.ro 0 rfl).at hx6 hi7).fst.int
   refine st (v := (I x5.1)) (rv_load1 Tryd.underlying3 rfl rfl hc10) ?_
   refine st (v := (I s2.1)) (rv_move rfl) ?_
   refine st (v := (B (x5.1 != s2.1))) (rv_neq (a := x5.1) (b := s2.1) rfl rfl) ?_
   refine w_end ?_
   refine q_then ?_
   refine cd_cond (x5.1 != s2.1) rfl (fun hb11 => ?_) (fun hb11 => ?_)
   ·replace h := bif_t hb11 h
    refine c_seq ?_
    refine rg ?_
    refine st (v := (I (-1))) (rv_assign rfl) ?_
    refine w_end ?_
    refine q_then ?_
    refine c_ret ?_
    refine q_then_r ?_
    refine q_blk_r ?_
    refine q_then_r ?_
    refine q_then_r ?_
    refine q_blk_r ?_
    obtain rfl := Option.some.inj h
    obtain rfl := hres _ rfl
    exact .inr (⟨_, rfl, rfl, _, σ3, fr_join ⟨rfl, trivial⟩, rfl, H.sel' [] rfl rfl⟩)
   ·replace h := bif_f hb11 h
    refine c_skip ?_
    refine q_then ?_
    refine c_seq ?_
    refine rg ?_
    refine st (v := (I s2.1)) (rv_move rfl) ?_
    refine st (v := (I (w64 (s2.1 + 1)))) (rv_add (a := s2.1) (b := 1) rfl rfl) ?_
    refine st (v := (I (w64 (s2.1 + 1)))) (rv_assign rfl) ?_
    refine w_end ?_
    refine q_then ?_
    refine c_seq ?_
    refine rg ?_
    refine st (v := (Sl aa_0 a_0 ca_0)) (rv_move rfl) ?_
    refine st (v := (I s2.2)) (rv_move rfl) ?_
    obtain ⟨x12, hx13, h'⟩ := bind_some h
    clear h
    have h := h'; clear h'
    obtain ⟨b15, o16, hi14, -⟩ := (H.ro 0 rfl).ix hx13
    refine st (v := (pt b15 o16)) (rv_ix Tryd.underlying23 ti41 rfl rfl hi14) ?_
    refine st (v := (pt b15 (o16 + 1))) (rv_fieldAddr (off := 1) (ft := 39) Tryd.underlying41 rfl ti39 rfl rfl) ?_
    obtain ⟨v20, hc21, hR19⟩ := ((H.ro 0 rfl).at hx13 hi14).snd.fst.slice
    obtain ⟨a17, c18, rfl⟩ := hR19.isSl
    replace H := H.add (d := Ch.ro 0 (Sl a17 x12.2.1 c18) x12.2.1) hR19 (fun _ h => h)
    clear hR19
    refine st (v := (Sl a17 x12.2.1 c18)) (rv_load1 Tryd.underlying39 rfl rfl hc21) ?_
    refine st (v := (I (w64 (s2.1 + 1)))) (rv_move rfl) ?_
    obtain ⟨r22, hx23, h'⟩ := bind_some h
    clear h
    have h := h'; clear h'
    have hc24 := c_laws_heldIntS (aa_0 := a17) (ca_0 := c18) hx23
    refine st_call (cx_call hc24 (ent_f hc24.fn rfl) hn0 (show Hp S0 σ0 _ ([Ch.ro 0 (Sl a17 x12.2.1 c18) x12.2.1] ++ [Ch.ro 0 (Sl a17 x12.2.1 c18) x12.2.1, Ch.ro 0 (Sl aa_0 a_0 ca_0) a_0]) from (H.sel' [0, 0, 1] rfl rfl))) wn ?_
    rintro _ σ25 ⟨_, ⟨rfl, rfl⟩, H, -⟩
    replace H : Hp S0 σ0 σ25 [Ch.ro 0 (Sl a17 x12.2.1 c18) x12.2.1, Ch.ro 0 (Sl aa_0 a_0 ca_0) a_0] := H
    refine st (v := (I r22)) (rv_assign rfl) ?_
    refine w_end ?_
    refine q_then ?_
    refine c_seq ?_
    refine c_seq ?_
    refine rg ?_
    refine st (v := (I r22)) (rv_move rfl) ?_
    refine st (v := (B (decide (r22 < 0)))) (rv_lss (a := r22) (b := 0) rfl rfl) ?_
    refine w_end ?_
    refine q_then ?_
    refine cd_cond (decide (r22 < 0)) rfl (fun hb26 => ?_) (fun hb26 => ?_)
    ·replace h := bif_t hb26 h
     refine c_seq ?_
     refine rg ?_
     refine st (v := (I (-1))) (rv_assign rfl) ?_
     refine w_end ?_
     refine q_then ?_
     refine c_ret ?_
     refine q_then_r ?_
     refine q_blk_r ?_
     refine q_then_r ?_
     refine q_then_r ?_
     refine q_blk_r ?_
     obtain rfl := Option.some.inj h
     obtain rfl := hres _ rfl
     exact .inr (⟨_, rfl, rfl, _, σ25, fr_join ⟨rfl, trivial⟩, rfl, H.sel' [] rfl rfl⟩)
    ·replace h := bif_f hb26 h
     refine c_skip ?_
     refine q_then ?_
     refine c_seq ?_
     refine c_seq ?_
     refine rg ?_
     refine st (v := (Sl aa_0 a_0 ca_0)) (rv_move rfl) ?_
     refine st (v := (I s2.2)) (rv_move rfl) ?_
     obtain ⟨x27, hx28, h'⟩ := bind_some h
     clear h
     have h := h'; clear h'
     obtain ⟨b30, o31, hi29, -⟩ := (H.ro 1 rfl).ix hx28
     refine st (v := (pt b30 o31)) (rv_ix Tryd.underlying23 ti41 rfl rfl hi29) ?_
     refine st (v := (pt b30 (o31 + 2))) (rv_fieldAddr (off := 2) (ft := 3) Tryd.underlying41 rfl ti3 rfl rfl) ?_
     have hc32 := ((H.ro 1 rfl).at hx28 hi29).snd.snd.int
     refine st (v := (I x27.2.2)) (rv_load1 Tryd.underlying3 rfl rfl hc32) ?_
     refine st (v := (I r22)) (rv_move rfl) ?_
     refine st (v := (B (x27.2.2 != r22))) (rv_neq (a := x27.2.2) (b := r22) rfl rfl) ?_
     refine w_end ?_
     refine q_then ?_
     refine cd_cond (x27.2.2 != r22) rfl (fun hb33 => ?_) (fun hb33 => ?_)
     ·replace h := bif_t hb33 h
      refine c_seq ?_
      refine rg ?_
      refine st (v := (I (-1))) (rv_assign rfl) ?_
      refine w_end ?_
      refine q_then ?_
      refine c_ret ?_
      refine q_then_r ?_
      refine q_blk_r ?_
      refine q_then_r ?_
      refine q_then_r ?_
      refine q_blk_r ?_
      obtain rfl := Option.some.inj h
      obtain rfl := hres _ rfl
      exact .inr (⟨_, rfl, rfl, _, σ25, fr_join ⟨rfl, trivial⟩, rfl, H.sel' [] rfl rfl⟩)
     ·replace h := bif_f hb33 h
      refine c_skip ?_
      refine q_then ?_
      refine rg ?_
      refine st (v := (I r22)) (rv_move rfl) ?_
      refine st (v := (I (w64 (r22 + 1)))) (rv_add (a := r22) (b := 1) rfl rfl) ?_
      refine st (v := (I (w64 (r22 + 1)))) (rv_assign rfl) ?_
      refine w_end ?_
      refine q_blk ?_
      refine q_then ?_
      refine rg ?_
      refine st (v := (I s2.2)) (rv_move rfl) ?_
      refine st (v := (I (w64 (s2.2 + 1)))) (rv_add (a := s2.2) (b := 1) rfl rfl) ?_
      refine st (v := (I (w64 (s2.2 + 1)))) (rv_assign rfl) ?_
      refine w_end ?_
      refine q_then ?_
      obtain rfl := Option.some.inj h
      exact ⟨_, rfl, _, σ25, fr_join ⟨rfl, rfl, rfl, trivial⟩, rfl, H.sel' [1] rfl rfl⟩
  ·replace h := bif_f hb4 h
   refine c_exit ?_
   refine q_then_x ?_
   refine q_then_x ?_
   refine q_blk_hit ?_
   obtain rfl := Option.some.inj h
   obtain rfl := hres _ rfl
   exact .inl ⟨_, rfl, rfl, _, σ3, fr_join ⟨rfl, trivial⟩, rfl, H.sel' [] rfl rfl⟩
 ·clear hj
  have h := h'
  clear h' H
  rintro e a w (⟨t34, rfl, rfl, ρ, σ35, rfl, rfl, H⟩ | ⟨t36, rfl, rfl, ρ, σ37, rfl, rfl, H⟩)
  ·replace h := selim_l h
   refine q_then ?_
   refine c_seq ?_
   refine rg ?_
   refine st (v := (I t34)) (rv_move rfl) ?_
   refine st (v := (I t34)) (rv_assign rfl) ?_
   refine w_end ?_
   refine q_then ?_
   refine c_ret ?_
   obtain rfl := Option.some.inj h
   exact fin_ret (v := (I t34)) (results_ok Tryd.results18 (res_tmp (v := (I t34)) rfl res_nil) rfl) ⟨rfl, rfl⟩ (H.sel' [] rfl rfl)
  ·replace h := selim_r h
   refine q_then_r ?_
   obtain rfl := Option.some.inj h
   exact fin_ret (v := (I t36)) (results_ok Tryd.results18 (res_tmp (v := (I t36)) rfl res_nil) rfl) ⟨rfl, rfl⟩ (H.sel' [] rfl rfl)

theorem c_laws_FnExactParsePage {aB_0 : List UInt8} {aaB_0 : Option Addr} {caB_0 : Nat} {ga : Nat → Addr} {r : Bool} (h : M.laws_FnExactParsePage aB_0 = some r) :
    Cal2 Tryd.prog 5 [(Sl aaB_0 aB_0 caB_0)] [Ch.ro 0 (Sl aaB_0 aB_0 caB_0) aB_0, Ch.gl 72 ga [1, 2, 0]] (fun n0 v L => v = (B r) ∧ L = []) := by
 refine cal2 (n := 93) Tryd.func5 rfl rfl rfl rfl ?_
 intro S0 σ0 n0 hn0 H
 unfold M.laws_FnExactParsePage at h
 refine c_seq ?_
 refine rg ?_
 refine st (v := (B false)) (rv_assign rfl) ?_
 refine w_end ?_
 refine q_then ?_
 refine c_seq ?_
 refine c_seq ?_
 refine rg ?_
 refine st (v := (Sl aaB_0 aB_0 caB_0)) (rv_move rfl) ?_
 refine st (v := (I (aB_0.length : Int))) (rv_len Tryd.underlying22 rfl) ?_
 refine st (v := (B (decide (1048576 < (aB_0.length : Int))))) (rv_gtr (a := (aB_0.length : Int)) (b := 1048576) rfl rfl) ?_
 refine w_end ?_
 refine q_then ?_
 refine cd_cond (decide (1048576 < (aB_0.length : Int))) rfl (fun hb1 => ?_) (fun hb1 => ?_)
 ·replace h := bif_t hb1 h
  refine c_seq ?_
  refine rg ?_
  refine st (v := (B true)) (rv_assign rfl) ?_
  refine w_end ?_
  refine q_then ?_
  refine c_ret ?_
  refine q_then_r ?_
  obtain rfl := Option.some.inj h
  exact fin_ret (v := (B true)) (results_ok Tryd.results5 (res_tmp (v := (B true)) rfl res_nil) rfl) ⟨rfl, rfl⟩ (H.sel' [] rfl rfl)
 ·replace h := bif_f hb1 h
  refine c_skip ?_
  refine q_then ?_
  refine c_seq ?_
  refine rg ?_
  refine st (v := (Sl aaB_0 aB_0 caB_0)) (rv_move rfl) ?_
  obtain ⟨r2, hx3, h'⟩ := bind_some h
  clear h
  have h := h'; clear h'
  have hc4 := c_laws_toByteS (aa_0 := aaB_0) (ca_0 := caB_0) hx3
  refine st_call (cx_call hc4 (ent_f hc4.fn rfl) hn0 (show Hp S0 σ0 _ ([Ch.ro 0 (Sl aaB_0 aB_0 caB_0) aB_0] ++ [Ch.ro 0 (Sl aaB_0 aB_0 caB_0) aB_0, Ch.gl 72 ga [1, 2, 0]]) from (H.sel' [0, 0, 1] rfl rfl))) wn ?_
  rintro _ σ8 ⟨_, ⟨a5, c6, rfl, rfl, ht7⟩, H, -⟩
  replace H : Hp S0 σ0 σ8 [Ch.own n0 n0 (Sl a5 r2 c6) r2, Ch.ro 0 (Sl aaB_0 aB_0 caB_0) aB_0, Ch.gl 72 ga [1, 2, 0]] := H
  obtain ⟨σ9, hw10, H, -⟩ := H.pub 0 rfl (Nat.le_refl _)
  rw [← hw10]; clear hw10
  replace H := H.roLow 0 0 rfl (Nat.zero_le _)
  obtain ⟨r11, hx12, h'⟩ := bind_some h
  clear h
  have h := h'; clear h'
  have hc13 := c_spec_ParsePage (ab_0 := a5) (cb_0 := c6) hx12
  refine st_call (cx_call hc13 (ent_f hc13.fn rfl) hn0 (show Hp S0 σ0 _ ([Ch.ro 0 (Sl a5 r2 c6) r2] ++ [Ch.ro 0 (Sl a5 r2 c6) r2, Ch.ro n0 (Sl a5 r2 c6) r2, Ch.ro 0 (Sl aaB_0 aB_0 caB_0) aB_0, Ch.gl 72 ga [1, 2, 0]]) from (H.sel' [0, 0, 1, 2, 3] rfl rfl))) wn ?_
  rintro _ σ16 ⟨_, ⟨a14, c15, rfl, rfl⟩, H, -⟩
  replace H : Hp S0 σ0 σ16 [Ch.own n0 n0 (Sl a14 r11.1 c15) r11.1, Ch.ro 0 (Sl a5 r2 c6) r2, Ch.ro n0 (Sl a5 r2 c6) r2, Ch.ro 0 (Sl aaB_0 aB_0 caB_0) aB_0, Ch.gl 72 ga [1, 2, 0]] := H
  refine st (v := (.tuple #[(Sl a14 r11.1 c15), (B r11.2)])) (rv_move rfl) ?_
  refine st (v := (Sl a14 r11.1 c15)) (rv_extract rfl rfl) ?_
  refine st (v := (B r11.2)) (rv_extract rfl rfl) ?_
  refine st (v := (Sl a14 r11.1 c15)) (rv_assign rfl) ?_
  refine st (v := (B r11.2)) (rv_assign rfl) ?_
  refine w_end ?_
  refine q_then ?_
  refine c_seq ?_
  refine rg ?_
  refine st (v := (Sl aaB_0 aB_0 caB_0)) (rv_move rfl) ?_
  obtain ⟨r17, hx18, h'⟩ := bind_some h
  clear h
  have h := h'; clear h'
  have hc19 := c_laws_toByteS (aa_0 := aaB_0) (ca_0 := caB_0) hx18
  refine st_call (cx_call hc19 (ent_f hc19.fn rfl) hn0 (show Hp S0 σ0 _ ([Ch.ro 0 (Sl aaB_0 aB_0 caB_0) aB_0] ++ [Ch.own n0 n0 (Sl a14 r11.1 c15) r11.1, Ch.ro 0 (Sl a5 r2 c6) r2, Ch.ro n0 (Sl a5 r2 c6) r2, Ch.ro 0 (Sl aaB_0 aB_0 caB_0) aB_0, Ch.gl 72 ga [1, 2, 0]]) from (H.sel' [3, 0, 1, 2, 3, 4] rfl rfl))) wn ?_
  rintro _ σ23 ⟨_, ⟨a20, c21, rfl, rfl, ht22⟩, H, -⟩
  replace H : Hp S0 σ0 σ23 [Ch.own n0 n0 (Sl a20 r17 c21) r17, Ch.own n0 n0 (Sl a14 r11.1 c15) r11.1, Ch.ro 0 (Sl a5 r2 c6) r2, Ch.ro n0 (Sl a5 r2 c6) r2, Ch.ro 0 (Sl aaB_0 aB_0 caB_0) aB_0, Ch.gl 72 ga [1, 2, 0]] := H
  refine st (v := (Sl a20 r17 c21)) (rv_assign rfl) ?_
  refine w_end ?_
  refine q_then ?_
  refine c_seq ?_
  refine rg ?_
  refine st (v := (Sl a20 r17 c21)) (rv_move rfl) ?_
  obtain ⟨r24, hx25, h'⟩ := bind_some h
  clear h
  have h := h'; clear h'
  have hc26 := c_impl_ParsePage (ab_0 := a20) (cb_0 := c21) (ga := ga) hx25
  have hle := Nat.le_trans hn0 H.size
  refine st_call (cx_lend (Loan.lend (Loan.same Loan.nil)) hc26 (ent_f hc26.fn rfl) (show Hp S0 σ0 _ ([Ch.own n0 n0 (Sl a20 r17 c21) r17] ++ ([Ch.gl 72 ga [1, 2, 0]] ++ [Ch.own n0 n0 (Sl a14 r11.1 c15) r11.1, Ch.ro 0 (Sl a5 r2 c6) r2, Ch.ro n0 (Sl a5 r2 c6) r2, Ch.ro 0 (Sl aaB_0 aB_0 caB_0) aB_0, Ch.gl 72 ga [1, 2, 0]])) from (H.sel' [0, 5, 1, 2, 3, 4, 5] rfl rfl)) (by rintro _ _ _ ⟨_, _, _, rfl, rfl, hK30⟩; exact ⟨Dp.abSc hK30, trivial⟩)) wn ?_
  rintro _ σ31 ⟨_, ⟨a27, c28, K29, rfl, rfl, hK30⟩, H, -, -⟩
  replace H : Hp S0 σ0 σ31 [Ch.big K29, Ch.own n0 n0 (Sl a20 r17 c21) r17, Ch.own n0 n0 (Sl a14 r11.1 c15) r11.1, Ch.ro 0 (Sl a5 r2 c6) r2, Ch.ro n0 (Sl a5 r2 c6) r2, Ch.ro 0 (Sl aaB_0 aB_0 caB_0) aB_0, Ch.gl 72 ga [1, 2, 0]] := H
  clear hle
  replace H : Hp S0 σ0 σ31 [Ch.big K29, Ch.own n0 n0 (Sl a20 r17 c21) r17, Ch.own n0 n0 (Sl a14 r11.1 c15) r11.1, Ch.ro 0 (Sl a5 r2 c6) r2, Ch.ro n0 (Sl a5 r2 c6) r2, Ch.ro 0 (Sl aaB_0 aB_0 caB_0) aB_0, Ch.gl 72 ga [1, 2, 0]] := H
  refine st (v := (.tuple #[(Sl a27 r24.1 c28), (B r24.2)])) (rv_move rfl) ?_
  refine st (v := (Sl a27 r24.1 c28)) (rv_extract rfl rfl) ?_
  refine st (v := (B r24.2)) (rv_extract rfl rfl) ?_
  refine st (v := (Sl a27 r24.1 c28)) (rv_assign rfl) ?_
  refine st (v := (B r24.2)) (rv_assign rfl) ?_
  refine w_end ?_
  refine q_then ?_
  refine c_seq ?_
  refine c_seq ?_
  obtain ⟨o32, hj, h'⟩ := bind_some h
  clear h
  refine c_cut (fun e a w => e = .normal ∧ ∃ (ρ : Nat → Value) (σ : St), a = fr 93 (updL ρ [(0, (Sl aaB_0 aB_0 caB_0)), (3, (Sl a14 r11.1 c15)), (4, (B r11.2)), (5, (Sl a20 r17 c21)), (6, (Sl a27 r24.1 c28)), (7, (B r24.2)), (37, (B o32))]) ∧ w = σ.w ∧ Hp S0 σ0 σ [Ch.ro 0 (Sl aaB_0 aB_0 caB_0) aB_0, Ch.own n0 n0 (Sl a14 r11.1 c15) r11.1, Ch.own n0 n0 (Sl a20 r17 c21) r17, Ch.big K29, Ch.gl 72 ga [1, 2, 0]]) ?_ ?_
  ·clear h'
   rename _ = some o32 => h
   refine rg ?_
   refine st (v := (Sl a27 r24.1 c28)) (rv_move rfl) ?_
   refine st (v := (Sl a14 r11.1 c15)) (rv_move rfl) ?_
   obtain ⟨r33, hx34, h'⟩ := bind_some h
   clear h
   have h := h'; clear h'
   have hc35 := c_laws_eqItemS (aa_0 := a27) (ca_0 := c28) (ab_1 := a14) (cb_1 := c15) hx34
   have hle := Nat.le_trans hn0 H.size
   refine st_call (cx_lend (Loan.lendB hK30.lends (Loan.lend Loan.nil)) hc35 (ent_f hc35.fn rfl) (show Hp S0 σ0 _ ([Ch.big K29, Ch.own n0 n0 (Sl a14 r11.1 c15) r11.1] ++ ([] ++ [Ch.own n0 n0 (Sl a20 r17 c21) r17, Ch.ro 0 (Sl a5 r2 c6) r2, Ch.ro n0 (Sl a5 r2 c6) r2, Ch.ro 0 (Sl aaB_0 aB_0 caB_0) aB_0, Ch.gl 72 ga [1, 2, 0]])) from (H.sel' [0, 2, 1, 3, 4, 5, 6] rfl rfl)) (by rintro _ _ _ ⟨rfl, rfl⟩; exact trivial)) wn ?_
   rintro _ σ36 ⟨_, ⟨rfl, rfl⟩, H, -, -⟩
   replace H : Hp S0 σ0 σ36 [Ch.big K29, Ch.own n0 n0 (Sl a14 r11.1 c15) r11.1, Ch.own n0 n0 (Sl a20 r17 c21) r17, Ch.ro 0 (Sl a5 r2 c6) r2, Ch.ro n0 (Sl a5 r2 c6) r2, Ch.ro 0 (Sl aaB_0 aB_0 caB_0) aB_0, Ch.gl 72 ga [1, 2, 0]] := H
   clear hle
   replace H : Hp S0 σ0 σ36 [Ch.big K29, Ch.own n0 n0 (Sl a14 r11.1 c15) r11.1, Ch.own n0 n0 (Sl a20 r17 c21) r17, Ch.ro 0 (Sl a5 r2 c6) r2, Ch.ro n0 (Sl a5 r2 c6) r2, Ch.ro 0 (Sl aaB_0 aB_0 caB_0) aB_0, Ch.gl 72 ga [1, 2, 0]] := H
   refine st (v := (B (!r33))) (rv_not rfl) ?_
   refine st (v := (B (!r33))) (rv_move rfl) ?_
   rcases Bool.eq_false_or_eq_true (!r33) with hb37 | hb37
   ·replace h := bif_t hb37 h
    refine st_skip (congrArg some hb37) ?_
    refine st_skip (congrArg some hb37) ?_
    refine st_skip (congrArg some hb37) ?_
    refine st (v := (B true)) (rv_pick_t (congrArg B hb37) rfl) ?_
    refine w_end ?_
    obtain rfl := Option.some.inj h
    exact ⟨rfl, _, σ36, fr_join ⟨rfl, rfl, rfl, rfl, rfl, rfl, rfl, trivial⟩, rfl, H.sel' [5, 1, 2, 0, 6] rfl rfl⟩
   ·replace h := bif_f hb37 h
    refine st_g (v := (B r24.2)) (congrArg some hb37) (rv_move rfl) ?_
    refine st_g (v := (B r11.2)) (congrArg some hb37) (rv_move rfl) ?_
    refine st_g (v := (B (r24.2 != r11.2))) (congrArg some hb37) (rv_bneq Tryd.underlying4 rfl rfl) ?_
    refine st (v := (B (r24.2 != r11.2))) (rv_pick_f (congrArg B hb37) rfl) ?_
    refine w_end ?_
    obtain rfl := Option.some.inj h
    exact ⟨rfl, _, σ36, fr_join ⟨rfl, rfl, rfl, rfl, rfl, rfl, rfl, trivial⟩, rfl, H.sel' [5, 1, 2, 0, 6] rfl rfl⟩
  ·clear hj
   have h := h'
   clear h' H
   rintro e a w ⟨rfl, ρ, σ38, rfl, rfl, H⟩
   refine q_then ?_
   refine cd_cond o32 rfl (fun hb39 => ?_) (fun hb39 => ?_)
   ·replace h := bif_t hb39 h
    refine c_seq ?_
    refine rg ?_
    refine st (v := (B false)) (rv_assign rfl) ?_
    refine w_end ?_
    refine q_then ?_
    refine c_ret ?_
    refine q_then_r ?_
    obtain rfl := Option.some.inj h
    exact fin_ret (v := (B false)) (results_ok Tryd.results5 (res_tmp (v := (B false)) rfl res_nil) rfl) ⟨rfl, rfl⟩ (H.sel' [] rfl rfl)
   ·replace h := bif_f hb39 h
    refine c_skip ?_
    refine q_then ?_
    refine c_seq ?_
    refine c_seq ?_
    refine rg ?_
    refine st (v := (Sl a20 r17 c21)) (rv_move rfl) ?_
    refine st (v := (Sl aaB_0 aB_0 caB_0)) (rv_move rfl) ?_
    obtain ⟨r40, hx41, h'⟩ := bind_some h
    clear h
    have h := h'; clear h'
    have hc42 := c_laws_toByteS (aa_0 := aaB_0) (ca_0 := caB_0) hx41
    refine st_call (cx_call hc42 (ent_f hc42.fn rfl) hn0 (show Hp S0 σ0 _ ([Ch.ro 0 (Sl aaB_0 aB_0 caB_0) aB_0] ++ [Ch.ro 0 (Sl aaB_0 aB_0 caB_0) aB_0, Ch.own n0 n0 (Sl a14 r11.1 c15) r11.1, Ch.own n0 n0 (Sl a20 r17 c21) r17, Ch.big K29, Ch.gl 72 ga [1, 2, 0]]) from (H.sel' [0, 0, 1, 2, 3, 4] rfl rfl))) wn ?_
    rintro _ σ46 ⟨_, ⟨a43, c44, rfl, rfl, ht45⟩, H, -⟩
    replace H : Hp S0 σ0 σ46 [Ch.own n0 n0 (Sl a43 r40 c44) r40, Ch.ro 0 (Sl aaB_0 aB_0 caB_0) aB_0, Ch.own n0 n0 (Sl a14 r11.1 c15) r11.1, Ch.own n0 n0 (Sl a20 r17 c21) r17, Ch.big K29, Ch.gl 72 ga [1, 2, 0]] := H
    obtain ⟨σ47, hw48, H, -⟩ := H.pub 0 rfl (Nat.le_refl _)
    rw [← hw48]; clear hw48
    replace H := H.roLow 0 0 rfl (Nat.zero_le _)
    obtain ⟨r49, hx50, h'⟩ := bind_some h
    clear h
    have h := h'; clear h'
    have hc51 := c_laws_eqByteS (aa_0 := a20) (ca_0 := c21) (ab_1 := a43) (cb_1 := c44) hx50
    have hle := Nat.le_trans hn0 H.size
    refine st_call (cx_lend (Loan.lend (Loan.same Loan.nil)) hc51 (ent_f hc51.fn rfl) (show Hp S0 σ0 _ ([Ch.own n0 n0 (Sl a20 r17 c21) r17] ++ ([Ch.ro 0 (Sl a43 r40 c44) r40] ++ [Ch.ro 0 (Sl a43 r40 c44) r40, Ch.ro n0 (Sl a43 r40 c44) r40, Ch.ro 0 (Sl aaB_0 aB_0 caB_0) aB_0, Ch.own n0 n0 (Sl a14 r11.1 c15) r11.1, Ch.big K29, Ch.gl 72 ga [1, 2, 0]])) from (H.sel' [4, 0, 0, 1, 2, 3, 5, 6] rfl rfl)) (by rintro _ _ _ ⟨rfl, rfl⟩; exact trivial)) wn ?_
    rintro _ σ52 ⟨_, ⟨rfl, rfl⟩, H, -, -⟩
    replace H : Hp S0 σ0 σ52 [Ch.own n0 n0 (Sl a20 r17 c21) r17, Ch.ro 0 (Sl a43 r40 c44) r40, Ch.ro n0 (Sl a43 r40 c44) r40, Ch.ro 0 (Sl aaB_0 aB_0 caB_0) aB_0, Ch.own n0 n0 (Sl a14 r11.1 c15) r11.1, Ch.big K29, Ch.gl 72 ga [1, 2, 0]] := H
    clear hle
    replace H : Hp S0 σ0 σ52 [Ch.own n0 n0 (Sl a20 r17 c21) r17, Ch.ro 0 (Sl a43 r40 c44) r40, Ch.ro n0 (Sl a43 r40 c44) r40, Ch.ro 0 (Sl aaB_0 aB_0 caB_0) aB_0, Ch.own n0 n0 (Sl a14 r11.1 c15) r11.1, Ch.big K29, Ch.gl 72 ga [1, 2, 0]] := H
    refine st (v := (B (!r49))) (rv_not rfl) ?_
    refine w_end ?_
    refine q_then ?_
    refine cd_cond (!r49) rfl (fun hb53 => ?_) (fun hb53 => ?_)
    ·replace h := bif_t hb53 h
     refine c_seq ?_
     refine rg ?_
     refine st (v := (B false)) (rv_assign rfl) ?_
     refine w_end ?_
     refine q_then ?_
     refine c_ret ?_
     refine q_then_r ?_
     obtain rfl := Option.some.inj h
     exact fin_ret (v := (B false)) (results_ok Tryd.results5 (res_tmp (v := (B false)) rfl res_nil) rfl) ⟨rfl, rfl⟩ (H.sel' [] rfl rfl)
    ·replace h := bif_f hb53 h
     refine c_skip ?_
     refine q_then ?_
     refine c_seq ?_
     refine rg ?_
     refine st (v := (I 1)) (rv_assign rfl) ?_
     refine w_end ?_
     refine q_then ?_
     refine c_seq ?_
     refine rg ?_
     refine st (v := (Sl a20 r17 c21)) (rv_move rfl) ?_
     refine st (v := (I 1)) (rv_move rfl) ?_
     replace H := H.ownLow 0 0 0 rfl (Nat.zero_le _) (Nat.zero_le _)
     obtain ⟨r54, hx55, h'⟩ := bind_some h
     clear h
     have h := h'; clear h'
     have hc56 := c_laws_markByteS (aa_0 := a20) (ca_0 := c21) hx55
     refine st_call (cx_call hc56 (ent_f hc56.fn rfl) hn0 (show Hp S0 σ0 _ ([Ch.own 0 0 (Sl a20 r17 c21) r17] ++ [Ch.ro 0 (Sl a43 r40 c44) r40, Ch.ro n0 (Sl a43 r40 c44) r40, Ch.ro 0 (Sl aaB_0 aB_0 caB_0) aB_0, Ch.own n0 n0 (Sl a14 r11.1 c15) r11.1, Ch.big K29, Ch.gl 72 ga [1, 2, 0]]) from (H.sel' [0, 1, 2, 3, 4, 5, 6] rfl rfl))) wn ?_
     rintro _ σ58 ⟨_, ⟨rfl, rfl, hn57⟩, H, -⟩
     replace H : Hp S0 σ0 σ58 [Ch.own 0 0 (Sl a20 r54.2 c21) r54.2, Ch.ro 0 (Sl a43 r40 c44) r40, Ch.ro n0 (Sl a43 r40 c44) r40, Ch.ro 0 (Sl aaB_0 aB_0 caB_0) aB_0, Ch.own n0 n0 (Sl a14 r11.1 c15) r11.1, Ch.big K29, Ch.gl 72 ga [1, 2, 0]] := H
     have hsl : (Sl a20 r17 c21) = (Sl a20 r54.2 c21) := sl_len hn57.symm
     try rw [hsl]
     try rw [hsl] at H
     clear hsl
     refine st (v := (I r54.1)) (rv_assign rfl) ?_
     refine w_end ?_
     refine q_then ?_
     refine c_seq ?_
     refine c_seq ?_
     obtain ⟨o59, hj, h'⟩ := bind_some h
     clear h
     refine c_cut (fun e a w => e = .normal ∧ ∃ (ρ : Nat → Value) (σ : St), a = fr 93 (updL ρ [(0, (Sl aaB_0 aB_0 caB_0)), (3, (Sl a14 r11.1 c15)), (4, (B r11.2)), (6, (Sl a27 r24.1 c28)), (58, (B o59))]) ∧ w = σ.w ∧ Hp S0 σ0 σ [Ch.ro 0 (Sl aaB_0 aB_0 caB_0) aB_0, Ch.own n0 n0 (Sl a14 r11.1 c15) r11.1, Ch.big K29, Ch.gl 72 ga [1, 2, 0]]) ?_ ?_
     ·clear h'
      rename _ = some o59 => h
      refine rg ?_
      refine st (v := (I r54.1)) (rv_move rfl) ?_
      refine st (v := (B (decide (r54.1 < 0)))) (rv_lss (a := r54.1) (b := 0) rfl rfl) ?_
      refine st (v := (B (decide (r54.1 < 0)))) (rv_move rfl) ?_
      rcases Bool.eq_false_or_eq_true (decide (r54.1 < 0)) with hb60 | hb60
      ·replace h := bif_t hb60 h
       refine st_skip (congrArg some hb60) ?_
       refine st_skip (congrArg some hb60) ?_
       refine st_skip (congrArg some hb60) ?_
       refine st_skip (congrArg some hb60) ?_
       refine st (v := (B true)) (rv_pick_t (congrArg B hb60) rfl) ?_
       refine st (v := (B true)) (rv_move rfl) ?_
       refine st_skip rfl ?_
       refine st_skip rfl ?_
       refine st_skip rfl ?_
       refine st (v := (B true)) (rv_pick_t rfl rfl) ?_
       refine w_end ?_
       obtain rfl := Option.some.inj h
       exact ⟨rfl, _, σ58, fr_join ⟨rfl, rfl, rfl, rfl, rfl, trivial⟩, rfl, H.sel' [3, 4, 5, 6] rfl rfl⟩
      ·replace h := bif_f hb60 h
       refine st_g (v := (Sl a27 r24.1 c28)) (congrArg some hb60) (rv_move rfl) ?_
       refine st_g (v := (Sl a14 r11.1 c15)) (congrArg some hb60) (rv_move rfl) ?_
       obtain ⟨r61, hx62, h'⟩ := bind_some h
       clear h
       have h := h'; clear h'
       have hc63 := c_laws_eqItemS (aa_0 := a27) (ca_0 := c28) (ab_1 := a14) (cb_1 := c15) hx62
       have hle := Nat.le_trans hn0 H.size
       refine st_call (cx_lend (Loan.lendB hK30.lends (Loan.lend Loan.nil)) hc63 (ent_f hc63.fn rfl) (show Hp S0 σ0 _ ([Ch.big K29, Ch.own n0 n0 (Sl a14 r11.1 c15) r11.1] ++ ([] ++ [Ch.own 0 0 (Sl a20 r54.2 c21) r54.2, Ch.ro 0 (Sl a43 r40 c44) r40, Ch.ro n0 (Sl a43 r40 c44) r40, Ch.ro 0 (Sl aaB_0 aB_0 caB_0) aB_0, Ch.gl 72 ga [1, 2, 0]])) from (H.sel' [5, 4, 0, 1, 2, 3, 6] rfl rfl)) (by rintro _ _ _ ⟨rfl, rfl⟩; exact trivial)) (wanted_yes rfl (by exact (congrArg some hb60))) ?_
       rintro _ σ64 ⟨_, ⟨rfl, rfl⟩, H, -, -⟩
       replace H : Hp S0 σ0 σ64 [Ch.big K29, Ch.own n0 n0 (Sl a14 r11.1 c15) r11.1, Ch.own 0 0 (Sl a20 r54.2 c21) r54.2, Ch.ro 0 (Sl a43 r40 c44) r40, Ch.ro n0 (Sl a43 r40 c44) r40, Ch.ro 0 (Sl aaB_0 aB_0 caB_0) aB_0, Ch.gl 72 ga [1, 2, 0]] := H
       clear hle
       replace H : Hp S0 σ0 σ64 [Ch.big K29, Ch.own n0 n0 (Sl a14 r11.1 c15) r11.1, Ch.own 0 0 (Sl a20 r54.2 c21) r54.2, Ch.ro 0 (Sl a43 r40 c44) r40, Ch.ro n0 (Sl a43 r40 c44) r40, Ch.ro 0 (Sl aaB_0 aB_0 caB_0) aB_0, Ch.gl 72 ga [1, 2, 0]] := H
       refine st_g (v := (B (!r61))) (congrArg some hb60) (rv_not rfl) ?_
       refine st (v := (B (!r61))) (rv_pick_f (congrArg B hb60) rfl) ?_
       refine st (v := (B (!r61))) (rv_move rfl) ?_
       rcases Bool.eq_false_or_eq_true (!r61) with hb65 | hb65
       ·replace h := bif_t hb65 h
        refine st_skip (congrArg some hb65) ?_
        refine st_skip (congrArg some hb65) ?_
        refine st_skip (congrArg some hb65) ?_
        refine st (v := (B true)) (rv_pick_t (congrArg B hb65) rfl) ?_
        refine w_end ?_
        obtain rfl := Option.some.inj h
        exact ⟨rfl, _, σ64, fr_join ⟨rfl, rfl, rfl, rfl, rfl, trivial⟩, rfl, H.sel' [5, 1, 0, 6] rfl rfl⟩
       ·replace h := bif_f hb65 h
        refine st_g (v := (B r24.2)) (congrArg some hb65) (rv_move rfl) ?_
        refine st_g (v := (B r11.2)) (congrArg some hb65) (rv_move rfl) ?_
        refine st_g (v := (B (r24.2 != r11.2))) (congrArg some hb65) (rv_bneq Tryd.underlying4 rfl rfl) ?_
        refine st (v := (B (r24.2 != r11.2))) (rv_pick_f (congrArg B hb65) rfl) ?_
        refine w_end ?_
        obtain rfl := Option.some.inj h
        exact ⟨rfl, _, σ64, fr_join ⟨rfl, rfl, rfl, rfl, rfl, trivial⟩, rfl, H.sel' [5, 1, 0, 6] rfl rfl⟩
     ·clear hj
      have h := h'
      clear h' H
      rintro e a w ⟨rfl, ρ, σ66, rfl, rfl, H⟩
      refine q_then ?_
      refine cd_cond o59 rfl (fun hb67 => ?_) (fun hb67 => ?_)
      ·replace h := bif_t hb67 h
       refine c_seq ?_
       refine rg ?_
       refine st (v := (B false)) (rv_assign rfl) ?_
       refine w_end ?_
       refine q_then ?_
       refine c_ret ?_
       refine q_then_r ?_
       obtain rfl := Option.some.inj h
       exact fin_ret (v := (B false)) (results_ok Tryd.results5 (res_tmp (v := (B false)) rfl res_nil) rfl) ⟨rfl, rfl⟩ (H.sel' [] rfl rfl)
      ·replace h := bif_f hb67 h
       refine c_skip ?_
       refine q_then ?_
       refine c_seq ?_
       refine rg ?_
       refine st (v := (I 1)) (rv_assign rfl) ?_
       refine w_end ?_
       refine q_then ?_
       refine c_seq ?_
       refine rg ?_
       refine st (v := (Sl a27 r24.1 c28)) (rv_move rfl) ?_
       refine st (v := (I 1)) (rv_move rfl) ?_
       obtain ⟨r68, hx69, h'⟩ := bind_some h
       clear h
       have h := h'; clear h'
       have hc70 := c_laws_markItemS (aa_0 := a27) (ca_0 := c28) (hK := hK30) hx69
       refine st_call (cx_call hc70 (ent_f hc70.fn rfl) hn0 (show Hp S0 σ0 _ ([Ch.big K29] ++ [Ch.ro 0 (Sl aaB_0 aB_0 caB_0) aB_0, Ch.own n0 n0 (Sl a14 r11.1 c15) r11.1, Ch.gl 72 ga [1, 2, 0]]) from (H.sel' [2, 0, 1, 3] rfl rfl))) wn ?_
       rintro _ σ72 ⟨_, ⟨rfl, rfl, hn71⟩, H, -⟩
       replace H : Hp S0 σ0 σ72 [Ch.ro 0 (Sl a27 r68.2 c28) r68.2, Ch.ro 0 (Sl aaB_0 aB_0 caB_0) aB_0, Ch.own n0 n0 (Sl a14 r11.1 c15) r11.1, Ch.gl 72 ga [1, 2, 0]] := H
       have hsl : (Sl a27 r24.1 c28) = (Sl a27 r68.2 c28) := sl_len hn71.symm
       try rw [hsl]
       try rw [hsl] at H
       clear hsl
       refine st (v := (I r68.1)) (rv_assign rfl) ?_
       refine w_end ?_
       refine q_then ?_
       refine c_seq ?_
       refine rg ?_
       refine st (v := (I 1)) (rv_assign rfl) ?_
       refine w_end ?_
       refine q_then ?_
       refine c_seq ?_
       refine rg ?_
       refine st (v := (Sl a27 r68.2 c28)) (rv_move rfl) ?_
       refine st (v := (I 1)) (rv_move rfl) ?_
       obtain ⟨r73, hx74, h'⟩ := bind_some h
       clear h
       have h := h'; clear h'
       have hc75 := c_laws_heldItemS (aa_0 := a27) (ca_0 := c28) hx74
       refine st_call (cx_call hc75 (ent_f hc75.fn rfl) hn0 (show Hp S0 σ0 _ ([Ch.ro 0 (Sl a27 r68.2 c28) r68.2] ++ [Ch.ro 0 (Sl a27 r68.2 c28) r68.2, Ch.ro 0 (Sl aaB_0 aB_0 caB_0) aB_0, Ch.own n0 n0 (Sl a14 r11.1 c15) r11.1, Ch.gl 72 ga [1, 2, 0]]) from (H.sel' [0, 0, 1, 2, 3] rfl rfl))) wn ?_
       rintro _ σ76 ⟨_, ⟨rfl, rfl⟩, H, -⟩
       replace H : Hp S0 σ0 σ76 [Ch.ro 0 (Sl a27 r68.2 c28) r68.2, Ch.ro 0 (Sl aaB_0 aB_0 caB_0) aB_0, Ch.own n0 n0 (Sl a14 r11.1 c15) r11.1, Ch.gl 72 ga [1, 2, 0]] := H
       refine st (v := (I r73)) (rv_assign rfl) ?_
       refine w_end ?_
       refine q_then ?_
       refine c_seq ?_
       refine c_seq ?_
       refine rg ?_
       refine st (v := (I r73)) (rv_move rfl) ?_
       refine st (v := (B (decide (r73 < 0)))) (rv_lss (a := r73) (b := 0) rfl rfl) ?_
       refine w_end ?_
       refine q_then ?_
       refine cd_cond (decide (r73 < 0)) rfl (fun hb77 => ?_) (fun hb77 => ?_)
       ·replace h := bif_t hb77 h
        refine c_seq ?_
        refine rg ?_
        refine st (v := (B false)) (rv_assign rfl) ?_
        refine w_end ?_
        refine q_then ?_
        refine c_ret ?_
        refine q_then_r ?_
        obtain rfl := Option.some.inj h
        exact fin_ret (v := (B false)) (results_ok Tryd.results5 (res_tmp (v := (B false)) rfl res_nil) rfl) ⟨rfl, rfl⟩ (H.sel' [] rfl rfl)
       ·replace h := bif_f hb77 h
        refine c_skip ?_
        refine q_then ?_
        refine c_seq ?_
        refine c_seq ?_
        refine rg ?_
        refine st (v := (I r73)) (rv_move rfl) ?_
        refine st (v := (I r68.1)) (rv_move rfl) ?_
        refine st (v := (B (r73 != r68.1))) (rv_neq (a := r73) (b := r68.1) rfl rfl) ?_
        refine w_end ?_
        refine q_then ?_
        refine cd_cond (r73 != r68.1) rfl (fun hb78 => ?_) (fun hb78 => ?_)
        ·replace h := bif_t hb78 h
         refine c_seq ?_
         refine rg ?_
         refine st (v := (B false)) (rv_assign rfl) ?_
         refine w_end ?_
         refine q_then ?_
         refine c_ret ?_
         refine q_then_r ?_
         obtain rfl := Option.some.inj h
         exact fin_ret (v := (B false)) (results_ok Tryd.results5 (res_tmp (v := (B false)) rfl res_nil) rfl) ⟨rfl, rfl⟩ (H.sel' [] rfl rfl)
        ·replace h := bif_f hb78 h
         refine c_skip ?_
         refine q_then ?_
         refine c_seq ?_
         refine rg ?_
         refine st (v := (Sl aaB_0 aB_0 caB_0)) (rv_move rfl) ?_
         obtain ⟨r79, hx80, h'⟩ := bind_some h
         clear h
         have h := h'; clear h'
         have hc81 := c_laws_toByteS (aa_0 := aaB_0) (ca_0 := caB_0) hx80
         refine st_call (cx_call hc81 (ent_f hc81.fn rfl) hn0 (show Hp S0 σ0 _ ([Ch.ro 0 (Sl aaB_0 aB_0 caB_0) aB_0] ++ [Ch.ro 0 (Sl a27 r68.2 c28) r68.2, Ch.ro 0 (Sl aaB_0 aB_0 caB_0) aB_0, Ch.own n0 n0 (Sl a14 r11.1 c15) r11.1, Ch.gl 72 ga [1, 2, 0]]) from (H.sel' [1, 0, 1, 2, 3] rfl rfl))) wn ?_
         rintro _ σ85 ⟨_, ⟨a82, c83, rfl, rfl, ht84⟩, H, -⟩
         replace H : Hp S0 σ0 σ85 [Ch.own n0 n0 (Sl a82 r79 c83) r79, Ch.ro 0 (Sl a27 r68.2 c28) r68.2, Ch.ro 0 (Sl aaB_0 aB_0 caB_0) aB_0, Ch.own n0 n0 (Sl a14 r11.1 c15) r11.1, Ch.gl 72 ga [1, 2, 0]] := H
         obtain ⟨σ86, hw87, H, -⟩ := H.pub 0 rfl (Nat.le_refl _)
         rw [← hw87]; clear hw87
         replace H := H.roLow 0 0 rfl (Nat.zero_le _)
         obtain ⟨r88, hx89, h'⟩ := bind_some h
         clear h
         have h := h'; clear h'
         have hc90 := c_impl_ParsePage (ab_0 := a82) (cb_0 := c83) (ga := ga) hx89
         refine st_call (cx_call hc90 (ent_f hc90.fn rfl) hn0 (show Hp S0 σ0 _ ([Ch.ro 0 (Sl a82 r79 c83) r79, Ch.gl 72 ga [1, 2, 0]] ++ [Ch.ro 0 (Sl a82 r79 c83) r79, Ch.ro n0 (Sl a82 r79 c83) r79, Ch.ro 0 (Sl a27 r68.2 c28) r68.2, Ch.ro 0 (Sl aaB_0 aB_0 caB_0) aB_0, Ch.own n0 n0 (Sl a14 r11.1 c15) r11.1, Ch.gl 72 ga [1, 2, 0]]) from (H.sel' [0, 5, 0, 1, 2, 3, 4, 5] rfl rfl))) wn ?_
         rintro _ σ95 ⟨_, ⟨a91, c92, K93, rfl, rfl, hK94⟩, H, -⟩
         replace H : Hp S0 σ0 σ95 [Ch.big K93, Ch.ro 0 (Sl a82 r79 c83) r79, Ch.ro n0 (Sl a82 r79 c83) r79, Ch.ro 0 (Sl a27 r68.2 c28) r68.2, Ch.ro 0 (Sl aaB_0 aB_0 caB_0) aB_0, Ch.own n0 n0 (Sl a14 r11.1 c15) r11.1, Ch.gl 72 ga [1, 2, 0]] := H
         refine st (v := (.tuple #[(Sl a91 r88.1 c92), (B r88.2)])) (rv_move rfl) ?_
         refine st (v := (Sl a91 r88.1 c92)) (rv_extract rfl rfl) ?_
         refine st (v := (B r88.2)) (rv_extract rfl rfl) ?_
         refine st (v := (Sl a91 r88.1 c92)) (rv_assign rfl) ?_
         refine st (v := (B r88.2)) (rv_assign rfl) ?_
         refine w_end ?_
         refine q_then ?_
         refine c_seq ?_
         refine c_seq ?_
         obtain ⟨o96, hj, h'⟩ := bind_some h
         clear h
         refine c_cut (fun e a w => e = .normal ∧ ∃ (ρ : Nat → Value) (σ : St), a = fr 93 (updL ρ [(6, (Sl a27 r68.2 c28)), (9, (I r68.1)), (84, (B o96))]) ∧ w = σ.w ∧ Hp S0 σ0 σ [Ch.ro 0 (Sl a27 r68.2 c28) r68.2, Ch.gl 72 ga [1, 2, 0]]) ?_ ?_
         ·clear h'
          rename _ = some o96 => h
          refine rg ?_
          refine st (v := (Sl a91 r88.1 c92)) (rv_move rfl) ?_
          refine st (v := (Sl a14 r11.1 c15)) (rv_move rfl) ?_
          obtain ⟨σ97, hw98, H, -⟩ := H.pub 5 rfl (Nat.le_refl _)
          rw [← hw98]; clear hw98
          replace H := H.roLow 0 0 rfl (Nat.zero_le _)
          obtain ⟨r99, hx100, h'⟩ := bind_some h
          clear h
          have h := h'; clear h'
          have hc101 := c_laws_eqItemS (aa_0 := a91) (ca_0 := c92) (ab_1 := a14) (cb_1 := c15) hx100
          have hle := Nat.le_trans hn0 H.size
          refine st_call (cx_lend (Loan.lendB hK94.lends (Loan.same Loan.nil)) hc101 (ent_f hc101.fn rfl) (show Hp S0 σ0 _ ([Ch.big K93] ++ ([Ch.ro 0 (Sl a14 r11.1 c15) r11.1] ++ [Ch.ro 0 (Sl a14 r11.1 c15) r11.1, Ch.ro n0 (Sl a14 r11.1 c15) r11.1, Ch.ro 0 (Sl a82 r79 c83) r79, Ch.ro n0 (Sl a82 r79 c83) r79, Ch.ro 0 (Sl a27 r68.2 c28) r68.2, Ch.ro 0 (Sl aaB_0 aB_0 caB_0) aB_0, Ch.gl 72 ga [1, 2, 0]])) from (H.sel' [2, 0, 0, 1, 3, 4, 5, 6, 7] rfl rfl)) (by rintro _ _ _ ⟨rfl, rfl⟩; exact trivial)) wn ?_
          rintro _ σ102 ⟨_, ⟨rfl, rfl⟩, H, -, -⟩
          replace H : Hp S0 σ0 σ102 [Ch.big K93, Ch.ro 0 (Sl a14 r11.1 c15) r11.1, Ch.ro n0 (Sl a14 r11.1 c15) r11.1, Ch.ro 0 (Sl a82 r79 c83) r79, Ch.ro n0 (Sl a82 r79 c83) r79, Ch.ro 0 (Sl a27 r68.2 c28) r68.2, Ch.ro 0 (Sl aaB_0 aB_0 caB_0) aB_0, Ch.gl 72 ga [1, 2, 0]] := H
          clear hle
          replace H : Hp S0 σ0 σ102 [Ch.big K93, Ch.ro 0 (Sl a14 r11.1 c15) r11.1, Ch.ro n0 (Sl a14 r11.1 c15) r11.1, Ch.ro 0 (Sl a82 r79 c83) r79, Ch.ro n0 (Sl a82 r79 c83) r79, Ch.ro 0 (Sl a27 r68.2 c28) r68.2, Ch.ro 0 (Sl aaB_0 aB_0 caB_0) aB_0, Ch.gl 72 ga [1, 2, 0]] := H
          replace H : Hp S0 σ0 σ102 [Ch.ro 0 (Sl a27 r68.2 c28) r68.2, Ch.gl 72 ga [1, 2, 0]] := H.sel' [5, 7] rfl rfl
          refine st (v := (B (!r99))) (rv_not rfl) ?_
          refine st (v := (B (!r99))) (rv_move rfl) ?_
          rcases Bool.eq_false_or_eq_true (!r99) with hb103 | hb103
          ·replace h := bif_t hb103 h
           refine st_skip (congrArg some hb103) ?_
           refine st_skip (congrArg some hb103) ?_
           refine st_skip (congrArg some hb103) ?_
           refine st (v := (B true)) (rv_pick_t (congrArg B hb103) rfl) ?_
           refine w_end ?_
           obtain rfl := Option.some.inj h
           exact ⟨rfl, _, σ102, fr_join ⟨rfl, rfl, rfl, trivial⟩, rfl, H.sel' [0, 1] rfl rfl⟩
          ·replace h := bif_f hb103 h
           refine st_g (v := (B r88.2)) (congrArg some hb103) (rv_move rfl) ?_
           refine st_g (v := (B r11.2)) (congrArg some hb103) (rv_move rfl) ?_
           refine st_g (v := (B (r88.2 != r11.2))) (congrArg some hb103) (rv_bneq Tryd.underlying4 rfl rfl) ?_
           refine st (v := (B (r88.2 != r11.2))) (rv_pick_f (congrArg B hb103) rfl) ?_
           refine w_end ?_
           obtain rfl := Option.some.inj h
           exact ⟨rfl, _, σ102, fr_join ⟨rfl, rfl, rfl, trivial⟩, rfl, H.sel' [0, 1] rfl rfl⟩
         ·clear hj
          have h := h'
          clear h' H
          rintro e a w ⟨rfl, ρ, σ104, rfl, rfl, H⟩
          refine q_then ?_
          refine cd_cond o96 rfl (fun hb105 => ?_) (fun hb105 => ?_)
          ·replace h := bif_t hb105 h
           refine c_seq ?_
           refine rg ?_
           refine st (v := (B false)) (rv_assign rfl) ?_
           refine w_end ?_
           refine q_then ?_
           refine c_ret ?_
           refine q_then_r ?_
           obtain rfl := Option.some.inj h
           exact fin_ret (v := (B false)) (results_ok Tryd.results5 (res_tmp (v := (B false)) rfl res_nil) rfl) ⟨rfl, rfl⟩ (H.sel' [] rfl rfl)
          ·replace h := bif_f hb105 h
           refine c_skip ?_
           refine q_then ?_
           refine c_seq ?_
           refine rg ?_
           refine st (v := (I 1)) (rv_assign rfl) ?_
           refine w_end ?_
           refine q_then ?_
           refine c_seq ?_
           refine rg ?_
           refine st (v := (Sl a27 r68.2 c28)) (rv_move rfl) ?_
           refine st (v := (I 1)) (rv_move rfl) ?_
           obtain ⟨r106, hx107, h'⟩ := bind_some h
           clear h
           have h := h'; clear h'
           have hc108 := c_laws_heldItemS (aa_0 := a27) (ca_0 := c28) hx107
           refine st_call (cx_call hc108 (ent_f hc108.fn rfl) hn0 (show Hp S0 σ0 _ ([Ch.ro 0 (Sl a27 r68.2 c28) r68.2] ++ [Ch.ro 0 (Sl a27 r68.2 c28) r68.2, Ch.gl 72 ga [1, 2, 0]]) from (H.sel' [0, 0, 1] rfl rfl))) wn ?_
           rintro _ σ109 ⟨_, ⟨rfl, rfl⟩, H, -⟩
           replace H : Hp S0 σ0 σ109 [Ch.ro 0 (Sl a27 r68.2 c28) r68.2, Ch.gl 72 ga [1, 2, 0]] := H
           refine st (v := (I r106)) (rv_assign rfl) ?_
           refine w_end ?_
           refine q_then ?_
           refine c_seq ?_
           refine c_seq ?_
           refine rg ?_
           refine st (v := (I r106)) (rv_move rfl) ?_
           refine st (v := (B (decide (r106 < 0)))) (rv_lss (a := r106) (b := 0) rfl rfl) ?_
           refine w_end ?_
           refine q_then ?_
           refine cd_cond (decide (r106 < 0)) rfl (fun hb110 => ?_) (fun hb110 => ?_)
           ·replace h := bif_t hb110 h
            refine c_seq ?_
            refine rg ?_
            refine st (v := (B false)) (rv_assign rfl) ?_
            refine w_end ?_
            refine q_then ?_
            refine c_ret ?_
            refine q_then_r ?_
            obtain rfl := Option.some.inj h
            exact fin_ret (v := (B false)) (results_ok Tryd.results5 (res_tmp (v := (B false)) rfl res_nil) rfl) ⟨rfl, rfl⟩ (H.sel' [] rfl rfl)
           ·replace h := bif_f hb110 h
            refine c_skip ?_
            refine q_then ?_
            refine c_seq ?_
            refine c_seq ?_
            refine rg ?_
            refine st (v := (I r106)) (rv_move rfl) ?_
            refine st (v := (I r68.1)) (rv_move rfl) ?_
            refine st (v := (B (r106 != r68.1))) (rv_neq (a := r106) (b := r68.1) rfl rfl) ?_
            refine w_end ?_
            refine q_then ?_
            refine cd_cond (r106 != r68.1) rfl (fun hb111 => ?_) (fun hb111 => ?_)
            ·replace h := bif_t hb111 h
             refine c_seq ?_
             refine rg ?_
             refine st (v := (B false)) (rv_assign rfl) ?_
             refine w_end ?_
             refine q_then ?_
             refine c_ret ?_
             refine q_then_r ?_
             obtain rfl := Option.some.inj h
             exact fin_ret (v := (B false)) (results_ok Tryd.results5 (res_tmp (v := (B false)) rfl res_nil) rfl) ⟨rfl, rfl⟩ (H.sel' [] rfl rfl)
            ·replace h := bif_f hb111 h
             refine c_skip ?_
             refine q_then ?_
             refine c_seq ?_
             refine rg ?_
             refine st (v := (B true)) (rv_assign rfl) ?_
             refine w_end ?_
             refine q_then ?_
             refine c_ret ?_
             obtain rfl := Option.some.inj h
             exact fin_ret (v := (B true)) (results_ok Tryd.results5 (res_tmp (v := (B true)) rfl res_nil) rfl) ⟨rfl, rfl⟩ (H.sel' [] rfl rfl)

end Go.Vs
