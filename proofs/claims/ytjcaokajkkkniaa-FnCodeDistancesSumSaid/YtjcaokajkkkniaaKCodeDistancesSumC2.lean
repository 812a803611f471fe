/- The functions compute what their models say. -/
import Derived.Test.YtjcaokajkkkniaaKCodeDistancesSumC1
set_option linter.unusedVariables false
set_option linter.unusedSimpArgs false
set_option maxRecDepth 20000
namespace Go.Vs
open Go Go.Proofs
attribute [local irreducible] Code.wp Code.wpIn wpList wpListIn wpQuiet Calls CallsIn

theorem c_impl_CodeDistances {b_0 : (List (List Int)) × (List (List Int))} {at_1 : List Int} {ab_0_0 : Option Addr} {cb_0_0 : Nat} {ab_0_1 : Option Addr} {cb_0_1 : Nat} {aat_1 : Option Addr} {cat_1 : Nat} {r : (List Int)} (h : M.impl_CodeDistances b_0 at_1 = some r) :
    Cal2 Try.prog 26 [(.agg #[(Sl ab_0_0 b_0.1 cb_0_0), (Sl ab_0_1 b_0.2 cb_0_1)]), (Sl aat_1 at_1 cat_1)] [Ch.ro 0 (Sl ab_0_0 b_0.1 cb_0_0) b_0.1, Ch.ro 0 (Sl ab_0_1 b_0.2 cb_0_1) b_0.2, Ch.ro 0 (Sl aat_1 at_1 cat_1) at_1] (fun n0 v L => ∃ (az1 : Option Addr), ∃ (cz2 : Nat), v = (Sl az1 r cz2) ∧ L = [Ch.own n0 n0 (Sl az1 r cz2) r]) := by
 refine cal2 (n := 44) Try.func26 rfl rfl rfl rfl ?_
 intro S0 σ0 n0 hn0 H
 unfold M.impl_CodeDistances at h
 refine c_seq ?_
 refine rg ?_
 refine st_ex (ex_box (cs := [(Sl ab_0_0 b_0.1 cb_0_0), (Sl ab_0_1 b_0.2 cb_0_1)]) H hn0 rfl rfl) wn ?_
 rintro _ σ2 ⟨b1, rfl, H, -⟩
 refine st (v := (.slice none 0 0)) (rv_assign rfl) ?_
 refine w_end ?_
 refine q_then ?_
 refine c_seq ?_
 refine c_seq ?_
 obtain ⟨o3, hj, h'⟩ := bind_some h
 clear h
 refine c_cut (fun e a w => e = .normal ∧ ∃ (ρ : Nat → Value) (σ : St), a = fr 44 (updL ρ [(1, (Sl aat_1 at_1 cat_1)), (2, (pt b1 0)), (19, (B o3))]) ∧ w = σ.w ∧ Hp S0 σ0 σ [Ch.ro 0 (Sl aat_1 at_1 cat_1) at_1, Ch.ro 0 (Sl ab_0_0 b_0.1 cb_0_0) b_0.1, Ch.ro 0 (Sl ab_0_1 b_0.2 cb_0_1) b_0.2, Ch.bx n0 b1 0 [(Sl ab_0_0 b_0.1 cb_0_0), (Sl ab_0_1 b_0.2 cb_0_1)] [] []]) ?_ ?_
 ·clear h'
  rename _ = some o3 => h
  refine rg ?_
  have hc4 := H.cells 0 rfl
  refine st (v := (.agg #[(Sl ab_0_0 b_0.1 cb_0_0), (Sl ab_0_1 b_0.2 cb_0_1)])) (rv_load (cs := [(Sl ab_0_0 b_0.1 cb_0_0), (Sl ab_0_1 b_0.2 cb_0_1)]) Try.underlying25 rfl ti25 rfl rfl hc4) ?_
  obtain ⟨r5, hx6, h'⟩ := bind_some h
  clear h
  have h := h'; clear h'
  have hc7 := c_impl_ValidBook (ab_0_0 := ab_0_0) (cb_0_0 := cb_0_0) (ab_0_1 := ab_0_1) (cb_0_1 := cb_0_1) hx6
  refine st_call (cx_call hc7 (ent_f hc7.fn rfl) hn0 (show Hp S0 σ0 _ ([Ch.ro 0 (Sl ab_0_0 b_0.1 cb_0_0) b_0.1, Ch.ro 0 (Sl ab_0_1 b_0.2 cb_0_1) b_0.2] ++ [Ch.bx n0 b1 0 [(Sl ab_0_0 b_0.1 cb_0_0), (Sl ab_0_1 b_0.2 cb_0_1)] [] [], Ch.ro 0 (Sl ab_0_0 b_0.1 cb_0_0) b_0.1, Ch.ro 0 (Sl ab_0_1 b_0.2 cb_0_1) b_0.2, Ch.ro 0 (Sl aat_1 at_1 cat_1) at_1]) from (H.sel' [1, 2, 0, 1, 2, 3] rfl rfl))) wn ?_
  rintro _ σ8 ⟨_, ⟨rfl, rfl⟩, H, -⟩
  replace H : Hp S0 σ0 σ8 [Ch.bx n0 b1 0 [(Sl ab_0_0 b_0.1 cb_0_0), (Sl ab_0_1 b_0.2 cb_0_1)] [] [], Ch.ro 0 (Sl ab_0_0 b_0.1 cb_0_0) b_0.1, Ch.ro 0 (Sl ab_0_1 b_0.2 cb_0_1) b_0.2, Ch.ro 0 (Sl aat_1 at_1 cat_1) at_1] := H
  refine st (v := (B (!r5))) (rv_not rfl) ?_
  refine st (v := (B (!r5))) (rv_move rfl) ?_
  rcases Bool.eq_false_or_eq_true (!r5) with hb9 | hb9
  ·replace h := bif_t hb9 h
   refine st_skip (congrArg some hb9) ?_
   refine st_skip (congrArg some hb9) ?_
   refine st_skip (congrArg some hb9) ?_
   refine st (v := (B true)) (rv_pick_t (congrArg B hb9) rfl) ?_
   refine w_end ?_
   obtain rfl := Option.some.inj h
   exact ⟨rfl, _, σ8, fr_join ⟨rfl, rfl, rfl, trivial⟩, rfl, H.sel' [3, 1, 2, 0] rfl rfl⟩
  ·replace h := bif_f hb9 h
   refine st_g (v := (Sl aat_1 at_1 cat_1)) (congrArg some hb9) (rv_move rfl) ?_
   obtain ⟨r10, hx11, h'⟩ := bind_some h
   clear h
   have h := h'; clear h'
   have hc12 := c_impl_ValidVector (av_0 := aat_1) (cv_0 := cat_1) hx11
   refine st_call (cx_call hc12 (ent_f hc12.fn rfl) hn0 (show Hp S0 σ0 _ ([Ch.ro 0 (Sl aat_1 at_1 cat_1) at_1] ++ [Ch.bx n0 b1 0 [(Sl ab_0_0 b_0.1 cb_0_0), (Sl ab_0_1 b_0.2 cb_0_1)] [] [], Ch.ro 0 (Sl ab_0_0 b_0.1 cb_0_0) b_0.1, Ch.ro 0 (Sl ab_0_1 b_0.2 cb_0_1) b_0.2, Ch.ro 0 (Sl aat_1 at_1 cat_1) at_1]) from (H.sel' [3, 0, 1, 2, 3] rfl rfl))) (wanted_yes rfl (by exact (congrArg some hb9))) ?_
   rintro _ σ13 ⟨_, ⟨rfl, rfl⟩, H, -⟩
   replace H : Hp S0 σ0 σ13 [Ch.bx n0 b1 0 [(Sl ab_0_0 b_0.1 cb_0_0), (Sl ab_0_1 b_0.2 cb_0_1)] [] [], Ch.ro 0 (Sl ab_0_0 b_0.1 cb_0_0) b_0.1, Ch.ro 0 (Sl ab_0_1 b_0.2 cb_0_1) b_0.2, Ch.ro 0 (Sl aat_1 at_1 cat_1) at_1] := H
   refine st_g (v := (B (!r10))) (congrArg some hb9) (rv_not rfl) ?_
   refine st (v := (B (!r10))) (rv_pick_f (congrArg B hb9) rfl) ?_
   refine w_end ?_
   obtain rfl := Option.some.inj h
   exact ⟨rfl, _, σ13, fr_join ⟨rfl, rfl, rfl, trivial⟩, rfl, H.sel' [3, 1, 2, 0] rfl rfl⟩
 ·clear hj
  have h := h'
  clear h' H
  rintro e a w ⟨rfl, ρ, σ14, rfl, rfl, H⟩
  refine q_then ?_
  refine cd_cond o3 rfl (fun hb15 => ?_) (fun hb15 => ?_)
  ·replace h := bif_t hb15 h
   refine c_seq ?_
   refine rg ?_
   refine st (v := (.slice none 0 0)) (rv_assign rfl) ?_
   refine w_end ?_
   refine q_then ?_
   refine c_ret ?_
   refine q_then_r ?_
   replace H := H.nilOwn Int n0 n0
   obtain rfl := Option.some.inj h
   exact fin_ret (v := (.slice none 0 0)) (results_ok Try.results26 (res_tmp (v := (.slice none 0 0)) rfl res_nil) rfl) ⟨none, 0, rfl, rfl⟩ (H.sel' [0] rfl rfl)
  ·replace h := bif_f hb15 h
   refine c_skip ?_
   refine q_then ?_
   refine c_seq ?_
   refine rg ?_
   have hc16 := H.cells 3 rfl
   refine st (v := (.agg #[(Sl ab_0_0 b_0.1 cb_0_0), (Sl ab_0_1 b_0.2 cb_0_1)])) (rv_load (cs := [(Sl ab_0_0 b_0.1 cb_0_0), (Sl ab_0_1 b_0.2 cb_0_1)]) Try.underlying25 rfl ti25 rfl rfl hc16) ?_
   refine st (v := (Sl aat_1 at_1 cat_1)) (rv_move rfl) ?_
   obtain ⟨r17, hx18, h'⟩ := bind_some h
   clear h
   have h := h'; clear h'
   have hc19 := c_impl_tablesOf (ab_0_0 := ab_0_0) (cb_0_0 := cb_0_0) (ab_0_1 := ab_0_1) (cb_0_1 := cb_0_1) (aat_1 := aat_1) (cat_1 := cat_1) hx18
   refine st_call (cx_call hc19 (ent_f hc19.fn rfl) hn0 (show Hp S0 σ0 _ ([Ch.ro 0 (Sl ab_0_0 b_0.1 cb_0_0) b_0.1, Ch.ro 0 (Sl ab_0_1 b_0.2 cb_0_1) b_0.2, Ch.ro 0 (Sl aat_1 at_1 cat_1) at_1] ++ [Ch.ro 0 (Sl aat_1 at_1 cat_1) at_1, Ch.ro 0 (Sl ab_0_0 b_0.1 cb_0_0) b_0.1, Ch.ro 0 (Sl ab_0_1 b_0.2 cb_0_1) b_0.2, Ch.bx n0 b1 0 [(Sl ab_0_0 b_0.1 cb_0_0), (Sl ab_0_1 b_0.2 cb_0_1)] [] []]) from (H.sel' [1, 2, 0, 0, 1, 2, 3] rfl rfl))) wn ?_
   rintro _ σ22 ⟨_, ⟨rfl, rfl, hl20, hl21⟩, H, -⟩
   replace H : Hp S0 σ0 σ22 [Ch.ro 0 (Sl aat_1 at_1 cat_1) at_1, Ch.ro 0 (Sl ab_0_0 b_0.1 cb_0_0) b_0.1, Ch.ro 0 (Sl ab_0_1 b_0.2 cb_0_1) b_0.2, Ch.bx n0 b1 0 [(Sl ab_0_0 b_0.1 cb_0_0), (Sl ab_0_1 b_0.2 cb_0_1)] [] []] := H
   refine st (v := (.tuple #[(.agg (List.map I r17.1).toArray), (.agg (List.map I r17.2).toArray)])) (rv_move rfl) ?_
   refine st (v := (.agg (List.map I r17.1).toArray)) (rv_extract rfl rfl) ?_
   refine st (v := (.agg (List.map I r17.2).toArray)) (rv_extract rfl rfl) ?_
   refine st_ex (ex_alloc (cs := (List.map I (List.replicate 4 0))) H hn0 ti55 rfl) wn ?_
   rintro _ σ24 ⟨b23, rfl, H, -⟩
   refine st_ex (ex_alloc (cs := (List.map I (List.replicate 4 0))) H hn0 ti55 rfl) wn ?_
   rintro _ σ26 ⟨b25, rfl, H, -⟩
   refine st_exS (ex_store_box (k := 0) (cs := (List.map I (List.replicate 4 0))) (vs := (List.map I r17.1)) (cs' := (List.map I r17.1)) H (i := 1) rfl ti55 rfl rfl rfl rfl ((List.length_map _).trans hl20) (arr_fits (k := 4) hl20 rfl) (plain_ints _) (arr_all (k := 4) hl20 rfl)) wn ?_
   rintro σ27 ⟨H, -⟩
   refine st_exS (ex_store_box (k := 0) (cs := (List.map I (List.replicate 4 0))) (vs := (List.map I r17.2)) (cs' := (List.map I r17.2)) H (i := 1) rfl ti55 rfl rfl rfl rfl ((List.length_map _).trans hl21) (arr_fits (k := 4) hl21 rfl) (plain_ints _) (arr_all (k := 4) hl21 rfl)) wn ?_
   rintro σ28 ⟨H, -⟩
   refine w_end ?_
   refine q_then ?_
   refine c_seq ?_
   refine rg ?_
   obtain ⟨xs29, hx30, h'⟩ := bind_some h
   clear h
   have h := h'; clear h'
   refine st_ex (ex_makeC (el := n0) (z0 := (0 : Int)) (zs := [(I 0)]) H hn0 Try.underlying29 ti3 rfl rfl rfl (by decide) hx30 rfl rfl) wn ?_
   rintro _ σ34 ⟨b31, c32, rfl, H, -⟩
   refine st (v := (Sl (some ⟨b31, 0, none⟩) xs29 c32)) (rv_assign rfl) ?_
   refine w_end ?_
   refine q_then ?_
   refine c_seq ?_
   refine c_seq ?_
   refine rg ?_
   have hc35 := H.cells 2 rfl
   refine st (v := (.agg (List.map I r17.1).toArray)) (rv_load (cs := (List.map I r17.1)) Try.underlying55 rfl ti55 rfl (by rw [List.length_map]; exact hl20) hc35) ?_
   refine st (v := (I 0)) (rv_move rfl) ?_
   refine w_end ?_
   refine q_then ?_
   obtain ⟨o36, hj, h'⟩ := bind_some h
   clear h
   refine c_cut (fun e a w => e = .normal ∧ ∃ (ρ : Nat → Value) (σ : St) (aj1 : Option Addr) (cj2 : Nat), a = fr 44 (updL ρ [(7, (Sl aj1 o36 cj2))]) ∧ w = σ.w ∧ Hp S0 σ0 σ [Ch.own n0 n0 (Sl aj1 o36 cj2) o36]) ?_ ?_
   ·clear h'
    rename _ = some o36 => h
    refine c_blk ?_
    refine wp_loopM _ h (fun s37 a w => ∃ (ρ : Nat → Value) (σ : St) (aj1 : Option Addr) (cj2 : Nat), a = fr 44 (updL ρ [(6, (pt b25 0)), (7, (Sl aj1 s37.1 cj2)), (27, (.agg (List.map I r17.1).toArray)), (28, (I s37.2))]) ∧ w = σ.w ∧ Hp S0 σ0 σ [Ch.bx n0 b25 0 (List.map I r17.2) [] [], Ch.own n0 n0 (Sl aj1 s37.1 cj2) s37.1]) ⟨_, σ34, (some ⟨b31, 0, none⟩), c32, fr_join ⟨rfl, rfl, rfl, rfl, trivial⟩, rfl, H.sel' [1, 0] rfl rfl⟩ ?_
    clear h H
    rintro s37 a w o ⟨ρ, σ38, a39, c40, rfl, rfl, H⟩ h hres
    refine c_seq ?_
    refine rg ?_
    refine st (v := (B (decide (s37.2 < 4)))) (rv_lss (a := s37.2) (b := 4) rfl rfl) ?_
    refine w_end ?_
    refine q_then ?_
    refine c_seq ?_
    refine cd_cond (decide (s37.2 < 4)) rfl (fun hb41 => ?_) (fun hb41 => ?_)
    ·replace h := bif_t hb41 h
     refine c_skip ?_
     refine q_then ?_
     refine c_seq ?_
     refine c_blk ?_
     refine c_seq ?_
     refine rg ?_
     obtain ⟨x42, hx43, h'⟩ := bind_some h
     clear h
     have h := h'; clear h'
     refine st (v := (I x42)) (rv_idx Try.underlying55 ti3 Try.underlying3 rfl rfl hx43 hl20) ?_
     refine st (v := (I x42)) (rv_assign rfl) ?_
     refine w_end ?_
     refine q_then ?_
     refine c_seq ?_
     refine rg ?_
     have hc44 := H.cells 0 rfl
     refine st (v := (.agg (List.map I r17.2).toArray)) (rv_load (cs := (List.map I r17.2)) Try.underlying55 rfl ti55 rfl (by rw [List.length_map]; exact hl21) hc44) ?_
     refine st (v := (I 0)) (rv_move rfl) ?_
     refine w_end ?_
     refine q_then ?_
     obtain ⟨o45, hj, h'⟩ := bind_some h
     clear h
     refine c_cut (fun e a w => e = .normal ∧ ∃ (ρ : Nat → Value) (σ : St) (aj1 : Option Addr) (cj2 : Nat), a = fr 44 (updL ρ [(6, (pt b25 0)), (7, (Sl aj1 o45 cj2)), (27, (.agg (List.map I r17.1).toArray)), (28, (I s37.2))]) ∧ w = σ.w ∧ Hp S0 σ0 σ [Ch.bx n0 b25 0 (List.map I r17.2) [] [], Ch.own n0 n0 (Sl aj1 o45 cj2) o45]) ?_ ?_
     ·clear h'
      rename _ = some o45 => h
      refine c_blk ?_
      refine wp_loopM _ h (fun s46 a w => ∃ (ρ : Nat → Value) (σ : St) (aj1 : Option Addr) (cj2 : Nat), a = fr 44 (updL ρ [(6, (pt b25 0)), (7, (Sl aj1 s46.1 cj2)), (9, (I x42)), (27, (.agg (List.map I r17.1).toArray)), (28, (I s37.2)), (31, (.agg (List.map I r17.2).toArray)), (32, (I s46.2))]) ∧ w = σ.w ∧ Hp S0 σ0 σ [Ch.bx n0 b25 0 (List.map I r17.2) [] [], Ch.own n0 n0 (Sl aj1 s46.1 cj2) s46.1]) ⟨_, σ38, a39, c40, fr_join ⟨rfl, rfl, rfl, rfl, rfl, rfl, rfl, trivial⟩, rfl, H.sel' [0, 1] rfl rfl⟩ ?_
      clear h H
      rintro s46 a w o ⟨ρ, σ47, a48, c49, rfl, rfl, H⟩ h hres
      refine c_seq ?_
      refine rg ?_
      refine st (v := (B (decide (s46.2 < 4)))) (rv_lss (a := s46.2) (b := 4) rfl rfl) ?_
      refine w_end ?_
      refine q_then ?_
      refine c_seq ?_
      refine cd_cond (decide (s46.2 < 4)) rfl (fun hb50 => ?_) (fun hb50 => ?_)
      ·replace h := bif_t hb50 h
       refine c_skip ?_
       refine q_then ?_
       refine c_seq ?_
       refine c_blk ?_
       refine c_seq ?_
       refine rg ?_
       obtain ⟨x51, hx52, h'⟩ := bind_some h
       clear h
       have h := h'; clear h'
       refine st (v := (I x51)) (rv_idx Try.underlying55 ti3 Try.underlying3 rfl rfl hx52 hl21) ?_
       refine st (v := (I x51)) (rv_assign rfl) ?_
       refine w_end ?_
       refine q_then ?_
       refine rg ?_
       refine st (v := (Sl a48 s46.1 c49)) (rv_move rfl) ?_
       refine st (v := (I x42)) (rv_move rfl) ?_
       refine st (v := (I x51)) (rv_move rfl) ?_
       refine st (v := (I (w64 (x42 + x51)))) (rv_add (a := x42) (b := x51) rfl rfl) ?_
       refine st_ex (ex_buildSlice (el := n0) (xs := ([w64 (x42 + x51)] : List Int)) (ps := [(0, (I (w64 (x42 + x51))))]) (cs := [(I (w64 (x42 + x51)))]) H hn0 Try.underlying29 ti3 rfl rfl (by kernel_rfl) (.cons (c := [(I (w64 (x42 + x51)))]) rfl (.nil)) rfl) wn ?_
       rintro _ σ54 ⟨b53, rfl, H, -⟩
       obtain ⟨xs55, hx56, h'⟩ := bind_some h
       clear h
       have h := h'; clear h'
       refine st_ex (ex_append H (i := 2) rfl Try.underlying29 Try.underlying29 ti3 rfl rfl (by decide) (H.own 0 rfl).rd hx56 hn0 rfl rfl) wn ?_
       rintro _ σ59 ⟨a57, c58, rfl, H, -⟩
       refine st (v := (Sl a57 xs55 c58)) (rv_assign rfl) ?_
       refine w_end ?_
       refine q_blk ?_
       refine q_then ?_
       refine rg ?_
       refine st (v := (I (w64 (s46.2 + 1)))) (rv_add (a := s46.2) (b := 1) rfl rfl) ?_
       refine st (v := (I (w64 (s46.2 + 1)))) (rv_move rfl) ?_
       refine w_end ?_
       refine q_then ?_
       obtain rfl := Option.some.inj h
       exact ⟨_, rfl, _, σ59, a57, c58, fr_join ⟨rfl, rfl, rfl, rfl, rfl, rfl, rfl, trivial⟩, rfl, H.sel' [2, 0] rfl rfl⟩
      ·replace h := bif_f hb50 h
       refine c_exit ?_
       refine q_then_x ?_
       refine q_then_x ?_
       refine q_blk_hit ?_
       obtain rfl := Option.some.inj h
       obtain rfl := hres _ rfl
       exact ⟨rfl, _, σ47, a48, c49, fr_join ⟨rfl, rfl, rfl, rfl, trivial⟩, rfl, H.sel' [0, 1] rfl rfl⟩
     ·clear hj
      have h := h'
      clear h' H
      rintro e a w ⟨rfl, ρ, σ60, a61, c62, rfl, rfl, H⟩
      refine q_blk ?_
      refine q_then ?_
      refine rg ?_
      refine st (v := (I (w64 (s37.2 + 1)))) (rv_add (a := s37.2) (b := 1) rfl rfl) ?_
      refine st (v := (I (w64 (s37.2 + 1)))) (rv_move rfl) ?_
      refine w_end ?_
      refine q_then ?_
      obtain rfl := Option.some.inj h
      exact ⟨_, rfl, _, σ60, a61, c62, fr_join ⟨rfl, rfl, rfl, rfl, trivial⟩, rfl, H.sel' [0, 1] rfl rfl⟩
    ·replace h := bif_f hb41 h
     refine c_exit ?_
     refine q_then_x ?_
     refine q_then_x ?_
     refine q_blk_hit ?_
     obtain rfl := Option.some.inj h
     obtain rfl := hres _ rfl
     exact ⟨rfl, _, σ38, a39, c40, fr_join ⟨rfl, trivial⟩, rfl, H.sel' [1] rfl rfl⟩
   ·clear hj
    have h := h'
    clear h' H
    rintro e a w ⟨rfl, ρ, σ63, a64, c65, rfl, rfl, H⟩
    refine q_then ?_
    refine c_seq ?_
    refine rg ?_
    refine st (v := (Sl a64 o36 c65)) (rv_move rfl) ?_
    refine st (v := (Sl a64 o36 c65)) (rv_assign rfl) ?_
    refine w_end ?_
    refine q_then ?_
    refine c_ret ?_
    obtain rfl := Option.some.inj h
    exact fin_ret (v := (Sl a64 o36 c65)) (results_ok Try.results26 (res_tmp (v := (Sl a64 o36 c65)) rfl res_nil) rfl) ⟨a64, c65, rfl, rfl⟩ (H.sel' [0] rfl rfl)

theorem c_spec_inRange {n_0 : Int} {low_1 : Int} {high_2 : Int}  {r : Bool} (h : M.spec_inRange n_0 low_1 high_2 = some r) :
    Cal2 Try.prog 51 [(I n_0), (I low_1), (I high_2)] [] (fun n0 v L => v = (B r) ∧ L = []) := by
 refine cal2 (n := 15) Try.func51 rfl rfl rfl rfl ?_
 intro S0 σ0 n0 hn0 H
 unfold M.spec_inRange at h
 refine c_seq ?_
 refine rg ?_
 refine st (v := (B false)) (rv_assign rfl) ?_
 refine w_end ?_
 refine q_then ?_
 refine c_seq ?_
 refine rg ?_
 refine st (v := (I low_1)) (rv_move rfl) ?_
 refine st (v := (I n_0)) (rv_move rfl) ?_
 refine st (v := (B (decide (low_1 ≤ n_0)))) (rv_leq (a := low_1) (b := n_0) rfl rfl) ?_
 refine st (v := (B (decide (low_1 ≤ n_0)))) (rv_move rfl) ?_
 rcases Bool.eq_false_or_eq_true (decide (low_1 ≤ n_0)) with hb1 | hb1
 ·replace h := bif_t hb1 h
  refine st_g (v := (I n_0)) (congrArg some hb1) (rv_move rfl) ?_
  refine st_g (v := (I high_2)) (congrArg some hb1) (rv_move rfl) ?_
  refine st_g (v := (B (decide (n_0 ≤ high_2)))) (congrArg some hb1) (rv_leq (a := n_0) (b := high_2) rfl rfl) ?_
  refine st (v := (B (decide (n_0 ≤ high_2)))) (rv_pick_t (congrArg B hb1) rfl) ?_
  refine st (v := (B (decide (n_0 ≤ high_2)))) (rv_assign rfl) ?_
  refine w_end ?_
  refine q_then ?_
  refine c_ret ?_
  obtain rfl := Option.some.inj h
  exact fin_ret (v := (B (decide (n_0 ≤ high_2)))) (results_ok Try.results51 (res_tmp (v := (B (decide (n_0 ≤ high_2)))) rfl res_nil) rfl) ⟨rfl, rfl⟩ (H.sel' [] rfl rfl)
 ·replace h := bif_f hb1 h
  refine st_skip (congrArg some hb1) ?_
  refine st_skip (congrArg some hb1) ?_
  refine st_skip (congrArg some hb1) ?_
  refine st (v := (B false)) (rv_pick_f (congrArg B hb1) rfl) ?_
  refine st (v := (B false)) (rv_assign rfl) ?_
  refine w_end ?_
  refine q_then ?_
  refine c_ret ?_
  obtain rfl := Option.some.inj h
  exact fin_ret (v := (B false)) (results_ok Try.results51 (res_tmp (v := (B false)) rfl res_nil) rfl) ⟨rfl, rfl⟩ (H.sel' [] rfl rfl)

theorem c_spec_allIn {list_0 : List Int} {low_1 : Int} {high_2 : Int} {alist_0 : Option Addr} {clist_0 : Nat} {r : Bool} (h : M.spec_allIn list_0 low_1 high_2 = some r) :
    Cal2 Try.prog 69 [(Sl alist_0 list_0 clist_0), (I low_1), (I high_2)] [Ch.ro 0 (Sl alist_0 list_0 clist_0) list_0] (fun n0 v L => v = (B r) ∧ L = []) := by
 refine cal2 (n := 22) Try.func69 rfl rfl rfl rfl ?_
 intro S0 σ0 n0 hn0 H
 unfold M.spec_allIn at h
 refine c_seq ?_
 refine rg ?_
 refine st (v := (B false)) (rv_assign rfl) ?_
 refine w_end ?_
 refine q_then ?_
 refine c_seq ?_
 refine c_seq ?_
 refine rg ?_
 refine st (v := (I 0)) (rv_assign rfl) ?_
 refine w_end ?_
 refine q_then ?_
 obtain ⟨o1, hj, h'⟩ := bind_some h
 clear h
 refine c_cut (fun e a w => (∃ t, o1 = (.inl t) ∧ e = .normal ∧ ∃ (ρ : Nat → Value) (σ : St), a = fr 22 (updL ρ []) ∧ w = σ.w ∧ Hp S0 σ0 σ []) ∨ (∃ t, o1 = (.inr t) ∧ e = .ret ∧ ∃ (ρ : Nat → Value) (σ : St), a = fr 22 (updL ρ [(6, (B t))]) ∧ w = σ.w ∧ Hp S0 σ0 σ [])) ?_ ?_
 ·clear h'
  rename _ = some o1 => h
  refine c_blk ?_
  refine wp_loopM _ h (fun s2 a w => ∃ (ρ : Nat → Value) (σ : St), a = fr 22 (updL ρ [(0, (Sl alist_0 list_0 clist_0)), (1, (I low_1)), (2, (I high_2)), (7, (I s2))]) ∧ w = σ.w ∧ Hp S0 σ0 σ [Ch.ro 0 (Sl alist_0 list_0 clist_0) list_0]) ⟨_, σ0, fr_join ⟨rfl, rfl, rfl, rfl, trivial⟩, rfl, H.sel' [0] rfl rfl⟩ ?_
  clear h H
  rintro s2 a w o ⟨ρ, σ3, rfl, rfl, H⟩ h hres
  refine c_seq ?_
  refine c_seq ?_
  refine rg ?_
  refine st (v := (I s2)) (rv_move rfl) ?_
  refine st (v := (Sl alist_0 list_0 clist_0)) (rv_move rfl) ?_
  refine st (v := (I (list_0.length : Int))) (rv_len Try.underlying29 rfl) ?_
  refine st (v := (B (decide (s2 < (list_0.length : Int))))) (rv_lss (a := s2) (b := (list_0.length : Int)) rfl rfl) ?_
  refine w_end ?_
  refine q_then ?_
  refine cd_cond (decide (s2 < (list_0.length : Int))) rfl (fun hb4 => ?_) (fun hb4 => ?_)
  ·replace h := bif_t hb4 h
   refine c_skip ?_
   refine q_then ?_
   refine c_seq ?_
   refine c_blk ?_
   refine c_seq ?_
   refine rg ?_
   refine st (v := (Sl alist_0 list_0 clist_0)) (rv_move rfl) ?_
   refine st (v := (I s2)) (rv_move rfl) ?_
   obtain ⟨x5, hx6, h'⟩ := bind_some h
   clear h
   have h := h'; clear h'
   obtain ⟨b8, o9, hi7, -⟩ := (H.ro 0 rfl).ix hx6
   refine st (v := (pt b8 o9)) (rv_ix Try.underlying29 ti3 rfl rfl hi7) ?_
   have hc10 := ((H.ro 0 rfl).at hx6 hi7).int
   refine st (v := (I x5)) (rv_load1 Try.underlying3 rfl rfl hc10) ?_
   refine st (v := (I low_1)) (rv_move rfl) ?_
   refine st (v := (I high_2)) (rv_move rfl) ?_
   obtain ⟨r11, hx12, h'⟩ := bind_some h
   clear h
   have h := h'; clear h'
   have hc13 := c_spec_inRange hx12
   refine st_call (cx_call hc13 (ent_f hc13.fn rfl) hn0 (show Hp S0 σ0 _ ([] ++ [Ch.ro 0 (Sl alist_0 list_0 clist_0) list_0]) from (H.sel' [0] rfl rfl))) wn ?_
   rintro _ σ14 ⟨_, ⟨rfl, rfl⟩, H, -⟩
   replace H : Hp S0 σ0 σ14 [Ch.ro 0 (Sl alist_0 list_0 clist_0) list_0] := H
   refine st (v := (B (!r11))) (rv_not rfl) ?_
   refine w_end ?_
   refine q_then ?_
   refine cd_cond (!r11) rfl (fun hb15 => ?_) (fun hb15 => ?_)
   ·replace h := bif_t hb15 h
    refine c_seq ?_
    refine rg ?_
    refine st (v := (B false)) (rv_assign rfl) ?_
    refine w_end ?_
    refine q_then ?_
    refine c_ret ?_
    refine q_blk_r ?_
    refine q_then_r ?_
    refine q_then_r ?_
    refine q_blk_r ?_
    obtain rfl := Option.some.inj h
    obtain rfl := hres _ rfl
    exact .inr (⟨_, rfl, rfl, _, σ14, fr_join ⟨rfl, trivial⟩, rfl, H.sel' [] rfl rfl⟩)
   ·replace h := bif_f hb15 h
    refine c_skip ?_
    refine q_blk ?_
    refine q_then ?_
    refine rg ?_
    refine st (v := (I s2)) (rv_move rfl) ?_
    refine st (v := (I (w64 (s2 + 1)))) (rv_add (a := s2) (b := 1) rfl rfl) ?_
    refine st (v := (I (w64 (s2 + 1)))) (rv_assign rfl) ?_
    refine w_end ?_
    refine q_then ?_
    obtain rfl := Option.some.inj h
    exact ⟨_, rfl, _, σ14, fr_join ⟨rfl, rfl, rfl, rfl, trivial⟩, rfl, H.sel' [0] rfl rfl⟩
  ·replace h := bif_f hb4 h
   refine c_exit ?_
   refine q_then_x ?_
   refine q_then_x ?_
   refine q_blk_hit ?_
   obtain rfl := Option.some.inj h
   obtain rfl := hres _ rfl
   exact .inl ⟨_, rfl, rfl, _, σ3, fr_join trivial, rfl, H.sel' [] rfl rfl⟩
 ·clear hj
  have h := h'
  clear h' H
  rintro e a w (⟨t16, rfl, rfl, ρ, σ17, rfl, rfl, H⟩ | ⟨t18, rfl, rfl, ρ, σ19, rfl, rfl, H⟩)
  ·replace h := selim_l h
   refine q_then ?_
   refine c_seq ?_
   refine rg ?_
   refine st (v := (B true)) (rv_assign rfl) ?_
   refine w_end ?_
   refine q_then ?_
   refine c_ret ?_
   obtain rfl := Option.some.inj h
   exact fin_ret (v := (B true)) (results_ok Try.results69 (res_tmp (v := (B true)) rfl res_nil) rfl) ⟨rfl, rfl⟩ (H.sel' [] rfl rfl)
  ·replace h := selim_r h
   refine q_then_r ?_
   obtain rfl := Option.some.inj h
   exact fin_ret (v := (B t18)) (results_ok Try.results69 (res_tmp (v := (B t18)) rfl res_nil) rfl) ⟨rfl, rfl⟩ (H.sel' [] rfl rfl)

theorem c_spec_validHalves {list_0 : List (List Int)} {alist_0 : Option Addr} {clist_0 : Nat} {r : Bool} (h : M.spec_validHalves list_0 = some r) :
    Cal2 Try.prog 64 [(Sl alist_0 list_0 clist_0)] [Ch.ro 0 (Sl alist_0 list_0 clist_0) list_0] (fun n0 v L => v = (B r) ∧ L = []) := by
 refine cal2 (n := 24) Try.func64 rfl rfl rfl rfl ?_
 intro S0 σ0 n0 hn0 H
 unfold M.spec_validHalves at h
 refine c_seq ?_
 refine rg ?_
 refine st (v := (B false)) (rv_assign rfl) ?_
 refine w_end ?_
 refine q_then ?_
 refine c_seq ?_
 refine c_seq ?_
 refine rg ?_
 refine st (v := (I 0)) (rv_assign rfl) ?_
 refine w_end ?_
 refine q_then ?_
 obtain ⟨o1, hj, h'⟩ := bind_some h
 clear h
 refine c_cut (fun e a w => (∃ t, o1 = (.inl t) ∧ e = .normal ∧ ∃ (ρ : Nat → Value) (σ : St), a = fr 24 (updL ρ []) ∧ w = σ.w ∧ Hp S0 σ0 σ []) ∨ (∃ t, o1 = (.inr t) ∧ e = .ret ∧ ∃ (ρ : Nat → Value) (σ : St), a = fr 24 (updL ρ [(2, (B t))]) ∧ w = σ.w ∧ Hp S0 σ0 σ [])) ?_ ?_
 ·clear h'
  rename _ = some o1 => h
  refine c_blk ?_
  refine wp_loopM _ h (fun s2 a w => ∃ (ρ : Nat → Value) (σ : St), a = fr 24 (updL ρ [(0, (Sl alist_0 list_0 clist_0)), (3, (I s2))]) ∧ w = σ.w ∧ Hp S0 σ0 σ [Ch.ro 0 (Sl alist_0 list_0 clist_0) list_0]) ⟨_, σ0, fr_join ⟨rfl, rfl, trivial⟩, rfl, H.sel' [0] rfl rfl⟩ ?_
  clear h H
  rintro s2 a w o ⟨ρ, σ3, rfl, rfl, H⟩ h hres
  refine c_seq ?_
  refine c_seq ?_
  refine rg ?_
  refine st (v := (I s2)) (rv_move rfl) ?_
  refine st (v := (Sl alist_0 list_0 clist_0)) (rv_move rfl) ?_
  refine st (v := (I (list_0.length : Int))) (rv_len Try.underlying23 rfl) ?_
  refine st (v := (B (decide (s2 < (list_0.length : Int))))) (rv_lss (a := s2) (b := (list_0.length : Int)) rfl rfl) ?_
  refine w_end ?_
  refine q_then ?_
  refine cd_cond (decide (s2 < (list_0.length : Int))) rfl (fun hb4 => ?_) (fun hb4 => ?_)
  ·replace h := bif_t hb4 h
   refine c_skip ?_
   refine q_then ?_
   refine c_seq ?_
   refine c_blk ?_
   refine c_seq ?_
   obtain ⟨o5, hj, h'⟩ := bind_some h
   clear h
   refine c_cut (fun e a w => e = .normal ∧ ∃ (ρ : Nat → Value) (σ : St), a = fr 24 (updL ρ [(0, (Sl alist_0 list_0 clist_0)), (3, (I s2)), (23, (B o5))]) ∧ w = σ.w ∧ Hp S0 σ0 σ [Ch.ro 0 (Sl alist_0 list_0 clist_0) list_0]) ?_ ?_
   ·clear h'
    rename _ = some o5 => h
    refine rg ?_
    refine st (v := (Sl alist_0 list_0 clist_0)) (rv_move rfl) ?_
    refine st (v := (I s2)) (rv_move rfl) ?_
    obtain ⟨x6, hx7, h'⟩ := bind_some h
    clear h
    have h := h'; clear h'
    obtain ⟨b9, o10, hi8, -⟩ := (H.ro 0 rfl).ix hx7
    refine st (v := (pt b9 o10)) (rv_ix Try.underlying23 ti29 rfl rfl hi8) ?_
    obtain ⟨v14, hc15, hR13⟩ := ((H.ro 0 rfl).at hx7 hi8).slice
    obtain ⟨a11, c12, rfl⟩ := hR13.isSl
    replace H := H.add (d := Ch.ro 0 (Sl a11 x6 c12) x6) hR13 (fun _ h => h)
    clear hR13
    refine st (v := (Sl a11 x6 c12)) (rv_load1 Try.underlying29 rfl rfl hc15) ?_
    refine st (v := (I (x6.length : Int))) (rv_len Try.underlying29 rfl) ?_
    refine st (v := (B ((x6.length : Int) != 2))) (rv_neq (a := (x6.length : Int)) (b := 2) rfl rfl) ?_
    refine st (v := (B ((x6.length : Int) != 2))) (rv_move rfl) ?_
    rcases Bool.eq_false_or_eq_true ((x6.length : Int) != 2) with hb16 | hb16
    ·replace h := bif_t hb16 h
     refine st_skip (congrArg some hb16) ?_
     refine st_skip (congrArg some hb16) ?_
     refine st_skip (congrArg some hb16) ?_
     refine st_skip (congrArg some hb16) ?_
     refine st_skip (congrArg some hb16) ?_
     refine st_skip (congrArg some hb16) ?_
     refine st (v := (B true)) (rv_pick_t (congrArg B hb16) rfl) ?_
     refine w_end ?_
     obtain rfl := Option.some.inj h
     exact ⟨rfl, _, σ3, fr_join ⟨rfl, rfl, rfl, trivial⟩, rfl, H.sel' [1] rfl rfl⟩
    ·replace h := bif_f hb16 h
     refine st_g (v := (Sl alist_0 list_0 clist_0)) (congrArg some hb16) (rv_move rfl) ?_
     refine st_g (v := (I s2)) (congrArg some hb16) (rv_move rfl) ?_
     obtain ⟨x17, hx18, h'⟩ := bind_some h
     clear h
     have h := h'; clear h'
     obtain ⟨b20, o21, hi19, -⟩ := (H.ro 1 rfl).ix hx18
     refine st_g (v := (pt b20 o21)) (congrArg some hb16) (rv_ix Try.underlying23 ti29 rfl rfl hi19) ?_
     obtain ⟨v25, hc26, hR24⟩ := ((H.ro 1 rfl).at hx18 hi19).slice
     obtain ⟨a22, c23, rfl⟩ := hR24.isSl
     replace H := H.add (d := Ch.ro 0 (Sl a22 x17 c23) x17) hR24 (fun _ h => h)
     clear hR24
     refine st_g (v := (Sl a22 x17 c23)) (congrArg some hb16) (rv_load1 Try.underlying29 rfl rfl hc26) ?_
     obtain ⟨r27, hx28, h'⟩ := bind_some h
     clear h
     have h := h'; clear h'
     have hc29 := c_spec_allIn (alist_0 := a22) (clist_0 := c23) hx28
     refine st_call (cx_call hc29 (ent_f hc29.fn rfl) hn0 (show Hp S0 σ0 _ ([Ch.ro 0 (Sl a22 x17 c23) x17] ++ [Ch.ro 0 (Sl a22 x17 c23) x17, Ch.ro 0 (Sl a11 x6 c12) x6, Ch.ro 0 (Sl alist_0 list_0 clist_0) list_0]) from (H.sel' [0, 0, 1, 2] rfl rfl))) (wanted_yes rfl (by exact (congrArg some hb16))) ?_
     rintro _ σ30 ⟨_, ⟨rfl, rfl⟩, H, -⟩
     replace H : Hp S0 σ0 σ30 [Ch.ro 0 (Sl a22 x17 c23) x17, Ch.ro 0 (Sl a11 x6 c12) x6, Ch.ro 0 (Sl alist_0 list_0 clist_0) list_0] := H
     refine st_g (v := (B (!r27))) (congrArg some hb16) (rv_not rfl) ?_
     refine st (v := (B (!r27))) (rv_pick_f (congrArg B hb16) rfl) ?_
     refine w_end ?_
     obtain rfl := Option.some.inj h
     exact ⟨rfl, _, σ30, fr_join ⟨rfl, rfl, rfl, trivial⟩, rfl, H.sel' [2] rfl rfl⟩
   ·clear hj
    have h := h'
    clear h' H
    rintro e a w ⟨rfl, ρ, σ31, rfl, rfl, H⟩
    refine q_then ?_
    refine cd_cond o5 rfl (fun hb32 => ?_) (fun hb32 => ?_)
    ·replace h := bif_t hb32 h
     refine c_seq ?_
     refine rg ?_
     refine st (v := (B false)) (rv_assign rfl) ?_
     refine w_end ?_
     refine q_then ?_
     refine c_ret ?_
     refine q_blk_r ?_
     refine q_then_r ?_
     refine q_then_r ?_
     refine q_blk_r ?_
     obtain rfl := Option.some.inj h
     obtain rfl := hres _ rfl
     exact .inr (⟨_, rfl, rfl, _, σ31, fr_join ⟨rfl, trivial⟩, rfl, H.sel' [] rfl rfl⟩)
    ·replace h := bif_f hb32 h
     refine c_skip ?_
     refine q_blk ?_
     refine q_then ?_
     refine rg ?_
     refine st (v := (I s2)) (rv_move rfl) ?_
     refine st (v := (I (w64 (s2 + 1)))) (rv_add (a := s2) (b := 1) rfl rfl) ?_
     refine st (v := (I (w64 (s2 + 1)))) (rv_assign rfl) ?_
     refine w_end ?_
     refine q_then ?_
     obtain rfl := Option.some.inj h
     exact ⟨_, rfl, _, σ31, fr_join ⟨rfl, rfl, trivial⟩, rfl, H.sel' [0] rfl rfl⟩
  ·replace h := bif_f hb4 h
   refine c_exit ?_
   refine q_then_x ?_
   refine q_then_x ?_
   refine q_blk_hit ?_
   obtain rfl := Option.some.inj h
   obtain rfl := hres _ rfl
   exact .inl ⟨_, rfl, rfl, _, σ3, fr_join trivial, rfl, H.sel' [] rfl rfl⟩
 ·clear hj
  have h := h'
  clear h' H
  rintro e a w (⟨t33, rfl, rfl, ρ, σ34, rfl, rfl, H⟩ | ⟨t35, rfl, rfl, ρ, σ36, rfl, rfl, H⟩)
  ·replace h := selim_l h
   refine q_then ?_
   refine c_seq ?_
   refine rg ?_
   refine st (v := (B true)) (rv_assign rfl) ?_
   refine w_end ?_
   refine q_then ?_
   refine c_ret ?_
   obtain rfl := Option.some.inj h
   exact fin_ret (v := (B true)) (results_ok Try.results64 (res_tmp (v := (B true)) rfl res_nil) rfl) ⟨rfl, rfl⟩ (H.sel' [] rfl rfl)
  ·replace h := selim_r h
   refine q_then_r ?_
   obtain rfl := Option.some.inj h
   exact fin_ret (v := (B t35)) (results_ok Try.results64 (res_tmp (v := (B t35)) rfl res_nil) rfl) ⟨rfl, rfl⟩ (H.sel' [] rfl rfl)

theorem c_spec_validBook {b_0 : (List (List Int)) × (List (List Int))} {ab_0_0 : Option Addr} {cb_0_0 : Nat} {ab_0_1 : Option Addr} {cb_0_1 : Nat} {r : Bool} (h : M.spec_validBook b_0 = some r) :
    Cal2 Try.prog 41 [(.agg #[(Sl ab_0_0 b_0.1 cb_0_0), (Sl ab_0_1 b_0.2 cb_0_1)])] [Ch.ro 0 (Sl ab_0_0 b_0.1 cb_0_0) b_0.1, Ch.ro 0 (Sl ab_0_1 b_0.2 cb_0_1) b_0.2] (fun n0 v L => v = (B r) ∧ L = []) := by
 refine cal2 (n := 23) Try.func41 rfl rfl rfl rfl ?_
 intro S0 σ0 n0 hn0 H
 unfold M.spec_validBook at h
 refine c_seq ?_
 refine rg ?_
 refine st_ex (ex_box (cs := [(Sl ab_0_0 b_0.1 cb_0_0), (Sl ab_0_1 b_0.2 cb_0_1)]) H hn0 rfl rfl) wn ?_
 rintro _ σ2 ⟨b1, rfl, H, -⟩
 refine st (v := (B false)) (rv_assign rfl) ?_
 refine w_end ?_
 refine q_then ?_
 refine c_seq ?_
 refine rg ?_
 refine st (v := (pt b1 0)) (rv_fieldAddr (off := 0) (ft := 23) Try.underlying25 rfl ti23 rfl rfl) ?_
 have hc3 := H.cell (u := (Sl ab_0_0 b_0.1 cb_0_0)) (o' := 0) 0 0 rfl rfl rfl
 refine st (v := (Sl ab_0_0 b_0.1 cb_0_0)) (rv_load1 Try.underlying23 rfl rfl hc3) ?_
 refine st (v := (I (b_0.1.length : Int))) (rv_len Try.underlying23 rfl) ?_
 refine st (v := (B ((b_0.1.length : Int) == 4))) (rv_eql (a := (b_0.1.length : Int)) (b := 4) rfl rfl) ?_
 refine st (v := (B ((b_0.1.length : Int) == 4))) (rv_move rfl) ?_
 rcases Bool.eq_false_or_eq_true ((b_0.1.length : Int) == 4) with hb4 | hb4
 ·replace h := bif_t hb4 h
  refine st_g (v := (pt b1 1)) (congrArg some hb4) (rv_fieldAddr (off := 1) (ft := 23) Try.underlying25 rfl ti23 rfl rfl) ?_
  have hc5 := H.cell (u := (Sl ab_0_1 b_0.2 cb_0_1)) (o' := 1) 0 1 rfl rfl rfl
  refine st_g (v := (Sl ab_0_1 b_0.2 cb_0_1)) (congrArg some hb4) (rv_load1 Try.underlying23 rfl rfl hc5) ?_
  refine st_g (v := (I (b_0.2.length : Int))) (congrArg some hb4) (rv_len Try.underlying23 rfl) ?_
  refine st_g (v := (B ((b_0.2.length : Int) == 4))) (congrArg some hb4) (rv_eql (a := (b_0.2.length : Int)) (b := 4) rfl rfl) ?_
  refine st (v := (B ((b_0.2.length : Int) == 4))) (rv_pick_t (congrArg B hb4) rfl) ?_
  refine st (v := (B ((b_0.2.length : Int) == 4))) (rv_move rfl) ?_
  rcases Bool.eq_false_or_eq_true ((b_0.2.length : Int) == 4) with hb6 | hb6
  ·replace h := bif_t hb6 h
   refine st_g (v := (pt b1 0)) (congrArg some hb6) (rv_fieldAddr (off := 0) (ft := 23) Try.underlying25 rfl ti23 rfl rfl) ?_
   have hc7 := H.cell (u := (Sl ab_0_0 b_0.1 cb_0_0)) (o' := 0) 0 0 rfl rfl rfl
   refine st_g (v := (Sl ab_0_0 b_0.1 cb_0_0)) (congrArg some hb6) (rv_load1 Try.underlying23 rfl rfl hc7) ?_
   obtain ⟨r8, hx9, h'⟩ := bind_some h
   clear h
   have h := h'; clear h'
   have hc10 := c_spec_validHalves (alist_0 := ab_0_0) (clist_0 := cb_0_0) hx9
   refine st_call (cx_call hc10 (ent_f hc10.fn rfl) hn0 (show Hp S0 σ0 _ ([Ch.ro 0 (Sl ab_0_0 b_0.1 cb_0_0) b_0.1] ++ [Ch.bx n0 b1 0 [(Sl ab_0_0 b_0.1 cb_0_0), (Sl ab_0_1 b_0.2 cb_0_1)] [] [], Ch.ro 0 (Sl ab_0_0 b_0.1 cb_0_0) b_0.1, Ch.ro 0 (Sl ab_0_1 b_0.2 cb_0_1) b_0.2]) from (H.sel' [1, 0, 1, 2] rfl rfl))) (wanted_yes rfl (by exact (congrArg some hb6))) ?_
   rintro _ σ11 ⟨_, ⟨rfl, rfl⟩, H, -⟩
   replace H : Hp S0 σ0 σ11 [Ch.bx n0 b1 0 [(Sl ab_0_0 b_0.1 cb_0_0), (Sl ab_0_1 b_0.2 cb_0_1)] [] [], Ch.ro 0 (Sl ab_0_0 b_0.1 cb_0_0) b_0.1, Ch.ro 0 (Sl ab_0_1 b_0.2 cb_0_1) b_0.2] := H
   refine st (v := (B r8)) (rv_pick_t (congrArg B hb6) rfl) ?_
   refine st (v := (B r8)) (rv_move rfl) ?_
   rcases Bool.eq_false_or_eq_true r8 with hb12 | hb12
   ·replace h := bif_t hb12 h
    refine st_g (v := (pt b1 1)) (congrArg some hb12) (rv_fieldAddr (off := 1) (ft := 23) Try.underlying25 rfl ti23 rfl rfl) ?_
    have hc13 := H.cell (u := (Sl ab_0_1 b_0.2 cb_0_1)) (o' := 1) 0 1 rfl rfl rfl
    refine st_g (v := (Sl ab_0_1 b_0.2 cb_0_1)) (congrArg some hb12) (rv_load1 Try.underlying23 rfl rfl hc13) ?_
    obtain ⟨r14, hx15, h'⟩ := bind_some h
    clear h
    have h := h'; clear h'
    have hc16 := c_spec_validHalves (alist_0 := ab_0_1) (clist_0 := cb_0_1) hx15
    refine st_call (cx_call hc16 (ent_f hc16.fn rfl) hn0 (show Hp S0 σ0 _ ([Ch.ro 0 (Sl ab_0_1 b_0.2 cb_0_1) b_0.2] ++ [Ch.bx n0 b1 0 [(Sl ab_0_0 b_0.1 cb_0_0), (Sl ab_0_1 b_0.2 cb_0_1)] [] [], Ch.ro 0 (Sl ab_0_0 b_0.1 cb_0_0) b_0.1, Ch.ro 0 (Sl ab_0_1 b_0.2 cb_0_1) b_0.2]) from (H.sel' [2, 0, 1, 2] rfl rfl))) (wanted_yes rfl (by exact (congrArg some hb12))) ?_
    rintro _ σ17 ⟨_, ⟨rfl, rfl⟩, H, -⟩
    replace H : Hp S0 σ0 σ17 [Ch.bx n0 b1 0 [(Sl ab_0_0 b_0.1 cb_0_0), (Sl ab_0_1 b_0.2 cb_0_1)] [] [], Ch.ro 0 (Sl ab_0_0 b_0.1 cb_0_0) b_0.1, Ch.ro 0 (Sl ab_0_1 b_0.2 cb_0_1) b_0.2] := H
    refine st (v := (B r14)) (rv_pick_t (congrArg B hb12) rfl) ?_
    refine st (v := (B r14)) (rv_assign rfl) ?_
    refine w_end ?_
    refine q_then ?_
    refine c_ret ?_
    obtain rfl := Option.some.inj h
    exact fin_ret (v := (B r14)) (results_ok Try.results41 (res_tmp (v := (B r14)) rfl res_nil) rfl) ⟨rfl, rfl⟩ (H.sel' [] rfl rfl)
   ·replace h := bif_f hb12 h
    refine st_skip (congrArg some hb12) ?_
    refine st_skip (congrArg some hb12) ?_
    refine st_skip (congrArg some hb12) ?_
    refine st (v := (B false)) (rv_pick_f (congrArg B hb12) rfl) ?_
    refine st (v := (B false)) (rv_assign rfl) ?_
    refine w_end ?_
    refine q_then ?_
    refine c_ret ?_
    obtain rfl := Option.some.inj h
    exact fin_ret (v := (B false)) (results_ok Try.results41 (res_tmp (v := (B false)) rfl res_nil) rfl) ⟨rfl, rfl⟩ (H.sel' [] rfl rfl)
  ·replace h := bif_f hb6 h
   refine st_skip (congrArg some hb6) ?_
   refine st_skip (congrArg some hb6) ?_
   refine st_skip (congrArg some hb6) ?_
   refine st (v := (B false)) (rv_pick_f (congrArg B hb6) rfl) ?_
   refine st (v := (B false)) (rv_move rfl) ?_
   refine st_skip rfl ?_
   refine st_skip rfl ?_
   refine st_skip rfl ?_
   refine st (v := (B false)) (rv_pick_f rfl rfl) ?_
   refine st (v := (B false)) (rv_assign rfl) ?_
   refine w_end ?_
   refine q_then ?_
   refine c_ret ?_
   obtain rfl := Option.some.inj h
   exact fin_ret (v := (B false)) (results_ok Try.results41 (res_tmp (v := (B false)) rfl res_nil) rfl) ⟨rfl, rfl⟩ (H.sel' [] rfl rfl)
 ·replace h := bif_f hb4 h
  refine st_skip (congrArg some hb4) ?_
  refine st_skip (congrArg some hb4) ?_
  refine st_skip (congrArg some hb4) ?_
  refine st_skip (congrArg some hb4) ?_
  refine st (v := (B false)) (rv_pick_f (congrArg B hb4) rfl) ?_
  refine st (v := (B false)) (rv_move rfl) ?_
  refine st_skip rfl ?_
  refine st_skip rfl ?_
  refine st_skip rfl ?_
  refine st (v := (B false)) (rv_pick_f rfl rfl) ?_
  refine st (v := (B false)) (rv_move rfl) ?_
  refine st_skip rfl ?_
  refine st_skip rfl ?_
  refine st_skip rfl ?_
  refine st (v := (B false)) (rv_pick_f rfl rfl) ?_
  refine st (v := (B false)) (rv_assign rfl) ?_
  refine w_end ?_
  refine q_then ?_
  refine c_ret ?_
  obtain rfl := Option.some.inj h
  exact fin_ret (v := (B false)) (results_ok Try.results41 (res_tmp (v := (B false)) rfl res_nil) rfl) ⟨rfl, rfl⟩ (H.sel' [] rfl rfl)

theorem c_spec_isVector {v_0 : List Int} {av_0 : Option Addr} {cv_0 : Nat} {r : Bool} (h : M.spec_isVector v_0 = some r) :
    Cal2 Try.prog 45 [(Sl av_0 v_0 cv_0)] [Ch.ro 0 (Sl av_0 v_0 cv_0) v_0] (fun n0 v L => v = (B r) ∧ L = []) := by
 refine cal2 (n := 10) Try.func45 rfl rfl rfl rfl ?_
 intro S0 σ0 n0 hn0 H
 unfold M.spec_isVector at h
 refine c_seq ?_
 refine rg ?_
 refine st (v := (B false)) (rv_assign rfl) ?_
 refine w_end ?_
 refine q_then ?_
 refine c_seq ?_
 refine rg ?_
 refine st (v := (Sl av_0 v_0 cv_0)) (rv_move rfl) ?_
 refine st (v := (I (v_0.length : Int))) (rv_len Try.underlying29 rfl) ?_
 refine st (v := (B ((v_0.length : Int) == 4))) (rv_eql (a := (v_0.length : Int)) (b := 4) rfl rfl) ?_
 refine st (v := (B ((v_0.length : Int) == 4))) (rv_move rfl) ?_
 rcases Bool.eq_false_or_eq_true ((v_0.length : Int) == 4) with hb1 | hb1
 ·replace h := bif_t hb1 h
  refine st_g (v := (Sl av_0 v_0 cv_0)) (congrArg some hb1) (rv_move rfl) ?_
  obtain ⟨r2, hx3, h'⟩ := bind_some h
  clear h
  have h := h'; clear h'
  have hc4 := c_spec_allIn (alist_0 := av_0) (clist_0 := cv_0) hx3
  refine st_call (cx_call hc4 (ent_f hc4.fn rfl) hn0 (show Hp S0 σ0 _ ([Ch.ro 0 (Sl av_0 v_0 cv_0) v_0] ++ [Ch.ro 0 (Sl av_0 v_0 cv_0) v_0]) from (H.sel' [0, 0] rfl rfl))) (wanted_yes rfl (by exact (congrArg some hb1))) ?_
  rintro _ σ5 ⟨_, ⟨rfl, rfl⟩, H, -⟩
  replace H : Hp S0 σ0 σ5 [Ch.ro 0 (Sl av_0 v_0 cv_0) v_0] := H
  refine st (v := (B r2)) (rv_pick_t (congrArg B hb1) rfl) ?_
  refine st (v := (B r2)) (rv_assign rfl) ?_
  refine w_end ?_
  refine q_then ?_
  refine c_ret ?_
  obtain rfl := Option.some.inj h
  exact fin_ret (v := (B r2)) (results_ok Try.results45 (res_tmp (v := (B r2)) rfl res_nil) rfl) ⟨rfl, rfl⟩ (H.sel' [] rfl rfl)
 ·replace h := bif_f hb1 h
  refine st_skip (congrArg some hb1) ?_
  refine st_skip (congrArg some hb1) ?_
  refine st (v := (B false)) (rv_pick_f (congrArg B hb1) rfl) ?_
  refine st (v := (B false)) (rv_assign rfl) ?_
  refine w_end ?_
  refine q_then ?_
  refine c_ret ?_
  obtain rfl := Option.some.inj h
  exact fin_ret (v := (B false)) (results_ok Try.results45 (res_tmp (v := (B false)) rfl res_nil) rfl) ⟨rfl, rfl⟩ (H.sel' [] rfl rfl)

theorem c_spec_decode {b_0 : (List (List Int)) × (List (List Int))} {code_1 : Int} {ab_0_0 : Option Addr} {cb_0_0 : Nat} {ab_0_1 : Option Addr} {cb_0_1 : Nat} {r : (List Int)} (h : M.spec_decode b_0 code_1 = some r) :
    Cal2 Try.prog 52 [(.agg #[(Sl ab_0_0 b_0.1 cb_0_0), (Sl ab_0_1 b_0.2 cb_0_1)]), (I code_1)] [Ch.ro 0 (Sl ab_0_0 b_0.1 cb_0_0) b_0.1, Ch.ro 0 (Sl ab_0_1 b_0.2 cb_0_1) b_0.2] (fun n0 v L => ∃ (az1 : Option Addr), ∃ (cz2 : Nat), v = (Sl az1 r cz2) ∧ L = [Ch.own n0 n0 (Sl az1 r cz2) r]) := by
 refine cal2 (n := 20) Try.func52 rfl rfl rfl rfl ?_
 intro S0 σ0 n0 hn0 H
 unfold M.spec_decode at h
 refine c_seq ?_
 refine rg ?_
 refine st_ex (ex_box (cs := [(Sl ab_0_0 b_0.1 cb_0_0), (Sl ab_0_1 b_0.2 cb_0_1)]) H hn0 rfl rfl) wn ?_
 rintro _ σ2 ⟨b1, rfl, H, -⟩
 refine st (v := (.slice none 0 0)) (rv_assign rfl) ?_
 refine w_end ?_
 refine q_then ?_
 refine c_seq ?_
 have hc4 := H.cell (u := (Sl ab_0_0 b_0.1 cb_0_0)) (o' := 0) 0 0 rfl rfl rfl
 obtain ⟨x5, hx6, h'⟩ := bind_some h
 clear h
 have h := h'; clear h'
 obtain ⟨b8, o9, hi7, -⟩ := (H.ro 1 rfl).ix hx6
 obtain ⟨v13, hc14, hR12⟩ := ((H.ro 1 rfl).at hx6 hi7).slice
 obtain ⟨a10, c11, rfl⟩ := hR12.isSl
 replace H := H.add (d := Ch.ro 0 (Sl a10 x5 c11) x5) hR12 (fun _ h => h)
 clear hR12
 obtain ⟨xs15, hx16, h'⟩ := bind_some h
 clear h
 have h := h'; clear h'
 have hc19 := H.cell (u := (Sl ab_0_1 b_0.2 cb_0_1)) (o' := 1) 1 1 rfl rfl rfl
 obtain ⟨x20, hx21, h'⟩ := bind_some h
 clear h
 have h := h'; clear h'
 obtain ⟨b23, o24, hi22, -⟩ := (H.ro 3 rfl).ix hx21
 obtain ⟨v28, hc29, hR27⟩ := ((H.ro 3 rfl).at hx21 hi22).slice
 obtain ⟨a25, c26, rfl⟩ := hR27.isSl
 replace H := H.add (d := Ch.ro 0 (Sl a25 x20 c26) x20) hR27 (fun _ h => h)
 clear hR27
 have Hs := H
 refine rg2 (σ := σ2) (Nm := (Nat) × (Option Addr) × (Nat)) 14 [0, 7] [[false, false], [true, false], [true, true]] [[(0, 1)], [(0, 0), (1, 1)], [(0, 0), (1, 1)], [(0, 0), (1, 1)], [(0, 0), (1, 1)], [(0, 0), (1, 1)], [(0, 0), (1, 1)], [(1, 2)], [(0, 0), (1, 1), (2, 2)], [(0, 0), (1, 1), (2, 2)], [(0, 0), (1, 1), (2, 2)], [(0, 0), (1, 1), (2, 2)], [(0, 0), (1, 1), (2, 2)], [(0, 0), (1, 1), (2, 2)]] 2 [fun ((b3, a17, c18) : (Nat) × (Option Addr) × (Nat)) => fun σm => Hp S0 σ0 σm [Ch.ro 0 (Sl a25 x20 c26) x20, Ch.ro 0 (Sl a10 x5 c11) x5, Ch.bx n0 b1 0 [(Sl ab_0_0 b_0.1 cb_0_0), (Sl ab_0_1 b_0.2 cb_0_1)] [] [], Ch.ro 0 (Sl ab_0_0 b_0.1 cb_0_0) b_0.1, Ch.ro 0 (Sl ab_0_1 b_0.2 cb_0_1) b_0.2] ∧ Md (cov []) σ2 σm, fun ((b3, a17, c18) : (Nat) × (Option Addr) × (Nat)) => fun σm => Hp S0 σ0 σm [Ch.own n0 n0 (Sl (some ⟨b3, 0, none⟩) ([] : List Int) 0) ([] : List Int), Ch.ro 0 (Sl a25 x20 c26) x20, Ch.ro 0 (Sl a10 x5 c11) x5, Ch.bx n0 b1 0 [(Sl ab_0_0 b_0.1 cb_0_0), (Sl ab_0_1 b_0.2 cb_0_1)] [] [], Ch.ro 0 (Sl ab_0_0 b_0.1 cb_0_0) b_0.1, Ch.ro 0 (Sl ab_0_1 b_0.2 cb_0_1) b_0.2] ∧ Md (cov []) σ2 σm, fun ((b3, a17, c18) : (Nat) × (Option Addr) × (Nat)) => fun σm => Hp S0 σ0 σm [Ch.own n0 n0 (Sl a17 xs15 c18) xs15, Ch.ro 0 (Sl a25 x20 c26) x20, Ch.ro 0 (Sl a10 x5 c11) x5, Ch.bx n0 b1 0 [(Sl ab_0_0 b_0.1 cb_0_0), (Sl ab_0_1 b_0.2 cb_0_1)] [] [], Ch.ro 0 (Sl ab_0_0 b_0.1 cb_0_0) b_0.1, Ch.ro 0 (Sl ab_0_1 b_0.2 cb_0_1) b_0.2] ∧ Md (fun i => (cov []) i ∨ (fun b => blk (Sl (some ⟨b3, 0, none⟩) ([] : List Int) 0) = some b) i) σ2 σm] [fun ((b3, a17, c18) : (Nat) × (Option Addr) × (Nat)) => (Sl (some ⟨b3, 0, none⟩) ([] : List Int) 0), fun ((b3, a17, c18) : (Nat) × (Option Addr) × (Nat)) => (pt b1 0), fun ((b3, a17, c18) : (Nat) × (Option Addr) × (Nat)) => (Sl ab_0_0 b_0.1 cb_0_0), fun ((b3, a17, c18) : (Nat) × (Option Addr) × (Nat)) => (I code_1), fun ((b3, a17, c18) : (Nat) × (Option Addr) × (Nat)) => (I (w64 (code_1.tdiv 4))), fun ((b3, a17, c18) : (Nat) × (Option Addr) × (Nat)) => (pt b8 o9), fun ((b3, a17, c18) : (Nat) × (Option Addr) × (Nat)) => (Sl a10 x5 c11), fun ((b3, a17, c18) : (Nat) × (Option Addr) × (Nat)) => (Sl a17 xs15 c18), fun ((b3, a17, c18) : (Nat) × (Option Addr) × (Nat)) => (pt b1 1), fun ((b3, a17, c18) : (Nat) × (Option Addr) × (Nat)) => (Sl ab_0_1 b_0.2 cb_0_1), fun ((b3, a17, c18) : (Nat) × (Option Addr) × (Nat)) => (I code_1), fun ((b3, a17, c18) : (Nat) × (Option Addr) × (Nat)) => (I (code_1.tmod 4)), fun ((b3, a17, c18) : (Nat) × (Option Addr) × (Nat)) => (pt b23 o24), fun ((b3, a17, c18) : (Nat) × (Option Addr) × (Nat)) => (Sl a25 x20 c26)] (0, none, 0) (by kernel_rfl) (by kernel_rfl) ?_ ?_ ?_
 ·intro σm m0
  exact ⟨H.grow (m0.mono fun _ h => h.elim), m0⟩
 ·refine all_cons (by
    refine ⟨?_, ?_⟩
    ·rintro ⟨b3, a17, c18⟩ ρ σm hJ hoff hdep
     obtain ⟨H, m⟩ := id hJ
     refine dp_ex wn (ex_buildSlice (el := n0) (xs := ([] : List Int)) (ps := []) (cs := []) H hn0 Try.underlying29 ti3 rfl rfl (by kernel_rfl) (.nil) rfl) ?_
     rintro _ σq ⟨b3x, rfl, H2, m2⟩
     exact ⟨_, (b3x, a17, c18), rfl, rfl, ⟨H2.sel' [0, 1, 2, 3, 4, 5] rfl rfl, m.comp0 m2⟩, stab [1, 2, 3, 4, 5, 6, 8, 9, 10, 11, 12, 13] (by kernel_rfl) ⟨rfl, rfl, rfl, rfl, rfl, rfl, rfl, rfl, rfl, rfl, rfl, rfl, trivial⟩⟩
    trivial) ?_
  refine ac rfl (by
    intro k; rintro ⟨b3, a17, c18⟩ ρ σm hJ hoff hdep
    have e2 := look_off (N := 20) (hoff 2 rfl) rfl
    exact dp_v (v := (pt b1 0)) wn (rv_fieldAddr (off := 0) (ft := 23) Try.underlying25 rfl ti23 rfl e2) rfl hJ) ?_
  refine all_cons (by
    refine ⟨?_, ?_⟩
    ·rintro ⟨b3, a17, c18⟩ ρ σm hJ hoff hdep
     have e6 := hdep 1 rfl rfl 6 rfl
     obtain ⟨H, m⟩ := id hJ
     have hc4 := H.cell (u := (Sl ab_0_0 b_0.1 cb_0_0)) (o' := 0) 2 0 rfl rfl rfl
     exact dp_v (v := (Sl ab_0_0 b_0.1 cb_0_0)) wn (rv_load1 Try.underlying23 rfl e6 hc4) rfl hJ
    refine ⟨?_, ?_⟩
    ·rintro ⟨b3, a17, c18⟩ ρ σm hJ hoff hdep
     have e6 := hdep 1 rfl rfl 6 rfl
     obtain ⟨H, m⟩ := id hJ
     have hc4 := H.cell (u := (Sl ab_0_0 b_0.1 cb_0_0)) (o' := 0) 3 0 rfl rfl rfl
     exact dp_v (v := (Sl ab_0_0 b_0.1 cb_0_0)) wn (rv_load1 Try.underlying23 rfl e6 hc4) rfl hJ
    trivial) ?_
  refine ac rfl (by
    intro k; rintro ⟨b3, a17, c18⟩ ρ σm hJ hoff hdep
    have e1 := look_off (N := 20) (hoff 1 rfl) rfl
    exact dp_v (v := (I code_1)) wn (rv_move e1) rfl hJ) ?_
  refine ac rfl (by
    intro k; rintro ⟨b3, a17, c18⟩ ρ σm hJ hoff hdep
    have e8 := hdep 3 rfl rfl 8 rfl
    exact dp_v (v := (I (w64 (code_1.tdiv 4)))) wn (rv_quo (a := code_1) (b := 4) e8 rfl (by decide)) rfl hJ) ?_
  refine ac rfl (by
    intro k; rintro ⟨b3, a17, c18⟩ ρ σm hJ hoff hdep
    have e7 := hdep 2 rfl rfl 7 rfl
    have e9 := hdep 4 rfl rfl 9 rfl
    exact dp_v (v := (pt b8 o9)) wn (rv_ix Try.underlying23 ti29 e7 e9 hi7) rfl hJ) ?_
  refine all_cons (by
    refine ⟨?_, ?_⟩
    ·rintro ⟨b3, a17, c18⟩ ρ σm hJ hoff hdep
     have e10 := hdep 5 rfl rfl 10 rfl
     obtain ⟨H, m⟩ := id hJ
     replace hc14 := (Hs.ro 3 rfl).hmd hx6 hi7 (k := 0) (by decide) hc14 m
     exact dp_v (v := (Sl a10 x5 c11)) wn (rv_load1 Try.underlying29 rfl e10 hc14) rfl hJ
    refine ⟨?_, ?_⟩
    ·rintro ⟨b3, a17, c18⟩ ρ σm hJ hoff hdep
     have e10 := hdep 5 rfl rfl 10 rfl
     obtain ⟨H, m⟩ := id hJ
     replace hc14 := (Hs.ro 3 rfl).hmd hx6 hi7 (k := 0) (by decide) hc14 m
     exact dp_v (v := (Sl a10 x5 c11)) wn (rv_load1 Try.underlying29 rfl e10 hc14) rfl hJ
    trivial) ?_
  refine all_cons (by
    refine ⟨?_, ?_⟩
    ·rintro ⟨b3, a17, c18⟩ ρ σm hJ hoff hdep
     have e5 := hdep 0 rfl rfl 5 rfl
     have e11 := hdep 6 rfl rfl 11 rfl
     obtain ⟨H, m⟩ := id hJ
     refine dp_ex wn (ex_append H (i := 0) rfl Try.underlying29 Try.underlying29 ti3 rfl rfl (by decide) ((H.ro 2 rfl).rd.sc) hx16 hn0 e5 e11) ?_
     rintro _ σq ⟨a17x, c18x, rfl, H2, m2⟩
     exact ⟨_, (b3, a17x, c18x), rfl, rfl, ⟨H2.sel' [0, 1, 2, 3, 4, 5] rfl rfl, m.comp m2⟩, stab [0, 1, 2, 3, 4, 5, 6, 8, 9, 10, 11, 12, 13] (by kernel_rfl) ⟨rfl, rfl, rfl, rfl, rfl, rfl, rfl, rfl, rfl, rfl, rfl, rfl, rfl, trivial⟩⟩
    trivial) ?_
  refine ac rfl (by
    intro k; rintro ⟨b3, a17, c18⟩ ρ σm hJ hoff hdep
    have e2 := look_off (N := 20) (hoff 2 rfl) rfl
    exact dp_v (v := (pt b1 1)) wn (rv_fieldAddr (off := 1) (ft := 23) Try.underlying25 rfl ti23 rfl e2) rfl hJ) ?_
  refine all_cons (by
    refine ⟨?_, ?_⟩
    ·rintro ⟨b3, a17, c18⟩ ρ σm hJ hoff hdep
     have e13 := hdep 8 rfl rfl 13 rfl
     obtain ⟨H, m⟩ := id hJ
     have hc19 := H.cell (u := (Sl ab_0_1 b_0.2 cb_0_1)) (o' := 1) 2 1 rfl rfl rfl
     exact dp_v (v := (Sl ab_0_1 b_0.2 cb_0_1)) wn (rv_load1 Try.underlying23 rfl e13 hc19) rfl hJ
    refine ⟨?_, ?_⟩
    ·rintro ⟨b3, a17, c18⟩ ρ σm hJ hoff hdep
     have e13 := hdep 8 rfl rfl 13 rfl
     obtain ⟨H, m⟩ := id hJ
     have hc19 := H.cell (u := (Sl ab_0_1 b_0.2 cb_0_1)) (o' := 1) 3 1 rfl rfl rfl
     exact dp_v (v := (Sl ab_0_1 b_0.2 cb_0_1)) wn (rv_load1 Try.underlying23 rfl e13 hc19) rfl hJ
    refine ⟨?_, ?_⟩
    ·rintro ⟨b3, a17, c18⟩ ρ σm hJ hoff hdep
     have e13 := hdep 8 rfl rfl 13 rfl
     obtain ⟨H, m⟩ := id hJ
     have hc19 := H.cell (u := (Sl ab_0_1 b_0.2 cb_0_1)) (o' := 1) 3 1 rfl rfl rfl
     exact dp_v (v := (Sl ab_0_1 b_0.2 cb_0_1)) wn (rv_load1 Try.underlying23 rfl e13 hc19) rfl hJ
    trivial) ?_
  refine ac rfl (by
    intro k; rintro ⟨b3, a17, c18⟩ ρ σm hJ hoff hdep
    have e1 := look_off (N := 20) (hoff 1 rfl) rfl
    exact dp_v (v := (I code_1)) wn (rv_move e1) rfl hJ) ?_
  refine ac rfl (by
    intro k; rintro ⟨b3, a17, c18⟩ ρ σm hJ hoff hdep
    have e15 := hdep 10 rfl rfl 15 rfl
    exact dp_v (v := (I (code_1.tmod 4))) wn (rv_rem (a := code_1) (b := 4) e15 rfl (by decide)) rfl hJ) ?_
  refine ac rfl (by
    intro k; rintro ⟨b3, a17, c18⟩ ρ σm hJ hoff hdep
    have e14 := hdep 9 rfl rfl 14 rfl
    have e16 := hdep 11 rfl rfl 16 rfl
    exact dp_v (v := (pt b23 o24)) wn (rv_ix Try.underlying23 ti29 e14 e16 hi22) rfl hJ) ?_
  refine all_cons (by
    refine ⟨?_, ?_⟩
    ·rintro ⟨b3, a17, c18⟩ ρ σm hJ hoff hdep
     have e17 := hdep 12 rfl rfl 17 rfl
     obtain ⟨H, m⟩ := id hJ
     replace hc29 := (Hs.ro 4 rfl).hmd hx21 hi22 (k := 0) (by decide) hc29 m
     exact dp_v (v := (Sl a25 x20 c26)) wn (rv_load1 Try.underlying29 rfl e17 hc29) rfl hJ
    refine ⟨?_, ?_⟩
    ·rintro ⟨b3, a17, c18⟩ ρ σm hJ hoff hdep
     have e17 := hdep 12 rfl rfl 17 rfl
     obtain ⟨H, m⟩ := id hJ
     replace hc29 := (Hs.ro 4 rfl).hmd hx21 hi22 (k := 0) (by decide) hc29 m
     exact dp_v (v := (Sl a25 x20 c26)) wn (rv_load1 Try.underlying29 rfl e17 hc29) rfl hJ
    refine ⟨?_, ?_⟩
    ·rintro ⟨b3, a17, c18⟩ ρ σm hJ hoff hdep
     have e17 := hdep 12 rfl rfl 17 rfl
     obtain ⟨H, m⟩ := id hJ
     replace hc29 := (Hs.ro 4 rfl).hmd hx21 hi22 (k := 0) (by decide) hc29 m
     exact dp_v (v := (Sl a25 x20 c26)) wn (rv_load1 Try.underlying29 rfl e17 hc29) rfl hJ
    trivial) ?_
  exact all_nil
 ·rintro ⟨b3, a17, c18⟩ ρ σ30 hJ hoff hrel
  have e12 := hrel 7 rfl 12 rfl
  have e18 := hrel 13 rfl 18 rfl
  obtain ⟨H, -⟩ := (show Hp S0 σ0 σ30 [Ch.own n0 n0 (Sl a17 xs15 c18) xs15, Ch.ro 0 (Sl a25 x20 c26) x20, Ch.ro 0 (Sl a10 x5 c11) x5, Ch.bx n0 b1 0 [(Sl ab_0_0 b_0.1 cb_0_0), (Sl ab_0_1 b_0.2 cb_0_1)] [] [], Ch.ro 0 (Sl ab_0_0 b_0.1 cb_0_0) b_0.1, Ch.ro 0 (Sl ab_0_1 b_0.2 cb_0_1) b_0.2] ∧ Md (fun i => (cov []) i ∨ (fun b => blk (Sl (some ⟨b3, 0, none⟩) ([] : List Int) 0) = some b) i) σ2 σ30 from hJ)
  clear hJ Hs
  rw [fr_lookL (L := [(12, (Sl a17 xs15 c18)), (18, (Sl a25 x20 c26))]) ⟨e12, e18, trivial⟩]
  clear hoff hrel e12 e18
  obtain ⟨xs31, hx32, h'⟩ := bind_some h
  clear h
  have h := h'; clear h'
  refine st_ex (ex_append H (i := 0) rfl Try.underlying29 Try.underlying29 ti3 rfl rfl (by decide) ((H.ro 1 rfl).rd.sc) hx32 hn0 rfl rfl) wn ?_
  rintro _ σ35 ⟨a33, c34, rfl, H, -⟩
  refine st (v := (Sl a33 xs31 c34)) (rv_assign rfl) ?_
  refine w_end ?_
  refine q_then ?_
  refine c_ret ?_
  obtain rfl := Option.some.inj h
  exact fin_ret (v := (Sl a33 xs31 c34)) (results_ok Try.results52 (res_tmp (v := (Sl a33 xs31 c34)) rfl res_nil) rfl) ⟨a33, c34, rfl, rfl⟩ (H.sel' [0] rfl rfl)

theorem c_spec_size {n_0 : Int}  {r : Int} (h : M.spec_size n_0 = some r) :
    Cal2 Try.prog 72 [(I n_0)] [] (fun n0 v L => v = (I r) ∧ L = []) := by
 refine cal2 (n := 7) Try.func72 rfl rfl rfl rfl ?_
 intro S0 σ0 n0 hn0 H
 unfold M.spec_size at h
 refine c_seq ?_
 refine rg ?_
 refine st (v := (I 0)) (rv_assign rfl) ?_
 refine w_end ?_
 refine q_then ?_
 refine c_seq ?_
 refine rg ?_
 refine st (v := (I n_0)) (rv_move rfl) ?_
 refine st (v := (I n_0)) (rv_move rfl) ?_
 refine st (v := (I (w64 (0 - n_0)))) (rv_neg (a := n_0) rfl) ?_
 refine st (v := (I (max n_0 (w64 (0 - n_0))))) (rv_max rfl rfl) ?_
 refine st (v := (I (max n_0 (w64 (0 - n_0))))) (rv_assign rfl) ?_
 refine w_end ?_
 refine q_then ?_
 refine c_ret ?_
 obtain rfl := Option.some.inj h
 exact fin_ret (v := (I (max n_0 (w64 (0 - n_0))))) (results_ok Try.results72 (res_tmp (v := (I (max n_0 (w64 (0 - n_0))))) rfl res_nil) rfl) ⟨rfl, rfl⟩ (H.sel' [] rfl rfl)

theorem c_spec_toInt {b_0 : Bool}  {r : Int} (h : M.spec_toInt b_0 = some r) :
    Cal2 Try.prog 73 [(B b_0)] [] (fun n0 v L => v = (I r) ∧ L = []) := by
 refine cal2 (n := 4) Try.func73 rfl rfl rfl rfl ?_
 intro S0 σ0 n0 hn0 H
 unfold M.spec_toInt at h
 refine c_seq ?_
 refine rg ?_
 refine st (v := (I 0)) (rv_assign rfl) ?_
 refine w_end ?_
 refine q_then ?_
 refine c_seq ?_
 refine c_seq ?_
 refine rg ?_
 refine st (v := (B b_0)) (rv_move rfl) ?_
 refine w_end ?_
 refine q_then ?_
 refine cd_cond b_0 rfl (fun hb1 => ?_) (fun hb1 => ?_)
 ·replace h := bif_t hb1 h
  refine c_seq ?_
  refine rg ?_
  refine st (v := (I 1)) (rv_assign rfl) ?_
  refine w_end ?_
  refine q_then ?_
  refine c_ret ?_
  refine q_then_r ?_
  obtain rfl := Option.some.inj h
  exact fin_ret (v := (I 1)) (results_ok Try.results73 (res_tmp (v := (I 1)) rfl res_nil) rfl) ⟨rfl, rfl⟩ (H.sel' [] rfl rfl)
 ·replace h := bif_f hb1 h
  refine c_skip ?_
  refine q_then ?_
  refine c_seq ?_
  refine rg ?_
  refine st (v := (I 0)) (rv_assign rfl) ?_
  refine w_end ?_
  refine q_then ?_
  refine c_ret ?_
  obtain rfl := Option.some.inj h
  exact fin_ret (v := (I 0)) (results_ok Try.results73 (res_tmp (v := (I 0)) rfl res_nil) rfl) ⟨rfl, rfl⟩ (H.sel' [] rfl rfl)

theorem c_spec_dist {kind_0 : Int} {a_1 : List Int} {b_2 : List Int} {aa_1 : Option Addr} {ca_1 : Nat} {ab_2 : Option Addr} {cb_2 : Nat} {r : Int} (h : M.spec_dist kind_0 a_1 b_2 = some r) :
    Cal2 Try.prog 54 [(I kind_0), (Sl aa_1 a_1 ca_1), (Sl ab_2 b_2 cb_2)] [Ch.ro 0 (Sl aa_1 a_1 ca_1) a_1, Ch.ro 0 (Sl ab_2 b_2 cb_2) b_2] (fun n0 v L => v = (I r) ∧ L = []) := by
 refine cal2 (n := 50) Try.func54 rfl rfl rfl rfl ?_
 intro S0 σ0 n0 hn0 H
 unfold M.spec_dist at h
 refine c_seq ?_
 refine rg ?_
 refine st (v := (I 0)) (rv_assign rfl) ?_
 refine w_end ?_
 refine q_then ?_
 refine c_seq ?_
 refine rg ?_
 refine st (v := (I 0)) (rv_assign rfl) ?_
 refine w_end ?_
 refine q_then ?_
 refine c_seq ?_
 refine c_seq ?_
 refine rg ?_
 refine st (v := (I 0)) (rv_assign rfl) ?_
 refine w_end ?_
 refine q_then ?_
 obtain ⟨o1, hj, h'⟩ := bind_some h
 clear h
 refine c_cut (fun e a w => e = .normal ∧ ∃ (ρ : Nat → Value) (σ : St), a = fr 50 (updL ρ [(7, (I o1))]) ∧ w = σ.w ∧ Hp S0 σ0 σ []) ?_ ?_
 ·clear h'
  rename _ = some o1 => h
  refine c_blk ?_
  refine wp_loopM _ h (fun s2 a w => ∃ (ρ : Nat → Value) (σ : St), a = fr 50 (updL ρ [(0, (I kind_0)), (1, (Sl aa_1 a_1 ca_1)), (2, (Sl ab_2 b_2 cb_2)), (7, (I s2.1)), (8, (I s2.2))]) ∧ w = σ.w ∧ Hp S0 σ0 σ [Ch.ro 0 (Sl aa_1 a_1 ca_1) a_1, Ch.ro 0 (Sl ab_2 b_2 cb_2) b_2]) ⟨_, σ0, fr_join ⟨rfl, rfl, rfl, rfl, rfl, trivial⟩, rfl, H.sel' [0, 1] rfl rfl⟩ ?_
  clear h H
  rintro s2 a w o ⟨ρ, σ3, rfl, rfl, H⟩ h hres
  refine c_seq ?_
  refine c_seq ?_
  refine rg ?_
  refine st (v := (I s2.2)) (rv_move rfl) ?_
  refine st (v := (Sl aa_1 a_1 ca_1)) (rv_move rfl) ?_
  refine st (v := (I (a_1.length : Int))) (rv_len Try.underlying29 rfl) ?_
  refine st (v := (B (decide (s2.2 < (a_1.length : Int))))) (rv_lss (a := s2.2) (b := (a_1.length : Int)) rfl rfl) ?_
  refine w_end ?_
  refine q_then ?_
  refine cd_cond (decide (s2.2 < (a_1.length : Int))) rfl (fun hb4 => ?_) (fun hb4 => ?_)
  ·replace h := bif_t hb4 h
   refine c_skip ?_
   refine q_then ?_
   refine c_seq ?_
   obtain ⟨o5, hj, h'⟩ := bind_some h
   clear h
   refine c_cut (fun e a w => e = .normal ∧ ∃ (ρ : Nat → Value) (σ : St), a = fr 50 (updL ρ [(0, (I kind_0)), (1, (Sl aa_1 a_1 ca_1)), (2, (Sl ab_2 b_2 cb_2)), (7, (I o5)), (8, (I s2.2))]) ∧ w = σ.w ∧ Hp S0 σ0 σ [Ch.ro 0 (Sl aa_1 a_1 ca_1) a_1, Ch.ro 0 (Sl ab_2 b_2 cb_2) b_2]) ?_ ?_
   ·clear h'
    rename _ = some o5 => h
    refine c_blk ?_
    refine c_seq ?_
    refine rgP (σ := σ3) 8 (by kernel_rfl) (by kernel_rfl) (by kernel_rfl) ?_
    refine sq (v := (Sl aa_1 a_1 ca_1)) (rv_move rfl) ?_
    refine sq (v := (I s2.2)) (rv_move rfl) ?_
    obtain ⟨x6, hx7, h'⟩ := bind_some h
    clear h
    have h := h'; clear h'
    obtain ⟨b9, o10, hi8, -⟩ := (H.ro 0 rfl).ix hx7
    refine sq (v := (pt b9 o10)) (rv_ix Try.underlying29 ti3 rfl rfl hi8) ?_
    have hc11 := ((H.ro 0 rfl).at hx7 hi8).int
    refine sq (v := (I x6)) (rv_load1 Try.underlying3 rfl rfl hc11) ?_
    refine sq (v := (Sl ab_2 b_2 cb_2)) (rv_move rfl) ?_
    refine sq (v := (I s2.2)) (rv_move rfl) ?_
    obtain ⟨x12, hx13, h'⟩ := bind_some h
    clear h
    have h := h'; clear h'
    obtain ⟨b15, o16, hi14, -⟩ := (H.ro 1 rfl).ix hx13
    refine sq (v := (pt b15 o16)) (rv_ix Try.underlying29 ti3 rfl rfl hi14) ?_
    have hc17 := ((H.ro 1 rfl).at hx13 hi14).int
    refine sq (v := (I x12)) (rv_load1 Try.underlying3 rfl rfl hc17) ?_
    refine sq_end ?_
    intro σ18 hm19
    replace H := H.grow (hm19.mono fun _ h => h); clear hm19
    refine st (v := (I (w64 (x6 - x12)))) (rv_sub (a := x6) (b := x12) rfl rfl) ?_
    obtain ⟨r20, hx21, h'⟩ := bind_some h
    clear h
    have h := h'; clear h'
    have hc22 := c_spec_size hx21
    refine st_call (cx_call hc22 (ent_f hc22.fn rfl) hn0 (show Hp S0 σ0 _ ([] ++ [Ch.ro 0 (Sl aa_1 a_1 ca_1) a_1, Ch.ro 0 (Sl ab_2 b_2 cb_2) b_2]) from (H.sel' [0, 1] rfl rfl))) wn ?_
    rintro _ σ23 ⟨_, ⟨rfl, rfl⟩, H, -⟩
    replace H : Hp S0 σ0 σ23 [Ch.ro 0 (Sl aa_1 a_1 ca_1) a_1, Ch.ro 0 (Sl ab_2 b_2 cb_2) b_2] := H
    refine st (v := (I r20)) (rv_assign rfl) ?_
    refine w_end ?_
    refine q_then ?_
    refine c_seq ?_
    refine rg ?_
    refine st (v := (I kind_0)) (rv_move rfl) ?_
    refine w_end ?_
    refine q_then ?_
    refine c_blk ?_
    refine c_seq ?_
    refine rg ?_
    refine st (v := (B (kind_0 == 1))) (rv_eql (a := kind_0) (b := 1) rfl rfl) ?_
    refine st (v := (B (kind_0 == 1))) (rv_assign rfl) ?_
    refine w_end ?_
    refine q_then ?_
    refine cd_cond (kind_0 == 1) rfl (fun hb24 => ?_) (fun hb24 => ?_)
    ·replace h := bif_t hb24 h
     refine rg ?_
     refine st (v := (I s2.1)) (rv_move rfl) ?_
     refine st (v := (I r20)) (rv_move rfl) ?_
     refine st (v := (I (w64 (s2.1 + r20)))) (rv_add (a := s2.1) (b := r20) rfl rfl) ?_
     refine st (v := (I (w64 (s2.1 + r20)))) (rv_assign rfl) ?_
     refine w_end ?_
     refine q_blk ?_
     refine q_blk ?_
     obtain rfl := Option.some.inj h
     exact ⟨rfl, _, σ23, fr_join ⟨rfl, rfl, rfl, rfl, rfl, trivial⟩, rfl, H.sel' [0, 1] rfl rfl⟩
    ·replace h := bif_f hb24 h
     refine c_seq ?_
     refine rg ?_
     refine st (v := (B (kind_0 == 2))) (rv_eql (a := kind_0) (b := 2) rfl rfl) ?_
     refine st (v := (B (kind_0 == 2))) (rv_assign rfl) ?_
     refine w_end ?_
     refine q_then ?_
     refine cd_cond (kind_0 == 2) rfl (fun hb25 => ?_) (fun hb25 => ?_)
     ·replace h := bif_t hb25 h
      refine rg ?_
      refine st (v := (I s2.1)) (rv_move rfl) ?_
      refine st (v := (I r20)) (rv_move rfl) ?_
      refine st (v := (I (max s2.1 r20))) (rv_max rfl rfl) ?_
      refine st (v := (I (max s2.1 r20))) (rv_assign rfl) ?_
      refine w_end ?_
      refine q_blk ?_
      refine q_blk ?_
      obtain rfl := Option.some.inj h
      exact ⟨rfl, _, σ23, fr_join ⟨rfl, rfl, rfl, rfl, rfl, trivial⟩, rfl, H.sel' [0, 1] rfl rfl⟩
     ·replace h := bif_f hb25 h
      refine c_seq ?_
      refine rg ?_
      refine st (v := (B (kind_0 == 3))) (rv_eql (a := kind_0) (b := 3) rfl rfl) ?_
      refine st (v := (B (kind_0 == 3))) (rv_assign rfl) ?_
      refine w_end ?_
      refine q_then ?_
      refine cd_cond (kind_0 == 3) rfl (fun hb26 => ?_) (fun hb26 => ?_)
      ·replace h := bif_t hb26 h
       refine rg ?_
       refine st (v := (I s2.1)) (rv_move rfl) ?_
       refine st (v := (I r20)) (rv_move rfl) ?_
       refine st (v := (I r20)) (rv_move rfl) ?_
       refine st (v := (I (w64 (r20 * r20)))) (rv_mul (a := r20) (b := r20) rfl rfl) ?_
       refine st (v := (I (w64 (s2.1 + (w64 (r20 * r20)))))) (rv_add (a := s2.1) (b := (w64 (r20 * r20))) rfl rfl) ?_
       refine st (v := (I (w64 (s2.1 + (w64 (r20 * r20)))))) (rv_assign rfl) ?_
       refine w_end ?_
       refine q_blk ?_
       refine q_blk ?_
       obtain rfl := Option.some.inj h
       exact ⟨rfl, _, σ23, fr_join ⟨rfl, rfl, rfl, rfl, rfl, trivial⟩, rfl, H.sel' [0, 1] rfl rfl⟩
      ·replace h := bif_f hb26 h
       refine rg ?_
       refine st (v := (I s2.1)) (rv_move rfl) ?_
       refine st (v := (I r20)) (rv_move rfl) ?_
       refine st (v := (B (decide (0 < r20)))) (rv_gtr (a := r20) (b := 0) rfl rfl) ?_
       obtain ⟨r27, hx28, h'⟩ := bind_some h
       clear h
       have h := h'; clear h'
       have hc29 := c_spec_toInt hx28
       refine st_call (cx_call hc29 (ent_f hc29.fn rfl) hn0 (show Hp S0 σ0 _ ([] ++ [Ch.ro 0 (Sl aa_1 a_1 ca_1) a_1, Ch.ro 0 (Sl ab_2 b_2 cb_2) b_2]) from (H.sel' [0, 1] rfl rfl))) wn ?_
       rintro _ σ30 ⟨_, ⟨rfl, rfl⟩, H, -⟩
       replace H : Hp S0 σ0 σ30 [Ch.ro 0 (Sl aa_1 a_1 ca_1) a_1, Ch.ro 0 (Sl ab_2 b_2 cb_2) b_2] := H
       refine st (v := (I (w64 (s2.1 + r27)))) (rv_add (a := s2.1) (b := r27) rfl rfl) ?_
       refine st (v := (I (w64 (s2.1 + r27)))) (rv_assign rfl) ?_
       refine w_end ?_
       refine q_blk ?_
       refine q_blk ?_
       obtain rfl := Option.some.inj h
       exact ⟨rfl, _, σ30, fr_join ⟨rfl, rfl, rfl, rfl, rfl, trivial⟩, rfl, H.sel' [0, 1] rfl rfl⟩
   ·clear hj
    have h := h'
    clear h' H
    rintro e a w ⟨rfl, ρ, σ31, rfl, rfl, H⟩
    refine q_then ?_
    refine rg ?_
    refine st (v := (I s2.2)) (rv_move rfl) ?_
    refine st (v := (I (w64 (s2.2 + 1)))) (rv_add (a := s2.2) (b := 1) rfl rfl) ?_
    refine st (v := (I (w64 (s2.2 + 1)))) (rv_assign rfl) ?_
    refine w_end ?_
    refine q_then ?_
    obtain rfl := Option.some.inj h
    exact ⟨_, rfl, _, σ31, fr_join ⟨rfl, rfl, rfl, rfl, rfl, trivial⟩, rfl, H.sel' [0, 1] rfl rfl⟩
  ·replace h := bif_f hb4 h
   refine c_exit ?_
   refine q_then_x ?_
   refine q_then_x ?_
   refine q_blk_hit ?_
   obtain rfl := Option.some.inj h
   obtain rfl := hres _ rfl
   exact ⟨rfl, _, σ3, fr_join ⟨rfl, trivial⟩, rfl, H.sel' [] rfl rfl⟩
 ·clear hj
  have h := h'
  clear h' H
  rintro e a w ⟨rfl, ρ, σ32, rfl, rfl, H⟩
  refine q_then ?_
  refine c_seq ?_
  refine rg ?_
  refine st (v := (I o1)) (rv_move rfl) ?_
  refine st (v := (I o1)) (rv_assign rfl) ?_
  refine w_end ?_
  refine q_then ?_
  refine c_ret ?_
  obtain rfl := Option.some.inj h
  exact fin_ret (v := (I o1)) (results_ok Try.results54 (res_tmp (v := (I o1)) rfl res_nil) rfl) ⟨rfl, rfl⟩ (H.sel' [] rfl rfl)

theorem c_spec_CodeDistances {b_0 : (List (List Int)) × (List (List Int))} {at_1 : List Int} {ab_0_0 : Option Addr} {cb_0_0 : Nat} {ab_0_1 : Option Addr} {cb_0_1 : Nat} {aat_1 : Option Addr} {cat_1 : Nat} {r : (List Int)} (h : M.spec_CodeDistances b_0 at_1 = some r) :
    Cal2 Try.prog 27 [(.agg #[(Sl ab_0_0 b_0.1 cb_0_0), (Sl ab_0_1 b_0.2 cb_0_1)]), (Sl aat_1 at_1 cat_1)] [Ch.ro 0 (Sl ab_0_0 b_0.1 cb_0_0) b_0.1, Ch.ro 0 (Sl ab_0_1 b_0.2 cb_0_1) b_0.2, Ch.ro 0 (Sl aat_1 at_1 cat_1) at_1] (fun n0 v L => ∃ (az1 : Option Addr), ∃ (cz2 : Nat), v = (Sl az1 r cz2) ∧ L = [Ch.own n0 n0 (Sl az1 r cz2) r]) := by
 refine cal2 (n := 29) Try.func27 rfl rfl rfl rfl ?_
 intro S0 σ0 n0 hn0 H
 unfold M.spec_CodeDistances at h
 refine c_seq ?_
 refine rg ?_
 refine st_ex (ex_box (cs := [(Sl ab_0_0 b_0.1 cb_0_0), (Sl ab_0_1 b_0.2 cb_0_1)]) H hn0 rfl rfl) wn ?_
 rintro _ σ2 ⟨b1, rfl, H, -⟩
 refine st (v := (.slice none 0 0)) (rv_assign rfl) ?_
 refine w_end ?_
 refine q_then ?_
 refine c_seq ?_
 refine rg ?_
 refine st_ex (ex_buildSlice (el := n0) (xs := ([] : List Int)) (ps := []) (cs := []) H hn0 Try.underlying29 ti3 rfl rfl (by kernel_rfl) (.nil) rfl) wn ?_
 rintro _ σ4 ⟨b3, rfl, H, -⟩
 refine st (v := (Sl (some ⟨b3, 0, none⟩) ([] : List Int) 0)) (rv_assign rfl) ?_
 refine w_end ?_
 refine q_then ?_
 refine c_seq ?_
 refine c_seq ?_
 obtain ⟨o5, hj, h'⟩ := bind_some h
 clear h
 refine c_cut (fun e a w => e = .normal ∧ ∃ (ρ : Nat → Value) (σ : St), a = fr 29 (updL ρ [(1, (Sl aat_1 at_1 cat_1)), (2, (pt b1 0)), (5, (Sl (some ⟨b3, 0, none⟩) ([] : List Int) 0)), (15, (B o5))]) ∧ w = σ.w ∧ Hp S0 σ0 σ [Ch.ro 0 (Sl aat_1 at_1 cat_1) at_1, Ch.ro 0 (Sl ab_0_0 b_0.1 cb_0_0) b_0.1, Ch.ro 0 (Sl ab_0_1 b_0.2 cb_0_1) b_0.2, Ch.bx n0 b1 0 [(Sl ab_0_0 b_0.1 cb_0_0), (Sl ab_0_1 b_0.2 cb_0_1)] [] [], Ch.own n0 n0 (Sl (some ⟨b3, 0, none⟩) ([] : List Int) 0) ([] : List Int)]) ?_ ?_
 ·clear h'
  rename _ = some o5 => h
  refine rg ?_
  have hc6 := H.cells 1 rfl
  refine st (v := (.agg #[(Sl ab_0_0 b_0.1 cb_0_0), (Sl ab_0_1 b_0.2 cb_0_1)])) (rv_load (cs := [(Sl ab_0_0 b_0.1 cb_0_0), (Sl ab_0_1 b_0.2 cb_0_1)]) Try.underlying25 rfl ti25 rfl rfl hc6) ?_
  obtain ⟨r7, hx8, h'⟩ := bind_some h
  clear h
  have h := h'; clear h'
  have hc9 := c_spec_validBook (ab_0_0 := ab_0_0) (cb_0_0 := cb_0_0) (ab_0_1 := ab_0_1) (cb_0_1 := cb_0_1) hx8
  refine st_call (cx_call hc9 (ent_f hc9.fn rfl) hn0 (show Hp S0 σ0 _ ([Ch.ro 0 (Sl ab_0_0 b_0.1 cb_0_0) b_0.1, Ch.ro 0 (Sl ab_0_1 b_0.2 cb_0_1) b_0.2] ++ [Ch.own n0 n0 (Sl (some ⟨b3, 0, none⟩) ([] : List Int) 0) ([] : List Int), Ch.bx n0 b1 0 [(Sl ab_0_0 b_0.1 cb_0_0), (Sl ab_0_1 b_0.2 cb_0_1)] [] [], Ch.ro 0 (Sl ab_0_0 b_0.1 cb_0_0) b_0.1, Ch.ro 0 (Sl ab_0_1 b_0.2 cb_0_1) b_0.2, Ch.ro 0 (Sl aat_1 at_1 cat_1) at_1]) from (H.sel' [2, 3, 0, 1, 2, 3, 4] rfl rfl))) wn ?_
  rintro _ σ10 ⟨_, ⟨rfl, rfl⟩, H, -⟩
  replace H : Hp S0 σ0 σ10 [Ch.own n0 n0 (Sl (some ⟨b3, 0, none⟩) ([] : List Int) 0) ([] : List Int), Ch.bx n0 b1 0 [(Sl ab_0_0 b_0.1 cb_0_0), (Sl ab_0_1 b_0.2 cb_0_1)] [] [], Ch.ro 0 (Sl ab_0_0 b_0.1 cb_0_0) b_0.1, Ch.ro 0 (Sl ab_0_1 b_0.2 cb_0_1) b_0.2, Ch.ro 0 (Sl aat_1 at_1 cat_1) at_1] := H
  refine st (v := (B (!r7))) (rv_not rfl) ?_
  refine st (v := (B (!r7))) (rv_move rfl) ?_
  rcases Bool.eq_false_or_eq_true (!r7) with hb11 | hb11
  ·replace h := bif_t hb11 h
   refine st_skip (congrArg some hb11) ?_
   refine st_skip (congrArg some hb11) ?_
   refine st_skip (congrArg some hb11) ?_
   refine st (v := (B true)) (rv_pick_t (congrArg B hb11) rfl) ?_
   refine w_end ?_
   obtain rfl := Option.some.inj h
   exact ⟨rfl, _, σ10, fr_join ⟨rfl, rfl, rfl, rfl, trivial⟩, rfl, H.sel' [4, 2, 3, 1, 0] rfl rfl⟩
  ·replace h := bif_f hb11 h
   refine st_g (v := (Sl aat_1 at_1 cat_1)) (congrArg some hb11) (rv_move rfl) ?_
   obtain ⟨r12, hx13, h'⟩ := bind_some h
   clear h
   have h := h'; clear h'
   have hc14 := c_spec_isVector (av_0 := aat_1) (cv_0 := cat_1) hx13
   refine st_call (cx_call hc14 (ent_f hc14.fn rfl) hn0 (show Hp S0 σ0 _ ([Ch.ro 0 (Sl aat_1 at_1 cat_1) at_1] ++ [Ch.own n0 n0 (Sl (some ⟨b3, 0, none⟩) ([] : List Int) 0) ([] : List Int), Ch.bx n0 b1 0 [(Sl ab_0_0 b_0.1 cb_0_0), (Sl ab_0_1 b_0.2 cb_0_1)] [] [], Ch.ro 0 (Sl ab_0_0 b_0.1 cb_0_0) b_0.1, Ch.ro 0 (Sl ab_0_1 b_0.2 cb_0_1) b_0.2, Ch.ro 0 (Sl aat_1 at_1 cat_1) at_1]) from (H.sel' [4, 0, 1, 2, 3, 4] rfl rfl))) (wanted_yes rfl (by exact (congrArg some hb11))) ?_
   rintro _ σ15 ⟨_, ⟨rfl, rfl⟩, H, -⟩
   replace H : Hp S0 σ0 σ15 [Ch.own n0 n0 (Sl (some ⟨b3, 0, none⟩) ([] : List Int) 0) ([] : List Int), Ch.bx n0 b1 0 [(Sl ab_0_0 b_0.1 cb_0_0), (Sl ab_0_1 b_0.2 cb_0_1)] [] [], Ch.ro 0 (Sl ab_0_0 b_0.1 cb_0_0) b_0.1, Ch.ro 0 (Sl ab_0_1 b_0.2 cb_0_1) b_0.2, Ch.ro 0 (Sl aat_1 at_1 cat_1) at_1] := H
   refine st_g (v := (B (!r12))) (congrArg some hb11) (rv_not rfl) ?_
   refine st (v := (B (!r12))) (rv_pick_f (congrArg B hb11) rfl) ?_
   refine w_end ?_
   obtain rfl := Option.some.inj h
   exact ⟨rfl, _, σ15, fr_join ⟨rfl, rfl, rfl, rfl, trivial⟩, rfl, H.sel' [4, 2, 3, 1, 0] rfl rfl⟩
 ·clear hj
  have h := h'
  clear h' H
  rintro e a w ⟨rfl, ρ, σ16, rfl, rfl, H⟩
  refine q_then ?_
  refine cd_cond o5 rfl (fun hb17 => ?_) (fun hb17 => ?_)
  ·replace h := bif_t hb17 h
   refine c_seq ?_
   refine rg ?_
   refine st (v := (.slice none 0 0)) (rv_assign rfl) ?_
   refine w_end ?_
   refine q_then ?_
   refine c_ret ?_
   refine q_then_r ?_
   replace H := H.nilOwn Int n0 n0
   obtain rfl := Option.some.inj h
   exact fin_ret (v := (.slice none 0 0)) (results_ok Try.results27 (res_tmp (v := (.slice none 0 0)) rfl res_nil) rfl) ⟨none, 0, rfl, rfl⟩ (H.sel' [0] rfl rfl)
  ·replace h := bif_f hb17 h
   refine c_skip ?_
   refine q_then ?_
   refine c_seq ?_
   refine c_seq ?_
   refine rg ?_
   refine st (v := (I 0)) (rv_assign rfl) ?_
   refine w_end ?_
   refine q_then ?_
   obtain ⟨o18, hj, h'⟩ := bind_some h
   clear h
   refine c_cut (fun e a w => e = .normal ∧ ∃ (ρ : Nat → Value) (σ : St) (aj1 : Option Addr) (cj2 : Nat), a = fr 29 (updL ρ [(5, (Sl aj1 o18 cj2))]) ∧ w = σ.w ∧ Hp S0 σ0 σ [Ch.own n0 n0 (Sl aj1 o18 cj2) o18]) ?_ ?_
   ·clear h'
    rename _ = some o18 => h
    refine c_blk ?_
    refine wp_loopM _ h (fun s19 a w => ∃ (ρ : Nat → Value) (σ : St) (aj1 : Option Addr) (cj2 : Nat), a = fr 29 (updL ρ [(1, (Sl aat_1 at_1 cat_1)), (2, (pt b1 0)), (5, (Sl aj1 s19.1 cj2)), (6, (I s19.2))]) ∧ w = σ.w ∧ Hp S0 σ0 σ [Ch.ro 0 (Sl aat_1 at_1 cat_1) at_1, Ch.ro 0 (Sl ab_0_0 b_0.1 cb_0_0) b_0.1, Ch.ro 0 (Sl ab_0_1 b_0.2 cb_0_1) b_0.2, Ch.bx n0 b1 0 [(Sl ab_0_0 b_0.1 cb_0_0), (Sl ab_0_1 b_0.2 cb_0_1)] [] [], Ch.own n0 n0 (Sl aj1 s19.1 cj2) s19.1]) ⟨_, σ16, (some ⟨b3, 0, none⟩), 0, fr_join ⟨rfl, rfl, rfl, rfl, trivial⟩, rfl, H.sel' [0, 1, 2, 3, 4] rfl rfl⟩ ?_
    clear h H
    rintro s19 a w o ⟨ρ, σ20, a21, c22, rfl, rfl, H⟩ h hres
    refine c_seq ?_
    refine c_seq ?_
    refine rg ?_
    refine st (v := (I s19.2)) (rv_move rfl) ?_
    refine st (v := (B (decide (s19.2 < 16)))) (rv_lss (a := s19.2) (b := 16) rfl rfl) ?_
    refine w_end ?_
    refine q_then ?_
    refine cd_cond (decide (s19.2 < 16)) rfl (fun hb23 => ?_) (fun hb23 => ?_)
    ·replace h := bif_t hb23 h
     refine c_skip ?_
     refine q_then ?_
     refine c_seq ?_
     refine c_blk ?_
     refine rg ?_
     refine st (v := (Sl a21 s19.1 c22)) (rv_move rfl) ?_
     have hc24 := H.cells 3 rfl
     refine st (v := (.agg #[(Sl ab_0_0 b_0.1 cb_0_0), (Sl ab_0_1 b_0.2 cb_0_1)])) (rv_load (cs := [(Sl ab_0_0 b_0.1 cb_0_0), (Sl ab_0_1 b_0.2 cb_0_1)]) Try.underlying25 rfl ti25 rfl rfl hc24) ?_
     refine st (v := (I s19.2)) (rv_move rfl) ?_
     obtain ⟨r25, hx26, h'⟩ := bind_some h
     clear h
     have h := h'; clear h'
     have hc27 := c_spec_decode (ab_0_0 := ab_0_0) (cb_0_0 := cb_0_0) (ab_0_1 := ab_0_1) (cb_0_1 := cb_0_1) hx26
     refine st_call (cx_call hc27 (ent_f hc27.fn rfl) hn0 (show Hp S0 σ0 _ ([Ch.ro 0 (Sl ab_0_0 b_0.1 cb_0_0) b_0.1, Ch.ro 0 (Sl ab_0_1 b_0.2 cb_0_1) b_0.2] ++ [Ch.ro 0 (Sl aat_1 at_1 cat_1) at_1, Ch.ro 0 (Sl ab_0_0 b_0.1 cb_0_0) b_0.1, Ch.ro 0 (Sl ab_0_1 b_0.2 cb_0_1) b_0.2, Ch.bx n0 b1 0 [(Sl ab_0_0 b_0.1 cb_0_0), (Sl ab_0_1 b_0.2 cb_0_1)] [] [], Ch.own n0 n0 (Sl a21 s19.1 c22) s19.1]) from (H.sel' [1, 2, 0, 1, 2, 3, 4] rfl rfl))) wn ?_
     rintro _ σ30 ⟨_, ⟨a28, c29, rfl, rfl⟩, H, -⟩
     replace H : Hp S0 σ0 σ30 [Ch.own n0 n0 (Sl a28 r25 c29) r25, Ch.ro 0 (Sl aat_1 at_1 cat_1) at_1, Ch.ro 0 (Sl ab_0_0 b_0.1 cb_0_0) b_0.1, Ch.ro 0 (Sl ab_0_1 b_0.2 cb_0_1) b_0.2, Ch.bx n0 b1 0 [(Sl ab_0_0 b_0.1 cb_0_0), (Sl ab_0_1 b_0.2 cb_0_1)] [] [], Ch.own n0 n0 (Sl a21 s19.1 c22) s19.1] := H
     refine st (v := (Sl aat_1 at_1 cat_1)) (rv_move rfl) ?_
     obtain ⟨σ31, hw32, H, -⟩ := H.pub 0 rfl (Nat.le_refl _)
     rw [← hw32]; clear hw32
     replace H := H.roLow 0 0 rfl (Nat.zero_le _)
     obtain ⟨r33, hx34, h'⟩ := bind_some h
     clear h
     have h := h'; clear h'
     have hc35 := c_spec_dist (aa_1 := a28) (ca_1 := c29) (ab_2 := aat_1) (cb_2 := cat_1) hx34
     refine st_call (cx_call hc35 (ent_f hc35.fn rfl) hn0 (show Hp S0 σ0 _ ([Ch.ro 0 (Sl a28 r25 c29) r25, Ch.ro 0 (Sl aat_1 at_1 cat_1) at_1] ++ [Ch.ro 0 (Sl a28 r25 c29) r25, Ch.ro n0 (Sl a28 r25 c29) r25, Ch.ro 0 (Sl aat_1 at_1 cat_1) at_1, Ch.ro 0 (Sl ab_0_0 b_0.1 cb_0_0) b_0.1, Ch.ro 0 (Sl ab_0_1 b_0.2 cb_0_1) b_0.2, Ch.bx n0 b1 0 [(Sl ab_0_0 b_0.1 cb_0_0), (Sl ab_0_1 b_0.2 cb_0_1)] [] [], Ch.own n0 n0 (Sl a21 s19.1 c22) s19.1]) from (H.sel' [0, 2, 0, 1, 2, 3, 4, 5, 6] rfl rfl))) wn ?_
     rintro _ σ36 ⟨_, ⟨rfl, rfl⟩, H, -⟩
     replace H : Hp S0 σ0 σ36 [Ch.ro 0 (Sl a28 r25 c29) r25, Ch.ro n0 (Sl a28 r25 c29) r25, Ch.ro 0 (Sl aat_1 at_1 cat_1) at_1, Ch.ro 0 (Sl ab_0_0 b_0.1 cb_0_0) b_0.1, Ch.ro 0 (Sl ab_0_1 b_0.2 cb_0_1) b_0.2, Ch.bx n0 b1 0 [(Sl ab_0_0 b_0.1 cb_0_0), (Sl ab_0_1 b_0.2 cb_0_1)] [] [], Ch.own n0 n0 (Sl a21 s19.1 c22) s19.1] := H
     refine st_ex (ex_buildSlice (el := n0) (xs := ([r33] : List Int)) (ps := [(0, (I r33))]) (cs := [(I r33)]) H hn0 Try.underlying29 ti3 rfl rfl (by kernel_rfl) (.cons (c := [(I r33)]) rfl (.nil)) rfl) wn ?_
     rintro _ σ38 ⟨b37, rfl, H, -⟩
     replace H : Hp S0 σ0 σ38 [Ch.own n0 n0 (Sl (some ⟨b37, 0, none⟩) ([r33] : List Int) 1) ([r33] : List Int), Ch.ro 0 (Sl aat_1 at_1 cat_1) at_1, Ch.ro 0 (Sl ab_0_0 b_0.1 cb_0_0) b_0.1, Ch.ro 0 (Sl ab_0_1 b_0.2 cb_0_1) b_0.2, Ch.bx n0 b1 0 [(Sl ab_0_0 b_0.1 cb_0_0), (Sl ab_0_1 b_0.2 cb_0_1)] [] [], Ch.own n0 n0 (Sl a21 s19.1 c22) s19.1] := H.sel' [0, 3, 4, 5, 6, 7] rfl rfl
     obtain ⟨xs39, hx40, h'⟩ := bind_some h
     clear h
     have h := h'; clear h'
     refine st_ex (ex_append H (i := 5) rfl Try.underlying29 Try.underlying29 ti3 rfl rfl (by decide) (H.own 0 rfl).rd hx40 hn0 rfl rfl) wn ?_
     rintro _ σ43 ⟨a41, c42, rfl, H, -⟩
     refine st (v := (Sl a41 xs39 c42)) (rv_assign rfl) ?_
     refine w_end ?_
     refine q_blk ?_
     refine q_then ?_
     refine rg ?_
     refine st (v := (I s19.2)) (rv_move rfl) ?_
     refine st (v := (I (w64 (s19.2 + 1)))) (rv_add (a := s19.2) (b := 1) rfl rfl) ?_
     refine st (v := (I (w64 (s19.2 + 1)))) (rv_assign rfl) ?_
     refine w_end ?_
     refine q_then ?_
     obtain rfl := Option.some.inj h
     exact ⟨_, rfl, _, σ43, a41, c42, fr_join ⟨rfl, rfl, rfl, rfl, trivial⟩, rfl, H.sel' [2, 3, 4, 5, 0] rfl rfl⟩
    ·replace h := bif_f hb23 h
     refine c_exit ?_
     refine q_then_x ?_
     refine q_then_x ?_
     refine q_blk_hit ?_
     obtain rfl := Option.some.inj h
     obtain rfl := hres _ rfl
     exact ⟨rfl, _, σ20, a21, c22, fr_join ⟨rfl, trivial⟩, rfl, H.sel' [4] rfl rfl⟩
   ·clear hj
    have h := h'
    clear h' H
    rintro e a w ⟨rfl, ρ, σ44, a45, c46, rfl, rfl, H⟩
    refine q_then ?_
    refine c_seq ?_
    refine rg ?_
    refine st (v := (Sl a45 o18 c46)) (rv_move rfl) ?_
    refine st (v := (Sl a45 o18 c46)) (rv_assign rfl) ?_
    refine w_end ?_
    refine q_then ?_
    refine c_ret ?_
    obtain rfl := Option.some.inj h
    exact fin_ret (v := (Sl a45 o18 c46)) (results_ok Try.results27 (res_tmp (v := (Sl a45 o18 c46)) rfl res_nil) rfl) ⟨a45, c46, rfl, rfl⟩ (H.sel' [0] rfl rfl)

theorem c_laws_FnCodeDistancesSum {code_0 : List UInt8} {acode_0 : Option Addr} {ccode_0 : Nat} {r : Bool} (h : M.laws_FnCodeDistancesSum code_0 = some r) :
    Cal2 Try.prog 8 [(Sl acode_0 code_0 ccode_0)] [Ch.ro 0 (Sl acode_0 code_0 ccode_0) code_0] (fun n0 v L => v = (B r) ∧ L = []) := by
 refine cal2 (n := 65) Try.func8 rfl rfl rfl rfl ?_
 intro S0 σ0 n0 hn0 H
 unfold M.laws_FnCodeDistancesSum at h
 refine c_seq ?_
 refine rg ?_
 refine st (v := (B false)) (rv_assign rfl) ?_
 refine w_end ?_
 refine q_then ?_
 refine c_seq ?_
 refine c_seq ?_
 refine rg ?_
 refine st (v := (Sl acode_0 code_0 ccode_0)) (rv_move rfl) ?_
 refine st (v := (I (code_0.length : Int))) (rv_len Try.underlying22 rfl) ?_
 refine st (v := (B (decide (1048576 < (code_0.length : Int))))) (rv_gtr (a := (code_0.length : Int)) (b := 1048576) rfl rfl) ?_
 refine w_end ?_
 refine q_then ?_
 refine cd_cond (decide (1048576 < (code_0.length : Int))) rfl (fun hb1 => ?_) (fun hb1 => ?_)
 ·replace h := bif_t hb1 h
  refine c_seq ?_
  refine rg ?_
  refine st (v := (B true)) (rv_assign rfl) ?_
  refine w_end ?_
  refine q_then ?_
  refine c_ret ?_
  refine q_then_r ?_
  obtain rfl := Option.some.inj h
  exact fin_ret (v := (B true)) (results_ok Try.results8 (res_tmp (v := (B true)) rfl res_nil) rfl) ⟨rfl, rfl⟩ (H.sel' [] rfl rfl)
 ·replace h := bif_f hb1 h
  refine c_skip ?_
  refine q_then ?_
  refine c_seq ?_
  refine rg ?_
  refine st (v := (Sl acode_0 code_0 ccode_0)) (rv_move rfl) ?_
  obtain ⟨r2, hx3, h'⟩ := bind_some h
  clear h
  have h := h'; clear h'
  have hc4 := c_spec_DrawCodeDistances (acode_0 := acode_0) (ccode_0 := ccode_0) hx3
  refine st_call (cx_call hc4 (ent_f hc4.fn rfl) hn0 (show Hp S0 σ0 _ ([Ch.ro 0 (Sl acode_0 code_0 ccode_0) code_0] ++ [Ch.ro 0 (Sl acode_0 code_0 ccode_0) code_0]) from (H.sel' [0, 0] rfl rfl))) wn ?_
  rintro _ σ11 ⟨_, ⟨a5, c6, a7, c8, a9, c10, rfl, rfl⟩, H, -⟩
  replace H : Hp S0 σ0 σ11 [Ch.own n0 n0 (Sl a5 r2.1.1 c6) r2.1.1, Ch.own n0 n0 (Sl a7 r2.1.2 c8) r2.1.2, Ch.own n0 n0 (Sl a9 r2.2 c10) r2.2, Ch.ro 0 (Sl acode_0 code_0 ccode_0) code_0] := H
  refine st (v := (.tuple #[(.agg #[(Sl a5 r2.1.1 c6), (Sl a7 r2.1.2 c8)]), (Sl a9 r2.2 c10)])) (rv_move rfl) ?_
  refine st (v := (.agg #[(Sl a5 r2.1.1 c6), (Sl a7 r2.1.2 c8)])) (rv_extract rfl rfl) ?_
  refine st (v := (Sl a9 r2.2 c10)) (rv_extract rfl rfl) ?_
  refine st_ex (ex_alloc (cs := [(.slice none 0 0), (.slice none 0 0)]) H hn0 ti25 rfl) wn ?_
  rintro _ σ13 ⟨b12, rfl, H, -⟩
  refine st_exS (ex_store_box (k := 0) (cs := [(.slice none 0 0), (.slice none 0 0)]) (vs := [(Sl a5 r2.1.1 c6), (Sl a7 r2.1.2 c8)]) (cs' := [(Sl a5 r2.1.1 c6), (Sl a7 r2.1.2 c8)]) H (i := 0) rfl ti25 rfl rfl rfl rfl rfl (Nat.le_of_ble_eq_true rfl) (by simp [plain]) rfl) wn ?_
  rintro σ14 ⟨H, -⟩
  refine st (v := (Sl a9 r2.2 c10)) (rv_assign rfl) ?_
  refine w_end ?_
  refine q_then ?_
  refine c_seq ?_
  refine rg ?_
  have hc15 := H.cells 0 rfl
  refine st (v := (.agg #[(Sl a5 r2.1.1 c6), (Sl a7 r2.1.2 c8)])) (rv_load (cs := [(Sl a5 r2.1.1 c6), (Sl a7 r2.1.2 c8)]) Try.underlying25 rfl ti25 rfl rfl hc15) ?_
  refine st (v := (Sl a9 r2.2 c10)) (rv_move rfl) ?_
  obtain ⟨r16, hx17, h'⟩ := bind_some h
  clear h
  have h := h'; clear h'
  have hc18 := c_impl_CodeDistances (ab_0_0 := a5) (cb_0_0 := c6) (ab_0_1 := a7) (cb_0_1 := c8) (aat_1 := a9) (cat_1 := c10) hx17
  have hle := Nat.le_trans hn0 H.size
  refine st_call (cx_lend (Loan.lend (Loan.lend (Loan.lend Loan.nil))) hc18 (ent_f hc18.fn rfl) (show Hp S0 σ0 _ ([Ch.own n0 n0 (Sl a5 r2.1.1 c6) r2.1.1, Ch.own n0 n0 (Sl a7 r2.1.2 c8) r2.1.2, Ch.own n0 n0 (Sl a9 r2.2 c10) r2.2] ++ ([] ++ [Ch.bx n0 b12 0 [(Sl a5 r2.1.1 c6), (Sl a7 r2.1.2 c8)] [] [], Ch.ro 0 (Sl acode_0 code_0 ccode_0) code_0])) from (H.sel' [1, 2, 3, 0, 4] rfl rfl)) (by rintro _ _ _ ⟨_, _, rfl, rfl⟩; exact ⟨Ab.ownSc, trivial⟩)) wn ?_
  rintro _ σ21 ⟨_, ⟨a19, c20, rfl, rfl⟩, H, -, -⟩
  replace H : Hp S0 σ0 σ21 [Ch.own σ14.size σ14.size (Sl a19 r16 c20) r16, Ch.own n0 n0 (Sl a5 r2.1.1 c6) r2.1.1, Ch.own n0 n0 (Sl a7 r2.1.2 c8) r2.1.2, Ch.own n0 n0 (Sl a9 r2.2 c10) r2.2, Ch.bx n0 b12 0 [(Sl a5 r2.1.1 c6), (Sl a7 r2.1.2 c8)] [] [], Ch.ro 0 (Sl acode_0 code_0 ccode_0) code_0] := H
  replace H := H.ownLow 0 n0 n0 rfl hle hle
  clear hle
  replace H : Hp S0 σ0 σ21 [Ch.own n0 n0 (Sl a19 r16 c20) r16, Ch.own n0 n0 (Sl a5 r2.1.1 c6) r2.1.1, Ch.own n0 n0 (Sl a7 r2.1.2 c8) r2.1.2, Ch.own n0 n0 (Sl a9 r2.2 c10) r2.2, Ch.bx n0 b12 0 [(Sl a5 r2.1.1 c6), (Sl a7 r2.1.2 c8)] [] [], Ch.ro 0 (Sl acode_0 code_0 ccode_0) code_0] := H
  refine st (v := (Sl a19 r16 c20)) (rv_assign rfl) ?_
  refine w_end ?_
  refine q_then ?_
  refine c_seq ?_
  refine c_seq ?_
  obtain ⟨o22, hj, h'⟩ := bind_some h
  clear h
  refine c_cut (fun e a w => e = .normal ∧ ∃ (ρ : Nat → Value) (σ : St), a = fr 65 (updL ρ [(3, (pt b12 0)), (4, (Sl a9 r2.2 c10)), (5, (Sl a19 r16 c20)), (29, (B o22))]) ∧ w = σ.w ∧ Hp S0 σ0 σ [Ch.own n0 n0 (Sl a5 r2.1.1 c6) r2.1.1, Ch.own n0 n0 (Sl a7 r2.1.2 c8) r2.1.2, Ch.bx n0 b12 0 [(Sl a5 r2.1.1 c6), (Sl a7 r2.1.2 c8)] [] [], Ch.own n0 n0 (Sl a9 r2.2 c10) r2.2, Ch.own n0 n0 (Sl a19 r16 c20) r16]) ?_ ?_
  ·clear h'
   rename _ = some o22 => h
   refine rg ?_
   refine st (v := (Sl a19 r16 c20)) (rv_move rfl) ?_
   have hc23 := H.cells 4 rfl
   refine st (v := (.agg #[(Sl a5 r2.1.1 c6), (Sl a7 r2.1.2 c8)])) (rv_load (cs := [(Sl a5 r2.1.1 c6), (Sl a7 r2.1.2 c8)]) Try.underlying25 rfl ti25 rfl rfl hc23) ?_
   refine st (v := (Sl a9 r2.2 c10)) (rv_move rfl) ?_
   obtain ⟨r24, hx25, h'⟩ := bind_some h
   clear h
   have h := h'; clear h'
   have hc26 := c_spec_CodeDistances (ab_0_0 := a5) (cb_0_0 := c6) (ab_0_1 := a7) (cb_0_1 := c8) (aat_1 := a9) (cat_1 := c10) hx25
   have hle := Nat.le_trans hn0 H.size
   refine st_call (cx_lend (Loan.lend (Loan.lend (Loan.lend Loan.nil))) hc26 (ent_f hc26.fn rfl) (show Hp S0 σ0 _ ([Ch.own n0 n0 (Sl a5 r2.1.1 c6) r2.1.1, Ch.own n0 n0 (Sl a7 r2.1.2 c8) r2.1.2, Ch.own n0 n0 (Sl a9 r2.2 c10) r2.2] ++ ([] ++ [Ch.own n0 n0 (Sl a19 r16 c20) r16, Ch.bx n0 b12 0 [(Sl a5 r2.1.1 c6), (Sl a7 r2.1.2 c8)] [] [], Ch.ro 0 (Sl acode_0 code_0 ccode_0) code_0])) from (H.sel' [1, 2, 3, 0, 4, 5] rfl rfl)) (by rintro _ _ _ ⟨_, _, rfl, rfl⟩; exact ⟨Ab.ownSc, trivial⟩)) wn ?_
   rintro _ σ29 ⟨_, ⟨a27, c28, rfl, rfl⟩, H, -, -⟩
   replace H : Hp S0 σ0 σ29 [Ch.own σ21.size σ21.size (Sl a27 r24 c28) r24, Ch.own n0 n0 (Sl a5 r2.1.1 c6) r2.1.1, Ch.own n0 n0 (Sl a7 r2.1.2 c8) r2.1.2, Ch.own n0 n0 (Sl a9 r2.2 c10) r2.2, Ch.own n0 n0 (Sl a19 r16 c20) r16, Ch.bx n0 b12 0 [(Sl a5 r2.1.1 c6), (Sl a7 r2.1.2 c8)] [] [], Ch.ro 0 (Sl acode_0 code_0 ccode_0) code_0] := H
   replace H := H.ownLow 0 n0 n0 rfl hle hle
   clear hle
   replace H : Hp S0 σ0 σ29 [Ch.own n0 n0 (Sl a27 r24 c28) r24, Ch.own n0 n0 (Sl a5 r2.1.1 c6) r2.1.1, Ch.own n0 n0 (Sl a7 r2.1.2 c8) r2.1.2, Ch.own n0 n0 (Sl a9 r2.2 c10) r2.2, Ch.own n0 n0 (Sl a19 r16 c20) r16, Ch.bx n0 b12 0 [(Sl a5 r2.1.1 c6), (Sl a7 r2.1.2 c8)] [] [], Ch.ro 0 (Sl acode_0 code_0 ccode_0) code_0] := H
   obtain ⟨σ30, hw31, H, -⟩ := H.pub 0 rfl (Nat.le_refl _)
   rw [← hw31]; clear hw31
   replace H := H.roLow 0 0 rfl (Nat.zero_le _)
   obtain ⟨r32, hx33, h'⟩ := bind_some h
   clear h
   have h := h'; clear h'
   have hc34 := c_laws_equalInts (aa_0 := a19) (ca_0 := c20) (ab_1 := a27) (cb_1 := c28) hx33
   have hle := Nat.le_trans hn0 H.size
   refine st_call (cx_lend (Loan.lend (Loan.same Loan.nil)) hc34 (ent_f hc34.fn rfl) (show Hp S0 σ0 _ ([Ch.own n0 n0 (Sl a19 r16 c20) r16] ++ ([Ch.ro 0 (Sl a27 r24 c28) r24] ++ [Ch.ro 0 (Sl a27 r24 c28) r24, Ch.ro n0 (Sl a27 r24 c28) r24, Ch.own n0 n0 (Sl a5 r2.1.1 c6) r2.1.1, Ch.own n0 n0 (Sl a7 r2.1.2 c8) r2.1.2, Ch.own n0 n0 (Sl a9 r2.2 c10) r2.2, Ch.bx n0 b12 0 [(Sl a5 r2.1.1 c6), (Sl a7 r2.1.2 c8)] [] [], Ch.ro 0 (Sl acode_0 code_0 ccode_0) code_0])) from (H.sel' [5, 0, 0, 1, 2, 3, 4, 6, 7] rfl rfl)) (by rintro _ _ _ ⟨rfl, rfl⟩; exact trivial)) wn ?_
   rintro _ σ35 ⟨_, ⟨rfl, rfl⟩, H, -, -⟩
   replace H : Hp S0 σ0 σ35 [Ch.own n0 n0 (Sl a19 r16 c20) r16, Ch.ro 0 (Sl a27 r24 c28) r24, Ch.ro n0 (Sl a27 r24 c28) r24, Ch.own n0 n0 (Sl a5 r2.1.1 c6) r2.1.1, Ch.own n0 n0 (Sl a7 r2.1.2 c8) r2.1.2, Ch.own n0 n0 (Sl a9 r2.2 c10) r2.2, Ch.bx n0 b12 0 [(Sl a5 r2.1.1 c6), (Sl a7 r2.1.2 c8)] [] [], Ch.ro 0 (Sl acode_0 code_0 ccode_0) code_0] := H
   clear hle
   replace H : Hp S0 σ0 σ35 [Ch.own n0 n0 (Sl a19 r16 c20) r16, Ch.ro 0 (Sl a27 r24 c28) r24, Ch.ro n0 (Sl a27 r24 c28) r24, Ch.own n0 n0 (Sl a5 r2.1.1 c6) r2.1.1, Ch.own n0 n0 (Sl a7 r2.1.2 c8) r2.1.2, Ch.own n0 n0 (Sl a9 r2.2 c10) r2.2, Ch.bx n0 b12 0 [(Sl a5 r2.1.1 c6), (Sl a7 r2.1.2 c8)] [] [], Ch.ro 0 (Sl acode_0 code_0 ccode_0) code_0] := H
   replace H : Hp S0 σ0 σ35 [Ch.own n0 n0 (Sl a19 r16 c20) r16, Ch.own n0 n0 (Sl a5 r2.1.1 c6) r2.1.1, Ch.own n0 n0 (Sl a7 r2.1.2 c8) r2.1.2, Ch.own n0 n0 (Sl a9 r2.2 c10) r2.2, Ch.bx n0 b12 0 [(Sl a5 r2.1.1 c6), (Sl a7 r2.1.2 c8)] [] []] := H.sel' [0, 3, 4, 5, 6] rfl rfl
   refine st (v := (B (!r32))) (rv_not rfl) ?_
   refine st (v := (B (!r32))) (rv_move rfl) ?_
   rcases Bool.eq_false_or_eq_true (!r32) with hb36 | hb36
   ·replace h := bif_t hb36 h
    refine st_skip (congrArg some hb36) ?_
    refine st_skip (congrArg some hb36) ?_
    refine st_skip (congrArg some hb36) ?_
    refine st (v := (B true)) (rv_pick_t (congrArg B hb36) rfl) ?_
    refine w_end ?_
    obtain rfl := Option.some.inj h
    exact ⟨rfl, _, σ35, fr_join ⟨rfl, rfl, rfl, rfl, trivial⟩, rfl, H.sel' [1, 2, 4, 3, 0] rfl rfl⟩
   ·replace h := bif_f hb36 h
    refine st_g (v := (Sl a19 r16 c20)) (congrArg some hb36) (rv_move rfl) ?_
    refine st_g (v := (I (r16.length : Int))) (congrArg some hb36) (rv_len Try.underlying29 rfl) ?_
    refine st_g (v := (B ((r16.length : Int) != 16))) (congrArg some hb36) (rv_neq (a := (r16.length : Int)) (b := 16) rfl rfl) ?_
    refine st (v := (B ((r16.length : Int) != 16))) (rv_pick_f (congrArg B hb36) rfl) ?_
    refine w_end ?_
    obtain rfl := Option.some.inj h
    exact ⟨rfl, _, σ35, fr_join ⟨rfl, rfl, rfl, rfl, trivial⟩, rfl, H.sel' [1, 2, 4, 3, 0] rfl rfl⟩
  ·clear hj
   have h := h'
   clear h' H
   rintro e a w ⟨rfl, ρ, σ37, rfl, rfl, H⟩
   refine q_then ?_
   refine cd_cond o22 rfl (fun hb38 => ?_) (fun hb38 => ?_)
   ·replace h := bif_t hb38 h
    refine c_seq ?_
    refine rg ?_
    refine st (v := (Sl a19 r16 c20)) (rv_move rfl) ?_
    have hc39 := H.cells 2 rfl
    refine st (v := (.agg #[(Sl a5 r2.1.1 c6), (Sl a7 r2.1.2 c8)])) (rv_load (cs := [(Sl a5 r2.1.1 c6), (Sl a7 r2.1.2 c8)]) Try.underlying25 rfl ti25 rfl rfl hc39) ?_
    refine st (v := (Sl a9 r2.2 c10)) (rv_move rfl) ?_
    obtain ⟨σ40, hw41, H, -⟩ := H.pub 0 rfl (Nat.le_refl _)
    rw [← hw41]; clear hw41
    obtain ⟨σ42, hw43, H, -⟩ := H.pub 1 rfl (Nat.le_refl _)
    rw [← hw43]; clear hw43
    obtain ⟨σ44, hw45, H, -⟩ := H.pub 3 rfl (Nat.le_refl _)
    rw [← hw45]; clear hw45
    replace H := H.roLow 2 0 rfl (Nat.zero_le _)
    replace H := H.roLow 2 0 rfl (Nat.zero_le _)
    replace H := H.roLow 2 0 rfl (Nat.zero_le _)
    obtain ⟨r46, hx47, h'⟩ := bind_some h
    clear h
    have h := h'; clear h'
    have hc48 := c_spec_CodeDistances (ab_0_0 := a5) (cb_0_0 := c6) (ab_0_1 := a7) (cb_0_1 := c8) (aat_1 := a9) (cat_1 := c10) hx47
    refine st_call (cx_call hc48 (ent_f hc48.fn rfl) hn0 (show Hp S0 σ0 _ ([Ch.ro 0 (Sl a5 r2.1.1 c6) r2.1.1, Ch.ro 0 (Sl a7 r2.1.2 c8) r2.1.2, Ch.ro 0 (Sl a9 r2.2 c10) r2.2] ++ [Ch.ro 0 (Sl a9 r2.2 c10) r2.2, Ch.ro 0 (Sl a7 r2.1.2 c8) r2.1.2, Ch.ro 0 (Sl a5 r2.1.1 c6) r2.1.1, Ch.ro n0 (Sl a9 r2.2 c10) r2.2, Ch.ro n0 (Sl a7 r2.1.2 c8) r2.1.2, Ch.ro n0 (Sl a5 r2.1.1 c6) r2.1.1, Ch.bx n0 b12 0 [(Sl a5 r2.1.1 c6), (Sl a7 r2.1.2 c8)] [] [], Ch.own n0 n0 (Sl a19 r16 c20) r16]) from (H.sel' [2, 1, 0, 0, 1, 2, 3, 4, 5, 6, 7] rfl rfl))) wn ?_
    rintro _ σ51 ⟨_, ⟨a49, c50, rfl, rfl⟩, H, -⟩
    replace H : Hp S0 σ0 σ51 [Ch.own n0 n0 (Sl a49 r46 c50) r46, Ch.ro 0 (Sl a9 r2.2 c10) r2.2, Ch.ro 0 (Sl a7 r2.1.2 c8) r2.1.2, Ch.ro 0 (Sl a5 r2.1.1 c6) r2.1.1, Ch.ro n0 (Sl a9 r2.2 c10) r2.2, Ch.ro n0 (Sl a7 r2.1.2 c8) r2.1.2, Ch.ro n0 (Sl a5 r2.1.1 c6) r2.1.1, Ch.bx n0 b12 0 [(Sl a5 r2.1.1 c6), (Sl a7 r2.1.2 c8)] [] [], Ch.own n0 n0 (Sl a19 r16 c20) r16] := H
    replace H : Hp S0 σ0 σ51 [Ch.own n0 n0 (Sl a49 r46 c50) r46, Ch.own n0 n0 (Sl a19 r16 c20) r16] := H.sel' [0, 8] rfl rfl
    obtain ⟨σ52, hw53, H, -⟩ := H.pub 1 rfl (Nat.le_refl _)
    rw [← hw53]; clear hw53
    obtain ⟨σ54, hw55, H, -⟩ := H.pub 1 rfl (Nat.le_refl _)
    rw [← hw55]; clear hw55
    replace H := H.roLow 1 0 rfl (Nat.zero_le _)
    replace H := H.roLow 1 0 rfl (Nat.zero_le _)
    obtain ⟨r56, hx57, h'⟩ := bind_some h
    clear h
    have h := h'; clear h'
    have hc58 := c_laws_equalInts (aa_0 := a19) (ca_0 := c20) (ab_1 := a49) (cb_1 := c50) hx57
    refine st_call (cx_call hc58 (ent_f hc58.fn rfl) hn0 (show Hp S0 σ0 _ ([Ch.ro 0 (Sl a19 r16 c20) r16, Ch.ro 0 (Sl a49 r46 c50) r46] ++ [Ch.ro 0 (Sl a49 r46 c50) r46, Ch.ro 0 (Sl a19 r16 c20) r16, Ch.ro n0 (Sl a49 r46 c50) r46, Ch.ro n0 (Sl a19 r16 c20) r16]) from (H.sel' [1, 0, 0, 1, 2, 3] rfl rfl))) wn ?_
    rintro _ σ59 ⟨_, ⟨rfl, rfl⟩, H, -⟩
    replace H : Hp S0 σ0 σ59 [Ch.ro 0 (Sl a49 r46 c50) r46, Ch.ro 0 (Sl a19 r16 c20) r16, Ch.ro n0 (Sl a49 r46 c50) r46, Ch.ro n0 (Sl a19 r16 c20) r16] := H
    refine st (v := (B r56)) (rv_assign rfl) ?_
    refine w_end ?_
    refine q_then ?_
    refine c_ret ?_
    refine q_then_r ?_
    obtain rfl := Option.some.inj h
    exact fin_ret (v := (B r56)) (results_ok Try.results8 (res_tmp (v := (B r56)) rfl res_nil) rfl) ⟨rfl, rfl⟩ (H.sel' [] rfl rfl)
   ·replace h := bif_f hb38 h
    refine c_skip ?_
    refine q_then ?_
    refine c_seq ?_
    refine c_seq ?_
    refine rg ?_
    refine st (v := (I 0)) (rv_assign rfl) ?_
    refine w_end ?_
    refine q_then ?_
    obtain ⟨o60, hj, h'⟩ := bind_some h
    clear h
    refine c_cut (fun e a w => (∃ t, o60 = (.inl t) ∧ e = .normal ∧ ∃ (ρ : Nat → Value) (σ : St), a = fr 65 (updL ρ []) ∧ w = σ.w ∧ Hp S0 σ0 σ []) ∨ (∃ t, o60 = (.inr t) ∧ e = .ret ∧ ∃ (ρ : Nat → Value) (σ : St), a = fr 65 (updL ρ [(2, (B t))]) ∧ w = σ.w ∧ Hp S0 σ0 σ [])) ?_ ?_
    ·clear h'
     rename _ = some o60 => h
     refine c_blk ?_
     refine wp_loopM _ h (fun s61 a w => ∃ (ρ : Nat → Value) (σ : St), a = fr 65 (updL ρ [(5, (Sl a19 r16 c20)), (6, (I s61))]) ∧ w = σ.w ∧ Hp S0 σ0 σ [Ch.own n0 n0 (Sl a19 r16 c20) r16]) ⟨_, σ37, fr_join ⟨rfl, rfl, trivial⟩, rfl, H.sel' [4] rfl rfl⟩ ?_
     clear h H
     rintro s61 a w o ⟨ρ, σ62, rfl, rfl, H⟩ h hres
     refine c_seq ?_
     refine c_seq ?_
     refine rg ?_
     refine st (v := (I s61)) (rv_move rfl) ?_
     refine st (v := (B (decide (s61 < 4)))) (rv_lss (a := s61) (b := 4) rfl rfl) ?_
     refine w_end ?_
     refine q_then ?_
     refine cd_cond (decide (s61 < 4)) rfl (fun hb63 => ?_) (fun hb63 => ?_)
     ·replace h := bif_t hb63 h
      refine c_skip ?_
      refine q_then ?_
      refine c_seq ?_
      refine c_blk ?_
      refine c_seq ?_
      refine rg ?_
      refine st (v := (I 0)) (rv_assign rfl) ?_
      refine w_end ?_
      refine q_then ?_
      obtain ⟨o64, hj, h'⟩ := bind_some h
      clear h
      refine c_cut (fun e a w => (∃ t, o64 = (.inl t) ∧ e = .normal ∧ ∃ (ρ : Nat → Value) (σ : St), a = fr 65 (updL ρ [(5, (Sl a19 r16 c20)), (6, (I s61))]) ∧ w = σ.w ∧ Hp S0 σ0 σ [Ch.own n0 n0 (Sl a19 r16 c20) r16]) ∨ (∃ t, o64 = (.inr t) ∧ e = .ret ∧ ∃ (ρ : Nat → Value) (σ : St), a = fr 65 (updL ρ [(2, (B t))]) ∧ w = σ.w ∧ Hp S0 σ0 σ [])) ?_ ?_
      ·clear h'
       rename _ = some o64 => h
       refine c_blk ?_
       refine wp_loopM _ h (fun s65 a w => ∃ (ρ : Nat → Value) (σ : St), a = fr 65 (updL ρ [(5, (Sl a19 r16 c20)), (6, (I s61)), (7, (I s65))]) ∧ w = σ.w ∧ Hp S0 σ0 σ [Ch.own n0 n0 (Sl a19 r16 c20) r16]) ⟨_, σ62, fr_join ⟨rfl, rfl, rfl, trivial⟩, rfl, H.sel' [0] rfl rfl⟩ ?_
       clear h H
       rintro s65 a w o ⟨ρ, σ66, rfl, rfl, H⟩ h hres
       refine c_seq ?_
       refine c_seq ?_
       refine rg ?_
       refine st (v := (I s65)) (rv_move rfl) ?_
       refine st (v := (B (decide (s65 < 4)))) (rv_lss (a := s65) (b := 4) rfl rfl) ?_
       refine w_end ?_
       refine q_then ?_
       refine cd_cond (decide (s65 < 4)) rfl (fun hb67 => ?_) (fun hb67 => ?_)
       ·replace h := bif_t hb67 h
        refine c_skip ?_
        refine q_then ?_
        refine c_seq ?_
        refine c_blk ?_
        refine c_seq ?_
        refine rgP (σ := σ66) 21 (by kernel_rfl) (by kernel_rfl) (by kernel_rfl) ?_
        refine sq (v := (Sl a19 r16 c20)) (rv_move rfl) ?_
        refine sq (v := (I s61)) (rv_move rfl) ?_
        refine sq (v := (I (w64 (s61 * 4)))) (rv_mul (a := s61) (b := 4) rfl rfl) ?_
        refine sq (v := (I s65)) (rv_move rfl) ?_
        refine sq (v := (I (w64 ((w64 (s61 * 4)) + s65)))) (rv_add (a := (w64 (s61 * 4))) (b := s65) rfl rfl) ?_
        obtain ⟨x68, hx69, h'⟩ := bind_some h
        clear h
        have h := h'; clear h'
        obtain ⟨b71, o72, hi70, -⟩ := (H.own 0 rfl).ix hx69
        refine sq (v := (pt b71 o72)) (rv_ix Try.underlying29 ti3 rfl rfl hi70) ?_
        have hc73 := ((H.own 0 rfl).at hx69 hi70).int
        refine sq (v := (I x68)) (rv_load1 Try.underlying3 rfl rfl hc73) ?_
        refine sq (v := (Sl a19 r16 c20)) (rv_move rfl) ?_
        obtain ⟨x74, hx75, h'⟩ := bind_some h
        clear h
        have h := h'; clear h'
        obtain ⟨b77, o78, hi76, -⟩ := (H.own 0 rfl).ix hx75
        refine sq (v := (pt b77 o78)) (rv_ix Try.underlying29 ti3 rfl rfl hi76) ?_
        have hc79 := ((H.own 0 rfl).at hx75 hi76).int
        refine sq (v := (I x74)) (rv_load1 Try.underlying3 rfl rfl hc79) ?_
        refine sq (v := (I (w64 (x68 + x74)))) (rv_add (a := x68) (b := x74) rfl rfl) ?_
        refine sq (v := (Sl a19 r16 c20)) (rv_move rfl) ?_
        refine sq (v := (I s61)) (rv_move rfl) ?_
        refine sq (v := (I (w64 (s61 * 4)))) (rv_mul (a := s61) (b := 4) rfl rfl) ?_
        obtain ⟨x80, hx81, h'⟩ := bind_some h
        clear h
        have h := h'; clear h'
        obtain ⟨b83, o84, hi82, -⟩ := (H.own 0 rfl).ix hx81
        refine sq (v := (pt b83 o84)) (rv_ix Try.underlying29 ti3 rfl rfl hi82) ?_
        have hc85 := ((H.own 0 rfl).at hx81 hi82).int
        refine sq (v := (I x80)) (rv_load1 Try.underlying3 rfl rfl hc85) ?_
        refine sq (v := (Sl a19 r16 c20)) (rv_move rfl) ?_
        refine sq (v := (I s65)) (rv_move rfl) ?_
        obtain ⟨x86, hx87, h'⟩ := bind_some h
        clear h
        have h := h'; clear h'
        obtain ⟨b89, o90, hi88, -⟩ := (H.own 0 rfl).ix hx87
        refine sq (v := (pt b89 o90)) (rv_ix Try.underlying29 ti3 rfl rfl hi88) ?_
        have hc91 := ((H.own 0 rfl).at hx87 hi88).int
        refine sq (v := (I x86)) (rv_load1 Try.underlying3 rfl rfl hc91) ?_
        refine sq (v := (I (w64 (x80 + x86)))) (rv_add (a := x80) (b := x86) rfl rfl) ?_
        refine sq_end ?_
        intro σ92 hm93
        replace H := H.grow (hm93.mono fun _ h => h); clear hm93
        refine st (v := (B ((w64 (x68 + x74)) != (w64 (x80 + x86))))) (rv_neq (a := (w64 (x68 + x74))) (b := (w64 (x80 + x86))) rfl rfl) ?_
        refine w_end ?_
        refine q_then ?_
        refine cd_cond ((w64 (x68 + x74)) != (w64 (x80 + x86))) rfl (fun hb94 => ?_) (fun hb94 => ?_)
        ·replace h := bif_t hb94 h
         refine c_seq ?_
         refine rg ?_
         refine st (v := (B false)) (rv_assign rfl) ?_
         refine w_end ?_
         refine q_then ?_
         refine c_ret ?_
         refine q_blk_r ?_
         refine q_then_r ?_
         refine q_then_r ?_
         refine q_blk_r ?_
         obtain rfl := Option.some.inj h
         obtain rfl := hres _ rfl
         exact .inr (⟨_, rfl, rfl, _, σ92, fr_join ⟨rfl, trivial⟩, rfl, H.sel' [] rfl rfl⟩)
        ·replace h := bif_f hb94 h
         refine c_skip ?_
         refine q_blk ?_
         refine q_then ?_
         refine rg ?_
         refine st (v := (I s65)) (rv_move rfl) ?_
         refine st (v := (I (w64 (s65 + 1)))) (rv_add (a := s65) (b := 1) rfl rfl) ?_
         refine st (v := (I (w64 (s65 + 1)))) (rv_assign rfl) ?_
         refine w_end ?_
         refine q_then ?_
         obtain rfl := Option.some.inj h
         exact ⟨_, rfl, _, σ92, fr_join ⟨rfl, rfl, rfl, trivial⟩, rfl, H.sel' [0] rfl rfl⟩
       ·replace h := bif_f hb67 h
        refine c_exit ?_
        refine q_then_x ?_
        refine q_then_x ?_
        refine q_blk_hit ?_
        obtain rfl := Option.some.inj h
        obtain rfl := hres _ rfl
        exact .inl ⟨_, rfl, rfl, _, σ66, fr_join ⟨rfl, rfl, trivial⟩, rfl, H.sel' [0] rfl rfl⟩
      ·clear hj
       have h := h'
       clear h' H
       rintro e a w (⟨t95, rfl, rfl, ρ, σ96, rfl, rfl, H⟩ | ⟨t97, rfl, rfl, ρ, σ98, rfl, rfl, H⟩)
       ·replace h := selim_l h
        refine q_blk ?_
        refine q_then ?_
        refine rg ?_
        refine st (v := (I s61)) (rv_move rfl) ?_
        refine st (v := (I (w64 (s61 + 1)))) (rv_add (a := s61) (b := 1) rfl rfl) ?_
        refine st (v := (I (w64 (s61 + 1)))) (rv_assign rfl) ?_
        refine w_end ?_
        refine q_then ?_
        obtain rfl := Option.some.inj h
        exact ⟨_, rfl, _, σ96, fr_join ⟨rfl, rfl, trivial⟩, rfl, H.sel' [0] rfl rfl⟩
       ·replace h := selim_r h
        refine q_blk_r ?_
        refine q_then_r ?_
        refine q_then_r ?_
        refine q_blk_r ?_
        obtain rfl := Option.some.inj h
        obtain rfl := hres _ rfl
        exact .inr (⟨_, rfl, rfl, _, σ98, fr_join ⟨rfl, trivial⟩, rfl, H.sel' [] rfl rfl⟩)
     ·replace h := bif_f hb63 h
      refine c_exit ?_
      refine q_then_x ?_
      refine q_then_x ?_
      refine q_blk_hit ?_
      obtain rfl := Option.some.inj h
      obtain rfl := hres _ rfl
      exact .inl ⟨_, rfl, rfl, _, σ62, fr_join trivial, rfl, H.sel' [] rfl rfl⟩
    ·clear hj
     have h := h'
     clear h' H
     rintro e a w (⟨t99, rfl, rfl, ρ, σ100, rfl, rfl, H⟩ | ⟨t101, rfl, rfl, ρ, σ102, rfl, rfl, H⟩)
     ·replace h := selim_l h
      refine q_then ?_
      refine c_seq ?_
      refine rg ?_
      refine st (v := (B true)) (rv_assign rfl) ?_
      refine w_end ?_
      refine q_then ?_
      refine c_ret ?_
      obtain rfl := Option.some.inj h
      exact fin_ret (v := (B true)) (results_ok Try.results8 (res_tmp (v := (B true)) rfl res_nil) rfl) ⟨rfl, rfl⟩ (H.sel' [] rfl rfl)
     ·replace h := selim_r h
      refine q_then_r ?_
      obtain rfl := Option.some.inj h
      exact fin_ret (v := (B t101)) (results_ok Try.results8 (res_tmp (v := (B t101)) rfl res_nil) rfl) ⟨rfl, rfl⟩ (H.sel' [] rfl rfl)

end Go.Vs
