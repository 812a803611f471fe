/- The functions compute what their models say. -/
import Derived.Test.YtbnhppnkdmnneaaKExactSettleCentresC2
set_option linter.unusedVariables false
set_option linter.unusedSimpArgs false
set_option maxRecDepth 20000
namespace Go.Vs
open Go Go.Proofs
attribute [local irreducible] Code.wp Code.wpIn wpList wpListIn wpQuiet Calls CallsIn

theorem c_impl_gapsOf {a_0 : List Int} {b_1 : List Int} (hla_0 : a_0.length = 4) (hlb_1 : b_1.length = 4) {r : (List Int)} (h : M.impl_gapsOf a_0 b_1 = some r) :
    Cal2 Try.prog 93 [(.agg (List.map I a_0).toArray), (.agg (List.map I b_1).toArray)] [] (fun n0 v L => v = (.agg (List.map I r).toArray) ∧ L = [] ∧ r.length = 4) := by
 refine cal2 (n := 29) Try.func93 rfl rfl rfl rfl ?_
 intro S0 σ0 n0 hn0 H
 unfold M.impl_gapsOf at h
 refine c_seq ?_
 refine rg ?_
 refine st_ex (ex_box (cs := (List.map I a_0)) H hn0 rfl rfl) wn ?_
 rintro _ σ2 ⟨b1, rfl, H, -⟩
 refine st_ex (ex_box (cs := (List.map I b_1)) H hn0 rfl rfl) wn ?_
 rintro _ σ4 ⟨b3, rfl, H, -⟩
 refine st_ex (ex_alloc (cs := (List.map I (List.replicate 4 0))) H hn0 ti57 rfl) wn ?_
 rintro _ σ6 ⟨b5, rfl, H, -⟩
 refine w_end ?_
 refine q_then ?_
 refine c_seq ?_
 refine rg ?_
 refine st_ex (ex_alloc (cs := (List.map I (List.replicate 4 0))) H hn0 ti57 rfl) wn ?_
 rintro _ σ8 ⟨b7, rfl, H, -⟩
 refine w_end ?_
 refine q_then ?_
 refine c_seq ?_
 refine c_seq ?_
 refine rg ?_
 refine st (v := (I 0)) (rv_move rfl) ?_
 refine w_end ?_
 refine q_then ?_
 obtain ⟨o9, hj, h'⟩ := bind_some h
 clear h
 refine c_cut (fun e a w => e = .normal ∧ ∃ (ρ : Nat → Value) (σ : St), a = fr 29 (updL ρ [(4, (pt b5 0)), (5, (pt b7 0))]) ∧ w = σ.w ∧ Hp S0 σ0 σ [Ch.bx n0 b7 0 (List.map I o9) [] [], Ch.bx n0 b5 0 (List.map I (List.replicate 4 0)) [] []] ∧ o9.length = 4) ?_ ?_
 ·clear h'
  rename _ = some o9 => h
  refine c_blk ?_
  refine wp_loopM _ h (fun s10 a w => ∃ (ρ : Nat → Value) (σ : St), a = fr 29 (updL ρ [(2, (pt b1 0)), (3, (pt b3 0)), (4, (pt b5 0)), (5, (pt b7 0)), (7, (I s10.2))]) ∧ w = σ.w ∧ Hp S0 σ0 σ [Ch.bx n0 b7 0 (List.map I s10.1) [] [], Ch.bx n0 b1 0 (List.map I a_0) [] [], Ch.bx n0 b3 0 (List.map I b_1) [] [], Ch.bx n0 b5 0 (List.map I (List.replicate 4 0)) [] []] ∧ s10.1.length = 4) ⟨_, σ8, fr_join ⟨rfl, rfl, rfl, rfl, rfl, trivial⟩, rfl, H.sel' [0, 3, 2, 1] rfl rfl, rfl⟩ ?_
  clear h H
  rintro s10 a w o ⟨ρ, σ11, rfl, rfl, H, hl12⟩ h hres
  refine c_seq ?_
  refine rg ?_
  refine st (v := (B (decide (s10.2 < 4)))) (rv_lss (a := s10.2) (b := 4) rfl rfl) ?_
  refine w_end ?_
  refine q_then ?_
  refine c_seq ?_
  refine cd_cond (decide (s10.2 < 4)) rfl (fun hb13 => ?_) (fun hb13 => ?_)
  ·replace h := bif_t hb13 h
   refine c_skip ?_
   refine q_then ?_
   refine c_seq ?_
   refine c_blk ?_
   refine c_seq ?_
   refine rg ?_
   refine st (v := (I s10.2)) (rv_move rfl) ?_
   refine st (v := (I s10.2)) (rv_assign rfl) ?_
   refine w_end ?_
   refine q_then ?_
   refine rgP (σ := σ11) 16 (by kernel_rfl) (by kernel_rfl) (by kernel_rfl) ?_
   refine sq (v := (I s10.2)) (rv_move rfl) ?_
   refine sq (v := (I s10.2)) (rv_move rfl) ?_
   obtain ⟨x14, hx15, h'⟩ := bind_some h
   clear h
   have h := h'; clear h'
   have hl16 := gidx_lt hx15 hla_0
   refine sq (v := (pt b1 (0 + s10.2.toNat * 1))) (rv_indexAddr_array Try.underlying57 ti3 rfl rfl hl16.1 hl16.2) ?_
   have hc17 := Hp.arrCell H 1 rfl hx15
   refine sq (v := (I x14)) (rv_load1 Try.underlying3 rfl rfl hc17) ?_
   refine sq (v := (I s10.2)) (rv_move rfl) ?_
   obtain ⟨x18, hx19, h'⟩ := bind_some h
   clear h
   have h := h'; clear h'
   have hl20 := gidx_lt hx19 hlb_1
   refine sq (v := (pt b3 (0 + s10.2.toNat * 1))) (rv_indexAddr_array Try.underlying57 ti3 rfl rfl hl20.1 hl20.2) ?_
   have hc21 := Hp.arrCell H 2 rfl hx19
   refine sq (v := (I x18)) (rv_load1 Try.underlying3 rfl rfl hc21) ?_
   refine sq (v := (I (w64 (x14 - x18)))) (rv_sub (a := x14) (b := x18) rfl rfl) ?_
   refine sq (v := (I s10.2)) (rv_move rfl) ?_
   obtain ⟨x22, hx23, h'⟩ := bind_some h
   clear h
   have h := h'; clear h'
   have hl24 := gidx_lt hx23 hlb_1
   refine sq (v := (pt b3 (0 + s10.2.toNat * 1))) (rv_indexAddr_array Try.underlying57 ti3 rfl rfl hl24.1 hl24.2) ?_
   have hc25 := Hp.arrCell H 2 rfl hx23
   refine sq (v := (I x22)) (rv_load1 Try.underlying3 rfl rfl hc25) ?_
   refine sq (v := (I s10.2)) (rv_move rfl) ?_
   obtain ⟨x26, hx27, h'⟩ := bind_some h
   clear h
   have h := h'; clear h'
   have hl28 := gidx_lt hx27 hla_0
   refine sq (v := (pt b1 (0 + s10.2.toNat * 1))) (rv_indexAddr_array Try.underlying57 ti3 rfl rfl hl28.1 hl28.2) ?_
   have hc29 := Hp.arrCell H 1 rfl hx27
   refine sq (v := (I x26)) (rv_load1 Try.underlying3 rfl rfl hc29) ?_
   refine sq (v := (I (w64 (x22 - x26)))) (rv_sub (a := x22) (b := x26) rfl rfl) ?_
   refine sq (v := (I (max (w64 (x14 - x18)) (w64 (x22 - x26))))) (rv_max rfl rfl) ?_
   refine sq_end ?_
   intro σ30 hm31
   replace H := H.grow (hm31.mono fun _ h => h); clear hm31
   obtain ⟨x32, hx33, h'⟩ := bind_some h
   clear h
   have h := h'; clear h'
   have hl34 := gidx_lt hx33 hl12
   refine st (v := (pt b7 (0 + s10.2.toNat * 1))) (rv_indexAddr_array Try.underlying57 ti3 rfl rfl hl34.1 hl34.2) ?_
   have hl35 := gidx_lt hx33 hl12
   refine st_exS (ex_store_box (k := s10.2.toNat * 1) (vs := [(I (max (w64 (x14 - x18)) (w64 (x22 - x26))))]) (cs' := (List.map I (s10.1.set s10.2.toNat (max (w64 (x14 - x18)) (w64 (x22 - x26)))))) H (i := 0) rfl ti3 rfl rfl rfl rfl rfl (by rw [List.length_map, hl12]; simp; omega) (by simp [plain]) (arr_set' _ _ _)) wn ?_
   rintro σ36 ⟨H, -⟩
   refine w_end ?_
   refine q_blk ?_
   refine q_then ?_
   refine rg ?_
   refine st (v := (I (w64 (s10.2 + 1)))) (rv_add (a := s10.2) (b := 1) rfl rfl) ?_
   refine st (v := (I (w64 (s10.2 + 1)))) (rv_move rfl) ?_
   refine w_end ?_
   refine q_then ?_
   obtain rfl := Option.some.inj h
   exact ⟨_, rfl, _, σ36, fr_join ⟨rfl, rfl, rfl, rfl, rfl, trivial⟩, rfl, H.sel' [0, 1, 2, 3] rfl rfl, (set_len hl12)⟩
  ·replace h := bif_f hb13 h
   refine c_exit ?_
   refine q_then_x ?_
   refine q_then_x ?_
   refine q_blk_hit ?_
   obtain rfl := Option.some.inj h
   obtain rfl := hres _ rfl
   exact ⟨rfl, _, σ11, fr_join ⟨rfl, rfl, trivial⟩, rfl, H.sel' [0, 3] rfl rfl, hl12⟩
 ·clear hj
  have h := h'
  clear h' H
  rintro e a w ⟨rfl, ρ, σ37, rfl, rfl, H, hl38⟩
  refine q_then ?_
  refine c_seq ?_
  refine rg ?_
  have hc39 := H.cells 0 rfl
  refine st (v := (.agg (List.map I o9).toArray)) (rv_load (cs := (List.map I o9)) Try.underlying57 rfl ti57 rfl (by rw [List.length_map]; exact hl38) hc39) ?_
  refine st_exS (ex_store_box (k := 0) (cs := (List.map I (List.replicate 4 0))) (vs := (List.map I o9)) (cs' := (List.map I o9)) H (i := 1) rfl ti57 rfl rfl rfl rfl ((List.length_map _).trans hl38) (arr_fits (k := 4) hl38 rfl) (plain_ints _) (arr_all (k := 4) hl38 rfl)) wn ?_
  rintro σ40 ⟨H, -⟩
  refine w_end ?_
  refine q_then ?_
  refine c_ret ?_
  obtain rfl := Option.some.inj h
  exact fin_ret (v := (.agg (List.map I o9).toArray)) (results_ok Try.results93 (res_cell rfl (run_cellRes (cs := (List.map I o9)) Try.underlying57 rfl ti57 (by rw [List.length_map]; exact hl38) (H.cells 0 rfl)) res_nil) rfl) ⟨rfl, rfl, hl38⟩ (H.sel' [] rfl rfl)

theorem c_impl_Distance {kind_0 : Int} {a_1 : List Int} {b_2 : List Int} {aa_1 : Option Addr} {ca_1 : Nat} {ab_2 : Option Addr} {cb_2 : Nat} {r : Int} (h : M.impl_Distance kind_0 a_1 b_2 = some r) :
    Cal2 Try.prog 66 [(I kind_0), (Sl aa_1 a_1 ca_1), (Sl ab_2 b_2 cb_2)] [Ch.ro 0 (Sl aa_1 a_1 ca_1) a_1, Ch.ro 0 (Sl ab_2 b_2 cb_2) b_2] (fun n0 v L => v = (I r) ∧ L = []) := by
 refine cal2 (n := 24) Try.func66 rfl rfl rfl rfl ?_
 intro S0 σ0 n0 hn0 H
 unfold M.impl_Distance at h
 refine c_seq ?_
 refine rg ?_
 refine st (v := (I 0)) (rv_assign rfl) ?_
 refine w_end ?_
 refine q_then ?_
 refine c_seq ?_
 refine c_seq ?_
 obtain ⟨o1, hj, h'⟩ := bind_some h
 clear h
 refine c_cut (fun e a w => e = .normal ∧ ∃ (ρ : Nat → Value) (σ : St), a = fr 24 (updL ρ [(0, (I kind_0)), (1, (Sl aa_1 a_1 ca_1)), (2, (Sl ab_2 b_2 cb_2)), (14, (B o1))]) ∧ w = σ.w ∧ Hp S0 σ0 σ [Ch.ro 0 (Sl aa_1 a_1 ca_1) a_1, Ch.ro 0 (Sl ab_2 b_2 cb_2) b_2]) ?_ ?_
 ·clear h'
  rename _ = some o1 => h
  refine rg ?_
  refine st (v := (Sl aa_1 a_1 ca_1)) (rv_move rfl) ?_
  obtain ⟨r2, hx3, h'⟩ := bind_some h
  clear h
  have h := h'; clear h'
  have hc4 := c_impl_ValidVector (av_0 := aa_1) (cv_0 := ca_1) hx3
  refine st_call (cx_call hc4 (ent_f hc4.fn rfl) hn0 (show Hp S0 σ0 _ ([Ch.ro 0 (Sl aa_1 a_1 ca_1) a_1] ++ [Ch.ro 0 (Sl aa_1 a_1 ca_1) a_1, Ch.ro 0 (Sl ab_2 b_2 cb_2) b_2]) from (H.sel' [0, 0, 1] rfl rfl))) wn ?_
  rintro _ σ5 ⟨_, ⟨rfl, rfl⟩, H, -⟩
  replace H : Hp S0 σ0 σ5 [Ch.ro 0 (Sl aa_1 a_1 ca_1) a_1, Ch.ro 0 (Sl ab_2 b_2 cb_2) b_2] := H
  refine st (v := (B (!r2))) (rv_not rfl) ?_
  refine st (v := (B (!r2))) (rv_move rfl) ?_
  rcases Bool.eq_false_or_eq_true (!r2) with hb6 | hb6
  ·replace h := bif_t hb6 h
   refine st_skip (congrArg some hb6) ?_
   refine st_skip (congrArg some hb6) ?_
   refine st_skip (congrArg some hb6) ?_
   refine st (v := (B true)) (rv_pick_t (congrArg B hb6) rfl) ?_
   refine w_end ?_
   obtain rfl := Option.some.inj h
   exact ⟨rfl, _, σ5, fr_join ⟨rfl, rfl, rfl, rfl, trivial⟩, rfl, H.sel' [0, 1] rfl rfl⟩
  ·replace h := bif_f hb6 h
   refine st_g (v := (Sl ab_2 b_2 cb_2)) (congrArg some hb6) (rv_move rfl) ?_
   obtain ⟨r7, hx8, h'⟩ := bind_some h
   clear h
   have h := h'; clear h'
   have hc9 := c_impl_ValidVector (av_0 := ab_2) (cv_0 := cb_2) hx8
   refine st_call (cx_call hc9 (ent_f hc9.fn rfl) hn0 (show Hp S0 σ0 _ ([Ch.ro 0 (Sl ab_2 b_2 cb_2) b_2] ++ [Ch.ro 0 (Sl aa_1 a_1 ca_1) a_1, Ch.ro 0 (Sl ab_2 b_2 cb_2) b_2]) from (H.sel' [1, 0, 1] rfl rfl))) (wanted_yes rfl (by exact (congrArg some hb6))) ?_
   rintro _ σ10 ⟨_, ⟨rfl, rfl⟩, H, -⟩
   replace H : Hp S0 σ0 σ10 [Ch.ro 0 (Sl aa_1 a_1 ca_1) a_1, Ch.ro 0 (Sl ab_2 b_2 cb_2) b_2] := H
   refine st_g (v := (B (!r7))) (congrArg some hb6) (rv_not rfl) ?_
   refine st (v := (B (!r7))) (rv_pick_f (congrArg B hb6) rfl) ?_
   refine w_end ?_
   obtain rfl := Option.some.inj h
   exact ⟨rfl, _, σ10, fr_join ⟨rfl, rfl, rfl, rfl, trivial⟩, rfl, H.sel' [0, 1] rfl rfl⟩
 ·clear hj
  have h := h'
  clear h' H
  rintro e a w ⟨rfl, ρ, σ11, rfl, rfl, H⟩
  refine q_then ?_
  refine cd_cond o1 rfl (fun hb12 => ?_) (fun hb12 => ?_)
  ·replace h := bif_t hb12 h
   refine c_seq ?_
   refine rg ?_
   refine st (v := (I (-1))) (rv_assign rfl) ?_
   refine w_end ?_
   refine q_then ?_
   refine c_ret ?_
   refine q_then_r ?_
   obtain rfl := Option.some.inj h
   exact fin_ret (v := (I (-1))) (results_ok Try.results66 (res_tmp (v := (I (-1))) rfl res_nil) rfl) ⟨rfl, rfl⟩ (H.sel' [] rfl rfl)
  ·replace h := bif_f hb12 h
   refine c_skip ?_
   refine q_then ?_
   refine c_seq ?_
   obtain ⟨xs13, hx14, h'⟩ := bind_some h
   clear h
   have h := h'; clear h'
   obtain ⟨hl18, hq19⟩ := garr_some hx14
   clear hx14 hq19
   obtain ⟨b15, o16, rfl, hc17⟩ := (H.ro 0 rfl).arr (Nat.lt_of_lt_of_le (by decide) hl18)
   obtain ⟨xs20, hx21, h'⟩ := bind_some h
   clear h
   have h := h'; clear h'
   obtain ⟨hl25, hq26⟩ := garr_some hx21
   clear hx21 hq26
   obtain ⟨b22, o23, rfl, hc24⟩ := (H.ro 1 rfl).arr (Nat.lt_of_lt_of_le (by decide) hl25)
   obtain ⟨r27, hx28, h'⟩ := bind_some h
   clear h
   have h := h'; clear h'
   have hc29 := c_impl_gapsOf (by rw [List.length_take]; have := hl18; omega) (by rw [List.length_take]; have := hl25; omega) hx28
   have Hs := H
   refine rg2 (σ := σ11) (Nm := Unit) 8 [7] [[false], [true]] [[(0, 0), (1, 1)], [(0, 0)], [(0, 0)], [(0, 0)], [(0, 0)], [(0, 0)], [(0, 0)], [(0, 1)]] 1 [fun _ => fun σm => Hp S0 σ0 σm [Ch.ro 0 (Sl (some ⟨b15, o16, none⟩) a_1 ca_1) a_1, Ch.ro 0 (Sl (some ⟨b22, o23, none⟩) b_2 cb_2) b_2] ∧ Md (cov []) σ11 σm, fun _ => fun σm => Hp S0 σ0 σm [Ch.ro 0 (Sl (some ⟨b15, o16, none⟩) a_1 ca_1) a_1, Ch.ro 0 (Sl (some ⟨b22, o23, none⟩) b_2 cb_2) b_2] ∧ Md (cov []) σ11 σm ∧ r27.length = 4] [fun _ => (I kind_0), fun _ => (Sl (some ⟨b15, o16, none⟩) a_1 ca_1), fun _ => (.pointer (some ⟨b15, o16, none⟩)), fun _ => (.agg (List.map I (List.take 4 a_1)).toArray), fun _ => (Sl (some ⟨b22, o23, none⟩) b_2 cb_2), fun _ => (.pointer (some ⟨b22, o23, none⟩)), fun _ => (.agg (List.map I (List.take 4 b_2)).toArray), fun _ => (.agg (List.map I r27).toArray)] () (by kernel_rfl) (by kernel_rfl) ?_ ?_ ?_
   ·intro σm m0
    exact ⟨H.grow (m0.mono fun _ h => h.elim), m0⟩
   ·refine ac rfl (by
      intro k _nm ρ σm hJ hoff hdep
      have e0 := look_off (N := 24) (hoff 0 rfl) rfl
      exact dp_v (v := (I kind_0)) wn (rv_move e0) rfl hJ) ?_
    refine ac rfl (by
      intro k _nm ρ σm hJ hoff hdep
      have e1 := look_off (N := 24) (hoff 1 rfl) rfl
      exact dp_v (v := (Sl (some ⟨b15, o16, none⟩) a_1 ca_1)) wn (rv_move e1) rfl hJ) ?_
    refine ac rfl (by
      intro k _nm ρ σm hJ hoff hdep
      have e16 := hdep 1 rfl rfl 16 rfl
      exact dp_v (v := (.pointer (some ⟨b15, o16, none⟩))) wn (rv_arrPtr Try.underlying57 e16 hl18) rfl hJ) ?_
    refine all_cons (by
      refine ⟨?_, ?_⟩
      ·intro _nm ρ σm hJ hoff hdep
       have e17 := hdep 2 rfl rfl 17 rfl
       obtain ⟨H, m⟩ := id hJ
       replace hc17 := (Hs.ro 0 rfl).arr_md hc17 m
       exact dp_v (v := (.agg (List.map I (List.take 4 a_1)).toArray)) wn (rv_load (cs := List.map I (List.take 4 a_1)) Try.underlying57 rfl ti57 e17 (by rw [List.length_map, List.length_take]; have := hl18; omega) (arr_take hc17)) rfl hJ
      trivial) ?_
    refine ac rfl (by
      intro k _nm ρ σm hJ hoff hdep
      have e2 := look_off (N := 24) (hoff 2 rfl) rfl
      exact dp_v (v := (Sl (some ⟨b22, o23, none⟩) b_2 cb_2)) wn (rv_move e2) rfl hJ) ?_
    refine ac rfl (by
      intro k _nm ρ σm hJ hoff hdep
      have e19 := hdep 4 rfl rfl 19 rfl
      exact dp_v (v := (.pointer (some ⟨b22, o23, none⟩))) wn (rv_arrPtr Try.underlying57 e19 hl25) rfl hJ) ?_
    refine all_cons (by
      refine ⟨?_, ?_⟩
      ·intro _nm ρ σm hJ hoff hdep
       have e20 := hdep 5 rfl rfl 20 rfl
       obtain ⟨H, m⟩ := id hJ
       replace hc24 := (Hs.ro 1 rfl).arr_md hc24 m
       exact dp_v (v := (.agg (List.map I (List.take 4 b_2)).toArray)) wn (rv_load (cs := List.map I (List.take 4 b_2)) Try.underlying57 rfl ti57 e20 (by rw [List.length_map, List.length_take]; have := hl25; omega) (arr_take hc24)) rfl hJ
      trivial) ?_
    refine all_cons (by
      refine ⟨?_, ?_⟩
      ·intro _nm ρ σm hJ hoff hdep
       have e18 : look 24 ρ 18 = (.agg (List.map I (List.take 4 a_1)).toArray) := hdep 3 rfl rfl 18 rfl
       have e21 : look 24 ρ 21 = (.agg (List.map I (List.take 4 b_2)).toArray) := hdep 6 rfl rfl 21 rfl
       obtain ⟨H, m⟩ := id hJ
       refine dp_cx wn (cx_call hc29 (ent_f hc29.fn (by show [look 24 ρ 18, look 24 ρ 21] = _; rw [e18, e21])) hn0 (show Hp S0 σ0 _ ([] ++ [Ch.ro 0 (Sl (some ⟨b15, o16, none⟩) a_1 ca_1) a_1, Ch.ro 0 (Sl (some ⟨b22, o23, none⟩) b_2 cb_2) b_2]) from (H.sel' [0, 1] rfl rfl))) ?_
       rintro _ σq ⟨_, ⟨rfl, rfl, hl30⟩, H2, m2⟩
       exact ⟨_, (), rfl, rfl, ⟨H2.sel' [0, 1] rfl rfl, m.comp0 m2, hl30⟩, stab [0, 1, 2, 3, 4, 5, 6] (by kernel_rfl) ⟨rfl, rfl, rfl, rfl, rfl, rfl, rfl, trivial⟩⟩
      trivial) ?_
    exact all_nil
   ·intro _nm ρ σ31 hJ hoff hrel
    have e15 := hrel 0 rfl 15 rfl
    have e22 := hrel 7 rfl 22 rfl
    obtain ⟨H, -, hl30⟩ := (show Hp S0 σ0 σ31 [Ch.ro 0 (Sl (some ⟨b15, o16, none⟩) a_1 ca_1) a_1, Ch.ro 0 (Sl (some ⟨b22, o23, none⟩) b_2 cb_2) b_2] ∧ Md (cov []) σ11 σ31 ∧ r27.length = 4 from hJ)
    clear hJ Hs
    rw [fr_lookL (L := [(15, (I kind_0)), (22, (.agg (List.map I r27).toArray))]) ⟨e15, e22, trivial⟩]
    clear hoff hrel e15 e22
    obtain ⟨r32, hx33, h'⟩ := bind_some h
    clear h
    have h := h'; clear h'
    have hc34 := c_impl_distanceOf hl30 hx33
    refine st_call (cx_call hc34 (ent_f hc34.fn rfl) hn0 (show Hp S0 σ0 _ ([] ++ [Ch.ro 0 (Sl (some ⟨b15, o16, none⟩) a_1 ca_1) a_1, Ch.ro 0 (Sl (some ⟨b22, o23, none⟩) b_2 cb_2) b_2]) from (H.sel' [0, 1] rfl rfl))) wn ?_
    rintro _ σ35 ⟨_, ⟨rfl, rfl⟩, H, -⟩
    replace H : Hp S0 σ0 σ35 [Ch.ro 0 (Sl (some ⟨b15, o16, none⟩) a_1 ca_1) a_1, Ch.ro 0 (Sl (some ⟨b22, o23, none⟩) b_2 cb_2) b_2] := H
    refine st (v := (I r32)) (rv_assign rfl) ?_
    refine w_end ?_
    refine q_then ?_
    refine c_ret ?_
    obtain rfl := Option.some.inj h
    exact fin_ret (v := (I r32)) (results_ok Try.results66 (res_tmp (v := (I r32)) rfl res_nil) rfl) ⟨rfl, rfl⟩ (H.sel' [] rfl rfl)

theorem c_impl_CentreOf {centres_0 : List (List Int)} {at_1 : List Int} {acentres_0 : Option Addr} {ccentres_0 : Nat} {aat_1 : Option Addr} {cat_1 : Nat} {r : Int} (h : M.impl_CentreOf centres_0 at_1 = some r) :
    Cal2 Try.prog 70 [(Sl acentres_0 centres_0 ccentres_0), (Sl aat_1 at_1 cat_1)] [Ch.ro 0 (Sl acentres_0 centres_0 ccentres_0) centres_0, Ch.ro 0 (Sl aat_1 at_1 cat_1) at_1] (fun n0 v L => v = (I r) ∧ L = []) := by
 refine cal2 (n := 35) Try.func70 rfl rfl rfl rfl ?_
 intro S0 σ0 n0 hn0 H
 unfold M.impl_CentreOf at h
 refine c_seq ?_
 refine rg ?_
 refine st (v := (I 0)) (rv_assign rfl) ?_
 refine w_end ?_
 refine q_then ?_
 refine c_seq ?_
 refine c_seq ?_
 obtain ⟨o1, hj, h'⟩ := bind_some h
 clear h
 refine c_cut (fun e a w => e = .normal ∧ ∃ (ρ : Nat → Value) (σ : St), a = fr 35 (updL ρ [(0, (Sl acentres_0 centres_0 ccentres_0)), (1, (Sl aat_1 at_1 cat_1)), (17, (B o1))]) ∧ w = σ.w ∧ Hp S0 σ0 σ [Ch.ro 0 (Sl acentres_0 centres_0 ccentres_0) centres_0, Ch.ro 0 (Sl aat_1 at_1 cat_1) at_1]) ?_ ?_
 ·clear h'
  rename _ = some o1 => h
  refine rg ?_
  refine st (v := (Sl acentres_0 centres_0 ccentres_0)) (rv_move rfl) ?_
  obtain ⟨r2, hx3, h'⟩ := bind_some h
  clear h
  have h := h'; clear h'
  have hc4 := c_impl_ValidCentres (alist_0 := acentres_0) (clist_0 := ccentres_0) hx3
  refine st_call (cx_call hc4 (ent_f hc4.fn rfl) hn0 (show Hp S0 σ0 _ ([Ch.ro 0 (Sl acentres_0 centres_0 ccentres_0) centres_0] ++ [Ch.ro 0 (Sl acentres_0 centres_0 ccentres_0) centres_0, Ch.ro 0 (Sl aat_1 at_1 cat_1) at_1]) from (H.sel' [0, 0, 1] rfl rfl))) wn ?_
  rintro _ σ5 ⟨_, ⟨rfl, rfl⟩, H, -⟩
  replace H : Hp S0 σ0 σ5 [Ch.ro 0 (Sl acentres_0 centres_0 ccentres_0) centres_0, Ch.ro 0 (Sl aat_1 at_1 cat_1) at_1] := H
  refine st (v := (B (!r2))) (rv_not rfl) ?_
  refine st (v := (B (!r2))) (rv_move rfl) ?_
  rcases Bool.eq_false_or_eq_true (!r2) with hb6 | hb6
  ·replace h := bif_t hb6 h
   refine st_skip (congrArg some hb6) ?_
   refine st_skip (congrArg some hb6) ?_
   refine st_skip (congrArg some hb6) ?_
   refine st (v := (B true)) (rv_pick_t (congrArg B hb6) rfl) ?_
   refine w_end ?_
   obtain rfl := Option.some.inj h
   exact ⟨rfl, _, σ5, fr_join ⟨rfl, rfl, rfl, trivial⟩, rfl, H.sel' [0, 1] rfl rfl⟩
  ·replace h := bif_f hb6 h
   refine st_g (v := (Sl aat_1 at_1 cat_1)) (congrArg some hb6) (rv_move rfl) ?_
   obtain ⟨r7, hx8, h'⟩ := bind_some h
   clear h
   have h := h'; clear h'
   have hc9 := c_impl_ValidVector (av_0 := aat_1) (cv_0 := cat_1) hx8
   refine st_call (cx_call hc9 (ent_f hc9.fn rfl) hn0 (show Hp S0 σ0 _ ([Ch.ro 0 (Sl aat_1 at_1 cat_1) at_1] ++ [Ch.ro 0 (Sl acentres_0 centres_0 ccentres_0) centres_0, Ch.ro 0 (Sl aat_1 at_1 cat_1) at_1]) from (H.sel' [1, 0, 1] rfl rfl))) (wanted_yes rfl (by exact (congrArg some hb6))) ?_
   rintro _ σ10 ⟨_, ⟨rfl, rfl⟩, H, -⟩
   replace H : Hp S0 σ0 σ10 [Ch.ro 0 (Sl acentres_0 centres_0 ccentres_0) centres_0, Ch.ro 0 (Sl aat_1 at_1 cat_1) at_1] := H
   refine st_g (v := (B (!r7))) (congrArg some hb6) (rv_not rfl) ?_
   refine st (v := (B (!r7))) (rv_pick_f (congrArg B hb6) rfl) ?_
   refine w_end ?_
   obtain rfl := Option.some.inj h
   exact ⟨rfl, _, σ10, fr_join ⟨rfl, rfl, rfl, trivial⟩, rfl, H.sel' [0, 1] rfl rfl⟩
 ·clear hj
  have h := h'
  clear h' H
  rintro e a w ⟨rfl, ρ, σ11, rfl, rfl, H⟩
  refine q_then ?_
  refine cd_cond o1 rfl (fun hb12 => ?_) (fun hb12 => ?_)
  ·replace h := bif_t hb12 h
   refine c_seq ?_
   refine rg ?_
   refine st (v := (I (-1))) (rv_assign rfl) ?_
   refine w_end ?_
   refine q_then ?_
   refine c_ret ?_
   refine q_then_r ?_
   obtain rfl := Option.some.inj h
   exact fin_ret (v := (I (-1))) (results_ok Try.results70 (res_tmp (v := (I (-1))) rfl res_nil) rfl) ⟨rfl, rfl⟩ (H.sel' [] rfl rfl)
  ·replace h := bif_f hb12 h
   refine c_skip ?_
   refine q_then ?_
   refine c_seq ?_
   refine rg ?_
   refine st (v := (I 0)) (rv_assign rfl) ?_
   refine st (v := (I 1000000)) (rv_assign rfl) ?_
   refine w_end ?_
   refine q_then ?_
   refine c_seq ?_
   refine c_seq ?_
   refine rg ?_
   refine st (v := (Sl acentres_0 centres_0 ccentres_0)) (rv_move rfl) ?_
   refine st (v := (I (centres_0.length : Int))) (rv_len Try.underlying22 rfl) ?_
   refine st (v := (I 0)) (rv_move rfl) ?_
   refine w_end ?_
   refine q_then ?_
   obtain ⟨o13, hj, h'⟩ := bind_some h
   clear h
   refine c_cut (fun e a w => e = .normal ∧ ∃ (ρ : Nat → Value) (σ : St), a = fr 35 (updL ρ [(5, (I o13))]) ∧ w = σ.w ∧ Hp S0 σ0 σ []) ?_ ?_
   ·clear h'
    rename _ = some o13 => h
    refine c_blk ?_
    refine wp_loopM _ h (fun s14 a w => ∃ (ρ : Nat → Value) (σ : St), a = fr 35 (updL ρ [(1, (Sl aat_1 at_1 cat_1)), (5, (I s14.1)), (6, (I s14.2.1)), (18, (Sl acentres_0 centres_0 ccentres_0)), (19, (I (centres_0.length : Int))), (20, (I s14.2.2))]) ∧ w = σ.w ∧ Hp S0 σ0 σ [Ch.ro 0 (Sl aat_1 at_1 cat_1) at_1, Ch.ro 0 (Sl acentres_0 centres_0 ccentres_0) centres_0]) ⟨_, σ11, fr_join ⟨rfl, rfl, rfl, rfl, rfl, rfl, trivial⟩, rfl, H.sel' [1, 0] rfl rfl⟩ ?_
    clear h H
    rintro s14 a w o ⟨ρ, σ15, rfl, rfl, H⟩ h hres
    refine c_seq ?_
    refine rg ?_
    refine st (v := (B (decide (s14.2.2 < (centres_0.length : Int))))) (rv_lss (a := s14.2.2) (b := (centres_0.length : Int)) rfl rfl) ?_
    refine w_end ?_
    refine q_then ?_
    refine c_seq ?_
    refine cd_cond (decide (s14.2.2 < (centres_0.length : Int))) rfl (fun hb16 => ?_) (fun hb16 => ?_)
    ·replace h := bif_t hb16 h
     refine c_skip ?_
     refine q_then ?_
     refine c_seq ?_
     obtain ⟨o17, hj, h'⟩ := bind_some h
     clear h
     refine c_cut (fun e a w => e = .normal ∧ ∃ (ρ : Nat → Value) (σ : St), a = fr 35 (updL ρ [(1, (Sl aat_1 at_1 cat_1)), (5, (I o17.1)), (6, (I o17.2)), (18, (Sl acentres_0 centres_0 ccentres_0)), (19, (I (centres_0.length : Int))), (20, (I s14.2.2))]) ∧ w = σ.w ∧ Hp S0 σ0 σ [Ch.ro 0 (Sl aat_1 at_1 cat_1) at_1, Ch.ro 0 (Sl acentres_0 centres_0 ccentres_0) centres_0]) ?_ ?_
     ·clear h'
      rename _ = some o17 => h
      refine c_blk ?_
      refine c_seq ?_
      refine rg ?_
      refine st (v := (I s14.2.2)) (rv_move rfl) ?_
      obtain ⟨x18, hx19, h'⟩ := bind_some h
      clear h
      have h := h'; clear h'
      obtain ⟨b21, o22, hi20, -⟩ := (H.ro 1 rfl).ix hx19
      refine st (v := (pt b21 o22)) (rv_ix Try.underlying22 ti24 rfl rfl hi20) ?_
      obtain ⟨v26, hc27, hR25⟩ := ((H.ro 1 rfl).at hx19 hi20).slice
      obtain ⟨a23, c24, rfl⟩ := hR25.isSl
      replace H := H.add (d := Ch.ro 0 (Sl a23 x18 c24) x18) hR25 (fun _ h => h)
      clear hR25
      refine st (v := (Sl a23 x18 c24)) (rv_load1 Try.underlying24 rfl rfl hc27) ?_
      refine st (v := (I s14.2.2)) (rv_assign rfl) ?_
      refine st (v := (Sl a23 x18 c24)) (rv_assign rfl) ?_
      refine w_end ?_
      refine q_then ?_
      refine c_seq ?_
      refine rg ?_
      refine st (v := (Sl a23 x18 c24)) (rv_move rfl) ?_
      refine st (v := (Sl aat_1 at_1 cat_1)) (rv_move rfl) ?_
      obtain ⟨r28, hx29, h'⟩ := bind_some h
      clear h
      have h := h'; clear h'
      have hc30 := c_impl_Distance (aa_1 := a23) (ca_1 := c24) (ab_2 := aat_1) (cb_2 := cat_1) hx29
      refine st_call (cx_call hc30 (ent_f hc30.fn rfl) hn0 (show Hp S0 σ0 _ ([Ch.ro 0 (Sl a23 x18 c24) x18, Ch.ro 0 (Sl aat_1 at_1 cat_1) at_1] ++ [Ch.ro 0 (Sl a23 x18 c24) x18, Ch.ro 0 (Sl aat_1 at_1 cat_1) at_1, Ch.ro 0 (Sl acentres_0 centres_0 ccentres_0) centres_0]) from (H.sel' [0, 1, 0, 1, 2] rfl rfl))) wn ?_
      rintro _ σ31 ⟨_, ⟨rfl, rfl⟩, H, -⟩
      replace H : Hp S0 σ0 σ31 [Ch.ro 0 (Sl a23 x18 c24) x18, Ch.ro 0 (Sl aat_1 at_1 cat_1) at_1, Ch.ro 0 (Sl acentres_0 centres_0 ccentres_0) centres_0] := H
      refine st (v := (I r28)) (rv_assign rfl) ?_
      refine w_end ?_
      refine q_then ?_
      refine c_seq ?_
      refine rg ?_
      refine st (v := (I r28)) (rv_move rfl) ?_
      refine st (v := (I s14.2.1)) (rv_move rfl) ?_
      refine st (v := (B (decide (r28 < s14.2.1)))) (rv_lss (a := r28) (b := s14.2.1) rfl rfl) ?_
      refine w_end ?_
      refine q_then ?_
      refine cd_cond (decide (r28 < s14.2.1)) rfl (fun hb32 => ?_) (fun hb32 => ?_)
      ·replace h := bif_t hb32 h
       refine rg ?_
       refine st (v := (I s14.2.2)) (rv_move rfl) ?_
       refine st (v := (I r28)) (rv_move rfl) ?_
       refine st (v := (I s14.2.2)) (rv_assign rfl) ?_
       refine st (v := (I r28)) (rv_assign rfl) ?_
       refine w_end ?_
       refine q_blk ?_
       obtain rfl := Option.some.inj h
       exact ⟨rfl, _, σ31, fr_join ⟨rfl, rfl, rfl, rfl, rfl, rfl, trivial⟩, rfl, H.sel' [1, 2] rfl rfl⟩
      ·replace h := bif_f hb32 h
       refine c_skip ?_
       refine q_blk ?_
       obtain rfl := Option.some.inj h
       exact ⟨rfl, _, σ31, fr_join ⟨rfl, rfl, rfl, rfl, rfl, rfl, trivial⟩, rfl, H.sel' [1, 2] rfl rfl⟩
     ·clear hj
      have h := h'
      clear h' H
      rintro e a w ⟨rfl, ρ, σ33, rfl, rfl, H⟩
      refine q_then ?_
      refine rg ?_
      refine st (v := (I (w64 (s14.2.2 + 1)))) (rv_add (a := s14.2.2) (b := 1) rfl rfl) ?_
      refine st (v := (I (w64 (s14.2.2 + 1)))) (rv_move rfl) ?_
      refine w_end ?_
      refine q_then ?_
      obtain rfl := Option.some.inj h
      exact ⟨_, rfl, _, σ33, fr_join ⟨rfl, rfl, rfl, rfl, rfl, rfl, trivial⟩, rfl, H.sel' [0, 1] rfl rfl⟩
    ·replace h := bif_f hb16 h
     refine c_exit ?_
     refine q_then_x ?_
     refine q_then_x ?_
     refine q_blk_hit ?_
     obtain rfl := Option.some.inj h
     obtain rfl := hres _ rfl
     exact ⟨rfl, _, σ15, fr_join ⟨rfl, trivial⟩, rfl, H.sel' [] rfl rfl⟩
   ·clear hj
    have h := h'
    clear h' H
    rintro e a w ⟨rfl, ρ, σ34, rfl, rfl, H⟩
    refine q_then ?_
    refine c_seq ?_
    refine rg ?_
    refine st (v := (I o13)) (rv_move rfl) ?_
    refine st (v := (I o13)) (rv_assign rfl) ?_
    refine w_end ?_
    refine q_then ?_
    refine c_ret ?_
    obtain rfl := Option.some.inj h
    exact fin_ret (v := (I o13)) (results_ok Try.results70 (res_tmp (v := (I o13)) rfl res_nil) rfl) ⟨rfl, rfl⟩ (H.sel' [] rfl rfl)

theorem c_impl_AssignItems {centres_0 : List (List Int)} {list_1 : List (Int × (List Int) × Int)} {acentres_0 : Option Addr} {ccentres_0 : Nat} {alist_1 : Option Addr} {clist_1 : Nat} {r : (List Int)} (h : M.impl_AssignItems centres_0 list_1 = some r) :
    Cal2 Try.prog 34 [(Sl acentres_0 centres_0 ccentres_0), (Sl alist_1 list_1 clist_1)] [Ch.ro 0 (Sl acentres_0 centres_0 ccentres_0) centres_0, Ch.ro 0 (Sl alist_1 list_1 clist_1) list_1] (fun n0 v L => ∃ (az1 : Option Addr), ∃ (cz2 : Nat), v = (Sl az1 r cz2) ∧ L = [Ch.own n0 n0 (Sl az1 r cz2) r] ∧ cz2 = r.length) := by
 refine cal2 (n := 31) Try.func34 rfl rfl rfl rfl ?_
 intro S0 σ0 n0 hn0 H
 unfold M.impl_AssignItems at h
 refine c_seq ?_
 refine rg ?_
 refine st (v := (.slice none 0 0)) (rv_assign rfl) ?_
 refine w_end ?_
 refine q_then ?_
 refine c_seq ?_
 refine c_seq ?_
 refine rg ?_
 refine st (v := (Sl acentres_0 centres_0 ccentres_0)) (rv_move rfl) ?_
 refine st (v := (Sl alist_1 list_1 clist_1)) (rv_move rfl) ?_
 obtain ⟨r1, hx2, h'⟩ := bind_some h
 clear h
 have h := h'; clear h'
 have hc3 := c_impl_validClusters (acentres_0 := acentres_0) (ccentres_0 := ccentres_0) (alist_1 := alist_1) (clist_1 := clist_1) hx2
 refine st_call (cx_call hc3 (ent_f hc3.fn rfl) hn0 (show Hp S0 σ0 _ ([Ch.ro 0 (Sl acentres_0 centres_0 ccentres_0) centres_0, Ch.ro 0 (Sl alist_1 list_1 clist_1) list_1] ++ [Ch.ro 0 (Sl acentres_0 centres_0 ccentres_0) centres_0, Ch.ro 0 (Sl alist_1 list_1 clist_1) list_1]) from (H.sel' [0, 1, 0, 1] rfl rfl))) wn ?_
 rintro _ σ4 ⟨_, ⟨rfl, rfl⟩, H, -⟩
 replace H : Hp S0 σ0 σ4 [Ch.ro 0 (Sl acentres_0 centres_0 ccentres_0) centres_0, Ch.ro 0 (Sl alist_1 list_1 clist_1) list_1] := H
 refine st (v := (B (!r1))) (rv_not rfl) ?_
 refine w_end ?_
 refine q_then ?_
 refine cd_cond (!r1) rfl (fun hb5 => ?_) (fun hb5 => ?_)
 ·replace h := bif_t hb5 h
  refine c_seq ?_
  refine rg ?_
  refine st (v := (.slice none 0 0)) (rv_assign rfl) ?_
  refine w_end ?_
  refine q_then ?_
  refine c_ret ?_
  refine q_then_r ?_
  replace H := H.nilOwn Int n0 n0
  obtain rfl := Option.some.inj h
  exact fin_ret (v := (.slice none 0 0)) (results_ok Try.results34 (res_tmp (v := (.slice none 0 0)) rfl res_nil) rfl) ⟨none, 0, rfl, rfl, rfl⟩ (H.sel' [0] rfl rfl)
 ·replace h := bif_f hb5 h
  refine c_skip ?_
  refine q_then ?_
  refine c_seq ?_
  refine rg ?_
  refine st (v := (Sl alist_1 list_1 clist_1)) (rv_move rfl) ?_
  refine st (v := (I (list_1.length : Int))) (rv_len Try.underlying37 rfl) ?_
  obtain ⟨xs6, hx7, h'⟩ := bind_some h
  clear h
  have h := h'; clear h'
  refine st_ex (ex_make (el := n0) (z0 := (0 : Int)) (zs := [(I 0)]) H hn0 Try.underlying24 ti3 rfl rfl rfl (by decide) hx7 rfl rfl) wn ?_
  rintro _ σ11 ⟨b8, c9, rfl, ht10, H, -⟩
  replace ht10 := ht10.trans (gmake_len hx7).symm
  refine st (v := (Sl (some ⟨b8, 0, none⟩) xs6 c9)) (rv_assign rfl) ?_
  refine w_end ?_
  refine q_then ?_
  refine c_seq ?_
  refine c_seq ?_
  refine rg ?_
  refine st (v := (Sl alist_1 list_1 clist_1)) (rv_move rfl) ?_
  refine st (v := (I (list_1.length : Int))) (rv_len Try.underlying37 rfl) ?_
  refine st (v := (I 0)) (rv_move rfl) ?_
  refine w_end ?_
  refine q_then ?_
  obtain ⟨o12, hj, h'⟩ := bind_some h
  clear h
  refine c_cut (fun e a w => e = .normal ∧ ∃ (ρ : Nat → Value) (σ : St), a = fr 31 (updL ρ [(5, (Sl (some ⟨b8, 0, none⟩) o12 c9))]) ∧ w = σ.w ∧ Hp S0 σ0 σ [Ch.own n0 n0 (Sl (some ⟨b8, 0, none⟩) o12 c9) o12] ∧ c9 = o12.length ∧ o12.length = xs6.length) ?_ ?_
  ·clear h'
   rename _ = some o12 => h
   refine c_blk ?_
   refine wp_loopM _ h (fun s13 a w => ∃ (ρ : Nat → Value) (σ : St), a = fr 31 (updL ρ [(0, (Sl acentres_0 centres_0 ccentres_0)), (5, (Sl (some ⟨b8, 0, none⟩) s13.1 c9)), (15, (Sl alist_1 list_1 clist_1)), (16, (I (list_1.length : Int))), (17, (I s13.2))]) ∧ w = σ.w ∧ Hp S0 σ0 σ [Ch.ro 0 (Sl acentres_0 centres_0 ccentres_0) centres_0, Ch.own n0 n0 (Sl (some ⟨b8, 0, none⟩) s13.1 c9) s13.1, Ch.ro 0 (Sl alist_1 list_1 clist_1) list_1] ∧ c9 = s13.1.length ∧ s13.1.length = xs6.length) ⟨_, σ11, fr_join ⟨rfl, rfl, rfl, rfl, rfl, trivial⟩, rfl, H.sel' [1, 0, 2] rfl rfl, ht10, rfl⟩ ?_
   clear h H
   rintro s13 a w o ⟨ρ, σ14, rfl, rfl, H, ht15, hn16⟩ h hres
   refine c_seq ?_
   refine rg ?_
   refine st (v := (B (decide (s13.2 < (list_1.length : Int))))) (rv_lss (a := s13.2) (b := (list_1.length : Int)) rfl rfl) ?_
   refine w_end ?_
   refine q_then ?_
   refine c_seq ?_
   refine cd_cond (decide (s13.2 < (list_1.length : Int))) rfl (fun hb17 => ?_) (fun hb17 => ?_)
   ·replace h := bif_t hb17 h
    refine c_skip ?_
    refine q_then ?_
    refine c_seq ?_
    refine c_blk ?_
    refine c_seq ?_
    refine rg ?_
    refine st (v := (I s13.2)) (rv_move rfl) ?_
    obtain ⟨x18, hx19, h'⟩ := bind_some h
    clear h
    have h := h'; clear h'
    obtain ⟨b21, o22, hi20, -⟩ := (H.ro 2 rfl).ix hx19
    refine st (v := (pt b21 o22)) (rv_ix Try.underlying37 ti63 rfl rfl hi20) ?_
    obtain ⟨_, ⟨_, _, rfl, rfl, ⟨_, _, rfl, ⟨_, rfl, hR27⟩, rfl⟩⟩, hl23, hc24⟩ := ((H.ro 2 rfl).at hx19 hi20).cells
    obtain ⟨a25, c26, rfl⟩ := hR27.isSl
    replace H := H.add (d := Ch.ro 0 (Sl a25 x18.2.1 c26) x18.2.1) hR27 (fun _ h => h)
    clear hR27
    refine st (v := (.agg #[(I x18.1), (Sl a25 x18.2.1 c26), (I x18.2.2)])) (rv_load Try.underlying63 rfl ti63 rfl hl23 hc24) ?_
    refine st_ex (ex_alloc (cs := [(I 0), (.slice none 0 0), (I 0)]) H hn0 ti63 rfl) wn ?_
    rintro _ σ29 ⟨b28, rfl, H, -⟩
    refine st (v := (I s13.2)) (rv_assign rfl) ?_
    refine st_exS (ex_store_box (k := 0) (cs := [(I 0), (.slice none 0 0), (I 0)]) (vs := [(I x18.1), (Sl a25 x18.2.1 c26), (I x18.2.2)]) (cs' := [(I x18.1), (Sl a25 x18.2.1 c26), (I x18.2.2)]) H (i := 0) rfl ti63 rfl rfl rfl rfl rfl (Nat.le_of_ble_eq_true rfl) (by simp [plain]) rfl) wn ?_
    rintro σ30 ⟨H, -⟩
    refine w_end ?_
    refine q_then ?_
    refine rg ?_
    refine st (v := (Sl (some ⟨b8, 0, none⟩) s13.1 c9)) (rv_move rfl) ?_
    refine st (v := (I s13.2)) (rv_move rfl) ?_
    refine st (v := (Sl acentres_0 centres_0 ccentres_0)) (rv_move rfl) ?_
    refine st (v := (pt b28 1)) (rv_fieldAddr (off := 1) (ft := 24) Try.underlying63 rfl ti24 rfl rfl) ?_
    have hc31 := H.cell (u := (Sl a25 x18.2.1 c26)) (o' := 1) 0 1 rfl rfl rfl
    refine st (v := (Sl a25 x18.2.1 c26)) (rv_load1 Try.underlying24 rfl rfl hc31) ?_
    obtain ⟨r32, hx33, h'⟩ := bind_some h
    clear h
    have h := h'; clear h'
    have hc34 := c_impl_CentreOf (acentres_0 := acentres_0) (ccentres_0 := ccentres_0) (aat_1 := a25) (cat_1 := c26) hx33
    refine st_call (cx_call hc34 (ent_f hc34.fn rfl) hn0 (show Hp S0 σ0 _ ([Ch.ro 0 (Sl acentres_0 centres_0 ccentres_0) centres_0, Ch.ro 0 (Sl a25 x18.2.1 c26) x18.2.1] ++ [Ch.bx n0 b28 0 [(I x18.1), (Sl a25 x18.2.1 c26), (I x18.2.2)] [] [], Ch.ro 0 (Sl a25 x18.2.1 c26) x18.2.1, Ch.ro 0 (Sl acentres_0 centres_0 ccentres_0) centres_0, Ch.own n0 n0 (Sl (some ⟨b8, 0, none⟩) s13.1 c9) s13.1, Ch.ro 0 (Sl alist_1 list_1 clist_1) list_1]) from (H.sel' [2, 1, 0, 1, 2, 3, 4] rfl rfl))) wn ?_
    rintro _ σ35 ⟨_, ⟨rfl, rfl⟩, H, -⟩
    replace H : Hp S0 σ0 σ35 [Ch.bx n0 b28 0 [(I x18.1), (Sl a25 x18.2.1 c26), (I x18.2.2)] [] [], Ch.ro 0 (Sl a25 x18.2.1 c26) x18.2.1, Ch.ro 0 (Sl acentres_0 centres_0 ccentres_0) centres_0, Ch.own n0 n0 (Sl (some ⟨b8, 0, none⟩) s13.1 c9) s13.1, Ch.ro 0 (Sl alist_1 list_1 clist_1) list_1] := H
    obtain ⟨x36, hx37, h'⟩ := bind_some h
    clear h
    have h := h'; clear h'
    obtain ⟨b39, o40, hi38, -⟩ := (H.own 3 rfl).ix hx37
    refine st (v := (pt b39 o40)) (rv_ix Try.underlying24 ti3 rfl rfl hi38) ?_
    refine st_exS (ex_store_own (e' := r32) (vs := [(I r32)]) (k := 0) H (i := 3) rfl ti3 hx37 hi38 rfl rfl rfl rfl rfl (Nat.le_of_ble_eq_true rfl) (by simp [plain]) (by rintro _ rfl; exact rfl)) wn ?_
    rintro σ41 ⟨H, -⟩
    have hsl : (Sl (some ⟨b8, 0, none⟩) s13.1 c9) = (Sl (some ⟨b8, 0, none⟩) (s13.1.set s13.2.toNat r32) c9) := sl_len List.length_set.symm
    rw [hsl]; rw [hsl] at H; clear hsl
    refine w_end ?_
    refine q_blk ?_
    refine q_then ?_
    refine rg ?_
    refine st (v := (I (w64 (s13.2 + 1)))) (rv_add (a := s13.2) (b := 1) rfl rfl) ?_
    refine st (v := (I (w64 (s13.2 + 1)))) (rv_move rfl) ?_
    refine w_end ?_
    refine q_then ?_
    obtain rfl := Option.some.inj h
    exact ⟨_, rfl, _, σ41, fr_join ⟨rfl, rfl, rfl, rfl, rfl, trivial⟩, rfl, H.sel' [3, 0, 4] rfl rfl, (ht15.trans List.length_set.symm), (List.length_set.trans hn16)⟩
   ·replace h := bif_f hb17 h
    refine c_exit ?_
    refine q_then_x ?_
    refine q_then_x ?_
    refine q_blk_hit ?_
    obtain rfl := Option.some.inj h
    obtain rfl := hres _ rfl
    exact ⟨rfl, _, σ14, fr_join ⟨rfl, trivial⟩, rfl, H.sel' [1] rfl rfl, ht15, hn16⟩
  ·clear hj
   have h := h'
   clear h' H
   rintro e a w ⟨rfl, ρ, σ42, rfl, rfl, H, ht43, hn44⟩
   refine q_then ?_
   refine c_seq ?_
   refine rg ?_
   refine st (v := (Sl (some ⟨b8, 0, none⟩) o12 c9)) (rv_move rfl) ?_
   refine st (v := (Sl (some ⟨b8, 0, none⟩) o12 c9)) (rv_assign rfl) ?_
   refine w_end ?_
   refine q_then ?_
   refine c_ret ?_
   obtain rfl := Option.some.inj h
   exact fin_ret (v := (Sl (some ⟨b8, 0, none⟩) o12 c9)) (results_ok Try.results34 (res_tmp (v := (Sl (some ⟨b8, 0, none⟩) o12 c9)) rfl res_nil) rfl) ⟨(some ⟨b8, 0, none⟩), c9, rfl, rfl, ht43⟩ (H.sel' [0] rfl rfl)

theorem c_impl_itemsByCentre {centres_0 : List (List Int)} {list_1 : List (Int × (List Int) × Int)} {acentres_0 : Option Addr} {ccentres_0 : Nat} {alist_1 : Option Addr} {clist_1 : Nat} {r : (List (Int × (List (Int × (List Int) × Int))))} (h : M.impl_itemsByCentre centres_0 list_1 = some r) :
    Cal2 Try.prog 72 [(Sl acentres_0 centres_0 ccentres_0), (Sl alist_1 list_1 clist_1)] [Ch.ro 0 (Sl acentres_0 centres_0 ccentres_0) centres_0, Ch.ro 0 (Sl alist_1 list_1 clist_1) list_1] (fun n0 v L => ∃ (bz1 : Nat), ∃ (Kz2 : List Ch), v = (.map (some bz1)) ∧ L = [Ch.big Kz2] ∧ Mp 0 0 bz1 r Kz2) := by
 refine cal2 (n := 31) Try.func72 rfl rfl rfl rfl ?_
 intro S0 σ0 n0 hn0 H
 unfold M.impl_itemsByCentre at h
 refine c_seq ?_
 refine rg ?_
 refine st (v := (.map none)) (rv_assign rfl) ?_
 refine w_end ?_
 refine q_then ?_
 refine c_seq ?_
 refine rg ?_
 refine st_ex (ex_makeMap (lo := 0) (Int × (List Int) × Int) 0 H (Nat.zero_le _)) wn ?_
 rintro _ σ4 ⟨b1, K2, rfl, hK3, H, -⟩
 refine st (v := (.map (some b1))) (rv_assign rfl) ?_
 refine w_end ?_
 refine q_then ?_
 refine c_seq ?_
 refine c_seq ?_
 refine rg ?_
 refine st (v := (Sl acentres_0 centres_0 ccentres_0)) (rv_move rfl) ?_
 refine st (v := (Sl alist_1 list_1 clist_1)) (rv_move rfl) ?_
 obtain ⟨r5, hx6, h'⟩ := bind_some h
 clear h
 have h := h'; clear h'
 have hc7 := c_impl_AssignItems (acentres_0 := acentres_0) (ccentres_0 := ccentres_0) (alist_1 := alist_1) (clist_1 := clist_1) hx6
 refine st_call (cx_call hc7 (ent_f hc7.fn rfl) hn0 (show Hp S0 σ0 _ ([Ch.ro 0 (Sl acentres_0 centres_0 ccentres_0) centres_0, Ch.ro 0 (Sl alist_1 list_1 clist_1) list_1] ++ [Ch.big K2, Ch.ro 0 (Sl acentres_0 centres_0 ccentres_0) centres_0, Ch.ro 0 (Sl alist_1 list_1 clist_1) list_1]) from (H.sel' [1, 2, 0, 1, 2] rfl rfl))) wn ?_
 rintro _ σ11 ⟨_, ⟨a8, c9, rfl, rfl, ht10⟩, H, -⟩
 replace H : Hp S0 σ0 σ11 [Ch.own n0 n0 (Sl a8 r5 c9) r5, Ch.big K2, Ch.ro 0 (Sl acentres_0 centres_0 ccentres_0) centres_0, Ch.ro 0 (Sl alist_1 list_1 clist_1) list_1] := H
 refine st (v := (I (r5.length : Int))) (rv_len Try.underlying24 rfl) ?_
 refine st (v := (I 0)) (rv_move rfl) ?_
 refine w_end ?_
 refine q_then ?_
 obtain ⟨o12, hj, h'⟩ := bind_some h
 clear h
 refine c_cut (fun e a w => e = .normal ∧ ∃ (ρ : Nat → Value) (σ : St) (bj1 : Nat) (Kj2 : List Ch), a = fr 31 (updL ρ [(5, (.map (some bj1)))]) ∧ w = σ.w ∧ Hp S0 σ0 σ [Ch.big Kj2] ∧ Mp 0 0 bj1 o12 Kj2) ?_ ?_
 ·clear h'
  rename _ = some o12 => h
  refine c_blk ?_
  refine wp_loopM _ h (fun s13 a w => ∃ (ρ : Nat → Value) (σ : St) (bj1 : Nat) (Kj2 : List Ch), a = fr 31 (updL ρ [(1, (Sl alist_1 list_1 clist_1)), (5, (.map (some bj1))), (11, (Sl a8 r5 c9)), (12, (I (r5.length : Int))), (13, (I s13.2))]) ∧ w = σ.w ∧ Hp S0 σ0 σ [Ch.ro 0 (Sl alist_1 list_1 clist_1) list_1, Ch.big Kj2, Ch.own n0 n0 (Sl a8 r5 c9) r5] ∧ Mp 0 0 bj1 s13.1 Kj2) ⟨_, σ11, b1, K2, fr_join ⟨rfl, rfl, rfl, rfl, rfl, trivial⟩, rfl, H.sel' [3, 1, 0] rfl rfl, hK3⟩ ?_
  clear h H
  rintro s13 a w o ⟨ρ, σ14, b15, K16, rfl, rfl, H, hK17⟩ h hres
  refine c_seq ?_
  refine rg ?_
  refine st (v := (B (decide (s13.2 < (r5.length : Int))))) (rv_lss (a := s13.2) (b := (r5.length : Int)) rfl rfl) ?_
  refine w_end ?_
  refine q_then ?_
  refine c_seq ?_
  refine cd_cond (decide (s13.2 < (r5.length : Int))) rfl (fun hb18 => ?_) (fun hb18 => ?_)
  ·replace h := bif_t hb18 h
   refine c_skip ?_
   refine q_then ?_
   refine c_seq ?_
   refine c_blk ?_
   refine c_seq ?_
   refine rg ?_
   refine st (v := (I s13.2)) (rv_move rfl) ?_
   obtain ⟨x19, hx20, h'⟩ := bind_some h
   clear h
   have h := h'; clear h'
   obtain ⟨b22, o23, hi21, -⟩ := (H.own 2 rfl).ix hx20
   refine st (v := (pt b22 o23)) (rv_ix Try.underlying24 ti3 rfl rfl hi21) ?_
   have hc24 := ((H.own 2 rfl).at hx20 hi21).int
   refine st (v := (I x19)) (rv_load1 Try.underlying3 rfl rfl hc24) ?_
   refine st (v := (I s13.2)) (rv_assign rfl) ?_
   refine st (v := (I x19)) (rv_assign rfl) ?_
   refine w_end ?_
   refine q_then ?_
   obtain ⟨v28, K29, H, hK30⟩ := H.mpOut x19 1 rfl hK17
   obtain ⟨a25, c26, rfl⟩ := (H.own 0 rfl).isSl
   have hL27 := hK30.look H 1 rfl
   obtain ⟨x31, hx32, h'⟩ := bind_some h
   clear h
   have h := h'; clear h'
   obtain ⟨b34, o35, hi33, -⟩ := (H.ro 2 rfl).ix hx32
   obtain ⟨_, ⟨_, _, rfl, rfl, ⟨_, _, rfl, ⟨_, rfl, hR40⟩, rfl⟩⟩, hl36, hc37⟩ := ((H.ro 2 rfl).at hx32 hi33).cells
   obtain ⟨a38, c39, rfl⟩ := hR40.isSl
   replace H := H.add (d := Ch.ro 0 (Sl a38 x31.2.1 c39) x31.2.1) hR40 (fun _ h => h)
   clear hR40
   obtain ⟨xs42, hx43, h'⟩ := bind_some h
   clear h
   have h := h'; clear h'
   have Hs := H
   refine rg2 (σ := σ14) (Nm := (Nat) × (Option Addr) × (Nat)) 11 [9, 10] [[false, false], [true, false], [true, true]] [[(0, 0), (1, 1), (2, 2)], [(0, 0), (1, 1), (2, 2)], [(0, 0), (1, 1)], [(0, 0), (1, 1)], [(0, 0), (1, 1)], [(0, 0)], [(0, 0)], [(0, 0)], [(0, 0)], [(0, 1)], [(1, 2)]] 2 [fun ((b41, a44, c45) : (Nat) × (Option Addr) × (Nat)) => fun σm => Hp S0 σ0 σm [Ch.ro 0 (Sl a38 x31.2.1 c39) x31.2.1, Ch.own 0 0 (Sl a25 (mget s13.1 x19) c26) (mget s13.1 x19), Ch.big K29, Ch.ro 0 (Sl alist_1 list_1 clist_1) list_1, Ch.own n0 n0 (Sl a8 r5 c9) r5] ∧ Md (cov []) σ14 σm, fun ((b41, a44, c45) : (Nat) × (Option Addr) × (Nat)) => fun σm => Hp S0 σ0 σm [Ch.own n0 0 (Sl (some ⟨b41, 0, none⟩) ([(x31.1, x31.2.1, x31.2.2)] : List (Int × (List Int) × Int)) 1) ([(x31.1, x31.2.1, x31.2.2)] : List (Int × (List Int) × Int)), Ch.ro 0 (Sl a38 x31.2.1 c39) x31.2.1, Ch.own 0 0 (Sl a25 (mget s13.1 x19) c26) (mget s13.1 x19), Ch.big K29, Ch.ro 0 (Sl alist_1 list_1 clist_1) list_1, Ch.own n0 n0 (Sl a8 r5 c9) r5] ∧ Md (cov []) σ14 σm, fun ((b41, a44, c45) : (Nat) × (Option Addr) × (Nat)) => fun σm => Hp S0 σ0 σm [Ch.own 0 0 (Sl a44 xs42 c45) xs42, Ch.own n0 0 (Sl (some ⟨b41, 0, none⟩) ([(x31.1, x31.2.1, x31.2.2)] : List (Int × (List Int) × Int)) 1) ([(x31.1, x31.2.1, x31.2.2)] : List (Int × (List Int) × Int)), Ch.ro 0 (Sl a38 x31.2.1 c39) x31.2.1, Ch.big K29, Ch.ro 0 (Sl alist_1 list_1 clist_1) list_1, Ch.own n0 n0 (Sl a8 r5 c9) r5] ∧ Md (fun i => (cov []) i ∨ (fun b => blk (Sl a25 (mget s13.1 x19) c26) = some b) i) σ14 σm] [fun ((b41, a44, c45) : (Nat) × (Option Addr) × (Nat)) => (.map (some b15)), fun ((b41, a44, c45) : (Nat) × (Option Addr) × (Nat)) => (I x19), fun ((b41, a44, c45) : (Nat) × (Option Addr) × (Nat)) => (.map (some b15)), fun ((b41, a44, c45) : (Nat) × (Option Addr) × (Nat)) => (I x19), fun ((b41, a44, c45) : (Nat) × (Option Addr) × (Nat)) => (Sl a25 (mget s13.1 x19) c26), fun ((b41, a44, c45) : (Nat) × (Option Addr) × (Nat)) => (Sl alist_1 list_1 clist_1), fun ((b41, a44, c45) : (Nat) × (Option Addr) × (Nat)) => (I s13.2), fun ((b41, a44, c45) : (Nat) × (Option Addr) × (Nat)) => (pt b34 o35), fun ((b41, a44, c45) : (Nat) × (Option Addr) × (Nat)) => (.agg #[(I x31.1), (Sl a38 x31.2.1 c39), (I x31.2.2)]), fun ((b41, a44, c45) : (Nat) × (Option Addr) × (Nat)) => (Sl (some ⟨b41, 0, none⟩) ([(x31.1, x31.2.1, x31.2.2)] : List (Int × (List Int) × Int)) 1), fun ((b41, a44, c45) : (Nat) × (Option Addr) × (Nat)) => (Sl a44 xs42 c45)] (0, none, 0) (by kernel_rfl) (by kernel_rfl) ?_ ?_ ?_
   ·intro σm m0
    exact ⟨H.grow (m0.mono fun _ h => h.elim), m0⟩
   ·refine ac rfl (by
      intro k; rintro ⟨b41, a44, c45⟩ ρ σm hJ hoff hdep
      have e5 := look_off (N := 31) (hoff 5 rfl) rfl
      exact dp_v (v := (.map (some b15))) wn (rv_move e5) rfl hJ) ?_
    refine ac rfl (by
      intro k; rintro ⟨b41, a44, c45⟩ ρ σm hJ hoff hdep
      have e7 := look_off (N := 31) (hoff 7 rfl) rfl
      exact dp_v (v := (I x19)) wn (rv_move e7) rfl hJ) ?_
    refine ac rfl (by
      intro k; rintro ⟨b41, a44, c45⟩ ρ σm hJ hoff hdep
      have e5 := look_off (N := 31) (hoff 5 rfl) rfl
      exact dp_v (v := (.map (some b15))) wn (rv_move e5) rfl hJ) ?_
    refine ac rfl (by
      intro k; rintro ⟨b41, a44, c45⟩ ρ σm hJ hoff hdep
      have e7 := look_off (N := 31) (hoff 7 rfl) rfl
      exact dp_v (v := (I x19)) wn (rv_move e7) rfl hJ) ?_
    refine all_cons (by
      refine ⟨?_, ?_⟩
      ·rintro ⟨b41, a44, c45⟩ ρ σm hJ hoff hdep
       have e20 := hdep 2 rfl rfl 20 rfl
       have e21 := hdep 3 rfl rfl 21 rfl
       obtain ⟨H, m⟩ := id hJ
       have hL27 := hK30.look H 2 rfl
       exact dp_v (v := (Sl a25 (mget s13.1 x19) c26)) wn (rv_lookup Try.underlying74 Try.underlying3 ti37 e20 e21 hL27) rfl hJ
      refine ⟨?_, ?_⟩
      ·rintro ⟨b41, a44, c45⟩ ρ σm hJ hoff hdep
       have e20 := hdep 2 rfl rfl 20 rfl
       have e21 := hdep 3 rfl rfl 21 rfl
       obtain ⟨H, m⟩ := id hJ
       have hL27 := hK30.look H 3 rfl
       exact dp_v (v := (Sl a25 (mget s13.1 x19) c26)) wn (rv_lookup Try.underlying74 Try.underlying3 ti37 e20 e21 hL27) rfl hJ
      trivial) ?_
    refine ac rfl (by
      intro k; rintro ⟨b41, a44, c45⟩ ρ σm hJ hoff hdep
      have e1 := look_off (N := 31) (hoff 1 rfl) rfl
      exact dp_v (v := (Sl alist_1 list_1 clist_1)) wn (rv_move e1) rfl hJ) ?_
    refine ac rfl (by
      intro k; rintro ⟨b41, a44, c45⟩ ρ σm hJ hoff hdep
      have e6 := look_off (N := 31) (hoff 6 rfl) rfl
      exact dp_v (v := (I s13.2)) wn (rv_move e6) rfl hJ) ?_
    refine ac rfl (by
      intro k; rintro ⟨b41, a44, c45⟩ ρ σm hJ hoff hdep
      have e23 := hdep 5 rfl rfl 23 rfl
      have e24 := hdep 6 rfl rfl 24 rfl
      exact dp_v (v := (pt b34 o35)) wn (rv_ix Try.underlying37 ti63 e23 e24 hi33) rfl hJ) ?_
    refine all_cons (by
      refine ⟨?_, ?_⟩
      ·rintro ⟨b41, a44, c45⟩ ρ σm hJ hoff hdep
       have e25 := hdep 7 rfl rfl 25 rfl
       obtain ⟨H, m⟩ := id hJ
       replace hc37 := fun j hj => (Hs.ro 3 rfl).hmd hx32 hi33 (k := j) (Nat.lt_of_lt_of_eq hj hl36) (hc37 j hj) m
       exact dp_v (v := (.agg #[(I x31.1), (Sl a38 x31.2.1 c39), (I x31.2.2)])) wn (rv_load Try.underlying63 rfl ti63 e25 hl36 hc37) rfl hJ
      trivial) ?_
    refine all_cons (by
      refine ⟨?_, ?_⟩
      ·rintro ⟨b41, a44, c45⟩ ρ σm hJ hoff hdep
       have e26 : look 31 ρ 26 = (.agg #[(I x31.1), (Sl a38 x31.2.1 c39), (I x31.2.2)]) := hdep 8 rfl rfl 26 rfl
       obtain ⟨H, m⟩ := id hJ
       refine dp_ex wn (ex_buildSlice (el := 0) (xs := ([(x31.1, x31.2.1, x31.2.2)] : List (Int × (List Int) × Int))) (ps := [(0, (.agg #[(I x31.1), (Sl a38 x31.2.1 c39), (I x31.2.2)]))]) (cs := [(I x31.1), (Sl a38 x31.2.1 c39), (I x31.2.2)]) H hn0 Try.underlying37 ti63 rfl (by show [(0, look 31 ρ 26)] = _; rw [e26]) (by kernel_rfl) (.cons (c := [(I x31.1), (Sl a38 x31.2.1 c39), (I x31.2.2)]) ⟨[(I x31.1)], [(Sl a38 x31.2.1 c39), (I x31.2.2)], rfl, rfl, ⟨[(Sl a38 x31.2.1 c39)], [(I x31.2.2)], rfl, ⟨_, rfl, (H.ro 0 rfl)⟩, rfl⟩⟩ (.nil)) rfl) ?_
       rintro _ σq ⟨b41x, rfl, H2, m2⟩
       exact ⟨_, (b41x, a44, c45), rfl, rfl, ⟨H2.sel' [0, 1, 2, 3, 4, 5] rfl rfl, m.comp0 m2⟩, stab [0, 1, 2, 3, 4, 5, 6, 7, 8] (by kernel_rfl) ⟨rfl, rfl, rfl, rfl, rfl, rfl, rfl, rfl, rfl, trivial⟩⟩
      trivial) ?_
    refine all_cons (by
      refine ⟨?_, ?_⟩
      ·rintro ⟨b41, a44, c45⟩ ρ σm hJ hoff hdep
       have e22 := hdep 4 rfl rfl 22 rfl
       have e27 := hdep 9 rfl rfl 27 rfl
       obtain ⟨H, m⟩ := id hJ
       refine dp_ex wn (ex_append H (i := 2) rfl Try.underlying37 Try.underlying37 ti63 rfl rfl (by decide) (H.own 0 rfl).rd hx43 (Nat.zero_le _) e22 e27) ?_
       rintro _ σq ⟨a44x, c45x, rfl, H2, m2⟩
       exact ⟨_, (b41, a44x, c45x), rfl, rfl, ⟨H2.sel' [0, 1, 2, 3, 4, 5] rfl rfl, m.comp m2⟩, stab [0, 1, 2, 3, 4, 5, 6, 7, 8, 9] (by kernel_rfl) ⟨rfl, rfl, rfl, rfl, rfl, rfl, rfl, rfl, rfl, rfl, trivial⟩⟩
      trivial) ?_
    exact all_nil
   ·rintro ⟨b41, a44, c45⟩ ρ σ46 hJ hoff hrel
    have e1 := look_off (N := 31) (hoff 1 rfl) rfl
    have e5 := look_off (N := 31) (hoff 5 rfl) rfl
    have e11 := look_off (N := 31) (hoff 11 rfl) rfl
    have e12 := look_off (N := 31) (hoff 12 rfl) rfl
    have e13 := look_off (N := 31) (hoff 13 rfl) rfl
    have e18 := hrel 0 rfl 18 rfl
    have e19 := hrel 1 rfl 19 rfl
    have e28 := hrel 10 rfl 28 rfl
    obtain ⟨H, -⟩ := (show Hp S0 σ0 σ46 [Ch.own 0 0 (Sl a44 xs42 c45) xs42, Ch.own n0 0 (Sl (some ⟨b41, 0, none⟩) ([(x31.1, x31.2.1, x31.2.2)] : List (Int × (List Int) × Int)) 1) ([(x31.1, x31.2.1, x31.2.2)] : List (Int × (List Int) × Int)), Ch.ro 0 (Sl a38 x31.2.1 c39) x31.2.1, Ch.big K29, Ch.ro 0 (Sl alist_1 list_1 clist_1) list_1, Ch.own n0 n0 (Sl a8 r5 c9) r5] ∧ Md (fun i => (cov []) i ∨ (fun b => blk (Sl a25 (mget s13.1 x19) c26) = some b) i) σ14 σ46 from hJ)
    clear hJ Hs
    rw [fr_lookL (L := [(1, (Sl alist_1 list_1 clist_1)), (5, (.map (some b15))), (11, (Sl a8 r5 c9)), (12, (I (r5.length : Int))), (13, (I s13.2)), (18, (.map (some b15))), (19, (I x19)), (28, (Sl a44 xs42 c45))]) ⟨e1, e5, e11, e12, e13, e18, e19, e28, trivial⟩]
    clear hoff hrel e1 e5 e11 e12 e13 e18 e19 e28
    replace H := H.sel' [3, 0, 1, 2, 4, 5] rfl rfl
    obtain ⟨K47, hK48, he49⟩ := hK30.put (Sl a44 xs42 c45) xs42
    refine st_exS (he49 (ty := _) H Try.underlying74 Try.underlying3 rfl rfl rfl) wn ?_
    rintro σ50 ⟨H, -⟩
    refine w_end ?_
    refine q_blk ?_
    refine q_then ?_
    refine rg ?_
    refine st (v := (I (w64 (s13.2 + 1)))) (rv_add (a := s13.2) (b := 1) rfl rfl) ?_
    refine st (v := (I (w64 (s13.2 + 1)))) (rv_move rfl) ?_
    refine w_end ?_
    refine q_then ?_
    obtain rfl := Option.some.inj h
    exact ⟨_, rfl, _, σ50, b15, K47, fr_join ⟨rfl, rfl, rfl, rfl, rfl, trivial⟩, rfl, H.sel' [3, 0, 4] rfl rfl, hK48⟩
  ·replace h := bif_f hb18 h
   refine c_exit ?_
   refine q_then_x ?_
   refine q_then_x ?_
   refine q_blk_hit ?_
   obtain rfl := Option.some.inj h
   obtain rfl := hres _ rfl
   exact ⟨rfl, _, σ14, b15, K16, fr_join ⟨rfl, trivial⟩, rfl, H.sel' [1] rfl rfl, hK17⟩
 ·clear hj
  have h := h'
  clear h' H
  rintro e a w ⟨rfl, ρ, σ51, b52, K53, rfl, rfl, H, hK54⟩
  refine q_then ?_
  refine c_seq ?_
  refine rg ?_
  refine st (v := (.map (some b52))) (rv_move rfl) ?_
  refine st (v := (.map (some b52))) (rv_assign rfl) ?_
  refine w_end ?_
  refine q_then ?_
  refine c_ret ?_
  obtain rfl := Option.some.inj h
  exact fin_ret (v := (.map (some b52))) (results_ok Try.results72 (res_tmp (v := (.map (some b52))) rfl res_nil) rfl) ⟨b52, K53, rfl, rfl, hK54⟩ (H.sel' [0] rfl rfl)

theorem c_slices_Clone_int_int {s_0 : List Int} {as_0 : Option Addr} {cs_0 : Nat} {r : (List Int)} (h : M.slices_Clone_int_int s_0 = some r) :
    Cal2 Try.prog 73 [(Sl as_0 s_0 cs_0)] [Ch.ro 0 (Sl as_0 s_0 cs_0) s_0] (fun n0 v L => ∃ (az1 : Option Addr), ∃ (cz2 : Nat), v = (Sl az1 r cz2) ∧ L = [Ch.own n0 n0 (Sl az1 r cz2) r]) := by
 refine cal2 (n := 8) Try.func73 rfl rfl rfl rfl ?_
 intro S0 σ0 n0 hn0 H
 unfold M.slices_Clone_int_int at h
 refine c_seq ?_
 refine rg ?_
 refine st (v := (.slice none 0 0)) (rv_assign rfl) ?_
 refine w_end ?_
 refine q_then ?_
 refine c_seq ?_
 refine c_seq ?_
 refine rg ?_
 refine st (v := (Sl as_0 s_0 cs_0)) (rv_move rfl) ?_
 refine st (v := (B as_0.isNone)) (rv_nilS Try.underlying24 rfl rfl) ?_
 refine w_end ?_
 refine q_then ?_
 refine cd_cond as_0.isNone rfl (fun hb1 => ?_) (fun hb1 => ?_)
 ·have hq := RS.nilOf hb1 (H.ro 0 rfl)
  subst hq
  replace h : some [] = some r := by simpa [gapp] using h
  refine c_seq ?_
  refine rg ?_
  refine st (v := (.slice none 0 0)) (rv_assign rfl) ?_
  refine w_end ?_
  refine q_then ?_
  refine c_ret ?_
  refine q_then_r ?_
  replace H := H.nilOwn Int n0 n0
  obtain rfl := Option.some.inj h
  exact fin_ret (v := (.slice none 0 0)) (results_ok Try.results73 (res_tmp (v := (.slice none 0 0)) rfl res_nil) rfl) ⟨none, 0, rfl, rfl⟩ (H.sel' [0] rfl rfl)
 ·refine c_skip ?_
  refine q_then ?_
  refine c_seq ?_
  refine rg ?_
  refine st_ex (ex_buildSlice (el := n0) (xs := ([] : List Int)) (ps := []) (cs := []) H hn0 Try.underlying24 ti3 rfl rfl (by kernel_rfl) (.nil) rfl) wn ?_
  rintro _ σ3 ⟨b2, rfl, H, -⟩
  refine st (v := (Sl as_0 s_0 cs_0)) (rv_move rfl) ?_
  obtain ⟨xs4, hx5, h'⟩ := bind_some h
  clear h
  have h := h'; clear h'
  refine st_ex (ex_append H (i := 0) rfl Try.underlying24 Try.underlying24 ti3 rfl rfl (by decide) ((H.ro 1 rfl).rd.sc) hx5 hn0 rfl rfl) wn ?_
  rintro _ σ8 ⟨a6, c7, rfl, H, -⟩
  refine st (v := (Sl a6 xs4 c7)) (rv_assign rfl) ?_
  refine w_end ?_
  refine q_then ?_
  refine c_ret ?_
  obtain rfl := Option.some.inj h
  exact fin_ret (v := (Sl a6 xs4 c7)) (results_ok Try.results73 (res_tmp (v := (Sl a6 xs4 c7)) rfl res_nil) rfl) ⟨a6, c7, rfl, rfl⟩ (H.sel' [0] rfl rfl)

theorem c_impl_vectorsOf {list_0 : List (Int × (List Int) × Int)} {alist_0 : Option Addr} {clist_0 : Nat} {r : (List (List Int))} (h : M.impl_vectorsOf list_0 = some r) :
    Cal2 Try.prog 74 [(Sl alist_0 list_0 clist_0)] [Ch.ro 0 (Sl alist_0 list_0 clist_0) list_0] (fun n0 v L => ∃ (az1 : Option Addr), ∃ (cz2 : Nat), v = (Sl az1 r cz2) ∧ L = [Ch.own n0 0 (Sl az1 r cz2) r] ∧ cz2 = r.length) := by
 refine cal2 (n := 23) Try.func74 rfl rfl rfl rfl ?_
 intro S0 σ0 n0 hn0 H
 unfold M.impl_vectorsOf at h
 refine c_seq ?_
 refine rg ?_
 refine st (v := (.slice none 0 0)) (rv_assign rfl) ?_
 refine w_end ?_
 refine q_then ?_
 refine c_seq ?_
 refine rg ?_
 refine st (v := (Sl alist_0 list_0 clist_0)) (rv_move rfl) ?_
 refine st (v := (I (list_0.length : Int))) (rv_len Try.underlying37 rfl) ?_
 obtain ⟨xs1, hx2, h'⟩ := bind_some h
 clear h
 have h := h'; clear h'
 refine st_ex (ex_make (el := n0) (z0 := ([] : List Int)) (zs := [(.slice none 0 0)]) H hn0 Try.underlying22 ti24 rfl rfl (⟨_, rfl, RS.nil⟩) (by decide) hx2 rfl rfl) wn ?_
 rintro _ σ6 ⟨b3, c4, rfl, ht5, H, -⟩
 replace ht5 := ht5.trans (gmake_len hx2).symm
 refine st (v := (Sl (some ⟨b3, 0, none⟩) xs1 c4)) (rv_assign rfl) ?_
 refine w_end ?_
 refine q_then ?_
 refine c_seq ?_
 refine c_seq ?_
 refine rg ?_
 refine st (v := (Sl alist_0 list_0 clist_0)) (rv_move rfl) ?_
 refine st (v := (I (list_0.length : Int))) (rv_len Try.underlying37 rfl) ?_
 refine st (v := (I 0)) (rv_move rfl) ?_
 refine w_end ?_
 refine q_then ?_
 obtain ⟨o7, hj, h'⟩ := bind_some h
 clear h
 refine c_cut (fun e a w => e = .normal ∧ ∃ (ρ : Nat → Value) (σ : St), a = fr 23 (updL ρ [(3, (Sl (some ⟨b3, 0, none⟩) o7 c4))]) ∧ w = σ.w ∧ Hp S0 σ0 σ [Ch.own n0 0 (Sl (some ⟨b3, 0, none⟩) o7 c4) o7] ∧ c4 = o7.length ∧ o7.length = xs1.length) ?_ ?_
 ·clear h'
  rename _ = some o7 => h
  refine c_blk ?_
  replace H := H.ownLow 0 n0 0 rfl (Nat.le_refl _) (Nat.zero_le _)
  refine wp_loopM _ h (fun s8 a w => ∃ (ρ : Nat → Value) (σ : St), a = fr 23 (updL ρ [(3, (Sl (some ⟨b3, 0, none⟩) s8.1 c4)), (9, (Sl alist_0 list_0 clist_0)), (10, (I (list_0.length : Int))), (11, (I s8.2))]) ∧ w = σ.w ∧ Hp S0 σ0 σ [Ch.own n0 0 (Sl (some ⟨b3, 0, none⟩) s8.1 c4) s8.1, Ch.ro 0 (Sl alist_0 list_0 clist_0) list_0] ∧ c4 = s8.1.length ∧ s8.1.length = xs1.length) ⟨_, σ6, fr_join ⟨rfl, rfl, rfl, rfl, trivial⟩, rfl, H.sel' [0, 1] rfl rfl, ht5, rfl⟩ ?_
  clear h H
  rintro s8 a w o ⟨ρ, σ9, rfl, rfl, H, ht10, hn11⟩ h hres
  refine c_seq ?_
  refine rg ?_
  refine st (v := (B (decide (s8.2 < (list_0.length : Int))))) (rv_lss (a := s8.2) (b := (list_0.length : Int)) rfl rfl) ?_
  refine w_end ?_
  refine q_then ?_
  refine c_seq ?_
  refine cd_cond (decide (s8.2 < (list_0.length : Int))) rfl (fun hb12 => ?_) (fun hb12 => ?_)
  ·replace h := bif_t hb12 h
   refine c_skip ?_
   refine q_then ?_
   refine c_seq ?_
   refine c_blk ?_
   refine c_seq ?_
   refine rg ?_
   refine st (v := (I s8.2)) (rv_move rfl) ?_
   obtain ⟨x13, hx14, h'⟩ := bind_some h
   clear h
   have h := h'; clear h'
   obtain ⟨b16, o17, hi15, -⟩ := (H.ro 1 rfl).ix hx14
   refine st (v := (pt b16 o17)) (rv_ix Try.underlying37 ti63 rfl rfl hi15) ?_
   obtain ⟨_, ⟨_, _, rfl, rfl, ⟨_, _, rfl, ⟨_, rfl, hR22⟩, rfl⟩⟩, hl18, hc19⟩ := ((H.ro 1 rfl).at hx14 hi15).cells
   obtain ⟨a20, c21, rfl⟩ := hR22.isSl
   replace H := H.add (d := Ch.ro 0 (Sl a20 x13.2.1 c21) x13.2.1) hR22 (fun _ h => h)
   clear hR22
   refine st (v := (.agg #[(I x13.1), (Sl a20 x13.2.1 c21), (I x13.2.2)])) (rv_load Try.underlying63 rfl ti63 rfl hl18 hc19) ?_
   refine st_ex (ex_alloc (cs := [(I 0), (.slice none 0 0), (I 0)]) H hn0 ti63 rfl) wn ?_
   rintro _ σ24 ⟨b23, rfl, H, -⟩
   refine st (v := (I s8.2)) (rv_assign rfl) ?_
   refine st_exS (ex_store_box (k := 0) (cs := [(I 0), (.slice none 0 0), (I 0)]) (vs := [(I x13.1), (Sl a20 x13.2.1 c21), (I x13.2.2)]) (cs' := [(I x13.1), (Sl a20 x13.2.1 c21), (I x13.2.2)]) H (i := 0) rfl ti63 rfl rfl rfl rfl rfl (Nat.le_of_ble_eq_true rfl) (by simp [plain]) rfl) wn ?_
   rintro σ25 ⟨H, -⟩
   refine w_end ?_
   refine q_then ?_
   refine rg ?_
   refine st (v := (Sl (some ⟨b3, 0, none⟩) s8.1 c4)) (rv_move rfl) ?_
   refine st (v := (I s8.2)) (rv_move rfl) ?_
   refine st (v := (pt b23 1)) (rv_fieldAddr (off := 1) (ft := 24) Try.underlying63 rfl ti24 rfl rfl) ?_
   have hc26 := H.cell (u := (Sl a20 x13.2.1 c21)) (o' := 1) 0 1 rfl rfl rfl
   refine st (v := (Sl a20 x13.2.1 c21)) (rv_load1 Try.underlying24 rfl rfl hc26) ?_
   obtain ⟨x27, hx28, h'⟩ := bind_some h
   clear h
   have h := h'; clear h'
   obtain ⟨b30, o31, hi29, -⟩ := (H.own 2 rfl).ix hx28
   refine st (v := (pt b30 o31)) (rv_ix Try.underlying22 ti24 rfl rfl hi29) ?_
   refine st_exS (ex_store_own (e' := x13.2.1) (vs := [(Sl a20 x13.2.1 c21)]) (k := 0) H (i := 2) rfl ti24 hx28 hi29 rfl rfl rfl rfl rfl (Nat.le_of_ble_eq_true rfl) (by simp [plain]) (by rintro _ ⟨_, rfl, hR34⟩; exact ⟨_, rfl, (H.ro 1 rfl)⟩)) wn ?_
   rintro σ35 ⟨H, -⟩
   have hsl : (Sl (some ⟨b3, 0, none⟩) s8.1 c4) = (Sl (some ⟨b3, 0, none⟩) (s8.1.set s8.2.toNat x13.2.1) c4) := sl_len List.length_set.symm
   rw [hsl]; rw [hsl] at H; clear hsl
   refine w_end ?_
   refine q_blk ?_
   refine q_then ?_
   refine rg ?_
   refine st (v := (I (w64 (s8.2 + 1)))) (rv_add (a := s8.2) (b := 1) rfl rfl) ?_
   refine st (v := (I (w64 (s8.2 + 1)))) (rv_move rfl) ?_
   refine w_end ?_
   refine q_then ?_
   obtain rfl := Option.some.inj h
   exact ⟨_, rfl, _, σ35, fr_join ⟨rfl, rfl, rfl, rfl, trivial⟩, rfl, H.sel' [0, 3] rfl rfl, (ht10.trans List.length_set.symm), (List.length_set.trans hn11)⟩
  ·replace h := bif_f hb12 h
   refine c_exit ?_
   refine q_then_x ?_
   refine q_then_x ?_
   refine q_blk_hit ?_
   obtain rfl := Option.some.inj h
   obtain rfl := hres _ rfl
   exact ⟨rfl, _, σ9, fr_join ⟨rfl, trivial⟩, rfl, H.sel' [0] rfl rfl, ht10, hn11⟩
 ·clear hj
  have h := h'
  clear h' H
  rintro e a w ⟨rfl, ρ, σ36, rfl, rfl, H, ht37, hn38⟩
  refine q_then ?_
  refine c_seq ?_
  refine rg ?_
  refine st (v := (Sl (some ⟨b3, 0, none⟩) o7 c4)) (rv_move rfl) ?_
  refine st (v := (Sl (some ⟨b3, 0, none⟩) o7 c4)) (rv_assign rfl) ?_
  refine w_end ?_
  refine q_then ?_
  refine c_ret ?_
  obtain rfl := Option.some.inj h
  exact fin_ret (v := (Sl (some ⟨b3, 0, none⟩) o7 c4)) (results_ok Try.results74 (res_tmp (v := (Sl (some ⟨b3, 0, none⟩) o7 c4)) rfl res_nil) rfl) ⟨(some ⟨b3, 0, none⟩), c4, rfl, rfl, ht37⟩ (H.sel' [0] rfl rfl)

theorem c_impl_MoveCentres {centres_0 : List (List Int)} {list_1 : List (Int × (List Int) × Int)} {acentres_0 : Option Addr} {ccentres_0 : Nat} {alist_1 : Option Addr} {clist_1 : Nat} {r : (List (List Int))} (h : M.impl_MoveCentres centres_0 list_1 = some r) :
    Cal2 Try.prog 36 [(Sl acentres_0 centres_0 ccentres_0), (Sl alist_1 list_1 clist_1)] [Ch.ro 0 (Sl acentres_0 centres_0 ccentres_0) centres_0, Ch.ro 0 (Sl alist_1 list_1 clist_1) list_1] (fun n0 v L => ∃ (az1 : Option Addr), ∃ (cz2 : Nat), ∃ (Kz3 : List Ch), v = (Sl az1 r cz2) ∧ L = [Ch.big Kz3] ∧ Dp 0 (Sl az1 r cz2) r Kz3 ∧ cz2 = r.length) := by
 refine cal2 (n := 46) Try.func36 rfl rfl rfl rfl ?_
 intro S0 σ0 n0 hn0 H
 unfold M.impl_MoveCentres at h
 refine c_seq ?_
 refine rg ?_
 refine st (v := (.slice none 0 0)) (rv_assign rfl) ?_
 refine w_end ?_
 refine q_then ?_
 refine c_seq ?_
 refine c_seq ?_
 refine rg ?_
 refine st (v := (Sl acentres_0 centres_0 ccentres_0)) (rv_move rfl) ?_
 refine st (v := (Sl alist_1 list_1 clist_1)) (rv_move rfl) ?_
 obtain ⟨r1, hx2, h'⟩ := bind_some h
 clear h
 have h := h'; clear h'
 have hc3 := c_impl_validClusters (acentres_0 := acentres_0) (ccentres_0 := ccentres_0) (alist_1 := alist_1) (clist_1 := clist_1) hx2
 refine st_call (cx_call hc3 (ent_f hc3.fn rfl) hn0 (show Hp S0 σ0 _ ([Ch.ro 0 (Sl acentres_0 centres_0 ccentres_0) centres_0, Ch.ro 0 (Sl alist_1 list_1 clist_1) list_1] ++ [Ch.ro 0 (Sl acentres_0 centres_0 ccentres_0) centres_0, Ch.ro 0 (Sl alist_1 list_1 clist_1) list_1]) from (H.sel' [0, 1, 0, 1] rfl rfl))) wn ?_
 rintro _ σ4 ⟨_, ⟨rfl, rfl⟩, H, -⟩
 replace H : Hp S0 σ0 σ4 [Ch.ro 0 (Sl acentres_0 centres_0 ccentres_0) centres_0, Ch.ro 0 (Sl alist_1 list_1 clist_1) list_1] := H
 refine st (v := (B (!r1))) (rv_not rfl) ?_
 refine w_end ?_
 refine q_then ?_
 refine cd_cond (!r1) rfl (fun hb5 => ?_) (fun hb5 => ?_)
 ·replace h := bif_t hb5 h
  refine c_seq ?_
  refine rg ?_
  refine st (v := (.slice none 0 0)) (rv_assign rfl) ?_
  refine w_end ?_
  refine q_then ?_
  refine c_ret ?_
  refine q_then_r ?_
  obtain ⟨K6, hK7, H⟩ := H.nilDp (List Int) 0
  obtain rfl := Option.some.inj h
  exact fin_ret (v := (.slice none 0 0)) (results_ok Try.results36 (res_tmp (v := (.slice none 0 0)) rfl res_nil) rfl) ⟨none, 0, K6, rfl, rfl, hK7, rfl⟩ (H.sel' [0] rfl rfl)
 ·replace h := bif_f hb5 h
  refine c_skip ?_
  refine q_then ?_
  refine c_seq ?_
  refine rg ?_
  refine st (v := (Sl acentres_0 centres_0 ccentres_0)) (rv_move rfl) ?_
  refine st (v := (Sl alist_1 list_1 clist_1)) (rv_move rfl) ?_
  obtain ⟨r8, hx9, h'⟩ := bind_some h
  clear h
  have h := h'; clear h'
  have hc10 := c_impl_itemsByCentre (acentres_0 := acentres_0) (ccentres_0 := ccentres_0) (alist_1 := alist_1) (clist_1 := clist_1) hx9
  refine st_call (cx_call hc10 (ent_f hc10.fn rfl) hn0 (show Hp S0 σ0 _ ([Ch.ro 0 (Sl acentres_0 centres_0 ccentres_0) centres_0, Ch.ro 0 (Sl alist_1 list_1 clist_1) list_1] ++ [Ch.ro 0 (Sl acentres_0 centres_0 ccentres_0) centres_0, Ch.ro 0 (Sl alist_1 list_1 clist_1) list_1]) from (H.sel' [0, 1, 0, 1] rfl rfl))) wn ?_
  rintro _ σ14 ⟨_, ⟨b11, K12, rfl, rfl, hK13⟩, H, -⟩
  replace H : Hp S0 σ0 σ14 [Ch.big K12, Ch.ro 0 (Sl acentres_0 centres_0 ccentres_0) centres_0, Ch.ro 0 (Sl alist_1 list_1 clist_1) list_1] := H
  refine st (v := (.map (some b11))) (rv_assign rfl) ?_
  refine w_end ?_
  refine q_then ?_
  refine c_seq ?_
  refine rg ?_
  refine st (v := (Sl acentres_0 centres_0 ccentres_0)) (rv_move rfl) ?_
  refine st (v := (I (centres_0.length : Int))) (rv_len Try.underlying22 rfl) ?_
  obtain ⟨xs15, hx16, h'⟩ := bind_some h
  clear h
  have h := h'; clear h'
  obtain ⟨k21, he22, hv23⟩ := gmake_dp (zv := (.slice none 0 0 : Value)) hx16
  refine st_ex (ex_make (el := n0) (z0 := (.slice none 0 0 : Value)) (zs := [(.slice none 0 0)]) H hn0 Try.underlying22 ti24 rfl rfl (⟨rfl, rfl⟩) (by decide) hv23 rfl rfl) wn ?_
  rintro _ σ27 ⟨b17, c18, rfl, ht19, H, -⟩
  have hs26 : (Sl (some ⟨b17, 0, none⟩) (List.replicate k21 (.slice none 0 0 : Value)) c18) = (Sl (some ⟨b17, 0, none⟩) xs15 c18) := sl_len (by rw [he22]; simp)
  rw [hs26] at H ⊢
  obtain ⟨K24, hK25, H⟩ := H.dpMake (z := ([] : List Int)) rfl rfl
  rw [← he22] at hK25; clear he22 hv23 hs26
  replace ht19 := ht19.trans (gmake_len hx16).symm
  refine st (v := (Sl (some ⟨b17, 0, none⟩) xs15 c18)) (rv_assign rfl) ?_
  refine w_end ?_
  refine q_then ?_
  refine c_seq ?_
  refine c_seq ?_
  refine rg ?_
  refine st (v := (Sl acentres_0 centres_0 ccentres_0)) (rv_move rfl) ?_
  refine st (v := (I (centres_0.length : Int))) (rv_len Try.underlying22 rfl) ?_
  refine st (v := (I 0)) (rv_move rfl) ?_
  refine w_end ?_
  refine q_then ?_
  obtain ⟨o28, hj, h'⟩ := bind_some h
  clear h
  refine c_cut (fun e a w => e = .normal ∧ ∃ (ρ : Nat → Value) (σ : St) (Kj1 : List Ch), a = fr 46 (updL ρ [(6, (Sl (some ⟨b17, 0, none⟩) o28 c18))]) ∧ w = σ.w ∧ Hp S0 σ0 σ [Ch.big Kj1] ∧ Dp n0 (Sl (some ⟨b17, 0, none⟩) o28 c18) o28 Kj1 ∧ c18 = o28.length ∧ o28.length = xs15.length) ?_ ?_
  ·clear h'
   rename _ = some o28 => h
   refine c_blk ?_
   obtain ⟨σ30, hw31, H, -⟩ := H.mpPub 1 rfl hK13
   rw [← hw31]; clear hw31
   refine wp_loopM _ h (fun s29 a w => ∃ (ρ : Nat → Value) (σ : St) (Kj1 : List Ch), a = fr 46 (updL ρ [(5, (.map (some b11))), (6, (Sl (some ⟨b17, 0, none⟩) s29.1 c18)), (19, (Sl acentres_0 centres_0 ccentres_0)), (20, (I (centres_0.length : Int))), (21, (I s29.2))]) ∧ w = σ.w ∧ Hp S0 σ0 σ [Ch.mr b11 r8, Ch.big Kj1, Ch.ro 0 (Sl acentres_0 centres_0 ccentres_0) centres_0] ∧ Dp n0 (Sl (some ⟨b17, 0, none⟩) s29.1 c18) s29.1 Kj1 ∧ c18 = s29.1.length ∧ s29.1.length = xs15.length) ⟨_, σ30, K24, fr_join ⟨rfl, rfl, rfl, rfl, rfl, trivial⟩, rfl, H.sel' [0, 1, 2] rfl rfl, hK25, ht19, rfl⟩ ?_
   clear h H
   rintro s29 a w o ⟨ρ, σ32, K33, rfl, rfl, H, hK34, ht35, hn36⟩ h hres
   refine c_seq ?_
   refine rg ?_
   refine st (v := (B (decide (s29.2 < (centres_0.length : Int))))) (rv_lss (a := s29.2) (b := (centres_0.length : Int)) rfl rfl) ?_
   refine w_end ?_
   refine q_then ?_
   refine c_seq ?_
   refine cd_cond (decide (s29.2 < (centres_0.length : Int))) rfl (fun hb37 => ?_) (fun hb37 => ?_)
   ·replace h := bif_t hb37 h
    refine c_skip ?_
    refine q_then ?_
    refine c_seq ?_
    obtain ⟨o38, hj, h'⟩ := bind_some h
    clear h
    refine c_cut (fun e a w => e = .normal ∧ ∃ (ρ : Nat → Value) (σ : St) (Kj1 : List Ch), a = fr 46 (updL ρ [(5, (.map (some b11))), (6, (Sl (some ⟨b17, 0, none⟩) o38 c18)), (19, (Sl acentres_0 centres_0 ccentres_0)), (20, (I (centres_0.length : Int))), (21, (I s29.2))]) ∧ w = σ.w ∧ Hp S0 σ0 σ [Ch.mr b11 r8, Ch.big Kj1, Ch.ro 0 (Sl acentres_0 centres_0 ccentres_0) centres_0] ∧ Dp n0 (Sl (some ⟨b17, 0, none⟩) o38 c18) o38 Kj1 ∧ c18 = o38.length ∧ o38.length = s29.1.length) ?_ ?_
    ·clear h'
     rename _ = some o38 => h
     refine c_blk ?_
     refine c_seq ?_
     refine rg ?_
     refine st (v := (I s29.2)) (rv_move rfl) ?_
     obtain ⟨x39, hx40, h'⟩ := bind_some h
     clear h
     have h := h'; clear h'
     obtain ⟨b42, o43, hi41, -⟩ := (H.ro 2 rfl).ix hx40
     refine st (v := (pt b42 o43)) (rv_ix Try.underlying22 ti24 rfl rfl hi41) ?_
     obtain ⟨v47, hc48, hR46⟩ := ((H.ro 2 rfl).at hx40 hi41).slice
     obtain ⟨a44, c45, rfl⟩ := hR46.isSl
     replace H := H.add (d := Ch.ro 0 (Sl a44 x39 c45) x39) hR46 (fun _ h => h)
     clear hR46
     refine st (v := (Sl a44 x39 c45)) (rv_load1 Try.underlying24 rfl rfl hc48) ?_
     refine st (v := (I s29.2)) (rv_assign rfl) ?_
     refine st (v := (Sl a44 x39 c45)) (rv_assign rfl) ?_
     refine w_end ?_
     refine q_then ?_
     refine c_seq ?_
     refine rg ?_
     refine st (v := (.map (some b11))) (rv_move rfl) ?_
     refine st (v := (I s29.2)) (rv_move rfl) ?_
     obtain ⟨v52, hL51, hR53⟩ := mrGet (H.mr 1 rfl) s29.2
     obtain ⟨a49, c50, rfl⟩ := hR53.isSl
     replace H := H.add (d := Ch.ro 0 (Sl a49 (mget r8 s29.2) c50) (mget r8 s29.2)) hR53 (fun _ h => h)
     clear hR53
     refine st (v := (Sl a49 (mget r8 s29.2) c50)) (rv_lookup Try.underlying74 Try.underlying3 ti37 rfl rfl hL51) ?_
     refine st (v := (I ((mget r8 s29.2).length : Int))) (rv_len Try.underlying37 rfl) ?_
     refine st (v := (B (((mget r8 s29.2).length : Int) == 0))) (rv_eql (a := ((mget r8 s29.2).length : Int)) (b := 0) rfl rfl) ?_
     refine w_end ?_
     refine q_then ?_
     refine cd_cond (((mget r8 s29.2).length : Int) == 0) rfl (fun hb54 => ?_) (fun hb54 => ?_)
     ·replace h := bif_t hb54 h
      refine rg ?_
      refine st (v := (Sl (some ⟨b17, 0, none⟩) s29.1 c18)) (rv_move rfl) ?_
      refine st (v := (I s29.2)) (rv_move rfl) ?_
      refine st (v := (Sl a44 x39 c45)) (rv_move rfl) ?_
      obtain ⟨r55, hx56, h'⟩ := bind_some h
      clear h
      have h := h'; clear h'
      have hc57 := c_slices_Clone_int_int (as_0 := a44) (cs_0 := c45) hx56
      refine st_call (cx_call hc57 (ent_f hc57.fn rfl) hn0 (show Hp S0 σ0 _ ([Ch.ro 0 (Sl a44 x39 c45) x39] ++ [Ch.ro 0 (Sl a49 (mget r8 s29.2) c50) (mget r8 s29.2), Ch.ro 0 (Sl a44 x39 c45) x39, Ch.mr b11 r8, Ch.big K33, Ch.ro 0 (Sl acentres_0 centres_0 ccentres_0) centres_0]) from (H.sel' [1, 0, 1, 2, 3, 4] rfl rfl))) wn ?_
      rintro _ σ60 ⟨_, ⟨a58, c59, rfl, rfl⟩, H, -⟩
      replace H : Hp S0 σ0 σ60 [Ch.own n0 n0 (Sl a58 r55 c59) r55, Ch.ro 0 (Sl a49 (mget r8 s29.2) c50) (mget r8 s29.2), Ch.ro 0 (Sl a44 x39 c45) x39, Ch.mr b11 r8, Ch.big K33, Ch.ro 0 (Sl acentres_0 centres_0 ccentres_0) centres_0] := H
      obtain ⟨x61, hx62, h'⟩ := bind_some h
      clear h
      have h := h'; clear h'
      obtain ⟨b64, o65, hi63⟩ := H.dpIx 4 rfl hK34 hx62
      refine st (v := (pt b64 o65)) (rv_ix Try.underlying22 ti24 rfl rfl hi63) ?_
      obtain ⟨v66, K67, H, hK68⟩ := H.dpOut 4 rfl hK34 hx62
      replace H := H.tail
      replace H := H.sel' [0, 1, 2, 3, 4, 5] rfl rfl
      obtain ⟨K69, hK70, he71⟩ := hK68.put (r55 : List Int) (Sl a58 r55 c59)
      refine st_exS (he71 (ty := _) (k := 0) (vs := [(Sl a58 r55 c59)]) H ti24 hi63 rfl rfl rfl rfl rfl (Nat.le_of_ble_eq_true rfl) (by simp [plain]) (by rintro _ _ ⟨rfl, _⟩; exact ⟨rfl, rfl⟩)) wn ?_
      rintro σ72 ⟨H, -⟩
      have hsl : (Sl (some ⟨b17, 0, none⟩) s29.1 c18) = (Sl (some ⟨b17, 0, none⟩) (s29.1.set s29.2.toNat r55) c18) := sl_len List.length_set.symm
      rw [hsl]; rw [hsl] at hK70; clear hsl
      refine w_end ?_
      refine q_blk ?_
      obtain rfl := Option.some.inj h
      exact ⟨rfl, _, σ72, K69, fr_join ⟨rfl, rfl, rfl, rfl, rfl, trivial⟩, rfl, H.sel' [3, 0, 4] rfl rfl, hK70, (ht35.trans List.length_set.symm), ((List.length_set.trans hn36).trans hn36.symm)⟩
     ·replace h := bif_f hb54 h
      refine rg ?_
      refine st (v := (Sl (some ⟨b17, 0, none⟩) s29.1 c18)) (rv_move rfl) ?_
      refine st (v := (I s29.2)) (rv_move rfl) ?_
      refine st (v := (.map (some b11))) (rv_move rfl) ?_
      refine st (v := (I s29.2)) (rv_move rfl) ?_
      obtain ⟨v76, hL75, hR77⟩ := mrGet (H.mr 2 rfl) s29.2
      obtain ⟨a73, c74, rfl⟩ := hR77.isSl
      replace H := H.add (d := Ch.ro 0 (Sl a73 (mget r8 s29.2) c74) (mget r8 s29.2)) hR77 (fun _ h => h)
      clear hR77
      refine st (v := (Sl a73 (mget r8 s29.2) c74)) (rv_lookup Try.underlying74 Try.underlying3 ti37 rfl rfl hL75) ?_
      obtain ⟨r78, hx79, h'⟩ := bind_some h
      clear h
      have h := h'; clear h'
      have hc80 := c_impl_vectorsOf (alist_0 := a73) (clist_0 := c74) hx79
      refine st_call (cx_call hc80 (ent_f hc80.fn rfl) hn0 (show Hp S0 σ0 _ ([Ch.ro 0 (Sl a73 (mget r8 s29.2) c74) (mget r8 s29.2)] ++ [Ch.ro 0 (Sl a73 (mget r8 s29.2) c74) (mget r8 s29.2), Ch.ro 0 (Sl a49 (mget r8 s29.2) c50) (mget r8 s29.2), Ch.ro 0 (Sl a44 x39 c45) x39, Ch.mr b11 r8, Ch.big K33, Ch.ro 0 (Sl acentres_0 centres_0 ccentres_0) centres_0]) from (H.sel' [0, 0, 1, 2, 3, 4, 5] rfl rfl))) wn ?_
      rintro _ σ84 ⟨_, ⟨a81, c82, rfl, rfl, ht83⟩, H, -⟩
      replace H : Hp S0 σ0 σ84 [Ch.own n0 0 (Sl a81 r78 c82) r78, Ch.ro 0 (Sl a73 (mget r8 s29.2) c74) (mget r8 s29.2), Ch.ro 0 (Sl a49 (mget r8 s29.2) c50) (mget r8 s29.2), Ch.ro 0 (Sl a44 x39 c45) x39, Ch.mr b11 r8, Ch.big K33, Ch.ro 0 (Sl acentres_0 centres_0 ccentres_0) centres_0] := H
      obtain ⟨σ85, hw86, H, -⟩ := H.pub 0 rfl (Nat.zero_le _)
      rw [← hw86]; clear hw86
      obtain ⟨r87, hx88, h'⟩ := bind_some h
      clear h
      have h := h'; clear h'
      have hc89 := c_impl_MeanOf (alist_0 := a81) (clist_0 := c82) hx88
      refine st_call (cx_call hc89 (ent_f hc89.fn rfl) hn0 (show Hp S0 σ0 _ ([Ch.ro 0 (Sl a81 r78 c82) r78] ++ [Ch.ro 0 (Sl a81 r78 c82) r78, Ch.ro 0 (Sl a73 (mget r8 s29.2) c74) (mget r8 s29.2), Ch.ro 0 (Sl a49 (mget r8 s29.2) c50) (mget r8 s29.2), Ch.ro 0 (Sl a44 x39 c45) x39, Ch.mr b11 r8, Ch.big K33, Ch.ro 0 (Sl acentres_0 centres_0 ccentres_0) centres_0]) from (H.sel' [0, 0, 1, 2, 3, 4, 5, 6] rfl rfl))) wn ?_
      rintro _ σ93 ⟨_, ⟨a90, c91, rfl, rfl, ht92⟩, H, -⟩
      replace H : Hp S0 σ0 σ93 [Ch.own n0 n0 (Sl a90 r87 c91) r87, Ch.ro 0 (Sl a81 r78 c82) r78, Ch.ro 0 (Sl a73 (mget r8 s29.2) c74) (mget r8 s29.2), Ch.ro 0 (Sl a49 (mget r8 s29.2) c50) (mget r8 s29.2), Ch.ro 0 (Sl a44 x39 c45) x39, Ch.mr b11 r8, Ch.big K33, Ch.ro 0 (Sl acentres_0 centres_0 ccentres_0) centres_0] := H
      replace H : Hp S0 σ0 σ93 [Ch.own n0 n0 (Sl a90 r87 c91) r87, Ch.mr b11 r8, Ch.big K33, Ch.ro 0 (Sl acentres_0 centres_0 ccentres_0) centres_0] := H.sel' [0, 5, 6, 7] rfl rfl
      obtain ⟨x94, hx95, h'⟩ := bind_some h
      clear h
      have h := h'; clear h'
      obtain ⟨b97, o98, hi96⟩ := H.dpIx 2 rfl hK34 hx95
      refine st (v := (pt b97 o98)) (rv_ix Try.underlying22 ti24 rfl rfl hi96) ?_
      obtain ⟨v99, K100, H, hK101⟩ := H.dpOut 2 rfl hK34 hx95
      replace H := H.tail
      replace H := H.sel' [0, 1, 2, 3] rfl rfl
      obtain ⟨K102, hK103, he104⟩ := hK101.put (r87 : List Int) (Sl a90 r87 c91)
      refine st_exS (he104 (ty := _) (k := 0) (vs := [(Sl a90 r87 c91)]) H ti24 hi96 rfl rfl rfl rfl rfl (Nat.le_of_ble_eq_true rfl) (by simp [plain]) (by rintro _ _ ⟨rfl, _⟩; exact ⟨rfl, rfl⟩)) wn ?_
      rintro σ105 ⟨H, -⟩
      have hsl : (Sl (some ⟨b17, 0, none⟩) s29.1 c18) = (Sl (some ⟨b17, 0, none⟩) (s29.1.set s29.2.toNat r87) c18) := sl_len List.length_set.symm
      rw [hsl]; rw [hsl] at hK103; clear hsl
      refine w_end ?_
      refine q_blk ?_
      obtain rfl := Option.some.inj h
      exact ⟨rfl, _, σ105, K102, fr_join ⟨rfl, rfl, rfl, rfl, rfl, trivial⟩, rfl, H.sel' [1, 0, 2] rfl rfl, hK103, (ht35.trans List.length_set.symm), ((List.length_set.trans hn36).trans hn36.symm)⟩
    ·clear hj
     have h := h'
     clear h' H
     rintro e a w ⟨rfl, ρ, σ106, K107, rfl, rfl, H, hK108, ht109, hn110⟩
     refine q_then ?_
     refine rg ?_
     refine st (v := (I (w64 (s29.2 + 1)))) (rv_add (a := s29.2) (b := 1) rfl rfl) ?_
     refine st (v := (I (w64 (s29.2 + 1)))) (rv_move rfl) ?_
     refine w_end ?_
     refine q_then ?_
     obtain rfl := Option.some.inj h
     exact ⟨_, rfl, _, σ106, K107, fr_join ⟨rfl, rfl, rfl, rfl, rfl, trivial⟩, rfl, H.sel' [0, 1, 2] rfl rfl, hK108, ht109, (hn110.trans hn36)⟩
   ·replace h := bif_f hb37 h
    refine c_exit ?_
    refine q_then_x ?_
    refine q_then_x ?_
    refine q_blk_hit ?_
    obtain rfl := Option.some.inj h
    obtain rfl := hres _ rfl
    exact ⟨rfl, _, σ32, K33, fr_join ⟨rfl, trivial⟩, rfl, H.sel' [1] rfl rfl, hK34, ht35, hn36⟩
  ·clear hj
   have h := h'
   clear h' H
   rintro e a w ⟨rfl, ρ, σ111, K112, rfl, rfl, H, hK113, ht114, hn115⟩
   refine q_then ?_
   refine c_seq ?_
   refine rg ?_
   refine st (v := (Sl (some ⟨b17, 0, none⟩) o28 c18)) (rv_move rfl) ?_
   refine st (v := (Sl (some ⟨b17, 0, none⟩) o28 c18)) (rv_assign rfl) ?_
   refine w_end ?_
   refine q_then ?_
   refine c_ret ?_
   obtain ⟨K116, hK117, H⟩ := H.dpLow (lo' := 0) 0 rfl hK113 (Nat.zero_le _)
   obtain rfl := Option.some.inj h
   exact fin_ret (v := (Sl (some ⟨b17, 0, none⟩) o28 c18)) (results_ok Try.results36 (res_tmp (v := (Sl (some ⟨b17, 0, none⟩) o28 c18)) rfl res_nil) rfl) ⟨(some ⟨b17, 0, none⟩), c18, K116, rfl, rfl, hK117, ht114⟩ (H.sel' [0] rfl rfl)

theorem c_slices_Equal_int_int {s1_0 : List Int} {s2_1 : List Int} {as1_0 : Option Addr} {cs1_0 : Nat} {as2_1 : Option Addr} {cs2_1 : Nat} {r : Bool} (h : M.slices_Equal_int_int s1_0 s2_1 = some r) :
    Cal2 Try.prog 78 [(Sl as1_0 s1_0 cs1_0), (Sl as2_1 s2_1 cs2_1)] [Ch.ro 0 (Sl as1_0 s1_0 cs1_0) s1_0, Ch.ro 0 (Sl as2_1 s2_1 cs2_1) s2_1] (fun n0 v L => v = (B r) ∧ L = []) := by
 refine cal2 (n := 26) Try.func78 rfl rfl rfl rfl ?_
 intro S0 σ0 n0 hn0 H
 unfold M.slices_Equal_int_int at h
 refine c_seq ?_
 refine rg ?_
 refine st (v := (B false)) (rv_assign rfl) ?_
 refine w_end ?_
 refine q_then ?_
 refine c_seq ?_
 refine c_seq ?_
 refine rg ?_
 refine st (v := (Sl as1_0 s1_0 cs1_0)) (rv_move rfl) ?_
 refine st (v := (I (s1_0.length : Int))) (rv_len Try.underlying24 rfl) ?_
 refine st (v := (Sl as2_1 s2_1 cs2_1)) (rv_move rfl) ?_
 refine st (v := (I (s2_1.length : Int))) (rv_len Try.underlying24 rfl) ?_
 refine st (v := (B ((s1_0.length : Int) != (s2_1.length : Int)))) (rv_neq (a := (s1_0.length : Int)) (b := (s2_1.length : Int)) rfl rfl) ?_
 refine w_end ?_
 refine q_then ?_
 refine cd_cond ((s1_0.length : Int) != (s2_1.length : Int)) rfl (fun hb1 => ?_) (fun hb1 => ?_)
 ·replace h := bif_t hb1 h
  refine c_seq ?_
  refine rg ?_
  refine st (v := (B false)) (rv_assign rfl) ?_
  refine w_end ?_
  refine q_then ?_
  refine c_ret ?_
  refine q_then_r ?_
  obtain rfl := Option.some.inj h
  exact fin_ret (v := (B false)) (results_ok Try.results78 (res_tmp (v := (B false)) rfl res_nil) rfl) ⟨rfl, rfl⟩ (H.sel' [] rfl rfl)
 ·replace h := bif_f hb1 h
  refine c_skip ?_
  refine q_then ?_
  refine c_seq ?_
  refine c_seq ?_
  refine rg ?_
  refine st (v := (Sl as1_0 s1_0 cs1_0)) (rv_move rfl) ?_
  refine st (v := (I (s1_0.length : Int))) (rv_len Try.underlying24 rfl) ?_
  refine st (v := (I 0)) (rv_move rfl) ?_
  refine w_end ?_
  refine q_then ?_
  obtain ⟨o2, hj, h'⟩ := bind_some h
  clear h
  refine c_cut (fun e a w => (∃ t, o2 = (.inl t) ∧ e = .normal ∧ ∃ (ρ : Nat → Value) (σ : St), a = fr 26 (updL ρ []) ∧ w = σ.w ∧ Hp S0 σ0 σ []) ∨ (∃ t, o2 = (.inr t) ∧ e = .ret ∧ ∃ (ρ : Nat → Value) (σ : St), a = fr 26 (updL ρ [(4, (B t))]) ∧ w = σ.w ∧ Hp S0 σ0 σ [])) ?_ ?_
  ·clear h'
   rename _ = some o2 => h
   refine c_blk ?_
   refine wp_loopM _ h (fun s3 a w => ∃ (ρ : Nat → Value) (σ : St), a = fr 26 (updL ρ [(0, (Sl as1_0 s1_0 cs1_0)), (1, (Sl as2_1 s2_1 cs2_1)), (12, (I (s1_0.length : Int))), (13, (I s3))]) ∧ w = σ.w ∧ Hp S0 σ0 σ [Ch.ro 0 (Sl as1_0 s1_0 cs1_0) s1_0, Ch.ro 0 (Sl as2_1 s2_1 cs2_1) s2_1]) ⟨_, σ0, fr_join ⟨rfl, rfl, rfl, rfl, trivial⟩, rfl, H.sel' [0, 1] rfl rfl⟩ ?_
   clear h H
   rintro s3 a w o ⟨ρ, σ4, rfl, rfl, H⟩ h hres
   refine c_seq ?_
   refine rg ?_
   refine st (v := (B (decide (s3 < (s1_0.length : Int))))) (rv_lss (a := s3) (b := (s1_0.length : Int)) rfl rfl) ?_
   refine w_end ?_
   refine q_then ?_
   refine c_seq ?_
   refine cd_cond (decide (s3 < (s1_0.length : Int))) rfl (fun hb5 => ?_) (fun hb5 => ?_)
   ·replace h := bif_t hb5 h
    refine c_skip ?_
    refine q_then ?_
    refine c_seq ?_
    refine c_blk ?_
    refine c_seq ?_
    refine rg ?_
    refine st (v := (I s3)) (rv_move rfl) ?_
    refine st (v := (I s3)) (rv_assign rfl) ?_
    refine w_end ?_
    refine q_then ?_
    refine c_seq ?_
    refine rgP (σ := σ4) 8 (by kernel_rfl) (by kernel_rfl) (by kernel_rfl) ?_
    refine sq (v := (Sl as1_0 s1_0 cs1_0)) (rv_move rfl) ?_
    refine sq (v := (I s3)) (rv_move rfl) ?_
    obtain ⟨x6, hx7, h'⟩ := bind_some h
    clear h
    have h := h'; clear h'
    obtain ⟨b9, o10, hi8, -⟩ := (H.ro 0 rfl).ix hx7
    refine sq (v := (pt b9 o10)) (rv_ix Try.underlying24 ti3 rfl rfl hi8) ?_
    have hc11 := ((H.ro 0 rfl).at hx7 hi8).int
    refine sq (v := (I x6)) (rv_load1 Try.underlying3 rfl rfl hc11) ?_
    refine sq (v := (Sl as2_1 s2_1 cs2_1)) (rv_move rfl) ?_
    refine sq (v := (I s3)) (rv_move rfl) ?_
    obtain ⟨x12, hx13, h'⟩ := bind_some h
    clear h
    have h := h'; clear h'
    obtain ⟨b15, o16, hi14, -⟩ := (H.ro 1 rfl).ix hx13
    refine sq (v := (pt b15 o16)) (rv_ix Try.underlying24 ti3 rfl rfl hi14) ?_
    have hc17 := ((H.ro 1 rfl).at hx13 hi14).int
    refine sq (v := (I x12)) (rv_load1 Try.underlying3 rfl rfl hc17) ?_
    refine sq_end ?_
    intro σ18 hm19
    replace H := H.grow (hm19.mono fun _ h => h); clear hm19
    refine st (v := (B (x6 != x12))) (rv_neq (a := x6) (b := x12) rfl rfl) ?_
    refine w_end ?_
    refine q_then ?_
    refine cd_cond (x6 != x12) rfl (fun hb20 => ?_) (fun hb20 => ?_)
    ·replace h := bif_t hb20 h
     refine c_seq ?_
     refine rg ?_
     refine st (v := (B false)) (rv_assign rfl) ?_
     refine w_end ?_
     refine q_then ?_
     refine c_ret ?_
     refine q_blk_r ?_
     refine q_then_r ?_
     refine q_then_r ?_
     refine q_blk_r ?_
     obtain rfl := Option.some.inj h
     obtain rfl := hres _ rfl
     exact .inr (⟨_, rfl, rfl, _, σ18, fr_join ⟨rfl, trivial⟩, rfl, H.sel' [] rfl rfl⟩)
    ·replace h := bif_f hb20 h
     refine c_skip ?_
     refine q_blk ?_
     refine q_then ?_
     refine rg ?_
     refine st (v := (I (w64 (s3 + 1)))) (rv_add (a := s3) (b := 1) rfl rfl) ?_
     refine st (v := (I (w64 (s3 + 1)))) (rv_move rfl) ?_
     refine w_end ?_
     refine q_then ?_
     obtain rfl := Option.some.inj h
     exact ⟨_, rfl, _, σ18, fr_join ⟨rfl, rfl, rfl, rfl, trivial⟩, rfl, H.sel' [0, 1] rfl rfl⟩
   ·replace h := bif_f hb5 h
    refine c_exit ?_
    refine q_then_x ?_
    refine q_then_x ?_
    refine q_blk_hit ?_
    obtain rfl := Option.some.inj h
    obtain rfl := hres _ rfl
    exact .inl ⟨_, rfl, rfl, _, σ4, fr_join trivial, rfl, H.sel' [] rfl rfl⟩
  ·clear hj
   have h := h'
   clear h' H
   rintro e a w (⟨t21, rfl, rfl, ρ, σ22, rfl, rfl, H⟩ | ⟨t23, rfl, rfl, ρ, σ24, rfl, rfl, H⟩)
   ·replace h := selim_l h
    refine q_then ?_
    refine c_seq ?_
    refine rg ?_
    refine st (v := (B true)) (rv_assign rfl) ?_
    refine w_end ?_
    refine q_then ?_
    refine c_ret ?_
    obtain rfl := Option.some.inj h
    exact fin_ret (v := (B true)) (results_ok Try.results78 (res_tmp (v := (B true)) rfl res_nil) rfl) ⟨rfl, rfl⟩ (H.sel' [] rfl rfl)
   ·replace h := selim_r h
    refine q_then_r ?_
    obtain rfl := Option.some.inj h
    exact fin_ret (v := (B t23)) (results_ok Try.results78 (res_tmp (v := (B t23)) rfl res_nil) rfl) ⟨rfl, rfl⟩ (H.sel' [] rfl rfl)

theorem c_slices_EqualFunc_int_int_int_int__slices_Equal_int_int {s1_0 : List (List Int)} {s2_1 : List (List Int)} {as1_0 : Option Addr} {cs1_0 : Nat} {as2_1 : Option Addr} {cs2_1 : Nat} {r : Bool} (h : M.slices_EqualFunc_int_int_int_int__slices_Equal_int_int s1_0 s2_1 = some r) :
    Cal2 Try.prog 77 [(Sl as1_0 s1_0 cs1_0), (Sl as2_1 s2_1 cs2_1), (.func (.func 78) #[] #[])] [Ch.ro 0 (Sl as1_0 s1_0 cs1_0) s1_0, Ch.ro 0 (Sl as2_1 s2_1 cs2_1) s2_1] (fun n0 v L => v = (B r) ∧ L = []) := by
 refine cal2 (n := 32) Try.func77 rfl rfl rfl rfl ?_
 intro S0 σ0 n0 hn0 H
 unfold M.slices_EqualFunc_int_int_int_int__slices_Equal_int_int at h
 refine c_seq ?_
 refine rg ?_
 refine st (v := (B false)) (rv_assign rfl) ?_
 refine w_end ?_
 refine q_then ?_
 refine c_seq ?_
 refine c_seq ?_
 refine rg ?_
 refine st (v := (Sl as1_0 s1_0 cs1_0)) (rv_move rfl) ?_
 refine st (v := (I (s1_0.length : Int))) (rv_len Try.underlying22 rfl) ?_
 refine st (v := (Sl as2_1 s2_1 cs2_1)) (rv_move rfl) ?_
 refine st (v := (I (s2_1.length : Int))) (rv_len Try.underlying22 rfl) ?_
 refine st (v := (B ((s1_0.length : Int) != (s2_1.length : Int)))) (rv_neq (a := (s1_0.length : Int)) (b := (s2_1.length : Int)) rfl rfl) ?_
 refine w_end ?_
 refine q_then ?_
 refine cd_cond ((s1_0.length : Int) != (s2_1.length : Int)) rfl (fun hb1 => ?_) (fun hb1 => ?_)
 ·replace h := bif_t hb1 h
  refine c_seq ?_
  refine rg ?_
  refine st (v := (B false)) (rv_assign rfl) ?_
  refine w_end ?_
  refine q_then ?_
  refine c_ret ?_
  refine q_then_r ?_
  obtain rfl := Option.some.inj h
  exact fin_ret (v := (B false)) (results_ok Try.results77 (res_tmp (v := (B false)) rfl res_nil) rfl) ⟨rfl, rfl⟩ (H.sel' [] rfl rfl)
 ·replace h := bif_f hb1 h
  refine c_skip ?_
  refine q_then ?_
  refine c_seq ?_
  refine c_seq ?_
  refine rg ?_
  refine st (v := (Sl as1_0 s1_0 cs1_0)) (rv_move rfl) ?_
  refine st (v := (I (s1_0.length : Int))) (rv_len Try.underlying22 rfl) ?_
  refine st (v := (I 0)) (rv_move rfl) ?_
  refine w_end ?_
  refine q_then ?_
  obtain ⟨o2, hj, h'⟩ := bind_some h
  clear h
  refine c_cut (fun e a w => (∃ t, o2 = (.inl t) ∧ e = .normal ∧ ∃ (ρ : Nat → Value) (σ : St), a = fr 32 (updL ρ []) ∧ w = σ.w ∧ Hp S0 σ0 σ []) ∨ (∃ t, o2 = (.inr t) ∧ e = .ret ∧ ∃ (ρ : Nat → Value) (σ : St), a = fr 32 (updL ρ [(6, (B t))]) ∧ w = σ.w ∧ Hp S0 σ0 σ [])) ?_ ?_
  ·clear h'
   rename _ = some o2 => h
   refine c_blk ?_
   refine wp_loopM _ h (fun s3 a w => ∃ (ρ : Nat → Value) (σ : St), a = fr 32 (updL ρ [(1, (Sl as2_1 s2_1 cs2_1)), (2, (.func (.func 78) #[] #[])), (15, (Sl as1_0 s1_0 cs1_0)), (16, (I (s1_0.length : Int))), (17, (I s3))]) ∧ w = σ.w ∧ Hp S0 σ0 σ [Ch.ro 0 (Sl as2_1 s2_1 cs2_1) s2_1, Ch.ro 0 (Sl as1_0 s1_0 cs1_0) s1_0]) ⟨_, σ0, fr_join ⟨rfl, rfl, rfl, rfl, rfl, trivial⟩, rfl, H.sel' [1, 0] rfl rfl⟩ ?_
   clear h H
   rintro s3 a w o ⟨ρ, σ4, rfl, rfl, H⟩ h hres
   refine c_seq ?_
   refine rg ?_
   refine st (v := (B (decide (s3 < (s1_0.length : Int))))) (rv_lss (a := s3) (b := (s1_0.length : Int)) rfl rfl) ?_
   refine w_end ?_
   refine q_then ?_
   refine c_seq ?_
   refine cd_cond (decide (s3 < (s1_0.length : Int))) rfl (fun hb5 => ?_) (fun hb5 => ?_)
   ·replace h := bif_t hb5 h
    refine c_skip ?_
    refine q_then ?_
    refine c_seq ?_
    refine c_blk ?_
    refine c_seq ?_
    refine rg ?_
    refine st (v := (I s3)) (rv_move rfl) ?_
    obtain ⟨x6, hx7, h'⟩ := bind_some h
    clear h
    have h := h'; clear h'
    obtain ⟨b9, o10, hi8, -⟩ := (H.ro 1 rfl).ix hx7
    refine st (v := (pt b9 o10)) (rv_ix Try.underlying22 ti24 rfl rfl hi8) ?_
    obtain ⟨v14, hc15, hR13⟩ := ((H.ro 1 rfl).at hx7 hi8).slice
    obtain ⟨a11, c12, rfl⟩ := hR13.isSl
    replace H := H.add (d := Ch.ro 0 (Sl a11 x6 c12) x6) hR13 (fun _ h => h)
    clear hR13
    refine st (v := (Sl a11 x6 c12)) (rv_load1 Try.underlying24 rfl rfl hc15) ?_
    refine st (v := (I s3)) (rv_assign rfl) ?_
    refine st (v := (Sl a11 x6 c12)) (rv_assign rfl) ?_
    refine w_end ?_
    refine q_then ?_
    refine c_seq ?_
    refine rg ?_
    refine st (v := (Sl as2_1 s2_1 cs2_1)) (rv_move rfl) ?_
    refine st (v := (I s3)) (rv_move rfl) ?_
    obtain ⟨x16, hx17, h'⟩ := bind_some h
    clear h
    have h := h'; clear h'
    obtain ⟨b19, o20, hi18, -⟩ := (H.ro 1 rfl).ix hx17
    refine st (v := (pt b19 o20)) (rv_ix Try.underlying22 ti24 rfl rfl hi18) ?_
    obtain ⟨v24, hc25, hR23⟩ := ((H.ro 1 rfl).at hx17 hi18).slice
    obtain ⟨a21, c22, rfl⟩ := hR23.isSl
    replace H := H.add (d := Ch.ro 0 (Sl a21 x16 c22) x16) hR23 (fun _ h => h)
    clear hR23
    refine st (v := (Sl a21 x16 c22)) (rv_load1 Try.underlying24 rfl rfl hc25) ?_
    refine st (v := (Sl a21 x16 c22)) (rv_assign rfl) ?_
    refine w_end ?_
    refine q_then ?_
    refine c_seq ?_
    refine rg ?_
    refine st (v := (.func (.func 78) #[] #[])) (rv_move rfl) ?_
    refine st (v := (Sl a11 x6 c12)) (rv_move rfl) ?_
    refine st (v := (Sl a21 x16 c22)) (rv_move rfl) ?_
    obtain ⟨r26, hx27, h'⟩ := bind_some h
    clear h
    have h := h'; clear h'
    have hc28 := c_slices_Equal_int_int (as1_0 := a11) (cs1_0 := c12) (as2_1 := a21) (cs2_1 := c22) hx27
    refine st_call (cx_call hc28 (ent_v (cap := []) hc28.fn rfl rfl) hn0 (show Hp S0 σ0 _ ([Ch.ro 0 (Sl a11 x6 c12) x6, Ch.ro 0 (Sl a21 x16 c22) x16] ++ [Ch.ro 0 (Sl a21 x16 c22) x16, Ch.ro 0 (Sl a11 x6 c12) x6, Ch.ro 0 (Sl as2_1 s2_1 cs2_1) s2_1, Ch.ro 0 (Sl as1_0 s1_0 cs1_0) s1_0]) from (H.sel' [1, 0, 0, 1, 2, 3] rfl rfl))) wn ?_
    rintro _ σ29 ⟨_, ⟨rfl, rfl⟩, H, -⟩
    replace H : Hp S0 σ0 σ29 [Ch.ro 0 (Sl a21 x16 c22) x16, Ch.ro 0 (Sl a11 x6 c12) x6, Ch.ro 0 (Sl as2_1 s2_1 cs2_1) s2_1, Ch.ro 0 (Sl as1_0 s1_0 cs1_0) s1_0] := H
    refine st (v := (B (!r26))) (rv_not rfl) ?_
    refine w_end ?_
    refine q_then ?_
    refine cd_cond (!r26) rfl (fun hb30 => ?_) (fun hb30 => ?_)
    ·replace h := bif_t hb30 h
     refine c_seq ?_
     refine rg ?_
     refine st (v := (B false)) (rv_assign rfl) ?_
     refine w_end ?_
     refine q_then ?_
     refine c_ret ?_
     refine q_blk_r ?_
     refine q_then_r ?_
     refine q_then_r ?_
     refine q_blk_r ?_
     obtain rfl := Option.some.inj h
     obtain rfl := hres _ rfl
     exact .inr (⟨_, rfl, rfl, _, σ29, fr_join ⟨rfl, trivial⟩, rfl, H.sel' [] rfl rfl⟩)
    ·replace h := bif_f hb30 h
     refine c_skip ?_
     refine q_blk ?_
     refine q_then ?_
     refine rg ?_
     refine st (v := (I (w64 (s3 + 1)))) (rv_add (a := s3) (b := 1) rfl rfl) ?_
     refine st (v := (I (w64 (s3 + 1)))) (rv_move rfl) ?_
     refine w_end ?_
     refine q_then ?_
     obtain rfl := Option.some.inj h
     exact ⟨_, rfl, _, σ29, fr_join ⟨rfl, rfl, rfl, rfl, rfl, trivial⟩, rfl, H.sel' [2, 3] rfl rfl⟩
   ·replace h := bif_f hb5 h
    refine c_exit ?_
    refine q_then_x ?_
    refine q_then_x ?_
    refine q_blk_hit ?_
    obtain rfl := Option.some.inj h
    obtain rfl := hres _ rfl
    exact .inl ⟨_, rfl, rfl, _, σ4, fr_join trivial, rfl, H.sel' [] rfl rfl⟩
  ·clear hj
   have h := h'
   clear h' H
   rintro e a w (⟨t31, rfl, rfl, ρ, σ32, rfl, rfl, H⟩ | ⟨t33, rfl, rfl, ρ, σ34, rfl, rfl, H⟩)
   ·replace h := selim_l h
    refine q_then ?_
    refine c_seq ?_
    refine rg ?_
    refine st (v := (B true)) (rv_assign rfl) ?_
    refine w_end ?_
    refine q_then ?_
    refine c_ret ?_
    obtain rfl := Option.some.inj h
    exact fin_ret (v := (B true)) (results_ok Try.results77 (res_tmp (v := (B true)) rfl res_nil) rfl) ⟨rfl, rfl⟩ (H.sel' [] rfl rfl)
   ·replace h := selim_r h
    refine q_then_r ?_
    obtain rfl := Option.some.inj h
    exact fin_ret (v := (B t33)) (results_ok Try.results77 (res_tmp (v := (B t33)) rfl res_nil) rfl) ⟨rfl, rfl⟩ (H.sel' [] rfl rfl)

theorem c_impl_SettleCentres {centres_0 : List (List Int)} {list_1 : List (Int × (List Int) × Int)} {acentres_0 : Option Addr} {ccentres_0 : Nat} {alist_1 : Option Addr} {clist_1 : Nat} {r : (List (List Int)) × Int} (h : M.impl_SettleCentres centres_0 list_1 = some r) :
    Cal2 Try.prog 39 [(Sl acentres_0 centres_0 ccentres_0), (Sl alist_1 list_1 clist_1)] [Ch.ro 0 (Sl acentres_0 centres_0 ccentres_0) centres_0, Ch.ro 0 (Sl alist_1 list_1 clist_1) list_1] (fun n0 v L => ∃ (az1 : Option Addr), ∃ (cz2 : Nat), ∃ (Kz3 : List Ch), v = (.tuple #[(Sl az1 r.1 cz2), (I r.2)]) ∧ L = [Ch.big Kz3] ∧ Dp 0 (Sl az1 r.1 cz2) r.1 Kz3 ∧ cz2 = r.1.length) := by
 refine cal2 (n := 28) Try.func39 rfl rfl rfl rfl ?_
 intro S0 σ0 n0 hn0 H
 unfold M.impl_SettleCentres at h
 refine c_seq ?_
 refine rg ?_
 refine st (v := (.slice none 0 0)) (rv_assign rfl) ?_
 refine st (v := (I 0)) (rv_assign rfl) ?_
 refine w_end ?_
 refine q_then ?_
 refine c_seq ?_
 refine c_seq ?_
 refine rg ?_
 refine st (v := (Sl acentres_0 centres_0 ccentres_0)) (rv_move rfl) ?_
 refine st (v := (Sl alist_1 list_1 clist_1)) (rv_move rfl) ?_
 obtain ⟨r1, hx2, h'⟩ := bind_some h
 clear h
 have h := h'; clear h'
 have hc3 := c_impl_validClusters (acentres_0 := acentres_0) (ccentres_0 := ccentres_0) (alist_1 := alist_1) (clist_1 := clist_1) hx2
 refine st_call (cx_call hc3 (ent_f hc3.fn rfl) hn0 (show Hp S0 σ0 _ ([Ch.ro 0 (Sl acentres_0 centres_0 ccentres_0) centres_0, Ch.ro 0 (Sl alist_1 list_1 clist_1) list_1] ++ [Ch.ro 0 (Sl acentres_0 centres_0 ccentres_0) centres_0, Ch.ro 0 (Sl alist_1 list_1 clist_1) list_1]) from (H.sel' [0, 1, 0, 1] rfl rfl))) wn ?_
 rintro _ σ4 ⟨_, ⟨rfl, rfl⟩, H, -⟩
 replace H : Hp S0 σ0 σ4 [Ch.ro 0 (Sl acentres_0 centres_0 ccentres_0) centres_0, Ch.ro 0 (Sl alist_1 list_1 clist_1) list_1] := H
 refine st (v := (B (!r1))) (rv_not rfl) ?_
 refine w_end ?_
 refine q_then ?_
 refine cd_cond (!r1) rfl (fun hb5 => ?_) (fun hb5 => ?_)
 ·replace h := bif_t hb5 h
  refine c_seq ?_
  refine rg ?_
  refine st (v := (.slice none 0 0)) (rv_assign rfl) ?_
  refine st (v := (I (-1))) (rv_assign rfl) ?_
  refine w_end ?_
  refine q_then ?_
  refine c_ret ?_
  refine q_then_r ?_
  obtain ⟨K6, hK7, H⟩ := H.nilDp (List Int) 0
  obtain rfl := Option.some.inj h
  exact fin_ret (v := (.tuple #[(.slice none 0 0), (I (-1))])) (results_ok Try.results39 (res_tmp (v := (.slice none 0 0)) rfl (res_tmp (v := (I (-1))) rfl res_nil)) rfl) ⟨none, 0, K6, rfl, rfl, hK7, rfl⟩ (H.sel' [0] rfl rfl)
 ·replace h := bif_f hb5 h
  refine c_skip ?_
  refine q_then ?_
  refine c_seq ?_
  refine rg ?_
  refine st (v := (Sl acentres_0 centres_0 ccentres_0)) (rv_move rfl) ?_
  refine st (v := (Sl acentres_0 centres_0 ccentres_0)) (rv_assign rfl) ?_
  refine w_end ?_
  refine q_then ?_
  refine c_seq ?_
  refine c_seq ?_
  refine rg ?_
  refine st (v := (I 0)) (rv_move rfl) ?_
  refine w_end ?_
  refine q_then ?_
  obtain ⟨o8, hj, h'⟩ := bind_some h
  clear h
  refine c_cut (fun e a w => (∃ t, o8 = (.inl t) ∧ e = .normal ∧ ∃ (ρ : Nat → Value) (σ : St) (aj1 : Option Addr) (cj2 : Nat) (Kj3 : List Ch), a = fr 28 (updL ρ [(6, (Sl aj1 t cj2))]) ∧ w = σ.w ∧ Hp S0 σ0 σ [Ch.big Kj3] ∧ Dp 0 (Sl aj1 t cj2) t Kj3 ∧ cj2 = t.length) ∨ (∃ t, o8 = (.inr t) ∧ e = .ret ∧ ∃ (ρ : Nat → Value) (σ : St) (aj1 : Option Addr) (cj2 : Nat) (Kj3 : List Ch), a = fr 28 (updL ρ [(4, (Sl aj1 t.1 cj2)), (5, (I t.2))]) ∧ w = σ.w ∧ Hp S0 σ0 σ [Ch.big Kj3] ∧ Dp 0 (Sl aj1 t.1 cj2) t.1 Kj3 ∧ cj2 = t.1.length)) ?_ ?_
  ·clear h'
   rename _ = some o8 => h
   refine c_blk ?_
   refine wp_loopM _ h (fun s9 a w => (s9 = (centres_0, 0) ∧ ∃ (ρ : Nat → Value) (σ : St), a = fr 28 (updL ρ [(1, (Sl alist_1 list_1 clist_1)), (6, (Sl acentres_0 centres_0 ccentres_0)), (14, (I 0))]) ∧ w = σ.w ∧ Hp S0 σ0 σ [Ch.ro 0 (Sl acentres_0 centres_0 ccentres_0) centres_0, Ch.ro 0 (Sl alist_1 list_1 clist_1) list_1]) ∨ ∃ (ρ : Nat → Value) (σ : St) (aj1 : Option Addr) (cj2 : Nat) (Kj3 : List Ch), a = fr 28 (updL ρ [(1, (Sl alist_1 list_1 clist_1)), (6, (Sl aj1 s9.1 cj2)), (14, (I s9.2))]) ∧ w = σ.w ∧ Hp S0 σ0 σ [Ch.ro 0 (Sl alist_1 list_1 clist_1) list_1, Ch.big Kj3] ∧ Dp 0 (Sl aj1 s9.1 cj2) s9.1 Kj3 ∧ cj2 = s9.1.length) (.inl ⟨rfl, _, σ4, fr_join ⟨rfl, rfl, rfl, trivial⟩, rfl, H⟩) ?_
   clear h H
   rintro s9 a w o (⟨rfl, ρ, σ23, rfl, rfl, H⟩ | ⟨ρ, σ25, a26, c27, K28, rfl, rfl, H, hK29, ht30⟩) h hres
   ·replace h : ((M.impl_MoveCentres centres_0 list_1).bind fun r11 =>
       (M.slices_EqualFunc_int_int_int_int__slices_Equal_int_int r11 centres_0).bind fun r20 =>
       (bif r20 then
       some (.inr (.inr (r11, 0)))
      else
       some (.inl (r11, w64 (0 + 1))))) = some o := h
    refine c_seq ?_
    refine rg ?_
    refine st (v := (B (decide (0 < 8)))) (rv_lss (a := 0) (b := 8) rfl rfl) ?_
    refine w_end ?_
    refine q_then ?_
    refine c_seq ?_
    refine cd_true (congrArg B (rfl : decide ((0 : Int) < 8) = true)) ?_
    refine c_skip ?_
    refine q_then ?_
    refine c_seq ?_
    refine c_blk ?_
    refine c_seq ?_
    refine rg ?_
    refine st (v := (I 0)) (rv_move rfl) ?_
    refine st (v := (I 0)) (rv_assign rfl) ?_
    refine w_end ?_
    refine q_then ?_
    refine c_seq ?_
    refine rg ?_
    refine st (v := (Sl acentres_0 centres_0 ccentres_0)) (rv_move rfl) ?_
    refine st (v := (Sl alist_1 list_1 clist_1)) (rv_move rfl) ?_
    obtain ⟨r11, hx12, h'⟩ := bind_some h
    clear h
    have h := h'; clear h'
    have hc13 := c_impl_MoveCentres (acentres_0 := acentres_0) (ccentres_0 := ccentres_0) (alist_1 := alist_1) (clist_1 := clist_1) hx12
    refine st_call (cx_call hc13 (ent_f hc13.fn rfl) hn0 (show Hp S0 σ0 _ ([Ch.ro 0 (Sl acentres_0 centres_0 ccentres_0) centres_0, Ch.ro 0 (Sl alist_1 list_1 clist_1) list_1] ++ [Ch.ro 0 (Sl acentres_0 centres_0 ccentres_0) centres_0, Ch.ro 0 (Sl alist_1 list_1 clist_1) list_1]) from (H.sel' [0, 1, 0, 1] rfl rfl))) wn ?_
    rintro _ σ19 ⟨_, ⟨a14, c15, K16, rfl, rfl, hK17, ht18⟩, H, -⟩
    replace H : Hp S0 σ0 σ19 [Ch.big K16, Ch.ro 0 (Sl acentres_0 centres_0 ccentres_0) centres_0, Ch.ro 0 (Sl alist_1 list_1 clist_1) list_1] := H
    refine st (v := (Sl a14 r11 c15)) (rv_assign rfl) ?_
    refine w_end ?_
    refine q_then ?_
    refine c_seq ?_
    refine c_seq ?_
    refine rg ?_
    refine st (v := (Sl a14 r11 c15)) (rv_move rfl) ?_
    refine st (v := (Sl acentres_0 centres_0 ccentres_0)) (rv_move rfl) ?_
    obtain ⟨r20, hx21, h'⟩ := bind_some h
    clear h
    have h := h'; clear h'
    have hc22 := c_slices_EqualFunc_int_int_int_int__slices_Equal_int_int (as1_0 := a14) (cs1_0 := c15) (as2_1 := acentres_0) (cs2_1 := ccentres_0) hx21
    have hle := Nat.le_trans hn0 H.size
    refine st_call (cx_lend (Loan.lendB hK17.lends (Loan.same Loan.nil)) hc22 (ent_f hc22.fn rfl) (show Hp S0 σ0 _ ([Ch.big K16] ++ ([Ch.ro 0 (Sl acentres_0 centres_0 ccentres_0) centres_0] ++ [Ch.ro 0 (Sl acentres_0 centres_0 ccentres_0) centres_0, Ch.ro 0 (Sl alist_1 list_1 clist_1) list_1])) from (H.sel' [0, 1, 1, 2] rfl rfl)) (by rintro _ _ _ ⟨rfl, rfl⟩; exact trivial)) wn ?_
    rintro _ σ23 ⟨_, ⟨rfl, rfl⟩, H, -, -⟩
    replace H : Hp S0 σ0 σ23 [Ch.big K16, Ch.ro 0 (Sl acentres_0 centres_0 ccentres_0) centres_0, Ch.ro 0 (Sl alist_1 list_1 clist_1) list_1] := H
    clear hle
    replace H : Hp S0 σ0 σ23 [Ch.big K16, Ch.ro 0 (Sl acentres_0 centres_0 ccentres_0) centres_0, Ch.ro 0 (Sl alist_1 list_1 clist_1) list_1] := H
    refine w_end ?_
    refine q_then ?_
    refine cd_cond r20 rfl (fun hb24 => ?_) (fun hb24 => ?_)
    ·replace h := bif_t hb24 h
     refine c_seq ?_
     refine rg ?_
     refine st (v := (Sl a14 r11 c15)) (rv_move rfl) ?_
     refine st (v := (I 0)) (rv_move rfl) ?_
     refine st (v := (Sl a14 r11 c15)) (rv_assign rfl) ?_
     refine st (v := (I 0)) (rv_assign rfl) ?_
     refine w_end ?_
     refine q_then ?_
     refine c_ret ?_
     refine q_then_r ?_
     refine q_blk_r ?_
     refine q_then_r ?_
     refine q_then_r ?_
     refine q_blk_r ?_
     obtain rfl := Option.some.inj h
     obtain rfl := hres _ rfl
     exact .inr (⟨_, rfl, rfl, _, σ23, a14, c15, K16, fr_join ⟨rfl, rfl, trivial⟩, rfl, H.sel' [0] rfl rfl, hK17, ht18⟩)
    ·replace h := bif_f hb24 h
     refine c_skip ?_
     refine q_then ?_
     refine rg ?_
     refine st (v := (Sl a14 r11 c15)) (rv_move rfl) ?_
     refine st (v := (Sl a14 r11 c15)) (rv_assign rfl) ?_
     refine w_end ?_
     refine q_blk ?_
     refine q_then ?_
     refine rg ?_
     refine st (v := (I (w64 (0 + 1)))) (rv_add (a := 0) (b := 1) rfl rfl) ?_
     refine st (v := (I (w64 (0 + 1)))) (rv_move rfl) ?_
     refine w_end ?_
     refine q_then ?_
     obtain rfl := Option.some.inj h
     exact ⟨_, rfl, .inr ⟨_, σ23, a14, c15, K16, fr_join ⟨rfl, rfl, rfl, trivial⟩, rfl, H.sel' [2, 0] rfl rfl, hK17, ht18⟩⟩
   ·refine c_seq ?_
    refine rg ?_
    refine st (v := (B (decide (s9.2 < 8)))) (rv_lss (a := s9.2) (b := 8) rfl rfl) ?_
    refine w_end ?_
    refine q_then ?_
    refine c_seq ?_
    refine cd_cond (decide (s9.2 < 8)) rfl (fun hb31 => ?_) (fun hb31 => ?_)
    ·replace h := bif_t hb31 h
     refine c_skip ?_
     refine q_then ?_
     refine c_seq ?_
     refine c_blk ?_
     refine c_seq ?_
     refine rg ?_
     refine st (v := (I s9.2)) (rv_move rfl) ?_
     refine st (v := (I s9.2)) (rv_assign rfl) ?_
     refine w_end ?_
     refine q_then ?_
     refine c_seq ?_
     refine rg ?_
     refine st (v := (Sl a26 s9.1 c27)) (rv_move rfl) ?_
     refine st (v := (Sl alist_1 list_1 clist_1)) (rv_move rfl) ?_
     obtain ⟨r32, hx33, h'⟩ := bind_some h
     clear h
     have h := h'; clear h'
     have hc34 := c_impl_MoveCentres (acentres_0 := a26) (ccentres_0 := c27) (alist_1 := alist_1) (clist_1 := clist_1) hx33
     have hle := Nat.le_trans hn0 H.size
     refine st_call (cx_lend (Loan.lendB hK29.lends (Loan.same Loan.nil)) hc34 (ent_f hc34.fn rfl) (show Hp S0 σ0 _ ([Ch.big K28] ++ ([Ch.ro 0 (Sl alist_1 list_1 clist_1) list_1] ++ [Ch.ro 0 (Sl alist_1 list_1 clist_1) list_1])) from (H.sel' [1, 0, 0] rfl rfl)) (by rintro _ _ _ ⟨_, _, _, rfl, rfl, hK38, _⟩; exact ⟨Dp.abSc hK38, trivial⟩)) wn ?_
     rintro _ σ40 ⟨_, ⟨a35, c36, K37, rfl, rfl, hK38, ht39⟩, H, -, -⟩
     replace H : Hp S0 σ0 σ40 [Ch.big K37, Ch.big K28, Ch.ro 0 (Sl alist_1 list_1 clist_1) list_1] := H
     clear hle
     replace H : Hp S0 σ0 σ40 [Ch.big K37, Ch.big K28, Ch.ro 0 (Sl alist_1 list_1 clist_1) list_1] := H
     refine st (v := (Sl a35 r32 c36)) (rv_assign rfl) ?_
     refine w_end ?_
     refine q_then ?_
     refine c_seq ?_
     refine c_seq ?_
     refine rg ?_
     refine st (v := (Sl a35 r32 c36)) (rv_move rfl) ?_
     refine st (v := (Sl a26 s9.1 c27)) (rv_move rfl) ?_
     obtain ⟨r41, hx42, h'⟩ := bind_some h
     clear h
     have h := h'; clear h'
     have hc43 := c_slices_EqualFunc_int_int_int_int__slices_Equal_int_int (as1_0 := a35) (cs1_0 := c36) (as2_1 := a26) (cs2_1 := c27) hx42
     have hle := Nat.le_trans hn0 H.size
     refine st_call (cx_lend (Loan.lendB hK38.lends (Loan.lendB hK29.lends Loan.nil)) hc43 (ent_f hc43.fn rfl) (show Hp S0 σ0 _ ([Ch.big K37, Ch.big K28] ++ ([] ++ [Ch.ro 0 (Sl alist_1 list_1 clist_1) list_1])) from (H.sel' [0, 1, 2] rfl rfl)) (by rintro _ _ _ ⟨rfl, rfl⟩; exact trivial)) wn ?_
     rintro _ σ44 ⟨_, ⟨rfl, rfl⟩, H, -, -⟩
     replace H : Hp S0 σ0 σ44 [Ch.big K37, Ch.big K28, Ch.ro 0 (Sl alist_1 list_1 clist_1) list_1] := H
     clear hle
     replace H : Hp S0 σ0 σ44 [Ch.big K37, Ch.big K28, Ch.ro 0 (Sl alist_1 list_1 clist_1) list_1] := H
     refine w_end ?_
     refine q_then ?_
     refine cd_cond r41 rfl (fun hb45 => ?_) (fun hb45 => ?_)
     ·replace h := bif_t hb45 h
      refine c_seq ?_
      refine rg ?_
      refine st (v := (Sl a35 r32 c36)) (rv_move rfl) ?_
      refine st (v := (I s9.2)) (rv_move rfl) ?_
      refine st (v := (Sl a35 r32 c36)) (rv_assign rfl) ?_
      refine st (v := (I s9.2)) (rv_assign rfl) ?_
      refine w_end ?_
      refine q_then ?_
      refine c_ret ?_
      refine q_then_r ?_
      refine q_blk_r ?_
      refine q_then_r ?_
      refine q_then_r ?_
      refine q_blk_r ?_
      obtain rfl := Option.some.inj h
      obtain rfl := hres _ rfl
      exact .inr (⟨_, rfl, rfl, _, σ44, a35, c36, K37, fr_join ⟨rfl, rfl, trivial⟩, rfl, H.sel' [0] rfl rfl, hK38, ht39⟩)
     ·replace h := bif_f hb45 h
      refine c_skip ?_
      refine q_then ?_
      refine rg ?_
      refine st (v := (Sl a35 r32 c36)) (rv_move rfl) ?_
      refine st (v := (Sl a35 r32 c36)) (rv_assign rfl) ?_
      refine w_end ?_
      refine q_blk ?_
      refine q_then ?_
      refine rg ?_
      refine st (v := (I (w64 (s9.2 + 1)))) (rv_add (a := s9.2) (b := 1) rfl rfl) ?_
      refine st (v := (I (w64 (s9.2 + 1)))) (rv_move rfl) ?_
      refine w_end ?_
      refine q_then ?_
      obtain rfl := Option.some.inj h
      exact ⟨_, rfl, .inr ⟨_, σ44, a35, c36, K37, fr_join ⟨rfl, rfl, rfl, trivial⟩, rfl, H.sel' [2, 0] rfl rfl, hK38, ht39⟩⟩
    ·replace h := bif_f hb31 h
     refine c_exit ?_
     refine q_then_x ?_
     refine q_then_x ?_
     refine q_blk_hit ?_
     obtain rfl := Option.some.inj h
     obtain rfl := hres _ rfl
     exact .inl ⟨_, rfl, rfl, _, σ25, a26, c27, K28, fr_join ⟨rfl, trivial⟩, rfl, H.sel' [1] rfl rfl, hK29, ht30⟩
  ·clear hj
   have h := h'
   clear h' H
   rintro e a w (⟨t46, rfl, rfl, ρ, σ47, a48, c49, K50, rfl, rfl, H, hK51, ht52⟩ | ⟨t53, rfl, rfl, ρ, σ54, a55, c56, K57, rfl, rfl, H, hK58, ht59⟩)
   ·replace h := selim_l h
    refine q_then ?_
    refine c_seq ?_
    refine rg ?_
    refine st (v := (Sl a48 t46 c49)) (rv_move rfl) ?_
    refine st (v := (Sl a48 t46 c49)) (rv_assign rfl) ?_
    refine st (v := (I 8)) (rv_assign rfl) ?_
    refine w_end ?_
    refine q_then ?_
    refine c_ret ?_
    obtain rfl := Option.some.inj h
    exact fin_ret (v := (.tuple #[(Sl a48 t46 c49), (I 8)])) (results_ok Try.results39 (res_tmp (v := (Sl a48 t46 c49)) rfl (res_tmp (v := (I 8)) rfl res_nil)) rfl) ⟨a48, c49, K50, rfl, rfl, hK51, ht52⟩ (H.sel' [0] rfl rfl)
   ·replace h := selim_r h
    refine q_then_r ?_
    obtain rfl := Option.some.inj h
    exact fin_ret (v := (.tuple #[(Sl a55 t53.1 c56), (I t53.2)])) (results_ok Try.results39 (res_tmp (v := (Sl a55 t53.1 c56)) rfl (res_tmp (v := (I t53.2)) rfl res_nil)) rfl) ⟨a55, c56, K57, rfl, rfl, hK58, ht59⟩ (H.sel' [0] rfl rfl)

theorem c_laws_FnExactSettleCentres {aCentres_0 : List (List Int)} {aList_1 : List (Int × (List Int) × Int)} {aaCentres_0 : Option Addr} {caCentres_0 : Nat} {aaList_1 : Option Addr} {caList_1 : Nat} {r : Bool} (h : M.laws_FnExactSettleCentres aCentres_0 aList_1 = some r) :
    Cal2 Try.prog 9 [(Sl aaCentres_0 aCentres_0 caCentres_0), (Sl aaList_1 aList_1 caList_1)] [Ch.ro 0 (Sl aaCentres_0 aCentres_0 caCentres_0) aCentres_0, Ch.ro 0 (Sl aaList_1 aList_1 caList_1) aList_1] (fun n0 v L => v = (B r) ∧ L = []) := by
 refine cal2 (n := 119) Try.func9 rfl rfl rfl rfl ?_
 intro S0 σ0 n0 hn0 H
 unfold M.laws_FnExactSettleCentres at h
 refine c_seq ?_
 refine rg ?_
 refine st (v := (B false)) (rv_assign rfl) ?_
 refine w_end ?_
 refine q_then ?_
 refine c_seq ?_
 refine rg ?_
 refine st (v := (I 1048576)) (rv_assign rfl) ?_
 refine w_end ?_
 refine q_then ?_
 refine c_seq ?_
 refine rg ?_
 refine st (v := (Sl aaCentres_0 aCentres_0 caCentres_0)) (rv_move rfl) ?_
 refine st (v := (I 1048576)) (rv_move rfl) ?_
 obtain ⟨r1, hx2, h'⟩ := bind_some h
 clear h
 have h := h'; clear h'
 have hc3 := c_laws_szIntSS (aa_0 := aaCentres_0) (ca_0 := caCentres_0) hx2
 refine st_call (cx_call hc3 (ent_f hc3.fn rfl) hn0 (show Hp S0 σ0 _ ([Ch.ro 0 (Sl aaCentres_0 aCentres_0 caCentres_0) aCentres_0] ++ [Ch.ro 0 (Sl aaCentres_0 aCentres_0 caCentres_0) aCentres_0, Ch.ro 0 (Sl aaList_1 aList_1 caList_1) aList_1]) from (H.sel' [0, 0, 1] rfl rfl))) wn ?_
 rintro _ σ4 ⟨_, ⟨rfl, rfl⟩, H, -⟩
 replace H : Hp S0 σ0 σ4 [Ch.ro 0 (Sl aaCentres_0 aCentres_0 caCentres_0) aCentres_0, Ch.ro 0 (Sl aaList_1 aList_1 caList_1) aList_1] := H
 refine st (v := (I r1)) (rv_assign rfl) ?_
 refine w_end ?_
 refine q_then ?_
 refine c_seq ?_
 refine c_seq ?_
 refine rg ?_
 refine st (v := (I r1)) (rv_move rfl) ?_
 refine st (v := (B (decide (r1 < 0)))) (rv_lss (a := r1) (b := 0) rfl rfl) ?_
 refine w_end ?_
 refine q_then ?_
 refine cd_cond (decide (r1 < 0)) rfl (fun hb5 => ?_) (fun hb5 => ?_)
 ·replace h := bif_t hb5 h
  refine c_seq ?_
  refine rg ?_
  refine st (v := (B true)) (rv_assign rfl) ?_
  refine w_end ?_
  refine q_then ?_
  refine c_ret ?_
  refine q_then_r ?_
  obtain rfl := Option.some.inj h
  exact fin_ret (v := (B true)) (results_ok Try.results9 (res_tmp (v := (B true)) rfl res_nil) rfl) ⟨rfl, rfl⟩ (H.sel' [] rfl rfl)
 ·replace h := bif_f hb5 h
  refine c_skip ?_
  refine q_then ?_
  refine c_seq ?_
  refine rg ?_
  refine st (v := (Sl aaList_1 aList_1 caList_1)) (rv_move rfl) ?_
  refine st (v := (I r1)) (rv_move rfl) ?_
  obtain ⟨r6, hx7, h'⟩ := bind_some h
  clear h
  have h := h'; clear h'
  have hc8 := c_laws_szItemS (aa_0 := aaList_1) (ca_0 := caList_1) hx7
  refine st_call (cx_call hc8 (ent_f hc8.fn rfl) hn0 (show Hp S0 σ0 _ ([Ch.ro 0 (Sl aaList_1 aList_1 caList_1) aList_1] ++ [Ch.ro 0 (Sl aaCentres_0 aCentres_0 caCentres_0) aCentres_0, Ch.ro 0 (Sl aaList_1 aList_1 caList_1) aList_1]) from (H.sel' [1, 0, 1] rfl rfl))) wn ?_
  rintro _ σ9 ⟨_, ⟨rfl, rfl⟩, H, -⟩
  replace H : Hp S0 σ0 σ9 [Ch.ro 0 (Sl aaCentres_0 aCentres_0 caCentres_0) aCentres_0, Ch.ro 0 (Sl aaList_1 aList_1 caList_1) aList_1] := H
  refine st (v := (I r6)) (rv_assign rfl) ?_
  refine w_end ?_
  refine q_then ?_
  refine c_seq ?_
  refine c_seq ?_
  refine rg ?_
  refine st (v := (I r6)) (rv_move rfl) ?_
  refine st (v := (B (decide (r6 < 0)))) (rv_lss (a := r6) (b := 0) rfl rfl) ?_
  refine w_end ?_
  refine q_then ?_
  refine cd_cond (decide (r6 < 0)) rfl (fun hb10 => ?_) (fun hb10 => ?_)
  ·replace h := bif_t hb10 h
   refine c_seq ?_
   refine rg ?_
   refine st (v := (B true)) (rv_assign rfl) ?_
   refine w_end ?_
   refine q_then ?_
   refine c_ret ?_
   refine q_then_r ?_
   obtain rfl := Option.some.inj h
   exact fin_ret (v := (B true)) (results_ok Try.results9 (res_tmp (v := (B true)) rfl res_nil) rfl) ⟨rfl, rfl⟩ (H.sel' [] rfl rfl)
  ·replace h := bif_f hb10 h
   refine c_skip ?_
   refine q_then ?_
   refine c_seq ?_
   refine rg ?_
   refine st (v := (Sl aaCentres_0 aCentres_0 caCentres_0)) (rv_move rfl) ?_
   obtain ⟨r11, hx12, h'⟩ := bind_some h
   clear h
   have h := h'; clear h'
   have hc13 := c_laws_toIntSS (aa_0 := aaCentres_0) (ca_0 := caCentres_0) hx12
   refine st_call (cx_call hc13 (ent_f hc13.fn rfl) hn0 (show Hp S0 σ0 _ ([Ch.ro 0 (Sl aaCentres_0 aCentres_0 caCentres_0) aCentres_0] ++ [Ch.ro 0 (Sl aaCentres_0 aCentres_0 caCentres_0) aCentres_0, Ch.ro 0 (Sl aaList_1 aList_1 caList_1) aList_1]) from (H.sel' [0, 0, 1] rfl rfl))) wn ?_
   rintro _ σ18 ⟨_, ⟨a14, c15, K16, rfl, rfl, hK17⟩, H, -⟩
   replace H : Hp S0 σ0 σ18 [Ch.big K16, Ch.ro 0 (Sl aaCentres_0 aCentres_0 caCentres_0) aCentres_0, Ch.ro 0 (Sl aaList_1 aList_1 caList_1) aList_1] := H
   refine st (v := (Sl aaList_1 aList_1 caList_1)) (rv_move rfl) ?_
   obtain ⟨r19, hx20, h'⟩ := bind_some h
   clear h
   have h := h'; clear h'
   have hc21 := c_laws_toItemS (aa_0 := aaList_1) (ca_0 := caList_1) hx20
   refine st_call (cx_call hc21 (ent_f hc21.fn rfl) hn0 (show Hp S0 σ0 _ ([Ch.ro 0 (Sl aaList_1 aList_1 caList_1) aList_1] ++ [Ch.big K16, Ch.ro 0 (Sl aaCentres_0 aCentres_0 caCentres_0) aCentres_0, Ch.ro 0 (Sl aaList_1 aList_1 caList_1) aList_1]) from (H.sel' [2, 0, 1, 2] rfl rfl))) wn ?_
   rintro _ σ26 ⟨_, ⟨a22, c23, K24, rfl, rfl, hK25⟩, H, -⟩
   replace H : Hp S0 σ0 σ26 [Ch.big K24, Ch.big K16, Ch.ro 0 (Sl aaCentres_0 aCentres_0 caCentres_0) aCentres_0, Ch.ro 0 (Sl aaList_1 aList_1 caList_1) aList_1] := H
   obtain ⟨r27, hx28, h'⟩ := bind_some h
   clear h
   have h := h'; clear h'
   have hc29 := c_spec_SettleCentres (acentres_0 := a14) (ccentres_0 := c15) (alist_1 := a22) (clist_1 := c23) hx28
   have hle := Nat.le_trans hn0 H.size
   refine st_call (cx_lend (Loan.lendB hK17.lends (Loan.lendB hK25.lends Loan.nil)) hc29 (ent_f hc29.fn rfl) (show Hp S0 σ0 _ ([Ch.big K16, Ch.big K24] ++ ([] ++ [Ch.ro 0 (Sl aaCentres_0 aCentres_0 caCentres_0) aCentres_0, Ch.ro 0 (Sl aaList_1 aList_1 caList_1) aList_1])) from (H.sel' [1, 0, 2, 3] rfl rfl)) (by rintro _ _ _ ⟨_, _, rfl, rfl⟩; exact ⟨Ab.own (Nat.le_refl _), trivial⟩)) wn ?_
   rintro _ σ32 ⟨_, ⟨a30, c31, rfl, rfl⟩, H, -, -⟩
   replace H : Hp S0 σ0 σ32 [Ch.own σ26.size σ26.size (Sl a30 r27.1 c31) r27.1, Ch.big K16, Ch.big K24, Ch.ro 0 (Sl aaCentres_0 aCentres_0 caCentres_0) aCentres_0, Ch.ro 0 (Sl aaList_1 aList_1 caList_1) aList_1] := H
   replace H := H.ownLow 0 n0 n0 rfl hle hle
   clear hle
   replace H : Hp S0 σ0 σ32 [Ch.own n0 n0 (Sl a30 r27.1 c31) r27.1, Ch.big K16, Ch.big K24, Ch.ro 0 (Sl aaCentres_0 aCentres_0 caCentres_0) aCentres_0, Ch.ro 0 (Sl aaList_1 aList_1 caList_1) aList_1] := H
   refine st (v := (.tuple #[(Sl a30 r27.1 c31), (I r27.2)])) (rv_move rfl) ?_
   refine st (v := (Sl a30 r27.1 c31)) (rv_extract rfl rfl) ?_
   refine st (v := (I r27.2)) (rv_extract rfl rfl) ?_
   refine st (v := (Sl a30 r27.1 c31)) (rv_assign rfl) ?_
   refine st (v := (I r27.2)) (rv_assign rfl) ?_
   refine w_end ?_
   refine q_then ?_
   refine c_seq ?_
   refine rg ?_
   refine st (v := (Sl aaCentres_0 aCentres_0 caCentres_0)) (rv_move rfl) ?_
   obtain ⟨r33, hx34, h'⟩ := bind_some h
   clear h
   have h := h'; clear h'
   have hc35 := c_laws_toIntSS (aa_0 := aaCentres_0) (ca_0 := caCentres_0) hx34
   refine st_call (cx_call hc35 (ent_f hc35.fn rfl) hn0 (show Hp S0 σ0 _ ([Ch.ro 0 (Sl aaCentres_0 aCentres_0 caCentres_0) aCentres_0] ++ [Ch.own n0 n0 (Sl a30 r27.1 c31) r27.1, Ch.big K16, Ch.big K24, Ch.ro 0 (Sl aaCentres_0 aCentres_0 caCentres_0) aCentres_0, Ch.ro 0 (Sl aaList_1 aList_1 caList_1) aList_1]) from (H.sel' [3, 0, 1, 2, 3, 4] rfl rfl))) wn ?_
   rintro _ σ40 ⟨_, ⟨a36, c37, K38, rfl, rfl, hK39⟩, H, -⟩
   replace H : Hp S0 σ0 σ40 [Ch.big K38, Ch.own n0 n0 (Sl a30 r27.1 c31) r27.1, Ch.big K16, Ch.big K24, Ch.ro 0 (Sl aaCentres_0 aCentres_0 caCentres_0) aCentres_0, Ch.ro 0 (Sl aaList_1 aList_1 caList_1) aList_1] := H
   refine st (v := (Sl a36 r33 c37)) (rv_assign rfl) ?_
   refine w_end ?_
   refine q_then ?_
   refine c_seq ?_
   refine rg ?_
   refine st (v := (Sl aaList_1 aList_1 caList_1)) (rv_move rfl) ?_
   obtain ⟨r41, hx42, h'⟩ := bind_some h
   clear h
   have h := h'; clear h'
   have hc43 := c_laws_toItemS (aa_0 := aaList_1) (ca_0 := caList_1) hx42
   refine st_call (cx_call hc43 (ent_f hc43.fn rfl) hn0 (show Hp S0 σ0 _ ([Ch.ro 0 (Sl aaList_1 aList_1 caList_1) aList_1] ++ [Ch.big K38, Ch.own n0 n0 (Sl a30 r27.1 c31) r27.1, Ch.big K16, Ch.big K24, Ch.ro 0 (Sl aaCentres_0 aCentres_0 caCentres_0) aCentres_0, Ch.ro 0 (Sl aaList_1 aList_1 caList_1) aList_1]) from (H.sel' [5, 0, 1, 2, 3, 4, 5] rfl rfl))) wn ?_
   rintro _ σ48 ⟨_, ⟨a44, c45, K46, rfl, rfl, hK47⟩, H, -⟩
   replace H : Hp S0 σ0 σ48 [Ch.big K46, Ch.big K38, Ch.own n0 n0 (Sl a30 r27.1 c31) r27.1, Ch.big K16, Ch.big K24, Ch.ro 0 (Sl aaCentres_0 aCentres_0 caCentres_0) aCentres_0, Ch.ro 0 (Sl aaList_1 aList_1 caList_1) aList_1] := H
   refine st (v := (Sl a44 r41 c45)) (rv_assign rfl) ?_
   refine w_end ?_
   refine q_then ?_
   refine c_seq ?_
   refine rg ?_
   refine st (v := (Sl a36 r33 c37)) (rv_move rfl) ?_
   refine st (v := (Sl a44 r41 c45)) (rv_move rfl) ?_
   obtain ⟨r49, hx50, h'⟩ := bind_some h
   clear h
   have h := h'; clear h'
   have hc51 := c_impl_SettleCentres (acentres_0 := a36) (ccentres_0 := c37) (alist_1 := a44) (clist_1 := c45) hx50
   have hle := Nat.le_trans hn0 H.size
   refine st_call (cx_lend (Loan.lendB hK39.lends (Loan.lendB hK47.lends Loan.nil)) hc51 (ent_f hc51.fn rfl) (show Hp S0 σ0 _ ([Ch.big K38, Ch.big K46] ++ ([] ++ [Ch.own n0 n0 (Sl a30 r27.1 c31) r27.1, Ch.big K16, Ch.big K24, Ch.ro 0 (Sl aaCentres_0 aCentres_0 caCentres_0) aCentres_0, Ch.ro 0 (Sl aaList_1 aList_1 caList_1) aList_1])) from (H.sel' [1, 0, 2, 3, 4, 5, 6] rfl rfl)) (by rintro _ _ _ ⟨_, _, _, rfl, rfl, hK55, _⟩; exact ⟨Dp.abSc hK55, trivial⟩)) wn ?_
   rintro _ σ57 ⟨_, ⟨a52, c53, K54, rfl, rfl, hK55, ht56⟩, H, -, -⟩
   replace H : Hp S0 σ0 σ57 [Ch.big K54, Ch.big K38, Ch.big K46, Ch.own n0 n0 (Sl a30 r27.1 c31) r27.1, Ch.big K16, Ch.big K24, Ch.ro 0 (Sl aaCentres_0 aCentres_0 caCentres_0) aCentres_0, Ch.ro 0 (Sl aaList_1 aList_1 caList_1) aList_1] := H
   clear hle
   replace H : Hp S0 σ0 σ57 [Ch.big K54, Ch.big K38, Ch.big K46, Ch.own n0 n0 (Sl a30 r27.1 c31) r27.1, Ch.big K16, Ch.big K24, Ch.ro 0 (Sl aaCentres_0 aCentres_0 caCentres_0) aCentres_0, Ch.ro 0 (Sl aaList_1 aList_1 caList_1) aList_1] := H
   replace H : Hp S0 σ0 σ57 [Ch.big K54, Ch.big K38, Ch.big K46, Ch.own n0 n0 (Sl a30 r27.1 c31) r27.1, Ch.ro 0 (Sl aaCentres_0 aCentres_0 caCentres_0) aCentres_0, Ch.ro 0 (Sl aaList_1 aList_1 caList_1) aList_1] := H.sel' [0, 1, 2, 3, 6, 7] rfl rfl
   refine st (v := (.tuple #[(Sl a52 r49.1 c53), (I r49.2)])) (rv_move rfl) ?_
   refine st (v := (Sl a52 r49.1 c53)) (rv_extract rfl rfl) ?_
   refine st (v := (I r49.2)) (rv_extract rfl rfl) ?_
   refine st (v := (Sl a52 r49.1 c53)) (rv_assign rfl) ?_
   refine st (v := (I r49.2)) (rv_assign rfl) ?_
   refine w_end ?_
   refine q_then ?_
   refine c_seq ?_
   refine c_seq ?_
   obtain ⟨o58, hj, h'⟩ := bind_some h
   clear h
   refine c_cut (fun e a w => e = .normal ∧ ∃ (ρ : Nat → Value) (σ : St), a = fr 119 (updL ρ [(0, (Sl aaCentres_0 aCentres_0 caCentres_0)), (1, (Sl aaList_1 aList_1 caList_1)), (6, (Sl a30 r27.1 c31)), (7, (I r27.2)), (8, (Sl a36 r33 c37)), (9, (Sl a44 r41 c45)), (10, (Sl a52 r49.1 c53)), (11, (I r49.2)), (53, (B o58))]) ∧ w = σ.w ∧ Hp S0 σ0 σ [Ch.ro 0 (Sl aaCentres_0 aCentres_0 caCentres_0) aCentres_0, Ch.ro 0 (Sl aaList_1 aList_1 caList_1) aList_1, Ch.own n0 n0 (Sl a30 r27.1 c31) r27.1, Ch.big K38, Ch.big K46, Ch.big K54]) ?_ ?_
   ·clear h'
    rename _ = some o58 => h
    refine rg ?_
    refine st (v := (Sl a52 r49.1 c53)) (rv_move rfl) ?_
    refine st (v := (Sl a30 r27.1 c31)) (rv_move rfl) ?_
    obtain ⟨r59, hx60, h'⟩ := bind_some h
    clear h
    have h := h'; clear h'
    have hc61 := c_laws_eqIntSS (aa_0 := a52) (ca_0 := c53) (ab_1 := a30) (cb_1 := c31) hx60
    have hle := Nat.le_trans hn0 H.size
    refine st_call (cx_lend (Loan.lendB hK55.lends (Loan.lend Loan.nil)) hc61 (ent_f hc61.fn rfl) (show Hp S0 σ0 _ ([Ch.big K54, Ch.own n0 n0 (Sl a30 r27.1 c31) r27.1] ++ ([] ++ [Ch.big K38, Ch.big K46, Ch.ro 0 (Sl aaCentres_0 aCentres_0 caCentres_0) aCentres_0, Ch.ro 0 (Sl aaList_1 aList_1 caList_1) aList_1])) from (H.sel' [0, 3, 1, 2, 4, 5] rfl rfl)) (by rintro _ _ _ ⟨rfl, rfl⟩; exact trivial)) wn ?_
    rintro _ σ62 ⟨_, ⟨rfl, rfl⟩, H, -, -⟩
    replace H : Hp S0 σ0 σ62 [Ch.big K54, Ch.own n0 n0 (Sl a30 r27.1 c31) r27.1, Ch.big K38, Ch.big K46, Ch.ro 0 (Sl aaCentres_0 aCentres_0 caCentres_0) aCentres_0, Ch.ro 0 (Sl aaList_1 aList_1 caList_1) aList_1] := H
    clear hle
    replace H : Hp S0 σ0 σ62 [Ch.big K54, Ch.own n0 n0 (Sl a30 r27.1 c31) r27.1, Ch.big K38, Ch.big K46, Ch.ro 0 (Sl aaCentres_0 aCentres_0 caCentres_0) aCentres_0, Ch.ro 0 (Sl aaList_1 aList_1 caList_1) aList_1] := H
    refine st (v := (B (!r59))) (rv_not rfl) ?_
    refine st (v := (B (!r59))) (rv_move rfl) ?_
    rcases Bool.eq_false_or_eq_true (!r59) with hb63 | hb63
    ·replace h := bif_t hb63 h
     refine st_skip (congrArg some hb63) ?_
     refine st_skip (congrArg some hb63) ?_
     refine st_skip (congrArg some hb63) ?_
     refine st (v := (B true)) (rv_pick_t (congrArg B hb63) rfl) ?_
     refine w_end ?_
     obtain rfl := Option.some.inj h
     exact ⟨rfl, _, σ62, fr_join ⟨rfl, rfl, rfl, rfl, rfl, rfl, rfl, rfl, rfl, trivial⟩, rfl, H.sel' [4, 5, 1, 2, 3, 0] rfl rfl⟩
    ·replace h := bif_f hb63 h
     refine st_g (v := (I r49.2)) (congrArg some hb63) (rv_move rfl) ?_
     refine st_g (v := (I r27.2)) (congrArg some hb63) (rv_move rfl) ?_
     refine st_g (v := (B (r49.2 != r27.2))) (congrArg some hb63) (rv_neq (a := r49.2) (b := r27.2) rfl rfl) ?_
     refine st (v := (B (r49.2 != r27.2))) (rv_pick_f (congrArg B hb63) rfl) ?_
     refine w_end ?_
     obtain rfl := Option.some.inj h
     exact ⟨rfl, _, σ62, fr_join ⟨rfl, rfl, rfl, rfl, rfl, rfl, rfl, rfl, rfl, trivial⟩, rfl, H.sel' [4, 5, 1, 2, 3, 0] rfl rfl⟩
   ·clear hj
    have h := h'
    clear h' H
    rintro e a w ⟨rfl, ρ, σ64, rfl, rfl, H⟩
    refine q_then ?_
    refine cd_cond o58 rfl (fun hb65 => ?_) (fun hb65 => ?_)
    ·replace h := bif_t hb65 h
     refine c_seq ?_
     refine rg ?_
     refine st (v := (B false)) (rv_assign rfl) ?_
     refine w_end ?_
     refine q_then ?_
     refine c_ret ?_
     refine q_then_r ?_
     obtain rfl := Option.some.inj h
     exact fin_ret (v := (B false)) (results_ok Try.results9 (res_tmp (v := (B false)) rfl res_nil) rfl) ⟨rfl, rfl⟩ (H.sel' [] rfl rfl)
    ·replace h := bif_f hb65 h
     refine c_skip ?_
     refine q_then ?_
     refine c_seq ?_
     refine c_seq ?_
     refine rg ?_
     refine st (v := (Sl a36 r33 c37)) (rv_move rfl) ?_
     refine st (v := (Sl aaCentres_0 aCentres_0 caCentres_0)) (rv_move rfl) ?_
     obtain ⟨r66, hx67, h'⟩ := bind_some h
     clear h
     have h := h'; clear h'
     have hc68 := c_laws_toIntSS (aa_0 := aaCentres_0) (ca_0 := caCentres_0) hx67
     refine st_call (cx_call hc68 (ent_f hc68.fn rfl) hn0 (show Hp S0 σ0 _ ([Ch.ro 0 (Sl aaCentres_0 aCentres_0 caCentres_0) aCentres_0] ++ [Ch.ro 0 (Sl aaCentres_0 aCentres_0 caCentres_0) aCentres_0, Ch.ro 0 (Sl aaList_1 aList_1 caList_1) aList_1, Ch.own n0 n0 (Sl a30 r27.1 c31) r27.1, Ch.big K38, Ch.big K46, Ch.big K54]) from (H.sel' [0, 0, 1, 2, 3, 4, 5] rfl rfl))) wn ?_
     rintro _ σ73 ⟨_, ⟨a69, c70, K71, rfl, rfl, hK72⟩, H, -⟩
     replace H : Hp S0 σ0 σ73 [Ch.big K71, Ch.ro 0 (Sl aaCentres_0 aCentres_0 caCentres_0) aCentres_0, Ch.ro 0 (Sl aaList_1 aList_1 caList_1) aList_1, Ch.own n0 n0 (Sl a30 r27.1 c31) r27.1, Ch.big K38, Ch.big K46, Ch.big K54] := H
     obtain ⟨r74, hx75, h'⟩ := bind_some h
     clear h
     have h := h'; clear h'
     have hc76 := c_laws_eqIntSS (aa_0 := a36) (ca_0 := c37) (ab_1 := a69) (cb_1 := c70) hx75
     have hle := Nat.le_trans hn0 H.size
     refine st_call (cx_lend (Loan.lendB hK39.lends (Loan.lendB hK72.lends Loan.nil)) hc76 (ent_f hc76.fn rfl) (show Hp S0 σ0 _ ([Ch.big K38, Ch.big K71] ++ ([] ++ [Ch.ro 0 (Sl aaCentres_0 aCentres_0 caCentres_0) aCentres_0, Ch.ro 0 (Sl aaList_1 aList_1 caList_1) aList_1, Ch.own n0 n0 (Sl a30 r27.1 c31) r27.1, Ch.big K46, Ch.big K54])) from (H.sel' [4, 0, 1, 2, 3, 5, 6] rfl rfl)) (by rintro _ _ _ ⟨rfl, rfl⟩; exact trivial)) wn ?_
     rintro _ σ77 ⟨_, ⟨rfl, rfl⟩, H, -, -⟩
     replace H : Hp S0 σ0 σ77 [Ch.big K38, Ch.big K71, Ch.ro 0 (Sl aaCentres_0 aCentres_0 caCentres_0) aCentres_0, Ch.ro 0 (Sl aaList_1 aList_1 caList_1) aList_1, Ch.own n0 n0 (Sl a30 r27.1 c31) r27.1, Ch.big K46, Ch.big K54] := H
     clear hle
     replace H : Hp S0 σ0 σ77 [Ch.big K38, Ch.big K71, Ch.ro 0 (Sl aaCentres_0 aCentres_0 caCentres_0) aCentres_0, Ch.ro 0 (Sl aaList_1 aList_1 caList_1) aList_1, Ch.own n0 n0 (Sl a30 r27.1 c31) r27.1, Ch.big K46, Ch.big K54] := H
     refine st (v := (B (!r74))) (rv_not rfl) ?_
     refine w_end ?_
     refine q_then ?_
     refine cd_cond (!r74) rfl (fun hb78 => ?_) (fun hb78 => ?_)
     ·replace h := bif_t hb78 h
      refine c_seq ?_
      refine rg ?_
      refine st (v := (B false)) (rv_assign rfl) ?_
      refine w_end ?_
      refine q_then ?_
      refine c_ret ?_
      refine q_then_r ?_
      obtain rfl := Option.some.inj h
      exact fin_ret (v := (B false)) (results_ok Try.results9 (res_tmp (v := (B false)) rfl res_nil) rfl) ⟨rfl, rfl⟩ (H.sel' [] rfl rfl)
     ·replace h := bif_f hb78 h
      refine c_skip ?_
      refine q_then ?_
      refine c_seq ?_
      refine c_seq ?_
      refine rg ?_
      refine st (v := (Sl a44 r41 c45)) (rv_move rfl) ?_
      refine st (v := (Sl aaList_1 aList_1 caList_1)) (rv_move rfl) ?_
      obtain ⟨r79, hx80, h'⟩ := bind_some h
      clear h
      have h := h'; clear h'
      have hc81 := c_laws_toItemS (aa_0 := aaList_1) (ca_0 := caList_1) hx80
      refine st_call (cx_call hc81 (ent_f hc81.fn rfl) hn0 (show Hp S0 σ0 _ ([Ch.ro 0 (Sl aaList_1 aList_1 caList_1) aList_1] ++ [Ch.big K38, Ch.big K71, Ch.ro 0 (Sl aaCentres_0 aCentres_0 caCentres_0) aCentres_0, Ch.ro 0 (Sl aaList_1 aList_1 caList_1) aList_1, Ch.own n0 n0 (Sl a30 r27.1 c31) r27.1, Ch.big K46, Ch.big K54]) from (H.sel' [3, 0, 1, 2, 3, 4, 5, 6] rfl rfl))) wn ?_
      rintro _ σ86 ⟨_, ⟨a82, c83, K84, rfl, rfl, hK85⟩, H, -⟩
      replace H : Hp S0 σ0 σ86 [Ch.big K84, Ch.big K38, Ch.big K71, Ch.ro 0 (Sl aaCentres_0 aCentres_0 caCentres_0) aCentres_0, Ch.ro 0 (Sl aaList_1 aList_1 caList_1) aList_1, Ch.own n0 n0 (Sl a30 r27.1 c31) r27.1, Ch.big K46, Ch.big K54] := H
      replace H : Hp S0 σ0 σ86 [Ch.big K84, Ch.big K38, Ch.ro 0 (Sl aaCentres_0 aCentres_0 caCentres_0) aCentres_0, Ch.ro 0 (Sl aaList_1 aList_1 caList_1) aList_1, Ch.own n0 n0 (Sl a30 r27.1 c31) r27.1, Ch.big K46, Ch.big K54] := H.sel' [0, 1, 3, 4, 5, 6, 7] rfl rfl
      obtain ⟨r87, hx88, h'⟩ := bind_some h
      clear h
      have h := h'; clear h'
      have hc89 := c_laws_eqItemS (aa_0 := a44) (ca_0 := c45) (ab_1 := a82) (cb_1 := c83) hx88
      have hle := Nat.le_trans hn0 H.size
      refine st_call (cx_lend (Loan.lendB hK47.lends (Loan.lendB hK85.lends Loan.nil)) hc89 (ent_f hc89.fn rfl) (show Hp S0 σ0 _ ([Ch.big K46, Ch.big K84] ++ ([] ++ [Ch.big K38, Ch.ro 0 (Sl aaCentres_0 aCentres_0 caCentres_0) aCentres_0, Ch.ro 0 (Sl aaList_1 aList_1 caList_1) aList_1, Ch.own n0 n0 (Sl a30 r27.1 c31) r27.1, Ch.big K54])) from (H.sel' [5, 0, 1, 2, 3, 4, 6] rfl rfl)) (by rintro _ _ _ ⟨rfl, rfl⟩; exact trivial)) wn ?_
      rintro _ σ90 ⟨_, ⟨rfl, rfl⟩, H, -, -⟩
      replace H : Hp S0 σ0 σ90 [Ch.big K46, Ch.big K84, Ch.big K38, Ch.ro 0 (Sl aaCentres_0 aCentres_0 caCentres_0) aCentres_0, Ch.ro 0 (Sl aaList_1 aList_1 caList_1) aList_1, Ch.own n0 n0 (Sl a30 r27.1 c31) r27.1, Ch.big K54] := H
      clear hle
      replace H : Hp S0 σ0 σ90 [Ch.big K46, Ch.big K84, Ch.big K38, Ch.ro 0 (Sl aaCentres_0 aCentres_0 caCentres_0) aCentres_0, Ch.ro 0 (Sl aaList_1 aList_1 caList_1) aList_1, Ch.own n0 n0 (Sl a30 r27.1 c31) r27.1, Ch.big K54] := H
      refine st (v := (B (!r87))) (rv_not rfl) ?_
      refine w_end ?_
      refine q_then ?_
      refine cd_cond (!r87) rfl (fun hb91 => ?_) (fun hb91 => ?_)
      ·replace h := bif_t hb91 h
       refine c_seq ?_
       refine rg ?_
       refine st (v := (B false)) (rv_assign rfl) ?_
       refine w_end ?_
       refine q_then ?_
       refine c_ret ?_
       refine q_then_r ?_
       obtain rfl := Option.some.inj h
       exact fin_ret (v := (B false)) (results_ok Try.results9 (res_tmp (v := (B false)) rfl res_nil) rfl) ⟨rfl, rfl⟩ (H.sel' [] rfl rfl)
      ·replace h := bif_f hb91 h
       refine c_skip ?_
       refine q_then ?_
       refine c_seq ?_
       refine rg ?_
       refine st (v := (I 1)) (rv_assign rfl) ?_
       refine w_end ?_
       refine q_then ?_
       refine c_seq ?_
       refine rg ?_
       refine st (v := (Sl a36 r33 c37)) (rv_move rfl) ?_
       refine st (v := (I 1)) (rv_move rfl) ?_
       obtain ⟨r92, hx93, h'⟩ := bind_some h
       clear h
       have h := h'; clear h'
       have hc94 := c_laws_markIntSS (aa_0 := a36) (ca_0 := c37) (hK := hK39) hx93
       refine st_call (cx_call hc94 (ent_f hc94.fn rfl) hn0 (show Hp S0 σ0 _ ([Ch.big K38] ++ [Ch.big K46, Ch.big K84, Ch.ro 0 (Sl aaCentres_0 aCentres_0 caCentres_0) aCentres_0, Ch.ro 0 (Sl aaList_1 aList_1 caList_1) aList_1, Ch.own n0 n0 (Sl a30 r27.1 c31) r27.1, Ch.big K54]) from (H.sel' [2, 0, 1, 3, 4, 5, 6] rfl rfl))) wn ?_
       rintro _ σ96 ⟨_, ⟨rfl, rfl, hn95⟩, H, -⟩
       replace H : Hp S0 σ0 σ96 [Ch.ro 0 (Sl a36 r92.2 c37) r92.2, Ch.big K46, Ch.big K84, Ch.ro 0 (Sl aaCentres_0 aCentres_0 caCentres_0) aCentres_0, Ch.ro 0 (Sl aaList_1 aList_1 caList_1) aList_1, Ch.own n0 n0 (Sl a30 r27.1 c31) r27.1, Ch.big K54] := H
       have hsl : (Sl a36 r33 c37) = (Sl a36 r92.2 c37) := sl_len hn95.symm
       try rw [hsl]
       try rw [hsl] at H
       clear hsl
       refine st (v := (I r92.1)) (rv_assign rfl) ?_
       refine w_end ?_
       refine q_then ?_
       refine c_seq ?_
       refine rg ?_
       refine st (v := (Sl a44 r41 c45)) (rv_move rfl) ?_
       refine st (v := (I r92.1)) (rv_move rfl) ?_
       obtain ⟨r97, hx98, h'⟩ := bind_some h
       clear h
       have h := h'; clear h'
       have hc99 := c_laws_markItemS (aa_0 := a44) (ca_0 := c45) (hK := hK47) hx98
       refine st_call (cx_call hc99 (ent_f hc99.fn rfl) hn0 (show Hp S0 σ0 _ ([Ch.big K46] ++ [Ch.ro 0 (Sl a36 r92.2 c37) r92.2, Ch.big K84, Ch.ro 0 (Sl aaCentres_0 aCentres_0 caCentres_0) aCentres_0, Ch.ro 0 (Sl aaList_1 aList_1 caList_1) aList_1, Ch.own n0 n0 (Sl a30 r27.1 c31) r27.1, Ch.big K54]) from (H.sel' [1, 0, 2, 3, 4, 5, 6] rfl rfl))) wn ?_
       rintro _ σ100 ⟨_, ⟨rfl, rfl⟩, H, -⟩
       replace H : Hp S0 σ0 σ100 [Ch.ro 0 (Sl a36 r92.2 c37) r92.2, Ch.big K84, Ch.ro 0 (Sl aaCentres_0 aCentres_0 caCentres_0) aCentres_0, Ch.ro 0 (Sl aaList_1 aList_1 caList_1) aList_1, Ch.own n0 n0 (Sl a30 r27.1 c31) r27.1, Ch.big K54] := H
       refine st (v := (I r97)) (rv_assign rfl) ?_
       refine w_end ?_
       refine q_then ?_
       refine c_seq ?_
       refine c_seq ?_
       obtain ⟨o101, hj, h'⟩ := bind_some h
       clear h
       refine c_cut (fun e a w => e = .normal ∧ ∃ (ρ : Nat → Value) (σ : St), a = fr 119 (updL ρ [(0, (Sl aaCentres_0 aCentres_0 caCentres_0)), (1, (Sl aaList_1 aList_1 caList_1)), (6, (Sl a30 r27.1 c31)), (7, (I r27.2)), (10, (Sl a52 r49.1 c53)), (82, (B o101))]) ∧ w = σ.w ∧ Hp S0 σ0 σ [Ch.ro 0 (Sl aaCentres_0 aCentres_0 caCentres_0) aCentres_0, Ch.ro 0 (Sl aaList_1 aList_1 caList_1) aList_1, Ch.own n0 n0 (Sl a30 r27.1 c31) r27.1, Ch.big K54]) ?_ ?_
       ·clear h'
        rename _ = some o101 => h
        refine rg ?_
        refine st (v := (I r97)) (rv_move rfl) ?_
        refine st (v := (B (decide (r97 < 0)))) (rv_lss (a := r97) (b := 0) rfl rfl) ?_
        refine st (v := (B (decide (r97 < 0)))) (rv_move rfl) ?_
        rcases Bool.eq_false_or_eq_true (decide (r97 < 0)) with hb102 | hb102
        ·replace h := bif_t hb102 h
         refine st_skip (congrArg some hb102) ?_
         refine st_skip (congrArg some hb102) ?_
         refine st_skip (congrArg some hb102) ?_
         refine st_skip (congrArg some hb102) ?_
         refine st (v := (B true)) (rv_pick_t (congrArg B hb102) rfl) ?_
         refine st (v := (B true)) (rv_move rfl) ?_
         refine st_skip rfl ?_
         refine st_skip rfl ?_
         refine st_skip rfl ?_
         refine st (v := (B true)) (rv_pick_t rfl rfl) ?_
         refine w_end ?_
         obtain rfl := Option.some.inj h
         exact ⟨rfl, _, σ100, fr_join ⟨rfl, rfl, rfl, rfl, rfl, rfl, trivial⟩, rfl, H.sel' [2, 3, 4, 5] rfl rfl⟩
        ·replace h := bif_f hb102 h
         refine st_g (v := (Sl a52 r49.1 c53)) (congrArg some hb102) (rv_move rfl) ?_
         refine st_g (v := (Sl a30 r27.1 c31)) (congrArg some hb102) (rv_move rfl) ?_
         obtain ⟨r103, hx104, h'⟩ := bind_some h
         clear h
         have h := h'; clear h'
         have hc105 := c_laws_eqIntSS (aa_0 := a52) (ca_0 := c53) (ab_1 := a30) (cb_1 := c31) hx104
         have hle := Nat.le_trans hn0 H.size
         refine st_call (cx_lend (Loan.lendB hK55.lends (Loan.lend Loan.nil)) hc105 (ent_f hc105.fn rfl) (show Hp S0 σ0 _ ([Ch.big K54, Ch.own n0 n0 (Sl a30 r27.1 c31) r27.1] ++ ([] ++ [Ch.ro 0 (Sl a36 r92.2 c37) r92.2, Ch.big K84, Ch.ro 0 (Sl aaCentres_0 aCentres_0 caCentres_0) aCentres_0, Ch.ro 0 (Sl aaList_1 aList_1 caList_1) aList_1])) from (H.sel' [5, 4, 0, 1, 2, 3] rfl rfl)) (by rintro _ _ _ ⟨rfl, rfl⟩; exact trivial)) (wanted_yes rfl (by exact (congrArg some hb102))) ?_
         rintro _ σ106 ⟨_, ⟨rfl, rfl⟩, H, -, -⟩
         replace H : Hp S0 σ0 σ106 [Ch.big K54, Ch.own n0 n0 (Sl a30 r27.1 c31) r27.1, Ch.ro 0 (Sl a36 r92.2 c37) r92.2, Ch.big K84, Ch.ro 0 (Sl aaCentres_0 aCentres_0 caCentres_0) aCentres_0, Ch.ro 0 (Sl aaList_1 aList_1 caList_1) aList_1] := H
         clear hle
         replace H : Hp S0 σ0 σ106 [Ch.big K54, Ch.own n0 n0 (Sl a30 r27.1 c31) r27.1, Ch.ro 0 (Sl a36 r92.2 c37) r92.2, Ch.big K84, Ch.ro 0 (Sl aaCentres_0 aCentres_0 caCentres_0) aCentres_0, Ch.ro 0 (Sl aaList_1 aList_1 caList_1) aList_1] := H
         refine st_g (v := (B (!r103))) (congrArg some hb102) (rv_not rfl) ?_
         refine st (v := (B (!r103))) (rv_pick_f (congrArg B hb102) rfl) ?_
         refine st (v := (B (!r103))) (rv_move rfl) ?_
         rcases Bool.eq_false_or_eq_true (!r103) with hb107 | hb107
         ·replace h := bif_t hb107 h
          refine st_skip (congrArg some hb107) ?_
          refine st_skip (congrArg some hb107) ?_
          refine st_skip (congrArg some hb107) ?_
          refine st (v := (B true)) (rv_pick_t (congrArg B hb107) rfl) ?_
          refine w_end ?_
          obtain rfl := Option.some.inj h
          exact ⟨rfl, _, σ106, fr_join ⟨rfl, rfl, rfl, rfl, rfl, rfl, trivial⟩, rfl, H.sel' [4, 5, 1, 0] rfl rfl⟩
         ·replace h := bif_f hb107 h
          refine st_g (v := (I r49.2)) (congrArg some hb107) (rv_move rfl) ?_
          refine st_g (v := (I r27.2)) (congrArg some hb107) (rv_move rfl) ?_
          refine st_g (v := (B (r49.2 != r27.2))) (congrArg some hb107) (rv_neq (a := r49.2) (b := r27.2) rfl rfl) ?_
          refine st (v := (B (r49.2 != r27.2))) (rv_pick_f (congrArg B hb107) rfl) ?_
          refine w_end ?_
          obtain rfl := Option.some.inj h
          exact ⟨rfl, _, σ106, fr_join ⟨rfl, rfl, rfl, rfl, rfl, rfl, trivial⟩, rfl, H.sel' [4, 5, 1, 0] rfl rfl⟩
       ·clear hj
        have h := h'
        clear h' H
        rintro e a w ⟨rfl, ρ, σ108, rfl, rfl, H⟩
        refine q_then ?_
        refine cd_cond o101 rfl (fun hb109 => ?_) (fun hb109 => ?_)
        ·replace h := bif_t hb109 h
         refine c_seq ?_
         refine rg ?_
         refine st (v := (B false)) (rv_assign rfl) ?_
         refine w_end ?_
         refine q_then ?_
         refine c_ret ?_
         refine q_then_r ?_
         obtain rfl := Option.some.inj h
         exact fin_ret (v := (B false)) (results_ok Try.results9 (res_tmp (v := (B false)) rfl res_nil) rfl) ⟨rfl, rfl⟩ (H.sel' [] rfl rfl)
        ·replace h := bif_f hb109 h
         refine c_skip ?_
         refine q_then ?_
         refine c_seq ?_
         refine rg ?_
         refine st (v := (I 1)) (rv_assign rfl) ?_
         refine w_end ?_
         refine q_then ?_
         refine c_seq ?_
         refine rg ?_
         refine st (v := (Sl a52 r49.1 c53)) (rv_move rfl) ?_
         refine st (v := (I 1)) (rv_move rfl) ?_
         obtain ⟨r110, hx111, h'⟩ := bind_some h
         clear h
         have h := h'; clear h'
         have hc112 := c_laws_markIntSS (aa_0 := a52) (ca_0 := c53) (hK := hK55) hx111
         refine st_call (cx_call hc112 (ent_f hc112.fn rfl) hn0 (show Hp S0 σ0 _ ([Ch.big K54] ++ [Ch.ro 0 (Sl aaCentres_0 aCentres_0 caCentres_0) aCentres_0, Ch.ro 0 (Sl aaList_1 aList_1 caList_1) aList_1, Ch.own n0 n0 (Sl a30 r27.1 c31) r27.1]) from (H.sel' [3, 0, 1, 2] rfl rfl))) wn ?_
         rintro _ σ114 ⟨_, ⟨rfl, rfl, hn113⟩, H, -⟩
         replace H : Hp S0 σ0 σ114 [Ch.ro 0 (Sl a52 r110.2 c53) r110.2, Ch.ro 0 (Sl aaCentres_0 aCentres_0 caCentres_0) aCentres_0, Ch.ro 0 (Sl aaList_1 aList_1 caList_1) aList_1, Ch.own n0 n0 (Sl a30 r27.1 c31) r27.1] := H
         have hsl : (Sl a52 r49.1 c53) = (Sl a52 r110.2 c53) := sl_len hn113.symm
         try rw [hsl]
         try rw [hsl] at H
         clear hsl
         refine st (v := (I r110.1)) (rv_assign rfl) ?_
         refine w_end ?_
         refine q_then ?_
         refine c_seq ?_
         refine rg ?_
         refine st (v := (I 1)) (rv_assign rfl) ?_
         refine w_end ?_
         refine q_then ?_
         refine c_seq ?_
         refine rg ?_
         refine st (v := (Sl a52 r110.2 c53)) (rv_move rfl) ?_
         refine st (v := (I 1)) (rv_move rfl) ?_
         obtain ⟨r115, hx116, h'⟩ := bind_some h
         clear h
         have h := h'; clear h'
         have hc117 := c_laws_heldIntSS (aa_0 := a52) (ca_0 := c53) hx116
         refine st_call (cx_call hc117 (ent_f hc117.fn rfl) hn0 (show Hp S0 σ0 _ ([Ch.ro 0 (Sl a52 r110.2 c53) r110.2] ++ [Ch.ro 0 (Sl a52 r110.2 c53) r110.2, Ch.ro 0 (Sl aaCentres_0 aCentres_0 caCentres_0) aCentres_0, Ch.ro 0 (Sl aaList_1 aList_1 caList_1) aList_1, Ch.own n0 n0 (Sl a30 r27.1 c31) r27.1]) from (H.sel' [0, 0, 1, 2, 3] rfl rfl))) wn ?_
         rintro _ σ118 ⟨_, ⟨rfl, rfl⟩, H, -⟩
         replace H : Hp S0 σ0 σ118 [Ch.ro 0 (Sl a52 r110.2 c53) r110.2, Ch.ro 0 (Sl aaCentres_0 aCentres_0 caCentres_0) aCentres_0, Ch.ro 0 (Sl aaList_1 aList_1 caList_1) aList_1, Ch.own n0 n0 (Sl a30 r27.1 c31) r27.1] := H
         refine st (v := (I r115)) (rv_assign rfl) ?_
         refine w_end ?_
         refine q_then ?_
         refine c_seq ?_
         refine c_seq ?_
         refine rg ?_
         refine st (v := (I r115)) (rv_move rfl) ?_
         refine st (v := (B (decide (r115 < 0)))) (rv_lss (a := r115) (b := 0) rfl rfl) ?_
         refine w_end ?_
         refine q_then ?_
         refine cd_cond (decide (r115 < 0)) rfl (fun hb119 => ?_) (fun hb119 => ?_)
         ·replace h := bif_t hb119 h
          refine c_seq ?_
          refine rg ?_
          refine st (v := (B false)) (rv_assign rfl) ?_
          refine w_end ?_
          refine q_then ?_
          refine c_ret ?_
          refine q_then_r ?_
          obtain rfl := Option.some.inj h
          exact fin_ret (v := (B false)) (results_ok Try.results9 (res_tmp (v := (B false)) rfl res_nil) rfl) ⟨rfl, rfl⟩ (H.sel' [] rfl rfl)
         ·replace h := bif_f hb119 h
          refine c_skip ?_
          refine q_then ?_
          refine c_seq ?_
          refine c_seq ?_
          refine rg ?_
          refine st (v := (I r115)) (rv_move rfl) ?_
          refine st (v := (I r110.1)) (rv_move rfl) ?_
          refine st (v := (B (r115 != r110.1))) (rv_neq (a := r115) (b := r110.1) rfl rfl) ?_
          refine w_end ?_
          refine q_then ?_
          refine cd_cond (r115 != r110.1) rfl (fun hb120 => ?_) (fun hb120 => ?_)
          ·replace h := bif_t hb120 h
           refine c_seq ?_
           refine rg ?_
           refine st (v := (B false)) (rv_assign rfl) ?_
           refine w_end ?_
           refine q_then ?_
           refine c_ret ?_
           refine q_then_r ?_
           obtain rfl := Option.some.inj h
           exact fin_ret (v := (B false)) (results_ok Try.results9 (res_tmp (v := (B false)) rfl res_nil) rfl) ⟨rfl, rfl⟩ (H.sel' [] rfl rfl)
          ·replace h := bif_f hb120 h
           refine c_skip ?_
           refine q_then ?_
           refine c_seq ?_
           refine rg ?_
           refine st (v := (Sl aaCentres_0 aCentres_0 caCentres_0)) (rv_move rfl) ?_
           obtain ⟨r121, hx122, h'⟩ := bind_some h
           clear h
           have h := h'; clear h'
           have hc123 := c_laws_toIntSS (aa_0 := aaCentres_0) (ca_0 := caCentres_0) hx122
           refine st_call (cx_call hc123 (ent_f hc123.fn rfl) hn0 (show Hp S0 σ0 _ ([Ch.ro 0 (Sl aaCentres_0 aCentres_0 caCentres_0) aCentres_0] ++ [Ch.ro 0 (Sl a52 r110.2 c53) r110.2, Ch.ro 0 (Sl aaCentres_0 aCentres_0 caCentres_0) aCentres_0, Ch.ro 0 (Sl aaList_1 aList_1 caList_1) aList_1, Ch.own n0 n0 (Sl a30 r27.1 c31) r27.1]) from (H.sel' [1, 0, 1, 2, 3] rfl rfl))) wn ?_
           rintro _ σ128 ⟨_, ⟨a124, c125, K126, rfl, rfl, hK127⟩, H, -⟩
           replace H : Hp S0 σ0 σ128 [Ch.big K126, Ch.ro 0 (Sl a52 r110.2 c53) r110.2, Ch.ro 0 (Sl aaCentres_0 aCentres_0 caCentres_0) aCentres_0, Ch.ro 0 (Sl aaList_1 aList_1 caList_1) aList_1, Ch.own n0 n0 (Sl a30 r27.1 c31) r27.1] := H
           refine st (v := (Sl aaList_1 aList_1 caList_1)) (rv_move rfl) ?_
           obtain ⟨r129, hx130, h'⟩ := bind_some h
           clear h
           have h := h'; clear h'
           have hc131 := c_laws_toItemS (aa_0 := aaList_1) (ca_0 := caList_1) hx130
           refine st_call (cx_call hc131 (ent_f hc131.fn rfl) hn0 (show Hp S0 σ0 _ ([Ch.ro 0 (Sl aaList_1 aList_1 caList_1) aList_1] ++ [Ch.big K126, Ch.ro 0 (Sl a52 r110.2 c53) r110.2, Ch.ro 0 (Sl aaCentres_0 aCentres_0 caCentres_0) aCentres_0, Ch.ro 0 (Sl aaList_1 aList_1 caList_1) aList_1, Ch.own n0 n0 (Sl a30 r27.1 c31) r27.1]) from (H.sel' [3, 0, 1, 2, 3, 4] rfl rfl))) wn ?_
           rintro _ σ136 ⟨_, ⟨a132, c133, K134, rfl, rfl, hK135⟩, H, -⟩
           replace H : Hp S0 σ0 σ136 [Ch.big K134, Ch.big K126, Ch.ro 0 (Sl a52 r110.2 c53) r110.2, Ch.ro 0 (Sl aaCentres_0 aCentres_0 caCentres_0) aCentres_0, Ch.ro 0 (Sl aaList_1 aList_1 caList_1) aList_1, Ch.own n0 n0 (Sl a30 r27.1 c31) r27.1] := H
           obtain ⟨r137, hx138, h'⟩ := bind_some h
           clear h
           have h := h'; clear h'
           have hc139 := c_impl_SettleCentres (acentres_0 := a124) (ccentres_0 := c125) (alist_1 := a132) (clist_1 := c133) hx138
           have hle := Nat.le_trans hn0 H.size
           refine st_call (cx_lend (Loan.lendB hK127.lends (Loan.lendB hK135.lends Loan.nil)) hc139 (ent_f hc139.fn rfl) (show Hp S0 σ0 _ ([Ch.big K126, Ch.big K134] ++ ([] ++ [Ch.ro 0 (Sl a52 r110.2 c53) r110.2, Ch.ro 0 (Sl aaCentres_0 aCentres_0 caCentres_0) aCentres_0, Ch.ro 0 (Sl aaList_1 aList_1 caList_1) aList_1, Ch.own n0 n0 (Sl a30 r27.1 c31) r27.1])) from (H.sel' [1, 0, 2, 3, 4, 5] rfl rfl)) (by rintro _ _ _ ⟨_, _, _, rfl, rfl, hK143, _⟩; exact ⟨Dp.abSc hK143, trivial⟩)) wn ?_
           rintro _ σ145 ⟨_, ⟨a140, c141, K142, rfl, rfl, hK143, ht144⟩, H, -, -⟩
           replace H : Hp S0 σ0 σ145 [Ch.big K142, Ch.big K126, Ch.big K134, Ch.ro 0 (Sl a52 r110.2 c53) r110.2, Ch.ro 0 (Sl aaCentres_0 aCentres_0 caCentres_0) aCentres_0, Ch.ro 0 (Sl aaList_1 aList_1 caList_1) aList_1, Ch.own n0 n0 (Sl a30 r27.1 c31) r27.1] := H
           clear hle
           replace H : Hp S0 σ0 σ145 [Ch.big K142, Ch.big K126, Ch.big K134, Ch.ro 0 (Sl a52 r110.2 c53) r110.2, Ch.ro 0 (Sl aaCentres_0 aCentres_0 caCentres_0) aCentres_0, Ch.ro 0 (Sl aaList_1 aList_1 caList_1) aList_1, Ch.own n0 n0 (Sl a30 r27.1 c31) r27.1] := H
           refine st (v := (.tuple #[(Sl a140 r137.1 c141), (I r137.2)])) (rv_move rfl) ?_
           refine st (v := (Sl a140 r137.1 c141)) (rv_extract rfl rfl) ?_
           refine st (v := (I r137.2)) (rv_extract rfl rfl) ?_
           refine st (v := (Sl a140 r137.1 c141)) (rv_assign rfl) ?_
           refine st (v := (I r137.2)) (rv_assign rfl) ?_
           refine w_end ?_
           refine q_then ?_
           refine c_seq ?_
           refine c_seq ?_
           obtain ⟨o146, hj, h'⟩ := bind_some h
           clear h
           refine c_cut (fun e a w => e = .normal ∧ ∃ (ρ : Nat → Value) (σ : St), a = fr 119 (updL ρ [(10, (Sl a52 r110.2 c53)), (13, (I r110.1)), (110, (B o146))]) ∧ w = σ.w ∧ Hp S0 σ0 σ [Ch.ro 0 (Sl a52 r110.2 c53) r110.2]) ?_ ?_
           ·clear h'
            rename _ = some o146 => h
            refine rg ?_
            refine st (v := (Sl a140 r137.1 c141)) (rv_move rfl) ?_
            refine st (v := (Sl a30 r27.1 c31)) (rv_move rfl) ?_
            obtain ⟨σ147, hw148, H, -⟩ := H.pub 6 rfl (Nat.le_refl _)
            rw [← hw148]; clear hw148
            replace H := H.roLow 0 0 rfl (Nat.zero_le _)
            obtain ⟨r149, hx150, h'⟩ := bind_some h
            clear h
            have h := h'; clear h'
            have hc151 := c_laws_eqIntSS (aa_0 := a140) (ca_0 := c141) (ab_1 := a30) (cb_1 := c31) hx150
            have hle := Nat.le_trans hn0 H.size
            refine st_call (cx_lend (Loan.lendB hK143.lends (Loan.same Loan.nil)) hc151 (ent_f hc151.fn rfl) (show Hp S0 σ0 _ ([Ch.big K142] ++ ([Ch.ro 0 (Sl a30 r27.1 c31) r27.1] ++ [Ch.ro 0 (Sl a30 r27.1 c31) r27.1, Ch.ro n0 (Sl a30 r27.1 c31) r27.1, Ch.big K126, Ch.big K134, Ch.ro 0 (Sl a52 r110.2 c53) r110.2, Ch.ro 0 (Sl aaCentres_0 aCentres_0 caCentres_0) aCentres_0, Ch.ro 0 (Sl aaList_1 aList_1 caList_1) aList_1])) from (H.sel' [2, 0, 0, 1, 3, 4, 5, 6, 7] rfl rfl)) (by rintro _ _ _ ⟨rfl, rfl⟩; exact trivial)) wn ?_
            rintro _ σ152 ⟨_, ⟨rfl, rfl⟩, H, -, -⟩
            replace H : Hp S0 σ0 σ152 [Ch.big K142, Ch.ro 0 (Sl a30 r27.1 c31) r27.1, Ch.ro n0 (Sl a30 r27.1 c31) r27.1, Ch.big K126, Ch.big K134, Ch.ro 0 (Sl a52 r110.2 c53) r110.2, Ch.ro 0 (Sl aaCentres_0 aCentres_0 caCentres_0) aCentres_0, Ch.ro 0 (Sl aaList_1 aList_1 caList_1) aList_1] := H
            clear hle
            replace H : Hp S0 σ0 σ152 [Ch.big K142, Ch.ro 0 (Sl a30 r27.1 c31) r27.1, Ch.ro n0 (Sl a30 r27.1 c31) r27.1, Ch.big K126, Ch.big K134, Ch.ro 0 (Sl a52 r110.2 c53) r110.2, Ch.ro 0 (Sl aaCentres_0 aCentres_0 caCentres_0) aCentres_0, Ch.ro 0 (Sl aaList_1 aList_1 caList_1) aList_1] := H
            replace H : Hp S0 σ0 σ152 [Ch.ro 0 (Sl a52 r110.2 c53) r110.2] := H.sel' [5] rfl rfl
            refine st (v := (B (!r149))) (rv_not rfl) ?_
            refine st (v := (B (!r149))) (rv_move rfl) ?_
            rcases Bool.eq_false_or_eq_true (!r149) with hb153 | hb153
            ·replace h := bif_t hb153 h
             refine st_skip (congrArg some hb153) ?_
             refine st_skip (congrArg some hb153) ?_
             refine st_skip (congrArg some hb153) ?_
             refine st (v := (B true)) (rv_pick_t (congrArg B hb153) rfl) ?_
             refine w_end ?_
             obtain rfl := Option.some.inj h
             exact ⟨rfl, _, σ152, fr_join ⟨rfl, rfl, rfl, trivial⟩, rfl, H.sel' [0] rfl rfl⟩
            ·replace h := bif_f hb153 h
             refine st_g (v := (I r137.2)) (congrArg some hb153) (rv_move rfl) ?_
             refine st_g (v := (I r27.2)) (congrArg some hb153) (rv_move rfl) ?_
             refine st_g (v := (B (r137.2 != r27.2))) (congrArg some hb153) (rv_neq (a := r137.2) (b := r27.2) rfl rfl) ?_
             refine st (v := (B (r137.2 != r27.2))) (rv_pick_f (congrArg B hb153) rfl) ?_
             refine w_end ?_
             obtain rfl := Option.some.inj h
             exact ⟨rfl, _, σ152, fr_join ⟨rfl, rfl, rfl, trivial⟩, rfl, H.sel' [0] rfl rfl⟩
           ·clear hj
            have h := h'
            clear h' H
            rintro e a w ⟨rfl, ρ, σ154, rfl, rfl, H⟩
            refine q_then ?_
            refine cd_cond o146 rfl (fun hb155 => ?_) (fun hb155 => ?_)
            ·replace h := bif_t hb155 h
             refine c_seq ?_
             refine rg ?_
             refine st (v := (B false)) (rv_assign rfl) ?_
             refine w_end ?_
             refine q_then ?_
             refine c_ret ?_
             refine q_then_r ?_
             obtain rfl := Option.some.inj h
             exact fin_ret (v := (B false)) (results_ok Try.results9 (res_tmp (v := (B false)) rfl res_nil) rfl) ⟨rfl, rfl⟩ (H.sel' [] rfl rfl)
            ·replace h := bif_f hb155 h
             refine c_skip ?_
             refine q_then ?_
             refine c_seq ?_
             refine rg ?_
             refine st (v := (I 1)) (rv_assign rfl) ?_
             refine w_end ?_
             refine q_then ?_
             refine c_seq ?_
             refine rg ?_
             refine st (v := (Sl a52 r110.2 c53)) (rv_move rfl) ?_
             refine st (v := (I 1)) (rv_move rfl) ?_
             obtain ⟨r156, hx157, h'⟩ := bind_some h
             clear h
             have h := h'; clear h'
             have hc158 := c_laws_heldIntSS (aa_0 := a52) (ca_0 := c53) hx157
             refine st_call (cx_call hc158 (ent_f hc158.fn rfl) hn0 (show Hp S0 σ0 _ ([Ch.ro 0 (Sl a52 r110.2 c53) r110.2] ++ [Ch.ro 0 (Sl a52 r110.2 c53) r110.2]) from (H.sel' [0, 0] rfl rfl))) wn ?_
             rintro _ σ159 ⟨_, ⟨rfl, rfl⟩, H, -⟩
             replace H : Hp S0 σ0 σ159 [Ch.ro 0 (Sl a52 r110.2 c53) r110.2] := H
             refine st (v := (I r156)) (rv_assign rfl) ?_
             refine w_end ?_
             refine q_then ?_
             refine c_seq ?_
             refine c_seq ?_
             refine rg ?_
             refine st (v := (I r156)) (rv_move rfl) ?_
             refine st (v := (B (decide (r156 < 0)))) (rv_lss (a := r156) (b := 0) rfl rfl) ?_
             refine w_end ?_
             refine q_then ?_
             refine cd_cond (decide (r156 < 0)) rfl (fun hb160 => ?_) (fun hb160 => ?_)
             ·replace h := bif_t hb160 h
              refine c_seq ?_
              refine rg ?_
              refine st (v := (B false)) (rv_assign rfl) ?_
              refine w_end ?_
              refine q_then ?_
              refine c_ret ?_
              refine q_then_r ?_
              obtain rfl := Option.some.inj h
              exact fin_ret (v := (B false)) (results_ok Try.results9 (res_tmp (v := (B false)) rfl res_nil) rfl) ⟨rfl, rfl⟩ (H.sel' [] rfl rfl)
             ·replace h := bif_f hb160 h
              refine c_skip ?_
              refine q_then ?_
              refine c_seq ?_
              refine c_seq ?_
              refine rg ?_
              refine st (v := (I r156)) (rv_move rfl) ?_
              refine st (v := (I r110.1)) (rv_move rfl) ?_
              refine st (v := (B (r156 != r110.1))) (rv_neq (a := r156) (b := r110.1) rfl rfl) ?_
              refine w_end ?_
              refine q_then ?_
              refine cd_cond (r156 != r110.1) rfl (fun hb161 => ?_) (fun hb161 => ?_)
              ·replace h := bif_t hb161 h
               refine c_seq ?_
               refine rg ?_
               refine st (v := (B false)) (rv_assign rfl) ?_
               refine w_end ?_
               refine q_then ?_
               refine c_ret ?_
               refine q_then_r ?_
               obtain rfl := Option.some.inj h
               exact fin_ret (v := (B false)) (results_ok Try.results9 (res_tmp (v := (B false)) rfl res_nil) rfl) ⟨rfl, rfl⟩ (H.sel' [] rfl rfl)
              ·replace h := bif_f hb161 h
               refine c_skip ?_
               refine q_then ?_
               refine c_seq ?_
               refine rg ?_
               refine st (v := (B true)) (rv_assign rfl) ?_
               refine w_end ?_
               refine q_then ?_
               refine c_ret ?_
               obtain rfl := Option.some.inj h
               exact fin_ret (v := (B true)) (results_ok Try.results9 (res_tmp (v := (B true)) rfl res_nil) rfl) ⟨rfl, rfl⟩ (H.sel' [] rfl rfl)

end Go.Vs
