/- The functions compute what their models say. -/
import Derived.Test.YtjcaokajkkkniabKEncodeVectorHalvesC1
set_option linter.unusedVariables false
set_option linter.unusedSimpArgs false
set_option maxRecDepth 20000
namespace Go.Vs
open Go Go.Proofs
attribute [local irreducible] Code.wp Code.wpIn wpList wpListIn wpQuiet Calls CallsIn

theorem c_impl_sideTable_nearest {t_0 : List Int} (hlt_0 : t_0.length = 4) {r : Int} (h : M.impl_sideTable_nearest t_0 = some r) :
    Cal2 Try.prog 63 [(.agg (List.map I t_0).toArray)] [] (fun n0 v L => v = (I r) ∧ L = []) := by
 refine cal2 (n := 7) Try.func63 rfl rfl rfl rfl ?_
 intro S0 σ0 n0 hn0 H
 unfold M.impl_sideTable_nearest at h
 refine c_seq ?_
 refine rg ?_
 refine st_ex (ex_box (cs := (List.map I t_0)) H hn0 rfl rfl) wn ?_
 rintro _ σ2 ⟨b1, rfl, H, -⟩
 refine st (v := (I 0)) (rv_assign rfl) ?_
 refine w_end ?_
 refine q_then ?_
 refine c_seq ?_
 replace H := Hp.arr (el := n0) H (i := 0) rfl hlt_0
 obtain ⟨σ3, hw4, H, -⟩ := H.pub 0 rfl (Nat.le_refl _)
 rw [← hw4]; clear hw4
 replace H := H.roLow 0 0 rfl (Nat.zero_le _)
 obtain ⟨r5, hx6, h'⟩ := bind_some h
 clear h
 have h := h'; clear h'
 have hc7 := c_slices_Min_int_int (ax_0 := (some ⟨b1, 0, none⟩)) (cx_0 := 4) hx6
 have Hs := H
 refine rg2 (σ := σ3) (Nm := Unit) 3 [2] [[false], [true]] [[(0, 0), (1, 1)], [(0, 0)], [(0, 1)]] 1 [fun _ => fun σm => Hp S0 σ0 σm [Ch.ro 0 (Sl (some ⟨b1, 0, none⟩) t_0 4) t_0, Ch.ro n0 (Sl (some ⟨b1, 0, none⟩) t_0 4) t_0] ∧ Md (cov []) σ3 σm, fun _ => fun σm => Hp S0 σ0 σm [Ch.ro 0 (Sl (some ⟨b1, 0, none⟩) t_0 4) t_0, Ch.ro n0 (Sl (some ⟨b1, 0, none⟩) t_0 4) t_0] ∧ Md (cov []) σ3 σm] [fun _ => (Sl (some ⟨b1, 0, none⟩) t_0 4), fun _ => (Sl (some ⟨b1, 0, none⟩) t_0 4), fun _ => (I r5)] () (by kernel_rfl) (by kernel_rfl) ?_ ?_ ?_
 ·intro σm m0
  exact ⟨H.grow (m0.mono fun _ h => h.elim), m0⟩
 ·refine ac rfl (by
    intro k _nm ρ σm hJ hoff hdep
    have e1 := look_off (N := 7) (hoff 1 rfl) rfl
    exact dp_v (v := (Sl (some ⟨b1, 0, none⟩) t_0 4)) wn (rv_slice_arrL Try.underlying80 ti3 (by decide) e1 hlt_0) rfl hJ) ?_
  refine ac rfl (by
    intro k _nm ρ σm hJ hoff hdep
    have e1 := look_off (N := 7) (hoff 1 rfl) rfl
    exact dp_v (v := (Sl (some ⟨b1, 0, none⟩) t_0 4)) wn (rv_slice_arrL Try.underlying80 ti3 (by decide) e1 hlt_0) rfl hJ) ?_
  refine all_cons (by
    refine ⟨?_, ?_⟩
    ·intro _nm ρ σm hJ hoff hdep
     have e4 : look 7 ρ 4 = (Sl (some ⟨b1, 0, none⟩) t_0 4) := hdep 1 rfl rfl 4 rfl
     obtain ⟨H, m⟩ := id hJ
     refine dp_cx wn (cx_call hc7 (ent_f hc7.fn (by show [look 7 ρ 4] = _; rw [e4])) hn0 (show Hp S0 σ0 _ ([Ch.ro 0 (Sl (some ⟨b1, 0, none⟩) t_0 4) t_0] ++ [Ch.ro 0 (Sl (some ⟨b1, 0, none⟩) t_0 4) t_0, Ch.ro n0 (Sl (some ⟨b1, 0, none⟩) t_0 4) t_0]) from (H.sel' [0, 0, 1] rfl rfl))) ?_
     rintro _ σq ⟨_, ⟨rfl, rfl⟩, H2, m2⟩
     exact ⟨_, (), rfl, rfl, ⟨H2.sel' [0, 1] rfl rfl, m.comp0 (m2.mono (fun i h => by simp [cov, Ch.ro] at h))⟩, stab [0, 1] (by kernel_rfl) ⟨rfl, rfl, trivial⟩⟩
    trivial) ?_
  exact all_nil
 ·intro _nm ρ σ8 hJ hoff hrel
  have e3 := hrel 0 rfl 3 rfl
  have e5 := hrel 2 rfl 5 rfl
  obtain ⟨H, -⟩ := (show Hp S0 σ0 σ8 [Ch.ro 0 (Sl (some ⟨b1, 0, none⟩) t_0 4) t_0, Ch.ro n0 (Sl (some ⟨b1, 0, none⟩) t_0 4) t_0] ∧ Md (cov []) σ3 σ8 from hJ)
  clear hJ Hs
  rw [fr_lookL (L := [(3, (Sl (some ⟨b1, 0, none⟩) t_0 4)), (5, (I r5))]) ⟨e3, e5, trivial⟩]
  clear hoff hrel e3 e5
  replace H := H.roLow 1 0 rfl (Nat.zero_le _)
  obtain ⟨r9, hx10, h'⟩ := bind_some h
  clear h
  have h := h'; clear h'
  have hc11 := c_slices_Index_int_int (as_0 := (some ⟨b1, 0, none⟩)) (cs_0 := 4) hx10
  refine st_call (cx_call hc11 (ent_f hc11.fn rfl) hn0 (show Hp S0 σ0 _ ([Ch.ro 0 (Sl (some ⟨b1, 0, none⟩) t_0 4) t_0] ++ [Ch.ro 0 (Sl (some ⟨b1, 0, none⟩) t_0 4) t_0, Ch.ro 0 (Sl (some ⟨b1, 0, none⟩) t_0 4) t_0, Ch.ro n0 (Sl (some ⟨b1, 0, none⟩) t_0 4) t_0]) from (H.sel' [0, 0, 1, 2] rfl rfl))) wn ?_
  rintro _ σ12 ⟨_, ⟨rfl, rfl⟩, H, -⟩
  replace H : Hp S0 σ0 σ12 [Ch.ro 0 (Sl (some ⟨b1, 0, none⟩) t_0 4) t_0, Ch.ro 0 (Sl (some ⟨b1, 0, none⟩) t_0 4) t_0, Ch.ro n0 (Sl (some ⟨b1, 0, none⟩) t_0 4) t_0] := H
  refine st (v := (I r9)) (rv_assign rfl) ?_
  refine w_end ?_
  refine q_then ?_
  refine c_ret ?_
  obtain rfl := Option.some.inj h
  exact fin_ret (v := (I r9)) (results_ok Try.results63 (res_tmp (v := (I r9)) rfl res_nil) rfl) ⟨rfl, rfl⟩ (H.sel' [] rfl rfl)

theorem c_impl_EncodeVector {b_0 : (List (List Int)) × (List (List Int))} {at_1 : List Int} {ab_0_0 : Option Addr} {cb_0_0 : Nat} {ab_0_1 : Option Addr} {cb_0_1 : Nat} {aat_1 : Option Addr} {cat_1 : Nat} {r : Int} (h : M.impl_EncodeVector b_0 at_1 = some r) :
    Cal2 Try.prog 24 [(.agg #[(Sl ab_0_0 b_0.1 cb_0_0), (Sl ab_0_1 b_0.2 cb_0_1)]), (Sl aat_1 at_1 cat_1)] [Ch.ro 0 (Sl ab_0_0 b_0.1 cb_0_0) b_0.1, Ch.ro 0 (Sl ab_0_1 b_0.2 cb_0_1) b_0.2, Ch.ro 0 (Sl aat_1 at_1 cat_1) at_1] (fun n0 v L => v = (I r) ∧ L = []) := by
 refine cal2 (n := 27) Try.func24 rfl rfl rfl rfl ?_
 intro S0 σ0 n0 hn0 H
 unfold M.impl_EncodeVector at h
 refine c_seq ?_
 refine rg ?_
 refine st_ex (ex_box (cs := [(Sl ab_0_0 b_0.1 cb_0_0), (Sl ab_0_1 b_0.2 cb_0_1)]) H hn0 rfl rfl) wn ?_
 rintro _ σ2 ⟨b1, rfl, H, -⟩
 refine st (v := (I 0)) (rv_assign rfl) ?_
 refine w_end ?_
 refine q_then ?_
 refine c_seq ?_
 refine c_seq ?_
 obtain ⟨o3, hj, h'⟩ := bind_some h
 clear h
 refine c_cut (fun e a w => e = .normal ∧ ∃ (ρ : Nat → Value) (σ : St), a = fr 27 (updL ρ [(1, (Sl aat_1 at_1 cat_1)), (2, (pt b1 0)), (14, (B o3))]) ∧ w = σ.w ∧ Hp S0 σ0 σ [Ch.ro 0 (Sl aat_1 at_1 cat_1) at_1, Ch.ro 0 (Sl ab_0_0 b_0.1 cb_0_0) b_0.1, Ch.ro 0 (Sl ab_0_1 b_0.2 cb_0_1) b_0.2, Ch.bx n0 b1 0 [(Sl ab_0_0 b_0.1 cb_0_0), (Sl ab_0_1 b_0.2 cb_0_1)] [] []]) ?_ ?_
 ·clear h'
  rename _ = some o3 => h
  refine rg ?_
  have hc4 := H.cells 0 rfl
  refine st (v := (.agg #[(Sl ab_0_0 b_0.1 cb_0_0), (Sl ab_0_1 b_0.2 cb_0_1)])) (rv_load (cs := [(Sl ab_0_0 b_0.1 cb_0_0), (Sl ab_0_1 b_0.2 cb_0_1)]) Try.underlying39 rfl ti39 rfl rfl hc4) ?_
  obtain ⟨r5, hx6, h'⟩ := bind_some h
  clear h
  have h := h'; clear h'
  have hc7 := c_impl_ValidBook (ab_0_0 := ab_0_0) (cb_0_0 := cb_0_0) (ab_0_1 := ab_0_1) (cb_0_1 := cb_0_1) hx6
  refine st_call (cx_call hc7 (ent_f hc7.fn rfl) hn0 (show Hp S0 σ0 _ ([Ch.ro 0 (Sl ab_0_0 b_0.1 cb_0_0) b_0.1, Ch.ro 0 (Sl ab_0_1 b_0.2 cb_0_1) b_0.2] ++ [Ch.bx n0 b1 0 [(Sl ab_0_0 b_0.1 cb_0_0), (Sl ab_0_1 b_0.2 cb_0_1)] [] [], Ch.ro 0 (Sl ab_0_0 b_0.1 cb_0_0) b_0.1, Ch.ro 0 (Sl ab_0_1 b_0.2 cb_0_1) b_0.2, Ch.ro 0 (Sl aat_1 at_1 cat_1) at_1]) from (H.sel' [1, 2, 0, 1, 2, 3] rfl rfl))) wn ?_
  rintro _ σ8 ⟨_, ⟨rfl, rfl⟩, H, -⟩
  replace H : Hp S0 σ0 σ8 [Ch.bx n0 b1 0 [(Sl ab_0_0 b_0.1 cb_0_0), (Sl ab_0_1 b_0.2 cb_0_1)] [] [], Ch.ro 0 (Sl ab_0_0 b_0.1 cb_0_0) b_0.1, Ch.ro 0 (Sl ab_0_1 b_0.2 cb_0_1) b_0.2, Ch.ro 0 (Sl aat_1 at_1 cat_1) at_1] := H
  refine st (v := (B (!r5))) (rv_not rfl) ?_
  refine st (v := (B (!r5))) (rv_move rfl) ?_
  rcases Bool.eq_false_or_eq_true (!r5) with hb9 | hb9
  ·replace h := bif_t hb9 h
   refine st_skip (congrArg some hb9) ?_
   refine st_skip (congrArg some hb9) ?_
   refine st_skip (congrArg some hb9) ?_
   refine st (v := (B true)) (rv_pick_t (congrArg B hb9) rfl) ?_
   refine w_end ?_
   obtain rfl := Option.some.inj h
   exact ⟨rfl, _, σ8, fr_join ⟨rfl, rfl, rfl, trivial⟩, rfl, H.sel' [3, 1, 2, 0] rfl rfl⟩
  ·replace h := bif_f hb9 h
   refine st_g (v := (Sl aat_1 at_1 cat_1)) (congrArg some hb9) (rv_move rfl) ?_
   obtain ⟨r10, hx11, h'⟩ := bind_some h
   clear h
   have h := h'; clear h'
   have hc12 := c_impl_ValidVector (av_0 := aat_1) (cv_0 := cat_1) hx11
   refine st_call (cx_call hc12 (ent_f hc12.fn rfl) hn0 (show Hp S0 σ0 _ ([Ch.ro 0 (Sl aat_1 at_1 cat_1) at_1] ++ [Ch.bx n0 b1 0 [(Sl ab_0_0 b_0.1 cb_0_0), (Sl ab_0_1 b_0.2 cb_0_1)] [] [], Ch.ro 0 (Sl ab_0_0 b_0.1 cb_0_0) b_0.1, Ch.ro 0 (Sl ab_0_1 b_0.2 cb_0_1) b_0.2, Ch.ro 0 (Sl aat_1 at_1 cat_1) at_1]) from (H.sel' [3, 0, 1, 2, 3] rfl rfl))) (wanted_yes rfl (by exact (congrArg some hb9))) ?_
   rintro _ σ13 ⟨_, ⟨rfl, rfl⟩, H, -⟩
   replace H : Hp S0 σ0 σ13 [Ch.bx n0 b1 0 [(Sl ab_0_0 b_0.1 cb_0_0), (Sl ab_0_1 b_0.2 cb_0_1)] [] [], Ch.ro 0 (Sl ab_0_0 b_0.1 cb_0_0) b_0.1, Ch.ro 0 (Sl ab_0_1 b_0.2 cb_0_1) b_0.2, Ch.ro 0 (Sl aat_1 at_1 cat_1) at_1] := H
   refine st_g (v := (B (!r10))) (congrArg some hb9) (rv_not rfl) ?_
   refine st (v := (B (!r10))) (rv_pick_f (congrArg B hb9) rfl) ?_
   refine w_end ?_
   obtain rfl := Option.some.inj h
   exact ⟨rfl, _, σ13, fr_join ⟨rfl, rfl, rfl, trivial⟩, rfl, H.sel' [3, 1, 2, 0] rfl rfl⟩
 ·clear hj
  have h := h'
  clear h' H
  rintro e a w ⟨rfl, ρ, σ14, rfl, rfl, H⟩
  refine q_then ?_
  refine cd_cond o3 rfl (fun hb15 => ?_) (fun hb15 => ?_)
  ·replace h := bif_t hb15 h
   refine c_seq ?_
   refine rg ?_
   refine st (v := (I (-1))) (rv_assign rfl) ?_
   refine w_end ?_
   refine q_then ?_
   refine c_ret ?_
   refine q_then_r ?_
   obtain rfl := Option.some.inj h
   exact fin_ret (v := (I (-1))) (results_ok Try.results24 (res_tmp (v := (I (-1))) rfl res_nil) rfl) ⟨rfl, rfl⟩ (H.sel' [] rfl rfl)
  ·replace h := bif_f hb15 h
   refine c_skip ?_
   refine q_then ?_
   refine c_seq ?_
   refine rg ?_
   have hc16 := H.cells 3 rfl
   refine st (v := (.agg #[(Sl ab_0_0 b_0.1 cb_0_0), (Sl ab_0_1 b_0.2 cb_0_1)])) (rv_load (cs := [(Sl ab_0_0 b_0.1 cb_0_0), (Sl ab_0_1 b_0.2 cb_0_1)]) Try.underlying39 rfl ti39 rfl rfl hc16) ?_
   refine st (v := (Sl aat_1 at_1 cat_1)) (rv_move rfl) ?_
   obtain ⟨r17, hx18, h'⟩ := bind_some h
   clear h
   have h := h'; clear h'
   have hc19 := c_impl_tablesOf (ab_0_0 := ab_0_0) (cb_0_0 := cb_0_0) (ab_0_1 := ab_0_1) (cb_0_1 := cb_0_1) (aat_1 := aat_1) (cat_1 := cat_1) hx18
   refine st_call (cx_call hc19 (ent_f hc19.fn rfl) hn0 (show Hp S0 σ0 _ ([Ch.ro 0 (Sl ab_0_0 b_0.1 cb_0_0) b_0.1, Ch.ro 0 (Sl ab_0_1 b_0.2 cb_0_1) b_0.2, Ch.ro 0 (Sl aat_1 at_1 cat_1) at_1] ++ [Ch.ro 0 (Sl aat_1 at_1 cat_1) at_1, Ch.ro 0 (Sl ab_0_0 b_0.1 cb_0_0) b_0.1, Ch.ro 0 (Sl ab_0_1 b_0.2 cb_0_1) b_0.2, Ch.bx n0 b1 0 [(Sl ab_0_0 b_0.1 cb_0_0), (Sl ab_0_1 b_0.2 cb_0_1)] [] []]) from (H.sel' [1, 2, 0, 0, 1, 2, 3] rfl rfl))) wn ?_
   rintro _ σ22 ⟨_, ⟨rfl, rfl, hl20, hl21⟩, H, -⟩
   replace H : Hp S0 σ0 σ22 [Ch.ro 0 (Sl aat_1 at_1 cat_1) at_1, Ch.ro 0 (Sl ab_0_0 b_0.1 cb_0_0) b_0.1, Ch.ro 0 (Sl ab_0_1 b_0.2 cb_0_1) b_0.2, Ch.bx n0 b1 0 [(Sl ab_0_0 b_0.1 cb_0_0), (Sl ab_0_1 b_0.2 cb_0_1)] [] []] := H
   refine st (v := (.tuple #[(.agg (List.map I r17.1).toArray), (.agg (List.map I r17.2).toArray)])) (rv_move rfl) ?_
   refine st (v := (.agg (List.map I r17.1).toArray)) (rv_extract rfl rfl) ?_
   refine st (v := (.agg (List.map I r17.2).toArray)) (rv_extract rfl rfl) ?_
   refine st_ex (ex_alloc (cs := (List.map I (List.replicate 4 0))) H hn0 ti80 rfl) wn ?_
   rintro _ σ24 ⟨b23, rfl, H, -⟩
   refine st_ex (ex_alloc (cs := (List.map I (List.replicate 4 0))) H hn0 ti80 rfl) wn ?_
   rintro _ σ26 ⟨b25, rfl, H, -⟩
   refine st_exS (ex_store_box (k := 0) (cs := (List.map I (List.replicate 4 0))) (vs := (List.map I r17.1)) (cs' := (List.map I r17.1)) H (i := 1) rfl ti80 rfl rfl rfl rfl ((List.length_map _).trans hl20) (arr_fits (k := 4) hl20 rfl) (plain_ints _) (arr_all (k := 4) hl20 rfl)) wn ?_
   rintro σ27 ⟨H, -⟩
   refine st_exS (ex_store_box (k := 0) (cs := (List.map I (List.replicate 4 0))) (vs := (List.map I r17.2)) (cs' := (List.map I r17.2)) H (i := 1) rfl ti80 rfl rfl rfl rfl ((List.length_map _).trans hl21) (arr_fits (k := 4) hl21 rfl) (plain_ints _) (arr_all (k := 4) hl21 rfl)) wn ?_
   rintro σ28 ⟨H, -⟩
   refine w_end ?_
   refine q_then ?_
   refine c_seq ?_
   have hc29 := H.cells 1 rfl
   obtain ⟨r30, hx31, h'⟩ := bind_some h
   clear h
   have h := h'; clear h'
   have hc32 := c_impl_sideTable_nearest hl20 hx31
   have hc33 := H.cells 0 rfl
   obtain ⟨r34, hx35, h'⟩ := bind_some h
   clear h
   have h := h'; clear h'
   have hc36 := c_impl_sideTable_nearest hl21 hx35
   have Hs := H
   refine rg2 (σ := σ28) (Nm := Unit) 5 [1, 4] [[false, false], [true, false], [true, true]] [[(0, 0)], [(0, 1)], [(1, 1), (2, 2)], [(0, 0), (1, 1)], [(1, 2)]] 2 [fun _ => fun σm => Hp S0 σ0 σm [Ch.bx n0 b25 0 (List.map I r17.2) [] [], Ch.bx n0 b23 0 (List.map I r17.1) [] [], Ch.ro 0 (Sl aat_1 at_1 cat_1) at_1, Ch.ro 0 (Sl ab_0_0 b_0.1 cb_0_0) b_0.1, Ch.ro 0 (Sl ab_0_1 b_0.2 cb_0_1) b_0.2, Ch.bx n0 b1 0 [(Sl ab_0_0 b_0.1 cb_0_0), (Sl ab_0_1 b_0.2 cb_0_1)] [] []] ∧ Md (cov []) σ28 σm, fun _ => fun σm => Hp S0 σ0 σm [Ch.bx n0 b25 0 (List.map I r17.2) [] [], Ch.bx n0 b23 0 (List.map I r17.1) [] [], Ch.ro 0 (Sl aat_1 at_1 cat_1) at_1, Ch.ro 0 (Sl ab_0_0 b_0.1 cb_0_0) b_0.1, Ch.ro 0 (Sl ab_0_1 b_0.2 cb_0_1) b_0.2, Ch.bx n0 b1 0 [(Sl ab_0_0 b_0.1 cb_0_0), (Sl ab_0_1 b_0.2 cb_0_1)] [] []] ∧ Md (cov []) σ28 σm, fun _ => fun σm => Hp S0 σ0 σm [Ch.bx n0 b25 0 (List.map I r17.2) [] [], Ch.bx n0 b23 0 (List.map I r17.1) [] [], Ch.ro 0 (Sl aat_1 at_1 cat_1) at_1, Ch.ro 0 (Sl ab_0_0 b_0.1 cb_0_0) b_0.1, Ch.ro 0 (Sl ab_0_1 b_0.2 cb_0_1) b_0.2, Ch.bx n0 b1 0 [(Sl ab_0_0 b_0.1 cb_0_0), (Sl ab_0_1 b_0.2 cb_0_1)] [] []] ∧ Md (cov []) σ28 σm] [fun _ => (.agg (List.map I r17.1).toArray), fun _ => (I r30), fun _ => (I (w64 (4 * r30))), fun _ => (.agg (List.map I r17.2).toArray), fun _ => (I r34)] () (by kernel_rfl) (by kernel_rfl) ?_ ?_ ?_
   ·intro σm m0
    exact ⟨H.grow (m0.mono fun _ h => h.elim), m0⟩
   ·refine all_cons (by
      refine ⟨?_, ?_⟩
      ·intro _nm ρ σm hJ hoff hdep
       have e5 := look_off (N := 27) (hoff 5 rfl) rfl
       obtain ⟨H, m⟩ := id hJ
       have hc29 := H.cells 1 rfl
       exact dp_v (v := (.agg (List.map I r17.1).toArray)) wn (rv_load (cs := (List.map I r17.1)) Try.underlying80 rfl ti80 e5 (by rw [List.length_map]; exact hl20) hc29) rfl hJ
      trivial) ?_
    refine all_cons (by
      refine ⟨?_, ?_⟩
      ·intro _nm ρ σm hJ hoff hdep
       have e21 : look 27 ρ 21 = (.agg (List.map I r17.1).toArray) := hdep 0 rfl rfl 21 rfl
       obtain ⟨H, m⟩ := id hJ
       refine dp_cx wn (cx_call hc32 (ent_f hc32.fn (by show [look 27 ρ 21] = _; rw [e21])) hn0 (show Hp S0 σ0 _ ([] ++ [Ch.bx n0 b25 0 (List.map I r17.2) [] [], Ch.bx n0 b23 0 (List.map I r17.1) [] [], Ch.ro 0 (Sl aat_1 at_1 cat_1) at_1, Ch.ro 0 (Sl ab_0_0 b_0.1 cb_0_0) b_0.1, Ch.ro 0 (Sl ab_0_1 b_0.2 cb_0_1) b_0.2, Ch.bx n0 b1 0 [(Sl ab_0_0 b_0.1 cb_0_0), (Sl ab_0_1 b_0.2 cb_0_1)] [] []]) from (H.sel' [0, 1, 2, 3, 4, 5] rfl rfl))) ?_
       rintro _ σq ⟨_, ⟨rfl, rfl⟩, H2, m2⟩
       exact ⟨_, (), rfl, rfl, ⟨H2.sel' [0, 1, 2, 3, 4, 5] rfl rfl, m.comp0 m2⟩, stab [0, 3] (by kernel_rfl) ⟨rfl, rfl, trivial⟩⟩
      trivial) ?_
    refine ac rfl (by
      intro k _nm ρ σm hJ hoff hdep
      have e22 := hdep 1 rfl rfl 22 rfl
      exact dp_v (v := (I (w64 (4 * r30)))) wn (rv_mul (a := 4) (b := r30) rfl e22) rfl hJ) ?_
    refine all_cons (by
      refine ⟨?_, ?_⟩
      ·intro _nm ρ σm hJ hoff hdep
       have e6 := look_off (N := 27) (hoff 6 rfl) rfl
       obtain ⟨H, m⟩ := id hJ
       have hc33 := H.cells 0 rfl
       exact dp_v (v := (.agg (List.map I r17.2).toArray)) wn (rv_load (cs := (List.map I r17.2)) Try.underlying80 rfl ti80 e6 (by rw [List.length_map]; exact hl21) hc33) rfl hJ
      refine ⟨?_, ?_⟩
      ·intro _nm ρ σm hJ hoff hdep
       have e6 := look_off (N := 27) (hoff 6 rfl) rfl
       obtain ⟨H, m⟩ := id hJ
       have hc33 := H.cells 0 rfl
       exact dp_v (v := (.agg (List.map I r17.2).toArray)) wn (rv_load (cs := (List.map I r17.2)) Try.underlying80 rfl ti80 e6 (by rw [List.length_map]; exact hl21) hc33) rfl hJ
      trivial) ?_
    refine all_cons (by
      refine ⟨?_, ?_⟩
      ·intro _nm ρ σm hJ hoff hdep
       have e24 : look 27 ρ 24 = (.agg (List.map I r17.2).toArray) := hdep 3 rfl rfl 24 rfl
       obtain ⟨H, m⟩ := id hJ
       refine dp_cx wn (cx_call hc36 (ent_f hc36.fn (by show [look 27 ρ 24] = _; rw [e24])) hn0 (show Hp S0 σ0 _ ([] ++ [Ch.bx n0 b25 0 (List.map I r17.2) [] [], Ch.bx n0 b23 0 (List.map I r17.1) [] [], Ch.ro 0 (Sl aat_1 at_1 cat_1) at_1, Ch.ro 0 (Sl ab_0_0 b_0.1 cb_0_0) b_0.1, Ch.ro 0 (Sl ab_0_1 b_0.2 cb_0_1) b_0.2, Ch.bx n0 b1 0 [(Sl ab_0_0 b_0.1 cb_0_0), (Sl ab_0_1 b_0.2 cb_0_1)] [] []]) from (H.sel' [0, 1, 2, 3, 4, 5] rfl rfl))) ?_
       rintro _ σq ⟨_, ⟨rfl, rfl⟩, H2, m2⟩
       exact ⟨_, (), rfl, rfl, ⟨H2.sel' [0, 1, 2, 3, 4, 5] rfl rfl, m.comp0 m2⟩, stab [0, 1, 2, 3] (by kernel_rfl) ⟨rfl, rfl, rfl, rfl, trivial⟩⟩
      trivial) ?_
    exact all_nil
   ·intro _nm ρ σ37 hJ hoff hrel
    have e23 := hrel 2 rfl 23 rfl
    have e25 := hrel 4 rfl 25 rfl
    obtain ⟨H, -⟩ := (show Hp S0 σ0 σ37 [Ch.bx n0 b25 0 (List.map I r17.2) [] [], Ch.bx n0 b23 0 (List.map I r17.1) [] [], Ch.ro 0 (Sl aat_1 at_1 cat_1) at_1, Ch.ro 0 (Sl ab_0_0 b_0.1 cb_0_0) b_0.1, Ch.ro 0 (Sl ab_0_1 b_0.2 cb_0_1) b_0.2, Ch.bx n0 b1 0 [(Sl ab_0_0 b_0.1 cb_0_0), (Sl ab_0_1 b_0.2 cb_0_1)] [] []] ∧ Md (cov []) σ28 σ37 from hJ)
    clear hJ Hs
    rw [fr_lookL (L := [(23, (I (w64 (4 * r30)))), (25, (I r34))]) ⟨e23, e25, trivial⟩]
    clear hoff hrel e23 e25
    refine st (v := (I (w64 ((w64 (4 * r30)) + r34)))) (rv_add (a := (w64 (4 * r30))) (b := r34) rfl rfl) ?_
    refine st (v := (I (w64 ((w64 (4 * r30)) + r34)))) (rv_assign rfl) ?_
    refine w_end ?_
    refine q_then ?_
    refine c_ret ?_
    obtain rfl := Option.some.inj h
    exact fin_ret (v := (I (w64 ((w64 (4 * r30)) + r34)))) (results_ok Try.results24 (res_tmp (v := (I (w64 ((w64 (4 * r30)) + r34)))) rfl res_nil) rfl) ⟨rfl, rfl⟩ (H.sel' [] rfl rfl)

theorem c_spec_inRange {n_0 : Int} {low_1 : Int} {high_2 : Int}  {r : Bool} (h : M.spec_inRange n_0 low_1 high_2 = some r) :
    Cal2 Try.prog 46 [(I n_0), (I low_1), (I high_2)] [] (fun n0 v L => v = (B r) ∧ L = []) := by
 refine cal2 (n := 15) Try.func46 rfl rfl rfl rfl ?_
 intro S0 σ0 n0 hn0 H
 unfold M.spec_inRange at h
 refine c_seq ?_
 refine rg ?_
 refine st (v := (B false)) (rv_assign rfl) ?_
 refine w_end ?_
 refine q_then ?_
 refine c_seq ?_
 refine rg ?_
 refine st (v := (I low_1)) (rv_move rfl) ?_
 refine st (v := (I n_0)) (rv_move rfl) ?_
 refine st (v := (B (decide (low_1 ≤ n_0)))) (rv_leq (a := low_1) (b := n_0) rfl rfl) ?_
 refine st (v := (B (decide (low_1 ≤ n_0)))) (rv_move rfl) ?_
 rcases Bool.eq_false_or_eq_true (decide (low_1 ≤ n_0)) with hb1 | hb1
 ·replace h := bif_t hb1 h
  refine st_g (v := (I n_0)) (congrArg some hb1) (rv_move rfl) ?_
  refine st_g (v := (I high_2)) (congrArg some hb1) (rv_move rfl) ?_
  refine st_g (v := (B (decide (n_0 ≤ high_2)))) (congrArg some hb1) (rv_leq (a := n_0) (b := high_2) rfl rfl) ?_
  refine st (v := (B (decide (n_0 ≤ high_2)))) (rv_pick_t (congrArg B hb1) rfl) ?_
  refine st (v := (B (decide (n_0 ≤ high_2)))) (rv_assign rfl) ?_
  refine w_end ?_
  refine q_then ?_
  refine c_ret ?_
  obtain rfl := Option.some.inj h
  exact fin_ret (v := (B (decide (n_0 ≤ high_2)))) (results_ok Try.results46 (res_tmp (v := (B (decide (n_0 ≤ high_2)))) rfl res_nil) rfl) ⟨rfl, rfl⟩ (H.sel' [] rfl rfl)
 ·replace h := bif_f hb1 h
  refine st_skip (congrArg some hb1) ?_
  refine st_skip (congrArg some hb1) ?_
  refine st_skip (congrArg some hb1) ?_
  refine st (v := (B false)) (rv_pick_f (congrArg B hb1) rfl) ?_
  refine st (v := (B false)) (rv_assign rfl) ?_
  refine w_end ?_
  refine q_then ?_
  refine c_ret ?_
  obtain rfl := Option.some.inj h
  exact fin_ret (v := (B false)) (results_ok Try.results46 (res_tmp (v := (B false)) rfl res_nil) rfl) ⟨rfl, rfl⟩ (H.sel' [] rfl rfl)

theorem c_spec_allIn {list_0 : List Int} {low_1 : Int} {high_2 : Int} {alist_0 : Option Addr} {clist_0 : Nat} {r : Bool} (h : M.spec_allIn list_0 low_1 high_2 = some r) :
    Cal2 Try.prog 85 [(Sl alist_0 list_0 clist_0), (I low_1), (I high_2)] [Ch.ro 0 (Sl alist_0 list_0 clist_0) list_0] (fun n0 v L => v = (B r) ∧ L = []) := by
 refine cal2 (n := 22) Try.func85 rfl rfl rfl rfl ?_
 intro S0 σ0 n0 hn0 H
 unfold M.spec_allIn at h
 refine c_seq ?_
 refine rg ?_
 refine st (v := (B false)) (rv_assign rfl) ?_
 refine w_end ?_
 refine q_then ?_
 refine c_seq ?_
 refine c_seq ?_
 refine rg ?_
 refine st (v := (I 0)) (rv_assign rfl) ?_
 refine w_end ?_
 refine q_then ?_
 obtain ⟨o1, hj, h'⟩ := bind_some h
 clear h
 refine c_cut (fun e a w => (∃ t, o1 = (.inl t) ∧ e = .normal ∧ ∃ (ρ : Nat → Value) (σ : St), a = fr 22 (updL ρ []) ∧ w = σ.w ∧ Hp S0 σ0 σ []) ∨ (∃ t, o1 = (.inr t) ∧ e = .ret ∧ ∃ (ρ : Nat → Value) (σ : St), a = fr 22 (updL ρ [(6, (B t))]) ∧ w = σ.w ∧ Hp S0 σ0 σ [])) ?_ ?_
 ·clear h'
  rename _ = some o1 => h
  refine c_blk ?_
  refine wp_loopM _ h (fun s2 a w => ∃ (ρ : Nat → Value) (σ : St), a = fr 22 (updL ρ [(0, (Sl alist_0 list_0 clist_0)), (1, (I low_1)), (2, (I high_2)), (7, (I s2))]) ∧ w = σ.w ∧ Hp S0 σ0 σ [Ch.ro 0 (Sl alist_0 list_0 clist_0) list_0]) ⟨_, σ0, fr_join ⟨rfl, rfl, rfl, rfl, trivial⟩, rfl, H.sel' [0] rfl rfl⟩ ?_
  clear h H
  rintro s2 a w o ⟨ρ, σ3, rfl, rfl, H⟩ h hres
  refine c_seq ?_
  refine c_seq ?_
  refine rg ?_
  refine st (v := (I s2)) (rv_move rfl) ?_
  refine st (v := (Sl alist_0 list_0 clist_0)) (rv_move rfl) ?_
  refine st (v := (I (list_0.length : Int))) (rv_len Try.underlying29 rfl) ?_
  refine st (v := (B (decide (s2 < (list_0.length : Int))))) (rv_lss (a := s2) (b := (list_0.length : Int)) rfl rfl) ?_
  refine w_end ?_
  refine q_then ?_
  refine cd_cond (decide (s2 < (list_0.length : Int))) rfl (fun hb4 => ?_) (fun hb4 => ?_)
  ·replace h := bif_t hb4 h
   refine c_skip ?_
   refine q_then ?_
   refine c_seq ?_
   refine c_blk ?_
   refine c_seq ?_
   refine rg ?_
   refine st (v := (Sl alist_0 list_0 clist_0)) (rv_move rfl) ?_
   refine st (v := (I s2)) (rv_move rfl) ?_
   obtain ⟨x5, hx6, h'⟩ := bind_some h
   clear h
   have h := h'; clear h'
   obtain ⟨b8, o9, hi7, -⟩ := (H.ro 0 rfl).ix hx6
   refine st (v := (pt b8 o9)) (rv_ix Try.underlying29 ti3 rfl rfl hi7) ?_
   have hc10 := ((H.ro 0 rfl).at hx6 hi7).int
   refine st (v := (I x5)) (rv_load1 Try.underlying3 rfl rfl hc10) ?_
   refine st (v := (I low_1)) (rv_move rfl) ?_
   refine st (v := (I high_2)) (rv_move rfl) ?_
   obtain ⟨r11, hx12, h'⟩ := bind_some h
   clear h
   have h := h'; clear h'
   have hc13 := c_spec_inRange hx12
   refine st_call (cx_call hc13 (ent_f hc13.fn rfl) hn0 (show Hp S0 σ0 _ ([] ++ [Ch.ro 0 (Sl alist_0 list_0 clist_0) list_0]) from (H.sel' [0] rfl rfl))) wn ?_
   rintro _ σ14 ⟨_, ⟨rfl, rfl⟩, H, -⟩
   replace H : Hp S0 σ0 σ14 [Ch.ro 0 (Sl alist_0 list_0 clist_0) list_0] := H
   refine st (v := (B (!r11))) (rv_not rfl) ?_
   refine w_end ?_
   refine q_then ?_
   refine cd_cond (!r11) rfl (fun hb15 => ?_) (fun hb15 => ?_)
   ·replace h := bif_t hb15 h
    refine c_seq ?_
    refine rg ?_
    refine st (v := (B false)) (rv_assign rfl) ?_
    refine w_end ?_
    refine q_then ?_
    refine c_ret ?_
    refine q_blk_r ?_
    refine q_then_r ?_
    refine q_then_r ?_
    refine q_blk_r ?_
    obtain rfl := Option.some.inj h
    obtain rfl := hres _ rfl
    exact .inr (⟨_, rfl, rfl, _, σ14, fr_join ⟨rfl, trivial⟩, rfl, H.sel' [] rfl rfl⟩)
   ·replace h := bif_f hb15 h
    refine c_skip ?_
    refine q_blk ?_
    refine q_then ?_
    refine rg ?_
    refine st (v := (I s2)) (rv_move rfl) ?_
    refine st (v := (I (w64 (s2 + 1)))) (rv_add (a := s2) (b := 1) rfl rfl) ?_
    refine st (v := (I (w64 (s2 + 1)))) (rv_assign rfl) ?_
    refine w_end ?_
    refine q_then ?_
    obtain rfl := Option.some.inj h
    exact ⟨_, rfl, _, σ14, fr_join ⟨rfl, rfl, rfl, rfl, trivial⟩, rfl, H.sel' [0] rfl rfl⟩
  ·replace h := bif_f hb4 h
   refine c_exit ?_
   refine q_then_x ?_
   refine q_then_x ?_
   refine q_blk_hit ?_
   obtain rfl := Option.some.inj h
   obtain rfl := hres _ rfl
   exact .inl ⟨_, rfl, rfl, _, σ3, fr_join trivial, rfl, H.sel' [] rfl rfl⟩
 ·clear hj
  have h := h'
  clear h' H
  rintro e a w (⟨t16, rfl, rfl, ρ, σ17, rfl, rfl, H⟩ | ⟨t18, rfl, rfl, ρ, σ19, rfl, rfl, H⟩)
  ·replace h := selim_l h
   refine q_then ?_
   refine c_seq ?_
   refine rg ?_
   refine st (v := (B true)) (rv_assign rfl) ?_
   refine w_end ?_
   refine q_then ?_
   refine c_ret ?_
   obtain rfl := Option.some.inj h
   exact fin_ret (v := (B true)) (results_ok Try.results85 (res_tmp (v := (B true)) rfl res_nil) rfl) ⟨rfl, rfl⟩ (H.sel' [] rfl rfl)
  ·replace h := selim_r h
   refine q_then_r ?_
   obtain rfl := Option.some.inj h
   exact fin_ret (v := (B t18)) (results_ok Try.results85 (res_tmp (v := (B t18)) rfl res_nil) rfl) ⟨rfl, rfl⟩ (H.sel' [] rfl rfl)

theorem c_spec_isVector {v_0 : List Int} {av_0 : Option Addr} {cv_0 : Nat} {r : Bool} (h : M.spec_isVector v_0 = some r) :
    Cal2 Try.prog 57 [(Sl av_0 v_0 cv_0)] [Ch.ro 0 (Sl av_0 v_0 cv_0) v_0] (fun n0 v L => v = (B r) ∧ L = []) := by
 refine cal2 (n := 10) Try.func57 rfl rfl rfl rfl ?_
 intro S0 σ0 n0 hn0 H
 unfold M.spec_isVector at h
 refine c_seq ?_
 refine rg ?_
 refine st (v := (B false)) (rv_assign rfl) ?_
 refine w_end ?_
 refine q_then ?_
 refine c_seq ?_
 refine rg ?_
 refine st (v := (Sl av_0 v_0 cv_0)) (rv_move rfl) ?_
 refine st (v := (I (v_0.length : Int))) (rv_len Try.underlying29 rfl) ?_
 refine st (v := (B ((v_0.length : Int) == 4))) (rv_eql (a := (v_0.length : Int)) (b := 4) rfl rfl) ?_
 refine st (v := (B ((v_0.length : Int) == 4))) (rv_move rfl) ?_
 rcases Bool.eq_false_or_eq_true ((v_0.length : Int) == 4) with hb1 | hb1
 ·replace h := bif_t hb1 h
  refine st_g (v := (Sl av_0 v_0 cv_0)) (congrArg some hb1) (rv_move rfl) ?_
  obtain ⟨r2, hx3, h'⟩ := bind_some h
  clear h
  have h := h'; clear h'
  have hc4 := c_spec_allIn (alist_0 := av_0) (clist_0 := cv_0) hx3
  refine st_call (cx_call hc4 (ent_f hc4.fn rfl) hn0 (show Hp S0 σ0 _ ([Ch.ro 0 (Sl av_0 v_0 cv_0) v_0] ++ [Ch.ro 0 (Sl av_0 v_0 cv_0) v_0]) from (H.sel' [0, 0] rfl rfl))) (wanted_yes rfl (by exact (congrArg some hb1))) ?_
  rintro _ σ5 ⟨_, ⟨rfl, rfl⟩, H, -⟩
  replace H : Hp S0 σ0 σ5 [Ch.ro 0 (Sl av_0 v_0 cv_0) v_0] := H
  refine st (v := (B r2)) (rv_pick_t (congrArg B hb1) rfl) ?_
  refine st (v := (B r2)) (rv_assign rfl) ?_
  refine w_end ?_
  refine q_then ?_
  refine c_ret ?_
  obtain rfl := Option.some.inj h
  exact fin_ret (v := (B r2)) (results_ok Try.results57 (res_tmp (v := (B r2)) rfl res_nil) rfl) ⟨rfl, rfl⟩ (H.sel' [] rfl rfl)
 ·replace h := bif_f hb1 h
  refine st_skip (congrArg some hb1) ?_
  refine st_skip (congrArg some hb1) ?_
  refine st (v := (B false)) (rv_pick_f (congrArg B hb1) rfl) ?_
  refine st (v := (B false)) (rv_assign rfl) ?_
  refine w_end ?_
  refine q_then ?_
  refine c_ret ?_
  obtain rfl := Option.some.inj h
  exact fin_ret (v := (B false)) (results_ok Try.results57 (res_tmp (v := (B false)) rfl res_nil) rfl) ⟨rfl, rfl⟩ (H.sel' [] rfl rfl)

theorem c_spec_validHalves {list_0 : List (List Int)} {alist_0 : Option Addr} {clist_0 : Nat} {r : Bool} (h : M.spec_validHalves list_0 = some r) :
    Cal2 Try.prog 93 [(Sl alist_0 list_0 clist_0)] [Ch.ro 0 (Sl alist_0 list_0 clist_0) list_0] (fun n0 v L => v = (B r) ∧ L = []) := by
 refine cal2 (n := 24) Try.func93 rfl rfl rfl rfl ?_
 intro S0 σ0 n0 hn0 H
 unfold M.spec_validHalves at h
 refine c_seq ?_
 refine rg ?_
 refine st (v := (B false)) (rv_assign rfl) ?_
 refine w_end ?_
 refine q_then ?_
 refine c_seq ?_
 refine c_seq ?_
 refine rg ?_
 refine st (v := (I 0)) (rv_assign rfl) ?_
 refine w_end ?_
 refine q_then ?_
 obtain ⟨o1, hj, h'⟩ := bind_some h
 clear h
 refine c_cut (fun e a w => (∃ t, o1 = (.inl t) ∧ e = .normal ∧ ∃ (ρ : Nat → Value) (σ : St), a = fr 24 (updL ρ []) ∧ w = σ.w ∧ Hp S0 σ0 σ []) ∨ (∃ t, o1 = (.inr t) ∧ e = .ret ∧ ∃ (ρ : Nat → Value) (σ : St), a = fr 24 (updL ρ [(2, (B t))]) ∧ w = σ.w ∧ Hp S0 σ0 σ [])) ?_ ?_
 ·clear h'
  rename _ = some o1 => h
  refine c_blk ?_
  refine wp_loopM _ h (fun s2 a w => ∃ (ρ : Nat → Value) (σ : St), a = fr 24 (updL ρ [(0, (Sl alist_0 list_0 clist_0)), (3, (I s2))]) ∧ w = σ.w ∧ Hp S0 σ0 σ [Ch.ro 0 (Sl alist_0 list_0 clist_0) list_0]) ⟨_, σ0, fr_join ⟨rfl, rfl, trivial⟩, rfl, H.sel' [0] rfl rfl⟩ ?_
  clear h H
  rintro s2 a w o ⟨ρ, σ3, rfl, rfl, H⟩ h hres
  refine c_seq ?_
  refine c_seq ?_
  refine rg ?_
  refine st (v := (I s2)) (rv_move rfl) ?_
  refine st (v := (Sl alist_0 list_0 clist_0)) (rv_move rfl) ?_
  refine st (v := (I (list_0.length : Int))) (rv_len Try.underlying27 rfl) ?_
  refine st (v := (B (decide (s2 < (list_0.length : Int))))) (rv_lss (a := s2) (b := (list_0.length : Int)) rfl rfl) ?_
  refine w_end ?_
  refine q_then ?_
  refine cd_cond (decide (s2 < (list_0.length : Int))) rfl (fun hb4 => ?_) (fun hb4 => ?_)
  ·replace h := bif_t hb4 h
   refine c_skip ?_
   refine q_then ?_
   refine c_seq ?_
   refine c_blk ?_
   refine c_seq ?_
   obtain ⟨o5, hj, h'⟩ := bind_some h
   clear h
   refine c_cut (fun e a w => e = .normal ∧ ∃ (ρ : Nat → Value) (σ : St), a = fr 24 (updL ρ [(0, (Sl alist_0 list_0 clist_0)), (3, (I s2)), (23, (B o5))]) ∧ w = σ.w ∧ Hp S0 σ0 σ [Ch.ro 0 (Sl alist_0 list_0 clist_0) list_0]) ?_ ?_
   ·clear h'
    rename _ = some o5 => h
    refine rg ?_
    refine st (v := (Sl alist_0 list_0 clist_0)) (rv_move rfl) ?_
    refine st (v := (I s2)) (rv_move rfl) ?_
    obtain ⟨x6, hx7, h'⟩ := bind_some h
    clear h
    have h := h'; clear h'
    obtain ⟨b9, o10, hi8, -⟩ := (H.ro 0 rfl).ix hx7
    refine st (v := (pt b9 o10)) (rv_ix Try.underlying27 ti29 rfl rfl hi8) ?_
    obtain ⟨v14, hc15, hR13⟩ := ((H.ro 0 rfl).at hx7 hi8).slice
    obtain ⟨a11, c12, rfl⟩ := hR13.isSl
    replace H := H.add (d := Ch.ro 0 (Sl a11 x6 c12) x6) hR13 (fun _ h => h)
    clear hR13
    refine st (v := (Sl a11 x6 c12)) (rv_load1 Try.underlying29 rfl rfl hc15) ?_
    refine st (v := (I (x6.length : Int))) (rv_len Try.underlying29 rfl) ?_
    refine st (v := (B ((x6.length : Int) != 2))) (rv_neq (a := (x6.length : Int)) (b := 2) rfl rfl) ?_
    refine st (v := (B ((x6.length : Int) != 2))) (rv_move rfl) ?_
    rcases Bool.eq_false_or_eq_true ((x6.length : Int) != 2) with hb16 | hb16
    ·replace h := bif_t hb16 h
     refine st_skip (congrArg some hb16) ?_
     refine st_skip (congrArg some hb16) ?_
     refine st_skip (congrArg some hb16) ?_
     refine st_skip (congrArg some hb16) ?_
     refine st_skip (congrArg some hb16) ?_
     refine st_skip (congrArg some hb16) ?_
     refine st (v := (B true)) (rv_pick_t (congrArg B hb16) rfl) ?_
     refine w_end ?_
     obtain rfl := Option.some.inj h
     exact ⟨rfl, _, σ3, fr_join ⟨rfl, rfl, rfl, trivial⟩, rfl, H.sel' [1] rfl rfl⟩
    ·replace h := bif_f hb16 h
     refine st_g (v := (Sl alist_0 list_0 clist_0)) (congrArg some hb16) (rv_move rfl) ?_
     refine st_g (v := (I s2)) (congrArg some hb16) (rv_move rfl) ?_
     obtain ⟨x17, hx18, h'⟩ := bind_some h
     clear h
     have h := h'; clear h'
     obtain ⟨b20, o21, hi19, -⟩ := (H.ro 1 rfl).ix hx18
     refine st_g (v := (pt b20 o21)) (congrArg some hb16) (rv_ix Try.underlying27 ti29 rfl rfl hi19) ?_
     obtain ⟨v25, hc26, hR24⟩ := ((H.ro 1 rfl).at hx18 hi19).slice
     obtain ⟨a22, c23, rfl⟩ := hR24.isSl
     replace H := H.add (d := Ch.ro 0 (Sl a22 x17 c23) x17) hR24 (fun _ h => h)
     clear hR24
     refine st_g (v := (Sl a22 x17 c23)) (congrArg some hb16) (rv_load1 Try.underlying29 rfl rfl hc26) ?_
     obtain ⟨r27, hx28, h'⟩ := bind_some h
     clear h
     have h := h'; clear h'
     have hc29 := c_spec_allIn (alist_0 := a22) (clist_0 := c23) hx28
     refine st_call (cx_call hc29 (ent_f hc29.fn rfl) hn0 (show Hp S0 σ0 _ ([Ch.ro 0 (Sl a22 x17 c23) x17] ++ [Ch.ro 0 (Sl a22 x17 c23) x17, Ch.ro 0 (Sl a11 x6 c12) x6, Ch.ro 0 (Sl alist_0 list_0 clist_0) list_0]) from (H.sel' [0, 0, 1, 2] rfl rfl))) (wanted_yes rfl (by exact (congrArg some hb16))) ?_
     rintro _ σ30 ⟨_, ⟨rfl, rfl⟩, H, -⟩
     replace H : Hp S0 σ0 σ30 [Ch.ro 0 (Sl a22 x17 c23) x17, Ch.ro 0 (Sl a11 x6 c12) x6, Ch.ro 0 (Sl alist_0 list_0 clist_0) list_0] := H
     refine st_g (v := (B (!r27))) (congrArg some hb16) (rv_not rfl) ?_
     refine st (v := (B (!r27))) (rv_pick_f (congrArg B hb16) rfl) ?_
     refine w_end ?_
     obtain rfl := Option.some.inj h
     exact ⟨rfl, _, σ30, fr_join ⟨rfl, rfl, rfl, trivial⟩, rfl, H.sel' [2] rfl rfl⟩
   ·clear hj
    have h := h'
    clear h' H
    rintro e a w ⟨rfl, ρ, σ31, rfl, rfl, H⟩
    refine q_then ?_
    refine cd_cond o5 rfl (fun hb32 => ?_) (fun hb32 => ?_)
    ·replace h := bif_t hb32 h
     refine c_seq ?_
     refine rg ?_
     refine st (v := (B false)) (rv_assign rfl) ?_
     refine w_end ?_
     refine q_then ?_
     refine c_ret ?_
     refine q_blk_r ?_
     refine q_then_r ?_
     refine q_then_r ?_
     refine q_blk_r ?_
     obtain rfl := Option.some.inj h
     obtain rfl := hres _ rfl
     exact .inr (⟨_, rfl, rfl, _, σ31, fr_join ⟨rfl, trivial⟩, rfl, H.sel' [] rfl rfl⟩)
    ·replace h := bif_f hb32 h
     refine c_skip ?_
     refine q_blk ?_
     refine q_then ?_
     refine rg ?_
     refine st (v := (I s2)) (rv_move rfl) ?_
     refine st (v := (I (w64 (s2 + 1)))) (rv_add (a := s2) (b := 1) rfl rfl) ?_
     refine st (v := (I (w64 (s2 + 1)))) (rv_assign rfl) ?_
     refine w_end ?_
     refine q_then ?_
     obtain rfl := Option.some.inj h
     exact ⟨_, rfl, _, σ31, fr_join ⟨rfl, rfl, trivial⟩, rfl, H.sel' [0] rfl rfl⟩
  ·replace h := bif_f hb4 h
   refine c_exit ?_
   refine q_then_x ?_
   refine q_then_x ?_
   refine q_blk_hit ?_
   obtain rfl := Option.some.inj h
   obtain rfl := hres _ rfl
   exact .inl ⟨_, rfl, rfl, _, σ3, fr_join trivial, rfl, H.sel' [] rfl rfl⟩
 ·clear hj
  have h := h'
  clear h' H
  rintro e a w (⟨t33, rfl, rfl, ρ, σ34, rfl, rfl, H⟩ | ⟨t35, rfl, rfl, ρ, σ36, rfl, rfl, H⟩)
  ·replace h := selim_l h
   refine q_then ?_
   refine c_seq ?_
   refine rg ?_
   refine st (v := (B true)) (rv_assign rfl) ?_
   refine w_end ?_
   refine q_then ?_
   refine c_ret ?_
   obtain rfl := Option.some.inj h
   exact fin_ret (v := (B true)) (results_ok Try.results93 (res_tmp (v := (B true)) rfl res_nil) rfl) ⟨rfl, rfl⟩ (H.sel' [] rfl rfl)
  ·replace h := selim_r h
   refine q_then_r ?_
   obtain rfl := Option.some.inj h
   exact fin_ret (v := (B t35)) (results_ok Try.results93 (res_tmp (v := (B t35)) rfl res_nil) rfl) ⟨rfl, rfl⟩ (H.sel' [] rfl rfl)

theorem c_spec_validBook {b_0 : (List (List Int)) × (List (List Int))} {ab_0_0 : Option Addr} {cb_0_0 : Nat} {ab_0_1 : Option Addr} {cb_0_1 : Nat} {r : Bool} (h : M.spec_validBook b_0 = some r) :
    Cal2 Try.prog 64 [(.agg #[(Sl ab_0_0 b_0.1 cb_0_0), (Sl ab_0_1 b_0.2 cb_0_1)])] [Ch.ro 0 (Sl ab_0_0 b_0.1 cb_0_0) b_0.1, Ch.ro 0 (Sl ab_0_1 b_0.2 cb_0_1) b_0.2] (fun n0 v L => v = (B r) ∧ L = []) := by
 refine cal2 (n := 23) Try.func64 rfl rfl rfl rfl ?_
 intro S0 σ0 n0 hn0 H
 unfold M.spec_validBook at h
 refine c_seq ?_
 refine rg ?_
 refine st_ex (ex_box (cs := [(Sl ab_0_0 b_0.1 cb_0_0), (Sl ab_0_1 b_0.2 cb_0_1)]) H hn0 rfl rfl) wn ?_
 rintro _ σ2 ⟨b1, rfl, H, -⟩
 refine st (v := (B false)) (rv_assign rfl) ?_
 refine w_end ?_
 refine q_then ?_
 refine c_seq ?_
 refine rg ?_
 refine st (v := (pt b1 0)) (rv_fieldAddr (off := 0) (ft := 27) Try.underlying39 rfl ti27 rfl rfl) ?_
 have hc3 := H.cell (u := (Sl ab_0_0 b_0.1 cb_0_0)) (o' := 0) 0 0 rfl rfl rfl
 refine st (v := (Sl ab_0_0 b_0.1 cb_0_0)) (rv_load1 Try.underlying27 rfl rfl hc3) ?_
 refine st (v := (I (b_0.1.length : Int))) (rv_len Try.underlying27 rfl) ?_
 refine st (v := (B ((b_0.1.length : Int) == 4))) (rv_eql (a := (b_0.1.length : Int)) (b := 4) rfl rfl) ?_
 refine st (v := (B ((b_0.1.length : Int) == 4))) (rv_move rfl) ?_
 rcases Bool.eq_false_or_eq_true ((b_0.1.length : Int) == 4) with hb4 | hb4
 ·replace h := bif_t hb4 h
  refine st_g (v := (pt b1 1)) (congrArg some hb4) (rv_fieldAddr (off := 1) (ft := 27) Try.underlying39 rfl ti27 rfl rfl) ?_
  have hc5 := H.cell (u := (Sl ab_0_1 b_0.2 cb_0_1)) (o' := 1) 0 1 rfl rfl rfl
  refine st_g (v := (Sl ab_0_1 b_0.2 cb_0_1)) (congrArg some hb4) (rv_load1 Try.underlying27 rfl rfl hc5) ?_
  refine st_g (v := (I (b_0.2.length : Int))) (congrArg some hb4) (rv_len Try.underlying27 rfl) ?_
  refine st_g (v := (B ((b_0.2.length : Int) == 4))) (congrArg some hb4) (rv_eql (a := (b_0.2.length : Int)) (b := 4) rfl rfl) ?_
  refine st (v := (B ((b_0.2.length : Int) == 4))) (rv_pick_t (congrArg B hb4) rfl) ?_
  refine st (v := (B ((b_0.2.length : Int) == 4))) (rv_move rfl) ?_
  rcases Bool.eq_false_or_eq_true ((b_0.2.length : Int) == 4) with hb6 | hb6
  ·replace h := bif_t hb6 h
   refine st_g (v := (pt b1 0)) (congrArg some hb6) (rv_fieldAddr (off := 0) (ft := 27) Try.underlying39 rfl ti27 rfl rfl) ?_
   have hc7 := H.cell (u := (Sl ab_0_0 b_0.1 cb_0_0)) (o' := 0) 0 0 rfl rfl rfl
   refine st_g (v := (Sl ab_0_0 b_0.1 cb_0_0)) (congrArg some hb6) (rv_load1 Try.underlying27 rfl rfl hc7) ?_
   obtain ⟨r8, hx9, h'⟩ := bind_some h
   clear h
   have h := h'; clear h'
   have hc10 := c_spec_validHalves (alist_0 := ab_0_0) (clist_0 := cb_0_0) hx9
   refine st_call (cx_call hc10 (ent_f hc10.fn rfl) hn0 (show Hp S0 σ0 _ ([Ch.ro 0 (Sl ab_0_0 b_0.1 cb_0_0) b_0.1] ++ [Ch.bx n0 b1 0 [(Sl ab_0_0 b_0.1 cb_0_0), (Sl ab_0_1 b_0.2 cb_0_1)] [] [], Ch.ro 0 (Sl ab_0_0 b_0.1 cb_0_0) b_0.1, Ch.ro 0 (Sl ab_0_1 b_0.2 cb_0_1) b_0.2]) from (H.sel' [1, 0, 1, 2] rfl rfl))) (wanted_yes rfl (by exact (congrArg some hb6))) ?_
   rintro _ σ11 ⟨_, ⟨rfl, rfl⟩, H, -⟩
   replace H : Hp S0 σ0 σ11 [Ch.bx n0 b1 0 [(Sl ab_0_0 b_0.1 cb_0_0), (Sl ab_0_1 b_0.2 cb_0_1)] [] [], Ch.ro 0 (Sl ab_0_0 b_0.1 cb_0_0) b_0.1, Ch.ro 0 (Sl ab_0_1 b_0.2 cb_0_1) b_0.2] := H
   refine st (v := (B r8)) (rv_pick_t (congrArg B hb6) rfl) ?_
   refine st (v := (B r8)) (rv_move rfl) ?_
   rcases Bool.eq_false_or_eq_true r8 with hb12 | hb12
   ·replace h := bif_t hb12 h
    refine st_g (v := (pt b1 1)) (congrArg some hb12) (rv_fieldAddr (off := 1) (ft := 27) Try.underlying39 rfl ti27 rfl rfl) ?_
    have hc13 := H.cell (u := (Sl ab_0_1 b_0.2 cb_0_1)) (o' := 1) 0 1 rfl rfl rfl
    refine st_g (v := (Sl ab_0_1 b_0.2 cb_0_1)) (congrArg some hb12) (rv_load1 Try.underlying27 rfl rfl hc13) ?_
    obtain ⟨r14, hx15, h'⟩ := bind_some h
    clear h
    have h := h'; clear h'
    have hc16 := c_spec_validHalves (alist_0 := ab_0_1) (clist_0 := cb_0_1) hx15
    refine st_call (cx_call hc16 (ent_f hc16.fn rfl) hn0 (show Hp S0 σ0 _ ([Ch.ro 0 (Sl ab_0_1 b_0.2 cb_0_1) b_0.2] ++ [Ch.bx n0 b1 0 [(Sl ab_0_0 b_0.1 cb_0_0), (Sl ab_0_1 b_0.2 cb_0_1)] [] [], Ch.ro 0 (Sl ab_0_0 b_0.1 cb_0_0) b_0.1, Ch.ro 0 (Sl ab_0_1 b_0.2 cb_0_1) b_0.2]) from (H.sel' [2, 0, 1, 2] rfl rfl))) (wanted_yes rfl (by exact (congrArg some hb12))) ?_
    rintro _ σ17 ⟨_, ⟨rfl, rfl⟩, H, -⟩
    replace H : Hp S0 σ0 σ17 [Ch.bx n0 b1 0 [(Sl ab_0_0 b_0.1 cb_0_0), (Sl ab_0_1 b_0.2 cb_0_1)] [] [], Ch.ro 0 (Sl ab_0_0 b_0.1 cb_0_0) b_0.1, Ch.ro 0 (Sl ab_0_1 b_0.2 cb_0_1) b_0.2] := H
    refine st (v := (B r14)) (rv_pick_t (congrArg B hb12) rfl) ?_
    refine st (v := (B r14)) (rv_assign rfl) ?_
    refine w_end ?_
    refine q_then ?_
    refine c_ret ?_
    obtain rfl := Option.some.inj h
    exact fin_ret (v := (B r14)) (results_ok Try.results64 (res_tmp (v := (B r14)) rfl res_nil) rfl) ⟨rfl, rfl⟩ (H.sel' [] rfl rfl)
   ·replace h := bif_f hb12 h
    refine st_skip (congrArg some hb12) ?_
    refine st_skip (congrArg some hb12) ?_
    refine st_skip (congrArg some hb12) ?_
    refine st (v := (B false)) (rv_pick_f (congrArg B hb12) rfl) ?_
    refine st (v := (B false)) (rv_assign rfl) ?_
    refine w_end ?_
    refine q_then ?_
    refine c_ret ?_
    obtain rfl := Option.some.inj h
    exact fin_ret (v := (B false)) (results_ok Try.results64 (res_tmp (v := (B false)) rfl res_nil) rfl) ⟨rfl, rfl⟩ (H.sel' [] rfl rfl)
  ·replace h := bif_f hb6 h
   refine st_skip (congrArg some hb6) ?_
   refine st_skip (congrArg some hb6) ?_
   refine st_skip (congrArg some hb6) ?_
   refine st (v := (B false)) (rv_pick_f (congrArg B hb6) rfl) ?_
   refine st (v := (B false)) (rv_move rfl) ?_
   refine st_skip rfl ?_
   refine st_skip rfl ?_
   refine st_skip rfl ?_
   refine st (v := (B false)) (rv_pick_f rfl rfl) ?_
   refine st (v := (B false)) (rv_assign rfl) ?_
   refine w_end ?_
   refine q_then ?_
   refine c_ret ?_
   obtain rfl := Option.some.inj h
   exact fin_ret (v := (B false)) (results_ok Try.results64 (res_tmp (v := (B false)) rfl res_nil) rfl) ⟨rfl, rfl⟩ (H.sel' [] rfl rfl)
 ·replace h := bif_f hb4 h
  refine st_skip (congrArg some hb4) ?_
  refine st_skip (congrArg some hb4) ?_
  refine st_skip (congrArg some hb4) ?_
  refine st_skip (congrArg some hb4) ?_
  refine st (v := (B false)) (rv_pick_f (congrArg B hb4) rfl) ?_
  refine st (v := (B false)) (rv_move rfl) ?_
  refine st_skip rfl ?_
  refine st_skip rfl ?_
  refine st_skip rfl ?_
  refine st (v := (B false)) (rv_pick_f rfl rfl) ?_
  refine st (v := (B false)) (rv_move rfl) ?_
  refine st_skip rfl ?_
  refine st_skip rfl ?_
  refine st_skip rfl ?_
  refine st (v := (B false)) (rv_pick_f rfl rfl) ?_
  refine st (v := (B false)) (rv_assign rfl) ?_
  refine w_end ?_
  refine q_then ?_
  refine c_ret ?_
  obtain rfl := Option.some.inj h
  exact fin_ret (v := (B false)) (results_ok Try.results64 (res_tmp (v := (B false)) rfl res_nil) rfl) ⟨rfl, rfl⟩ (H.sel' [] rfl rfl)

theorem c_spec_toInt {b_0 : Bool}  {r : Int} (h : M.spec_toInt b_0 = some r) :
    Cal2 Try.prog 86 [(B b_0)] [] (fun n0 v L => v = (I r) ∧ L = []) := by
 refine cal2 (n := 4) Try.func86 rfl rfl rfl rfl ?_
 intro S0 σ0 n0 hn0 H
 unfold M.spec_toInt at h
 refine c_seq ?_
 refine rg ?_
 refine st (v := (I 0)) (rv_assign rfl) ?_
 refine w_end ?_
 refine q_then ?_
 refine c_seq ?_
 refine c_seq ?_
 refine rg ?_
 refine st (v := (B b_0)) (rv_move rfl) ?_
 refine w_end ?_
 refine q_then ?_
 refine cd_cond b_0 rfl (fun hb1 => ?_) (fun hb1 => ?_)
 ·replace h := bif_t hb1 h
  refine c_seq ?_
  refine rg ?_
  refine st (v := (I 1)) (rv_assign rfl) ?_
  refine w_end ?_
  refine q_then ?_
  refine c_ret ?_
  refine q_then_r ?_
  obtain rfl := Option.some.inj h
  exact fin_ret (v := (I 1)) (results_ok Try.results86 (res_tmp (v := (I 1)) rfl res_nil) rfl) ⟨rfl, rfl⟩ (H.sel' [] rfl rfl)
 ·replace h := bif_f hb1 h
  refine c_skip ?_
  refine q_then ?_
  refine c_seq ?_
  refine rg ?_
  refine st (v := (I 0)) (rv_assign rfl) ?_
  refine w_end ?_
  refine q_then ?_
  refine c_ret ?_
  obtain rfl := Option.some.inj h
  exact fin_ret (v := (I 0)) (results_ok Try.results86 (res_tmp (v := (I 0)) rfl res_nil) rfl) ⟨rfl, rfl⟩ (H.sel' [] rfl rfl)

theorem c_spec_size {n_0 : Int}  {r : Int} (h : M.spec_size n_0 = some r) :
    Cal2 Try.prog 107 [(I n_0)] [] (fun n0 v L => v = (I r) ∧ L = []) := by
 refine cal2 (n := 7) Try.func107 rfl rfl rfl rfl ?_
 intro S0 σ0 n0 hn0 H
 unfold M.spec_size at h
 refine c_seq ?_
 refine rg ?_
 refine st (v := (I 0)) (rv_assign rfl) ?_
 refine w_end ?_
 refine q_then ?_
 refine c_seq ?_
 refine rg ?_
 refine st (v := (I n_0)) (rv_move rfl) ?_
 refine st (v := (I n_0)) (rv_move rfl) ?_
 refine st (v := (I (w64 (0 - n_0)))) (rv_neg (a := n_0) rfl) ?_
 refine st (v := (I (max n_0 (w64 (0 - n_0))))) (rv_max rfl rfl) ?_
 refine st (v := (I (max n_0 (w64 (0 - n_0))))) (rv_assign rfl) ?_
 refine w_end ?_
 refine q_then ?_
 refine c_ret ?_
 obtain rfl := Option.some.inj h
 exact fin_ret (v := (I (max n_0 (w64 (0 - n_0))))) (results_ok Try.results107 (res_tmp (v := (I (max n_0 (w64 (0 - n_0))))) rfl res_nil) rfl) ⟨rfl, rfl⟩ (H.sel' [] rfl rfl)

theorem c_spec_dist {kind_0 : Int} {a_1 : List Int} {b_2 : List Int} {aa_1 : Option Addr} {ca_1 : Nat} {ab_2 : Option Addr} {cb_2 : Nat} {r : Int} (h : M.spec_dist kind_0 a_1 b_2 = some r) :
    Cal2 Try.prog 105 [(I kind_0), (Sl aa_1 a_1 ca_1), (Sl ab_2 b_2 cb_2)] [Ch.ro 0 (Sl aa_1 a_1 ca_1) a_1, Ch.ro 0 (Sl ab_2 b_2 cb_2) b_2] (fun n0 v L => v = (I r) ∧ L = []) := by
 refine cal2 (n := 50) Try.func105 rfl rfl rfl rfl ?_
 intro S0 σ0 n0 hn0 H
 unfold M.spec_dist at h
 refine c_seq ?_
 refine rg ?_
 refine st (v := (I 0)) (rv_assign rfl) ?_
 refine w_end ?_
 refine q_then ?_
 refine c_seq ?_
 refine rg ?_
 refine st (v := (I 0)) (rv_assign rfl) ?_
 refine w_end ?_
 refine q_then ?_
 refine c_seq ?_
 refine c_seq ?_
 refine rg ?_
 refine st (v := (I 0)) (rv_assign rfl) ?_
 refine w_end ?_
 refine q_then ?_
 obtain ⟨o1, hj, h'⟩ := bind_some h
 clear h
 refine c_cut (fun e a w => e = .normal ∧ ∃ (ρ : Nat → Value) (σ : St), a = fr 50 (updL ρ [(7, (I o1))]) ∧ w = σ.w ∧ Hp S0 σ0 σ []) ?_ ?_
 ·clear h'
  rename _ = some o1 => h
  refine c_blk ?_
  refine wp_loopM _ h (fun s2 a w => ∃ (ρ : Nat → Value) (σ : St), a = fr 50 (updL ρ [(0, (I kind_0)), (1, (Sl aa_1 a_1 ca_1)), (2, (Sl ab_2 b_2 cb_2)), (7, (I s2.1)), (8, (I s2.2))]) ∧ w = σ.w ∧ Hp S0 σ0 σ [Ch.ro 0 (Sl aa_1 a_1 ca_1) a_1, Ch.ro 0 (Sl ab_2 b_2 cb_2) b_2]) ⟨_, σ0, fr_join ⟨rfl, rfl, rfl, rfl, rfl, trivial⟩, rfl, H.sel' [0, 1] rfl rfl⟩ ?_
  clear h H
  rintro s2 a w o ⟨ρ, σ3, rfl, rfl, H⟩ h hres
  refine c_seq ?_
  refine c_seq ?_
  refine rg ?_
  refine st (v := (I s2.2)) (rv_move rfl) ?_
  refine st (v := (Sl aa_1 a_1 ca_1)) (rv_move rfl) ?_
  refine st (v := (I (a_1.length : Int))) (rv_len Try.underlying29 rfl) ?_
  refine st (v := (B (decide (s2.2 < (a_1.length : Int))))) (rv_lss (a := s2.2) (b := (a_1.length : Int)) rfl rfl) ?_
  refine w_end ?_
  refine q_then ?_
  refine cd_cond (decide (s2.2 < (a_1.length : Int))) rfl (fun hb4 => ?_) (fun hb4 => ?_)
  ·replace h := bif_t hb4 h
   refine c_skip ?_
   refine q_then ?_
   refine c_seq ?_
   obtain ⟨o5, hj, h'⟩ := bind_some h
   clear h
   refine c_cut (fun e a w => e = .normal ∧ ∃ (ρ : Nat → Value) (σ : St), a = fr 50 (updL ρ [(0, (I kind_0)), (1, (Sl aa_1 a_1 ca_1)), (2, (Sl ab_2 b_2 cb_2)), (7, (I o5)), (8, (I s2.2))]) ∧ w = σ.w ∧ Hp S0 σ0 σ [Ch.ro 0 (Sl aa_1 a_1 ca_1) a_1, Ch.ro 0 (Sl ab_2 b_2 cb_2) b_2]) ?_ ?_
   ·clear h'
    rename _ = some o5 => h
    refine c_blk ?_
    refine c_seq ?_
    refine rgP (σ := σ3) 8 (by kernel_rfl) (by kernel_rfl) (by kernel_rfl) ?_
    refine sq (v := (Sl aa_1 a_1 ca_1)) (rv_move rfl) ?_
    refine sq (v := (I s2.2)) (rv_move rfl) ?_
    obtain ⟨x6, hx7, h'⟩ := bind_some h
    clear h
    have h := h'; clear h'
    obtain ⟨b9, o10, hi8, -⟩ := (H.ro 0 rfl).ix hx7
    refine sq (v := (pt b9 o10)) (rv_ix Try.underlying29 ti3 rfl rfl hi8) ?_
    have hc11 := ((H.ro 0 rfl).at hx7 hi8).int
    refine sq (v := (I x6)) (rv_load1 Try.underlying3 rfl rfl hc11) ?_
    refine sq (v := (Sl ab_2 b_2 cb_2)) (rv_move rfl) ?_
    refine sq (v := (I s2.2)) (rv_move rfl) ?_
    obtain ⟨x12, hx13, h'⟩ := bind_some h
    clear h
    have h := h'; clear h'
    obtain ⟨b15, o16, hi14, -⟩ := (H.ro 1 rfl).ix hx13
    refine sq (v := (pt b15 o16)) (rv_ix Try.underlying29 ti3 rfl rfl hi14) ?_
    have hc17 := ((H.ro 1 rfl).at hx13 hi14).int
    refine sq (v := (I x12)) (rv_load1 Try.underlying3 rfl rfl hc17) ?_
    refine sq_end ?_
    intro σ18 hm19
    replace H := H.grow (hm19.mono fun _ h => h); clear hm19
    refine st (v := (I (w64 (x6 - x12)))) (rv_sub (a := x6) (b := x12) rfl rfl) ?_
    obtain ⟨r20, hx21, h'⟩ := bind_some h
    clear h
    have h := h'; clear h'
    have hc22 := c_spec_size hx21
    refine st_call (cx_call hc22 (ent_f hc22.fn rfl) hn0 (show Hp S0 σ0 _ ([] ++ [Ch.ro 0 (Sl aa_1 a_1 ca_1) a_1, Ch.ro 0 (Sl ab_2 b_2 cb_2) b_2]) from (H.sel' [0, 1] rfl rfl))) wn ?_
    rintro _ σ23 ⟨_, ⟨rfl, rfl⟩, H, -⟩
    replace H : Hp S0 σ0 σ23 [Ch.ro 0 (Sl aa_1 a_1 ca_1) a_1, Ch.ro 0 (Sl ab_2 b_2 cb_2) b_2] := H
    refine st (v := (I r20)) (rv_assign rfl) ?_
    refine w_end ?_
    refine q_then ?_
    refine c_seq ?_
    refine rg ?_
    refine st (v := (I kind_0)) (rv_move rfl) ?_
    refine w_end ?_
    refine q_then ?_
    refine c_blk ?_
    refine c_seq ?_
    refine rg ?_
    refine st (v := (B (kind_0 == 1))) (rv_eql (a := kind_0) (b := 1) rfl rfl) ?_
    refine st (v := (B (kind_0 == 1))) (rv_assign rfl) ?_
    refine w_end ?_
    refine q_then ?_
    refine cd_cond (kind_0 == 1) rfl (fun hb24 => ?_) (fun hb24 => ?_)
    ·replace h := bif_t hb24 h
     refine rg ?_
     refine st (v := (I s2.1)) (rv_move rfl) ?_
     refine st (v := (I r20)) (rv_move rfl) ?_
     refine st (v := (I (w64 (s2.1 + r20)))) (rv_add (a := s2.1) (b := r20) rfl rfl) ?_
     refine st (v := (I (w64 (s2.1 + r20)))) (rv_assign rfl) ?_
     refine w_end ?_
     refine q_blk ?_
     refine q_blk ?_
     obtain rfl := Option.some.inj h
     exact ⟨rfl, _, σ23, fr_join ⟨rfl, rfl, rfl, rfl, rfl, trivial⟩, rfl, H.sel' [0, 1] rfl rfl⟩
    ·replace h := bif_f hb24 h
     refine c_seq ?_
     refine rg ?_
     refine st (v := (B (kind_0 == 2))) (rv_eql (a := kind_0) (b := 2) rfl rfl) ?_
     refine st (v := (B (kind_0 == 2))) (rv_assign rfl) ?_
     refine w_end ?_
     refine q_then ?_
     refine cd_cond (kind_0 == 2) rfl (fun hb25 => ?_) (fun hb25 => ?_)
     ·replace h := bif_t hb25 h
      refine rg ?_
      refine st (v := (I s2.1)) (rv_move rfl) ?_
      refine st (v := (I r20)) (rv_move rfl) ?_
      refine st (v := (I (max s2.1 r20))) (rv_max rfl rfl) ?_
      refine st (v := (I (max s2.1 r20))) (rv_assign rfl) ?_
      refine w_end ?_
      refine q_blk ?_
      refine q_blk ?_
      obtain rfl := Option.some.inj h
      exact ⟨rfl, _, σ23, fr_join ⟨rfl, rfl, rfl, rfl, rfl, trivial⟩, rfl, H.sel' [0, 1] rfl rfl⟩
     ·replace h := bif_f hb25 h
      refine c_seq ?_
      refine rg ?_
      refine st (v := (B (kind_0 == 3))) (rv_eql (a := kind_0) (b := 3) rfl rfl) ?_
      refine st (v := (B (kind_0 == 3))) (rv_assign rfl) ?_
      refine w_end ?_
      refine q_then ?_
      refine cd_cond (kind_0 == 3) rfl (fun hb26 => ?_) (fun hb26 => ?_)
      ·replace h := bif_t hb26 h
       refine rg ?_
       refine st (v := (I s2.1)) (rv_move rfl) ?_
       refine st (v := (I r20)) (rv_move rfl) ?_
       refine st (v := (I r20)) (rv_move rfl) ?_
       refine st (v := (I (w64 (r20 * r20)))) (rv_mul (a := r20) (b := r20) rfl rfl) ?_
       refine st (v := (I (w64 (s2.1 + (w64 (r20 * r20)))))) (rv_add (a := s2.1) (b := (w64 (r20 * r20))) rfl rfl) ?_
       refine st (v := (I (w64 (s2.1 + (w64 (r20 * r20)))))) (rv_assign rfl) ?_
       refine w_end ?_
       refine q_blk ?_
       refine q_blk ?_
       obtain rfl := Option.some.inj h
       exact ⟨rfl, _, σ23, fr_join ⟨rfl, rfl, rfl, rfl, rfl, trivial⟩, rfl, H.sel' [0, 1] rfl rfl⟩
      ·replace h := bif_f hb26 h
       refine rg ?_
       refine st (v := (I s2.1)) (rv_move rfl) ?_
       refine st (v := (I r20)) (rv_move rfl) ?_
       refine st (v := (B (decide (0 < r20)))) (rv_gtr (a := r20) (b := 0) rfl rfl) ?_
       obtain ⟨r27, hx28, h'⟩ := bind_some h
       clear h
       have h := h'; clear h'
       have hc29 := c_spec_toInt hx28
       refine st_call (cx_call hc29 (ent_f hc29.fn rfl) hn0 (show Hp S0 σ0 _ ([] ++ [Ch.ro 0 (Sl aa_1 a_1 ca_1) a_1, Ch.ro 0 (Sl ab_2 b_2 cb_2) b_2]) from (H.sel' [0, 1] rfl rfl))) wn ?_
       rintro _ σ30 ⟨_, ⟨rfl, rfl⟩, H, -⟩
       replace H : Hp S0 σ0 σ30 [Ch.ro 0 (Sl aa_1 a_1 ca_1) a_1, Ch.ro 0 (Sl ab_2 b_2 cb_2) b_2] := H
       refine st (v := (I (w64 (s2.1 + r27)))) (rv_add (a := s2.1) (b := r27) rfl rfl) ?_
       refine st (v := (I (w64 (s2.1 + r27)))) (rv_assign rfl) ?_
       refine w_end ?_
       refine q_blk ?_
       refine q_blk ?_
       obtain rfl := Option.some.inj h
       exact ⟨rfl, _, σ30, fr_join ⟨rfl, rfl, rfl, rfl, rfl, trivial⟩, rfl, H.sel' [0, 1] rfl rfl⟩
   ·clear hj
    have h := h'
    clear h' H
    rintro e a w ⟨rfl, ρ, σ31, rfl, rfl, H⟩
    refine q_then ?_
    refine rg ?_
    refine st (v := (I s2.2)) (rv_move rfl) ?_
    refine st (v := (I (w64 (s2.2 + 1)))) (rv_add (a := s2.2) (b := 1) rfl rfl) ?_
    refine st (v := (I (w64 (s2.2 + 1)))) (rv_assign rfl) ?_
    refine w_end ?_
    refine q_then ?_
    obtain rfl := Option.some.inj h
    exact ⟨_, rfl, _, σ31, fr_join ⟨rfl, rfl, rfl, rfl, rfl, trivial⟩, rfl, H.sel' [0, 1] rfl rfl⟩
  ·replace h := bif_f hb4 h
   refine c_exit ?_
   refine q_then_x ?_
   refine q_then_x ?_
   refine q_blk_hit ?_
   obtain rfl := Option.some.inj h
   obtain rfl := hres _ rfl
   exact ⟨rfl, _, σ3, fr_join ⟨rfl, trivial⟩, rfl, H.sel' [] rfl rfl⟩
 ·clear hj
  have h := h'
  clear h' H
  rintro e a w ⟨rfl, ρ, σ32, rfl, rfl, H⟩
  refine q_then ?_
  refine c_seq ?_
  refine rg ?_
  refine st (v := (I o1)) (rv_move rfl) ?_
  refine st (v := (I o1)) (rv_assign rfl) ?_
  refine w_end ?_
  refine q_then ?_
  refine c_ret ?_
  obtain rfl := Option.some.inj h
  exact fin_ret (v := (I o1)) (results_ok Try.results105 (res_tmp (v := (I o1)) rfl res_nil) rfl) ⟨rfl, rfl⟩ (H.sel' [] rfl rfl)

theorem c_spec_halfDist {a_0 : List Int} {b_1 : List Int} {aa_0 : Option Addr} {ca_0 : Nat} {ab_1 : Option Addr} {cb_1 : Nat} {r : Int} (h : M.spec_halfDist a_0 b_1 = some r) :
    Cal2 Try.prog 102 [(Sl aa_0 a_0 ca_0), (Sl ab_1 b_1 cb_1)] [Ch.ro 0 (Sl aa_0 a_0 ca_0) a_0, Ch.ro 0 (Sl ab_1 b_1 cb_1) b_1] (fun n0 v L => v = (I r) ∧ L = []) := by
 refine cal2 (n := 8) Try.func102 rfl rfl rfl rfl ?_
 intro S0 σ0 n0 hn0 H
 unfold M.spec_halfDist at h
 refine c_seq ?_
 refine rg ?_
 refine st (v := (I 0)) (rv_assign rfl) ?_
 refine w_end ?_
 refine q_then ?_
 refine c_seq ?_
 refine rg ?_
 refine st (v := (Sl aa_0 a_0 ca_0)) (rv_move rfl) ?_
 refine st (v := (Sl ab_1 b_1 cb_1)) (rv_move rfl) ?_
 obtain ⟨r1, hx2, h'⟩ := bind_some h
 clear h
 have h := h'; clear h'
 have hc3 := c_spec_dist (aa_1 := aa_0) (ca_1 := ca_0) (ab_2 := ab_1) (cb_2 := cb_1) hx2
 refine st_call (cx_call hc3 (ent_f hc3.fn rfl) hn0 (show Hp S0 σ0 _ ([Ch.ro 0 (Sl aa_0 a_0 ca_0) a_0, Ch.ro 0 (Sl ab_1 b_1 cb_1) b_1] ++ [Ch.ro 0 (Sl aa_0 a_0 ca_0) a_0, Ch.ro 0 (Sl ab_1 b_1 cb_1) b_1]) from (H.sel' [0, 1, 0, 1] rfl rfl))) wn ?_
 rintro _ σ4 ⟨_, ⟨rfl, rfl⟩, H, -⟩
 replace H : Hp S0 σ0 σ4 [Ch.ro 0 (Sl aa_0 a_0 ca_0) a_0, Ch.ro 0 (Sl ab_1 b_1 cb_1) b_1] := H
 refine st (v := (I r1)) (rv_assign rfl) ?_
 refine w_end ?_
 refine q_then ?_
 refine c_ret ?_
 obtain rfl := Option.some.inj h
 exact fin_ret (v := (I r1)) (results_ok Try.results102 (res_tmp (v := (I r1)) rfl res_nil) rfl) ⟨rfl, rfl⟩ (H.sel' [] rfl rfl)

theorem c_spec_closest {list_0 : List (List Int)} {half_1 : List Int} {alist_0 : Option Addr} {clist_0 : Nat} {ahalf_1 : Option Addr} {chalf_1 : Nat} {r : Int} (h : M.spec_closest list_0 half_1 = some r) :
    Cal2 Try.prog 94 [(Sl alist_0 list_0 clist_0), (Sl ahalf_1 half_1 chalf_1)] [Ch.ro 0 (Sl alist_0 list_0 clist_0) list_0, Ch.ro 0 (Sl ahalf_1 half_1 chalf_1) half_1] (fun n0 v L => v = (I r) ∧ L = []) := by
 refine cal2 (n := 28) Try.func94 rfl rfl rfl rfl ?_
 intro S0 σ0 n0 hn0 H
 unfold M.spec_closest at h
 refine c_seq ?_
 refine rg ?_
 refine st (v := (I 0)) (rv_assign rfl) ?_
 refine w_end ?_
 refine q_then ?_
 refine c_seq ?_
 refine rg ?_
 refine st (v := (I 0)) (rv_assign rfl) ?_
 refine w_end ?_
 refine q_then ?_
 refine c_seq ?_
 refine c_seq ?_
 refine rg ?_
 refine st (v := (I 1)) (rv_assign rfl) ?_
 refine w_end ?_
 refine q_then ?_
 obtain ⟨o1, hj, h'⟩ := bind_some h
 clear h
 refine c_cut (fun e a w => e = .normal ∧ ∃ (ρ : Nat → Value) (σ : St), a = fr 28 (updL ρ [(5, (I o1))]) ∧ w = σ.w ∧ Hp S0 σ0 σ []) ?_ ?_
 ·clear h'
  rename _ = some o1 => h
  refine c_blk ?_
  refine wp_loopM _ h (fun s2 a w => ∃ (ρ : Nat → Value) (σ : St), a = fr 28 (updL ρ [(0, (Sl alist_0 list_0 clist_0)), (1, (Sl ahalf_1 half_1 chalf_1)), (5, (I s2.1)), (6, (I s2.2))]) ∧ w = σ.w ∧ Hp S0 σ0 σ [Ch.ro 0 (Sl alist_0 list_0 clist_0) list_0, Ch.ro 0 (Sl ahalf_1 half_1 chalf_1) half_1]) ⟨_, σ0, fr_join ⟨rfl, rfl, rfl, rfl, trivial⟩, rfl, H.sel' [0, 1] rfl rfl⟩ ?_
  clear h H
  rintro s2 a w o ⟨ρ, σ3, rfl, rfl, H⟩ h hres
  refine c_seq ?_
  refine c_seq ?_
  refine rg ?_
  refine st (v := (I s2.2)) (rv_move rfl) ?_
  refine st (v := (Sl alist_0 list_0 clist_0)) (rv_move rfl) ?_
  refine st (v := (I (list_0.length : Int))) (rv_len Try.underlying27 rfl) ?_
  refine st (v := (B (decide (s2.2 < (list_0.length : Int))))) (rv_lss (a := s2.2) (b := (list_0.length : Int)) rfl rfl) ?_
  refine w_end ?_
  refine q_then ?_
  refine cd_cond (decide (s2.2 < (list_0.length : Int))) rfl (fun hb4 => ?_) (fun hb4 => ?_)
  ·replace h := bif_t hb4 h
   refine c_skip ?_
   refine q_then ?_
   refine c_seq ?_
   obtain ⟨o5, hj, h'⟩ := bind_some h
   clear h
   refine c_cut (fun e a w => e = .normal ∧ ∃ (ρ : Nat → Value) (σ : St), a = fr 28 (updL ρ [(0, (Sl alist_0 list_0 clist_0)), (1, (Sl ahalf_1 half_1 chalf_1)), (5, (I o5)), (6, (I s2.2))]) ∧ w = σ.w ∧ Hp S0 σ0 σ [Ch.ro 0 (Sl alist_0 list_0 clist_0) list_0, Ch.ro 0 (Sl ahalf_1 half_1 chalf_1) half_1]) ?_ ?_
   ·clear h'
    rename _ = some o5 => h
    refine c_blk ?_
    refine c_seq ?_
    obtain ⟨x6, hx7, h'⟩ := bind_some h
    clear h
    have h := h'; clear h'
    obtain ⟨b9, o10, hi8, -⟩ := (H.ro 0 rfl).ix hx7
    obtain ⟨v14, hc15, hR13⟩ := ((H.ro 0 rfl).at hx7 hi8).slice
    obtain ⟨a11, c12, rfl⟩ := hR13.isSl
    replace H := H.add (d := Ch.ro 0 (Sl a11 x6 c12) x6) hR13 (fun _ h => h)
    clear hR13
    obtain ⟨r16, hx17, h'⟩ := bind_some h
    clear h
    have h := h'; clear h'
    have hc18 := c_spec_halfDist (aa_0 := a11) (ca_0 := c12) (ab_1 := ahalf_1) (cb_1 := chalf_1) hx17
    obtain ⟨x19, hx20, h'⟩ := bind_some h
    clear h
    have h := h'; clear h'
    obtain ⟨b22, o23, hi21, -⟩ := (H.ro 1 rfl).ix hx20
    obtain ⟨v27, hc28, hR26⟩ := ((H.ro 1 rfl).at hx20 hi21).slice
    obtain ⟨a24, c25, rfl⟩ := hR26.isSl
    replace H := H.add (d := Ch.ro 0 (Sl a24 x19 c25) x19) hR26 (fun _ h => h)
    clear hR26
    have Hs := H
    refine rg2 (σ := σ3) (Nm := Unit) 11 [5] [[false], [true]] [[(0, 0)], [(0, 0)], [(0, 0)], [(0, 0)], [(0, 0)], [(0, 1)], [(0, 0), (1, 1)], [(0, 0), (1, 1)], [(0, 0), (1, 1)], [(0, 0), (1, 1)], [(0, 0), (1, 1)]] 1 [fun _ => fun σm => Hp S0 σ0 σm [Ch.ro 0 (Sl a24 x19 c25) x19, Ch.ro 0 (Sl a11 x6 c12) x6, Ch.ro 0 (Sl alist_0 list_0 clist_0) list_0, Ch.ro 0 (Sl ahalf_1 half_1 chalf_1) half_1] ∧ Md (cov []) σ3 σm, fun _ => fun σm => Hp S0 σ0 σm [Ch.ro 0 (Sl a24 x19 c25) x19, Ch.ro 0 (Sl a11 x6 c12) x6, Ch.ro 0 (Sl alist_0 list_0 clist_0) list_0, Ch.ro 0 (Sl ahalf_1 half_1 chalf_1) half_1] ∧ Md (cov []) σ3 σm] [fun _ => (Sl alist_0 list_0 clist_0), fun _ => (I s2.2), fun _ => (pt b9 o10), fun _ => (Sl a11 x6 c12), fun _ => (Sl ahalf_1 half_1 chalf_1), fun _ => (I r16), fun _ => (Sl alist_0 list_0 clist_0), fun _ => (I s2.1), fun _ => (pt b22 o23), fun _ => (Sl a24 x19 c25), fun _ => (Sl ahalf_1 half_1 chalf_1)] () (by kernel_rfl) (by kernel_rfl) ?_ ?_ ?_
    ·intro σm m0
     exact ⟨H.grow (m0.mono fun _ h => h.elim), m0⟩
    ·refine ac rfl (by
       intro k _nm ρ σm hJ hoff hdep
       have e0 := look_off (N := 28) (hoff 0 rfl) rfl
       exact dp_v (v := (Sl alist_0 list_0 clist_0)) wn (rv_move e0) rfl hJ) ?_
     refine ac rfl (by
       intro k _nm ρ σm hJ hoff hdep
       have e6 := look_off (N := 28) (hoff 6 rfl) rfl
       exact dp_v (v := (I s2.2)) wn (rv_move e6) rfl hJ) ?_
     refine ac rfl (by
       intro k _nm ρ σm hJ hoff hdep
       have e13 := hdep 0 rfl rfl 13 rfl
       have e14 := hdep 1 rfl rfl 14 rfl
       exact dp_v (v := (pt b9 o10)) wn (rv_ix Try.underlying27 ti29 e13 e14 hi8) rfl hJ) ?_
     refine all_cons (by
       refine ⟨?_, ?_⟩
       ·intro _nm ρ σm hJ hoff hdep
        have e15 := hdep 2 rfl rfl 15 rfl
        obtain ⟨H, m⟩ := id hJ
        replace hc15 := (Hs.ro 2 rfl).hmd hx7 hi8 (k := 0) (by decide) hc15 m
        exact dp_v (v := (Sl a11 x6 c12)) wn (rv_load1 Try.underlying29 rfl e15 hc15) rfl hJ
       trivial) ?_
     refine ac rfl (by
       intro k _nm ρ σm hJ hoff hdep
       have e1 := look_off (N := 28) (hoff 1 rfl) rfl
       exact dp_v (v := (Sl ahalf_1 half_1 chalf_1)) wn (rv_move e1) rfl hJ) ?_
     refine all_cons (by
       refine ⟨?_, ?_⟩
       ·intro _nm ρ σm hJ hoff hdep
        have e16 : look 28 ρ 16 = (Sl a11 x6 c12) := hdep 3 rfl rfl 16 rfl
        have e17 : look 28 ρ 17 = (Sl ahalf_1 half_1 chalf_1) := hdep 4 rfl rfl 17 rfl
        obtain ⟨H, m⟩ := id hJ
        refine dp_cx wn (cx_call hc18 (ent_f hc18.fn (by show [look 28 ρ 16, look 28 ρ 17] = _; rw [e16, e17])) hn0 (show Hp S0 σ0 _ ([Ch.ro 0 (Sl a11 x6 c12) x6, Ch.ro 0 (Sl ahalf_1 half_1 chalf_1) half_1] ++ [Ch.ro 0 (Sl a24 x19 c25) x19, Ch.ro 0 (Sl a11 x6 c12) x6, Ch.ro 0 (Sl alist_0 list_0 clist_0) list_0, Ch.ro 0 (Sl ahalf_1 half_1 chalf_1) half_1]) from (H.sel' [1, 3, 0, 1, 2, 3] rfl rfl))) ?_
        rintro _ σq ⟨_, ⟨rfl, rfl⟩, H2, m2⟩
        exact ⟨_, (), rfl, rfl, ⟨H2.sel' [0, 1, 2, 3] rfl rfl, m.comp0 (m2.mono (fun i h => by simp [cov, Ch.ro] at h))⟩, stab [0, 1, 2, 3, 4, 6, 7, 8, 9, 10] (by kernel_rfl) ⟨rfl, rfl, rfl, rfl, rfl, rfl, rfl, rfl, rfl, rfl, trivial⟩⟩
       trivial) ?_
     refine ac rfl (by
       intro k _nm ρ σm hJ hoff hdep
       have e0 := look_off (N := 28) (hoff 0 rfl) rfl
       exact dp_v (v := (Sl alist_0 list_0 clist_0)) wn (rv_move e0) rfl hJ) ?_
     refine ac rfl (by
       intro k _nm ρ σm hJ hoff hdep
       have e5 := look_off (N := 28) (hoff 5 rfl) rfl
       exact dp_v (v := (I s2.1)) wn (rv_move e5) rfl hJ) ?_
     refine ac rfl (by
       intro k _nm ρ σm hJ hoff hdep
       have e19 := hdep 6 rfl rfl 19 rfl
       have e20 := hdep 7 rfl rfl 20 rfl
       exact dp_v (v := (pt b22 o23)) wn (rv_ix Try.underlying27 ti29 e19 e20 hi21) rfl hJ) ?_
     refine all_cons (by
       refine ⟨?_, ?_⟩
       ·intro _nm ρ σm hJ hoff hdep
        have e21 := hdep 8 rfl rfl 21 rfl
        obtain ⟨H, m⟩ := id hJ
        replace hc28 := (Hs.ro 2 rfl).hmd hx20 hi21 (k := 0) (by decide) hc28 m
        exact dp_v (v := (Sl a24 x19 c25)) wn (rv_load1 Try.underlying29 rfl e21 hc28) rfl hJ
       refine ⟨?_, ?_⟩
       ·intro _nm ρ σm hJ hoff hdep
        have e21 := hdep 8 rfl rfl 21 rfl
        obtain ⟨H, m⟩ := id hJ
        replace hc28 := (Hs.ro 2 rfl).hmd hx20 hi21 (k := 0) (by decide) hc28 m
        exact dp_v (v := (Sl a24 x19 c25)) wn (rv_load1 Try.underlying29 rfl e21 hc28) rfl hJ
       trivial) ?_
     refine ac rfl (by
       intro k _nm ρ σm hJ hoff hdep
       have e1 := look_off (N := 28) (hoff 1 rfl) rfl
       exact dp_v (v := (Sl ahalf_1 half_1 chalf_1)) wn (rv_move e1) rfl hJ) ?_
     exact all_nil
    ·intro _nm ρ σ29 hJ hoff hrel
     have e0 := look_off (N := 28) (hoff 0 rfl) rfl
     have e1 := look_off (N := 28) (hoff 1 rfl) rfl
     have e5 := look_off (N := 28) (hoff 5 rfl) rfl
     have e6 := look_off (N := 28) (hoff 6 rfl) rfl
     have e18 := hrel 5 rfl 18 rfl
     have e22 := hrel 9 rfl 22 rfl
     have e23 := hrel 10 rfl 23 rfl
     obtain ⟨H, -⟩ := (show Hp S0 σ0 σ29 [Ch.ro 0 (Sl a24 x19 c25) x19, Ch.ro 0 (Sl a11 x6 c12) x6, Ch.ro 0 (Sl alist_0 list_0 clist_0) list_0, Ch.ro 0 (Sl ahalf_1 half_1 chalf_1) half_1] ∧ Md (cov []) σ3 σ29 from hJ)
     clear hJ Hs
     rw [fr_lookL (L := [(0, (Sl alist_0 list_0 clist_0)), (1, (Sl ahalf_1 half_1 chalf_1)), (5, (I s2.1)), (6, (I s2.2)), (18, (I r16)), (22, (Sl a24 x19 c25)), (23, (Sl ahalf_1 half_1 chalf_1))]) ⟨e0, e1, e5, e6, e18, e22, e23, trivial⟩]
     clear hoff hrel e0 e1 e5 e6 e18 e22 e23
     obtain ⟨r30, hx31, h'⟩ := bind_some h
     clear h
     have h := h'; clear h'
     have hc32 := c_spec_halfDist (aa_0 := a24) (ca_0 := c25) (ab_1 := ahalf_1) (cb_1 := chalf_1) hx31
     refine st_call (cx_call hc32 (ent_f hc32.fn rfl) hn0 (show Hp S0 σ0 _ ([Ch.ro 0 (Sl a24 x19 c25) x19, Ch.ro 0 (Sl ahalf_1 half_1 chalf_1) half_1] ++ [Ch.ro 0 (Sl a24 x19 c25) x19, Ch.ro 0 (Sl a11 x6 c12) x6, Ch.ro 0 (Sl alist_0 list_0 clist_0) list_0, Ch.ro 0 (Sl ahalf_1 half_1 chalf_1) half_1]) from (H.sel' [0, 3, 0, 1, 2, 3] rfl rfl))) wn ?_
     rintro _ σ33 ⟨_, ⟨rfl, rfl⟩, H, -⟩
     replace H : Hp S0 σ0 σ33 [Ch.ro 0 (Sl a24 x19 c25) x19, Ch.ro 0 (Sl a11 x6 c12) x6, Ch.ro 0 (Sl alist_0 list_0 clist_0) list_0, Ch.ro 0 (Sl ahalf_1 half_1 chalf_1) half_1] := H
     refine st (v := (B (decide (r16 < r30)))) (rv_lss (a := r16) (b := r30) rfl rfl) ?_
     refine w_end ?_
     refine q_then ?_
     refine cd_cond (decide (r16 < r30)) rfl (fun hb34 => ?_) (fun hb34 => ?_)
     ·replace h := bif_t hb34 h
      refine rg ?_
      refine st (v := (I s2.2)) (rv_move rfl) ?_
      refine st (v := (I s2.2)) (rv_assign rfl) ?_
      refine w_end ?_
      refine q_blk ?_
      obtain rfl := Option.some.inj h
      exact ⟨rfl, _, σ33, fr_join ⟨rfl, rfl, rfl, rfl, trivial⟩, rfl, H.sel' [2, 3] rfl rfl⟩
     ·replace h := bif_f hb34 h
      refine c_skip ?_
      refine q_blk ?_
      obtain rfl := Option.some.inj h
      exact ⟨rfl, _, σ33, fr_join ⟨rfl, rfl, rfl, rfl, trivial⟩, rfl, H.sel' [2, 3] rfl rfl⟩
   ·clear hj
    have h := h'
    clear h' H
    rintro e a w ⟨rfl, ρ, σ35, rfl, rfl, H⟩
    refine q_then ?_
    refine rg ?_
    refine st (v := (I s2.2)) (rv_move rfl) ?_
    refine st (v := (I (w64 (s2.2 + 1)))) (rv_add (a := s2.2) (b := 1) rfl rfl) ?_
    refine st (v := (I (w64 (s2.2 + 1)))) (rv_assign rfl) ?_
    refine w_end ?_
    refine q_then ?_
    obtain rfl := Option.some.inj h
    exact ⟨_, rfl, _, σ35, fr_join ⟨rfl, rfl, rfl, rfl, trivial⟩, rfl, H.sel' [0, 1] rfl rfl⟩
  ·replace h := bif_f hb4 h
   refine c_exit ?_
   refine q_then_x ?_
   refine q_then_x ?_
   refine q_blk_hit ?_
   obtain rfl := Option.some.inj h
   obtain rfl := hres _ rfl
   exact ⟨rfl, _, σ3, fr_join ⟨rfl, trivial⟩, rfl, H.sel' [] rfl rfl⟩
 ·clear hj
  have h := h'
  clear h' H
  rintro e a w ⟨rfl, ρ, σ36, rfl, rfl, H⟩
  refine q_then ?_
  refine c_seq ?_
  refine rg ?_
  refine st (v := (I o1)) (rv_move rfl) ?_
  refine st (v := (I o1)) (rv_assign rfl) ?_
  refine w_end ?_
  refine q_then ?_
  refine c_ret ?_
  obtain rfl := Option.some.inj h
  exact fin_ret (v := (I o1)) (results_ok Try.results94 (res_tmp (v := (I o1)) rfl res_nil) rfl) ⟨rfl, rfl⟩ (H.sel' [] rfl rfl)

theorem c_spec_encode {b_0 : (List (List Int)) × (List (List Int))} {at_1 : List Int} {ab_0_0 : Option Addr} {cb_0_0 : Nat} {ab_0_1 : Option Addr} {cb_0_1 : Nat} {aat_1 : Option Addr} {cat_1 : Nat} {r : Int} (h : M.spec_encode b_0 at_1 = some r) :
    Cal2 Try.prog 65 [(.agg #[(Sl ab_0_0 b_0.1 cb_0_0), (Sl ab_0_1 b_0.2 cb_0_1)]), (Sl aat_1 at_1 cat_1)] [Ch.ro 0 (Sl ab_0_0 b_0.1 cb_0_0) b_0.1, Ch.ro 0 (Sl ab_0_1 b_0.2 cb_0_1) b_0.2, Ch.ro 0 (Sl aat_1 at_1 cat_1) at_1] (fun n0 v L => v = (I r) ∧ L = []) := by
 refine cal2 (n := 17) Try.func65 rfl rfl rfl rfl ?_
 intro S0 σ0 n0 hn0 H
 unfold M.spec_encode at h
 refine c_seq ?_
 refine rg ?_
 refine st_ex (ex_box (cs := [(Sl ab_0_0 b_0.1 cb_0_0), (Sl ab_0_1 b_0.2 cb_0_1)]) H hn0 rfl rfl) wn ?_
 rintro _ σ2 ⟨b1, rfl, H, -⟩
 refine st (v := (I 0)) (rv_assign rfl) ?_
 refine w_end ?_
 refine q_then ?_
 refine c_seq ?_
 have hc3 := H.cell (u := (Sl ab_0_0 b_0.1 cb_0_0)) (o' := 0) 0 0 rfl rfl rfl
 obtain ⟨xs4, hx5, h'⟩ := bind_some h
 clear h
 have h := h'; clear h'
 obtain ⟨a6, c7, hs8, hR9⟩ := (H.ro 3 rfl).slice hx5
 replace H := H.add (d := Ch.ro 0 (Sl a6 xs4 c7) xs4) hR9 (fun _ h => h)
 clear hR9
 obtain ⟨r10, hx11, h'⟩ := bind_some h
 clear h
 have h := h'; clear h'
 have hc12 := c_spec_closest (alist_0 := ab_0_0) (clist_0 := cb_0_0) (ahalf_1 := a6) (chalf_1 := c7) hx11
 have hc13 := H.cell (u := (Sl ab_0_1 b_0.2 cb_0_1)) (o' := 1) 1 1 rfl rfl rfl
 obtain ⟨xs14, hx15, h'⟩ := bind_some h
 clear h
 have h := h'; clear h'
 obtain ⟨a16, c17, hs18, hR19⟩ := (H.ro 4 rfl).slice hx15
 replace H := H.add (d := Ch.ro 0 (Sl a16 xs14 c17) xs14) hR19 (fun _ h => h)
 clear hR19
 obtain ⟨r20, hx21, h'⟩ := bind_some h
 clear h
 have h := h'; clear h'
 have hc22 := c_spec_closest (alist_0 := ab_0_1) (clist_0 := cb_0_1) (ahalf_1 := a16) (chalf_1 := c17) hx21
 have Hs := H
 refine rg2 (σ := σ2) (Nm := Unit) 11 [4, 10] [[false, false], [true, false], [true, true]] [[(0, 0)], [(0, 0)], [(0, 0)], [(0, 0)], [(0, 1)], [(1, 1), (2, 2)], [(0, 0), (1, 1)], [(0, 0), (1, 1)], [(0, 0), (1, 1)], [(0, 0), (1, 1)], [(1, 2)]] 2 [fun _ => fun σm => Hp S0 σ0 σm [Ch.ro 0 (Sl a16 xs14 c17) xs14, Ch.ro 0 (Sl a6 xs4 c7) xs4, Ch.bx n0 b1 0 [(Sl ab_0_0 b_0.1 cb_0_0), (Sl ab_0_1 b_0.2 cb_0_1)] [] [], Ch.ro 0 (Sl ab_0_0 b_0.1 cb_0_0) b_0.1, Ch.ro 0 (Sl ab_0_1 b_0.2 cb_0_1) b_0.2, Ch.ro 0 (Sl aat_1 at_1 cat_1) at_1] ∧ Md (cov []) σ2 σm, fun _ => fun σm => Hp S0 σ0 σm [Ch.ro 0 (Sl a16 xs14 c17) xs14, Ch.ro 0 (Sl a6 xs4 c7) xs4, Ch.bx n0 b1 0 [(Sl ab_0_0 b_0.1 cb_0_0), (Sl ab_0_1 b_0.2 cb_0_1)] [] [], Ch.ro 0 (Sl ab_0_0 b_0.1 cb_0_0) b_0.1, Ch.ro 0 (Sl ab_0_1 b_0.2 cb_0_1) b_0.2, Ch.ro 0 (Sl aat_1 at_1 cat_1) at_1] ∧ Md (cov []) σ2 σm, fun _ => fun σm => Hp S0 σ0 σm [Ch.ro 0 (Sl a16 xs14 c17) xs14, Ch.ro 0 (Sl a6 xs4 c7) xs4, Ch.bx n0 b1 0 [(Sl ab_0_0 b_0.1 cb_0_0), (Sl ab_0_1 b_0.2 cb_0_1)] [] [], Ch.ro 0 (Sl ab_0_0 b_0.1 cb_0_0) b_0.1, Ch.ro 0 (Sl ab_0_1 b_0.2 cb_0_1) b_0.2, Ch.ro 0 (Sl aat_1 at_1 cat_1) at_1] ∧ Md (cov []) σ2 σm] [fun _ => (pt b1 0), fun _ => (Sl ab_0_0 b_0.1 cb_0_0), fun _ => (Sl aat_1 at_1 cat_1), fun _ => (Sl a6 xs4 c7), fun _ => (I r10), fun _ => (I (w64 (r10 * 4))), fun _ => (pt b1 1), fun _ => (Sl ab_0_1 b_0.2 cb_0_1), fun _ => (Sl aat_1 at_1 cat_1), fun _ => (Sl a16 xs14 c17), fun _ => (I r20)] () (by kernel_rfl) (by kernel_rfl) ?_ ?_ ?_
 ·intro σm m0
  exact ⟨H.grow (m0.mono fun _ h => h.elim), m0⟩
 ·refine ac rfl (by
    intro k _nm ρ σm hJ hoff hdep
    have e2 := look_off (N := 17) (hoff 2 rfl) rfl
    exact dp_v (v := (pt b1 0)) wn (rv_fieldAddr (off := 0) (ft := 27) Try.underlying39 rfl ti27 rfl e2) rfl hJ) ?_
  refine all_cons (by
    refine ⟨?_, ?_⟩
    ·intro _nm ρ σm hJ hoff hdep
     have e5 := hdep 0 rfl rfl 5 rfl
     obtain ⟨H, m⟩ := id hJ
     have hc3 := H.cell (u := (Sl ab_0_0 b_0.1 cb_0_0)) (o' := 0) 2 0 rfl rfl rfl
     exact dp_v (v := (Sl ab_0_0 b_0.1 cb_0_0)) wn (rv_load1 Try.underlying27 rfl e5 hc3) rfl hJ
    trivial) ?_
  refine ac rfl (by
    intro k _nm ρ σm hJ hoff hdep
    have e1 := look_off (N := 17) (hoff 1 rfl) rfl
    exact dp_v (v := (Sl aat_1 at_1 cat_1)) wn (rv_move e1) rfl hJ) ?_
  refine ac rfl (by
    intro k _nm ρ σm hJ hoff hdep
    have e7 := hdep 2 rfl rfl 7 rfl
    exact dp_v (v := (Sl a6 xs4 c7)) wn (rv_slice_h Try.underlying29 ti3 hs8 e7 rfl) rfl hJ) ?_
  refine all_cons (by
    refine ⟨?_, ?_⟩
    ·intro _nm ρ σm hJ hoff hdep
     have e6 : look 17 ρ 6 = (Sl ab_0_0 b_0.1 cb_0_0) := hdep 1 rfl rfl 6 rfl
     have e8 : look 17 ρ 8 = (Sl a6 xs4 c7) := hdep 3 rfl rfl 8 rfl
     obtain ⟨H, m⟩ := id hJ
     refine dp_cx wn (cx_call hc12 (ent_f hc12.fn (by show [look 17 ρ 6, look 17 ρ 8] = _; rw [e6, e8])) hn0 (show Hp S0 σ0 _ ([Ch.ro 0 (Sl ab_0_0 b_0.1 cb_0_0) b_0.1, Ch.ro 0 (Sl a6 xs4 c7) xs4] ++ [Ch.ro 0 (Sl a16 xs14 c17) xs14, Ch.ro 0 (Sl a6 xs4 c7) xs4, Ch.bx n0 b1 0 [(Sl ab_0_0 b_0.1 cb_0_0), (Sl ab_0_1 b_0.2 cb_0_1)] [] [], Ch.ro 0 (Sl ab_0_0 b_0.1 cb_0_0) b_0.1, Ch.ro 0 (Sl ab_0_1 b_0.2 cb_0_1) b_0.2, Ch.ro 0 (Sl aat_1 at_1 cat_1) at_1]) from (H.sel' [3, 1, 0, 1, 2, 3, 4, 5] rfl rfl))) ?_
     rintro _ σq ⟨_, ⟨rfl, rfl⟩, H2, m2⟩
     exact ⟨_, (), rfl, rfl, ⟨H2.sel' [0, 1, 2, 3, 4, 5] rfl rfl, m.comp0 (m2.mono (fun i h => by simp [cov, Ch.ro] at h))⟩, stab [0, 1, 2, 3, 6, 7, 8, 9] (by kernel_rfl) ⟨rfl, rfl, rfl, rfl, rfl, rfl, rfl, rfl, trivial⟩⟩
    trivial) ?_
  refine ac rfl (by
    intro k _nm ρ σm hJ hoff hdep
    have e9 := hdep 4 rfl rfl 9 rfl
    exact dp_v (v := (I (w64 (r10 * 4)))) wn (rv_mul (a := r10) (b := 4) e9 rfl) rfl hJ) ?_
  refine ac rfl (by
    intro k _nm ρ σm hJ hoff hdep
    have e2 := look_off (N := 17) (hoff 2 rfl) rfl
    exact dp_v (v := (pt b1 1)) wn (rv_fieldAddr (off := 1) (ft := 27) Try.underlying39 rfl ti27 rfl e2) rfl hJ) ?_
  refine all_cons (by
    refine ⟨?_, ?_⟩
    ·intro _nm ρ σm hJ hoff hdep
     have e11 := hdep 6 rfl rfl 11 rfl
     obtain ⟨H, m⟩ := id hJ
     have hc13 := H.cell (u := (Sl ab_0_1 b_0.2 cb_0_1)) (o' := 1) 2 1 rfl rfl rfl
     exact dp_v (v := (Sl ab_0_1 b_0.2 cb_0_1)) wn (rv_load1 Try.underlying27 rfl e11 hc13) rfl hJ
    refine ⟨?_, ?_⟩
    ·intro _nm ρ σm hJ hoff hdep
     have e11 := hdep 6 rfl rfl 11 rfl
     obtain ⟨H, m⟩ := id hJ
     have hc13 := H.cell (u := (Sl ab_0_1 b_0.2 cb_0_1)) (o' := 1) 2 1 rfl rfl rfl
     exact dp_v (v := (Sl ab_0_1 b_0.2 cb_0_1)) wn (rv_load1 Try.underlying27 rfl e11 hc13) rfl hJ
    trivial) ?_
  refine ac rfl (by
    intro k _nm ρ σm hJ hoff hdep
    have e1 := look_off (N := 17) (hoff 1 rfl) rfl
    exact dp_v (v := (Sl aat_1 at_1 cat_1)) wn (rv_move e1) rfl hJ) ?_
  refine ac rfl (by
    intro k _nm ρ σm hJ hoff hdep
    have e13 := hdep 8 rfl rfl 13 rfl
    exact dp_v (v := (Sl a16 xs14 c17)) wn (rv_slice_l Try.underlying29 ti3 hs18 e13 rfl) rfl hJ) ?_
  refine all_cons (by
    refine ⟨?_, ?_⟩
    ·intro _nm ρ σm hJ hoff hdep
     have e12 : look 17 ρ 12 = (Sl ab_0_1 b_0.2 cb_0_1) := hdep 7 rfl rfl 12 rfl
     have e14 : look 17 ρ 14 = (Sl a16 xs14 c17) := hdep 9 rfl rfl 14 rfl
     obtain ⟨H, m⟩ := id hJ
     refine dp_cx wn (cx_call hc22 (ent_f hc22.fn (by show [look 17 ρ 12, look 17 ρ 14] = _; rw [e12, e14])) hn0 (show Hp S0 σ0 _ ([Ch.ro 0 (Sl ab_0_1 b_0.2 cb_0_1) b_0.2, Ch.ro 0 (Sl a16 xs14 c17) xs14] ++ [Ch.ro 0 (Sl a16 xs14 c17) xs14, Ch.ro 0 (Sl a6 xs4 c7) xs4, Ch.bx n0 b1 0 [(Sl ab_0_0 b_0.1 cb_0_0), (Sl ab_0_1 b_0.2 cb_0_1)] [] [], Ch.ro 0 (Sl ab_0_0 b_0.1 cb_0_0) b_0.1, Ch.ro 0 (Sl ab_0_1 b_0.2 cb_0_1) b_0.2, Ch.ro 0 (Sl aat_1 at_1 cat_1) at_1]) from (H.sel' [4, 0, 0, 1, 2, 3, 4, 5] rfl rfl))) ?_
     rintro _ σq ⟨_, ⟨rfl, rfl⟩, H2, m2⟩
     exact ⟨_, (), rfl, rfl, ⟨H2.sel' [0, 1, 2, 3, 4, 5] rfl rfl, m.comp0 (m2.mono (fun i h => by simp [cov, Ch.ro] at h))⟩, stab [0, 1, 2, 3, 4, 5, 6, 7, 8, 9] (by kernel_rfl) ⟨rfl, rfl, rfl, rfl, rfl, rfl, rfl, rfl, rfl, rfl, trivial⟩⟩
    trivial) ?_
  exact all_nil
 ·intro _nm ρ σ23 hJ hoff hrel
  have e10 := hrel 5 rfl 10 rfl
  have e15 := hrel 10 rfl 15 rfl
  obtain ⟨H, -⟩ := (show Hp S0 σ0 σ23 [Ch.ro 0 (Sl a16 xs14 c17) xs14, Ch.ro 0 (Sl a6 xs4 c7) xs4, Ch.bx n0 b1 0 [(Sl ab_0_0 b_0.1 cb_0_0), (Sl ab_0_1 b_0.2 cb_0_1)] [] [], Ch.ro 0 (Sl ab_0_0 b_0.1 cb_0_0) b_0.1, Ch.ro 0 (Sl ab_0_1 b_0.2 cb_0_1) b_0.2, Ch.ro 0 (Sl aat_1 at_1 cat_1) at_1] ∧ Md (cov []) σ2 σ23 from hJ)
  clear hJ Hs
  rw [fr_lookL (L := [(10, (I (w64 (r10 * 4)))), (15, (I r20))]) ⟨e10, e15, trivial⟩]
  clear hoff hrel e10 e15
  refine st (v := (I (w64 ((w64 (r10 * 4)) + r20)))) (rv_add (a := (w64 (r10 * 4))) (b := r20) rfl rfl) ?_
  refine st (v := (I (w64 ((w64 (r10 * 4)) + r20)))) (rv_assign rfl) ?_
  refine w_end ?_
  refine q_then ?_
  refine c_ret ?_
  obtain rfl := Option.some.inj h
  exact fin_ret (v := (I (w64 ((w64 (r10 * 4)) + r20)))) (results_ok Try.results65 (res_tmp (v := (I (w64 ((w64 (r10 * 4)) + r20)))) rfl res_nil) rfl) ⟨rfl, rfl⟩ (H.sel' [] rfl rfl)

theorem c_spec_EncodeVector {b_0 : (List (List Int)) × (List (List Int))} {at_1 : List Int} {ab_0_0 : Option Addr} {cb_0_0 : Nat} {ab_0_1 : Option Addr} {cb_0_1 : Nat} {aat_1 : Option Addr} {cat_1 : Nat} {r : Int} (h : M.spec_EncodeVector b_0 at_1 = some r) :
    Cal2 Try.prog 25 [(.agg #[(Sl ab_0_0 b_0.1 cb_0_0), (Sl ab_0_1 b_0.2 cb_0_1)]), (Sl aat_1 at_1 cat_1)] [Ch.ro 0 (Sl ab_0_0 b_0.1 cb_0_0) b_0.1, Ch.ro 0 (Sl ab_0_1 b_0.2 cb_0_1) b_0.2, Ch.ro 0 (Sl aat_1 at_1 cat_1) at_1] (fun n0 v L => v = (I r) ∧ L = []) := by
 refine cal2 (n := 16) Try.func25 rfl rfl rfl rfl ?_
 intro S0 σ0 n0 hn0 H
 unfold M.spec_EncodeVector at h
 refine c_seq ?_
 refine rg ?_
 refine st_ex (ex_box (cs := [(Sl ab_0_0 b_0.1 cb_0_0), (Sl ab_0_1 b_0.2 cb_0_1)]) H hn0 rfl rfl) wn ?_
 rintro _ σ2 ⟨b1, rfl, H, -⟩
 refine st (v := (I 0)) (rv_assign rfl) ?_
 refine w_end ?_
 refine q_then ?_
 refine c_seq ?_
 refine c_seq ?_
 obtain ⟨o3, hj, h'⟩ := bind_some h
 clear h
 refine c_cut (fun e a w => e = .normal ∧ ∃ (ρ : Nat → Value) (σ : St), a = fr 16 (updL ρ [(1, (Sl aat_1 at_1 cat_1)), (2, (pt b1 0)), (12, (B o3))]) ∧ w = σ.w ∧ Hp S0 σ0 σ [Ch.ro 0 (Sl aat_1 at_1 cat_1) at_1, Ch.ro 0 (Sl ab_0_0 b_0.1 cb_0_0) b_0.1, Ch.ro 0 (Sl ab_0_1 b_0.2 cb_0_1) b_0.2, Ch.bx n0 b1 0 [(Sl ab_0_0 b_0.1 cb_0_0), (Sl ab_0_1 b_0.2 cb_0_1)] [] []]) ?_ ?_
 ·clear h'
  rename _ = some o3 => h
  refine rg ?_
  have hc4 := H.cells 0 rfl
  refine st (v := (.agg #[(Sl ab_0_0 b_0.1 cb_0_0), (Sl ab_0_1 b_0.2 cb_0_1)])) (rv_load (cs := [(Sl ab_0_0 b_0.1 cb_0_0), (Sl ab_0_1 b_0.2 cb_0_1)]) Try.underlying39 rfl ti39 rfl rfl hc4) ?_
  obtain ⟨r5, hx6, h'⟩ := bind_some h
  clear h
  have h := h'; clear h'
  have hc7 := c_spec_validBook (ab_0_0 := ab_0_0) (cb_0_0 := cb_0_0) (ab_0_1 := ab_0_1) (cb_0_1 := cb_0_1) hx6
  refine st_call (cx_call hc7 (ent_f hc7.fn rfl) hn0 (show Hp S0 σ0 _ ([Ch.ro 0 (Sl ab_0_0 b_0.1 cb_0_0) b_0.1, Ch.ro 0 (Sl ab_0_1 b_0.2 cb_0_1) b_0.2] ++ [Ch.bx n0 b1 0 [(Sl ab_0_0 b_0.1 cb_0_0), (Sl ab_0_1 b_0.2 cb_0_1)] [] [], Ch.ro 0 (Sl ab_0_0 b_0.1 cb_0_0) b_0.1, Ch.ro 0 (Sl ab_0_1 b_0.2 cb_0_1) b_0.2, Ch.ro 0 (Sl aat_1 at_1 cat_1) at_1]) from (H.sel' [1, 2, 0, 1, 2, 3] rfl rfl))) wn ?_
  rintro _ σ8 ⟨_, ⟨rfl, rfl⟩, H, -⟩
  replace H : Hp S0 σ0 σ8 [Ch.bx n0 b1 0 [(Sl ab_0_0 b_0.1 cb_0_0), (Sl ab_0_1 b_0.2 cb_0_1)] [] [], Ch.ro 0 (Sl ab_0_0 b_0.1 cb_0_0) b_0.1, Ch.ro 0 (Sl ab_0_1 b_0.2 cb_0_1) b_0.2, Ch.ro 0 (Sl aat_1 at_1 cat_1) at_1] := H
  refine st (v := (B (!r5))) (rv_not rfl) ?_
  refine st (v := (B (!r5))) (rv_move rfl) ?_
  rcases Bool.eq_false_or_eq_true (!r5) with hb9 | hb9
  ·replace h := bif_t hb9 h
   refine st_skip (congrArg some hb9) ?_
   refine st_skip (congrArg some hb9) ?_
   refine st_skip (congrArg some hb9) ?_
   refine st (v := (B true)) (rv_pick_t (congrArg B hb9) rfl) ?_
   refine w_end ?_
   obtain rfl := Option.some.inj h
   exact ⟨rfl, _, σ8, fr_join ⟨rfl, rfl, rfl, trivial⟩, rfl, H.sel' [3, 1, 2, 0] rfl rfl⟩
  ·replace h := bif_f hb9 h
   refine st_g (v := (Sl aat_1 at_1 cat_1)) (congrArg some hb9) (rv_move rfl) ?_
   obtain ⟨r10, hx11, h'⟩ := bind_some h
   clear h
   have h := h'; clear h'
   have hc12 := c_spec_isVector (av_0 := aat_1) (cv_0 := cat_1) hx11
   refine st_call (cx_call hc12 (ent_f hc12.fn rfl) hn0 (show Hp S0 σ0 _ ([Ch.ro 0 (Sl aat_1 at_1 cat_1) at_1] ++ [Ch.bx n0 b1 0 [(Sl ab_0_0 b_0.1 cb_0_0), (Sl ab_0_1 b_0.2 cb_0_1)] [] [], Ch.ro 0 (Sl ab_0_0 b_0.1 cb_0_0) b_0.1, Ch.ro 0 (Sl ab_0_1 b_0.2 cb_0_1) b_0.2, Ch.ro 0 (Sl aat_1 at_1 cat_1) at_1]) from (H.sel' [3, 0, 1, 2, 3] rfl rfl))) (wanted_yes rfl (by exact (congrArg some hb9))) ?_
   rintro _ σ13 ⟨_, ⟨rfl, rfl⟩, H, -⟩
   replace H : Hp S0 σ0 σ13 [Ch.bx n0 b1 0 [(Sl ab_0_0 b_0.1 cb_0_0), (Sl ab_0_1 b_0.2 cb_0_1)] [] [], Ch.ro 0 (Sl ab_0_0 b_0.1 cb_0_0) b_0.1, Ch.ro 0 (Sl ab_0_1 b_0.2 cb_0_1) b_0.2, Ch.ro 0 (Sl aat_1 at_1 cat_1) at_1] := H
   refine st_g (v := (B (!r10))) (congrArg some hb9) (rv_not rfl) ?_
   refine st (v := (B (!r10))) (rv_pick_f (congrArg B hb9) rfl) ?_
   refine w_end ?_
   obtain rfl := Option.some.inj h
   exact ⟨rfl, _, σ13, fr_join ⟨rfl, rfl, rfl, trivial⟩, rfl, H.sel' [3, 1, 2, 0] rfl rfl⟩
 ·clear hj
  have h := h'
  clear h' H
  rintro e a w ⟨rfl, ρ, σ14, rfl, rfl, H⟩
  refine q_then ?_
  refine cd_cond o3 rfl (fun hb15 => ?_) (fun hb15 => ?_)
  ·replace h := bif_t hb15 h
   refine c_seq ?_
   refine rg ?_
   refine st (v := (I (-1))) (rv_assign rfl) ?_
   refine w_end ?_
   refine q_then ?_
   refine c_ret ?_
   refine q_then_r ?_
   obtain rfl := Option.some.inj h
   exact fin_ret (v := (I (-1))) (results_ok Try.results25 (res_tmp (v := (I (-1))) rfl res_nil) rfl) ⟨rfl, rfl⟩ (H.sel' [] rfl rfl)
  ·replace h := bif_f hb15 h
   refine c_skip ?_
   refine q_then ?_
   refine c_seq ?_
   refine rg ?_
   have hc16 := H.cells 3 rfl
   refine st (v := (.agg #[(Sl ab_0_0 b_0.1 cb_0_0), (Sl ab_0_1 b_0.2 cb_0_1)])) (rv_load (cs := [(Sl ab_0_0 b_0.1 cb_0_0), (Sl ab_0_1 b_0.2 cb_0_1)]) Try.underlying39 rfl ti39 rfl rfl hc16) ?_
   refine st (v := (Sl aat_1 at_1 cat_1)) (rv_move rfl) ?_
   obtain ⟨r17, hx18, h'⟩ := bind_some h
   clear h
   have h := h'; clear h'
   have hc19 := c_spec_encode (ab_0_0 := ab_0_0) (cb_0_0 := cb_0_0) (ab_0_1 := ab_0_1) (cb_0_1 := cb_0_1) (aat_1 := aat_1) (cat_1 := cat_1) hx18
   refine st_call (cx_call hc19 (ent_f hc19.fn rfl) hn0 (show Hp S0 σ0 _ ([Ch.ro 0 (Sl ab_0_0 b_0.1 cb_0_0) b_0.1, Ch.ro 0 (Sl ab_0_1 b_0.2 cb_0_1) b_0.2, Ch.ro 0 (Sl aat_1 at_1 cat_1) at_1] ++ [Ch.ro 0 (Sl aat_1 at_1 cat_1) at_1, Ch.ro 0 (Sl ab_0_0 b_0.1 cb_0_0) b_0.1, Ch.ro 0 (Sl ab_0_1 b_0.2 cb_0_1) b_0.2, Ch.bx n0 b1 0 [(Sl ab_0_0 b_0.1 cb_0_0), (Sl ab_0_1 b_0.2 cb_0_1)] [] []]) from (H.sel' [1, 2, 0, 0, 1, 2, 3] rfl rfl))) wn ?_
   rintro _ σ20 ⟨_, ⟨rfl, rfl⟩, H, -⟩
   replace H : Hp S0 σ0 σ20 [Ch.ro 0 (Sl aat_1 at_1 cat_1) at_1, Ch.ro 0 (Sl ab_0_0 b_0.1 cb_0_0) b_0.1, Ch.ro 0 (Sl ab_0_1 b_0.2 cb_0_1) b_0.2, Ch.bx n0 b1 0 [(Sl ab_0_0 b_0.1 cb_0_0), (Sl ab_0_1 b_0.2 cb_0_1)] [] []] := H
   refine st (v := (I r17)) (rv_assign rfl) ?_
   refine w_end ?_
   refine q_then ?_
   refine c_ret ?_
   obtain rfl := Option.some.inj h
   exact fin_ret (v := (I r17)) (results_ok Try.results25 (res_tmp (v := (I r17)) rfl res_nil) rfl) ⟨rfl, rfl⟩ (H.sel' [] rfl rfl)

theorem c_laws_FnEncodeVectorHalves {code_0 : List UInt8} {acode_0 : Option Addr} {ccode_0 : Nat} {r : Bool} (h : M.laws_FnEncodeVectorHalves code_0 = some r) :
    Cal2 Try.prog 6 [(Sl acode_0 code_0 ccode_0)] [Ch.ro 0 (Sl acode_0 code_0 ccode_0) code_0] (fun n0 v L => v = (B r) ∧ L = []) := by
 refine cal2 (n := 67) Try.func6 rfl rfl rfl rfl ?_
 intro S0 σ0 n0 hn0 H
 unfold M.laws_FnEncodeVectorHalves at h
 refine c_seq ?_
 refine rg ?_
 refine st (v := (B false)) (rv_assign rfl) ?_
 refine w_end ?_
 refine q_then ?_
 refine c_seq ?_
 refine c_seq ?_
 refine rg ?_
 refine st (v := (Sl acode_0 code_0 ccode_0)) (rv_move rfl) ?_
 refine st (v := (I (code_0.length : Int))) (rv_len Try.underlying22 rfl) ?_
 refine st (v := (B (decide (1048576 < (code_0.length : Int))))) (rv_gtr (a := (code_0.length : Int)) (b := 1048576) rfl rfl) ?_
 refine w_end ?_
 refine q_then ?_
 refine cd_cond (decide (1048576 < (code_0.length : Int))) rfl (fun hb1 => ?_) (fun hb1 => ?_)
 ·replace h := bif_t hb1 h
  refine c_seq ?_
  refine rg ?_
  refine st (v := (B true)) (rv_assign rfl) ?_
  refine w_end ?_
  refine q_then ?_
  refine c_ret ?_
  refine q_then_r ?_
  obtain rfl := Option.some.inj h
  exact fin_ret (v := (B true)) (results_ok Try.results6 (res_tmp (v := (B true)) rfl res_nil) rfl) ⟨rfl, rfl⟩ (H.sel' [] rfl rfl)
 ·replace h := bif_f hb1 h
  refine c_skip ?_
  refine q_then ?_
  refine c_seq ?_
  refine rg ?_
  refine st (v := (Sl acode_0 code_0 ccode_0)) (rv_move rfl) ?_
  obtain ⟨r2, hx3, h'⟩ := bind_some h
  clear h
  have h := h'; clear h'
  have hc4 := c_spec_DrawEncodeVector (acode_0 := acode_0) (ccode_0 := ccode_0) hx3
  refine st_call (cx_call hc4 (ent_f hc4.fn rfl) hn0 (show Hp S0 σ0 _ ([Ch.ro 0 (Sl acode_0 code_0 ccode_0) code_0] ++ [Ch.ro 0 (Sl acode_0 code_0 ccode_0) code_0]) from (H.sel' [0, 0] rfl rfl))) wn ?_
  rintro _ σ11 ⟨_, ⟨a5, c6, a7, c8, a9, c10, rfl, rfl⟩, H, -⟩
  replace H : Hp S0 σ0 σ11 [Ch.own n0 n0 (Sl a5 r2.1.1 c6) r2.1.1, Ch.own n0 n0 (Sl a7 r2.1.2 c8) r2.1.2, Ch.own n0 n0 (Sl a9 r2.2 c10) r2.2, Ch.ro 0 (Sl acode_0 code_0 ccode_0) code_0] := H
  refine st (v := (.tuple #[(.agg #[(Sl a5 r2.1.1 c6), (Sl a7 r2.1.2 c8)]), (Sl a9 r2.2 c10)])) (rv_move rfl) ?_
  refine st (v := (.agg #[(Sl a5 r2.1.1 c6), (Sl a7 r2.1.2 c8)])) (rv_extract rfl rfl) ?_
  refine st (v := (Sl a9 r2.2 c10)) (rv_extract rfl rfl) ?_
  refine st_ex (ex_alloc (cs := [(.slice none 0 0), (.slice none 0 0)]) H hn0 ti39 rfl) wn ?_
  rintro _ σ13 ⟨b12, rfl, H, -⟩
  refine st_exS (ex_store_box (k := 0) (cs := [(.slice none 0 0), (.slice none 0 0)]) (vs := [(Sl a5 r2.1.1 c6), (Sl a7 r2.1.2 c8)]) (cs' := [(Sl a5 r2.1.1 c6), (Sl a7 r2.1.2 c8)]) H (i := 0) rfl ti39 rfl rfl rfl rfl rfl (Nat.le_of_ble_eq_true rfl) (by simp [plain]) rfl) wn ?_
  rintro σ14 ⟨H, -⟩
  refine st (v := (Sl a9 r2.2 c10)) (rv_assign rfl) ?_
  refine w_end ?_
  refine q_then ?_
  refine c_seq ?_
  refine rg ?_
  have hc15 := H.cells 0 rfl
  refine st (v := (.agg #[(Sl a5 r2.1.1 c6), (Sl a7 r2.1.2 c8)])) (rv_load (cs := [(Sl a5 r2.1.1 c6), (Sl a7 r2.1.2 c8)]) Try.underlying39 rfl ti39 rfl rfl hc15) ?_
  refine st (v := (Sl a9 r2.2 c10)) (rv_move rfl) ?_
  obtain ⟨r16, hx17, h'⟩ := bind_some h
  clear h
  have h := h'; clear h'
  have hc18 := c_impl_EncodeVector (ab_0_0 := a5) (cb_0_0 := c6) (ab_0_1 := a7) (cb_0_1 := c8) (aat_1 := a9) (cat_1 := c10) hx17
  have hle := Nat.le_trans hn0 H.size
  refine st_call (cx_lend (Loan.lend (Loan.lend (Loan.lend Loan.nil))) hc18 (ent_f hc18.fn rfl) (show Hp S0 σ0 _ ([Ch.own n0 n0 (Sl a5 r2.1.1 c6) r2.1.1, Ch.own n0 n0 (Sl a7 r2.1.2 c8) r2.1.2, Ch.own n0 n0 (Sl a9 r2.2 c10) r2.2] ++ ([] ++ [Ch.bx n0 b12 0 [(Sl a5 r2.1.1 c6), (Sl a7 r2.1.2 c8)] [] [], Ch.ro 0 (Sl acode_0 code_0 ccode_0) code_0])) from (H.sel' [1, 2, 3, 0, 4] rfl rfl)) (by rintro _ _ _ ⟨rfl, rfl⟩; exact trivial)) wn ?_
  rintro _ σ19 ⟨_, ⟨rfl, rfl⟩, H, -, -⟩
  replace H : Hp S0 σ0 σ19 [Ch.own n0 n0 (Sl a5 r2.1.1 c6) r2.1.1, Ch.own n0 n0 (Sl a7 r2.1.2 c8) r2.1.2, Ch.own n0 n0 (Sl a9 r2.2 c10) r2.2, Ch.bx n0 b12 0 [(Sl a5 r2.1.1 c6), (Sl a7 r2.1.2 c8)] [] [], Ch.ro 0 (Sl acode_0 code_0 ccode_0) code_0] := H
  clear hle
  replace H : Hp S0 σ0 σ19 [Ch.own n0 n0 (Sl a5 r2.1.1 c6) r2.1.1, Ch.own n0 n0 (Sl a7 r2.1.2 c8) r2.1.2, Ch.own n0 n0 (Sl a9 r2.2 c10) r2.2, Ch.bx n0 b12 0 [(Sl a5 r2.1.1 c6), (Sl a7 r2.1.2 c8)] [] [], Ch.ro 0 (Sl acode_0 code_0 ccode_0) code_0] := H
  refine st (v := (I r16)) (rv_assign rfl) ?_
  refine w_end ?_
  refine q_then ?_
  refine c_seq ?_
  refine c_seq ?_
  obtain ⟨o20, hj, h'⟩ := bind_some h
  clear h
  refine c_cut (fun e a w => e = .normal ∧ ∃ (ρ : Nat → Value) (σ : St), a = fr 67 (updL ρ [(3, (pt b12 0)), (4, (Sl a9 r2.2 c10)), (5, (I r16)), (29, (B o20))]) ∧ w = σ.w ∧ Hp S0 σ0 σ [Ch.own n0 n0 (Sl a5 r2.1.1 c6) r2.1.1, Ch.own n0 n0 (Sl a7 r2.1.2 c8) r2.1.2, Ch.bx n0 b12 0 [(Sl a5 r2.1.1 c6), (Sl a7 r2.1.2 c8)] [] [], Ch.own n0 n0 (Sl a9 r2.2 c10) r2.2]) ?_ ?_
  ·clear h'
   rename _ = some o20 => h
   refine rg ?_
   refine st (v := (I r16)) (rv_move rfl) ?_
   have hc21 := H.cells 3 rfl
   refine st (v := (.agg #[(Sl a5 r2.1.1 c6), (Sl a7 r2.1.2 c8)])) (rv_load (cs := [(Sl a5 r2.1.1 c6), (Sl a7 r2.1.2 c8)]) Try.underlying39 rfl ti39 rfl rfl hc21) ?_
   refine st (v := (Sl a9 r2.2 c10)) (rv_move rfl) ?_
   obtain ⟨r22, hx23, h'⟩ := bind_some h
   clear h
   have h := h'; clear h'
   have hc24 := c_spec_EncodeVector (ab_0_0 := a5) (cb_0_0 := c6) (ab_0_1 := a7) (cb_0_1 := c8) (aat_1 := a9) (cat_1 := c10) hx23
   have hle := Nat.le_trans hn0 H.size
   refine st_call (cx_lend (Loan.lend (Loan.lend (Loan.lend Loan.nil))) hc24 (ent_f hc24.fn rfl) (show Hp S0 σ0 _ ([Ch.own n0 n0 (Sl a5 r2.1.1 c6) r2.1.1, Ch.own n0 n0 (Sl a7 r2.1.2 c8) r2.1.2, Ch.own n0 n0 (Sl a9 r2.2 c10) r2.2] ++ ([] ++ [Ch.bx n0 b12 0 [(Sl a5 r2.1.1 c6), (Sl a7 r2.1.2 c8)] [] [], Ch.ro 0 (Sl acode_0 code_0 ccode_0) code_0])) from (H.sel' [0, 1, 2, 3, 4] rfl rfl)) (by rintro _ _ _ ⟨rfl, rfl⟩; exact trivial)) wn ?_
   rintro _ σ25 ⟨_, ⟨rfl, rfl⟩, H, -, -⟩
   replace H : Hp S0 σ0 σ25 [Ch.own n0 n0 (Sl a5 r2.1.1 c6) r2.1.1, Ch.own n0 n0 (Sl a7 r2.1.2 c8) r2.1.2, Ch.own n0 n0 (Sl a9 r2.2 c10) r2.2, Ch.bx n0 b12 0 [(Sl a5 r2.1.1 c6), (Sl a7 r2.1.2 c8)] [] [], Ch.ro 0 (Sl acode_0 code_0 ccode_0) code_0] := H
   clear hle
   replace H : Hp S0 σ0 σ25 [Ch.own n0 n0 (Sl a5 r2.1.1 c6) r2.1.1, Ch.own n0 n0 (Sl a7 r2.1.2 c8) r2.1.2, Ch.own n0 n0 (Sl a9 r2.2 c10) r2.2, Ch.bx n0 b12 0 [(Sl a5 r2.1.1 c6), (Sl a7 r2.1.2 c8)] [] [], Ch.ro 0 (Sl acode_0 code_0 ccode_0) code_0] := H
   refine st (v := (B (r16 != r22))) (rv_neq (a := r16) (b := r22) rfl rfl) ?_
   refine st (v := (B (r16 != r22))) (rv_move rfl) ?_
   rcases Bool.eq_false_or_eq_true (r16 != r22) with hb26 | hb26
   ·replace h := bif_t hb26 h
    refine st_skip (congrArg some hb26) ?_
    refine st_skip (congrArg some hb26) ?_
    refine st (v := (B true)) (rv_pick_t (congrArg B hb26) rfl) ?_
    refine w_end ?_
    obtain rfl := Option.some.inj h
    exact ⟨rfl, _, σ25, fr_join ⟨rfl, rfl, rfl, rfl, trivial⟩, rfl, H.sel' [0, 1, 3, 2] rfl rfl⟩
   ·replace h := bif_f hb26 h
    refine st_g (v := (I r16)) (congrArg some hb26) (rv_move rfl) ?_
    refine st_g (v := (B (decide (r16 < 0)))) (congrArg some hb26) (rv_lss (a := r16) (b := 0) rfl rfl) ?_
    refine st (v := (B (decide (r16 < 0)))) (rv_pick_f (congrArg B hb26) rfl) ?_
    refine w_end ?_
    obtain rfl := Option.some.inj h
    exact ⟨rfl, _, σ25, fr_join ⟨rfl, rfl, rfl, rfl, trivial⟩, rfl, H.sel' [0, 1, 3, 2] rfl rfl⟩
  ·clear hj
   have h := h'
   clear h' H
   rintro e a w ⟨rfl, ρ, σ27, rfl, rfl, H⟩
   refine q_then ?_
   refine cd_cond o20 rfl (fun hb28 => ?_) (fun hb28 => ?_)
   ·replace h := bif_t hb28 h
    refine c_seq ?_
    refine rg ?_
    refine st (v := (I r16)) (rv_move rfl) ?_
    have hc29 := H.cells 2 rfl
    refine st (v := (.agg #[(Sl a5 r2.1.1 c6), (Sl a7 r2.1.2 c8)])) (rv_load (cs := [(Sl a5 r2.1.1 c6), (Sl a7 r2.1.2 c8)]) Try.underlying39 rfl ti39 rfl rfl hc29) ?_
    refine st (v := (Sl a9 r2.2 c10)) (rv_move rfl) ?_
    obtain ⟨σ30, hw31, H, -⟩ := H.pub 0 rfl (Nat.le_refl _)
    rw [← hw31]; clear hw31
    obtain ⟨σ32, hw33, H, -⟩ := H.pub 1 rfl (Nat.le_refl _)
    rw [← hw33]; clear hw33
    obtain ⟨σ34, hw35, H, -⟩ := H.pub 3 rfl (Nat.le_refl _)
    rw [← hw35]; clear hw35
    replace H := H.roLow 2 0 rfl (Nat.zero_le _)
    replace H := H.roLow 2 0 rfl (Nat.zero_le _)
    replace H := H.roLow 2 0 rfl (Nat.zero_le _)
    obtain ⟨r36, hx37, h'⟩ := bind_some h
    clear h
    have h := h'; clear h'
    have hc38 := c_spec_EncodeVector (ab_0_0 := a5) (cb_0_0 := c6) (ab_0_1 := a7) (cb_0_1 := c8) (aat_1 := a9) (cat_1 := c10) hx37
    refine st_call (cx_call hc38 (ent_f hc38.fn rfl) hn0 (show Hp S0 σ0 _ ([Ch.ro 0 (Sl a5 r2.1.1 c6) r2.1.1, Ch.ro 0 (Sl a7 r2.1.2 c8) r2.1.2, Ch.ro 0 (Sl a9 r2.2 c10) r2.2] ++ [Ch.ro 0 (Sl a9 r2.2 c10) r2.2, Ch.ro 0 (Sl a7 r2.1.2 c8) r2.1.2, Ch.ro 0 (Sl a5 r2.1.1 c6) r2.1.1, Ch.ro n0 (Sl a9 r2.2 c10) r2.2, Ch.ro n0 (Sl a7 r2.1.2 c8) r2.1.2, Ch.ro n0 (Sl a5 r2.1.1 c6) r2.1.1, Ch.bx n0 b12 0 [(Sl a5 r2.1.1 c6), (Sl a7 r2.1.2 c8)] [] []]) from (H.sel' [2, 1, 0, 0, 1, 2, 3, 4, 5, 6] rfl rfl))) wn ?_
    rintro _ σ39 ⟨_, ⟨rfl, rfl⟩, H, -⟩
    replace H : Hp S0 σ0 σ39 [Ch.ro 0 (Sl a9 r2.2 c10) r2.2, Ch.ro 0 (Sl a7 r2.1.2 c8) r2.1.2, Ch.ro 0 (Sl a5 r2.1.1 c6) r2.1.1, Ch.ro n0 (Sl a9 r2.2 c10) r2.2, Ch.ro n0 (Sl a7 r2.1.2 c8) r2.1.2, Ch.ro n0 (Sl a5 r2.1.1 c6) r2.1.1, Ch.bx n0 b12 0 [(Sl a5 r2.1.1 c6), (Sl a7 r2.1.2 c8)] [] []] := H
    refine st (v := (B (r16 == r36))) (rv_eql (a := r16) (b := r36) rfl rfl) ?_
    refine st (v := (B (r16 == r36))) (rv_assign rfl) ?_
    refine w_end ?_
    refine q_then ?_
    refine c_ret ?_
    refine q_then_r ?_
    obtain rfl := Option.some.inj h
    exact fin_ret (v := (B (r16 == r36))) (results_ok Try.results6 (res_tmp (v := (B (r16 == r36))) rfl res_nil) rfl) ⟨rfl, rfl⟩ (H.sel' [] rfl rfl)
   ·replace h := bif_f hb28 h
    refine c_skip ?_
    refine q_then ?_
    refine c_seq ?_
    refine rg ?_
    refine st (v := (I 2)) (rv_assign rfl) ?_
    refine w_end ?_
    refine q_then ?_
    refine c_seq ?_
    refine rg ?_
    refine st (v := (I 2)) (rv_move rfl) ?_
    obtain ⟨xs40, hx41, h'⟩ := bind_some h
    clear h
    have h := h'; clear h'
    refine st_ex (ex_make (el := n0) (z0 := (0 : Int)) (zs := [(I 0)]) H hn0 Try.underlying29 ti3 rfl rfl rfl (by decide) hx41 rfl rfl) wn ?_
    rintro _ σ45 ⟨b42, c43, rfl, ht44, H, -⟩
    replace ht44 := ht44.trans (gmake_len hx41).symm
    refine st (v := (Sl (some ⟨b42, 0, none⟩) xs40 c43)) (rv_assign rfl) ?_
    refine w_end ?_
    refine q_then ?_
    refine c_seq ?_
    obtain ⟨σ46, hw47, H, -⟩ := H.pub 4 rfl (Nat.le_refl _)
    rw [← hw47]; clear hw47
    have hc48 := H.cells 4 rfl
    obtain ⟨xs50, hx51, h'⟩ := bind_some h
    clear h
    have h := h'; clear h'
    obtain ⟨a52, c53, hs54, hR55⟩ := (H.ro 0 rfl).slice hx51
    replace H := H.add (d := Ch.ro n0 (Sl a52 xs50 c53) xs50) hR55 (fun _ h => h)
    clear hR55
    obtain ⟨xs56, hx57, h'⟩ := bind_some h
    clear h
    have h := h'; clear h'
    obtain ⟨xs60, hx61, h'⟩ := bind_some h
    clear h
    have h := h'; clear h'
    have Hs := H
    refine rg2 (σ := σ46) (Nm := (Nat) × (Option Addr) × (Nat) × (Option Addr) × (Nat)) 8 [1, 5, 7] [[false, false, false], [true, false, false], [true, true, false], [true, true, true]] [[(0, 0), (1, 1), (2, 2), (3, 3)], [(0, 1)], [(0, 0), (1, 1)], [(0, 0), (1, 1)], [(0, 0), (1, 1)], [(1, 2)], [(0, 0), (1, 1), (2, 2)], [(2, 3)]] 3 [fun ((b49, a58, c59, a62, c63) : (Nat) × (Option Addr) × (Nat) × (Option Addr) × (Nat)) => fun σm => Hp S0 σ0 σm [Ch.ro n0 (Sl a52 xs50 c53) xs50, Ch.ro n0 (Sl a9 r2.2 c10) r2.2, Ch.own n0 n0 (Sl (some ⟨b42, 0, none⟩) xs40 c43) xs40, Ch.own n0 n0 (Sl a5 r2.1.1 c6) r2.1.1, Ch.own n0 n0 (Sl a7 r2.1.2 c8) r2.1.2, Ch.bx n0 b12 0 [(Sl a5 r2.1.1 c6), (Sl a7 r2.1.2 c8)] [] []] ∧ Md (cov []) σ46 σm, fun ((b49, a58, c59, a62, c63) : (Nat) × (Option Addr) × (Nat) × (Option Addr) × (Nat)) => fun σm => Hp S0 σ0 σm [Ch.own n0 n0 (Sl (some ⟨b49, 0, none⟩) ([] : List Int) 0) ([] : List Int), Ch.ro n0 (Sl a52 xs50 c53) xs50, Ch.ro n0 (Sl a9 r2.2 c10) r2.2, Ch.own n0 n0 (Sl (some ⟨b42, 0, none⟩) xs40 c43) xs40, Ch.own n0 n0 (Sl a5 r2.1.1 c6) r2.1.1, Ch.own n0 n0 (Sl a7 r2.1.2 c8) r2.1.2, Ch.bx n0 b12 0 [(Sl a5 r2.1.1 c6), (Sl a7 r2.1.2 c8)] [] []] ∧ Md (cov []) σ46 σm, fun ((b49, a58, c59, a62, c63) : (Nat) × (Option Addr) × (Nat) × (Option Addr) × (Nat)) => fun σm => Hp S0 σ0 σm [Ch.own n0 n0 (Sl a58 xs56 c59) xs56, Ch.ro n0 (Sl a52 xs50 c53) xs50, Ch.ro n0 (Sl a9 r2.2 c10) r2.2, Ch.own n0 n0 (Sl (some ⟨b42, 0, none⟩) xs40 c43) xs40, Ch.own n0 n0 (Sl a5 r2.1.1 c6) r2.1.1, Ch.own n0 n0 (Sl a7 r2.1.2 c8) r2.1.2, Ch.bx n0 b12 0 [(Sl a5 r2.1.1 c6), (Sl a7 r2.1.2 c8)] [] []] ∧ Md (fun i => (cov []) i ∨ (fun b => blk (Sl (some ⟨b49, 0, none⟩) ([] : List Int) 0) = some b) i) σ46 σm, fun ((b49, a58, c59, a62, c63) : (Nat) × (Option Addr) × (Nat) × (Option Addr) × (Nat)) => fun σm => Hp S0 σ0 σm [Ch.own n0 n0 (Sl a62 xs60 c63) xs60, Ch.ro n0 (Sl a52 xs50 c53) xs50, Ch.ro n0 (Sl a9 r2.2 c10) r2.2, Ch.own n0 n0 (Sl (some ⟨b42, 0, none⟩) xs40 c43) xs40, Ch.own n0 n0 (Sl a5 r2.1.1 c6) r2.1.1, Ch.own n0 n0 (Sl a7 r2.1.2 c8) r2.1.2, Ch.bx n0 b12 0 [(Sl a5 r2.1.1 c6), (Sl a7 r2.1.2 c8)] [] []] ∧ Md (fun i => (fun i => (cov []) i ∨ (fun b => blk (Sl (some ⟨b49, 0, none⟩) ([] : List Int) 0) = some b) i) i ∨ (fun b => blk (Sl a58 xs56 c59) = some b) i) σ46 σm] [fun ((b49, a58, c59, a62, c63) : (Nat) × (Option Addr) × (Nat) × (Option Addr) × (Nat)) => (.agg #[(Sl a5 r2.1.1 c6), (Sl a7 r2.1.2 c8)]), fun ((b49, a58, c59, a62, c63) : (Nat) × (Option Addr) × (Nat) × (Option Addr) × (Nat)) => (Sl (some ⟨b49, 0, none⟩) ([] : List Int) 0), fun ((b49, a58, c59, a62, c63) : (Nat) × (Option Addr) × (Nat) × (Option Addr) × (Nat)) => (Sl a9 r2.2 c10), fun ((b49, a58, c59, a62, c63) : (Nat) × (Option Addr) × (Nat) × (Option Addr) × (Nat)) => (I 2), fun ((b49, a58, c59, a62, c63) : (Nat) × (Option Addr) × (Nat) × (Option Addr) × (Nat)) => (Sl a52 xs50 c53), fun ((b49, a58, c59, a62, c63) : (Nat) × (Option Addr) × (Nat) × (Option Addr) × (Nat)) => (Sl a58 xs56 c59), fun ((b49, a58, c59, a62, c63) : (Nat) × (Option Addr) × (Nat) × (Option Addr) × (Nat)) => (Sl (some ⟨b42, 0, none⟩) xs40 c43), fun ((b49, a58, c59, a62, c63) : (Nat) × (Option Addr) × (Nat) × (Option Addr) × (Nat)) => (Sl a62 xs60 c63)] (0, none, 0, none, 0) (by kernel_rfl) (by kernel_rfl) ?_ ?_ ?_
    ·intro σm m0
     exact ⟨H.grow (m0.mono fun _ h => h.elim), m0⟩
    ·refine all_cons (by
       refine ⟨?_, ?_⟩
       ·rintro ⟨b49, a58, c59, a62, c63⟩ ρ σm hJ hoff hdep
        have e3 := look_off (N := 67) (hoff 3 rfl) rfl
        obtain ⟨H, m⟩ := id hJ
        have hc48 := H.cells 5 rfl
        exact dp_v (v := (.agg #[(Sl a5 r2.1.1 c6), (Sl a7 r2.1.2 c8)])) wn (rv_load (cs := [(Sl a5 r2.1.1 c6), (Sl a7 r2.1.2 c8)]) Try.underlying39 rfl ti39 e3 rfl hc48) rfl hJ
       refine ⟨?_, ?_⟩
       ·rintro ⟨b49, a58, c59, a62, c63⟩ ρ σm hJ hoff hdep
        have e3 := look_off (N := 67) (hoff 3 rfl) rfl
        obtain ⟨H, m⟩ := id hJ
        have hc48 := H.cells 6 rfl
        exact dp_v (v := (.agg #[(Sl a5 r2.1.1 c6), (Sl a7 r2.1.2 c8)])) wn (rv_load (cs := [(Sl a5 r2.1.1 c6), (Sl a7 r2.1.2 c8)]) Try.underlying39 rfl ti39 e3 rfl hc48) rfl hJ
       refine ⟨?_, ?_⟩
       ·rintro ⟨b49, a58, c59, a62, c63⟩ ρ σm hJ hoff hdep
        have e3 := look_off (N := 67) (hoff 3 rfl) rfl
        obtain ⟨H, m⟩ := id hJ
        have hc48 := H.cells 6 rfl
        exact dp_v (v := (.agg #[(Sl a5 r2.1.1 c6), (Sl a7 r2.1.2 c8)])) wn (rv_load (cs := [(Sl a5 r2.1.1 c6), (Sl a7 r2.1.2 c8)]) Try.underlying39 rfl ti39 e3 rfl hc48) rfl hJ
       refine ⟨?_, ?_⟩
       ·rintro ⟨b49, a58, c59, a62, c63⟩ ρ σm hJ hoff hdep
        have e3 := look_off (N := 67) (hoff 3 rfl) rfl
        obtain ⟨H, m⟩ := id hJ
        have hc48 := H.cells 6 rfl
        exact dp_v (v := (.agg #[(Sl a5 r2.1.1 c6), (Sl a7 r2.1.2 c8)])) wn (rv_load (cs := [(Sl a5 r2.1.1 c6), (Sl a7 r2.1.2 c8)]) Try.underlying39 rfl ti39 e3 rfl hc48) rfl hJ
       trivial) ?_
     refine all_cons (by
       refine ⟨?_, ?_⟩
       ·rintro ⟨b49, a58, c59, a62, c63⟩ ρ σm hJ hoff hdep
        obtain ⟨H, m⟩ := id hJ
        refine dp_ex wn (ex_buildSlice (el := n0) (xs := ([] : List Int)) (ps := []) (cs := []) H hn0 Try.underlying29 ti3 rfl rfl (by kernel_rfl) (.nil) rfl) ?_
        rintro _ σq ⟨b49x, rfl, H2, m2⟩
        exact ⟨_, (b49x, a58, c59, a62, c63), rfl, rfl, ⟨H2.sel' [0, 1, 2, 3, 4, 5, 6] rfl rfl, m.comp0 m2⟩, stab [0, 2, 3, 4, 6] (by kernel_rfl) ⟨rfl, rfl, rfl, rfl, rfl, trivial⟩⟩
       trivial) ?_
     refine ac rfl (by
       intro k; rintro ⟨b49, a58, c59, a62, c63⟩ ρ σm hJ hoff hdep
       have e4 := look_off (N := 67) (hoff 4 rfl) rfl
       exact dp_v (v := (Sl a9 r2.2 c10)) wn (rv_move e4) rfl hJ) ?_
     refine ac rfl (by
       intro k; rintro ⟨b49, a58, c59, a62, c63⟩ ρ σm hJ hoff hdep
       have e6 := look_off (N := 67) (hoff 6 rfl) rfl
       exact dp_v (v := (I 2)) wn (rv_move e6) rfl hJ) ?_
     refine ac rfl (by
       intro k; rintro ⟨b49, a58, c59, a62, c63⟩ ρ σm hJ hoff hdep
       have e39 := hdep 2 rfl rfl 39 rfl
       have e40 := hdep 3 rfl rfl 40 rfl
       exact dp_v (v := (Sl a52 xs50 c53)) wn (rv_slice_h Try.underlying29 ti3 hs54 e39 e40) rfl hJ) ?_
     refine all_cons (by
       refine ⟨?_, ?_⟩
       ·rintro ⟨b49, a58, c59, a62, c63⟩ ρ σm hJ hoff hdep
        have e38 := hdep 1 rfl rfl 38 rfl
        have e41 := hdep 4 rfl rfl 41 rfl
        obtain ⟨H, m⟩ := id hJ
        refine dp_ex wn (ex_append H (i := 0) rfl Try.underlying29 Try.underlying29 ti3 rfl rfl (by decide) (H.ro 1 rfl).rd hx57 hn0 e38 e41) ?_
        rintro _ σq ⟨a58x, c59x, rfl, H2, m2⟩
        exact ⟨_, (b49, a58x, c59x, a62, c63), rfl, rfl, ⟨H2.sel' [0, 1, 2, 3, 4, 5, 6] rfl rfl, m.comp m2⟩, stab [0, 1, 2, 3, 4, 6] (by kernel_rfl) ⟨rfl, rfl, rfl, rfl, rfl, rfl, trivial⟩⟩
       trivial) ?_
     refine ac rfl (by
       intro k; rintro ⟨b49, a58, c59, a62, c63⟩ ρ σm hJ hoff hdep
       have e7 := look_off (N := 67) (hoff 7 rfl) rfl
       exact dp_v (v := (Sl (some ⟨b42, 0, none⟩) xs40 c43)) wn (rv_move e7) rfl hJ) ?_
     refine all_cons (by
       refine ⟨?_, ?_⟩
       ·rintro ⟨b49, a58, c59, a62, c63⟩ ρ σm hJ hoff hdep
        have e42 := hdep 5 rfl rfl 42 rfl
        have e43 := hdep 6 rfl rfl 43 rfl
        obtain ⟨H, m⟩ := id hJ
        refine dp_ex wn (ex_append H (i := 0) rfl Try.underlying29 Try.underlying29 ti3 rfl rfl (by decide) (H.own 3 rfl).rd hx61 hn0 e42 e43) ?_
        rintro _ σq ⟨a62x, c63x, rfl, H2, m2⟩
        exact ⟨_, (b49, a58, c59, a62x, c63x), rfl, rfl, ⟨H2.sel' [0, 1, 2, 3, 4, 5, 6] rfl rfl, m.comp m2⟩, stab [0, 1, 2, 3, 4, 5, 6] (by kernel_rfl) ⟨rfl, rfl, rfl, rfl, rfl, rfl, rfl, trivial⟩⟩
       trivial) ?_
     exact all_nil
    ·rintro ⟨b49, a58, c59, a62, c63⟩ ρ σ64 hJ hoff hrel
     have e3 := look_off (N := 67) (hoff 3 rfl) rfl
     have e4 := look_off (N := 67) (hoff 4 rfl) rfl
     have e5 := look_off (N := 67) (hoff 5 rfl) rfl
     have e6 := look_off (N := 67) (hoff 6 rfl) rfl
     have e7 := look_off (N := 67) (hoff 7 rfl) rfl
     have e37 := hrel 0 rfl 37 rfl
     have e44 := hrel 7 rfl 44 rfl
     obtain ⟨H, -⟩ := (show Hp S0 σ0 σ64 [Ch.own n0 n0 (Sl a62 xs60 c63) xs60, Ch.ro n0 (Sl a52 xs50 c53) xs50, Ch.ro n0 (Sl a9 r2.2 c10) r2.2, Ch.own n0 n0 (Sl (some ⟨b42, 0, none⟩) xs40 c43) xs40, Ch.own n0 n0 (Sl a5 r2.1.1 c6) r2.1.1, Ch.own n0 n0 (Sl a7 r2.1.2 c8) r2.1.2, Ch.bx n0 b12 0 [(Sl a5 r2.1.1 c6), (Sl a7 r2.1.2 c8)] [] []] ∧ Md (fun i => (fun i => (cov []) i ∨ (fun b => blk (Sl (some ⟨b49, 0, none⟩) ([] : List Int) 0) = some b) i) i ∨ (fun b => blk (Sl a58 xs56 c59) = some b) i) σ46 σ64 from hJ)
     clear hJ Hs
     rw [fr_lookL (L := [(3, (pt b12 0)), (4, (Sl a9 r2.2 c10)), (5, (I r16)), (6, (I 2)), (7, (Sl (some ⟨b42, 0, none⟩) xs40 c43)), (37, (.agg #[(Sl a5 r2.1.1 c6), (Sl a7 r2.1.2 c8)])), (44, (Sl a62 xs60 c63))]) ⟨e3, e4, e5, e6, e7, e37, e44, trivial⟩]
     clear hoff hrel e3 e4 e5 e6 e7 e37 e44
     obtain ⟨σ65, hw66, H, -⟩ := H.pub 0 rfl (Nat.le_refl _)
     rw [← hw66]; clear hw66
     replace H := H.roLow 0 0 rfl (Nat.zero_le _)
     obtain ⟨r67, hx68, h'⟩ := bind_some h
     clear h
     have h := h'; clear h'
     have hc69 := c_impl_EncodeVector (ab_0_0 := a5) (cb_0_0 := c6) (ab_0_1 := a7) (cb_0_1 := c8) (aat_1 := a62) (cat_1 := c63) hx68
     have hle := Nat.le_trans hn0 H.size
     refine st_call (cx_lend (Loan.lend (Loan.lend (Loan.same Loan.nil))) hc69 (ent_f hc69.fn rfl) (show Hp S0 σ0 _ ([Ch.own n0 n0 (Sl a5 r2.1.1 c6) r2.1.1, Ch.own n0 n0 (Sl a7 r2.1.2 c8) r2.1.2] ++ ([Ch.ro 0 (Sl a62 xs60 c63) xs60] ++ [Ch.ro 0 (Sl a62 xs60 c63) xs60, Ch.ro n0 (Sl a62 xs60 c63) xs60, Ch.ro n0 (Sl a52 xs50 c53) xs50, Ch.ro n0 (Sl a9 r2.2 c10) r2.2, Ch.own n0 n0 (Sl (some ⟨b42, 0, none⟩) xs40 c43) xs40, Ch.bx n0 b12 0 [(Sl a5 r2.1.1 c6), (Sl a7 r2.1.2 c8)] [] []])) from (H.sel' [5, 6, 0, 0, 1, 2, 3, 4, 7] rfl rfl)) (by rintro _ _ _ ⟨rfl, rfl⟩; exact trivial)) wn ?_
     rintro _ σ70 ⟨_, ⟨rfl, rfl⟩, H, -, -⟩
     replace H : Hp S0 σ0 σ70 [Ch.own n0 n0 (Sl a5 r2.1.1 c6) r2.1.1, Ch.own n0 n0 (Sl a7 r2.1.2 c8) r2.1.2, Ch.ro 0 (Sl a62 xs60 c63) xs60, Ch.ro n0 (Sl a62 xs60 c63) xs60, Ch.ro n0 (Sl a52 xs50 c53) xs50, Ch.ro n0 (Sl a9 r2.2 c10) r2.2, Ch.own n0 n0 (Sl (some ⟨b42, 0, none⟩) xs40 c43) xs40, Ch.bx n0 b12 0 [(Sl a5 r2.1.1 c6), (Sl a7 r2.1.2 c8)] [] []] := H
     clear hle
     replace H : Hp S0 σ0 σ70 [Ch.own n0 n0 (Sl a5 r2.1.1 c6) r2.1.1, Ch.own n0 n0 (Sl a7 r2.1.2 c8) r2.1.2, Ch.ro 0 (Sl a62 xs60 c63) xs60, Ch.ro n0 (Sl a62 xs60 c63) xs60, Ch.ro n0 (Sl a52 xs50 c53) xs50, Ch.ro n0 (Sl a9 r2.2 c10) r2.2, Ch.own n0 n0 (Sl (some ⟨b42, 0, none⟩) xs40 c43) xs40, Ch.bx n0 b12 0 [(Sl a5 r2.1.1 c6), (Sl a7 r2.1.2 c8)] [] []] := H
     replace H : Hp S0 σ0 σ70 [Ch.own n0 n0 (Sl a5 r2.1.1 c6) r2.1.1, Ch.own n0 n0 (Sl a7 r2.1.2 c8) r2.1.2, Ch.ro n0 (Sl a9 r2.2 c10) r2.2, Ch.own n0 n0 (Sl (some ⟨b42, 0, none⟩) xs40 c43) xs40, Ch.bx n0 b12 0 [(Sl a5 r2.1.1 c6), (Sl a7 r2.1.2 c8)] [] []] := H.sel' [0, 1, 5, 6, 7] rfl rfl
     refine st (v := (I r67)) (rv_assign rfl) ?_
     refine w_end ?_
     refine q_then ?_
     refine c_seq ?_
     have hc71 := H.cells 4 rfl
     obtain ⟨xs73, hx74, h'⟩ := bind_some h
     clear h
     have h := h'; clear h'
     obtain ⟨xs77, hx78, h'⟩ := bind_some h
     clear h
     have h := h'; clear h'
     obtain ⟨a79, c80, hs81, hR82⟩ := (H.ro 2 rfl).slice hx78
     replace H := H.add (d := Ch.ro n0 (Sl a79 xs77 c80) xs77) hR82 (fun _ h => h)
     clear hR82
     obtain ⟨xs83, hx84, h'⟩ := bind_some h
     clear h
     have h := h'; clear h'
     have Hs := H
     refine rg2 (σ := σ70) (Nm := (Nat) × (Option Addr) × (Nat) × (Option Addr) × (Nat)) 8 [1, 3, 7] [[false, false, false], [true, false, false], [true, true, false], [true, true, true]] [[(0, 0), (1, 1), (2, 2), (3, 3)], [(0, 1)], [(0, 0), (1, 1)], [(1, 2)], [(0, 0), (1, 1), (2, 2)], [(0, 0), (1, 1), (2, 2)], [(0, 0), (1, 1), (2, 2)], [(2, 3)]] 3 [fun ((b72, a75, c76, a85, c86) : (Nat) × (Option Addr) × (Nat) × (Option Addr) × (Nat)) => fun σm => Hp S0 σ0 σm [Ch.ro n0 (Sl a79 xs77 c80) xs77, Ch.own n0 n0 (Sl a5 r2.1.1 c6) r2.1.1, Ch.own n0 n0 (Sl a7 r2.1.2 c8) r2.1.2, Ch.ro n0 (Sl a9 r2.2 c10) r2.2, Ch.own n0 n0 (Sl (some ⟨b42, 0, none⟩) xs40 c43) xs40, Ch.bx n0 b12 0 [(Sl a5 r2.1.1 c6), (Sl a7 r2.1.2 c8)] [] []] ∧ Md (cov []) σ70 σm, fun ((b72, a75, c76, a85, c86) : (Nat) × (Option Addr) × (Nat) × (Option Addr) × (Nat)) => fun σm => Hp S0 σ0 σm [Ch.own n0 n0 (Sl (some ⟨b72, 0, none⟩) ([] : List Int) 0) ([] : List Int), Ch.ro n0 (Sl a79 xs77 c80) xs77, Ch.own n0 n0 (Sl a5 r2.1.1 c6) r2.1.1, Ch.own n0 n0 (Sl a7 r2.1.2 c8) r2.1.2, Ch.ro n0 (Sl a9 r2.2 c10) r2.2, Ch.own n0 n0 (Sl (some ⟨b42, 0, none⟩) xs40 c43) xs40, Ch.bx n0 b12 0 [(Sl a5 r2.1.1 c6), (Sl a7 r2.1.2 c8)] [] []] ∧ Md (cov []) σ70 σm, fun ((b72, a75, c76, a85, c86) : (Nat) × (Option Addr) × (Nat) × (Option Addr) × (Nat)) => fun σm => Hp S0 σ0 σm [Ch.own n0 n0 (Sl a75 xs73 c76) xs73, Ch.ro n0 (Sl a79 xs77 c80) xs77, Ch.own n0 n0 (Sl a5 r2.1.1 c6) r2.1.1, Ch.own n0 n0 (Sl a7 r2.1.2 c8) r2.1.2, Ch.ro n0 (Sl a9 r2.2 c10) r2.2, Ch.own n0 n0 (Sl (some ⟨b42, 0, none⟩) xs40 c43) xs40, Ch.bx n0 b12 0 [(Sl a5 r2.1.1 c6), (Sl a7 r2.1.2 c8)] [] []] ∧ Md (fun i => (cov []) i ∨ (fun b => blk (Sl (some ⟨b72, 0, none⟩) ([] : List Int) 0) = some b) i) σ70 σm, fun ((b72, a75, c76, a85, c86) : (Nat) × (Option Addr) × (Nat) × (Option Addr) × (Nat)) => fun σm => Hp S0 σ0 σm [Ch.own n0 n0 (Sl a85 xs83 c86) xs83, Ch.ro n0 (Sl a79 xs77 c80) xs77, Ch.own n0 n0 (Sl a5 r2.1.1 c6) r2.1.1, Ch.own n0 n0 (Sl a7 r2.1.2 c8) r2.1.2, Ch.ro n0 (Sl a9 r2.2 c10) r2.2, Ch.own n0 n0 (Sl (some ⟨b42, 0, none⟩) xs40 c43) xs40, Ch.bx n0 b12 0 [(Sl a5 r2.1.1 c6), (Sl a7 r2.1.2 c8)] [] []] ∧ Md (fun i => (fun i => (cov []) i ∨ (fun b => blk (Sl (some ⟨b72, 0, none⟩) ([] : List Int) 0) = some b) i) i ∨ (fun b => blk (Sl a75 xs73 c76) = some b) i) σ70 σm] [fun ((b72, a75, c76, a85, c86) : (Nat) × (Option Addr) × (Nat) × (Option Addr) × (Nat)) => (.agg #[(Sl a5 r2.1.1 c6), (Sl a7 r2.1.2 c8)]), fun ((b72, a75, c76, a85, c86) : (Nat) × (Option Addr) × (Nat) × (Option Addr) × (Nat)) => (Sl (some ⟨b72, 0, none⟩) ([] : List Int) 0), fun ((b72, a75, c76, a85, c86) : (Nat) × (Option Addr) × (Nat) × (Option Addr) × (Nat)) => (Sl (some ⟨b42, 0, none⟩) xs40 c43), fun ((b72, a75, c76, a85, c86) : (Nat) × (Option Addr) × (Nat) × (Option Addr) × (Nat)) => (Sl a75 xs73 c76), fun ((b72, a75, c76, a85, c86) : (Nat) × (Option Addr) × (Nat) × (Option Addr) × (Nat)) => (Sl a9 r2.2 c10), fun ((b72, a75, c76, a85, c86) : (Nat) × (Option Addr) × (Nat) × (Option Addr) × (Nat)) => (I 2), fun ((b72, a75, c76, a85, c86) : (Nat) × (Option Addr) × (Nat) × (Option Addr) × (Nat)) => (Sl a79 xs77 c80), fun ((b72, a75, c76, a85, c86) : (Nat) × (Option Addr) × (Nat) × (Option Addr) × (Nat)) => (Sl a85 xs83 c86)] (0, none, 0, none, 0) (by kernel_rfl) (by kernel_rfl) ?_ ?_ ?_
     ·intro σm m0
      exact ⟨H.grow (m0.mono fun _ h => h.elim), m0⟩
     ·refine all_cons (by
        refine ⟨?_, ?_⟩
        ·rintro ⟨b72, a75, c76, a85, c86⟩ ρ σm hJ hoff hdep
         have e3 := look_off (N := 67) (hoff 3 rfl) rfl
         obtain ⟨H, m⟩ := id hJ
         have hc71 := H.cells 5 rfl
         exact dp_v (v := (.agg #[(Sl a5 r2.1.1 c6), (Sl a7 r2.1.2 c8)])) wn (rv_load (cs := [(Sl a5 r2.1.1 c6), (Sl a7 r2.1.2 c8)]) Try.underlying39 rfl ti39 e3 rfl hc71) rfl hJ
        refine ⟨?_, ?_⟩
        ·rintro ⟨b72, a75, c76, a85, c86⟩ ρ σm hJ hoff hdep
         have e3 := look_off (N := 67) (hoff 3 rfl) rfl
         obtain ⟨H, m⟩ := id hJ
         have hc71 := H.cells 6 rfl
         exact dp_v (v := (.agg #[(Sl a5 r2.1.1 c6), (Sl a7 r2.1.2 c8)])) wn (rv_load (cs := [(Sl a5 r2.1.1 c6), (Sl a7 r2.1.2 c8)]) Try.underlying39 rfl ti39 e3 rfl hc71) rfl hJ
        refine ⟨?_, ?_⟩
        ·rintro ⟨b72, a75, c76, a85, c86⟩ ρ σm hJ hoff hdep
         have e3 := look_off (N := 67) (hoff 3 rfl) rfl
         obtain ⟨H, m⟩ := id hJ
         have hc71 := H.cells 6 rfl
         exact dp_v (v := (.agg #[(Sl a5 r2.1.1 c6), (Sl a7 r2.1.2 c8)])) wn (rv_load (cs := [(Sl a5 r2.1.1 c6), (Sl a7 r2.1.2 c8)]) Try.underlying39 rfl ti39 e3 rfl hc71) rfl hJ
        refine ⟨?_, ?_⟩
        ·rintro ⟨b72, a75, c76, a85, c86⟩ ρ σm hJ hoff hdep
         have e3 := look_off (N := 67) (hoff 3 rfl) rfl
         obtain ⟨H, m⟩ := id hJ
         have hc71 := H.cells 6 rfl
         exact dp_v (v := (.agg #[(Sl a5 r2.1.1 c6), (Sl a7 r2.1.2 c8)])) wn (rv_load (cs := [(Sl a5 r2.1.1 c6), (Sl a7 r2.1.2 c8)]) Try.underlying39 rfl ti39 e3 rfl hc71) rfl hJ
        trivial) ?_
      refine all_cons (by
        refine ⟨?_, ?_⟩
        ·rintro ⟨b72, a75, c76, a85, c86⟩ ρ σm hJ hoff hdep
         obtain ⟨H, m⟩ := id hJ
         refine dp_ex wn (ex_buildSlice (el := n0) (xs := ([] : List Int)) (ps := []) (cs := []) H hn0 Try.underlying29 ti3 rfl rfl (by kernel_rfl) (.nil) rfl) ?_
         rintro _ σq ⟨b72x, rfl, H2, m2⟩
         exact ⟨_, (b72x, a75, c76, a85, c86), rfl, rfl, ⟨H2.sel' [0, 1, 2, 3, 4, 5, 6] rfl rfl, m.comp0 m2⟩, stab [0, 2, 4, 5, 6] (by kernel_rfl) ⟨rfl, rfl, rfl, rfl, rfl, trivial⟩⟩
        trivial) ?_
      refine ac rfl (by
        intro k; rintro ⟨b72, a75, c76, a85, c86⟩ ρ σm hJ hoff hdep
        have e7 := look_off (N := 67) (hoff 7 rfl) rfl
        exact dp_v (v := (Sl (some ⟨b42, 0, none⟩) xs40 c43)) wn (rv_move e7) rfl hJ) ?_
      refine all_cons (by
        refine ⟨?_, ?_⟩
        ·rintro ⟨b72, a75, c76, a85, c86⟩ ρ σm hJ hoff hdep
         have e47 := hdep 1 rfl rfl 47 rfl
         have e48 := hdep 2 rfl rfl 48 rfl
         obtain ⟨H, m⟩ := id hJ
         refine dp_ex wn (ex_append H (i := 0) rfl Try.underlying29 Try.underlying29 ti3 rfl rfl (by decide) (H.own 5 rfl).rd hx74 hn0 e47 e48) ?_
         rintro _ σq ⟨a75x, c76x, rfl, H2, m2⟩
         exact ⟨_, (b72, a75x, c76x, a85, c86), rfl, rfl, ⟨H2.sel' [0, 1, 2, 3, 4, 5, 6] rfl rfl, m.comp m2⟩, stab [0, 1, 2, 4, 5, 6] (by kernel_rfl) ⟨rfl, rfl, rfl, rfl, rfl, rfl, trivial⟩⟩
        trivial) ?_
      refine ac rfl (by
        intro k; rintro ⟨b72, a75, c76, a85, c86⟩ ρ σm hJ hoff hdep
        have e4 := look_off (N := 67) (hoff 4 rfl) rfl
        exact dp_v (v := (Sl a9 r2.2 c10)) wn (rv_move e4) rfl hJ) ?_
      refine ac rfl (by
        intro k; rintro ⟨b72, a75, c76, a85, c86⟩ ρ σm hJ hoff hdep
        have e6 := look_off (N := 67) (hoff 6 rfl) rfl
        exact dp_v (v := (I 2)) wn (rv_move e6) rfl hJ) ?_
      refine ac rfl (by
        intro k; rintro ⟨b72, a75, c76, a85, c86⟩ ρ σm hJ hoff hdep
        have e50 := hdep 4 rfl rfl 50 rfl
        have e51 := hdep 5 rfl rfl 51 rfl
        exact dp_v (v := (Sl a79 xs77 c80)) wn (rv_slice_l Try.underlying29 ti3 hs81 e50 e51) rfl hJ) ?_
      refine all_cons (by
        refine ⟨?_, ?_⟩
        ·rintro ⟨b72, a75, c76, a85, c86⟩ ρ σm hJ hoff hdep
         have e49 := hdep 3 rfl rfl 49 rfl
         have e52 := hdep 6 rfl rfl 52 rfl
         obtain ⟨H, m⟩ := id hJ
         refine dp_ex wn (ex_append H (i := 0) rfl Try.underlying29 Try.underlying29 ti3 rfl rfl (by decide) (H.ro 1 rfl).rd hx84 hn0 e49 e52) ?_
         rintro _ σq ⟨a85x, c86x, rfl, H2, m2⟩
         exact ⟨_, (b72, a75, c76, a85x, c86x), rfl, rfl, ⟨H2.sel' [0, 1, 2, 3, 4, 5, 6] rfl rfl, m.comp m2⟩, stab [0, 1, 2, 3, 4, 5, 6] (by kernel_rfl) ⟨rfl, rfl, rfl, rfl, rfl, rfl, rfl, trivial⟩⟩
        trivial) ?_
      exact all_nil
     ·rintro ⟨b72, a75, c76, a85, c86⟩ ρ σ87 hJ hoff hrel
      have e5 := look_off (N := 67) (hoff 5 rfl) rfl
      have e8 := look_off (N := 67) (hoff 8 rfl) rfl
      have e46 := hrel 0 rfl 46 rfl
      have e53 := hrel 7 rfl 53 rfl
      obtain ⟨H, -⟩ := (show Hp S0 σ0 σ87 [Ch.own n0 n0 (Sl a85 xs83 c86) xs83, Ch.ro n0 (Sl a79 xs77 c80) xs77, Ch.own n0 n0 (Sl a5 r2.1.1 c6) r2.1.1, Ch.own n0 n0 (Sl a7 r2.1.2 c8) r2.1.2, Ch.ro n0 (Sl a9 r2.2 c10) r2.2, Ch.own n0 n0 (Sl (some ⟨b42, 0, none⟩) xs40 c43) xs40, Ch.bx n0 b12 0 [(Sl a5 r2.1.1 c6), (Sl a7 r2.1.2 c8)] [] []] ∧ Md (fun i => (fun i => (cov []) i ∨ (fun b => blk (Sl (some ⟨b72, 0, none⟩) ([] : List Int) 0) = some b) i) i ∨ (fun b => blk (Sl a75 xs73 c76) = some b) i) σ70 σ87 from hJ)
      clear hJ Hs
      rw [fr_lookL (L := [(5, (I r16)), (8, (I r67)), (46, (.agg #[(Sl a5 r2.1.1 c6), (Sl a7 r2.1.2 c8)])), (53, (Sl a85 xs83 c86))]) ⟨e5, e8, e46, e53, trivial⟩]
      clear hoff hrel e5 e8 e46 e53
      obtain ⟨σ88, hw89, H, -⟩ := H.pub 2 rfl (Nat.le_refl _)
      rw [← hw89]; clear hw89
      obtain ⟨σ90, hw91, H, -⟩ := H.pub 3 rfl (Nat.le_refl _)
      rw [← hw91]; clear hw91
      obtain ⟨σ92, hw93, H, -⟩ := H.pub 2 rfl (Nat.le_refl _)
      rw [← hw93]; clear hw93
      replace H := H.roLow 2 0 rfl (Nat.zero_le _)
      replace H := H.roLow 2 0 rfl (Nat.zero_le _)
      replace H := H.roLow 2 0 rfl (Nat.zero_le _)
      obtain ⟨r94, hx95, h'⟩ := bind_some h
      clear h
      have h := h'; clear h'
      have hc96 := c_impl_EncodeVector (ab_0_0 := a5) (cb_0_0 := c6) (ab_0_1 := a7) (cb_0_1 := c8) (aat_1 := a85) (cat_1 := c86) hx95
      refine st_call (cx_call hc96 (ent_f hc96.fn rfl) hn0 (show Hp S0 σ0 _ ([Ch.ro 0 (Sl a5 r2.1.1 c6) r2.1.1, Ch.ro 0 (Sl a7 r2.1.2 c8) r2.1.2, Ch.ro 0 (Sl a85 xs83 c86) xs83] ++ [Ch.ro 0 (Sl a85 xs83 c86) xs83, Ch.ro 0 (Sl a7 r2.1.2 c8) r2.1.2, Ch.ro 0 (Sl a5 r2.1.1 c6) r2.1.1, Ch.ro n0 (Sl a85 xs83 c86) xs83, Ch.ro n0 (Sl a7 r2.1.2 c8) r2.1.2, Ch.ro n0 (Sl a5 r2.1.1 c6) r2.1.1, Ch.ro n0 (Sl a79 xs77 c80) xs77, Ch.ro n0 (Sl a9 r2.2 c10) r2.2, Ch.own n0 n0 (Sl (some ⟨b42, 0, none⟩) xs40 c43) xs40, Ch.bx n0 b12 0 [(Sl a5 r2.1.1 c6), (Sl a7 r2.1.2 c8)] [] []]) from (H.sel' [2, 1, 0, 0, 1, 2, 3, 4, 5, 6, 7, 8, 9] rfl rfl))) wn ?_
      rintro _ σ97 ⟨_, ⟨rfl, rfl⟩, H, -⟩
      replace H : Hp S0 σ0 σ97 [Ch.ro 0 (Sl a85 xs83 c86) xs83, Ch.ro 0 (Sl a7 r2.1.2 c8) r2.1.2, Ch.ro 0 (Sl a5 r2.1.1 c6) r2.1.1, Ch.ro n0 (Sl a85 xs83 c86) xs83, Ch.ro n0 (Sl a7 r2.1.2 c8) r2.1.2, Ch.ro n0 (Sl a5 r2.1.1 c6) r2.1.1, Ch.ro n0 (Sl a79 xs77 c80) xs77, Ch.ro n0 (Sl a9 r2.2 c10) r2.2, Ch.own n0 n0 (Sl (some ⟨b42, 0, none⟩) xs40 c43) xs40, Ch.bx n0 b12 0 [(Sl a5 r2.1.1 c6), (Sl a7 r2.1.2 c8)] [] []] := H
      replace H : Hp S0 σ0 σ97 [] := H.sel' [] rfl rfl
      refine st (v := (I r94)) (rv_assign rfl) ?_
      refine w_end ?_
      refine q_then ?_
      refine c_seq ?_
      refine rg ?_
      refine st (v := (I r67)) (rv_move rfl) ?_
      refine st (v := (I (w64 (r67.tdiv 4)))) (rv_quo (a := r67) (b := 4) rfl rfl (by decide)) ?_
      refine st (v := (I r16)) (rv_move rfl) ?_
      refine st (v := (I (w64 (r16.tdiv 4)))) (rv_quo (a := r16) (b := 4) rfl rfl (by decide)) ?_
      refine st (v := (B ((w64 (r67.tdiv 4)) == (w64 (r16.tdiv 4))))) (rv_eql (a := (w64 (r67.tdiv 4))) (b := (w64 (r16.tdiv 4))) rfl rfl) ?_
      refine st (v := (B ((w64 (r67.tdiv 4)) == (w64 (r16.tdiv 4))))) (rv_move rfl) ?_
      rcases Bool.eq_false_or_eq_true ((w64 (r67.tdiv 4)) == (w64 (r16.tdiv 4))) with hb98 | hb98
      ·replace h := bif_t hb98 h
       refine st_g (v := (I r94)) (congrArg some hb98) (rv_move rfl) ?_
       refine st_g (v := (I (r94.tmod 4))) (congrArg some hb98) (rv_rem (a := r94) (b := 4) rfl rfl (by decide)) ?_
       refine st_g (v := (I r16)) (congrArg some hb98) (rv_move rfl) ?_
       refine st_g (v := (I (r16.tmod 4))) (congrArg some hb98) (rv_rem (a := r16) (b := 4) rfl rfl (by decide)) ?_
       refine st_g (v := (B ((r94.tmod 4) == (r16.tmod 4)))) (congrArg some hb98) (rv_eql (a := (r94.tmod 4)) (b := (r16.tmod 4)) rfl rfl) ?_
       refine st (v := (B ((r94.tmod 4) == (r16.tmod 4)))) (rv_pick_t (congrArg B hb98) rfl) ?_
       refine st (v := (B ((r94.tmod 4) == (r16.tmod 4)))) (rv_assign rfl) ?_
       refine w_end ?_
       refine q_then ?_
       refine c_ret ?_
       obtain rfl := Option.some.inj h
       exact fin_ret (v := (B ((r94.tmod 4) == (r16.tmod 4)))) (results_ok Try.results6 (res_tmp (v := (B ((r94.tmod 4) == (r16.tmod 4)))) rfl res_nil) rfl) ⟨rfl, rfl⟩ (H.sel' [] rfl rfl)
      ·replace h := bif_f hb98 h
       refine st_skip (congrArg some hb98) ?_
       refine st_skip (congrArg some hb98) ?_
       refine st_skip (congrArg some hb98) ?_
       refine st_skip (congrArg some hb98) ?_
       refine st_skip (congrArg some hb98) ?_
       refine st (v := (B false)) (rv_pick_f (congrArg B hb98) rfl) ?_
       refine st (v := (B false)) (rv_assign rfl) ?_
       refine w_end ?_
       refine q_then ?_
       refine c_ret ?_
       obtain rfl := Option.some.inj h
       exact fin_ret (v := (B false)) (results_ok Try.results6 (res_tmp (v := (B false)) rfl res_nil) rfl) ⟨rfl, rfl⟩ (H.sel' [] rfl rfl)

end Go.Vs
