/- The functions compute what their models say. -/
import Derived.Test.YtdjjikmfkejdiaeKExactProbeOrderC1
set_option linter.unusedVariables false
set_option linter.unusedSimpArgs false
set_option maxRecDepth 20000
namespace Go.Vs
open Go Go.Proofs
attribute [local irreducible] Code.wp Code.wpIn wpList wpListIn wpQuiet Calls CallsIn

theorem c_impl_Distance {kind_0 : Int} {a_1 : List Int} {b_2 : List Int} {aa_1 : Option Addr} {ca_1 : Nat} {ab_2 : Option Addr} {cb_2 : Nat} {r : Int} (h : M.impl_Distance kind_0 a_1 b_2 = some r) :
    Cal2 Try.prog 74 [(I kind_0), (Sl aa_1 a_1 ca_1), (Sl ab_2 b_2 cb_2)] [Ch.ro 0 (Sl aa_1 a_1 ca_1) a_1, Ch.ro 0 (Sl ab_2 b_2 cb_2) b_2] (fun n0 v L => v = (I r) ∧ L = []) := by
 refine cal2 (n := 24) Try.func74 rfl rfl rfl rfl ?_
 intro S0 σ0 n0 hn0 H
 unfold M.impl_Distance at h
 refine c_seq ?_
 refine rg ?_
 refine st (v := (I 0)) (rv_assign rfl) ?_
 refine w_end ?_
 refine q_then ?_
 refine c_seq ?_
 refine c_seq ?_
 obtain ⟨o1, hj, h'⟩ := bind_some h
 clear h
 refine c_cut (fun e a w => e = .normal ∧ ∃ (ρ : Nat → Value) (σ : St), a = fr 24 (updL ρ [(0, (I kind_0)), (1, (Sl aa_1 a_1 ca_1)), (2, (Sl ab_2 b_2 cb_2)), (14, (B o1))]) ∧ w = σ.w ∧ Hp S0 σ0 σ [Ch.ro 0 (Sl aa_1 a_1 ca_1) a_1, Ch.ro 0 (Sl ab_2 b_2 cb_2) b_2]) ?_ ?_
 ·clear h'
  rename _ = some o1 => h
  refine rg ?_
  refine st (v := (Sl aa_1 a_1 ca_1)) (rv_move rfl) ?_
  obtain ⟨r2, hx3, h'⟩ := bind_some h
  clear h
  have h := h'; clear h'
  have hc4 := c_impl_ValidVector (av_0 := aa_1) (cv_0 := ca_1) hx3
  refine st_call (cx_call hc4 (ent_f hc4.fn rfl) hn0 (show Hp S0 σ0 _ ([Ch.ro 0 (Sl aa_1 a_1 ca_1) a_1] ++ [Ch.ro 0 (Sl aa_1 a_1 ca_1) a_1, Ch.ro 0 (Sl ab_2 b_2 cb_2) b_2]) from (H.sel' [0, 0, 1] rfl rfl))) wn ?_
  rintro _ σ5 ⟨_, ⟨rfl, rfl⟩, H, -⟩
  replace H : Hp S0 σ0 σ5 [Ch.ro 0 (Sl aa_1 a_1 ca_1) a_1, Ch.ro 0 (Sl ab_2 b_2 cb_2) b_2] := H
  refine st (v := (B (!r2))) (rv_not rfl) ?_
  refine st (v := (B (!r2))) (rv_move rfl) ?_
  rcases Bool.eq_false_or_eq_true (!r2) with hb6 | hb6
  ·replace h := bif_t hb6 h
   refine st_skip (congrArg some hb6) ?_
   refine st_skip (congrArg some hb6) ?_
   refine st_skip (congrArg some hb6) ?_
   refine st (v := (B true)) (rv_pick_t (congrArg B hb6) rfl) ?_
   refine w_end ?_
   obtain rfl := Option.some.inj h
   exact ⟨rfl, _, σ5, fr_join ⟨rfl, rfl, rfl, rfl, trivial⟩, rfl, H.sel' [0, 1] rfl rfl⟩
  ·replace h := bif_f hb6 h
   refine st_g (v := (Sl ab_2 b_2 cb_2)) (congrArg some hb6) (rv_move rfl) ?_
   obtain ⟨r7, hx8, h'⟩ := bind_some h
   clear h
   have h := h'; clear h'
   have hc9 := c_impl_ValidVector (av_0 := ab_2) (cv_0 := cb_2) hx8
   refine st_call (cx_call hc9 (ent_f hc9.fn rfl) hn0 (show Hp S0 σ0 _ ([Ch.ro 0 (Sl ab_2 b_2 cb_2) b_2] ++ [Ch.ro 0 (Sl aa_1 a_1 ca_1) a_1, Ch.ro 0 (Sl ab_2 b_2 cb_2) b_2]) from (H.sel' [1, 0, 1] rfl rfl))) (wanted_yes rfl (by exact (congrArg some hb6))) ?_
   rintro _ σ10 ⟨_, ⟨rfl, rfl⟩, H, -⟩
   replace H : Hp S0 σ0 σ10 [Ch.ro 0 (Sl aa_1 a_1 ca_1) a_1, Ch.ro 0 (Sl ab_2 b_2 cb_2) b_2] := H
   refine st_g (v := (B (!r7))) (congrArg some hb6) (rv_not rfl) ?_
   refine st (v := (B (!r7))) (rv_pick_f (congrArg B hb6) rfl) ?_
   refine w_end ?_
   obtain rfl := Option.some.inj h
   exact ⟨rfl, _, σ10, fr_join ⟨rfl, rfl, rfl, rfl, trivial⟩, rfl, H.sel' [0, 1] rfl rfl⟩
 ·clear hj
  have h := h'
  clear h' H
  rintro e a w ⟨rfl, ρ, σ11, rfl, rfl, H⟩
  refine q_then ?_
  refine cd_cond o1 rfl (fun hb12 => ?_) (fun hb12 => ?_)
  ·replace h := bif_t hb12 h
   refine c_seq ?_
   refine rg ?_
   refine st (v := (I (-1))) (rv_assign rfl) ?_
   refine w_end ?_
   refine q_then ?_
   refine c_ret ?_
   refine q_then_r ?_
   obtain rfl := Option.some.inj h
   exact fin_ret (v := (I (-1))) (results_ok Try.results74 (res_tmp (v := (I (-1))) rfl res_nil) rfl) ⟨rfl, rfl⟩ (H.sel' [] rfl rfl)
  ·replace h := bif_f hb12 h
   refine c_skip ?_
   refine q_then ?_
   refine c_seq ?_
   obtain ⟨xs13, hx14, h'⟩ := bind_some h
   clear h
   have h := h'; clear h'
   obtain ⟨hl18, hq19⟩ := garr_some hx14
   clear hx14 hq19
   obtain ⟨b15, o16, rfl, hc17⟩ := (H.ro 0 rfl).arr (Nat.lt_of_lt_of_le (by decide) hl18)
   obtain ⟨xs20, hx21, h'⟩ := bind_some h
   clear h
   have h := h'; clear h'
   obtain ⟨hl25, hq26⟩ := garr_some hx21
   clear hx21 hq26
   obtain ⟨b22, o23, rfl, hc24⟩ := (H.ro 1 rfl).arr (Nat.lt_of_lt_of_le (by decide) hl25)
   obtain ⟨r27, hx28, h'⟩ := bind_some h
   clear h
   have h := h'; clear h'
   have hc29 := c_impl_gapsOf (by rw [List.length_take]; have := hl18; omega) (by rw [List.length_take]; have := hl25; omega) hx28
   have Hs := H
   refine rg2 (σ := σ11) (Nm := Unit) 8 [7] [[false], [true]] [[(0, 0), (1, 1)], [(0, 0)], [(0, 0)], [(0, 0)], [(0, 0)], [(0, 0)], [(0, 0)], [(0, 1)]] 1 [fun _ => fun σm => Hp S0 σ0 σm [Ch.ro 0 (Sl (some ⟨b15, o16, none⟩) a_1 ca_1) a_1, Ch.ro 0 (Sl (some ⟨b22, o23, none⟩) b_2 cb_2) b_2] ∧ Md (cov []) σ11 σm, fun _ => fun σm => Hp S0 σ0 σm [Ch.ro 0 (Sl (some ⟨b15, o16, none⟩) a_1 ca_1) a_1, Ch.ro 0 (Sl (some ⟨b22, o23, none⟩) b_2 cb_2) b_2] ∧ Md (cov []) σ11 σm ∧ r27.length = 4] [fun _ => (I kind_0), fun _ => (Sl (some ⟨b15, o16, none⟩) a_1 ca_1), fun _ => (.pointer (some ⟨b15, o16, none⟩)), fun _ => (.agg (List.map I (List.take 4 a_1)).toArray), fun _ => (Sl (some ⟨b22, o23, none⟩) b_2 cb_2), fun _ => (.pointer (some ⟨b22, o23, none⟩)), fun _ => (.agg (List.map I (List.take 4 b_2)).toArray), fun _ => (.agg (List.map I r27).toArray)] () (by kernel_rfl) (by kernel_rfl) ?_ ?_ ?_
   ·intro σm m0
    exact ⟨H.grow (m0.mono fun _ h => h.elim), m0⟩
   ·refine ac rfl (by
      intro k _nm ρ σm hJ hoff hdep
      have e0 := look_off (N := 24) (hoff 0 rfl) rfl
      exact dp_v (v := (I kind_0)) wn (rv_move e0) rfl hJ) ?_
    refine ac rfl (by
      intro k _nm ρ σm hJ hoff hdep
      have e1 := look_off (N := 24) (hoff 1 rfl) rfl
      exact dp_v (v := (Sl (some ⟨b15, o16, none⟩) a_1 ca_1)) wn (rv_move e1) rfl hJ) ?_
    refine ac rfl (by
      intro k _nm ρ σm hJ hoff hdep
      have e16 := hdep 1 rfl rfl 16 rfl
      exact dp_v (v := (.pointer (some ⟨b15, o16, none⟩))) wn (rv_arrPtr Try.underlying114 e16 hl18) rfl hJ) ?_
    refine all_cons (by
      refine ⟨?_, ?_⟩
      ·intro _nm ρ σm hJ hoff hdep
       have e17 := hdep 2 rfl rfl 17 rfl
       obtain ⟨H, m⟩ := id hJ
       replace hc17 := (Hs.ro 0 rfl).arr_md hc17 m
       exact dp_v (v := (.agg (List.map I (List.take 4 a_1)).toArray)) wn (rv_load (cs := List.map I (List.take 4 a_1)) Try.underlying114 rfl ti114 e17 (by rw [List.length_map, List.length_take]; have := hl18; omega) (arr_take hc17)) rfl hJ
      trivial) ?_
    refine ac rfl (by
      intro k _nm ρ σm hJ hoff hdep
      have e2 := look_off (N := 24) (hoff 2 rfl) rfl
      exact dp_v (v := (Sl (some ⟨b22, o23, none⟩) b_2 cb_2)) wn (rv_move e2) rfl hJ) ?_
    refine ac rfl (by
      intro k _nm ρ σm hJ hoff hdep
      have e19 := hdep 4 rfl rfl 19 rfl
      exact dp_v (v := (.pointer (some ⟨b22, o23, none⟩))) wn (rv_arrPtr Try.underlying114 e19 hl25) rfl hJ) ?_
    refine all_cons (by
      refine ⟨?_, ?_⟩
      ·intro _nm ρ σm hJ hoff hdep
       have e20 := hdep 5 rfl rfl 20 rfl
       obtain ⟨H, m⟩ := id hJ
       replace hc24 := (Hs.ro 1 rfl).arr_md hc24 m
       exact dp_v (v := (.agg (List.map I (List.take 4 b_2)).toArray)) wn (rv_load (cs := List.map I (List.take 4 b_2)) Try.underlying114 rfl ti114 e20 (by rw [List.length_map, List.length_take]; have := hl25; omega) (arr_take hc24)) rfl hJ
      trivial) ?_
    refine all_cons (by
      refine ⟨?_, ?_⟩
      ·intro _nm ρ σm hJ hoff hdep
       have e18 : look 24 ρ 18 = (.agg (List.map I (List.take 4 a_1)).toArray) := hdep 3 rfl rfl 18 rfl
       have e21 : look 24 ρ 21 = (.agg (List.map I (List.take 4 b_2)).toArray) := hdep 6 rfl rfl 21 rfl
       obtain ⟨H, m⟩ := id hJ
       refine dp_cx wn (cx_call hc29 (ent_f hc29.fn (by show [look 24 ρ 18, look 24 ρ 21] = _; rw [e18, e21])) hn0 (show Hp S0 σ0 _ ([] ++ [Ch.ro 0 (Sl (some ⟨b15, o16, none⟩) a_1 ca_1) a_1, Ch.ro 0 (Sl (some ⟨b22, o23, none⟩) b_2 cb_2) b_2]) from (H.sel' [0, 1] rfl rfl))) ?_
       rintro _ σq ⟨_, ⟨rfl, rfl, hl30⟩, H2, m2⟩
       exact ⟨_, (), rfl, rfl, ⟨H2.sel' [0, 1] rfl rfl, m.comp0 m2, hl30⟩, stab [0, 1, 2, 3, 4, 5, 6] (by kernel_rfl) ⟨rfl, rfl, rfl, rfl, rfl, rfl, rfl, trivial⟩⟩
      trivial) ?_
    exact all_nil
   ·intro _nm ρ σ31 hJ hoff hrel
    have e15 := hrel 0 rfl 15 rfl
    have e22 := hrel 7 rfl 22 rfl
    obtain ⟨H, -, hl30⟩ := (show Hp S0 σ0 σ31 [Ch.ro 0 (Sl (some ⟨b15, o16, none⟩) a_1 ca_1) a_1, Ch.ro 0 (Sl (some ⟨b22, o23, none⟩) b_2 cb_2) b_2] ∧ Md (cov []) σ11 σ31 ∧ r27.length = 4 from hJ)
    clear hJ Hs
    rw [fr_lookL (L := [(15, (I kind_0)), (22, (.agg (List.map I r27).toArray))]) ⟨e15, e22, trivial⟩]
    clear hoff hrel e15 e22
    obtain ⟨r32, hx33, h'⟩ := bind_some h
    clear h
    have h := h'; clear h'
    have hc34 := c_impl_distanceOf hl30 hx33
    refine st_call (cx_call hc34 (ent_f hc34.fn rfl) hn0 (show Hp S0 σ0 _ ([] ++ [Ch.ro 0 (Sl (some ⟨b15, o16, none⟩) a_1 ca_1) a_1, Ch.ro 0 (Sl (some ⟨b22, o23, none⟩) b_2 cb_2) b_2]) from (H.sel' [0, 1] rfl rfl))) wn ?_
    rintro _ σ35 ⟨_, ⟨rfl, rfl⟩, H, -⟩
    replace H : Hp S0 σ0 σ35 [Ch.ro 0 (Sl (some ⟨b15, o16, none⟩) a_1 ca_1) a_1, Ch.ro 0 (Sl (some ⟨b22, o23, none⟩) b_2 cb_2) b_2] := H
    refine st (v := (I r32)) (rv_assign rfl) ?_
    refine w_end ?_
    refine q_then ?_
    refine c_ret ?_
    obtain rfl := Option.some.inj h
    exact fin_ret (v := (I r32)) (results_ok Try.results74 (res_tmp (v := (I r32)) rfl res_nil) rfl) ⟨rfl, rfl⟩ (H.sel' [] rfl rfl)

theorem c_cmp_isNaN_int {x_0 : Int}  {r : Bool} (h : M.cmp_isNaN_int x_0 = some r) :
    Cal2 Try.prog 101 [(I x_0)] [] (fun n0 v L => v = (B r) ∧ L = []) := by
 refine cal2 (n := 6) Try.func101 rfl rfl rfl rfl ?_
 intro S0 σ0 n0 hn0 H
 unfold M.cmp_isNaN_int at h
 refine c_seq ?_
 refine rg ?_
 refine st (v := (B false)) (rv_assign rfl) ?_
 refine w_end ?_
 refine q_then ?_
 refine c_seq ?_
 refine rg ?_
 refine st (v := (I x_0)) (rv_move rfl) ?_
 refine st (v := (I x_0)) (rv_move rfl) ?_
 refine st (v := (B (x_0 != x_0))) (rv_neq (a := x_0) (b := x_0) rfl rfl) ?_
 refine st (v := (B (x_0 != x_0))) (rv_assign rfl) ?_
 refine w_end ?_
 refine q_then ?_
 refine c_ret ?_
 obtain rfl := Option.some.inj h
 exact fin_ret (v := (B (x_0 != x_0))) (results_ok Try.results101 (res_tmp (v := (B (x_0 != x_0))) rfl res_nil) rfl) ⟨rfl, rfl⟩ (H.sel' [] rfl rfl)

theorem c_cmp_Compare_int {x_0 : Int} {y_1 : Int}  {r : Int} (h : M.cmp_Compare_int x_0 y_1 = some r) :
    Cal2 Try.prog 79 [(I x_0), (I y_1)] [] (fun n0 v L => v = (I r) ∧ L = []) := by
 refine cal2 (n := 20) Try.func79 rfl rfl rfl rfl ?_
 intro S0 σ0 n0 hn0 H
 unfold M.cmp_Compare_int at h
 refine c_seq ?_
 refine rg ?_
 refine st (v := (I 0)) (rv_assign rfl) ?_
 refine w_end ?_
 refine q_then ?_
 refine c_seq ?_
 refine rg ?_
 refine st (v := (I x_0)) (rv_move rfl) ?_
 obtain ⟨r1, hx2, h'⟩ := bind_some h
 clear h
 have h := h'; clear h'
 have hc3 := c_cmp_isNaN_int hx2
 refine st_call (cx_call hc3 (ent_f hc3.fn rfl) hn0 (show Hp S0 σ0 _ ([] ++ []) from (H.sel' [] rfl rfl))) wn ?_
 rintro _ σ4 ⟨_, ⟨rfl, rfl⟩, H, -⟩
 replace H : Hp S0 σ0 σ4 [] := H
 refine st (v := (B r1)) (rv_assign rfl) ?_
 refine w_end ?_
 refine q_then ?_
 refine c_seq ?_
 refine rg ?_
 refine st (v := (I y_1)) (rv_move rfl) ?_
 obtain ⟨r5, hx6, h'⟩ := bind_some h
 clear h
 have h := h'; clear h'
 have hc7 := c_cmp_isNaN_int hx6
 refine st_call (cx_call hc7 (ent_f hc7.fn rfl) hn0 (show Hp S0 σ0 _ ([] ++ []) from (H.sel' [] rfl rfl))) wn ?_
 rintro _ σ8 ⟨_, ⟨rfl, rfl⟩, H, -⟩
 replace H : Hp S0 σ0 σ8 [] := H
 refine st (v := (B r5)) (rv_assign rfl) ?_
 refine w_end ?_
 refine q_then ?_
 refine c_seq ?_
 refine c_seq ?_
 refine rg ?_
 refine st (v := (B r1)) (rv_move rfl) ?_
 refine w_end ?_
 refine q_then ?_
 refine cd_cond r1 rfl (fun hb9 => ?_) (fun hb9 => ?_)
 ·replace h := bif_t hb9 h
  refine c_seq ?_
  refine c_seq ?_
  refine rg ?_
  refine st (v := (B r5)) (rv_move rfl) ?_
  refine w_end ?_
  refine q_then ?_
  refine cd_cond r5 rfl (fun hb10 => ?_) (fun hb10 => ?_)
  ·replace h := bif_t hb10 h
   refine c_seq ?_
   refine rg ?_
   refine st (v := (I 0)) (rv_assign rfl) ?_
   refine w_end ?_
   refine q_then ?_
   refine c_ret ?_
   refine q_then_r ?_
   refine q_then_r ?_
   obtain rfl := Option.some.inj h
   exact fin_ret (v := (I 0)) (results_ok Try.results79 (res_tmp (v := (I 0)) rfl res_nil) rfl) ⟨rfl, rfl⟩ (H.sel' [] rfl rfl)
  ·replace h := bif_f hb10 h
   refine c_skip ?_
   refine q_then ?_
   refine c_seq ?_
   refine rg ?_
   refine st (v := (I (-1))) (rv_assign rfl) ?_
   refine w_end ?_
   refine q_then ?_
   refine c_ret ?_
   refine q_then_r ?_
   obtain rfl := Option.some.inj h
   exact fin_ret (v := (I (-1))) (results_ok Try.results79 (res_tmp (v := (I (-1))) rfl res_nil) rfl) ⟨rfl, rfl⟩ (H.sel' [] rfl rfl)
 ·replace h := bif_f hb9 h
  refine c_skip ?_
  refine q_then ?_
  refine c_seq ?_
  refine c_seq ?_
  refine rg ?_
  refine st (v := (B r5)) (rv_move rfl) ?_
  refine w_end ?_
  refine q_then ?_
  refine cd_cond r5 rfl (fun hb11 => ?_) (fun hb11 => ?_)
  ·replace h := bif_t hb11 h
   refine c_seq ?_
   refine rg ?_
   refine st (v := (I 1)) (rv_assign rfl) ?_
   refine w_end ?_
   refine q_then ?_
   refine c_ret ?_
   refine q_then_r ?_
   obtain rfl := Option.some.inj h
   exact fin_ret (v := (I 1)) (results_ok Try.results79 (res_tmp (v := (I 1)) rfl res_nil) rfl) ⟨rfl, rfl⟩ (H.sel' [] rfl rfl)
  ·replace h := bif_f hb11 h
   refine c_skip ?_
   refine q_then ?_
   refine c_seq ?_
   refine c_seq ?_
   refine rg ?_
   refine st (v := (I x_0)) (rv_move rfl) ?_
   refine st (v := (I y_1)) (rv_move rfl) ?_
   refine st (v := (B (decide (x_0 < y_1)))) (rv_lss (a := x_0) (b := y_1) rfl rfl) ?_
   refine w_end ?_
   refine q_then ?_
   refine cd_cond (decide (x_0 < y_1)) rfl (fun hb12 => ?_) (fun hb12 => ?_)
   ·replace h := bif_t hb12 h
    refine c_seq ?_
    refine rg ?_
    refine st (v := (I (-1))) (rv_assign rfl) ?_
    refine w_end ?_
    refine q_then ?_
    refine c_ret ?_
    refine q_then_r ?_
    obtain rfl := Option.some.inj h
    exact fin_ret (v := (I (-1))) (results_ok Try.results79 (res_tmp (v := (I (-1))) rfl res_nil) rfl) ⟨rfl, rfl⟩ (H.sel' [] rfl rfl)
   ·replace h := bif_f hb12 h
    refine c_skip ?_
    refine q_then ?_
    refine c_seq ?_
    refine c_seq ?_
    refine rg ?_
    refine st (v := (I x_0)) (rv_move rfl) ?_
    refine st (v := (I y_1)) (rv_move rfl) ?_
    refine st (v := (B (decide (y_1 < x_0)))) (rv_gtr (a := x_0) (b := y_1) rfl rfl) ?_
    refine w_end ?_
    refine q_then ?_
    refine cd_cond (decide (y_1 < x_0)) rfl (fun hb13 => ?_) (fun hb13 => ?_)
    ·replace h := bif_t hb13 h
     refine c_seq ?_
     refine rg ?_
     refine st (v := (I 1)) (rv_assign rfl) ?_
     refine w_end ?_
     refine q_then ?_
     refine c_ret ?_
     refine q_then_r ?_
     obtain rfl := Option.some.inj h
     exact fin_ret (v := (I 1)) (results_ok Try.results79 (res_tmp (v := (I 1)) rfl res_nil) rfl) ⟨rfl, rfl⟩ (H.sel' [] rfl rfl)
    ·replace h := bif_f hb13 h
     refine c_skip ?_
     refine q_then ?_
     refine c_seq ?_
     refine rg ?_
     refine st (v := (I 0)) (rv_assign rfl) ?_
     refine w_end ?_
     refine q_then ?_
     refine c_ret ?_
     obtain rfl := Option.some.inj h
     exact fin_ret (v := (I 0)) (results_ok Try.results79 (res_tmp (v := (I 0)) rfl res_nil) rfl) ⟨rfl, rfl⟩ (H.sel' [] rfl rfl)

theorem c_impl_ProbeOrder_1__p_SSint__p24 {i_0 : Int} {j_1 : Int} {p_2 : List (List Int)} {p_3 : List Int} {ap_2 : Option Addr} {cp_2 : Nat} {lop_2 bp_2 op_2 : Nat} {prep_2 sufp_2 : List Value} {ap_3 : Option Addr} {cp_3 : Nat} {lop_3 bp_3 op_3 : Nat} {prep_3 sufp_3 : List Value} {r : Int} (h : M.impl_ProbeOrder_1__p_SSint__p24 i_0 j_1 p_2 p_3 = some r) :
    Cal2 Try.prog 78 [(I i_0), (I j_1), (pt bp_2 op_2), (pt bp_3 op_3)] [Ch.bx lop_2 bp_2 op_2 [(Sl ap_2 p_2 cp_2)] prep_2 sufp_2, Ch.ro 0 (Sl ap_2 p_2 cp_2) p_2, Ch.bx lop_3 bp_3 op_3 [(Sl ap_3 p_3 cp_3)] prep_3 sufp_3, Ch.ro 0 (Sl ap_3 p_3 cp_3) p_3] (fun n0 v L => v = (I r) ∧ L = [Ch.bx lop_2 bp_2 op_2 [(Sl ap_2 p_2 cp_2)] prep_2 sufp_2, Ch.bx lop_3 bp_3 op_3 [(Sl ap_3 p_3 cp_3)] prep_3 sufp_3]) := by
 refine cal2 (n := 20) Try.func78 rfl rfl rfl rfl ?_
 intro S0 σ0 n0 hn0 H
 unfold M.impl_ProbeOrder_1__p_SSint__p24 at h
 refine c_seq ?_
 refine rg ?_
 refine st (v := (I 0)) (rv_assign rfl) ?_
 refine w_end ?_
 refine q_then ?_
 refine c_seq ?_
 have hc1 := H.cell (u := (Sl ap_2 p_2 cp_2)) (o' := op_2) 0 0 rfl rfl rfl
 obtain ⟨x2, hx3, h'⟩ := bind_some h
 clear h
 have h := h'; clear h'
 obtain ⟨b5, o6, hi4, -⟩ := (H.ro 1 rfl).ix hx3
 obtain ⟨v10, hc11, hR9⟩ := ((H.ro 1 rfl).at hx3 hi4).slice
 obtain ⟨a7, c8, rfl⟩ := hR9.isSl
 replace H := H.add (d := Ch.ro 0 (Sl a7 x2 c8) x2) hR9 (fun _ h => h)
 clear hR9
 have hc12 := H.cell (u := (Sl ap_3 p_3 cp_3)) (o' := op_3) 3 0 rfl rfl rfl
 obtain ⟨r13, hx14, h'⟩ := bind_some h
 clear h
 have h := h'; clear h'
 have hc15 := c_impl_Distance (aa_1 := a7) (ca_1 := c8) (ab_2 := ap_3) (cb_2 := cp_3) hx14
 have hc16 := H.cell (u := (Sl ap_2 p_2 cp_2)) (o' := op_2) 1 0 rfl rfl rfl
 obtain ⟨x17, hx18, h'⟩ := bind_some h
 clear h
 have h := h'; clear h'
 obtain ⟨b20, o21, hi19, -⟩ := (H.ro 2 rfl).ix hx18
 obtain ⟨v25, hc26, hR24⟩ := ((H.ro 2 rfl).at hx18 hi19).slice
 obtain ⟨a22, c23, rfl⟩ := hR24.isSl
 replace H := H.add (d := Ch.ro 0 (Sl a22 x17 c23) x17) hR24 (fun _ h => h)
 clear hR24
 have hc27 := H.cell (u := (Sl ap_3 p_3 cp_3)) (o' := op_3) 4 0 rfl rfl rfl
 have Hs := H
 refine rg2 (σ := σ0) (Nm := Unit) 11 [5] [[false], [true]] [[(0, 0)], [(0, 0)], [(0, 0)], [(0, 0)], [(0, 0)], [(0, 1)], [(0, 0), (1, 1)], [(0, 0), (1, 1)], [(0, 0), (1, 1)], [(0, 0), (1, 1)], [(0, 0), (1, 1)]] 1 [fun _ => fun σm => Hp S0 σ0 σm [Ch.ro 0 (Sl a22 x17 c23) x17, Ch.ro 0 (Sl a7 x2 c8) x2, Ch.bx lop_2 bp_2 op_2 [(Sl ap_2 p_2 cp_2)] prep_2 sufp_2, Ch.ro 0 (Sl ap_2 p_2 cp_2) p_2, Ch.bx lop_3 bp_3 op_3 [(Sl ap_3 p_3 cp_3)] prep_3 sufp_3, Ch.ro 0 (Sl ap_3 p_3 cp_3) p_3] ∧ Md (cov []) σ0 σm, fun _ => fun σm => Hp S0 σ0 σm [Ch.ro 0 (Sl a22 x17 c23) x17, Ch.ro 0 (Sl a7 x2 c8) x2, Ch.bx lop_2 bp_2 op_2 [(Sl ap_2 p_2 cp_2)] prep_2 sufp_2, Ch.ro 0 (Sl ap_2 p_2 cp_2) p_2, Ch.bx lop_3 bp_3 op_3 [(Sl ap_3 p_3 cp_3)] prep_3 sufp_3, Ch.ro 0 (Sl ap_3 p_3 cp_3) p_3] ∧ Md (cov []) σ0 σm] [fun _ => (Sl ap_2 p_2 cp_2), fun _ => (I i_0), fun _ => (pt b5 o6), fun _ => (Sl a7 x2 c8), fun _ => (Sl ap_3 p_3 cp_3), fun _ => (I r13), fun _ => (Sl ap_2 p_2 cp_2), fun _ => (I j_1), fun _ => (pt b20 o21), fun _ => (Sl a22 x17 c23), fun _ => (Sl ap_3 p_3 cp_3)] () (by kernel_rfl) (by kernel_rfl) ?_ ?_ ?_
 ·intro σm m0
  exact ⟨H.grow (m0.mono fun _ h => h.elim), m0⟩
 ·refine all_cons (by
    refine ⟨?_, ?_⟩
    ·intro _nm ρ σm hJ hoff hdep
     have e2 := look_off (N := 20) (hoff 2 rfl) rfl
     obtain ⟨H, m⟩ := id hJ
     have hc1 := H.cell (u := (Sl ap_2 p_2 cp_2)) (o' := op_2) 2 0 rfl rfl rfl
     exact dp_v (v := (Sl ap_2 p_2 cp_2)) wn (rv_load1 Try.underlying48 rfl e2 hc1) rfl hJ
    trivial) ?_
  refine ac rfl (by
    intro k _nm ρ σm hJ hoff hdep
    have e0 := look_off (N := 20) (hoff 0 rfl) rfl
    exact dp_v (v := (I i_0)) wn (rv_move e0) rfl hJ) ?_
  refine ac rfl (by
    intro k _nm ρ σm hJ hoff hdep
    have e7 := hdep 0 rfl rfl 7 rfl
    have e8 := hdep 1 rfl rfl 8 rfl
    exact dp_v (v := (pt b5 o6)) wn (rv_ix Try.underlying48 ti23 e7 e8 hi4) rfl hJ) ?_
  refine all_cons (by
    refine ⟨?_, ?_⟩
    ·intro _nm ρ σm hJ hoff hdep
     have e9 := hdep 2 rfl rfl 9 rfl
     obtain ⟨H, m⟩ := id hJ
     replace hc11 := (Hs.ro 3 rfl).hmd hx3 hi4 (k := 0) (by decide) hc11 m
     exact dp_v (v := (Sl a7 x2 c8)) wn (rv_load1 Try.underlying23 rfl e9 hc11) rfl hJ
    trivial) ?_
  refine all_cons (by
    refine ⟨?_, ?_⟩
    ·intro _nm ρ σm hJ hoff hdep
     have e3 := look_off (N := 20) (hoff 3 rfl) rfl
     obtain ⟨H, m⟩ := id hJ
     have hc12 := H.cell (u := (Sl ap_3 p_3 cp_3)) (o' := op_3) 4 0 rfl rfl rfl
     exact dp_v (v := (Sl ap_3 p_3 cp_3)) wn (rv_load1 Try.underlying23 rfl e3 hc12) rfl hJ
    trivial) ?_
  refine all_cons (by
    refine ⟨?_, ?_⟩
    ·intro _nm ρ σm hJ hoff hdep
     have e10 : look 20 ρ 10 = (Sl a7 x2 c8) := hdep 3 rfl rfl 10 rfl
     have e11 : look 20 ρ 11 = (Sl ap_3 p_3 cp_3) := hdep 4 rfl rfl 11 rfl
     obtain ⟨H, m⟩ := id hJ
     refine dp_cx wn (cx_call hc15 (ent_f hc15.fn (by show [(I 3), look 20 ρ 10, look 20 ρ 11] = _; rw [e10, e11])) hn0 (show Hp S0 σ0 _ ([Ch.ro 0 (Sl a7 x2 c8) x2, Ch.ro 0 (Sl ap_3 p_3 cp_3) p_3] ++ [Ch.ro 0 (Sl a22 x17 c23) x17, Ch.ro 0 (Sl a7 x2 c8) x2, Ch.bx lop_2 bp_2 op_2 [(Sl ap_2 p_2 cp_2)] prep_2 sufp_2, Ch.ro 0 (Sl ap_2 p_2 cp_2) p_2, Ch.bx lop_3 bp_3 op_3 [(Sl ap_3 p_3 cp_3)] prep_3 sufp_3, Ch.ro 0 (Sl ap_3 p_3 cp_3) p_3]) from (H.sel' [1, 5, 0, 1, 2, 3, 4, 5] rfl rfl))) ?_
     rintro _ σq ⟨_, ⟨rfl, rfl⟩, H2, m2⟩
     exact ⟨_, (), rfl, rfl, ⟨H2.sel' [0, 1, 2, 3, 4, 5] rfl rfl, m.comp0 (m2.mono (fun i h => by simp [cov, Ch.ro] at h))⟩, stab [0, 1, 2, 3, 4, 6, 7, 8, 9, 10] (by kernel_rfl) ⟨rfl, rfl, rfl, rfl, rfl, rfl, rfl, rfl, rfl, rfl, trivial⟩⟩
    trivial) ?_
  refine all_cons (by
    refine ⟨?_, ?_⟩
    ·intro _nm ρ σm hJ hoff hdep
     have e2 := look_off (N := 20) (hoff 2 rfl) rfl
     obtain ⟨H, m⟩ := id hJ
     have hc16 := H.cell (u := (Sl ap_2 p_2 cp_2)) (o' := op_2) 2 0 rfl rfl rfl
     exact dp_v (v := (Sl ap_2 p_2 cp_2)) wn (rv_load1 Try.underlying48 rfl e2 hc16) rfl hJ
    refine ⟨?_, ?_⟩
    ·intro _nm ρ σm hJ hoff hdep
     have e2 := look_off (N := 20) (hoff 2 rfl) rfl
     obtain ⟨H, m⟩ := id hJ
     have hc16 := H.cell (u := (Sl ap_2 p_2 cp_2)) (o' := op_2) 2 0 rfl rfl rfl
     exact dp_v (v := (Sl ap_2 p_2 cp_2)) wn (rv_load1 Try.underlying48 rfl e2 hc16) rfl hJ
    trivial) ?_
  refine ac rfl (by
    intro k _nm ρ σm hJ hoff hdep
    have e1 := look_off (N := 20) (hoff 1 rfl) rfl
    exact dp_v (v := (I j_1)) wn (rv_move e1) rfl hJ) ?_
  refine ac rfl (by
    intro k _nm ρ σm hJ hoff hdep
    have e13 := hdep 6 rfl rfl 13 rfl
    have e14 := hdep 7 rfl rfl 14 rfl
    exact dp_v (v := (pt b20 o21)) wn (rv_ix Try.underlying48 ti23 e13 e14 hi19) rfl hJ) ?_
  refine all_cons (by
    refine ⟨?_, ?_⟩
    ·intro _nm ρ σm hJ hoff hdep
     have e15 := hdep 8 rfl rfl 15 rfl
     obtain ⟨H, m⟩ := id hJ
     replace hc26 := (Hs.ro 3 rfl).hmd hx18 hi19 (k := 0) (by decide) hc26 m
     exact dp_v (v := (Sl a22 x17 c23)) wn (rv_load1 Try.underlying23 rfl e15 hc26) rfl hJ
    refine ⟨?_, ?_⟩
    ·intro _nm ρ σm hJ hoff hdep
     have e15 := hdep 8 rfl rfl 15 rfl
     obtain ⟨H, m⟩ := id hJ
     replace hc26 := (Hs.ro 3 rfl).hmd hx18 hi19 (k := 0) (by decide) hc26 m
     exact dp_v (v := (Sl a22 x17 c23)) wn (rv_load1 Try.underlying23 rfl e15 hc26) rfl hJ
    trivial) ?_
  refine all_cons (by
    refine ⟨?_, ?_⟩
    ·intro _nm ρ σm hJ hoff hdep
     have e3 := look_off (N := 20) (hoff 3 rfl) rfl
     obtain ⟨H, m⟩ := id hJ
     have hc27 := H.cell (u := (Sl ap_3 p_3 cp_3)) (o' := op_3) 4 0 rfl rfl rfl
     exact dp_v (v := (Sl ap_3 p_3 cp_3)) wn (rv_load1 Try.underlying23 rfl e3 hc27) rfl hJ
    refine ⟨?_, ?_⟩
    ·intro _nm ρ σm hJ hoff hdep
     have e3 := look_off (N := 20) (hoff 3 rfl) rfl
     obtain ⟨H, m⟩ := id hJ
     have hc27 := H.cell (u := (Sl ap_3 p_3 cp_3)) (o' := op_3) 4 0 rfl rfl rfl
     exact dp_v (v := (Sl ap_3 p_3 cp_3)) wn (rv_load1 Try.underlying23 rfl e3 hc27) rfl hJ
    trivial) ?_
  exact all_nil
 ·intro _nm ρ σ28 hJ hoff hrel
  have e2 := look_off (N := 20) (hoff 2 rfl) rfl
  have e3 := look_off (N := 20) (hoff 3 rfl) rfl
  have e12 := hrel 5 rfl 12 rfl
  have e16 := hrel 9 rfl 16 rfl
  have e17 := hrel 10 rfl 17 rfl
  obtain ⟨H, -⟩ := (show Hp S0 σ0 σ28 [Ch.ro 0 (Sl a22 x17 c23) x17, Ch.ro 0 (Sl a7 x2 c8) x2, Ch.bx lop_2 bp_2 op_2 [(Sl ap_2 p_2 cp_2)] prep_2 sufp_2, Ch.ro 0 (Sl ap_2 p_2 cp_2) p_2, Ch.bx lop_3 bp_3 op_3 [(Sl ap_3 p_3 cp_3)] prep_3 sufp_3, Ch.ro 0 (Sl ap_3 p_3 cp_3) p_3] ∧ Md (cov []) σ0 σ28 from hJ)
  clear hJ Hs
  rw [fr_lookL (L := [(2, (pt bp_2 op_2)), (3, (pt bp_3 op_3)), (12, (I r13)), (16, (Sl a22 x17 c23)), (17, (Sl ap_3 p_3 cp_3))]) ⟨e2, e3, e12, e16, e17, trivial⟩]
  clear hoff hrel e2 e3 e12 e16 e17
  obtain ⟨r29, hx30, h'⟩ := bind_some h
  clear h
  have h := h'; clear h'
  have hc31 := c_impl_Distance (aa_1 := a22) (ca_1 := c23) (ab_2 := ap_3) (cb_2 := cp_3) hx30
  refine st_call (cx_call hc31 (ent_f hc31.fn rfl) hn0 (show Hp S0 σ0 _ ([Ch.ro 0 (Sl a22 x17 c23) x17, Ch.ro 0 (Sl ap_3 p_3 cp_3) p_3] ++ [Ch.ro 0 (Sl a22 x17 c23) x17, Ch.ro 0 (Sl a7 x2 c8) x2, Ch.bx lop_2 bp_2 op_2 [(Sl ap_2 p_2 cp_2)] prep_2 sufp_2, Ch.ro 0 (Sl ap_2 p_2 cp_2) p_2, Ch.bx lop_3 bp_3 op_3 [(Sl ap_3 p_3 cp_3)] prep_3 sufp_3, Ch.ro 0 (Sl ap_3 p_3 cp_3) p_3]) from (H.sel' [0, 5, 0, 1, 2, 3, 4, 5] rfl rfl))) wn ?_
  rintro _ σ32 ⟨_, ⟨rfl, rfl⟩, H, -⟩
  replace H : Hp S0 σ0 σ32 [Ch.ro 0 (Sl a22 x17 c23) x17, Ch.ro 0 (Sl a7 x2 c8) x2, Ch.bx lop_2 bp_2 op_2 [(Sl ap_2 p_2 cp_2)] prep_2 sufp_2, Ch.ro 0 (Sl ap_2 p_2 cp_2) p_2, Ch.bx lop_3 bp_3 op_3 [(Sl ap_3 p_3 cp_3)] prep_3 sufp_3, Ch.ro 0 (Sl ap_3 p_3 cp_3) p_3] := H
  obtain ⟨r33, hx34, h'⟩ := bind_some h
  clear h
  have h := h'; clear h'
  have hc35 := c_cmp_Compare_int hx34
  refine st_call (cx_call hc35 (ent_f hc35.fn rfl) hn0 (show Hp S0 σ0 _ ([] ++ [Ch.ro 0 (Sl a22 x17 c23) x17, Ch.ro 0 (Sl a7 x2 c8) x2, Ch.bx lop_2 bp_2 op_2 [(Sl ap_2 p_2 cp_2)] prep_2 sufp_2, Ch.ro 0 (Sl ap_2 p_2 cp_2) p_2, Ch.bx lop_3 bp_3 op_3 [(Sl ap_3 p_3 cp_3)] prep_3 sufp_3, Ch.ro 0 (Sl ap_3 p_3 cp_3) p_3]) from (H.sel' [0, 1, 2, 3, 4, 5] rfl rfl))) wn ?_
  rintro _ σ36 ⟨_, ⟨rfl, rfl⟩, H, -⟩
  replace H : Hp S0 σ0 σ36 [Ch.ro 0 (Sl a22 x17 c23) x17, Ch.ro 0 (Sl a7 x2 c8) x2, Ch.bx lop_2 bp_2 op_2 [(Sl ap_2 p_2 cp_2)] prep_2 sufp_2, Ch.ro 0 (Sl ap_2 p_2 cp_2) p_2, Ch.bx lop_3 bp_3 op_3 [(Sl ap_3 p_3 cp_3)] prep_3 sufp_3, Ch.ro 0 (Sl ap_3 p_3 cp_3) p_3] := H
  refine st (v := (I r33)) (rv_assign rfl) ?_
  refine w_end ?_
  refine q_then ?_
  refine c_ret ?_
  obtain rfl := Option.some.inj h
  exact fin_ret (v := (I r33)) (results_ok Try.results78 (res_tmp (v := (I r33)) rfl res_nil) rfl) ⟨rfl, rfl⟩ (H.sel' [2, 4] rfl rfl)

theorem c_slices_insertionSortCmpFunc_int__impl_ProbeOrder_1 {data_0 : List Int} {a_1 : Int} {b_2 : Int} {cmp_3_0 : List (List Int)} {cmp_3_1 : List Int} {adata_0 : Option Addr} {cdata_0 : Nat} {acmp_3_0 : Option Addr} {ccmp_3_0 : Nat} {locmp_3_0 bcmp_3_0 ocmp_3_0 : Nat} {precmp_3_0 sufcmp_3_0 : List Value} {acmp_3_1 : Option Addr} {ccmp_3_1 : Nat} {locmp_3_1 bcmp_3_1 ocmp_3_1 : Nat} {precmp_3_1 sufcmp_3_1 : List Value} {r : (List Int)} (h : M.slices_insertionSortCmpFunc_int__impl_ProbeOrder_1 data_0 a_1 b_2 cmp_3_0 cmp_3_1 = some r) :
    Cal2 Try.prog 118 [(Sl adata_0 data_0 cdata_0), (I a_1), (I b_2), (.func (.func 78) #[] #[(pt bcmp_3_0 ocmp_3_0), (pt bcmp_3_1 ocmp_3_1)])] [Ch.own 0 0 (Sl adata_0 data_0 cdata_0) data_0, Ch.bx locmp_3_0 bcmp_3_0 ocmp_3_0 [(Sl acmp_3_0 cmp_3_0 ccmp_3_0)] precmp_3_0 sufcmp_3_0, Ch.ro 0 (Sl acmp_3_0 cmp_3_0 ccmp_3_0) cmp_3_0, Ch.bx locmp_3_1 bcmp_3_1 ocmp_3_1 [(Sl acmp_3_1 cmp_3_1 ccmp_3_1)] precmp_3_1 sufcmp_3_1, Ch.ro 0 (Sl acmp_3_1 cmp_3_1 ccmp_3_1) cmp_3_1] (fun n0 v L => v = (.tuple #[]) ∧ L = [Ch.own 0 0 (Sl adata_0 r cdata_0) r, Ch.bx locmp_3_0 bcmp_3_0 ocmp_3_0 [(Sl acmp_3_0 cmp_3_0 ccmp_3_0)] precmp_3_0 sufcmp_3_0, Ch.bx locmp_3_1 bcmp_3_1 ocmp_3_1 [(Sl acmp_3_1 cmp_3_1 ccmp_3_1)] precmp_3_1 sufcmp_3_1] ∧ r.length = data_0.length) := by
 refine cal2 (n := 53) Try.func118 rfl rfl rfl rfl ?_
 intro S0 σ0 n0 hn0 H
 unfold M.slices_insertionSortCmpFunc_int__impl_ProbeOrder_1 at h
 refine c_seq ?_
 refine rg ?_
 refine st (v := (I a_1)) (rv_move rfl) ?_
 refine st (v := (I (w64 (a_1 + 1)))) (rv_add (a := a_1) (b := 1) rfl rfl) ?_
 refine st (v := (I (w64 (a_1 + 1)))) (rv_assign rfl) ?_
 refine w_end ?_
 refine q_then ?_
 obtain ⟨o1, hj, h'⟩ := bind_some h
 clear h
 refine c_cut (fun e a w => e = .normal ∧ ∃ (ρ : Nat → Value) (σ : St), a = fr 53 (updL ρ [(0, (Sl adata_0 o1 cdata_0)), (3, (.func (.func 78) #[] #[(pt bcmp_3_0 ocmp_3_0), (pt bcmp_3_1 ocmp_3_1)]))]) ∧ w = σ.w ∧ Hp S0 σ0 σ [Ch.own 0 0 (Sl adata_0 o1 cdata_0) o1, Ch.ro 0 (Sl acmp_3_0 cmp_3_0 ccmp_3_0) cmp_3_0, Ch.bx locmp_3_0 bcmp_3_0 ocmp_3_0 [(Sl acmp_3_0 cmp_3_0 ccmp_3_0)] precmp_3_0 sufcmp_3_0, Ch.ro 0 (Sl acmp_3_1 cmp_3_1 ccmp_3_1) cmp_3_1, Ch.bx locmp_3_1 bcmp_3_1 ocmp_3_1 [(Sl acmp_3_1 cmp_3_1 ccmp_3_1)] precmp_3_1 sufcmp_3_1] ∧ o1.length = data_0.length) ?_ ?_
 ·clear h'
  rename _ = some o1 => h
  refine c_blk ?_
  refine wp_loopM _ h (fun s2 a w => ∃ (ρ : Nat → Value) (σ : St), a = fr 53 (updL ρ [(0, (Sl adata_0 s2.1 cdata_0)), (1, (I a_1)), (2, (I b_2)), (3, (.func (.func 78) #[] #[(pt bcmp_3_0 ocmp_3_0), (pt bcmp_3_1 ocmp_3_1)])), (8, (I s2.2))]) ∧ w = σ.w ∧ Hp S0 σ0 σ [Ch.own 0 0 (Sl adata_0 s2.1 cdata_0) s2.1, Ch.ro 0 (Sl acmp_3_0 cmp_3_0 ccmp_3_0) cmp_3_0, Ch.bx locmp_3_0 bcmp_3_0 ocmp_3_0 [(Sl acmp_3_0 cmp_3_0 ccmp_3_0)] precmp_3_0 sufcmp_3_0, Ch.ro 0 (Sl acmp_3_1 cmp_3_1 ccmp_3_1) cmp_3_1, Ch.bx locmp_3_1 bcmp_3_1 ocmp_3_1 [(Sl acmp_3_1 cmp_3_1 ccmp_3_1)] precmp_3_1 sufcmp_3_1] ∧ s2.1.length = data_0.length) ⟨_, σ0, fr_join ⟨rfl, rfl, rfl, rfl, rfl, trivial⟩, rfl, H.sel' [0, 2, 1, 4, 3] rfl rfl, rfl⟩ ?_
  clear h H
  rintro s2 a w o ⟨ρ, σ3, rfl, rfl, H, hn4⟩ h hres
  refine c_seq ?_
  refine c_seq ?_
  refine rg ?_
  refine st (v := (I s2.2)) (rv_move rfl) ?_
  refine st (v := (I b_2)) (rv_move rfl) ?_
  refine st (v := (B (decide (s2.2 < b_2)))) (rv_lss (a := s2.2) (b := b_2) rfl rfl) ?_
  refine w_end ?_
  refine q_then ?_
  refine cd_cond (decide (s2.2 < b_2)) rfl (fun hb5 => ?_) (fun hb5 => ?_)
  ·replace h := bif_t hb5 h
   refine c_skip ?_
   refine q_then ?_
   refine c_seq ?_
   refine c_blk ?_
   refine c_seq ?_
   refine rg ?_
   refine st (v := (I s2.2)) (rv_move rfl) ?_
   refine st (v := (I s2.2)) (rv_assign rfl) ?_
   refine w_end ?_
   refine q_then ?_
   obtain ⟨o6, hj, h'⟩ := bind_some h
   clear h
   refine c_cut (fun e a w => e = .normal ∧ ∃ (ρ : Nat → Value) (σ : St), a = fr 53 (updL ρ [(0, (Sl adata_0 o6 cdata_0)), (1, (I a_1)), (2, (I b_2)), (3, (.func (.func 78) #[] #[(pt bcmp_3_0 ocmp_3_0), (pt bcmp_3_1 ocmp_3_1)])), (8, (I s2.2))]) ∧ w = σ.w ∧ Hp S0 σ0 σ [Ch.own 0 0 (Sl adata_0 o6 cdata_0) o6, Ch.ro 0 (Sl acmp_3_0 cmp_3_0 ccmp_3_0) cmp_3_0, Ch.bx locmp_3_0 bcmp_3_0 ocmp_3_0 [(Sl acmp_3_0 cmp_3_0 ccmp_3_0)] precmp_3_0 sufcmp_3_0, Ch.ro 0 (Sl acmp_3_1 cmp_3_1 ccmp_3_1) cmp_3_1, Ch.bx locmp_3_1 bcmp_3_1 ocmp_3_1 [(Sl acmp_3_1 cmp_3_1 ccmp_3_1)] precmp_3_1 sufcmp_3_1] ∧ o6.length = s2.1.length) ?_ ?_
   ·clear h'
    rename _ = some o6 => h
    refine c_blk ?_
    refine wp_loopM _ h (fun s7 a w => ∃ (ρ : Nat → Value) (σ : St), a = fr 53 (updL ρ [(0, (Sl adata_0 s7.1 cdata_0)), (1, (I a_1)), (2, (I b_2)), (3, (.func (.func 78) #[] #[(pt bcmp_3_0 ocmp_3_0), (pt bcmp_3_1 ocmp_3_1)])), (8, (I s2.2)), (9, (I s7.2))]) ∧ w = σ.w ∧ Hp S0 σ0 σ [Ch.own 0 0 (Sl adata_0 s7.1 cdata_0) s7.1, Ch.ro 0 (Sl acmp_3_0 cmp_3_0 ccmp_3_0) cmp_3_0, Ch.bx locmp_3_0 bcmp_3_0 ocmp_3_0 [(Sl acmp_3_0 cmp_3_0 ccmp_3_0)] precmp_3_0 sufcmp_3_0, Ch.ro 0 (Sl acmp_3_1 cmp_3_1 ccmp_3_1) cmp_3_1, Ch.bx locmp_3_1 bcmp_3_1 ocmp_3_1 [(Sl acmp_3_1 cmp_3_1 ccmp_3_1)] precmp_3_1 sufcmp_3_1] ∧ s7.1.length = s2.1.length) ⟨_, σ3, fr_join ⟨rfl, rfl, rfl, rfl, rfl, rfl, trivial⟩, rfl, H.sel' [0, 1, 2, 3, 4] rfl rfl, rfl⟩ ?_
    clear h H
    rintro s7 a w o ⟨ρ, σ8, rfl, rfl, H, hn9⟩ h hres
    refine c_seq ?_
    refine c_seq ?_
    obtain ⟨o10, hj, h'⟩ := bind_some h
    clear h
    refine c_cut (fun e a w => e = .normal ∧ ∃ (ρ : Nat → Value) (σ : St), a = fr 53 (updL ρ [(0, (Sl adata_0 s7.1 cdata_0)), (1, (I a_1)), (2, (I b_2)), (3, (.func (.func 78) #[] #[(pt bcmp_3_0 ocmp_3_0), (pt bcmp_3_1 ocmp_3_1)])), (8, (I s2.2)), (9, (I s7.2)), (34, (B o10))]) ∧ w = σ.w ∧ Hp S0 σ0 σ [Ch.own 0 0 (Sl adata_0 s7.1 cdata_0) s7.1, Ch.ro 0 (Sl acmp_3_0 cmp_3_0 ccmp_3_0) cmp_3_0, Ch.bx locmp_3_0 bcmp_3_0 ocmp_3_0 [(Sl acmp_3_0 cmp_3_0 ccmp_3_0)] precmp_3_0 sufcmp_3_0, Ch.ro 0 (Sl acmp_3_1 cmp_3_1 ccmp_3_1) cmp_3_1, Ch.bx locmp_3_1 bcmp_3_1 ocmp_3_1 [(Sl acmp_3_1 cmp_3_1 ccmp_3_1)] precmp_3_1 sufcmp_3_1]) ?_ ?_
    ·clear h'
     rename _ = some o10 => h
     refine rgP (σ := σ8) 14 (by kernel_rfl) (by kernel_rfl) (by kernel_rfl) ?_
     refine sq (v := (I s7.2)) (rv_move rfl) ?_
     refine sq (v := (I a_1)) (rv_move rfl) ?_
     refine sq (v := (B (decide (a_1 < s7.2)))) (rv_gtr (a := s7.2) (b := a_1) rfl rfl) ?_
     refine sq (v := (B (decide (a_1 < s7.2)))) (rv_move rfl) ?_
     rcases Bool.eq_false_or_eq_true (decide (a_1 < s7.2)) with hb11 | hb11
     ·replace h := bif_t hb11 h
      refine sq_g (v := (.func (.func 78) #[] #[(pt bcmp_3_0 ocmp_3_0), (pt bcmp_3_1 ocmp_3_1)])) (congrArg some hb11) (rv_move rfl) ?_
      refine sq_g (v := (Sl adata_0 s7.1 cdata_0)) (congrArg some hb11) (rv_move rfl) ?_
      refine sq_g (v := (I s7.2)) (congrArg some hb11) (rv_move rfl) ?_
      obtain ⟨x12, hx13, h'⟩ := bind_some h
      clear h
      have h := h'; clear h'
      obtain ⟨b15, o16, hi14, -⟩ := (H.own 0 rfl).ix hx13
      refine sq_g (v := (pt b15 o16)) (congrArg some hb11) (rv_ix Try.underlying23 ti3 rfl rfl hi14) ?_
      have hc17 := ((H.own 0 rfl).at hx13 hi14).int
      refine sq_g (v := (I x12)) (congrArg some hb11) (rv_load1 Try.underlying3 rfl rfl hc17) ?_
      refine sq_g (v := (Sl adata_0 s7.1 cdata_0)) (congrArg some hb11) (rv_move rfl) ?_
      refine sq_g (v := (I s7.2)) (congrArg some hb11) (rv_move rfl) ?_
      refine sq_g (v := (I (w64 (s7.2 - 1)))) (congrArg some hb11) (rv_sub (a := s7.2) (b := 1) rfl rfl) ?_
      obtain ⟨x18, hx19, h'⟩ := bind_some h
      clear h
      have h := h'; clear h'
      obtain ⟨b21, o22, hi20, -⟩ := (H.own 0 rfl).ix hx19
      refine sq_g (v := (pt b21 o22)) (congrArg some hb11) (rv_ix Try.underlying23 ti3 rfl rfl hi20) ?_
      have hc23 := ((H.own 0 rfl).at hx19 hi20).int
      refine sq_g (v := (I x18)) (congrArg some hb11) (rv_load1 Try.underlying3 rfl rfl hc23) ?_
      refine sq_end ?_
      intro σ24 hm25
      replace H := H.grow (hm25.mono fun _ h => h); clear hm25
      obtain ⟨r26, hx27, h'⟩ := bind_some h
      clear h
      have h := h'; clear h'
      have hc28 := c_impl_ProbeOrder_1__p_SSint__p24 (lop_2 := locmp_3_0) (bp_2 := bcmp_3_0) (op_2 := ocmp_3_0) (prep_2 := precmp_3_0) (sufp_2 := sufcmp_3_0) (ap_2 := acmp_3_0) (cp_2 := ccmp_3_0) (lop_3 := locmp_3_1) (bp_3 := bcmp_3_1) (op_3 := ocmp_3_1) (prep_3 := precmp_3_1) (sufp_3 := sufcmp_3_1) (ap_3 := acmp_3_1) (cp_3 := ccmp_3_1) hx27
      refine st_call (cx_call hc28 (ent_v (cap := [(pt bcmp_3_0 ocmp_3_0), (pt bcmp_3_1 ocmp_3_1)]) hc28.fn rfl rfl) hn0 (show Hp S0 σ0 _ ([Ch.bx locmp_3_0 bcmp_3_0 ocmp_3_0 [(Sl acmp_3_0 cmp_3_0 ccmp_3_0)] precmp_3_0 sufcmp_3_0, Ch.ro 0 (Sl acmp_3_0 cmp_3_0 ccmp_3_0) cmp_3_0, Ch.bx locmp_3_1 bcmp_3_1 ocmp_3_1 [(Sl acmp_3_1 cmp_3_1 ccmp_3_1)] precmp_3_1 sufcmp_3_1, Ch.ro 0 (Sl acmp_3_1 cmp_3_1 ccmp_3_1) cmp_3_1] ++ [Ch.own 0 0 (Sl adata_0 s7.1 cdata_0) s7.1, Ch.ro 0 (Sl acmp_3_0 cmp_3_0 ccmp_3_0) cmp_3_0, Ch.ro 0 (Sl acmp_3_1 cmp_3_1 ccmp_3_1) cmp_3_1]) from (H.sel' [2, 1, 4, 3, 0, 1, 3] rfl rfl))) (wanted_yes rfl (by exact (congrArg some hb11))) ?_
      rintro _ σ29 ⟨_, ⟨rfl, rfl⟩, H, -⟩
      replace H : Hp S0 σ0 σ29 [Ch.bx locmp_3_0 bcmp_3_0 ocmp_3_0 [(Sl acmp_3_0 cmp_3_0 ccmp_3_0)] precmp_3_0 sufcmp_3_0, Ch.bx locmp_3_1 bcmp_3_1 ocmp_3_1 [(Sl acmp_3_1 cmp_3_1 ccmp_3_1)] precmp_3_1 sufcmp_3_1, Ch.own 0 0 (Sl adata_0 s7.1 cdata_0) s7.1, Ch.ro 0 (Sl acmp_3_0 cmp_3_0 ccmp_3_0) cmp_3_0, Ch.ro 0 (Sl acmp_3_1 cmp_3_1 ccmp_3_1) cmp_3_1] := H
      refine st_g (v := (B (decide (r26 < 0)))) (congrArg some hb11) (rv_lss (a := r26) (b := 0) rfl rfl) ?_
      refine st (v := (B (decide (r26 < 0)))) (rv_pick_t (congrArg B hb11) rfl) ?_
      refine w_end ?_
      obtain rfl := Option.some.inj h
      exact ⟨rfl, _, σ29, fr_join ⟨rfl, rfl, rfl, rfl, rfl, rfl, rfl, trivial⟩, rfl, H.sel' [2, 3, 0, 4, 1] rfl rfl⟩
     ·replace h := bif_f hb11 h
      refine sq_skip (congrArg some hb11) ?_
      refine sq_skip (congrArg some hb11) ?_
      refine sq_skip (congrArg some hb11) ?_
      refine sq_skip (congrArg some hb11) ?_
      refine sq_skip (congrArg some hb11) ?_
      refine sq_skip (congrArg some hb11) ?_
      refine sq_skip (congrArg some hb11) ?_
      refine sq_skip (congrArg some hb11) ?_
      refine sq_skip (congrArg some hb11) ?_
      refine sq_skip (congrArg some hb11) ?_
      refine sq_end ?_
      intro σ30 hm31
      replace H := H.grow (hm31.mono fun _ h => h); clear hm31
      refine st_skip (congrArg some hb11) ?_
      refine st_skip (congrArg some hb11) ?_
      refine st (v := (B false)) (rv_pick_f (congrArg B hb11) rfl) ?_
      refine w_end ?_
      obtain rfl := Option.some.inj h
      exact ⟨rfl, _, σ30, fr_join ⟨rfl, rfl, rfl, rfl, rfl, rfl, rfl, trivial⟩, rfl, H.sel' [0, 1, 2, 3, 4] rfl rfl⟩
    ·clear hj
     have h := h'
     clear h' H
     rintro e a w ⟨rfl, ρ, σ32, rfl, rfl, H⟩
     refine q_then ?_
     refine cd_cond o10 rfl (fun hb33 => ?_) (fun hb33 => ?_)
     ·replace h := bif_t hb33 h
      refine c_skip ?_
      refine q_then ?_
      refine c_seq ?_
      refine c_blk ?_
      obtain ⟨x34, hx35, h'⟩ := bind_some h
      clear h
      have h := h'; clear h'
      obtain ⟨b37, o38, hi36, -⟩ := (H.own 0 rfl).ix hx35
      have hc39 := ((H.own 0 rfl).at hx35 hi36).int
      obtain ⟨x40, hx41, h'⟩ := bind_some h
      clear h
      have h := h'; clear h'
      obtain ⟨b43, o44, hi42, -⟩ := (H.own 0 rfl).ix hx41
      have hc45 := ((H.own 0 rfl).at hx41 hi42).int
      obtain ⟨x46, hx47, h'⟩ := bind_some h
      clear h
      have h := h'; clear h'
      obtain ⟨b49, o50, hi48, -⟩ := (H.own 0 rfl).ix hx47
      have Hs := H
      refine rg2 (σ := σ32) (Nm := Unit) 16 [15] [[false], [true]] [[(0, 0)], [(0, 0)], [(0, 0), (1, 1)], [(0, 0), (1, 1)], [(0, 0), (1, 1)], [(0, 0)], [(0, 0)], [(0, 0)], [(0, 0)], [(0, 0)], [(0, 0)], [(0, 0)], [(0, 0)], [(0, 0)], [(0, 0)], [(0, 1)]] 1 [fun _ => fun σm => Hp S0 σ0 σm [Ch.own 0 0 (Sl adata_0 s7.1 cdata_0) s7.1, Ch.ro 0 (Sl acmp_3_0 cmp_3_0 ccmp_3_0) cmp_3_0, Ch.bx locmp_3_0 bcmp_3_0 ocmp_3_0 [(Sl acmp_3_0 cmp_3_0 ccmp_3_0)] precmp_3_0 sufcmp_3_0, Ch.ro 0 (Sl acmp_3_1 cmp_3_1 ccmp_3_1) cmp_3_1, Ch.bx locmp_3_1 bcmp_3_1 ocmp_3_1 [(Sl acmp_3_1 cmp_3_1 ccmp_3_1)] precmp_3_1 sufcmp_3_1] ∧ Md (cov []) σ32 σm, fun _ => fun σm => Hp S0 σ0 σm [Ch.own 0 0 (Sl adata_0 s7.1 cdata_0) (s7.1.set s7.2.toNat x34), Ch.ro 0 (Sl acmp_3_0 cmp_3_0 ccmp_3_0) cmp_3_0, Ch.bx locmp_3_0 bcmp_3_0 ocmp_3_0 [(Sl acmp_3_0 cmp_3_0 ccmp_3_0)] precmp_3_0 sufcmp_3_0, Ch.ro 0 (Sl acmp_3_1 cmp_3_1 ccmp_3_1) cmp_3_1, Ch.bx locmp_3_1 bcmp_3_1 ocmp_3_1 [(Sl acmp_3_1 cmp_3_1 ccmp_3_1)] precmp_3_1 sufcmp_3_1] ∧ Md (fun i => (cov []) i ∨ (fun b => blk (Sl adata_0 s7.1 cdata_0) = some b) i) σ32 σm] [fun _ => (Sl adata_0 s7.1 cdata_0), fun _ => (I s7.2), fun _ => (Sl adata_0 s7.1 cdata_0), fun _ => (I s7.2), fun _ => (I (w64 (s7.2 - 1))), fun _ => (Sl adata_0 s7.1 cdata_0), fun _ => (I s7.2), fun _ => (I (w64 (s7.2 - 1))), fun _ => (pt b37 o38), fun _ => (I x34), fun _ => (Sl adata_0 s7.1 cdata_0), fun _ => (I s7.2), fun _ => (pt b43 o44), fun _ => (I x40), fun _ => (pt b49 o50), fun _ => undef] () (by kernel_rfl) (by kernel_rfl) ?_ ?_ ?_
      ·intro σm m0
       exact ⟨H.grow (m0.mono fun _ h => h.elim), m0⟩
      ·refine ac rfl (by
         intro k _nm ρ σm hJ hoff hdep
         have e0 := look_off (N := 53) (hoff 0 rfl) rfl
         exact dp_v (v := (Sl adata_0 s7.1 cdata_0)) wn (rv_move e0) rfl hJ) ?_
       refine ac rfl (by
         intro k _nm ρ σm hJ hoff hdep
         have e9 := look_off (N := 53) (hoff 9 rfl) rfl
         exact dp_v (v := (I s7.2)) wn (rv_move e9) rfl hJ) ?_
       refine ac rfl (by
         intro k _nm ρ σm hJ hoff hdep
         have e0 := look_off (N := 53) (hoff 0 rfl) rfl
         exact dp_v (v := (Sl adata_0 s7.1 cdata_0)) wn (rv_move e0) rfl hJ) ?_
       refine ac rfl (by
         intro k _nm ρ σm hJ hoff hdep
         have e9 := look_off (N := 53) (hoff 9 rfl) rfl
         exact dp_v (v := (I s7.2)) wn (rv_move e9) rfl hJ) ?_
       refine ac rfl (by
         intro k _nm ρ σm hJ hoff hdep
         have e40 := hdep 3 rfl rfl 40 rfl
         exact dp_v (v := (I (w64 (s7.2 - 1)))) wn (rv_sub (a := s7.2) (b := 1) e40 rfl) rfl hJ) ?_
       refine ac rfl (by
         intro k _nm ρ σm hJ hoff hdep
         have e0 := look_off (N := 53) (hoff 0 rfl) rfl
         exact dp_v (v := (Sl adata_0 s7.1 cdata_0)) wn (rv_move e0) rfl hJ) ?_
       refine ac rfl (by
         intro k _nm ρ σm hJ hoff hdep
         have e9 := look_off (N := 53) (hoff 9 rfl) rfl
         exact dp_v (v := (I s7.2)) wn (rv_move e9) rfl hJ) ?_
       refine ac rfl (by
         intro k _nm ρ σm hJ hoff hdep
         have e43 := hdep 6 rfl rfl 43 rfl
         exact dp_v (v := (I (w64 (s7.2 - 1)))) wn (rv_sub (a := s7.2) (b := 1) e43 rfl) rfl hJ) ?_
       refine ac rfl (by
         intro k _nm ρ σm hJ hoff hdep
         have e42 := hdep 5 rfl rfl 42 rfl
         have e44 := hdep 7 rfl rfl 44 rfl
         exact dp_v (v := (pt b37 o38)) wn (rv_ix Try.underlying23 ti3 e42 e44 hi36) rfl hJ) ?_
       refine all_cons (by
         refine ⟨?_, ?_⟩
         ·intro _nm ρ σm hJ hoff hdep
          have e45 := hdep 8 rfl rfl 45 rfl
          obtain ⟨H, m⟩ := id hJ
          have hc39 := ((H.own 0 rfl).at hx35 hi36).int
          exact dp_v (v := (I x34)) wn (rv_load1 Try.underlying3 rfl e45 hc39) rfl hJ
         trivial) ?_
       refine ac rfl (by
         intro k _nm ρ σm hJ hoff hdep
         have e0 := look_off (N := 53) (hoff 0 rfl) rfl
         exact dp_v (v := (Sl adata_0 s7.1 cdata_0)) wn (rv_move e0) rfl hJ) ?_
       refine ac rfl (by
         intro k _nm ρ σm hJ hoff hdep
         have e9 := look_off (N := 53) (hoff 9 rfl) rfl
         exact dp_v (v := (I s7.2)) wn (rv_move e9) rfl hJ) ?_
       refine ac rfl (by
         intro k _nm ρ σm hJ hoff hdep
         have e47 := hdep 10 rfl rfl 47 rfl
         have e48 := hdep 11 rfl rfl 48 rfl
         exact dp_v (v := (pt b43 o44)) wn (rv_ix Try.underlying23 ti3 e47 e48 hi42) rfl hJ) ?_
       refine all_cons (by
         refine ⟨?_, ?_⟩
         ·intro _nm ρ σm hJ hoff hdep
          have e49 := hdep 12 rfl rfl 49 rfl
          obtain ⟨H, m⟩ := id hJ
          have hc45 := ((H.own 0 rfl).at hx41 hi42).int
          exact dp_v (v := (I x40)) wn (rv_load1 Try.underlying3 rfl e49 hc45) rfl hJ
         trivial) ?_
       refine ac rfl (by
         intro k _nm ρ σm hJ hoff hdep
         have e37 := hdep 0 rfl rfl 37 rfl
         have e38 := hdep 1 rfl rfl 38 rfl
         exact dp_v (v := (pt b49 o50)) wn (rv_ix Try.underlying23 ti3 e37 e38 hi48) rfl hJ) ?_
       refine all_cons (by
         refine ⟨?_, ?_⟩
         ·intro _nm ρ σm hJ hoff hdep
          have e51 := hdep 14 rfl rfl 51 rfl
          have e46 := hdep 9 rfl rfl 46 rfl
          obtain ⟨H, m⟩ := id hJ
          refine dp_exS wn rfl (ex_store_own (e' := x34) (vs := [(I x34)]) (k := 0) H (i := 0) rfl ti3 hx47 hi48 e51 rfl e46 rfl rfl (Nat.le_of_ble_eq_true rfl) (by simp [plain]) (by rintro _ rfl; exact rfl)) ?_
          rintro σq ⟨H2, m2⟩
          exact ⟨_, (), rfl, ⟨H2.sel' [0, 1, 2, 3, 4] rfl rfl, m.comp m2⟩, stab [0, 1, 2, 3, 4, 5, 6, 7, 8, 9, 10, 11, 12, 13, 14] (by kernel_rfl) ⟨rfl, rfl, rfl, rfl, rfl, rfl, rfl, rfl, rfl, rfl, rfl, rfl, rfl, rfl, rfl, trivial⟩⟩
         trivial) ?_
       exact all_nil
      ·intro _nm ρ σ51 hJ hoff hrel
       have e0 := look_off (N := 53) (hoff 0 rfl) rfl
       have e1 := look_off (N := 53) (hoff 1 rfl) rfl
       have e2 := look_off (N := 53) (hoff 2 rfl) rfl
       have e3 := look_off (N := 53) (hoff 3 rfl) rfl
       have e8 := look_off (N := 53) (hoff 8 rfl) rfl
       have e9 := look_off (N := 53) (hoff 9 rfl) rfl
       have e39 := hrel 2 rfl 39 rfl
       have e41 := hrel 4 rfl 41 rfl
       have e50 := hrel 13 rfl 50 rfl
       obtain ⟨H, -⟩ := (show Hp S0 σ0 σ51 [Ch.own 0 0 (Sl adata_0 s7.1 cdata_0) (s7.1.set s7.2.toNat x34), Ch.ro 0 (Sl acmp_3_0 cmp_3_0 ccmp_3_0) cmp_3_0, Ch.bx locmp_3_0 bcmp_3_0 ocmp_3_0 [(Sl acmp_3_0 cmp_3_0 ccmp_3_0)] precmp_3_0 sufcmp_3_0, Ch.ro 0 (Sl acmp_3_1 cmp_3_1 ccmp_3_1) cmp_3_1, Ch.bx locmp_3_1 bcmp_3_1 ocmp_3_1 [(Sl acmp_3_1 cmp_3_1 ccmp_3_1)] precmp_3_1 sufcmp_3_1] ∧ Md (fun i => (cov []) i ∨ (fun b => blk (Sl adata_0 s7.1 cdata_0) = some b) i) σ32 σ51 from hJ)
       clear hJ Hs
       rw [fr_lookL (L := [(0, (Sl adata_0 s7.1 cdata_0)), (1, (I a_1)), (2, (I b_2)), (3, (.func (.func 78) #[] #[(pt bcmp_3_0 ocmp_3_0), (pt bcmp_3_1 ocmp_3_1)])), (8, (I s2.2)), (9, (I s7.2)), (39, (Sl adata_0 s7.1 cdata_0)), (41, (I (w64 (s7.2 - 1)))), (50, (I x40))]) ⟨e0, e1, e2, e3, e8, e9, e39, e41, e50, trivial⟩]
       clear hoff hrel e0 e1 e2 e3 e8 e9 e39 e41 e50
       have hsl : (Sl adata_0 s7.1 cdata_0) = (Sl adata_0 (s7.1.set s7.2.toNat x34) cdata_0) := sl_len (by simp)
       rw [hsl]; rw [hsl] at H; clear hsl
       obtain ⟨x52, hx53, h'⟩ := bind_some h
       clear h
       have h := h'; clear h'
       obtain ⟨b55, o56, hi54, -⟩ := (H.own 0 rfl).ix hx53
       refine st (v := (pt b55 o56)) (rv_ix Try.underlying23 ti3 rfl rfl hi54) ?_
       refine st_exS (ex_store_own (e' := x40) (vs := [(I x40)]) (k := 0) H (i := 0) rfl ti3 hx53 hi54 rfl rfl rfl rfl rfl (Nat.le_of_ble_eq_true rfl) (by simp [plain]) (by rintro _ rfl; exact rfl)) wn ?_
       rintro σ57 ⟨H, -⟩
       have hsl : (Sl adata_0 (s7.1.set s7.2.toNat x34) cdata_0) = (Sl adata_0 ((s7.1.set s7.2.toNat x34).set (w64 (s7.2 - 1)).toNat x40) cdata_0) := sl_len List.length_set.symm
       rw [hsl]; rw [hsl] at H; clear hsl
       refine w_end ?_
       refine q_blk ?_
       refine q_then ?_
       refine rg ?_
       refine st (v := (I s7.2)) (rv_move rfl) ?_
       refine st (v := (I (w64 (s7.2 - 1)))) (rv_sub (a := s7.2) (b := 1) rfl rfl) ?_
       refine st (v := (I (w64 (s7.2 - 1)))) (rv_assign rfl) ?_
       refine w_end ?_
       refine q_then ?_
       obtain rfl := Option.some.inj h
       exact ⟨_, rfl, _, σ57, fr_join ⟨rfl, rfl, rfl, rfl, rfl, rfl, trivial⟩, rfl, H.sel' [0, 1, 2, 3, 4] rfl rfl, ((List.length_set.trans (List.length_set.trans (hn9.trans hn4))).trans hn4.symm)⟩
     ·replace h := bif_f hb33 h
      refine c_exit ?_
      refine q_then_x ?_
      refine q_then_x ?_
      refine q_blk_hit ?_
      obtain rfl := Option.some.inj h
      obtain rfl := hres _ rfl
      exact ⟨rfl, _, σ32, fr_join ⟨rfl, rfl, rfl, rfl, rfl, trivial⟩, rfl, H.sel' [0, 1, 2, 3, 4] rfl rfl, ((hn9.trans hn4).trans hn4.symm)⟩
   ·clear hj
    have h := h'
    clear h' H
    rintro e a w ⟨rfl, ρ, σ58, rfl, rfl, H, hn59⟩
    refine q_blk ?_
    refine q_then ?_
    refine rg ?_
    refine st (v := (I s2.2)) (rv_move rfl) ?_
    refine st (v := (I (w64 (s2.2 + 1)))) (rv_add (a := s2.2) (b := 1) rfl rfl) ?_
    refine st (v := (I (w64 (s2.2 + 1)))) (rv_assign rfl) ?_
    refine w_end ?_
    refine q_then ?_
    obtain rfl := Option.some.inj h
    exact ⟨_, rfl, _, σ58, fr_join ⟨rfl, rfl, rfl, rfl, rfl, trivial⟩, rfl, H.sel' [0, 1, 2, 3, 4] rfl rfl, (hn59.trans hn4)⟩
  ·replace h := bif_f hb5 h
   refine c_exit ?_
   refine q_then_x ?_
   refine q_then_x ?_
   refine q_blk_hit ?_
   obtain rfl := Option.some.inj h
   obtain rfl := hres _ rfl
   exact ⟨rfl, _, σ3, fr_join ⟨rfl, rfl, trivial⟩, rfl, H.sel' [0, 1, 2, 3, 4] rfl rfl, hn4⟩
 ·clear hj
  have h := h'
  clear h' H
  rintro e a w ⟨rfl, ρ, σ60, rfl, rfl, H, hn61⟩
  obtain rfl := Option.some.inj h
  exact fin_end (v := (.tuple #[])) (results_ok Try.results118 res_nil rfl) ⟨rfl, rfl, hn61⟩ (H.sel' [0, 2, 4] rfl rfl)

theorem c_slices_swapRangeCmpFunc_int__impl_ProbeOrder_1 {data_0 : List Int} {a_1 : Int} {b_2 : Int} {n_3 : Int} {cmp_4_0 : List (List Int)} {cmp_4_1 : List Int} {adata_0 : Option Addr} {cdata_0 : Nat} {acmp_4_0 : Option Addr} {ccmp_4_0 : Nat} {locmp_4_0 bcmp_4_0 ocmp_4_0 : Nat} {precmp_4_0 sufcmp_4_0 : List Value} {acmp_4_1 : Option Addr} {ccmp_4_1 : Nat} {locmp_4_1 bcmp_4_1 ocmp_4_1 : Nat} {precmp_4_1 sufcmp_4_1 : List Value} {r : (List Int)} (h : M.slices_swapRangeCmpFunc_int__impl_ProbeOrder_1 data_0 a_1 b_2 n_3 cmp_4_0 cmp_4_1 = some r) :
    Cal2 Try.prog 139 [(Sl adata_0 data_0 cdata_0), (I a_1), (I b_2), (I n_3), (.func (.func 78) #[] #[(pt bcmp_4_0 ocmp_4_0), (pt bcmp_4_1 ocmp_4_1)])] [Ch.own 0 0 (Sl adata_0 data_0 cdata_0) data_0, Ch.bx locmp_4_0 bcmp_4_0 ocmp_4_0 [(Sl acmp_4_0 cmp_4_0 ccmp_4_0)] precmp_4_0 sufcmp_4_0, Ch.ro 0 (Sl acmp_4_0 cmp_4_0 ccmp_4_0) cmp_4_0, Ch.bx locmp_4_1 bcmp_4_1 ocmp_4_1 [(Sl acmp_4_1 cmp_4_1 ccmp_4_1)] precmp_4_1 sufcmp_4_1, Ch.ro 0 (Sl acmp_4_1 cmp_4_1 ccmp_4_1) cmp_4_1] (fun n0 v L => v = (.tuple #[]) ∧ L = [Ch.own 0 0 (Sl adata_0 r cdata_0) r, Ch.bx locmp_4_0 bcmp_4_0 ocmp_4_0 [(Sl acmp_4_0 cmp_4_0 ccmp_4_0)] precmp_4_0 sufcmp_4_0, Ch.bx locmp_4_1 bcmp_4_1 ocmp_4_1 [(Sl acmp_4_1 cmp_4_1 ccmp_4_1)] precmp_4_1 sufcmp_4_1] ∧ r.length = data_0.length) := by
 refine cal2 (n := 38) Try.func139 rfl rfl rfl rfl ?_
 intro S0 σ0 n0 hn0 H
 unfold M.slices_swapRangeCmpFunc_int__impl_ProbeOrder_1 at h
 refine c_seq ?_
 refine rg ?_
 refine st (v := (I 0)) (rv_assign rfl) ?_
 refine w_end ?_
 refine q_then ?_
 obtain ⟨o1, hj, h'⟩ := bind_some h
 clear h
 refine c_cut (fun e a w => e = .normal ∧ ∃ (ρ : Nat → Value) (σ : St), a = fr 38 (updL ρ [(0, (Sl adata_0 o1 cdata_0)), (4, (.func (.func 78) #[] #[(pt bcmp_4_0 ocmp_4_0), (pt bcmp_4_1 ocmp_4_1)]))]) ∧ w = σ.w ∧ Hp S0 σ0 σ [Ch.own 0 0 (Sl adata_0 o1 cdata_0) o1, Ch.ro 0 (Sl acmp_4_0 cmp_4_0 ccmp_4_0) cmp_4_0, Ch.bx locmp_4_0 bcmp_4_0 ocmp_4_0 [(Sl acmp_4_0 cmp_4_0 ccmp_4_0)] precmp_4_0 sufcmp_4_0, Ch.ro 0 (Sl acmp_4_1 cmp_4_1 ccmp_4_1) cmp_4_1, Ch.bx locmp_4_1 bcmp_4_1 ocmp_4_1 [(Sl acmp_4_1 cmp_4_1 ccmp_4_1)] precmp_4_1 sufcmp_4_1] ∧ o1.length = data_0.length) ?_ ?_
 ·clear h'
  rename _ = some o1 => h
  refine c_blk ?_
  refine wp_loopM _ h (fun s2 a w => ∃ (ρ : Nat → Value) (σ : St), a = fr 38 (updL ρ [(0, (Sl adata_0 s2.1 cdata_0)), (1, (I a_1)), (2, (I b_2)), (3, (I n_3)), (4, (.func (.func 78) #[] #[(pt bcmp_4_0 ocmp_4_0), (pt bcmp_4_1 ocmp_4_1)])), (10, (I s2.2))]) ∧ w = σ.w ∧ Hp S0 σ0 σ [Ch.own 0 0 (Sl adata_0 s2.1 cdata_0) s2.1, Ch.ro 0 (Sl acmp_4_0 cmp_4_0 ccmp_4_0) cmp_4_0, Ch.bx locmp_4_0 bcmp_4_0 ocmp_4_0 [(Sl acmp_4_0 cmp_4_0 ccmp_4_0)] precmp_4_0 sufcmp_4_0, Ch.ro 0 (Sl acmp_4_1 cmp_4_1 ccmp_4_1) cmp_4_1, Ch.bx locmp_4_1 bcmp_4_1 ocmp_4_1 [(Sl acmp_4_1 cmp_4_1 ccmp_4_1)] precmp_4_1 sufcmp_4_1] ∧ s2.1.length = data_0.length) ⟨_, σ0, fr_join ⟨rfl, rfl, rfl, rfl, rfl, rfl, trivial⟩, rfl, H.sel' [0, 2, 1, 4, 3] rfl rfl, rfl⟩ ?_
  clear h H
  rintro s2 a w o ⟨ρ, σ3, rfl, rfl, H, hn4⟩ h hres
  refine c_seq ?_
  refine c_seq ?_
  refine rg ?_
  refine st (v := (I s2.2)) (rv_move rfl) ?_
  refine st (v := (I n_3)) (rv_move rfl) ?_
  refine st (v := (B (decide (s2.2 < n_3)))) (rv_lss (a := s2.2) (b := n_3) rfl rfl) ?_
  refine w_end ?_
  refine q_then ?_
  refine cd_cond (decide (s2.2 < n_3)) rfl (fun hb5 => ?_) (fun hb5 => ?_)
  ·replace h := bif_t hb5 h
   refine c_skip ?_
   refine q_then ?_
   refine c_seq ?_
   refine c_blk ?_
   obtain ⟨x6, hx7, h'⟩ := bind_some h
   clear h
   have h := h'; clear h'
   obtain ⟨b9, o10, hi8, -⟩ := (H.own 0 rfl).ix hx7
   have hc11 := ((H.own 0 rfl).at hx7 hi8).int
   obtain ⟨x12, hx13, h'⟩ := bind_some h
   clear h
   have h := h'; clear h'
   obtain ⟨b15, o16, hi14, -⟩ := (H.own 0 rfl).ix hx13
   have hc17 := ((H.own 0 rfl).at hx13 hi14).int
   obtain ⟨x18, hx19, h'⟩ := bind_some h
   clear h
   have h := h'; clear h'
   obtain ⟨b21, o22, hi20, -⟩ := (H.own 0 rfl).ix hx19
   have Hs := H
   refine rg2 (σ := σ3) (Nm := Unit) 22 [21] [[false], [true]] [[(0, 0)], [(0, 0)], [(0, 0)], [(0, 0)], [(0, 0), (1, 1)], [(0, 0), (1, 1)], [(0, 0), (1, 1)], [(0, 0), (1, 1)], [(0, 0)], [(0, 0)], [(0, 0)], [(0, 0)], [(0, 0)], [(0, 0)], [(0, 0)], [(0, 0)], [(0, 0)], [(0, 0)], [(0, 0)], [(0, 0)], [(0, 0)], [(0, 1)]] 1 [fun _ => fun σm => Hp S0 σ0 σm [Ch.own 0 0 (Sl adata_0 s2.1 cdata_0) s2.1, Ch.ro 0 (Sl acmp_4_0 cmp_4_0 ccmp_4_0) cmp_4_0, Ch.bx locmp_4_0 bcmp_4_0 ocmp_4_0 [(Sl acmp_4_0 cmp_4_0 ccmp_4_0)] precmp_4_0 sufcmp_4_0, Ch.ro 0 (Sl acmp_4_1 cmp_4_1 ccmp_4_1) cmp_4_1, Ch.bx locmp_4_1 bcmp_4_1 ocmp_4_1 [(Sl acmp_4_1 cmp_4_1 ccmp_4_1)] precmp_4_1 sufcmp_4_1] ∧ Md (cov []) σ3 σm, fun _ => fun σm => Hp S0 σ0 σm [Ch.own 0 0 (Sl adata_0 s2.1 cdata_0) (s2.1.set (w64 (a_1 + s2.2)).toNat x6), Ch.ro 0 (Sl acmp_4_0 cmp_4_0 ccmp_4_0) cmp_4_0, Ch.bx locmp_4_0 bcmp_4_0 ocmp_4_0 [(Sl acmp_4_0 cmp_4_0 ccmp_4_0)] precmp_4_0 sufcmp_4_0, Ch.ro 0 (Sl acmp_4_1 cmp_4_1 ccmp_4_1) cmp_4_1, Ch.bx locmp_4_1 bcmp_4_1 ocmp_4_1 [(Sl acmp_4_1 cmp_4_1 ccmp_4_1)] precmp_4_1 sufcmp_4_1] ∧ Md (fun i => (cov []) i ∨ (fun b => blk (Sl adata_0 s2.1 cdata_0) = some b) i) σ3 σm] [fun _ => (Sl adata_0 s2.1 cdata_0), fun _ => (I a_1), fun _ => (I s2.2), fun _ => (I (w64 (a_1 + s2.2))), fun _ => (Sl adata_0 s2.1 cdata_0), fun _ => (I b_2), fun _ => (I s2.2), fun _ => (I (w64 (b_2 + s2.2))), fun _ => (Sl adata_0 s2.1 cdata_0), fun _ => (I b_2), fun _ => (I s2.2), fun _ => (I (w64 (b_2 + s2.2))), fun _ => (pt b9 o10), fun _ => (I x6), fun _ => (Sl adata_0 s2.1 cdata_0), fun _ => (I a_1), fun _ => (I s2.2), fun _ => (I (w64 (a_1 + s2.2))), fun _ => (pt b15 o16), fun _ => (I x12), fun _ => (pt b21 o22), fun _ => undef] () (by kernel_rfl) (by kernel_rfl) ?_ ?_ ?_
   ·intro σm m0
    exact ⟨H.grow (m0.mono fun _ h => h.elim), m0⟩
   ·refine ac rfl (by
      intro k _nm ρ σm hJ hoff hdep
      have e0 := look_off (N := 38) (hoff 0 rfl) rfl
      exact dp_v (v := (Sl adata_0 s2.1 cdata_0)) wn (rv_move e0) rfl hJ) ?_
    refine ac rfl (by
      intro k _nm ρ σm hJ hoff hdep
      have e1 := look_off (N := 38) (hoff 1 rfl) rfl
      exact dp_v (v := (I a_1)) wn (rv_move e1) rfl hJ) ?_
    refine ac rfl (by
      intro k _nm ρ σm hJ hoff hdep
      have e10 := look_off (N := 38) (hoff 10 rfl) rfl
      exact dp_v (v := (I s2.2)) wn (rv_move e10) rfl hJ) ?_
    refine ac rfl (by
      intro k _nm ρ σm hJ hoff hdep
      have e17 := hdep 1 rfl rfl 17 rfl
      have e18 := hdep 2 rfl rfl 18 rfl
      exact dp_v (v := (I (w64 (a_1 + s2.2)))) wn (rv_add (a := a_1) (b := s2.2) e17 e18) rfl hJ) ?_
    refine ac rfl (by
      intro k _nm ρ σm hJ hoff hdep
      have e0 := look_off (N := 38) (hoff 0 rfl) rfl
      exact dp_v (v := (Sl adata_0 s2.1 cdata_0)) wn (rv_move e0) rfl hJ) ?_
    refine ac rfl (by
      intro k _nm ρ σm hJ hoff hdep
      have e2 := look_off (N := 38) (hoff 2 rfl) rfl
      exact dp_v (v := (I b_2)) wn (rv_move e2) rfl hJ) ?_
    refine ac rfl (by
      intro k _nm ρ σm hJ hoff hdep
      have e10 := look_off (N := 38) (hoff 10 rfl) rfl
      exact dp_v (v := (I s2.2)) wn (rv_move e10) rfl hJ) ?_
    refine ac rfl (by
      intro k _nm ρ σm hJ hoff hdep
      have e21 := hdep 5 rfl rfl 21 rfl
      have e22 := hdep 6 rfl rfl 22 rfl
      exact dp_v (v := (I (w64 (b_2 + s2.2)))) wn (rv_add (a := b_2) (b := s2.2) e21 e22) rfl hJ) ?_
    refine ac rfl (by
      intro k _nm ρ σm hJ hoff hdep
      have e0 := look_off (N := 38) (hoff 0 rfl) rfl
      exact dp_v (v := (Sl adata_0 s2.1 cdata_0)) wn (rv_move e0) rfl hJ) ?_
    refine ac rfl (by
      intro k _nm ρ σm hJ hoff hdep
      have e2 := look_off (N := 38) (hoff 2 rfl) rfl
      exact dp_v (v := (I b_2)) wn (rv_move e2) rfl hJ) ?_
    refine ac rfl (by
      intro k _nm ρ σm hJ hoff hdep
      have e10 := look_off (N := 38) (hoff 10 rfl) rfl
      exact dp_v (v := (I s2.2)) wn (rv_move e10) rfl hJ) ?_
    refine ac rfl (by
      intro k _nm ρ σm hJ hoff hdep
      have e25 := hdep 9 rfl rfl 25 rfl
      have e26 := hdep 10 rfl rfl 26 rfl
      exact dp_v (v := (I (w64 (b_2 + s2.2)))) wn (rv_add (a := b_2) (b := s2.2) e25 e26) rfl hJ) ?_
    refine ac rfl (by
      intro k _nm ρ σm hJ hoff hdep
      have e24 := hdep 8 rfl rfl 24 rfl
      have e27 := hdep 11 rfl rfl 27 rfl
      exact dp_v (v := (pt b9 o10)) wn (rv_ix Try.underlying23 ti3 e24 e27 hi8) rfl hJ) ?_
    refine all_cons (by
      refine ⟨?_, ?_⟩
      ·intro _nm ρ σm hJ hoff hdep
       have e28 := hdep 12 rfl rfl 28 rfl
       obtain ⟨H, m⟩ := id hJ
       have hc11 := ((H.own 0 rfl).at hx7 hi8).int
       exact dp_v (v := (I x6)) wn (rv_load1 Try.underlying3 rfl e28 hc11) rfl hJ
      trivial) ?_
    refine ac rfl (by
      intro k _nm ρ σm hJ hoff hdep
      have e0 := look_off (N := 38) (hoff 0 rfl) rfl
      exact dp_v (v := (Sl adata_0 s2.1 cdata_0)) wn (rv_move e0) rfl hJ) ?_
    refine ac rfl (by
      intro k _nm ρ σm hJ hoff hdep
      have e1 := look_off (N := 38) (hoff 1 rfl) rfl
      exact dp_v (v := (I a_1)) wn (rv_move e1) rfl hJ) ?_
    refine ac rfl (by
      intro k _nm ρ σm hJ hoff hdep
      have e10 := look_off (N := 38) (hoff 10 rfl) rfl
      exact dp_v (v := (I s2.2)) wn (rv_move e10) rfl hJ) ?_
    refine ac rfl (by
      intro k _nm ρ σm hJ hoff hdep
      have e31 := hdep 15 rfl rfl 31 rfl
      have e32 := hdep 16 rfl rfl 32 rfl
      exact dp_v (v := (I (w64 (a_1 + s2.2)))) wn (rv_add (a := a_1) (b := s2.2) e31 e32) rfl hJ) ?_
    refine ac rfl (by
      intro k _nm ρ σm hJ hoff hdep
      have e30 := hdep 14 rfl rfl 30 rfl
      have e33 := hdep 17 rfl rfl 33 rfl
      exact dp_v (v := (pt b15 o16)) wn (rv_ix Try.underlying23 ti3 e30 e33 hi14) rfl hJ) ?_
    refine all_cons (by
      refine ⟨?_, ?_⟩
      ·intro _nm ρ σm hJ hoff hdep
       have e34 := hdep 18 rfl rfl 34 rfl
       obtain ⟨H, m⟩ := id hJ
       have hc17 := ((H.own 0 rfl).at hx13 hi14).int
       exact dp_v (v := (I x12)) wn (rv_load1 Try.underlying3 rfl e34 hc17) rfl hJ
      trivial) ?_
    refine ac rfl (by
      intro k _nm ρ σm hJ hoff hdep
      have e16 := hdep 0 rfl rfl 16 rfl
      have e19 := hdep 3 rfl rfl 19 rfl
      exact dp_v (v := (pt b21 o22)) wn (rv_ix Try.underlying23 ti3 e16 e19 hi20) rfl hJ) ?_
    refine all_cons (by
      refine ⟨?_, ?_⟩
      ·intro _nm ρ σm hJ hoff hdep
       have e36 := hdep 20 rfl rfl 36 rfl
       have e29 := hdep 13 rfl rfl 29 rfl
       obtain ⟨H, m⟩ := id hJ
       refine dp_exS wn rfl (ex_store_own (e' := x6) (vs := [(I x6)]) (k := 0) H (i := 0) rfl ti3 hx19 hi20 e36 rfl e29 rfl rfl (Nat.le_of_ble_eq_true rfl) (by simp [plain]) (by rintro _ rfl; exact rfl)) ?_
       rintro σq ⟨H2, m2⟩
       exact ⟨_, (), rfl, ⟨H2.sel' [0, 1, 2, 3, 4] rfl rfl, m.comp m2⟩, stab [0, 1, 2, 3, 4, 5, 6, 7, 8, 9, 10, 11, 12, 13, 14, 15, 16, 17, 18, 19, 20] (by kernel_rfl) ⟨rfl, rfl, rfl, rfl, rfl, rfl, rfl, rfl, rfl, rfl, rfl, rfl, rfl, rfl, rfl, rfl, rfl, rfl, rfl, rfl, rfl, trivial⟩⟩
      trivial) ?_
    exact all_nil
   ·intro _nm ρ σ23 hJ hoff hrel
    have e0 := look_off (N := 38) (hoff 0 rfl) rfl
    have e1 := look_off (N := 38) (hoff 1 rfl) rfl
    have e2 := look_off (N := 38) (hoff 2 rfl) rfl
    have e3 := look_off (N := 38) (hoff 3 rfl) rfl
    have e4 := look_off (N := 38) (hoff 4 rfl) rfl
    have e10 := look_off (N := 38) (hoff 10 rfl) rfl
    have e20 := hrel 4 rfl 20 rfl
    have e23 := hrel 7 rfl 23 rfl
    have e35 := hrel 19 rfl 35 rfl
    obtain ⟨H, -⟩ := (show Hp S0 σ0 σ23 [Ch.own 0 0 (Sl adata_0 s2.1 cdata_0) (s2.1.set (w64 (a_1 + s2.2)).toNat x6), Ch.ro 0 (Sl acmp_4_0 cmp_4_0 ccmp_4_0) cmp_4_0, Ch.bx locmp_4_0 bcmp_4_0 ocmp_4_0 [(Sl acmp_4_0 cmp_4_0 ccmp_4_0)] precmp_4_0 sufcmp_4_0, Ch.ro 0 (Sl acmp_4_1 cmp_4_1 ccmp_4_1) cmp_4_1, Ch.bx locmp_4_1 bcmp_4_1 ocmp_4_1 [(Sl acmp_4_1 cmp_4_1 ccmp_4_1)] precmp_4_1 sufcmp_4_1] ∧ Md (fun i => (cov []) i ∨ (fun b => blk (Sl adata_0 s2.1 cdata_0) = some b) i) σ3 σ23 from hJ)
    clear hJ Hs
    rw [fr_lookL (L := [(0, (Sl adata_0 s2.1 cdata_0)), (1, (I a_1)), (2, (I b_2)), (3, (I n_3)), (4, (.func (.func 78) #[] #[(pt bcmp_4_0 ocmp_4_0), (pt bcmp_4_1 ocmp_4_1)])), (10, (I s2.2)), (20, (Sl adata_0 s2.1 cdata_0)), (23, (I (w64 (b_2 + s2.2)))), (35, (I x12))]) ⟨e0, e1, e2, e3, e4, e10, e20, e23, e35, trivial⟩]
    clear hoff hrel e0 e1 e2 e3 e4 e10 e20 e23 e35
    have hsl : (Sl adata_0 s2.1 cdata_0) = (Sl adata_0 (s2.1.set (w64 (a_1 + s2.2)).toNat x6) cdata_0) := sl_len (by simp)
    rw [hsl]; rw [hsl] at H; clear hsl
    obtain ⟨x24, hx25, h'⟩ := bind_some h
    clear h
    have h := h'; clear h'
    obtain ⟨b27, o28, hi26, -⟩ := (H.own 0 rfl).ix hx25
    refine st (v := (pt b27 o28)) (rv_ix Try.underlying23 ti3 rfl rfl hi26) ?_
    refine st_exS (ex_store_own (e' := x12) (vs := [(I x12)]) (k := 0) H (i := 0) rfl ti3 hx25 hi26 rfl rfl rfl rfl rfl (Nat.le_of_ble_eq_true rfl) (by simp [plain]) (by rintro _ rfl; exact rfl)) wn ?_
    rintro σ29 ⟨H, -⟩
    have hsl : (Sl adata_0 (s2.1.set (w64 (a_1 + s2.2)).toNat x6) cdata_0) = (Sl adata_0 ((s2.1.set (w64 (a_1 + s2.2)).toNat x6).set (w64 (b_2 + s2.2)).toNat x12) cdata_0) := sl_len List.length_set.symm
    rw [hsl]; rw [hsl] at H; clear hsl
    refine w_end ?_
    refine q_blk ?_
    refine q_then ?_
    refine rg ?_
    refine st (v := (I s2.2)) (rv_move rfl) ?_
    refine st (v := (I (w64 (s2.2 + 1)))) (rv_add (a := s2.2) (b := 1) rfl rfl) ?_
    refine st (v := (I (w64 (s2.2 + 1)))) (rv_assign rfl) ?_
    refine w_end ?_
    refine q_then ?_
    obtain rfl := Option.some.inj h
    exact ⟨_, rfl, _, σ29, fr_join ⟨rfl, rfl, rfl, rfl, rfl, rfl, trivial⟩, rfl, H.sel' [0, 1, 2, 3, 4] rfl rfl, (List.length_set.trans (List.length_set.trans hn4))⟩
  ·replace h := bif_f hb5 h
   refine c_exit ?_
   refine q_then_x ?_
   refine q_then_x ?_
   refine q_blk_hit ?_
   obtain rfl := Option.some.inj h
   obtain rfl := hres _ rfl
   exact ⟨rfl, _, σ3, fr_join ⟨rfl, rfl, trivial⟩, rfl, H.sel' [0, 1, 2, 3, 4] rfl rfl, hn4⟩
 ·clear hj
  have h := h'
  clear h' H
  rintro e a w ⟨rfl, ρ, σ30, rfl, rfl, H, hn31⟩
  obtain rfl := Option.some.inj h
  exact fin_end (v := (.tuple #[])) (results_ok Try.results139 res_nil rfl) ⟨rfl, rfl, hn31⟩ (H.sel' [0, 2, 4] rfl rfl)

theorem c_slices_rotateCmpFunc_int__impl_ProbeOrder_1 {data_0 : List Int} {a_1 : Int} {m_2 : Int} {b_3 : Int} {cmp_4_0 : List (List Int)} {cmp_4_1 : List Int} {adata_0 : Option Addr} {cdata_0 : Nat} {acmp_4_0 : Option Addr} {ccmp_4_0 : Nat} {locmp_4_0 bcmp_4_0 ocmp_4_0 : Nat} {precmp_4_0 sufcmp_4_0 : List Value} {acmp_4_1 : Option Addr} {ccmp_4_1 : Nat} {locmp_4_1 bcmp_4_1 ocmp_4_1 : Nat} {precmp_4_1 sufcmp_4_1 : List Value} {r : (List Int)} (h : M.slices_rotateCmpFunc_int__impl_ProbeOrder_1 data_0 a_1 m_2 b_3 cmp_4_0 cmp_4_1 = some r) :
    Cal2 Try.prog 126 [(Sl adata_0 data_0 cdata_0), (I a_1), (I m_2), (I b_3), (.func (.func 78) #[] #[(pt bcmp_4_0 ocmp_4_0), (pt bcmp_4_1 ocmp_4_1)])] [Ch.own 0 0 (Sl adata_0 data_0 cdata_0) data_0, Ch.bx locmp_4_0 bcmp_4_0 ocmp_4_0 [(Sl acmp_4_0 cmp_4_0 ccmp_4_0)] precmp_4_0 sufcmp_4_0, Ch.ro 0 (Sl acmp_4_0 cmp_4_0 ccmp_4_0) cmp_4_0, Ch.bx locmp_4_1 bcmp_4_1 ocmp_4_1 [(Sl acmp_4_1 cmp_4_1 ccmp_4_1)] precmp_4_1 sufcmp_4_1, Ch.ro 0 (Sl acmp_4_1 cmp_4_1 ccmp_4_1) cmp_4_1] (fun n0 v L => v = (.tuple #[]) ∧ L = [Ch.own 0 0 (Sl adata_0 r cdata_0) r, Ch.bx locmp_4_0 bcmp_4_0 ocmp_4_0 [(Sl acmp_4_0 cmp_4_0 ccmp_4_0)] precmp_4_0 sufcmp_4_0, Ch.bx locmp_4_1 bcmp_4_1 ocmp_4_1 [(Sl acmp_4_1 cmp_4_1 ccmp_4_1)] precmp_4_1 sufcmp_4_1] ∧ r.length = data_0.length) := by
 refine cal2 (n := 58) Try.func126 rfl rfl rfl rfl ?_
 intro S0 σ0 n0 hn0 H
 unfold M.slices_rotateCmpFunc_int__impl_ProbeOrder_1 at h
 refine c_seq ?_
 refine rg ?_
 refine st (v := (I m_2)) (rv_move rfl) ?_
 refine st (v := (I a_1)) (rv_move rfl) ?_
 refine st (v := (I (w64 (m_2 - a_1)))) (rv_sub (a := m_2) (b := a_1) rfl rfl) ?_
 refine st (v := (I (w64 (m_2 - a_1)))) (rv_assign rfl) ?_
 refine w_end ?_
 refine q_then ?_
 refine c_seq ?_
 refine rg ?_
 refine st (v := (I b_3)) (rv_move rfl) ?_
 refine st (v := (I m_2)) (rv_move rfl) ?_
 refine st (v := (I (w64 (b_3 - m_2)))) (rv_sub (a := b_3) (b := m_2) rfl rfl) ?_
 refine st (v := (I (w64 (b_3 - m_2)))) (rv_assign rfl) ?_
 refine w_end ?_
 refine q_then ?_
 refine c_seq ?_
 obtain ⟨o1, hj, h'⟩ := bind_some h
 clear h
 refine c_cut (fun e a w => e = .normal ∧ ∃ (ρ : Nat → Value) (σ : St), a = fr 58 (updL ρ [(0, (Sl adata_0 o1.1 cdata_0)), (2, (I m_2)), (4, (.func (.func 78) #[] #[(pt bcmp_4_0 ocmp_4_0), (pt bcmp_4_1 ocmp_4_1)])), (10, (I o1.2))]) ∧ w = σ.w ∧ Hp S0 σ0 σ [Ch.own 0 0 (Sl adata_0 o1.1 cdata_0) o1.1, Ch.ro 0 (Sl acmp_4_0 cmp_4_0 ccmp_4_0) cmp_4_0, Ch.bx locmp_4_0 bcmp_4_0 ocmp_4_0 [(Sl acmp_4_0 cmp_4_0 ccmp_4_0)] precmp_4_0 sufcmp_4_0, Ch.ro 0 (Sl acmp_4_1 cmp_4_1 ccmp_4_1) cmp_4_1, Ch.bx locmp_4_1 bcmp_4_1 ocmp_4_1 [(Sl acmp_4_1 cmp_4_1 ccmp_4_1)] precmp_4_1 sufcmp_4_1] ∧ o1.1.length = data_0.length) ?_ ?_
 ·clear h'
  rename _ = some o1 => h
  refine c_blk ?_
  refine wp_loopM _ h (fun s2 a w => ∃ (ρ : Nat → Value) (σ : St), a = fr 58 (updL ρ [(0, (Sl adata_0 s2.1 cdata_0)), (2, (I m_2)), (4, (.func (.func 78) #[] #[(pt bcmp_4_0 ocmp_4_0), (pt bcmp_4_1 ocmp_4_1)])), (10, (I s2.2.1)), (11, (I s2.2.2))]) ∧ w = σ.w ∧ Hp S0 σ0 σ [Ch.own 0 0 (Sl adata_0 s2.1 cdata_0) s2.1, Ch.ro 0 (Sl acmp_4_0 cmp_4_0 ccmp_4_0) cmp_4_0, Ch.bx locmp_4_0 bcmp_4_0 ocmp_4_0 [(Sl acmp_4_0 cmp_4_0 ccmp_4_0)] precmp_4_0 sufcmp_4_0, Ch.ro 0 (Sl acmp_4_1 cmp_4_1 ccmp_4_1) cmp_4_1, Ch.bx locmp_4_1 bcmp_4_1 ocmp_4_1 [(Sl acmp_4_1 cmp_4_1 ccmp_4_1)] precmp_4_1 sufcmp_4_1] ∧ s2.1.length = data_0.length) ⟨_, σ0, fr_join ⟨rfl, rfl, rfl, rfl, rfl, trivial⟩, rfl, H.sel' [0, 2, 1, 4, 3] rfl rfl, rfl⟩ ?_
  clear h H
  rintro s2 a w o ⟨ρ, σ3, rfl, rfl, H, hn4⟩ h hres
  refine c_seq ?_
  refine c_seq ?_
  refine rg ?_
  refine st (v := (I s2.2.1)) (rv_move rfl) ?_
  refine st (v := (I s2.2.2)) (rv_move rfl) ?_
  refine st (v := (B (s2.2.1 != s2.2.2))) (rv_neq (a := s2.2.1) (b := s2.2.2) rfl rfl) ?_
  refine w_end ?_
  refine q_then ?_
  refine cd_cond (s2.2.1 != s2.2.2) rfl (fun hb5 => ?_) (fun hb5 => ?_)
  ·replace h := bif_t hb5 h
   refine c_skip ?_
   refine q_then ?_
   refine c_blk ?_
   refine c_seq ?_
   refine rg ?_
   refine st (v := (I s2.2.1)) (rv_move rfl) ?_
   refine st (v := (I s2.2.2)) (rv_move rfl) ?_
   refine st (v := (B (decide (s2.2.2 < s2.2.1)))) (rv_gtr (a := s2.2.1) (b := s2.2.2) rfl rfl) ?_
   refine w_end ?_
   refine q_then ?_
   refine cd_cond (decide (s2.2.2 < s2.2.1)) rfl (fun hb6 => ?_) (fun hb6 => ?_)
   ·replace h := bif_t hb6 h
    refine c_seq ?_
    refine rg ?_
    refine st (v := (Sl adata_0 s2.1 cdata_0)) (rv_move rfl) ?_
    refine st (v := (I m_2)) (rv_move rfl) ?_
    refine st (v := (I s2.2.1)) (rv_move rfl) ?_
    refine st (v := (I (w64 (m_2 - s2.2.1)))) (rv_sub (a := m_2) (b := s2.2.1) rfl rfl) ?_
    refine st (v := (I m_2)) (rv_move rfl) ?_
    refine st (v := (I s2.2.2)) (rv_move rfl) ?_
    refine st (v := (.func (.func 78) #[] #[(pt bcmp_4_0 ocmp_4_0), (pt bcmp_4_1 ocmp_4_1)])) (rv_move rfl) ?_
    obtain ⟨r7, hx8, h'⟩ := bind_some h
    clear h
    have h := h'; clear h'
    have hc9 := c_slices_swapRangeCmpFunc_int__impl_ProbeOrder_1 (adata_0 := adata_0) (cdata_0 := cdata_0) (locmp_4_0 := locmp_4_0) (bcmp_4_0 := bcmp_4_0) (ocmp_4_0 := ocmp_4_0) (precmp_4_0 := precmp_4_0) (sufcmp_4_0 := sufcmp_4_0) (acmp_4_0 := acmp_4_0) (ccmp_4_0 := ccmp_4_0) (locmp_4_1 := locmp_4_1) (bcmp_4_1 := bcmp_4_1) (ocmp_4_1 := ocmp_4_1) (precmp_4_1 := precmp_4_1) (sufcmp_4_1 := sufcmp_4_1) (acmp_4_1 := acmp_4_1) (ccmp_4_1 := ccmp_4_1) hx8
    refine st_call (cx_call hc9 (ent_f hc9.fn rfl) hn0 (show Hp S0 σ0 _ ([Ch.own 0 0 (Sl adata_0 s2.1 cdata_0) s2.1, Ch.bx locmp_4_0 bcmp_4_0 ocmp_4_0 [(Sl acmp_4_0 cmp_4_0 ccmp_4_0)] precmp_4_0 sufcmp_4_0, Ch.ro 0 (Sl acmp_4_0 cmp_4_0 ccmp_4_0) cmp_4_0, Ch.bx locmp_4_1 bcmp_4_1 ocmp_4_1 [(Sl acmp_4_1 cmp_4_1 ccmp_4_1)] precmp_4_1 sufcmp_4_1, Ch.ro 0 (Sl acmp_4_1 cmp_4_1 ccmp_4_1) cmp_4_1] ++ [Ch.ro 0 (Sl acmp_4_0 cmp_4_0 ccmp_4_0) cmp_4_0, Ch.ro 0 (Sl acmp_4_1 cmp_4_1 ccmp_4_1) cmp_4_1]) from (H.sel' [0, 2, 1, 4, 3, 1, 3] rfl rfl))) wn ?_
    rintro _ σ11 ⟨_, ⟨rfl, rfl, hn10⟩, H, -⟩
    replace H : Hp S0 σ0 σ11 [Ch.own 0 0 (Sl adata_0 r7 cdata_0) r7, Ch.bx locmp_4_0 bcmp_4_0 ocmp_4_0 [(Sl acmp_4_0 cmp_4_0 ccmp_4_0)] precmp_4_0 sufcmp_4_0, Ch.bx locmp_4_1 bcmp_4_1 ocmp_4_1 [(Sl acmp_4_1 cmp_4_1 ccmp_4_1)] precmp_4_1 sufcmp_4_1, Ch.ro 0 (Sl acmp_4_0 cmp_4_0 ccmp_4_0) cmp_4_0, Ch.ro 0 (Sl acmp_4_1 cmp_4_1 ccmp_4_1) cmp_4_1] := H
    have hsl : (Sl adata_0 s2.1 cdata_0) = (Sl adata_0 r7 cdata_0) := sl_len hn10.symm
    try rw [hsl]
    try rw [hsl] at H
    clear hsl
    refine w_end ?_
    refine q_then ?_
    refine rg ?_
    refine st (v := (I s2.2.1)) (rv_move rfl) ?_
    refine st (v := (I s2.2.2)) (rv_move rfl) ?_
    refine st (v := (I (w64 (s2.2.1 - s2.2.2)))) (rv_sub (a := s2.2.1) (b := s2.2.2) rfl rfl) ?_
    refine st (v := (I (w64 (s2.2.1 - s2.2.2)))) (rv_assign rfl) ?_
    refine w_end ?_
    refine q_blk ?_
    refine q_then ?_
    obtain rfl := Option.some.inj h
    exact ⟨_, rfl, _, σ11, fr_join ⟨rfl, rfl, rfl, rfl, rfl, trivial⟩, rfl, H.sel' [0, 3, 1, 4, 2] rfl rfl, (hn10.trans hn4)⟩
   ·replace h := bif_f hb6 h
    refine c_seq ?_
    refine rg ?_
    refine st (v := (Sl adata_0 s2.1 cdata_0)) (rv_move rfl) ?_
    refine st (v := (I m_2)) (rv_move rfl) ?_
    refine st (v := (I s2.2.1)) (rv_move rfl) ?_
    refine st (v := (I (w64 (m_2 - s2.2.1)))) (rv_sub (a := m_2) (b := s2.2.1) rfl rfl) ?_
    refine st (v := (I m_2)) (rv_move rfl) ?_
    refine st (v := (I s2.2.2)) (rv_move rfl) ?_
    refine st (v := (I (w64 (m_2 + s2.2.2)))) (rv_add (a := m_2) (b := s2.2.2) rfl rfl) ?_
    refine st (v := (I s2.2.1)) (rv_move rfl) ?_
    refine st (v := (I (w64 ((w64 (m_2 + s2.2.2)) - s2.2.1)))) (rv_sub (a := (w64 (m_2 + s2.2.2))) (b := s2.2.1) rfl rfl) ?_
    refine st (v := (I s2.2.1)) (rv_move rfl) ?_
    refine st (v := (.func (.func 78) #[] #[(pt bcmp_4_0 ocmp_4_0), (pt bcmp_4_1 ocmp_4_1)])) (rv_move rfl) ?_
    obtain ⟨r12, hx13, h'⟩ := bind_some h
    clear h
    have h := h'; clear h'
    have hc14 := c_slices_swapRangeCmpFunc_int__impl_ProbeOrder_1 (adata_0 := adata_0) (cdata_0 := cdata_0) (locmp_4_0 := locmp_4_0) (bcmp_4_0 := bcmp_4_0) (ocmp_4_0 := ocmp_4_0) (precmp_4_0 := precmp_4_0) (sufcmp_4_0 := sufcmp_4_0) (acmp_4_0 := acmp_4_0) (ccmp_4_0 := ccmp_4_0) (locmp_4_1 := locmp_4_1) (bcmp_4_1 := bcmp_4_1) (ocmp_4_1 := ocmp_4_1) (precmp_4_1 := precmp_4_1) (sufcmp_4_1 := sufcmp_4_1) (acmp_4_1 := acmp_4_1) (ccmp_4_1 := ccmp_4_1) hx13
    refine st_call (cx_call hc14 (ent_f hc14.fn rfl) hn0 (show Hp S0 σ0 _ ([Ch.own 0 0 (Sl adata_0 s2.1 cdata_0) s2.1, Ch.bx locmp_4_0 bcmp_4_0 ocmp_4_0 [(Sl acmp_4_0 cmp_4_0 ccmp_4_0)] precmp_4_0 sufcmp_4_0, Ch.ro 0 (Sl acmp_4_0 cmp_4_0 ccmp_4_0) cmp_4_0, Ch.bx locmp_4_1 bcmp_4_1 ocmp_4_1 [(Sl acmp_4_1 cmp_4_1 ccmp_4_1)] precmp_4_1 sufcmp_4_1, Ch.ro 0 (Sl acmp_4_1 cmp_4_1 ccmp_4_1) cmp_4_1] ++ [Ch.ro 0 (Sl acmp_4_0 cmp_4_0 ccmp_4_0) cmp_4_0, Ch.ro 0 (Sl acmp_4_1 cmp_4_1 ccmp_4_1) cmp_4_1]) from (H.sel' [0, 2, 1, 4, 3, 1, 3] rfl rfl))) wn ?_
    rintro _ σ16 ⟨_, ⟨rfl, rfl, hn15⟩, H, -⟩
    replace H : Hp S0 σ0 σ16 [Ch.own 0 0 (Sl adata_0 r12 cdata_0) r12, Ch.bx locmp_4_0 bcmp_4_0 ocmp_4_0 [(Sl acmp_4_0 cmp_4_0 ccmp_4_0)] precmp_4_0 sufcmp_4_0, Ch.bx locmp_4_1 bcmp_4_1 ocmp_4_1 [(Sl acmp_4_1 cmp_4_1 ccmp_4_1)] precmp_4_1 sufcmp_4_1, Ch.ro 0 (Sl acmp_4_0 cmp_4_0 ccmp_4_0) cmp_4_0, Ch.ro 0 (Sl acmp_4_1 cmp_4_1 ccmp_4_1) cmp_4_1] := H
    have hsl : (Sl adata_0 s2.1 cdata_0) = (Sl adata_0 r12 cdata_0) := sl_len hn15.symm
    try rw [hsl]
    try rw [hsl] at H
    clear hsl
    refine w_end ?_
    refine q_then ?_
    refine rg ?_
    refine st (v := (I s2.2.2)) (rv_move rfl) ?_
    refine st (v := (I s2.2.1)) (rv_move rfl) ?_
    refine st (v := (I (w64 (s2.2.2 - s2.2.1)))) (rv_sub (a := s2.2.2) (b := s2.2.1) rfl rfl) ?_
    refine st (v := (I (w64 (s2.2.2 - s2.2.1)))) (rv_assign rfl) ?_
    refine w_end ?_
    refine q_blk ?_
    refine q_then ?_
    obtain rfl := Option.some.inj h
    exact ⟨_, rfl, _, σ16, fr_join ⟨rfl, rfl, rfl, rfl, rfl, trivial⟩, rfl, H.sel' [0, 3, 1, 4, 2] rfl rfl, (hn15.trans hn4)⟩
  ·replace h := bif_f hb5 h
   refine c_exit ?_
   refine q_then_x ?_
   refine q_then_x ?_
   refine q_blk_hit ?_
   obtain rfl := Option.some.inj h
   obtain rfl := hres _ rfl
   exact ⟨rfl, _, σ3, fr_join ⟨rfl, rfl, rfl, rfl, trivial⟩, rfl, H.sel' [0, 1, 2, 3, 4] rfl rfl, hn4⟩
 ·clear hj
  have h := h'
  clear h' H
  rintro e a w ⟨rfl, ρ, σ17, rfl, rfl, H, hn18⟩
  refine q_then ?_
  refine rg ?_
  refine st (v := (Sl adata_0 o1.1 cdata_0)) (rv_move rfl) ?_
  refine st (v := (I m_2)) (rv_move rfl) ?_
  refine st (v := (I o1.2)) (rv_move rfl) ?_
  refine st (v := (I (w64 (m_2 - o1.2)))) (rv_sub (a := m_2) (b := o1.2) rfl rfl) ?_
  refine st (v := (I m_2)) (rv_move rfl) ?_
  refine st (v := (I o1.2)) (rv_move rfl) ?_
  refine st (v := (.func (.func 78) #[] #[(pt bcmp_4_0 ocmp_4_0), (pt bcmp_4_1 ocmp_4_1)])) (rv_move rfl) ?_
  obtain ⟨r19, hx20, h'⟩ := bind_some h
  clear h
  have h := h'; clear h'
  have hc21 := c_slices_swapRangeCmpFunc_int__impl_ProbeOrder_1 (adata_0 := adata_0) (cdata_0 := cdata_0) (locmp_4_0 := locmp_4_0) (bcmp_4_0 := bcmp_4_0) (ocmp_4_0 := ocmp_4_0) (precmp_4_0 := precmp_4_0) (sufcmp_4_0 := sufcmp_4_0) (acmp_4_0 := acmp_4_0) (ccmp_4_0 := ccmp_4_0) (locmp_4_1 := locmp_4_1) (bcmp_4_1 := bcmp_4_1) (ocmp_4_1 := ocmp_4_1) (precmp_4_1 := precmp_4_1) (sufcmp_4_1 := sufcmp_4_1) (acmp_4_1 := acmp_4_1) (ccmp_4_1 := ccmp_4_1) hx20
  refine st_call (cx_call hc21 (ent_f hc21.fn rfl) hn0 (show Hp S0 σ0 _ ([Ch.own 0 0 (Sl adata_0 o1.1 cdata_0) o1.1, Ch.bx locmp_4_0 bcmp_4_0 ocmp_4_0 [(Sl acmp_4_0 cmp_4_0 ccmp_4_0)] precmp_4_0 sufcmp_4_0, Ch.ro 0 (Sl acmp_4_0 cmp_4_0 ccmp_4_0) cmp_4_0, Ch.bx locmp_4_1 bcmp_4_1 ocmp_4_1 [(Sl acmp_4_1 cmp_4_1 ccmp_4_1)] precmp_4_1 sufcmp_4_1, Ch.ro 0 (Sl acmp_4_1 cmp_4_1 ccmp_4_1) cmp_4_1] ++ [Ch.ro 0 (Sl acmp_4_0 cmp_4_0 ccmp_4_0) cmp_4_0, Ch.ro 0 (Sl acmp_4_1 cmp_4_1 ccmp_4_1) cmp_4_1]) from (H.sel' [0, 2, 1, 4, 3, 1, 3] rfl rfl))) wn ?_
  rintro _ σ23 ⟨_, ⟨rfl, rfl, hn22⟩, H, -⟩
  replace H : Hp S0 σ0 σ23 [Ch.own 0 0 (Sl adata_0 r19 cdata_0) r19, Ch.bx locmp_4_0 bcmp_4_0 ocmp_4_0 [(Sl acmp_4_0 cmp_4_0 ccmp_4_0)] precmp_4_0 sufcmp_4_0, Ch.bx locmp_4_1 bcmp_4_1 ocmp_4_1 [(Sl acmp_4_1 cmp_4_1 ccmp_4_1)] precmp_4_1 sufcmp_4_1, Ch.ro 0 (Sl acmp_4_0 cmp_4_0 ccmp_4_0) cmp_4_0, Ch.ro 0 (Sl acmp_4_1 cmp_4_1 ccmp_4_1) cmp_4_1] := H
  have hsl : (Sl adata_0 o1.1 cdata_0) = (Sl adata_0 r19 cdata_0) := sl_len hn22.symm
  try rw [hsl]
  try rw [hsl] at H
  clear hsl
  refine w_end ?_
  obtain rfl := Option.some.inj h
  exact fin_end (v := (.tuple #[])) (results_ok Try.results126 res_nil rfl) ⟨rfl, rfl, (hn22.trans hn18)⟩ (H.sel' [0, 1, 2] rfl rfl)

end Go.Vs
