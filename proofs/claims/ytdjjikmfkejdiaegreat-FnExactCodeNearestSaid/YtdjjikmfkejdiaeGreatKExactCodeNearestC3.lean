/- The functions compute what their models say. -/
import Derived.Test.YtdjjikmfkejdiaeGreatKExactCodeNearestC2
set_option linter.unusedVariables false
set_option linter.unusedSimpArgs false
set_option maxRecDepth 20000
namespace Go.Vs
open Go Go.Proofs
attribute [local irreducible] Code.wp Code.wpIn wpList wpListIn wpQuiet Calls CallsIn

theorem c_impl_tablesOf {Ar : (List (List Int)) × (List (List Int))} {By : List Int} {As : Option Addr} {Au : Nat} {Av : Option Addr} {Aw : Nat} {Bz : Option Addr} {Ca : Nat} {r : (List Int) × (List Int)} (h : M.impl_tablesOf Ar By = some r) :
    Cal2 Tryz.prog 84 [(.agg #[(Sl As Ar.1 Au), (Sl Av Ar.2 Aw)]), (Sl Bz By Ca)] [Ch.ro 0 (Sl As Ar.1 Au) Ar.1, Ch.ro 0 (Sl Av Ar.2 Aw) Ar.2, Ch.ro 0 (Sl Bz By Ca) By] (fun n0 v L => v = (.tuple #[(.agg (List.map I r.1).toArray), (.agg (List.map I r.2).toArray)]) ∧ L = [] ∧ r.1.length = 4 ∧ r.2.length = 4) := by
 refine cal2 (n := 16) Tryz.func84 rfl rfl rfl rfl ?_
 intro S0 σ0 n0 hn0 H
 unfold M.impl_tablesOf at h
 refine c_seq (rg (st_ex (ex_box (cs := [(Sl As Ar.1 Au), (Sl Av Ar.2 Aw)]) H hn0 rfl rfl) wn ?_))
 rintro _ σ2 ⟨b1, rfl, H, -⟩
 refine st_ex (ex_alloc (cs := (List.map I (List.replicate 4 0))) H hn0 ti101 rfl) wn ?_
 rintro _ σ4 ⟨b3, rfl, H, -⟩
 refine st_ex (ex_alloc (cs := (List.map I (List.replicate 4 0))) H hn0 ti101 rfl) wn ?_
 rintro _ σ6 ⟨b5, rfl, H, -⟩
 refine w_end (q_then (c_seq ?_))
 have hc7 := H.cell (u := (Sl As Ar.1 Au)) (o' := 0) 2 0 rfl rfl rfl
 revert h; refine br fun xs8 hx9 h => ?_
 obtain ⟨a10, c11, hs12, hR13⟩ := (H.ro 5 rfl).slice hx9
 replace H := H.add (d := Ch.ro 0 (Sl a10 xs8 c11) xs8) hR13 (fun _ h => h)
 clear hR13
 revert h; refine br fun r14 hx15 h => ?_
 have hc16 := c_impl_tableOf (Ck := As) (Cl := Au) (Bv := a10) (Bw := c11) hx15
 have hc18 := H.cell (u := (Sl Av Ar.2 Aw)) (o' := 1) 3 1 rfl rfl rfl
 revert h; refine br fun xs19 hx20 h => ?_
 obtain ⟨a21, c22, hs23, hR24⟩ := (H.ro 6 rfl).slice hx20
 replace H := H.add (d := Ch.ro 0 (Sl a21 xs19 c22) xs19) hR24 (fun _ h => h)
 clear hR24
 have Hs := H
 refine rg2 (σ := σ6) (Nm := Unit) 9 [4] [[false], [true]] [[(0, 0)], [(0, 0)], [(0, 0)], [(0, 0)], [(0, 1)], [(0, 0), (1, 1)], [(0, 0), (1, 1)], [(0, 0), (1, 1)], [(0, 0), (1, 1)]] 1 [fun _ => fun σm => Hp S0 σ0 σm [Ch.ro 0 (Sl a21 xs19 c22) xs19, Ch.ro 0 (Sl a10 xs8 c11) xs8, Ch.bx n0 b5 0 (List.map I (List.replicate 4 0)) [] [], Ch.bx n0 b3 0 (List.map I (List.replicate 4 0)) [] [], Ch.bx n0 b1 0 [(Sl As Ar.1 Au), (Sl Av Ar.2 Aw)] [] [], Ch.ro 0 (Sl As Ar.1 Au) Ar.1, Ch.ro 0 (Sl Av Ar.2 Aw) Ar.2, Ch.ro 0 (Sl Bz By Ca) By] ∧ Md (cov []) σ6 σm, fun _ => fun σm => Hp S0 σ0 σm [Ch.ro 0 (Sl a21 xs19 c22) xs19, Ch.ro 0 (Sl a10 xs8 c11) xs8, Ch.bx n0 b5 0 (List.map I (List.replicate 4 0)) [] [], Ch.bx n0 b3 0 (List.map I (List.replicate 4 0)) [] [], Ch.bx n0 b1 0 [(Sl As Ar.1 Au), (Sl Av Ar.2 Aw)] [] [], Ch.ro 0 (Sl As Ar.1 Au) Ar.1, Ch.ro 0 (Sl Av Ar.2 Aw) Ar.2, Ch.ro 0 (Sl Bz By Ca) By] ∧ Md (cov []) σ6 σm ∧ r14.length = 4] [fun _ => (pt b1 0), fun _ => (Sl As Ar.1 Au), fun _ => (Sl Bz By Ca), fun _ => (Sl a10 xs8 c11), fun _ => (.agg (List.map I r14).toArray), fun _ => (pt b1 1), fun _ => (Sl Av Ar.2 Aw), fun _ => (Sl Bz By Ca), fun _ => (Sl a21 xs19 c22)] () (by kernel_rfl) (by kernel_rfl) ?_ ?_ ?_
 ·intro σm m0
  exact ⟨H.grow (m0.mono fun _ h => h.elim), m0⟩
 ·refine ac rfl (by
    intro k _nm ρ σm hJ hoff hdep
    have e2 := look_off (N := 16) (hoff 2 rfl) rfl
    exact dp_v (v := (pt b1 0)) wn (rv_fieldAddr (off := 0) (ft := 22) Tryz.underlying31 rfl ti22 rfl e2) rfl hJ) ?_
  refine all_cons (by
    refine ⟨?_, ?_⟩
    ·intro _nm ρ σm hJ hoff hdep
     have e6 := hdep 0 rfl rfl 6 rfl
     obtain ⟨H, m⟩ := id hJ
     have hc7 := H.cell (u := (Sl As Ar.1 Au)) (o' := 0) 4 0 rfl rfl rfl
     exact dp_v (v := (Sl As Ar.1 Au)) wn (rv_load1 Tryz.underlying22 rfl e6 hc7) rfl hJ
    trivial) ?_
  refine ac rfl (by
    intro k _nm ρ σm hJ hoff hdep
    have e1 := look_off (N := 16) (hoff 1 rfl) rfl
    exact dp_v (v := (Sl Bz By Ca)) wn (rv_move e1) rfl hJ) ?_
  refine ac rfl (by
    intro k _nm ρ σm hJ hoff hdep
    have e8 := hdep 2 rfl rfl 8 rfl
    exact dp_v (v := (Sl a10 xs8 c11)) wn (rv_slice_h Tryz.underlying26 ti3 hs12 e8 rfl) rfl hJ) ?_
  refine all_cons (by
    refine ⟨?_, ?_⟩
    ·intro _nm ρ σm hJ hoff hdep
     have e7 : look 16 ρ 7 = (Sl As Ar.1 Au) := hdep 1 rfl rfl 7 rfl
     have e9 : look 16 ρ 9 = (Sl a10 xs8 c11) := hdep 3 rfl rfl 9 rfl
     obtain ⟨H, m⟩ := id hJ
     refine dp_cx wn (cx_call hc16 (ent_f hc16.fn (by show [look 16 ρ 7, look 16 ρ 9] = _; rw [e7, e9])) hn0 (H.sel' [5, 1, 0, 1, 2, 3, 4, 5, 6, 7] rfl rfl : Hp S0 σ0 _ ([_, _] ++ _))) ?_
     rintro _ σq ⟨_, ⟨rfl, rfl, hl17⟩, H2, m2⟩
     exact ⟨_, (), rfl, rfl, ⟨H2.sel' [0, 1, 2, 3, 4, 5, 6, 7] rfl rfl, m.comp0 (m2.mono (fun i h => by simp [cov, Ch.ro] at h)), hl17⟩, stab [0, 1, 2, 3, 5, 6, 7, 8] (by kernel_rfl) ⟨rfl, rfl, rfl, rfl, rfl, rfl, rfl, rfl, trivial⟩⟩
    trivial) ?_
  refine ac rfl (by
    intro k _nm ρ σm hJ hoff hdep
    have e2 := look_off (N := 16) (hoff 2 rfl) rfl
    exact dp_v (v := (pt b1 1)) wn (rv_fieldAddr (off := 1) (ft := 22) Tryz.underlying31 rfl ti22 rfl e2) rfl hJ) ?_
  refine all_cons (by
    refine ⟨?_, ?_⟩
    ·intro _nm ρ σm hJ hoff hdep
     have e11 := hdep 5 rfl rfl 11 rfl
     obtain ⟨H, m⟩ := id hJ
     have hc18 := H.cell (u := (Sl Av Ar.2 Aw)) (o' := 1) 4 1 rfl rfl rfl
     exact dp_v (v := (Sl Av Ar.2 Aw)) wn (rv_load1 Tryz.underlying22 rfl e11 hc18) rfl hJ
    refine ⟨?_, ?_⟩
    ·intro _nm ρ σm hJ hoff hdep
     have e11 := hdep 5 rfl rfl 11 rfl
     obtain ⟨H, m, hl17⟩ := id hJ
     have hc18 := H.cell (u := (Sl Av Ar.2 Aw)) (o' := 1) 4 1 rfl rfl rfl
     exact dp_v (v := (Sl Av Ar.2 Aw)) wn (rv_load1 Tryz.underlying22 rfl e11 hc18) rfl hJ
    trivial) ?_
  refine ac rfl (by
    intro k _nm ρ σm hJ hoff hdep
    have e1 := look_off (N := 16) (hoff 1 rfl) rfl
    exact dp_v (v := (Sl Bz By Ca)) wn (rv_move e1) rfl hJ) ?_
  refine ac rfl (by
    intro k _nm ρ σm hJ hoff hdep
    have e13 := hdep 7 rfl rfl 13 rfl
    exact dp_v (v := (Sl a21 xs19 c22)) wn (rv_slice_l Tryz.underlying26 ti3 hs23 e13 rfl) rfl hJ) ?_
  exact all_nil
 ·intro _nm ρ σ25 hJ hoff hrel
  have e4 := look_off (N := 16) (hoff 4 rfl) rfl
  have e5 := look_off (N := 16) (hoff 5 rfl) rfl
  have e10 := hrel 4 rfl 10 rfl
  have e12 := hrel 6 rfl 12 rfl
  have e14 := hrel 8 rfl 14 rfl
  obtain ⟨H, -, hl17⟩ := (show Hp S0 σ0 σ25 [Ch.ro 0 (Sl a21 xs19 c22) xs19, Ch.ro 0 (Sl a10 xs8 c11) xs8, Ch.bx n0 b5 0 (List.map I (List.replicate 4 0)) [] [], Ch.bx n0 b3 0 (List.map I (List.replicate 4 0)) [] [], Ch.bx n0 b1 0 [(Sl As Ar.1 Au), (Sl Av Ar.2 Aw)] [] [], Ch.ro 0 (Sl As Ar.1 Au) Ar.1, Ch.ro 0 (Sl Av Ar.2 Aw) Ar.2, Ch.ro 0 (Sl Bz By Ca) By] ∧ Md (cov []) σ6 σ25 ∧ r14.length = 4 from hJ)
  clear hJ Hs
  rw [fr_lookL (L := [(4, (pt b3 0)), (5, (pt b5 0)), (10, (.agg (List.map I r14).toArray)), (12, (Sl Av Ar.2 Aw)), (14, (Sl a21 xs19 c22))]) ⟨e4, e5, e10, e12, e14, trivial⟩]
  clear hoff hrel e4 e5 e10 e12 e14
  revert h; refine br fun r26 hx27 h => ?_
  have hc28 := c_impl_tableOf (Ck := Av) (Cl := Aw) (Bv := a21) (Bw := c22) hx27
  refine st_call (cx_call hc28 (ent_f hc28.fn rfl) hn0 (H.sel' [6, 0, 0, 1, 2, 3, 4, 5, 6, 7] rfl rfl : Hp S0 σ0 _ ([_, _] ++ _))) wn ?_
  rintro _ σ30 ⟨_, ⟨rfl, rfl, hl29⟩, H, -⟩
  replace H : Hp _ _ _ [_, _, _, _, _, _, _, _] := H
  replace H : Hp S0 σ0 σ30 [Ch.bx n0 b5 0 (List.map I (List.replicate 4 0)) [] [], Ch.bx n0 b3 0 (List.map I (List.replicate 4 0)) [] []] := H.sel' [2, 3] rfl rfl
  refine st_exS (ex_store_box (k := 0) (cs := (List.map I (List.replicate 4 0))) (vs := (List.map I r14)) (cs' := (List.map I r14)) H (i := 1) rfl ti101 rfl rfl rfl rfl ((List.length_map _).trans hl17) (arr_fits (k := 4) hl17 rfl) (plain_ints _) (arr_all (k := 4) hl17 rfl)) wn ?_
  rintro σ31 ⟨H, -⟩
  refine st_exS (ex_store_box (k := 0) (cs := (List.map I (List.replicate 4 0))) (vs := (List.map I r26)) (cs' := (List.map I r26)) H (i := 1) rfl ti101 rfl rfl rfl rfl ((List.length_map _).trans hl29) (arr_fits (k := 4) hl29 rfl) (plain_ints _) (arr_all (k := 4) hl29 rfl)) wn ?_
  rintro σ32 ⟨H, -⟩
  refine w_end (q_then (c_ret ?_))
  obtain rfl := sj h
  exact fin_ret (v := (.tuple #[(.agg (List.map I r14).toArray), (.agg (List.map I r26).toArray)])) (results_ok Tryz.results84 (res_cell rfl (run_cellRes (cs := (List.map I r14)) Tryz.underlying101 rfl ti101 (by rw [List.length_map]; exact hl17) (H.cells 1 rfl)) (res_cell rfl (run_cellRes (cs := (List.map I r26)) Tryz.underlying101 rfl ti101 (by rw [List.length_map]; exact hl29) (H.cells 0 rfl)) res_nil)) rfl) ⟨rfl, rfl, hl17, hl29⟩ (H.sel' [] rfl rfl)

theorem c_impl_CodeDistances {Ar : (List (List Int)) × (List (List Int))} {By : List Int} {As : Option Addr} {Au : Nat} {Av : Option Addr} {Aw : Nat} {Bz : Option Addr} {Ca : Nat} {r : (List Int)} (h : M.impl_CodeDistances Ar By = some r) :
    Cal2 Tryz.prog 45 [(.agg #[(Sl As Ar.1 Au), (Sl Av Ar.2 Aw)]), (Sl Bz By Ca)] [Ch.ro 0 (Sl As Ar.1 Au) Ar.1, Ch.ro 0 (Sl Av Ar.2 Aw) Ar.2, Ch.ro 0 (Sl Bz By Ca) By] (fun n0 v L => ∃ (az1 : Option Addr), ∃ (cz2 : Nat), v = (Sl az1 r cz2) ∧ L = [Ch.own n0 n0 (Sl az1 r cz2) r]) := by
 refine cal2 (n := 44) Tryz.func45 rfl rfl rfl rfl ?_
 intro S0 σ0 n0 hn0 H
 unfold M.impl_CodeDistances at h
 refine c_seq (rg (st_ex (ex_box (cs := [(Sl As Ar.1 Au), (Sl Av Ar.2 Aw)]) H hn0 rfl rfl) wn ?_))
 rintro _ σ2 ⟨b1, rfl, H, -⟩
 refine sa (.slice none 0 0) rfl (w_end (q_then (c_seq (c_seq ?_))))
 obtain ⟨o3, hj, h'⟩ := bind_some h
 clear h
 refine c_cut (fun e a w => e = .normal ∧ ∃ (ρ : Nat → Value) (σ : St), a = fr 44 (updL ρ [(1, (Sl Bz By Ca)), (2, (pt b1 0)), (19, (B o3))]) ∧ w = σ.w ∧ Hp S0 σ0 σ [Ch.ro 0 (Sl Bz By Ca) By, Ch.ro 0 (Sl As Ar.1 Au) Ar.1, Ch.ro 0 (Sl Av Ar.2 Aw) Ar.2, Ch.bx n0 b1 0 [(Sl As Ar.1 Au), (Sl Av Ar.2 Aw)] [] []]) ?_ ?_
 ·clear h'
  rename _ = some o3 => h
  refine rg ?_
  have hc4 := H.cells 0 rfl
  refine st (v := (.agg #[(Sl As Ar.1 Au), (Sl Av Ar.2 Aw)])) (rv_load (cs := [(Sl As Ar.1 Au), (Sl Av Ar.2 Aw)]) Tryz.underlying31 rfl ti31 rfl rfl hc4) ?_
  revert h; refine br fun r5 hx6 h => ?_
  have hc7 := c_impl_ValidBook (As := As) (Au := Au) (Av := Av) (Aw := Aw) hx6
  refine st_call (cx_call hc7 (ent_f hc7.fn rfl) hn0 (H.sel' [1, 2, 0, 1, 2, 3] rfl rfl : Hp S0 σ0 _ ([_, _] ++ _))) wn ?_
  rintro _ σ8 ⟨_, ⟨rfl, rfl⟩, H, -⟩
  replace H : Hp _ _ _ [_, _, _, _] := H
  refine st (v := (B (!r5))) (rv_not rfl) (sm (B (!r5)) rfl ?_)
  rcases Bool.eq_false_or_eq_true (!r5) with hb9 | hb9
  ·replace h := bif_t hb9 h
   refine st_skip (congrArg some hb9) (st_skip (congrArg some hb9) (st_skip (congrArg some hb9) (st (v := (B true)) (rv_pick_t (congrArg B hb9) rfl) (w_end ?_))))
   obtain rfl := sj h
   exact ⟨rfl, _, σ8, fr_join ⟨rfl, rfl, rfl, trivial⟩, rfl, H.sel' [3, 1, 2, 0] rfl rfl⟩
  ·replace h := bif_f hb9 h
   refine st_g (v := (Sl Bz By Ca)) (congrArg some hb9) (rv_move rfl) ?_
   revert h; refine br fun r10 hx11 h => ?_
   have hc12 := c_impl_ValidVector (Ay := Bz) (Az := Ca) hx11
   refine st_call (cx_call hc12 (ent_f hc12.fn rfl) hn0 (H.sel' [3, 0, 1, 2, 3] rfl rfl : Hp S0 σ0 _ ([_] ++ _))) (wanted_yes rfl (by exact (congrArg some hb9))) ?_
   rintro _ σ13 ⟨_, ⟨rfl, rfl⟩, H, -⟩
   replace H : Hp _ _ _ [_, _, _, _] := H
   refine st_g (v := (B (!r10))) (congrArg some hb9) (rv_not rfl) (st (v := (B (!r10))) (rv_pick_f (congrArg B hb9) rfl) (w_end ?_))
   obtain rfl := sj h
   exact ⟨rfl, _, σ13, fr_join ⟨rfl, rfl, rfl, trivial⟩, rfl, H.sel' [3, 1, 2, 0] rfl rfl⟩
 ·clear hj
  have h := h'
  clear h' H
  rintro e a w ⟨rfl, ρ, σ14, rfl, rfl, H⟩
  refine q_then ?_
  refine cd_cond o3 rfl (fun hb15 => ?_) (fun hb15 => ?_)
  ·replace h := bif_t hb15 h
   refine c_seq (rg (sa (.slice none 0 0) rfl (w_end (q_then (c_ret (q_then_r ?_))))))
   replace H := H.nilOwn Int n0 n0
   obtain rfl := sj h
   exact fin_ret (v := (.slice none 0 0)) (results_ok Tryz.results45 (res_tmp (v := (.slice none 0 0)) rfl res_nil) rfl) ⟨none, 0, rfl, rfl⟩ (H.sel' [0] rfl rfl)
  ·replace h := bif_f hb15 h
   refine c_skip (q_then (c_seq (rg ?_)))
   have hc16 := H.cells 3 rfl
   refine st (v := (.agg #[(Sl As Ar.1 Au), (Sl Av Ar.2 Aw)])) (rv_load (cs := [(Sl As Ar.1 Au), (Sl Av Ar.2 Aw)]) Tryz.underlying31 rfl ti31 rfl rfl hc16) (sm (Sl Bz By Ca) rfl ?_)
   revert h; refine br fun r17 hx18 h => ?_
   have hc19 := c_impl_tablesOf (As := As) (Au := Au) (Av := Av) (Aw := Aw) (Bz := Bz) (Ca := Ca) hx18
   refine st_call (cx_call hc19 (ent_f hc19.fn rfl) hn0 (H.sel' [1, 2, 0, 0, 1, 2, 3] rfl rfl : Hp S0 σ0 _ ([_, _, _] ++ _))) wn ?_
   rintro _ σ22 ⟨_, ⟨rfl, rfl, hl20, hl21⟩, H, -⟩
   replace H : Hp _ _ _ [_, _, _, _] := H
   refine sm (.tuple #[(.agg (List.map I r17.1).toArray), (.agg (List.map I r17.2).toArray)]) rfl (st (v := (.agg (List.map I r17.1).toArray)) (rv_extract rfl rfl) (st (v := (.agg (List.map I r17.2).toArray)) (rv_extract rfl rfl) (st_ex (ex_alloc (cs := (List.map I (List.replicate 4 0))) H hn0 ti101 rfl) wn ?_)))
   rintro _ σ24 ⟨b23, rfl, H, -⟩
   refine st_ex (ex_alloc (cs := (List.map I (List.replicate 4 0))) H hn0 ti101 rfl) wn ?_
   rintro _ σ26 ⟨b25, rfl, H, -⟩
   refine st_exS (ex_store_box (k := 0) (cs := (List.map I (List.replicate 4 0))) (vs := (List.map I r17.1)) (cs' := (List.map I r17.1)) H (i := 1) rfl ti101 rfl rfl rfl rfl ((List.length_map _).trans hl20) (arr_fits (k := 4) hl20 rfl) (plain_ints _) (arr_all (k := 4) hl20 rfl)) wn ?_
   rintro σ27 ⟨H, -⟩
   refine st_exS (ex_store_box (k := 0) (cs := (List.map I (List.replicate 4 0))) (vs := (List.map I r17.2)) (cs' := (List.map I r17.2)) H (i := 1) rfl ti101 rfl rfl rfl rfl ((List.length_map _).trans hl21) (arr_fits (k := 4) hl21 rfl) (plain_ints _) (arr_all (k := 4) hl21 rfl)) wn ?_
   rintro σ28 ⟨H, -⟩
   refine w_end (q_then (c_seq (rg ?_)))
   revert h; refine br fun xs29 hx30 h => ?_
   refine st_ex (ex_makeC (el := n0) (z0 := (0 : Int)) (zs := [(I 0)]) H hn0 Tryz.underlying26 ti3 rfl rfl rfl (by decide) hx30 rfl rfl) wn ?_
   rintro _ σ34 ⟨b31, c32, rfl, H, -⟩
   refine sa (Sl (some ⟨b31, 0, none⟩) xs29 c32) rfl (w_end (q_then (c_seq (c_seq (rg ?_)))))
   have hc35 := H.cells 2 rfl
   refine st (v := (.agg (List.map I r17.1).toArray)) (rv_load (cs := (List.map I r17.1)) Tryz.underlying101 rfl ti101 rfl (by rw [List.length_map]; exact hl20) hc35) ?_
   refine sm (I 0) rfl (w_end (q_then ?_))
   obtain ⟨o36, hj, h'⟩ := bind_some h
   clear h
   refine c_cut (fun e a w => e = .normal ∧ ∃ (ρ : Nat → Value) (σ : St) (aj1 : Option Addr) (cj2 : Nat), a = fr 44 (updL ρ [(7, (Sl aj1 o36 cj2))]) ∧ w = σ.w ∧ Hp S0 σ0 σ [Ch.own n0 n0 (Sl aj1 o36 cj2) o36]) ?_ ?_
   ·clear h'
    rename _ = some o36 => h
    refine c_blk (wp_loopM _ h (fun s37 a w => ∃ (ρ : Nat → Value) (σ : St) (aj1 : Option Addr) (cj2 : Nat), a = fr 44 (updL ρ [(6, (pt b25 0)), (7, (Sl aj1 s37.1 cj2)), (27, (.agg (List.map I r17.1).toArray)), (28, (I s37.2))]) ∧ w = σ.w ∧ Hp S0 σ0 σ [Ch.bx n0 b25 0 (List.map I r17.2) [] [], Ch.own n0 n0 (Sl aj1 s37.1 cj2) s37.1]) ⟨_, σ34, (some ⟨b31, 0, none⟩), c32, fr_join ⟨rfl, rfl, rfl, rfl, trivial⟩, rfl, H.sel' [1, 0] rfl rfl⟩ ?_)
    clear h H
    rintro s37 a w o ⟨ρ, σ38, a39, c40, rfl, rfl, H⟩ h hres
    refine c_seq (rg (st (v := (B (decide (s37.2 < 4)))) (rv_lss (a := s37.2) (b := 4) rfl rfl) (w_end (q_then (c_seq ?_)))))
    refine cd_cond (decide (s37.2 < 4)) rfl (fun hb41 => ?_) (fun hb41 => ?_)
    ·replace h := bif_t hb41 h
     refine c_skip (q_then (c_seq (c_blk (c_seq (rg ?_)))))
     revert h; refine br fun x42 hx43 h => ?_
     refine st (v := (I x42)) (rv_idx Tryz.underlying101 ti3 Tryz.underlying3 rfl rfl hx43 hl20) (sa (I x42) rfl (w_end (q_then (c_seq (rg ?_)))))
     have hc44 := H.cells 0 rfl
     refine st (v := (.agg (List.map I r17.2).toArray)) (rv_load (cs := (List.map I r17.2)) Tryz.underlying101 rfl ti101 rfl (by rw [List.length_map]; exact hl21) hc44) ?_
     refine sm (I 0) rfl (w_end (q_then ?_))
     obtain ⟨o45, hj, h'⟩ := bind_some h
     clear h
     refine c_cut (fun e a w => e = .normal ∧ ∃ (ρ : Nat → Value) (σ : St) (aj1 : Option Addr) (cj2 : Nat), a = fr 44 (updL ρ [(6, (pt b25 0)), (7, (Sl aj1 o45 cj2)), (27, (.agg (List.map I r17.1).toArray)), (28, (I s37.2))]) ∧ w = σ.w ∧ Hp S0 σ0 σ [Ch.bx n0 b25 0 (List.map I r17.2) [] [], Ch.own n0 n0 (Sl aj1 o45 cj2) o45]) ?_ ?_
     ·clear h'
      rename _ = some o45 => h
      refine c_blk (wp_loopM _ h (fun s46 a w => ∃ (ρ : Nat → Value) (σ : St) (aj1 : Option Addr) (cj2 : Nat), a = fr 44 (updL ρ [(6, (pt b25 0)), (7, (Sl aj1 s46.1 cj2)), (9, (I x42)), (27, (.agg (List.map I r17.1).toArray)), (28, (I s37.2)), (31, (.agg (List.map I r17.2).toArray)), (32, (I s46.2))]) ∧ w = σ.w ∧ Hp S0 σ0 σ [Ch.bx n0 b25 0 (List.map I r17.2) [] [], Ch.own n0 n0 (Sl aj1 s46.1 cj2) s46.1]) ⟨_, σ38, a39, c40, fr_join ⟨rfl, rfl, rfl, rfl, rfl, rfl, rfl, trivial⟩, rfl, H.sel' [0, 1] rfl rfl⟩ ?_)
      clear h H
      rintro s46 a w o ⟨ρ, σ47, a48, c49, rfl, rfl, H⟩ h hres
      refine c_seq (rg (st (v := (B (decide (s46.2 < 4)))) (rv_lss (a := s46.2) (b := 4) rfl rfl) (w_end (q_then (c_seq ?_)))))
      refine cd_cond (decide (s46.2 < 4)) rfl (fun hb50 => ?_) (fun hb50 => ?_)
      ·replace h := bif_t hb50 h
       refine c_skip (q_then (c_seq (c_blk (c_seq (rg ?_)))))
       revert h; refine br fun x51 hx52 h => ?_
       refine st (v := (I x51)) (rv_idx Tryz.underlying101 ti3 Tryz.underlying3 rfl rfl hx52 hl21) (sa (I x51) rfl (w_end (q_then (rg (sm (Sl a48 s46.1 c49) rfl (sm (I x42) rfl (sm (I x51) rfl (st (v := (I (w64 (x42 + x51)))) (rv_add (a := x42) (b := x51) rfl rfl) ?_))))))))
       refine st_ex (ex_buildSlice (el := n0) (xs := ([w64 (x42 + x51)] : List Int)) (ps := [(0, (I (w64 (x42 + x51))))]) (cs := [(I (w64 (x42 + x51)))]) H hn0 Tryz.underlying26 ti3 rfl rfl (by kernel_rfl) (.cons (c := [(I (w64 (x42 + x51)))]) rfl (.nil)) rfl) wn ?_
       rintro _ σ54 ⟨b53, rfl, H, -⟩
       revert h; refine br fun xs55 hx56 h => ?_
       refine st_ex (ex_append H (i := 2) rfl Tryz.underlying26 Tryz.underlying26 ti3 rfl rfl (by decide) (H.own 0 rfl).rd hx56 hn0 rfl rfl) wn ?_
       rintro _ σ59 ⟨a57, c58, rfl, H, -⟩
       refine sa (Sl a57 xs55 c58) rfl (w_end (q_blk (q_then (rg (st (v := (I (w64 (s46.2 + 1)))) (rv_add (a := s46.2) (b := 1) rfl rfl) (sm (I (w64 (s46.2 + 1))) rfl (w_end (q_then ?_))))))))
       obtain rfl := sj h
       exact ⟨_, rfl, _, σ59, a57, c58, fr_join ⟨rfl, rfl, rfl, rfl, rfl, rfl, rfl, trivial⟩, rfl, H.sel' [2, 0] rfl rfl⟩
      ·replace h := bif_f hb50 h
       refine c_exit (q_then_x (q_then_x (q_blk_hit ?_)))
       obtain rfl := sj h
       obtain rfl := hres _ rfl
       exact ⟨rfl, _, σ47, a48, c49, fr_join ⟨rfl, rfl, rfl, rfl, trivial⟩, rfl, H.sel' [0, 1] rfl rfl⟩
     ·clear hj
      have h := h'
      clear h' H
      rintro e a w ⟨rfl, ρ, σ60, a61, c62, rfl, rfl, H⟩
      refine q_blk (q_then (rg (st (v := (I (w64 (s37.2 + 1)))) (rv_add (a := s37.2) (b := 1) rfl rfl) (sm (I (w64 (s37.2 + 1))) rfl (w_end (q_then ?_))))))
      obtain rfl := sj h
      exact ⟨_, rfl, _, σ60, a61, c62, fr_join ⟨rfl, rfl, rfl, rfl, trivial⟩, rfl, H.sel' [0, 1] rfl rfl⟩
    ·replace h := bif_f hb41 h
     refine c_exit (q_then_x (q_then_x (q_blk_hit ?_)))
     obtain rfl := sj h
     obtain rfl := hres _ rfl
     exact ⟨rfl, _, σ38, a39, c40, fr_join ⟨rfl, trivial⟩, rfl, H.sel' [1] rfl rfl⟩
   ·clear hj
    have h := h'
    clear h' H
    rintro e a w ⟨rfl, ρ, σ63, a64, c65, rfl, rfl, H⟩
    refine q_then (c_seq (rg (sm (Sl a64 o36 c65) rfl (sa (Sl a64 o36 c65) rfl (w_end (q_then (c_ret ?_)))))))
    obtain rfl := sj h
    exact fin_ret (v := (Sl a64 o36 c65)) (results_ok Tryz.results45 (res_tmp (v := (Sl a64 o36 c65)) rfl res_nil) rfl) ⟨a64, c65, rfl, rfl⟩ (H.sel' [0] rfl rfl)

theorem c_impl_hitHeap_Push__impl_Hit {Cq : List (Int × Int)} {Cr : Int × Int} {Cs : Option Addr} {Ct : Nat} {Cu Cv Cw : Nat} {Cy Cz : List Value} {r : (List (Int × Int))} (h : M.impl_hitHeap_Push__impl_Hit Cq Cr = some r) :
    Cal2 Tryz.prog 189 [(pt Cv Cw), (.iface 67 (.agg #[(I Cr.1), (I Cr.2)]))] [Ch.bx Cu Cv Cw [(Sl Cs Cq Ct)] Cy Cz, Ch.own 0 0 (Sl Cs Cq Ct) Cq] (fun n0 v L => ∃ (az1 : Option Addr), ∃ (cz2 : Nat), v = (.tuple #[]) ∧ L = [Ch.bx Cu Cv Cw [(Sl az1 r cz2)] Cy Cz, Ch.own 0 0 (Sl az1 r cz2) r]) := by
 refine cal2 (n := 13) Tryz.func189 rfl rfl rfl rfl ?_
 intro S0 σ0 n0 hn0 H
 unfold M.impl_hitHeap_Push__impl_Hit at h
 have hc1 := H.cell (u := (Sl Cs Cq Ct)) (o' := Cw) 0 0 rfl rfl rfl
 revert h; refine br fun xs3 hx4 h => ?_
 have Hs := H
 refine rg2 (σ := σ0) (Nm := (Nat) × (Option Addr) × (Nat)) 8 [6, 7] [[false, false], [true, false], [true, true]] [[(0, 0), (1, 1), (2, 2)], [(0, 0), (1, 1)], [(0, 0), (1, 1)], [(0, 0), (1, 1)], [(0, 0)], [(0, 0)], [(0, 1)], [(1, 2)]] 2 [fun ((b2, a5, c6) : (Nat) × (Option Addr) × (Nat)) => fun σm => Hp S0 σ0 σm [Ch.bx Cu Cv Cw [(Sl Cs Cq Ct)] Cy Cz, Ch.own 0 0 (Sl Cs Cq Ct) Cq] ∧ Md (cov []) σ0 σm, fun ((b2, a5, c6) : (Nat) × (Option Addr) × (Nat)) => fun σm => Hp S0 σ0 σm [Ch.own n0 n0 (Sl (some ⟨b2, 0, none⟩) ([(Cr.1, Cr.2)] : List (Int × Int)) 1) ([(Cr.1, Cr.2)] : List (Int × Int)), Ch.bx Cu Cv Cw [(Sl Cs Cq Ct)] Cy Cz, Ch.own 0 0 (Sl Cs Cq Ct) Cq] ∧ Md (cov []) σ0 σm, fun ((b2, a5, c6) : (Nat) × (Option Addr) × (Nat)) => fun σm => Hp S0 σ0 σm [Ch.own 0 0 (Sl a5 xs3 c6) xs3, Ch.own n0 n0 (Sl (some ⟨b2, 0, none⟩) ([(Cr.1, Cr.2)] : List (Int × Int)) 1) ([(Cr.1, Cr.2)] : List (Int × Int)), Ch.bx Cu Cv Cw [(Sl Cs Cq Ct)] Cy Cz] ∧ Md (fun i => (cov []) i ∨ (fun b => blk (Sl Cs Cq Ct) = some b) i) σ0 σm] [fun ((b2, a5, c6) : (Nat) × (Option Addr) × (Nat)) => (pt Cv Cw), fun ((b2, a5, c6) : (Nat) × (Option Addr) × (Nat)) => (pt Cv Cw), fun ((b2, a5, c6) : (Nat) × (Option Addr) × (Nat)) => (pt Cv Cw), fun ((b2, a5, c6) : (Nat) × (Option Addr) × (Nat)) => (Sl Cs Cq Ct), fun ((b2, a5, c6) : (Nat) × (Option Addr) × (Nat)) => (.iface 67 (.agg #[(I Cr.1), (I Cr.2)])), fun ((b2, a5, c6) : (Nat) × (Option Addr) × (Nat)) => (.agg #[(I Cr.1), (I Cr.2)]), fun ((b2, a5, c6) : (Nat) × (Option Addr) × (Nat)) => (Sl (some ⟨b2, 0, none⟩) ([(Cr.1, Cr.2)] : List (Int × Int)) 1), fun ((b2, a5, c6) : (Nat) × (Option Addr) × (Nat)) => (Sl a5 xs3 c6)] (0, none, 0) (by kernel_rfl) (by kernel_rfl) ?_ ?_ ?_
 ·intro σm m0
  exact ⟨H.grow (m0.mono fun _ h => h.elim), m0⟩
 ·refine ac rfl (by
    intro k; rintro ⟨b2, a5, c6⟩ ρ σm hJ hoff hdep
    have e0 := look_off (N := 13) (hoff 0 rfl) rfl
    exact dp_v (v := (pt Cv Cw)) wn (rv_move e0) rfl hJ) ?_
  refine ac rfl (by
    intro k; rintro ⟨b2, a5, c6⟩ ρ σm hJ hoff hdep
    have e0 := look_off (N := 13) (hoff 0 rfl) rfl
    exact dp_v (v := (pt Cv Cw)) wn (rv_move e0) rfl hJ) ?_
  refine ac rfl (by
    intro k; rintro ⟨b2, a5, c6⟩ ρ σm hJ hoff hdep
    have e5 := hdep 1 rfl rfl 5 rfl
    exact dp_v (v := (pt Cv Cw)) wn (rv_nilCheck e5) rfl hJ) ?_
  refine all_cons (by
    refine ⟨?_, ?_⟩
    ·rintro ⟨b2, a5, c6⟩ ρ σm hJ hoff hdep
     have e6 := hdep 2 rfl rfl 6 rfl
     obtain ⟨H, m⟩ := id hJ
     have hc1 := H.cell (u := (Sl Cs Cq Ct)) (o' := Cw) 0 0 rfl rfl rfl
     exact dp_v (v := (Sl Cs Cq Ct)) wn (rv_load1 Tryz.underlying104 rfl e6 hc1) rfl hJ
    refine ⟨?_, ?_⟩
    ·rintro ⟨b2, a5, c6⟩ ρ σm hJ hoff hdep
     have e6 := hdep 2 rfl rfl 6 rfl
     obtain ⟨H, m⟩ := id hJ
     have hc1 := H.cell (u := (Sl Cs Cq Ct)) (o' := Cw) 1 0 rfl rfl rfl
     exact dp_v (v := (Sl Cs Cq Ct)) wn (rv_load1 Tryz.underlying104 rfl e6 hc1) rfl hJ
    trivial) ?_
  refine ac rfl (by
    intro k; rintro ⟨b2, a5, c6⟩ ρ σm hJ hoff hdep
    have e1 := look_off (N := 13) (hoff 1 rfl) rfl
    exact dp_v (v := (.iface 67 (.agg #[(I Cr.1), (I Cr.2)]))) wn (rv_move e1) rfl hJ) ?_
  refine ac rfl (by
    intro k; rintro ⟨b2, a5, c6⟩ ρ σm hJ hoff hdep
    have e8 := hdep 4 rfl rfl 8 rfl
    exact dp_v (v := (.agg #[(I Cr.1), (I Cr.2)])) wn (rv_typeAssert Tryz.underlying67 rfl e8) rfl hJ) ?_
  refine all_cons (by
    refine ⟨?_, ?_⟩
    ·rintro ⟨b2, a5, c6⟩ ρ σm hJ hoff hdep
     have e9 : look 13 ρ 9 = (.agg #[(I Cr.1), (I Cr.2)]) := hdep 5 rfl rfl 9 rfl
     obtain ⟨H, m⟩ := id hJ
     refine dp_ex wn (ex_buildSlice (el := n0) (xs := ([(Cr.1, Cr.2)] : List (Int × Int))) (ps := [(0, (.agg #[(I Cr.1), (I Cr.2)]))]) (cs := [(I Cr.1), (I Cr.2)]) H hn0 Tryz.underlying104 ti67 rfl (by show [(0, look 13 ρ 9)] = _; rw [e9]) (by kernel_rfl) (.cons (c := [(I Cr.1), (I Cr.2)]) ⟨[(I Cr.1)], [(I Cr.2)], rfl, rfl, rfl⟩ (.nil)) rfl) ?_
     rintro _ σq ⟨b2x, rfl, H2, m2⟩
     exact ⟨_, (b2x, a5, c6), rfl, rfl, ⟨H2.sel' [0, 1, 2] rfl rfl, m.comp0 m2⟩, stab [0, 1, 2, 3, 4, 5] (by kernel_rfl) ⟨rfl, rfl, rfl, rfl, rfl, rfl, trivial⟩⟩
    trivial) ?_
  refine all_cons (by
    refine ⟨?_, ?_⟩
    ·rintro ⟨b2, a5, c6⟩ ρ σm hJ hoff hdep
     have e7 := hdep 3 rfl rfl 7 rfl
     have e10 := hdep 6 rfl rfl 10 rfl
     obtain ⟨H, m⟩ := id hJ
     refine dp_ex wn (ex_append H (i := 2) rfl Tryz.underlying104 Tryz.underlying104 ti67 rfl rfl (by decide) ((H.own 0 rfl).rd.sc) hx4 (Nat.zero_le _) e7 e10) ?_
     rintro _ σq ⟨a5x, c6x, rfl, H2, m2⟩
     exact ⟨_, (b2, a5x, c6x), rfl, rfl, ⟨H2.sel' [0, 1, 2] rfl rfl, m.comp m2⟩, stab [0, 1, 2, 3, 4, 5, 6] (by kernel_rfl) ⟨rfl, rfl, rfl, rfl, rfl, rfl, rfl, trivial⟩⟩
    trivial) ?_
  exact all_nil
 ·rintro ⟨b2, a5, c6⟩ ρ σ7 hJ hoff hrel
  have e0 := look_off (N := 13) (hoff 0 rfl) rfl
  have e4 := hrel 0 rfl 4 rfl
  have e11 := hrel 7 rfl 11 rfl
  obtain ⟨H, -⟩ := (show Hp S0 σ0 σ7 [Ch.own 0 0 (Sl a5 xs3 c6) xs3, Ch.own n0 n0 (Sl (some ⟨b2, 0, none⟩) ([(Cr.1, Cr.2)] : List (Int × Int)) 1) ([(Cr.1, Cr.2)] : List (Int × Int)), Ch.bx Cu Cv Cw [(Sl Cs Cq Ct)] Cy Cz] ∧ Md (fun i => (cov []) i ∨ (fun b => blk (Sl Cs Cq Ct) = some b) i) σ0 σ7 from hJ)
  clear hJ Hs
  rw [fr_lookL (L := [(0, (pt Cv Cw)), (4, (pt Cv Cw)), (11, (Sl a5 xs3 c6))]) ⟨e0, e4, e11, trivial⟩]
  clear hoff hrel e0 e4 e11
  refine st (v := (pt Cv Cw)) (rv_nilCheck rfl) ?_
  refine st_exS (ex_store_box (k := 0) (cs := [(Sl Cs Cq Ct)]) (vs := [(Sl a5 xs3 c6)]) (cs' := [(Sl a5 xs3 c6)]) H (i := 2) rfl ti104 rfl rfl rfl rfl rfl (Nat.le_of_ble_eq_true rfl) (by simp [plain]) rfl) wn ?_
  rintro σ8 ⟨H, -⟩
  refine w_end ?_
  obtain rfl := sj h
  exact fin_end (v := (.tuple #[])) (results_ok Tryz.results189 res_nil rfl) ⟨a5, c6, rfl, rfl⟩ (H.sel' [0, 1] rfl rfl)

theorem c_impl_hitHeap_Len {Cq : List (Int × Int)} {Cs : Option Addr} {Ct : Nat} {r : Int} (h : M.impl_hitHeap_Len Cq = some r) :
    Cal2 Tryz.prog 184 [(Sl Cs Cq Ct)] [Ch.ro 0 (Sl Cs Cq Ct) Cq] (fun n0 v L => v = (I r) ∧ L = []) := by
 refine cal2 (n := 5) Tryz.func184 rfl rfl rfl rfl ?_
 intro S0 σ0 n0 hn0 H
 unfold M.impl_hitHeap_Len at h
 refine c_seq (rg (sa (I 0) rfl (w_end (q_then (c_seq (rg (sm (Sl Cs Cq Ct) rfl (st (v := (I (Cq.length : Int))) (rv_len Tryz.underlying104 rfl) (sa (I (Cq.length : Int)) rfl (w_end (q_then ?_)))))))))))
 refine c_ret ?_
 obtain rfl := sj h
 exact fin_ret (v := (I (Cq.length : Int))) (results_ok Tryz.results184 (res_tmp (v := (I (Cq.length : Int))) rfl res_nil) rfl) ⟨rfl, rfl⟩ (H.sel' [] rfl rfl)

theorem c_cmp_isNaN_int {Ba : Int}  {r : Bool} (h : M.cmp_isNaN_int Ba = some r) :
    Cal2 Tryz.prog 122 [(I Ba)] [] (fun n0 v L => v = (B r) ∧ L = []) := by
 refine cal2 (n := 6) Tryz.func122 rfl rfl rfl rfl ?_
 intro S0 σ0 n0 hn0 H
 unfold M.cmp_isNaN_int at h
 refine c_seq (rg (sa (B false) rfl (w_end (q_then (c_seq (rg (sm (I Ba) rfl (sm (I Ba) rfl (st (v := (B (Ba != Ba))) (rv_neq (a := Ba) (b := Ba) rfl rfl) (sa (B (Ba != Ba)) rfl (w_end ?_)))))))))))
 refine q_then (c_ret ?_)
 obtain rfl := sj h
 exact fin_ret (v := (B (Ba != Ba))) (results_ok Tryz.results122 (res_tmp (v := (B (Ba != Ba))) rfl res_nil) rfl) ⟨rfl, rfl⟩ (H.sel' [] rfl rfl)

theorem c_cmp_Compare_int {Ba : Int} {Da : Int}  {r : Int} (h : M.cmp_Compare_int Ba Da = some r) :
    Cal2 Tryz.prog 100 [(I Ba), (I Da)] [] (fun n0 v L => v = (I r) ∧ L = []) := by
 refine cal2 (n := 20) Tryz.func100 rfl rfl rfl rfl ?_
 intro S0 σ0 n0 hn0 H
 unfold M.cmp_Compare_int at h
 refine c_seq (rg (sa (I 0) rfl (w_end (q_then (c_seq (rg (sm (I Ba) rfl ?_)))))))
 revert h; refine br fun r1 hx2 h => ?_
 have hc3 := c_cmp_isNaN_int hx2
 refine st_call (cx_call hc3 (ent_f hc3.fn rfl) hn0 (H.sel' [] rfl rfl : Hp S0 σ0 _ ([] ++ _))) wn ?_
 rintro _ σ4 ⟨_, ⟨rfl, rfl⟩, H, -⟩
 replace H : Hp _ _ _ [] := H
 refine sa (B r1) rfl (w_end (q_then (c_seq (rg (sm (I Da) rfl ?_)))))
 revert h; refine br fun r5 hx6 h => ?_
 have hc7 := c_cmp_isNaN_int hx6
 refine st_call (cx_call hc7 (ent_f hc7.fn rfl) hn0 (H.sel' [] rfl rfl : Hp S0 σ0 _ ([] ++ _))) wn ?_
 rintro _ σ8 ⟨_, ⟨rfl, rfl⟩, H, -⟩
 replace H : Hp _ _ _ [] := H
 refine sa (B r5) rfl (w_end (q_then (c_seq (c_seq (rg (sm (B r1) rfl (w_end (q_then ?_))))))))
 refine cd_cond r1 rfl (fun hb9 => ?_) (fun hb9 => ?_)
 ·replace h := bif_t hb9 h
  refine c_seq (c_seq (rg (sm (B r5) rfl (w_end (q_then ?_)))))
  refine cd_cond r5 rfl (fun hb10 => ?_) (fun hb10 => ?_)
  ·replace h := bif_t hb10 h
   refine c_seq (rg (sa (I 0) rfl (w_end (q_then (c_ret (q_then_r (q_then_r ?_)))))))
   obtain rfl := sj h
   exact fin_ret (v := (I 0)) (results_ok Tryz.results100 (res_tmp (v := (I 0)) rfl res_nil) rfl) ⟨rfl, rfl⟩ (H.sel' [] rfl rfl)
  ·replace h := bif_f hb10 h
   refine c_skip (q_then (c_seq (rg (sa (I (-1)) rfl (w_end (q_then (c_ret (q_then_r ?_))))))))
   obtain rfl := sj h
   exact fin_ret (v := (I (-1))) (results_ok Tryz.results100 (res_tmp (v := (I (-1))) rfl res_nil) rfl) ⟨rfl, rfl⟩ (H.sel' [] rfl rfl)
 ·replace h := bif_f hb9 h
  refine c_skip (q_then (c_seq (c_seq (rg (sm (B r5) rfl (w_end (q_then ?_)))))))
  refine cd_cond r5 rfl (fun hb11 => ?_) (fun hb11 => ?_)
  ·replace h := bif_t hb11 h
   refine c_seq (rg (sa (I 1) rfl (w_end (q_then (c_ret (q_then_r ?_))))))
   obtain rfl := sj h
   exact fin_ret (v := (I 1)) (results_ok Tryz.results100 (res_tmp (v := (I 1)) rfl res_nil) rfl) ⟨rfl, rfl⟩ (H.sel' [] rfl rfl)
  ·replace h := bif_f hb11 h
   refine c_skip (q_then (c_seq (c_seq (rg (sm (I Ba) rfl (sm (I Da) rfl (st (v := (B (decide (Ba < Da)))) (rv_lss (a := Ba) (b := Da) rfl rfl) (w_end (q_then ?_)))))))))
   refine cd_cond (decide (Ba < Da)) rfl (fun hb12 => ?_) (fun hb12 => ?_)
   ·replace h := bif_t hb12 h
    refine c_seq (rg (sa (I (-1)) rfl (w_end (q_then (c_ret (q_then_r ?_))))))
    obtain rfl := sj h
    exact fin_ret (v := (I (-1))) (results_ok Tryz.results100 (res_tmp (v := (I (-1))) rfl res_nil) rfl) ⟨rfl, rfl⟩ (H.sel' [] rfl rfl)
   ·replace h := bif_f hb12 h
    refine c_skip (q_then (c_seq (c_seq (rg (sm (I Ba) rfl (sm (I Da) rfl (st (v := (B (decide (Da < Ba)))) (rv_gtr (a := Ba) (b := Da) rfl rfl) (w_end (q_then ?_)))))))))
    refine cd_cond (decide (Da < Ba)) rfl (fun hb13 => ?_) (fun hb13 => ?_)
    ·replace h := bif_t hb13 h
     refine c_seq (rg (sa (I 1) rfl (w_end (q_then (c_ret (q_then_r ?_))))))
     obtain rfl := sj h
     exact fin_ret (v := (I 1)) (results_ok Tryz.results100 (res_tmp (v := (I 1)) rfl res_nil) rfl) ⟨rfl, rfl⟩ (H.sel' [] rfl rfl)
    ·replace h := bif_f hb13 h
     refine c_skip (q_then (c_seq (rg (sa (I 0) rfl (w_end (q_then (c_ret ?_)))))))
     obtain rfl := sj h
     exact fin_ret (v := (I 0)) (results_ok Tryz.results100 (res_tmp (v := (I 0)) rfl res_nil) rfl) ⟨rfl, rfl⟩ (H.sel' [] rfl rfl)

theorem c_cmp_Or_int {Db : List Int} {Dc : Option Addr} {Dd : Nat} {r : Int} (h : M.cmp_Or_int Db = some r) :
    Cal2 Tryz.prog 103 [(Sl Dc Db Dd)] [Ch.ro 0 (Sl Dc Db Dd) Db] (fun n0 v L => v = (I r) ∧ L = []) := by
 refine cal2 (n := 18) Tryz.func103 rfl rfl rfl rfl ?_
 intro S0 σ0 n0 hn0 H
 unfold M.cmp_Or_int at h
 refine c_seq (rg (sa (I 0) rfl (w_end (q_then (c_seq (rg (sa (I 0) rfl (w_end (q_then (c_seq (c_seq ?_)))))))))))
 refine rg (sm (Sl Dc Db Dd) rfl (st (v := (I (Db.length : Int))) (rv_len Tryz.underlying26 rfl) (sm (I 0) rfl (w_end (q_then ?_)))))
 obtain ⟨o1, hj, h'⟩ := bind_some h
 clear h
 refine c_cut (fun e a w => (∃ t, o1 = (.inl t) ∧ e = .normal ∧ ∃ (ρ : Nat → Value) (σ : St), a = fr 18 (updL ρ [(3, (I 0))]) ∧ w = σ.w ∧ Hp S0 σ0 σ []) ∨ (∃ t, o1 = (.inr t) ∧ e = .ret ∧ ∃ (ρ : Nat → Value) (σ : St), a = fr 18 (updL ρ [(2, (I t))]) ∧ w = σ.w ∧ Hp S0 σ0 σ [])) ?_ ?_
 ·clear h'
  rename _ = some o1 => h
  refine c_blk (wp_loopM _ h (fun s2 a w => ∃ (ρ : Nat → Value) (σ : St), a = fr 18 (updL ρ [(3, (I 0)), (6, (Sl Dc Db Dd)), (7, (I (Db.length : Int))), (8, (I s2))]) ∧ w = σ.w ∧ Hp S0 σ0 σ [Ch.ro 0 (Sl Dc Db Dd) Db]) ⟨_, σ0, fr_join ⟨rfl, rfl, rfl, rfl, trivial⟩, rfl, H.sel' [0] rfl rfl⟩ ?_)
  clear h H
  rintro s2 a w o ⟨ρ, σ3, rfl, rfl, H⟩ h hres
  refine c_seq (rg (st (v := (B (decide (s2 < (Db.length : Int))))) (rv_lss (a := s2) (b := (Db.length : Int)) rfl rfl) (w_end (q_then (c_seq ?_)))))
  refine cd_cond (decide (s2 < (Db.length : Int))) rfl (fun hb4 => ?_) (fun hb4 => ?_)
  ·replace h := bif_t hb4 h
   refine c_skip (q_then (c_seq (c_blk (c_seq (rg ?_)))))
   revert h; refine br fun x5 hx6 h => ?_
   obtain ⟨b8, o9, hi7, -⟩ := (H.ro 0 rfl).ix hx6
   refine st (v := (pt b8 o9)) (rv_ix Tryz.underlying26 ti3 rfl rfl hi7) ?_
   have hc10 := ((H.ro 0 rfl).at hx6 hi7).int
   refine st (v := (I x5)) (rv_load1 Tryz.underlying3 rfl rfl hc10) (sa (I x5) rfl (w_end (q_then (c_seq (rg (sm (I x5) rfl (sm (I 0) rfl (st (v := (B (x5 != 0))) (rv_neq (a := x5) (b := 0) rfl rfl) (w_end (q_then ?_))))))))))
   refine cd_cond (x5 != 0) rfl (fun hb11 => ?_) (fun hb11 => ?_)
   ·replace h := bif_t hb11 h
    refine c_seq (rg (sm (I x5) rfl (sa (I x5) rfl (w_end (q_then (c_ret (q_blk_r (q_then_r (q_then_r (q_blk_r ?_))))))))))
    obtain rfl := sj h
    obtain rfl := hres _ rfl
    exact .inr (⟨_, rfl, rfl, _, σ3, fr_join ⟨rfl, trivial⟩, rfl, H.sel' [] rfl rfl⟩)
   ·replace h := bif_f hb11 h
    refine c_skip (q_blk (q_then (rg (st (v := (I (w64 (s2 + 1)))) (rv_add (a := s2) (b := 1) rfl rfl) (sm (I (w64 (s2 + 1))) rfl (w_end (q_then ?_)))))))
    obtain rfl := sj h
    exact ⟨_, rfl, _, σ3, fr_join ⟨rfl, rfl, rfl, rfl, trivial⟩, rfl, H.sel' [0] rfl rfl⟩
  ·replace h := bif_f hb4 h
   refine c_exit (q_then_x (q_then_x (q_blk_hit ?_)))
   obtain rfl := sj h
   obtain rfl := hres _ rfl
   exact .inl ⟨_, rfl, rfl, _, σ3, fr_join ⟨rfl, trivial⟩, rfl, H.sel' [] rfl rfl⟩
 ·clear hj
  have h := h'
  clear h' H
  rintro e a w (⟨t12, rfl, rfl, ρ, σ13, rfl, rfl, H⟩ | ⟨t14, rfl, rfl, ρ, σ15, rfl, rfl, H⟩)
  ·replace h := selim_l h
   refine q_then (c_seq (rg (sm (I 0) rfl (sa (I 0) rfl (w_end (q_then (c_ret ?_)))))))
   obtain rfl := sj h
   exact fin_ret (v := (I 0)) (results_ok Tryz.results103 (res_tmp (v := (I 0)) rfl res_nil) rfl) ⟨rfl, rfl⟩ (H.sel' [] rfl rfl)
  ·replace h := selim_r h
   refine q_then_r ?_
   obtain rfl := sj h
   exact fin_ret (v := (I t14)) (results_ok Tryz.results103 (res_tmp (v := (I t14)) rfl res_nil) rfl) ⟨rfl, rfl⟩ (H.sel' [] rfl rfl)

theorem c_impl_compareHits {Aa : Int × Int} {Bi : Int × Int}  {r : Int} (h : M.impl_compareHits Aa Bi = some r) :
    Cal2 Tryz.prog 73 [(.agg #[(I Aa.1), (I Aa.2)]), (.agg #[(I Bi.1), (I Bi.2)])] [] (fun n0 v L => v = (I r) ∧ L = []) := by
 refine cal2 (n := 17) Tryz.func73 rfl rfl rfl rfl ?_
 intro S0 σ0 n0 hn0 H
 unfold M.impl_compareHits at h
 refine c_seq (rg (st_ex (ex_box (cs := [(I Aa.1), (I Aa.2)]) H hn0 rfl rfl) wn ?_))
 rintro _ σ2 ⟨b1, rfl, H, -⟩
 refine st_ex (ex_box (cs := [(I Bi.1), (I Bi.2)]) H hn0 rfl rfl) wn ?_
 rintro _ σ4 ⟨b3, rfl, H, -⟩
 refine sa (I 0) rfl (w_end (q_then (c_seq ?_)))
 have hc5 := H.cell (u := (I Aa.2)) (o' := 1) 1 1 rfl rfl rfl
 have hc6 := H.cell (u := (I Bi.2)) (o' := 1) 0 1 rfl rfl rfl
 revert h; refine br fun r7 hx8 h => ?_
 have hc9 := c_cmp_Compare_int hx8
 have hc10 := H.cell (u := (I Aa.1)) (o' := 0) 1 0 rfl rfl rfl
 have hc11 := H.cell (u := (I Bi.1)) (o' := 0) 0 0 rfl rfl rfl
 have Hs := H
 refine rg2 (σ := σ4) (Nm := Unit) 9 [4] [[false], [true]] [[(0, 0)], [(0, 0)], [(0, 0)], [(0, 0)], [(0, 1)], [(0, 0), (1, 1)], [(0, 0), (1, 1)], [(0, 0), (1, 1)], [(0, 0), (1, 1)]] 1 [fun _ => fun σm => Hp S0 σ0 σm [Ch.bx n0 b3 0 [(I Bi.1), (I Bi.2)] [] [], Ch.bx n0 b1 0 [(I Aa.1), (I Aa.2)] [] []] ∧ Md (cov []) σ4 σm, fun _ => fun σm => Hp S0 σ0 σm [Ch.bx n0 b3 0 [(I Bi.1), (I Bi.2)] [] [], Ch.bx n0 b1 0 [(I Aa.1), (I Aa.2)] [] []] ∧ Md (cov []) σ4 σm] [fun _ => (pt b1 1), fun _ => (I Aa.2), fun _ => (pt b3 1), fun _ => (I Bi.2), fun _ => (I r7), fun _ => (pt b1 0), fun _ => (I Aa.1), fun _ => (pt b3 0), fun _ => (I Bi.1)] () (by kernel_rfl) (by kernel_rfl) ?_ ?_ ?_
 ·intro σm m0
  exact ⟨H.grow (m0.mono fun _ h => h.elim), m0⟩
 ·refine ac rfl (by
    intro k _nm ρ σm hJ hoff hdep
    have e2 := look_off (N := 17) (hoff 2 rfl) rfl
    exact dp_v (v := (pt b1 1)) wn (rv_fieldAddr (off := 1) (ft := 3) Tryz.underlying67 rfl ti3 rfl e2) rfl hJ) ?_
  refine all_cons (by
    refine ⟨?_, ?_⟩
    ·intro _nm ρ σm hJ hoff hdep
     have e5 := hdep 0 rfl rfl 5 rfl
     obtain ⟨H, m⟩ := id hJ
     have hc5 := H.cell (u := (I Aa.2)) (o' := 1) 1 1 rfl rfl rfl
     exact dp_v (v := (I Aa.2)) wn (rv_load1 Tryz.underlying3 rfl e5 hc5) rfl hJ
    trivial) ?_
  refine ac rfl (by
    intro k _nm ρ σm hJ hoff hdep
    have e3 := look_off (N := 17) (hoff 3 rfl) rfl
    exact dp_v (v := (pt b3 1)) wn (rv_fieldAddr (off := 1) (ft := 3) Tryz.underlying67 rfl ti3 rfl e3) rfl hJ) ?_
  refine all_cons (by
    refine ⟨?_, ?_⟩
    ·intro _nm ρ σm hJ hoff hdep
     have e7 := hdep 2 rfl rfl 7 rfl
     obtain ⟨H, m⟩ := id hJ
     have hc6 := H.cell (u := (I Bi.2)) (o' := 1) 0 1 rfl rfl rfl
     exact dp_v (v := (I Bi.2)) wn (rv_load1 Tryz.underlying3 rfl e7 hc6) rfl hJ
    trivial) ?_
  refine all_cons (by
    refine ⟨?_, ?_⟩
    ·intro _nm ρ σm hJ hoff hdep
     have e6 : look 17 ρ 6 = (I Aa.2) := hdep 1 rfl rfl 6 rfl
     have e8 : look 17 ρ 8 = (I Bi.2) := hdep 3 rfl rfl 8 rfl
     obtain ⟨H, m⟩ := id hJ
     refine dp_cx wn (cx_call hc9 (ent_f hc9.fn (by show [look 17 ρ 6, look 17 ρ 8] = _; rw [e6, e8])) hn0 (H.sel' [0, 1] rfl rfl : Hp S0 σ0 _ ([] ++ _))) ?_
     rintro _ σq ⟨_, ⟨rfl, rfl⟩, H2, m2⟩
     exact ⟨_, (), rfl, rfl, ⟨H2.sel' [0, 1] rfl rfl, m.comp0 m2⟩, stab [0, 1, 2, 3, 5, 6, 7, 8] (by kernel_rfl) ⟨rfl, rfl, rfl, rfl, rfl, rfl, rfl, rfl, trivial⟩⟩
    trivial) ?_
  refine ac rfl (by
    intro k _nm ρ σm hJ hoff hdep
    have e2 := look_off (N := 17) (hoff 2 rfl) rfl
    exact dp_v (v := (pt b1 0)) wn (rv_fieldAddr (off := 0) (ft := 3) Tryz.underlying67 rfl ti3 rfl e2) rfl hJ) ?_
  refine all_cons (by
    refine ⟨?_, ?_⟩
    ·intro _nm ρ σm hJ hoff hdep
     have e10 := hdep 5 rfl rfl 10 rfl
     obtain ⟨H, m⟩ := id hJ
     have hc10 := H.cell (u := (I Aa.1)) (o' := 0) 1 0 rfl rfl rfl
     exact dp_v (v := (I Aa.1)) wn (rv_load1 Tryz.underlying3 rfl e10 hc10) rfl hJ
    refine ⟨?_, ?_⟩
    ·intro _nm ρ σm hJ hoff hdep
     have e10 := hdep 5 rfl rfl 10 rfl
     obtain ⟨H, m⟩ := id hJ
     have hc10 := H.cell (u := (I Aa.1)) (o' := 0) 1 0 rfl rfl rfl
     exact dp_v (v := (I Aa.1)) wn (rv_load1 Tryz.underlying3 rfl e10 hc10) rfl hJ
    trivial) ?_
  refine ac rfl (by
    intro k _nm ρ σm hJ hoff hdep
    have e3 := look_off (N := 17) (hoff 3 rfl) rfl
    exact dp_v (v := (pt b3 0)) wn (rv_fieldAddr (off := 0) (ft := 3) Tryz.underlying67 rfl ti3 rfl e3) rfl hJ) ?_
  refine all_cons (by
    refine ⟨?_, ?_⟩
    ·intro _nm ρ σm hJ hoff hdep
     have e12 := hdep 7 rfl rfl 12 rfl
     obtain ⟨H, m⟩ := id hJ
     have hc11 := H.cell (u := (I Bi.1)) (o' := 0) 0 0 rfl rfl rfl
     exact dp_v (v := (I Bi.1)) wn (rv_load1 Tryz.underlying3 rfl e12 hc11) rfl hJ
    refine ⟨?_, ?_⟩
    ·intro _nm ρ σm hJ hoff hdep
     have e12 := hdep 7 rfl rfl 12 rfl
     obtain ⟨H, m⟩ := id hJ
     have hc11 := H.cell (u := (I Bi.1)) (o' := 0) 0 0 rfl rfl rfl
     exact dp_v (v := (I Bi.1)) wn (rv_load1 Tryz.underlying3 rfl e12 hc11) rfl hJ
    trivial) ?_
  exact all_nil
 ·intro _nm ρ σ12 hJ hoff hrel
  have e9 := hrel 4 rfl 9 rfl
  have e11 := hrel 6 rfl 11 rfl
  have e13 := hrel 8 rfl 13 rfl
  obtain ⟨H, -⟩ := (show Hp S0 σ0 σ12 [Ch.bx n0 b3 0 [(I Bi.1), (I Bi.2)] [] [], Ch.bx n0 b1 0 [(I Aa.1), (I Aa.2)] [] []] ∧ Md (cov []) σ4 σ12 from hJ)
  clear hJ Hs
  rw [fr_lookL (L := [(9, (I r7)), (11, (I Aa.1)), (13, (I Bi.1))]) ⟨e9, e11, e13, trivial⟩]
  clear hoff hrel e9 e11 e13
  revert h; refine br fun r13 hx14 h => ?_
  have hc15 := c_cmp_Compare_int hx14
  refine st_call (cx_call hc15 (ent_f hc15.fn rfl) hn0 (H.sel' [0, 1] rfl rfl : Hp S0 σ0 _ ([] ++ _))) wn ?_
  rintro _ σ16 ⟨_, ⟨rfl, rfl⟩, H, -⟩
  replace H : Hp _ _ _ [_, _] := H
  refine st_ex (ex_buildSlice (el := n0) (xs := ([r7, r13] : List Int)) (ps := [(0, (I r7)), (1, (I r13))]) (cs := [(I r7), (I r13)]) H hn0 Tryz.underlying26 ti3 rfl rfl (by kernel_rfl) (.cons (c := [(I r7)]) rfl (.cons (c := [(I r13)]) rfl (.nil))) rfl) wn ?_
  rintro _ σ18 ⟨b17, rfl, H, -⟩
  obtain ⟨σ19, hw20, H, -⟩ := H.pub 0 rfl (Nat.le_refl _)
  rw [← hw20]; clear hw20
  replace H := H.roLow 0 0 rfl (Nat.zero_le _)
  revert h; refine br fun r21 hx22 h => ?_
  have hc23 := c_cmp_Or_int (Dc := (some ⟨b17, 0, none⟩)) (Dd := 2) hx22
  refine st_call (cx_call hc23 (ent_f hc23.fn rfl) hn0 (H.sel' [0, 0, 1, 2, 3] rfl rfl : Hp S0 σ0 _ ([_] ++ _))) wn ?_
  rintro _ σ24 ⟨_, ⟨rfl, rfl⟩, H, -⟩
  replace H : Hp _ _ _ [_, _, _, _] := H
  refine sa (I r21) rfl (w_end (q_then (c_ret ?_)))
  obtain rfl := sj h
  exact fin_ret (v := (I r21)) (results_ok Tryz.results73 (res_tmp (v := (I r21)) rfl res_nil) rfl) ⟨rfl, rfl⟩ (H.sel' [] rfl rfl)

theorem c_impl_hitHeap_Less {Cq : List (Int × Int)} {De : Int} {Dg : Int} {Cs : Option Addr} {Ct : Nat} {r : Bool} (h : M.impl_hitHeap_Less Cq De Dg = some r) :
    Cal2 Tryz.prog 185 [(Sl Cs Cq Ct), (I De), (I Dg)] [Ch.ro 0 (Sl Cs Cq Ct) Cq] (fun n0 v L => v = (B r) ∧ L = []) := by
 refine cal2 (n := 17) Tryz.func185 rfl rfl rfl rfl ?_
 intro S0 σ0 n0 hn0 H
 unfold M.impl_hitHeap_Less at h
 refine c_seq (rg (sa (B false) rfl (w_end (q_then (c_seq ?_)))))
 refine rgP (σ := σ0) 8 (by kernel_rfl) (by kernel_rfl) (by kernel_rfl) ?_
 refine sq (v := (Sl Cs Cq Ct)) (rv_move rfl) (sq (v := (I De)) (rv_move rfl) ?_)
 revert h; refine br fun x1 hx2 h => ?_
 obtain ⟨b4, o5, hi3, -⟩ := (H.ro 0 rfl).ix hx2
 refine sq (v := (pt b4 o5)) (rv_ix Tryz.underlying104 ti67 rfl rfl hi3) ?_
 obtain ⟨_, ⟨_, _, rfl, rfl, rfl⟩, hl6, hc7⟩ := ((H.ro 0 rfl).at hx2 hi3).cells
 refine sq (v := (.agg #[(I x1.1), (I x1.2)])) (rv_load Tryz.underlying67 rfl ti67 rfl hl6 hc7) (sq (v := (Sl Cs Cq Ct)) (rv_move rfl) (sq (v := (I Dg)) (rv_move rfl) ?_))
 revert h; refine br fun x8 hx9 h => ?_
 obtain ⟨b11, o12, hi10, -⟩ := (H.ro 0 rfl).ix hx9
 refine sq (v := (pt b11 o12)) (rv_ix Tryz.underlying104 ti67 rfl rfl hi10) ?_
 obtain ⟨_, ⟨_, _, rfl, rfl, rfl⟩, hl13, hc14⟩ := ((H.ro 0 rfl).at hx9 hi10).cells
 refine sq (v := (.agg #[(I x8.1), (I x8.2)])) (rv_load Tryz.underlying67 rfl ti67 rfl hl13 hc14) (sq_end ?_)
 intro σ15 hm16
 replace H := H.grow (hm16.mono fun _ h => h); clear hm16
 revert h; refine br fun r17 hx18 h => ?_
 have hc19 := c_impl_compareHits hx18
 refine st_call (cx_call hc19 (ent_f hc19.fn rfl) hn0 (H.sel' [0] rfl rfl : Hp S0 σ0 _ ([] ++ _))) wn ?_
 rintro _ σ20 ⟨_, ⟨rfl, rfl⟩, H, -⟩
 replace H : Hp _ _ _ [_] := H
 refine st (v := (B (decide (0 < r17)))) (rv_gtr (a := r17) (b := 0) rfl rfl) (sa (B (decide (0 < r17))) rfl (w_end (q_then (c_ret ?_))))
 obtain rfl := sj h
 exact fin_ret (v := (B (decide (0 < r17)))) (results_ok Tryz.results185 (res_tmp (v := (B (decide (0 < r17)))) rfl res_nil) rfl) ⟨rfl, rfl⟩ (H.sel' [] rfl rfl)

theorem c_impl_hitHeap_Swap {Cq : List (Int × Int)} {De : Int} {Dg : Int} {Cs : Option Addr} {Ct : Nat} {r : (List (Int × Int))} (h : M.impl_hitHeap_Swap Cq De Dg = some r) :
    Cal2 Tryz.prog 186 [(Sl Cs Cq Ct), (I De), (I Dg)] [Ch.own 0 0 (Sl Cs Cq Ct) Cq] (fun n0 v L => v = (.tuple #[]) ∧ L = [Ch.own 0 0 (Sl Cs r Ct) r] ∧ r.length = Cq.length) := by
 refine cal2 (n := 20) Tryz.func186 rfl rfl rfl rfl ?_
 intro S0 σ0 n0 hn0 H
 unfold M.impl_hitHeap_Swap at h
 revert h; refine br fun x1 hx2 h => ?_
 obtain ⟨b4, o5, hi3, -⟩ := (H.own 0 rfl).ix hx2
 obtain ⟨_, ⟨_, _, rfl, rfl, rfl⟩, hl6, hc7⟩ := ((H.own 0 rfl).at hx2 hi3).cells
 revert h; refine br fun x8 hx9 h => ?_
 obtain ⟨b11, o12, hi10, -⟩ := (H.own 0 rfl).ix hx9
 obtain ⟨_, ⟨_, _, rfl, rfl, rfl⟩, hl13, hc14⟩ := ((H.own 0 rfl).at hx9 hi10).cells
 revert h; refine br fun x15 hx16 h => ?_
 obtain ⟨b18, o19, hi17, -⟩ := (H.own 0 rfl).ix hx16
 have Hs := H
 refine rg2 (σ := σ0) (Nm := Unit) 14 [13] [[false], [true]] [[(0, 0)], [(0, 0)], [(0, 0), (1, 1)], [(0, 0), (1, 1)], [(0, 0)], [(0, 0)], [(0, 0)], [(0, 0)], [(0, 0)], [(0, 0)], [(0, 0)], [(0, 0)], [(0, 0)], [(0, 1)]] 1 [fun _ => fun σm => Hp S0 σ0 σm [Ch.own 0 0 (Sl Cs Cq Ct) Cq] ∧ Md (cov []) σ0 σm, fun _ => fun σm => Hp S0 σ0 σm [Ch.own 0 0 (Sl Cs Cq Ct) (Cq.set De.toNat (x1.1, x1.2))] ∧ Md (fun i => (cov []) i ∨ (fun b => blk (Sl Cs Cq Ct) = some b) i) σ0 σm] [fun _ => (Sl Cs Cq Ct), fun _ => (I De), fun _ => (Sl Cs Cq Ct), fun _ => (I Dg), fun _ => (Sl Cs Cq Ct), fun _ => (I Dg), fun _ => (pt b4 o5), fun _ => (.agg #[(I x1.1), (I x1.2)]), fun _ => (Sl Cs Cq Ct), fun _ => (I De), fun _ => (pt b11 o12), fun _ => (.agg #[(I x8.1), (I x8.2)]), fun _ => (pt b18 o19), fun _ => undef] () (by kernel_rfl) (by kernel_rfl) ?_ ?_ ?_
 ·intro σm m0
  exact ⟨H.grow (m0.mono fun _ h => h.elim), m0⟩
 ·refine ac rfl (by
    intro k _nm ρ σm hJ hoff hdep
    have e0 := look_off (N := 20) (hoff 0 rfl) rfl
    exact dp_v (v := (Sl Cs Cq Ct)) wn (rv_move e0) rfl hJ) ?_
  refine ac rfl (by
    intro k _nm ρ σm hJ hoff hdep
    have e1 := look_off (N := 20) (hoff 1 rfl) rfl
    exact dp_v (v := (I De)) wn (rv_move e1) rfl hJ) ?_
  refine ac rfl (by
    intro k _nm ρ σm hJ hoff hdep
    have e0 := look_off (N := 20) (hoff 0 rfl) rfl
    exact dp_v (v := (Sl Cs Cq Ct)) wn (rv_move e0) rfl hJ) ?_
  refine ac rfl (by
    intro k _nm ρ σm hJ hoff hdep
    have e2 := look_off (N := 20) (hoff 2 rfl) rfl
    exact dp_v (v := (I Dg)) wn (rv_move e2) rfl hJ) ?_
  refine ac rfl (by
    intro k _nm ρ σm hJ hoff hdep
    have e0 := look_off (N := 20) (hoff 0 rfl) rfl
    exact dp_v (v := (Sl Cs Cq Ct)) wn (rv_move e0) rfl hJ) ?_
  refine ac rfl (by
    intro k _nm ρ σm hJ hoff hdep
    have e2 := look_off (N := 20) (hoff 2 rfl) rfl
    exact dp_v (v := (I Dg)) wn (rv_move e2) rfl hJ) ?_
  refine ac rfl (by
    intro k _nm ρ σm hJ hoff hdep
    have e10 := hdep 4 rfl rfl 10 rfl
    have e11 := hdep 5 rfl rfl 11 rfl
    exact dp_v (v := (pt b4 o5)) wn (rv_ix Tryz.underlying104 ti67 e10 e11 hi3) rfl hJ) ?_
  refine all_cons (by
    refine ⟨?_, ?_⟩
    ·intro _nm ρ σm hJ hoff hdep
     have e12 := hdep 6 rfl rfl 12 rfl
     obtain ⟨H, m⟩ := id hJ
     obtain ⟨_, ⟨_, _, rfl, rfl, rfl⟩, hl6, hc7⟩ := ((H.own 0 rfl).at hx2 hi3).cells
     exact dp_v (v := (.agg #[(I x1.1), (I x1.2)])) wn (rv_load Tryz.underlying67 rfl ti67 e12 hl6 hc7) rfl hJ
    trivial) ?_
  refine ac rfl (by
    intro k _nm ρ σm hJ hoff hdep
    have e0 := look_off (N := 20) (hoff 0 rfl) rfl
    exact dp_v (v := (Sl Cs Cq Ct)) wn (rv_move e0) rfl hJ) ?_
  refine ac rfl (by
    intro k _nm ρ σm hJ hoff hdep
    have e1 := look_off (N := 20) (hoff 1 rfl) rfl
    exact dp_v (v := (I De)) wn (rv_move e1) rfl hJ) ?_
  refine ac rfl (by
    intro k _nm ρ σm hJ hoff hdep
    have e14 := hdep 8 rfl rfl 14 rfl
    have e15 := hdep 9 rfl rfl 15 rfl
    exact dp_v (v := (pt b11 o12)) wn (rv_ix Tryz.underlying104 ti67 e14 e15 hi10) rfl hJ) ?_
  refine all_cons (by
    refine ⟨?_, ?_⟩
    ·intro _nm ρ σm hJ hoff hdep
     have e16 := hdep 10 rfl rfl 16 rfl
     obtain ⟨H, m⟩ := id hJ
     obtain ⟨_, ⟨_, _, rfl, rfl, rfl⟩, hl13, hc14⟩ := ((H.own 0 rfl).at hx9 hi10).cells
     exact dp_v (v := (.agg #[(I x8.1), (I x8.2)])) wn (rv_load Tryz.underlying67 rfl ti67 e16 hl13 hc14) rfl hJ
    trivial) ?_
  refine ac rfl (by
    intro k _nm ρ σm hJ hoff hdep
    have e6 := hdep 0 rfl rfl 6 rfl
    have e7 := hdep 1 rfl rfl 7 rfl
    exact dp_v (v := (pt b18 o19)) wn (rv_ix Tryz.underlying104 ti67 e6 e7 hi17) rfl hJ) ?_
  refine all_cons (by
    refine ⟨?_, ?_⟩
    ·intro _nm ρ σm hJ hoff hdep
     have e18 := hdep 12 rfl rfl 18 rfl
     have e13 := hdep 7 rfl rfl 13 rfl
     obtain ⟨H, m⟩ := id hJ
     refine dp_exS wn rfl (ex_store_own (e' := (x1.1, x1.2)) (vs := [(I x1.1), (I x1.2)]) (k := 0) H (i := 0) rfl ti67 hx16 hi17 e18 rfl e13 rfl rfl (Nat.le_of_ble_eq_true rfl) (by simp [plain]) (by rintro _ ⟨_, _, rfl, rfl, rfl⟩; exact ⟨[(I x1.1)], [(I x1.2)], rfl, rfl, rfl⟩)) ?_
     rintro σq ⟨H2, m2⟩
     exact ⟨_, (), rfl, ⟨H2.sel' [0] rfl rfl, m.comp m2⟩, stab [0, 1, 2, 3, 4, 5, 6, 7, 8, 9, 10, 11, 12] (by kernel_rfl) ⟨rfl, rfl, rfl, rfl, rfl, rfl, rfl, rfl, rfl, rfl, rfl, rfl, rfl, trivial⟩⟩
    trivial) ?_
  exact all_nil
 ·intro _nm ρ σ20 hJ hoff hrel
  have e0 := look_off (N := 20) (hoff 0 rfl) rfl
  have e8 := hrel 2 rfl 8 rfl
  have e9 := hrel 3 rfl 9 rfl
  have e17 := hrel 11 rfl 17 rfl
  obtain ⟨H, -⟩ := (show Hp S0 σ0 σ20 [Ch.own 0 0 (Sl Cs Cq Ct) (Cq.set De.toNat (x1.1, x1.2))] ∧ Md (fun i => (cov []) i ∨ (fun b => blk (Sl Cs Cq Ct) = some b) i) σ0 σ20 from hJ)
  clear hJ Hs
  rw [fr_lookL (L := [(0, (Sl Cs Cq Ct)), (8, (Sl Cs Cq Ct)), (9, (I Dg)), (17, (.agg #[(I x8.1), (I x8.2)]))]) ⟨e0, e8, e9, e17, trivial⟩]
  clear hoff hrel e0 e8 e9 e17
  have hsl : (Sl Cs Cq Ct) = (Sl Cs (Cq.set De.toNat (x1.1, x1.2)) Ct) := sl_len (by simp)
  rw [hsl]; rw [hsl] at H; clear hsl
  revert h; refine br fun x21 hx22 h => ?_
  obtain ⟨b24, o25, hi23, -⟩ := (H.own 0 rfl).ix hx22
  refine st (v := (pt b24 o25)) (rv_ix Tryz.underlying104 ti67 rfl rfl hi23) ?_
  refine st_exS (ex_store_own (e' := (x8.1, x8.2)) (vs := [(I x8.1), (I x8.2)]) (k := 0) H (i := 0) rfl ti67 hx22 hi23 rfl rfl rfl rfl rfl (Nat.le_of_ble_eq_true rfl) (by simp [plain]) (by rintro _ ⟨_, _, rfl, rfl, rfl⟩; exact ⟨[(I x8.1)], [(I x8.2)], rfl, rfl, rfl⟩)) wn ?_
  rintro σ26 ⟨H, -⟩
  have hsl : (Sl Cs (Cq.set De.toNat (x1.1, x1.2)) Ct) = (Sl Cs ((Cq.set De.toNat (x1.1, x1.2)).set Dg.toNat (x8.1, x8.2)) Ct) := sl_len List.length_set.symm
  rw [hsl]; rw [hsl] at H; clear hsl
  refine w_end ?_
  obtain rfl := sj h
  exact fin_end (v := (.tuple #[])) (results_ok Tryz.results186 res_nil rfl) ⟨rfl, rfl, (List.length_set.trans List.length_set)⟩ (H.sel' [0] rfl rfl)

theorem c_container_heap_up__impl_hitHeap {Cq : List (Int × Int)} {Dh : Int} {Cs : Option Addr} {Ct : Nat} {Cu Cv Cw : Nat} {Cy Cz : List Value} {r : (List (Int × Int))} (h : M.container_heap_up__impl_hitHeap Cq Dh = some r) :
    Cal2 Tryz.prog 128 [(.iface 121 (pt Cv Cw)), (I Dh)] [Ch.bx Cu Cv Cw [(Sl Cs Cq Ct)] Cy Cz, Ch.own 0 0 (Sl Cs Cq Ct) Cq] (fun n0 v L => ∃ (az1 : Option Addr), ∃ (cz2 : Nat), v = (.tuple #[]) ∧ L = [Ch.bx Cu Cv Cw [(Sl az1 r cz2)] Cy Cz, Ch.own 0 0 (Sl az1 r cz2) r]) := by
 refine cal2 (n := 23) Tryz.func128 rfl rfl rfl rfl ?_
 intro S0 σ0 n0 hn0 H
 unfold M.container_heap_up__impl_hitHeap at h
 obtain ⟨o1, hj, h'⟩ := bind_some h
 clear h
 refine c_cut (fun e a w => e = .normal ∧ ∃ (ρ : Nat → Value) (σ : St) (aj1 : Option Addr) (cj2 : Nat), a = fr 23 (updL ρ [(0, (.iface 121 (pt Cv Cw)))]) ∧ w = σ.w ∧ Hp S0 σ0 σ [Ch.bx Cu Cv Cw [(Sl aj1 o1 cj2)] Cy Cz, Ch.own 0 0 (Sl aj1 o1 cj2) o1]) ?_ ?_
 ·clear h'
  rename _ = some o1 => h
  refine c_blk (wp_loopM _ h (fun s2 a w => ∃ (ρ : Nat → Value) (σ : St) (aj1 : Option Addr) (cj2 : Nat), a = fr 23 (updL ρ [(0, (.iface 121 (pt Cv Cw))), (1, (I s2.2))]) ∧ w = σ.w ∧ Hp S0 σ0 σ [Ch.bx Cu Cv Cw [(Sl aj1 s2.1 cj2)] Cy Cz, Ch.own 0 0 (Sl aj1 s2.1 cj2) s2.1]) ⟨_, σ0, Cs, Ct, fr_join ⟨rfl, rfl, trivial⟩, rfl, H.sel' [0, 1] rfl rfl⟩ ?_)
  clear h H
  rintro s2 a w o ⟨ρ, σ3, a4, c5, rfl, rfl, H⟩ h hres
  refine c_blk (c_seq (rg (sm (I s2.2) rfl (st (v := (I (w64 (s2.2 - 1)))) (rv_sub (a := s2.2) (b := 1) rfl rfl) ?_))))
  refine st (v := (I (w64 ((w64 (s2.2 - 1)).tdiv 2)))) (rv_quo (a := (w64 (s2.2 - 1))) (b := 2) rfl rfl (by decide)) ?_
  refine sa (I (w64 ((w64 (s2.2 - 1)).tdiv 2))) rfl (w_end (q_then (c_seq (c_seq ?_))))
  obtain ⟨o6, hj, h'⟩ := bind_some h
  clear h
  refine c_cut (fun e a w => e = .normal ∧ ∃ (ρ : Nat → Value) (σ : St), a = fr 23 (updL ρ [(0, (.iface 121 (pt Cv Cw))), (1, (I s2.2)), (4, (I (w64 ((w64 (s2.2 - 1)).tdiv 2)))), (17, (B o6))]) ∧ w = σ.w ∧ Hp S0 σ0 σ [Ch.own 0 0 (Sl a4 s2.1 c5) s2.1, Ch.bx Cu Cv Cw [(Sl a4 s2.1 c5)] Cy Cz]) ?_ ?_
  ·clear h'
   rename _ = some o6 => h
   refine rg (sm (I (w64 ((w64 (s2.2 - 1)).tdiv 2))) rfl (sm (I s2.2) rfl (st (v := (B ((w64 ((w64 (s2.2 - 1)).tdiv 2)) == s2.2))) (rv_eql (a := (w64 ((w64 (s2.2 - 1)).tdiv 2))) (b := s2.2) rfl rfl) (sm (B ((w64 ((w64 (s2.2 - 1)).tdiv 2)) == s2.2)) rfl ?_))))
   rcases Bool.eq_false_or_eq_true ((w64 ((w64 (s2.2 - 1)).tdiv 2)) == s2.2) with hb7 | hb7
   ·replace h := bif_t hb7 h
    refine st_skip (congrArg some hb7) (st_skip (congrArg some hb7) (st_skip (congrArg some hb7) (st_skip (congrArg some hb7) (st_skip (congrArg some hb7) (st (v := (B true)) (rv_pick_t (congrArg B hb7) rfl) (w_end ?_))))))
    obtain rfl := sj h
    exact ⟨rfl, _, σ3, fr_join ⟨rfl, rfl, rfl, rfl, trivial⟩, rfl, H.sel' [1, 0] rfl rfl⟩
   ·replace h := bif_f hb7 h
    refine st_g (v := (.iface 121 (pt Cv Cw))) (congrArg some hb7) (rv_move rfl) (st_g (v := (I s2.2)) (congrArg some hb7) (rv_move rfl) (st_g (v := (I (w64 ((w64 (s2.2 - 1)).tdiv 2)))) (congrArg some hb7) (rv_move rfl) ?_))
    revert h; refine br fun r8 hx9 h => ?_
    have hc10 := c_impl_hitHeap_Less (Cs := a4) (Ct := c5) hx9
    have hle := Nat.le_trans hn0 H.size
    refine st_call (cx_lend (Loan.lend Loan.nil) hc10 (ent_iv hc10.fn (by kernel_rfl) Tryz.underlying121 Tryz.underlying104 rfl rfl (H.cell (u := (Sl a4 s2.1 c5)) (o' := Cw) 0 0 rfl rfl rfl) rfl) (show Hp S0 σ0 _ ([Ch.own 0 0 (Sl a4 s2.1 c5) s2.1] ++ ([] ++ [Ch.bx Cu Cv Cw [(Sl a4 s2.1 c5)] Cy Cz])) from (H.sel' [1, 0] rfl rfl)) (by rintro _ _ _ ⟨rfl, rfl⟩; exact trivial)) (wanted_yes rfl (by exact (congrArg some hb7))) ?_
    rintro _ σ11 ⟨_, ⟨rfl, rfl⟩, H, -, -⟩
    replace H : Hp _ _ _ [_, _] := H
    clear hle
    replace H : Hp _ _ _ [_, _] := H
    refine st_g (v := (B (!r8))) (congrArg some hb7) (rv_not rfl) (st (v := (B (!r8))) (rv_pick_f (congrArg B hb7) rfl) (w_end ?_))
    obtain rfl := sj h
    exact ⟨rfl, _, σ11, fr_join ⟨rfl, rfl, rfl, rfl, trivial⟩, rfl, H.sel' [0, 1] rfl rfl⟩
  ·clear hj
   have h := h'
   clear h' H
   rintro e a w ⟨rfl, ρ, σ12, rfl, rfl, H⟩
   refine q_then ?_
   refine cd_cond o6 rfl (fun hb13 => ?_) (fun hb13 => ?_)
   ·replace h := bif_t hb13 h
    refine c_exit (q_then_x ?_)
    refine q_blk_x (by decide) ?_
    refine q_then_x (q_blk_hit ?_)
    obtain rfl := sj h
    obtain rfl := hres _ rfl
    exact ⟨rfl, _, σ12, a4, c5, fr_join ⟨rfl, trivial⟩, rfl, H.sel' [1, 0] rfl rfl⟩
   ·replace h := bif_f hb13 h
    refine c_skip (q_then (c_seq (rg (sm (.iface 121 (pt Cv Cw)) rfl (sm (I (w64 ((w64 (s2.2 - 1)).tdiv 2))) rfl (sm (I s2.2) rfl ?_))))))
    revert h; refine br fun r14 hx15 h => ?_
    have hc16 := c_impl_hitHeap_Swap (Cs := a4) (Ct := c5) hx15
    refine st_call (cx_call hc16 (ent_iv hc16.fn (by kernel_rfl) Tryz.underlying121 Tryz.underlying104 rfl rfl (H.cell (u := (Sl a4 s2.1 c5)) (o' := Cw) 1 0 rfl rfl rfl) rfl) hn0 (H.sel' [0, 1] rfl rfl : Hp S0 σ0 _ ([_] ++ _))) wn ?_
    rintro _ σ18 ⟨_, ⟨rfl, rfl, hn17⟩, H, -⟩
    replace H : Hp _ _ _ [_, _] := H
    have hsl : (Sl a4 s2.1 c5) = (Sl a4 r14 c5) := sl_len hn17.symm
    try rw [hsl]
    try rw [hsl] at H
    clear hsl
    refine w_end (q_then (rg (sm (I (w64 ((w64 (s2.2 - 1)).tdiv 2))) rfl (sa (I (w64 ((w64 (s2.2 - 1)).tdiv 2))) rfl (w_end (q_blk (q_then ?_)))))))
    obtain rfl := sj h
    exact ⟨_, rfl, _, σ18, a4, c5, fr_join ⟨rfl, rfl, trivial⟩, rfl, H.sel' [1, 0] rfl rfl⟩
 ·clear hj
  have h := h'
  clear h' H
  rintro e a w ⟨rfl, ρ, σ19, a20, c21, rfl, rfl, H⟩
  obtain rfl := sj h
  exact fin_end (v := (.tuple #[])) (results_ok Tryz.results128 res_nil rfl) ⟨a20, c21, rfl, rfl⟩ (H.sel' [0, 1] rfl rfl)

theorem c_container_heap_Push__impl_hitHeap__impl_Hit {Cq : List (Int × Int)} {Cr : Int × Int} {Cs : Option Addr} {Ct : Nat} {Cu Cv Cw : Nat} {Cy Cz : List Value} {r : (List (Int × Int))} (h : M.container_heap_Push__impl_hitHeap__impl_Hit Cq Cr = some r) :
    Cal2 Tryz.prog 109 [(.iface 121 (pt Cv Cw)), (.iface 67 (.agg #[(I Cr.1), (I Cr.2)]))] [Ch.bx Cu Cv Cw [(Sl Cs Cq Ct)] Cy Cz, Ch.own 0 0 (Sl Cs Cq Ct) Cq] (fun n0 v L => ∃ (az1 : Option Addr), ∃ (cz2 : Nat), v = (.tuple #[]) ∧ L = [Ch.bx Cu Cv Cw [(Sl az1 r cz2)] Cy Cz, Ch.own 0 0 (Sl az1 r cz2) r]) := by
 refine cal2 (n := 12) Tryz.func109 rfl rfl rfl rfl ?_
 intro S0 σ0 n0 hn0 H
 unfold M.container_heap_Push__impl_hitHeap__impl_Hit at h
 refine c_seq (rg (sm (.iface 121 (pt Cv Cw)) rfl (sm (.iface 67 (.agg #[(I Cr.1), (I Cr.2)])) rfl ?_)))
 revert h; refine br fun r1 hx2 h => ?_
 have hc3 := c_impl_hitHeap_Push__impl_Hit (Cu := Cu) (Cv := Cv) (Cw := Cw) (Cy := Cy) (Cz := Cz) (Cs := Cs) (Ct := Ct) hx2
 refine st_call (cx_call hc3 (ent_ip hc3.fn (by kernel_rfl) Tryz.underlying121 rfl rfl) hn0 (H.sel' [0, 1] rfl rfl : Hp S0 σ0 _ ([_, _] ++ _))) wn ?_
 rintro _ σ6 ⟨_, ⟨a4, c5, rfl, rfl⟩, H, -⟩
 replace H : Hp _ _ _ [_, _] := H
 refine w_end (q_then (rg (sm (.iface 121 (pt Cv Cw)) rfl (sm (.iface 121 (pt Cv Cw)) rfl ?_))))
 revert h; refine br fun r7 hx8 h => ?_
 have hc9 := c_impl_hitHeap_Len (Cs := a4) (Ct := c5) hx8
 have hle := Nat.le_trans hn0 H.size
 refine st_call (cx_lend (Loan.lend Loan.nil) hc9 (ent_iv hc9.fn (by kernel_rfl) Tryz.underlying121 Tryz.underlying104 rfl rfl (H.cell (u := (Sl a4 r1 c5)) (o' := Cw) 0 0 rfl rfl rfl) rfl) (show Hp S0 σ0 _ ([Ch.own 0 0 (Sl a4 r1 c5) r1] ++ ([] ++ [Ch.bx Cu Cv Cw [(Sl a4 r1 c5)] Cy Cz])) from (H.sel' [1, 0] rfl rfl)) (by rintro _ _ _ ⟨rfl, rfl⟩; exact trivial)) wn ?_
 rintro _ σ10 ⟨_, ⟨rfl, rfl⟩, H, -, -⟩
 replace H : Hp _ _ _ [_, _] := H
 clear hle
 replace H : Hp _ _ _ [_, _] := H
 refine st (v := (I (w64 (r7 - 1)))) (rv_sub (a := r7) (b := 1) rfl rfl) ?_
 revert h; refine br fun r11 hx12 h => ?_
 have hc13 := c_container_heap_up__impl_hitHeap (Cu := Cu) (Cv := Cv) (Cw := Cw) (Cy := Cy) (Cz := Cz) (Cs := a4) (Ct := c5) hx12
 refine st_call (cx_call hc13 (ent_f hc13.fn rfl) hn0 (H.sel' [1, 0] rfl rfl : Hp S0 σ0 _ ([_, _] ++ _))) wn ?_
 rintro _ σ16 ⟨_, ⟨a14, c15, rfl, rfl⟩, H, -⟩
 replace H : Hp _ _ _ [_, _] := H
 refine w_end ?_
 obtain rfl := sj h
 exact fin_end (v := (.tuple #[])) (results_ok Tryz.results109 res_nil rfl) ⟨a14, c15, rfl, rfl⟩ (H.sel' [0, 1] rfl rfl)

theorem c_container_heap_down__impl_hitHeap {Cq : List (Int × Int)} {Di : Int} {Dj : Int} {Cs : Option Addr} {Ct : Nat} {Cu Cv Cw : Nat} {Cy Cz : List Value} {r : Bool × (List (Int × Int))} (h : M.container_heap_down__impl_hitHeap Cq Di Dj = some r) :
    Cal2 Tryz.prog 129 [(.iface 121 (pt Cv Cw)), (I Di), (I Dj)] [Ch.bx Cu Cv Cw [(Sl Cs Cq Ct)] Cy Cz, Ch.own 0 0 (Sl Cs Cq Ct) Cq] (fun n0 v L => ∃ (az1 : Option Addr), ∃ (cz2 : Nat), v = (B r.1) ∧ L = [Ch.bx Cu Cv Cw [(Sl az1 r.2 cz2)] Cy Cz, Ch.own 0 0 (Sl az1 r.2 cz2) r.2]) := by
 refine cal2 (n := 48) Tryz.func129 rfl rfl rfl rfl ?_
 intro S0 σ0 n0 hn0 H
 unfold M.container_heap_down__impl_hitHeap at h
 refine c_seq (rg (sa (B false) rfl (w_end (q_then (c_seq (rg (sm (I Di) rfl (sa (I Di) rfl (w_end (q_then (c_seq ?_)))))))))))
 obtain ⟨o1, hj, h'⟩ := bind_some h
 clear h
 refine c_cut (fun e a w => e = .normal ∧ ∃ (ρ : Nat → Value) (σ : St) (aj1 : Option Addr) (cj2 : Nat), a = fr 48 (updL ρ [(0, (.iface 121 (pt Cv Cw))), (1, (I Di)), (7, (I o1.2))]) ∧ w = σ.w ∧ Hp S0 σ0 σ [Ch.bx Cu Cv Cw [(Sl aj1 o1.1 cj2)] Cy Cz, Ch.own 0 0 (Sl aj1 o1.1 cj2) o1.1]) ?_ ?_
 ·clear h'
  rename _ = some o1 => h
  refine c_blk (wp_loopM _ h (fun s2 a w => ∃ (ρ : Nat → Value) (σ : St) (aj1 : Option Addr) (cj2 : Nat), a = fr 48 (updL ρ [(0, (.iface 121 (pt Cv Cw))), (1, (I Di)), (2, (I Dj)), (7, (I s2.2))]) ∧ w = σ.w ∧ Hp S0 σ0 σ [Ch.bx Cu Cv Cw [(Sl aj1 s2.1 cj2)] Cy Cz, Ch.own 0 0 (Sl aj1 s2.1 cj2) s2.1]) ⟨_, σ0, Cs, Ct, fr_join ⟨rfl, rfl, rfl, rfl, trivial⟩, rfl, H.sel' [0, 1] rfl rfl⟩ ?_)
  clear h H
  rintro s2 a w o ⟨ρ, σ3, a4, c5, rfl, rfl, H⟩ h hres
  refine c_blk (c_seq (rg (sm (I s2.2) rfl (st (v := (I (w64 (2 * s2.2)))) (rv_mul (a := 2) (b := s2.2) rfl rfl) (st (v := (I (w64 ((w64 (2 * s2.2)) + 1)))) (rv_add (a := (w64 (2 * s2.2))) (b := 1) rfl rfl) (sa (I (w64 ((w64 (2 * s2.2)) + 1))) rfl (w_end (q_then (c_seq (c_seq ?_))))))))))
  obtain ⟨o6, hj, h'⟩ := bind_some h
  clear h
  refine c_cut (fun e a w => e = .normal ∧ ∃ (ρ : Nat → Value) (σ : St), a = fr 48 (updL ρ [(0, (.iface 121 (pt Cv Cw))), (1, (I Di)), (2, (I Dj)), (7, (I s2.2)), (8, (I (w64 ((w64 (2 * s2.2)) + 1)))), (21, (B o6))]) ∧ w = σ.w ∧ Hp S0 σ0 σ [Ch.own 0 0 (Sl a4 s2.1 c5) s2.1, Ch.bx Cu Cv Cw [(Sl a4 s2.1 c5)] Cy Cz]) ?_ ?_
  ·clear h'
   rename _ = some o6 => h
   refine rg (sm (I (w64 ((w64 (2 * s2.2)) + 1))) rfl (sm (I Dj) rfl (st (v := (B (decide (Dj ≤ (w64 ((w64 (2 * s2.2)) + 1)))))) (rv_geq (a := (w64 ((w64 (2 * s2.2)) + 1))) (b := Dj) rfl rfl) (sm (B (decide (Dj ≤ (w64 ((w64 (2 * s2.2)) + 1))))) rfl ?_))))
   rcases Bool.eq_false_or_eq_true (decide (Dj ≤ (w64 ((w64 (2 * s2.2)) + 1)))) with hb7 | hb7
   ·replace h := bif_t hb7 h
    refine st_skip (congrArg some hb7) (st_skip (congrArg some hb7) (st (v := (B true)) (rv_pick_t (congrArg B hb7) rfl) (w_end ?_)))
    obtain rfl := sj h
    exact ⟨rfl, _, σ3, fr_join ⟨rfl, rfl, rfl, rfl, rfl, rfl, trivial⟩, rfl, H.sel' [1, 0] rfl rfl⟩
   ·replace h := bif_f hb7 h
    refine st_g (v := (I (w64 ((w64 (2 * s2.2)) + 1)))) (congrArg some hb7) (rv_move rfl) (st_g (v := (B (decide ((w64 ((w64 (2 * s2.2)) + 1)) < 0)))) (congrArg some hb7) (rv_lss (a := (w64 ((w64 (2 * s2.2)) + 1))) (b := 0) rfl rfl) (st (v := (B (decide ((w64 ((w64 (2 * s2.2)) + 1)) < 0)))) (rv_pick_f (congrArg B hb7) rfl) (w_end ?_)))
    obtain rfl := sj h
    exact ⟨rfl, _, σ3, fr_join ⟨rfl, rfl, rfl, rfl, rfl, rfl, trivial⟩, rfl, H.sel' [1, 0] rfl rfl⟩
  ·clear hj
   have h := h'
   clear h' H
   rintro e a w ⟨rfl, ρ, σ8, rfl, rfl, H⟩
   refine q_then ?_
   refine cd_cond o6 rfl (fun hb9 => ?_) (fun hb9 => ?_)
   ·replace h := bif_t hb9 h
    refine c_exit (q_then_x ?_)
    refine q_blk_x (by decide) ?_
    refine q_then_x (q_blk_hit ?_)
    obtain rfl := sj h
    obtain rfl := hres _ rfl
    exact ⟨rfl, _, σ8, a4, c5, fr_join ⟨rfl, rfl, rfl, trivial⟩, rfl, H.sel' [1, 0] rfl rfl⟩
   ·replace h := bif_f hb9 h
    refine c_skip (q_then (c_seq (rg (sm (I (w64 ((w64 (2 * s2.2)) + 1))) rfl (sa (I (w64 ((w64 (2 * s2.2)) + 1))) rfl (w_end (q_then (c_seq (c_seq (rg (sm (I (w64 ((w64 (2 * s2.2)) + 1))) rfl ?_)))))))))))
    refine st (v := (I (w64 ((w64 ((w64 (2 * s2.2)) + 1)) + 1)))) (rv_add (a := (w64 ((w64 (2 * s2.2)) + 1))) (b := 1) rfl rfl) (sa (I (w64 ((w64 ((w64 (2 * s2.2)) + 1)) + 1))) rfl (w_end (q_then (c_seq ?_))))
    obtain ⟨o10, hj, h'⟩ := bind_some h
    clear h
    refine c_cut (fun e a w => e = .normal ∧ ∃ (ρ : Nat → Value) (σ : St), a = fr 48 (updL ρ [(0, (.iface 121 (pt Cv Cw))), (1, (I Di)), (2, (I Dj)), (7, (I s2.2)), (9, (I (w64 ((w64 (2 * s2.2)) + 1)))), (10, (I (w64 ((w64 ((w64 (2 * s2.2)) + 1)) + 1)))), (33, (B o10))]) ∧ w = σ.w ∧ Hp S0 σ0 σ [Ch.own 0 0 (Sl a4 s2.1 c5) s2.1, Ch.bx Cu Cv Cw [(Sl a4 s2.1 c5)] Cy Cz]) ?_ ?_
    ·clear h'
     rename _ = some o10 => h
     refine rg (sm (I (w64 ((w64 ((w64 (2 * s2.2)) + 1)) + 1))) rfl (sm (I Dj) rfl (st (v := (B (decide ((w64 ((w64 ((w64 (2 * s2.2)) + 1)) + 1)) < Dj)))) (rv_lss (a := (w64 ((w64 ((w64 (2 * s2.2)) + 1)) + 1))) (b := Dj) rfl rfl) (sm (B (decide ((w64 ((w64 ((w64 (2 * s2.2)) + 1)) + 1)) < Dj))) rfl ?_))))
     rcases Bool.eq_false_or_eq_true (decide ((w64 ((w64 ((w64 (2 * s2.2)) + 1)) + 1)) < Dj)) with hb11 | hb11
     ·replace h := bif_t hb11 h
      refine st_g (v := (.iface 121 (pt Cv Cw))) (congrArg some hb11) (rv_move rfl) (st_g (v := (I (w64 ((w64 ((w64 (2 * s2.2)) + 1)) + 1)))) (congrArg some hb11) (rv_move rfl) (st_g (v := (I (w64 ((w64 (2 * s2.2)) + 1)))) (congrArg some hb11) (rv_move rfl) ?_))
      revert h; refine br fun r12 hx13 h => ?_
      have hc14 := c_impl_hitHeap_Less (Cs := a4) (Ct := c5) hx13
      have hle := Nat.le_trans hn0 H.size
      refine st_call (cx_lend (Loan.lend Loan.nil) hc14 (ent_iv hc14.fn (by kernel_rfl) Tryz.underlying121 Tryz.underlying104 rfl rfl (H.cell (u := (Sl a4 s2.1 c5)) (o' := Cw) 1 0 rfl rfl rfl) rfl) (show Hp S0 σ0 _ ([Ch.own 0 0 (Sl a4 s2.1 c5) s2.1] ++ ([] ++ [Ch.bx Cu Cv Cw [(Sl a4 s2.1 c5)] Cy Cz])) from (H.sel' [0, 1] rfl rfl)) (by rintro _ _ _ ⟨rfl, rfl⟩; exact trivial)) (wanted_yes rfl (by exact (congrArg some hb11))) ?_
      rintro _ σ15 ⟨_, ⟨rfl, rfl⟩, H, -, -⟩
      replace H : Hp _ _ _ [_, _] := H
      clear hle
      replace H : Hp _ _ _ [_, _] := H
      refine st (v := (B r12)) (rv_pick_t (congrArg B hb11) rfl) (w_end ?_)
      obtain rfl := sj h
      exact ⟨rfl, _, σ15, fr_join ⟨rfl, rfl, rfl, rfl, rfl, rfl, rfl, trivial⟩, rfl, H.sel' [0, 1] rfl rfl⟩
     ·replace h := bif_f hb11 h
      refine st_skip (congrArg some hb11) (st_skip (congrArg some hb11) (st_skip (congrArg some hb11) (st_skip (congrArg some hb11) (st (v := (B false)) (rv_pick_f (congrArg B hb11) rfl) (w_end ?_)))))
      obtain rfl := sj h
      exact ⟨rfl, _, σ8, fr_join ⟨rfl, rfl, rfl, rfl, rfl, rfl, rfl, trivial⟩, rfl, H.sel' [0, 1] rfl rfl⟩
    ·clear hj
     have h := h'
     clear h' H
     rintro e a w ⟨rfl, ρ, σ16, rfl, rfl, H⟩
     refine q_then ?_
     obtain ⟨o17, hj, h'⟩ := bind_some h
     clear h
     refine c_cut (fun e a w => e = .normal ∧ ∃ (ρ : Nat → Value) (σ : St), a = fr 48 (updL ρ [(0, (.iface 121 (pt Cv Cw))), (1, (I Di)), (2, (I Dj)), (7, (I s2.2)), (9, (I o17))]) ∧ w = σ.w ∧ Hp S0 σ0 σ [Ch.own 0 0 (Sl a4 s2.1 c5) s2.1, Ch.bx Cu Cv Cw [(Sl a4 s2.1 c5)] Cy Cz]) ?_ ?_
     ·clear h'
      rename _ = some o17 => h
      refine cd_cond o10 rfl (fun hb18 => ?_) (fun hb18 => ?_)
      ·replace h := bif_t hb18 h
       refine rg (sm (I (w64 ((w64 ((w64 (2 * s2.2)) + 1)) + 1))) rfl (sa (I (w64 ((w64 ((w64 (2 * s2.2)) + 1)) + 1))) rfl (w_end ?_)))
       obtain rfl := sj h
       exact ⟨rfl, _, σ16, fr_join ⟨rfl, rfl, rfl, rfl, rfl, trivial⟩, rfl, H.sel' [0, 1] rfl rfl⟩
      ·replace h := bif_f hb18 h
       refine c_skip ?_
       obtain rfl := sj h
       exact ⟨rfl, _, σ16, fr_join ⟨rfl, rfl, rfl, rfl, rfl, trivial⟩, rfl, H.sel' [0, 1] rfl rfl⟩
     ·clear hj
      have h := h'
      clear h' H
      rintro e a w ⟨rfl, ρ, σ19, rfl, rfl, H⟩
      refine q_then (c_seq (c_seq (rg (sm (.iface 121 (pt Cv Cw)) rfl (sm (I o17) rfl (sm (I s2.2) rfl ?_))))))
      revert h; refine br fun r20 hx21 h => ?_
      have hc22 := c_impl_hitHeap_Less (Cs := a4) (Ct := c5) hx21
      have hle := Nat.le_trans hn0 H.size
      refine st_call (cx_lend (Loan.lend Loan.nil) hc22 (ent_iv hc22.fn (by kernel_rfl) Tryz.underlying121 Tryz.underlying104 rfl rfl (H.cell (u := (Sl a4 s2.1 c5)) (o' := Cw) 1 0 rfl rfl rfl) rfl) (show Hp S0 σ0 _ ([Ch.own 0 0 (Sl a4 s2.1 c5) s2.1] ++ ([] ++ [Ch.bx Cu Cv Cw [(Sl a4 s2.1 c5)] Cy Cz])) from (H.sel' [0, 1] rfl rfl)) (by rintro _ _ _ ⟨rfl, rfl⟩; exact trivial)) wn ?_
      rintro _ σ23 ⟨_, ⟨rfl, rfl⟩, H, -, -⟩
      replace H : Hp _ _ _ [_, _] := H
      clear hle
      replace H : Hp _ _ _ [_, _] := H
      refine st (v := (B (!r20))) (rv_not rfl) (w_end (q_then ?_))
      refine cd_cond (!r20) rfl (fun hb24 => ?_) (fun hb24 => ?_)
      ·replace h := bif_t hb24 h
       refine c_exit (q_then_x ?_)
       refine q_blk_x (by decide) ?_
       refine q_then_x (q_blk_hit ?_)
       obtain rfl := sj h
       obtain rfl := hres _ rfl
       exact ⟨rfl, _, σ23, a4, c5, fr_join ⟨rfl, rfl, rfl, trivial⟩, rfl, H.sel' [1, 0] rfl rfl⟩
      ·replace h := bif_f hb24 h
       refine c_skip (q_then (c_seq (rg (sm (.iface 121 (pt Cv Cw)) rfl (sm (I s2.2) rfl (sm (I o17) rfl ?_))))))
       revert h; refine br fun r25 hx26 h => ?_
       have hc27 := c_impl_hitHeap_Swap (Cs := a4) (Ct := c5) hx26
       refine st_call (cx_call hc27 (ent_iv hc27.fn (by kernel_rfl) Tryz.underlying121 Tryz.underlying104 rfl rfl (H.cell (u := (Sl a4 s2.1 c5)) (o' := Cw) 1 0 rfl rfl rfl) rfl) hn0 (H.sel' [0, 1] rfl rfl : Hp S0 σ0 _ ([_] ++ _))) wn ?_
       rintro _ σ29 ⟨_, ⟨rfl, rfl, hn28⟩, H, -⟩
       replace H : Hp _ _ _ [_, _] := H
       have hsl : (Sl a4 s2.1 c5) = (Sl a4 r25 c5) := sl_len hn28.symm
       try rw [hsl]
       try rw [hsl] at H
       clear hsl
       refine w_end (q_then (rg (sm (I o17) rfl (sa (I o17) rfl (w_end (q_blk (q_then ?_)))))))
       obtain rfl := sj h
       exact ⟨_, rfl, _, σ29, a4, c5, fr_join ⟨rfl, rfl, rfl, rfl, trivial⟩, rfl, H.sel' [1, 0] rfl rfl⟩
 ·clear hj
  have h := h'
  clear h' H
  rintro e a w ⟨rfl, ρ, σ30, a31, c32, rfl, rfl, H⟩
  refine q_then (c_seq (rg (sm (I o1.2) rfl (sm (I Di) rfl (st (v := (B (decide (Di < o1.2)))) (rv_gtr (a := o1.2) (b := Di) rfl rfl) (sa (B (decide (Di < o1.2))) rfl (w_end (q_then (c_ret ?_)))))))))
  obtain rfl := sj h
  exact fin_ret (v := (B (decide (Di < o1.2)))) (results_ok Tryz.results129 (res_tmp (v := (B (decide (Di < o1.2)))) rfl res_nil) rfl) ⟨a31, c32, rfl, rfl⟩ (H.sel' [0, 1] rfl rfl)

theorem c_impl_hitHeap_Pop {Cq : List (Int × Int)} {Cs : Option Addr} {Ct : Nat} {Cu Cv Cw : Nat} {Cy Cz : List Value} {r : ((Int) × (Int)) × (List (Int × Int))} (h : M.impl_hitHeap_Pop Cq = some r) :
    Cal2 Tryz.prog 188 [(pt Cv Cw)] [Ch.bx Cu Cv Cw [(Sl Cs Cq Ct)] Cy Cz, Ch.own 0 0 (Sl Cs Cq Ct) Cq] (fun n0 v L => ∃ (az1 : Option Addr), ∃ (cz2 : Nat), v = (.iface 67 (.agg #[(I r.1.1), (I r.1.2)])) ∧ L = [Ch.bx Cu Cv Cw [(Sl az1 r.2 cz2)] Cy Cz, Ch.own 0 0 (Sl az1 r.2 cz2) r.2]) := by
 refine cal2 (n := 25) Tryz.func188 rfl rfl rfl rfl ?_
 intro S0 σ0 n0 hn0 H
 unfold M.impl_hitHeap_Pop at h
 refine c_seq (rg (sa (.nilIface) rfl (w_end (q_then (c_seq (rg (sm (pt Cv Cw) rfl (st (v := (pt Cv Cw)) (rv_nilCheck rfl) ?_))))))))
 have hc1 := H.cell (u := (Sl Cs Cq Ct)) (o' := Cw) 0 0 rfl rfl rfl
 refine st (v := (Sl Cs Cq Ct)) (rv_load1 Tryz.underlying104 rfl rfl hc1) (st (v := (I (Cq.length : Int))) (rv_len Tryz.underlying104 rfl) (st (v := (I (w64 ((Cq.length : Int) - 1)))) (rv_sub (a := (Cq.length : Int)) (b := 1) rfl rfl) (sa (I (w64 ((Cq.length : Int) - 1))) rfl (w_end (q_then (c_seq (rg (sm (pt Cv Cw) rfl (st (v := (pt Cv Cw)) (rv_nilCheck rfl) ?_)))))))))
 have hc2 := H.cell (u := (Sl Cs Cq Ct)) (o' := Cw) 0 0 rfl rfl rfl
 refine st (v := (Sl Cs Cq Ct)) (rv_load1 Tryz.underlying104 rfl rfl hc2) (sm (I (w64 ((Cq.length : Int) - 1))) rfl ?_)
 revert h; refine br fun x3 hx4 h => ?_
 obtain ⟨b6, o7, hi5, -⟩ := (H.own 1 rfl).ix hx4
 refine st (v := (pt b6 o7)) (rv_ix Tryz.underlying104 ti67 rfl rfl hi5) ?_
 obtain ⟨_, ⟨_, _, rfl, rfl, rfl⟩, hl8, hc9⟩ := ((H.own 1 rfl).at hx4 hi5).cells
 refine st (v := (.agg #[(I x3.1), (I x3.2)])) (rv_load Tryz.underlying67 rfl ti67 rfl hl8 hc9) (st_ex (ex_alloc (cs := [(I 0), (I 0)]) H hn0 ti67 rfl) wn ?_)
 rintro _ σ11 ⟨b10, rfl, H, -⟩
 refine st_exS (ex_store_box (k := 0) (cs := [(I 0), (I 0)]) (vs := [(I x3.1), (I x3.2)]) (cs' := [(I x3.1), (I x3.2)]) H (i := 0) rfl ti67 rfl rfl rfl rfl rfl (Nat.le_of_ble_eq_true rfl) (by simp [plain]) rfl) wn ?_
 rintro σ12 ⟨H, -⟩
 refine w_end (q_then (c_seq (rg (sm (pt Cv Cw) rfl (sm (pt Cv Cw) rfl (st (v := (pt Cv Cw)) (rv_nilCheck rfl) ?_))))))
 have hc13 := H.cell (u := (Sl Cs Cq Ct)) (o' := Cw) 1 0 rfl rfl rfl
 refine st (v := (Sl Cs Cq Ct)) (rv_load1 Tryz.underlying104 rfl rfl hc13) (sm (I (w64 ((Cq.length : Int) - 1))) rfl ?_)
 revert h; refine br fun xs14 hx15 h => ?_
 obtain ⟨a16, c17, hs18, -⟩ := (H.own 2 rfl).slice hx15
 refine st (v := (Sl a16 xs14 c17)) (rv_slice_h Tryz.underlying104 ti67 hs18 rfl rfl) (st (v := (pt Cv Cw)) (rv_nilCheck rfl) ?_)
 have hv20 := (H.own 2 rfl).view hx15 hs18
 replace H := (H.front (i := 2) rfl).turn (d := Ch.own 0 0 (Sl a16 xs14 c17) xs14) (fun _ => hv20.1) hv20.2; clear hv20
 refine st_exS (ex_store_box (k := 0) (cs := [(Sl Cs Cq Ct)]) (vs := [(Sl a16 xs14 c17)]) (cs' := [(Sl a16 xs14 c17)]) H (i := 2) rfl ti104 rfl rfl rfl rfl rfl (Nat.le_of_ble_eq_true rfl) (by simp [plain]) rfl) wn ?_
 rintro σ21 ⟨H, -⟩
 refine w_end (q_then (c_seq (rg ?_)))
 have hc22 := H.cells 2 rfl
 refine st (v := (.agg #[(I x3.1), (I x3.2)])) (rv_load (cs := [(I x3.1), (I x3.2)]) Tryz.underlying67 rfl ti67 rfl rfl hc22) (st (v := (.iface 67 (.agg #[(I x3.1), (I x3.2)]))) (rv_makeInterface Tryz.underlying67 rfl rfl) (sa (.iface 67 (.agg #[(I x3.1), (I x3.2)])) rfl (w_end (q_then (c_ret ?_)))))
 obtain rfl := sj h
 exact fin_ret (v := (.iface 67 (.agg #[(I x3.1), (I x3.2)]))) (results_ok Tryz.results188 (res_tmp (v := (.iface 67 (.agg #[(I x3.1), (I x3.2)]))) rfl res_nil) rfl) ⟨a16, c17, rfl, rfl⟩ (H.sel' [0, 1] rfl rfl)

theorem c_container_heap_Pop__impl_hitHeap {Cq : List (Int × Int)} {Cs : Option Addr} {Ct : Nat} {Cu Cv Cw : Nat} {Cy Cz : List Value} {r : ((Int) × (Int)) × (List (Int × Int))} (h : M.container_heap_Pop__impl_hitHeap Cq = some r) :
    Cal2 Tryz.prog 110 [(.iface 121 (pt Cv Cw))] [Ch.bx Cu Cv Cw [(Sl Cs Cq Ct)] Cy Cz, Ch.own 0 0 (Sl Cs Cq Ct) Cq] (fun n0 v L => ∃ (az1 : Option Addr), ∃ (cz2 : Nat), v = (.iface 67 (.agg #[(I r.1.1), (I r.1.2)])) ∧ L = [Ch.bx Cu Cv Cw [(Sl az1 r.2 cz2)] Cy Cz, Ch.own 0 0 (Sl az1 r.2 cz2) r.2]) := by
 refine cal2 (n := 15) Tryz.func110 rfl rfl rfl rfl ?_
 intro S0 σ0 n0 hn0 H
 unfold M.container_heap_Pop__impl_hitHeap at h
 refine c_seq (rg (sa (.nilIface) rfl (w_end (q_then (c_seq (rg (sm (.iface 121 (pt Cv Cw)) rfl ?_)))))))
 revert h; refine br fun r1 hx2 h => ?_
 have hc3 := c_impl_hitHeap_Len (Cs := Cs) (Ct := Ct) hx2
 have hle := Nat.le_trans hn0 H.size
 refine st_call (cx_lend (Loan.lend Loan.nil) hc3 (ent_iv hc3.fn (by kernel_rfl) Tryz.underlying121 Tryz.underlying104 rfl rfl (H.cell (u := (Sl Cs Cq Ct)) (o' := Cw) 0 0 rfl rfl rfl) rfl) (show Hp S0 σ0 _ ([Ch.own 0 0 (Sl Cs Cq Ct) Cq] ++ ([] ++ [Ch.bx Cu Cv Cw [(Sl Cs Cq Ct)] Cy Cz])) from (H.sel' [1, 0] rfl rfl)) (by rintro _ _ _ ⟨rfl, rfl⟩; exact trivial)) wn ?_
 rintro _ σ4 ⟨_, ⟨rfl, rfl⟩, H, -, -⟩
 replace H : Hp _ _ _ [_, _] := H
 clear hle
 replace H : Hp _ _ _ [_, _] := H
 refine st (v := (I (w64 (r1 - 1)))) (rv_sub (a := r1) (b := 1) rfl rfl) (sa (I (w64 (r1 - 1))) rfl (w_end (q_then (c_seq (rg (sm (.iface 121 (pt Cv Cw)) rfl (sm (I (w64 (r1 - 1))) rfl ?_)))))))
 revert h; refine br fun r5 hx6 h => ?_
 have hc7 := c_impl_hitHeap_Swap (Cs := Cs) (Ct := Ct) hx6
 refine st_call (cx_call hc7 (ent_iv hc7.fn (by kernel_rfl) Tryz.underlying121 Tryz.underlying104 rfl rfl (H.cell (u := (Sl Cs Cq Ct)) (o' := Cw) 1 0 rfl rfl rfl) rfl) hn0 (H.sel' [0, 1] rfl rfl : Hp S0 σ0 _ ([_] ++ _))) wn ?_
 rintro _ σ9 ⟨_, ⟨rfl, rfl, hn8⟩, H, -⟩
 replace H : Hp _ _ _ [_, _] := H
 have hsl : (Sl Cs Cq Ct) = (Sl Cs r5 Ct) := sl_len hn8.symm
 try rw [hsl]
 try rw [hsl] at H
 clear hsl
 refine w_end (q_then (c_seq (rg (sm (.iface 121 (pt Cv Cw)) rfl (sm (I (w64 (r1 - 1))) rfl ?_)))))
 revert h; refine br fun r10 hx11 h => ?_
 have hc12 := c_container_heap_down__impl_hitHeap (Cu := Cu) (Cv := Cv) (Cw := Cw) (Cy := Cy) (Cz := Cz) (Cs := Cs) (Ct := Ct) hx11
 refine st_call (cx_call hc12 (ent_f hc12.fn rfl) hn0 (H.sel' [1, 0] rfl rfl : Hp S0 σ0 _ ([_, _] ++ _))) wn ?_
 rintro _ σ15 ⟨_, ⟨a13, c14, rfl, rfl⟩, H, -⟩
 replace H : Hp _ _ _ [_, _] := H
 refine w_end (q_then (c_seq (rg (sm (.iface 121 (pt Cv Cw)) rfl ?_))))
 revert h; refine br fun r16 hx17 h => ?_
 have hc18 := c_impl_hitHeap_Pop (Cu := Cu) (Cv := Cv) (Cw := Cw) (Cy := Cy) (Cz := Cz) (Cs := a13) (Ct := c14) hx17
 refine st_call (cx_call hc18 (ent_ip hc18.fn (by kernel_rfl) Tryz.underlying121 rfl rfl) hn0 (H.sel' [0, 1] rfl rfl : Hp S0 σ0 _ ([_, _] ++ _))) wn ?_
 rintro _ σ21 ⟨_, ⟨a19, c20, rfl, rfl⟩, H, -⟩
 replace H : Hp _ _ _ [_, _] := H
 refine sa (.iface 67 (.agg #[(I r16.1.1), (I r16.1.2)])) rfl (w_end (q_then (c_ret ?_)))
 obtain rfl := sj h
 exact fin_ret (v := (.iface 67 (.agg #[(I r16.1.1), (I r16.1.2)]))) (results_ok Tryz.results110 (res_tmp (v := (.iface 67 (.agg #[(I r16.1.1), (I r16.1.2)]))) rfl res_nil) rfl) ⟨a19, c20, rfl, rfl⟩ (H.sel' [0, 1] rfl rfl)

theorem c_impl_nearestHits_offer {Aj : Int × (List (Int × Int))} {Bj : Int × Int} {Dk : Option Addr} {Dm : Nat} {Dn Do Dq : Nat} {Dr Ds : List Value} {r : (Int × (List (Int × Int)))} (h : M.impl_nearestHits_offer Aj Bj = some r) :
    Cal2 Tryz.prog 85 [(pt Do Dq), (.agg #[(I Bj.1), (I Bj.2)])] [Ch.bx Dn Do Dq [(I Aj.1), (Sl Dk Aj.2 Dm)] Dr Ds, Ch.own 0 0 (Sl Dk Aj.2 Dm) Aj.2] (fun n0 v L => ∃ (az1 : Option Addr), ∃ (cz2 : Nat), v = (.tuple #[]) ∧ L = [Ch.bx Dn Do Dq [(I r.1), (Sl az1 r.2 cz2)] Dr Ds, Ch.own 0 0 (Sl az1 r.2 cz2) r.2]) := by
 refine cal2 (n := 26) Tryz.func85 rfl rfl rfl rfl ?_
 intro S0 σ0 n0 hn0 H
 unfold M.impl_nearestHits_offer at h
 refine c_seq (rg (st_ex (ex_box (cs := [(I Bj.1), (I Bj.2)]) H hn0 rfl rfl) wn ?_))
 rintro _ σ2 ⟨b1, rfl, H, -⟩
 refine w_end (q_then (c_seq ?_))
 refine rgP (σ := σ2) 6 (by kernel_rfl) (by kernel_rfl) (by kernel_rfl) ?_
 refine sq (v := (pt Do Dq)) (rv_move rfl) (sq (v := (pt Do Dq)) (rv_nilCheck rfl) (sq (v := (pt Do (Dq + 1))) (rv_fieldAddr (off := 1) (ft := 104) Tryz.underlying106 rfl ti104 rfl rfl) (sq (v := (.iface 121 (pt Do (Dq + 1)))) (rv_makeInterface Tryz.underlying121 rfl rfl) ?_)))
 have hc3 := H.cells 0 rfl
 refine sq (v := (.agg #[(I Bj.1), (I Bj.2)])) (rv_load (cs := [(I Bj.1), (I Bj.2)]) Tryz.underlying67 rfl ti67 rfl rfl hc3) (sq (v := (.iface 67 (.agg #[(I Bj.1), (I Bj.2)]))) (rv_makeInterface Tryz.underlying67 rfl rfl) (sq_end ?_))
 intro σ4 hm5
 replace H := H.grow (hm5.mono fun _ h => h); clear hm5
 replace H := Hp.focus (c1 := [(I Aj.1)]) (c2 := [(Sl Dk Aj.2 Dm)]) (c3 := []) (o' := (Dq + 1)) H 1 rfl rfl
 revert h; refine br fun r6 hx7 h => ?_
 have hc8 := c_container_heap_Push__impl_hitHeap__impl_Hit (Cu := Dn) (Cv := Do) (Cw := (Dq + 1)) (Cy := (Dr ++ [(I Aj.1)])) (Cz := ([] ++ Ds)) (Cs := Dk) (Ct := Dm) hx7
 refine st_call (cx_call hc8 (ent_f hc8.fn rfl) hn0 (H.sel' [0, 2, 1] rfl rfl : Hp S0 σ0 _ ([_, _] ++ _))) wn ?_
 rintro _ σ11 ⟨_, ⟨a9, c10, rfl, rfl⟩, H, -⟩
 replace H : Hp _ _ _ [_, _, _] := H
 replace H : Hp S0 σ0 σ11 [Ch.bx Dn Do Dq [(I Aj.1), (Sl a9 r6 c10)] Dr Ds, Ch.own 0 0 (Sl a9 r6 c10) r6, Ch.bx n0 b1 0 [(I Bj.1), (I Bj.2)] [] []] := Hp.unfocus (o := Dq) (c1 := [(I Aj.1)]) (c2 := [(Sl a9 r6 c10)]) (c3 := []) (pre := Dr) (suf := Ds) H 0 rfl rfl
 refine w_end (q_then (c_seq ?_))
 refine rgP (σ := σ11) 9 (by kernel_rfl) (by kernel_rfl) (by kernel_rfl) ?_
 refine sq (v := (pt Do Dq)) (rv_move rfl) (sq (v := (pt Do Dq)) (rv_nilCheck rfl) (sq (v := (pt Do (Dq + 1))) (rv_fieldAddr (off := 1) (ft := 104) Tryz.underlying106 rfl ti104 rfl rfl) ?_))
 have hc12 := H.cell (u := (Sl a9 r6 c10)) (o' := (Dq + 1)) 0 1 rfl rfl rfl
 refine sq (v := (Sl a9 r6 c10)) (rv_load1 Tryz.underlying104 rfl rfl hc12) (sq (v := (I (r6.length : Int))) (rv_len Tryz.underlying104 rfl) (sq (v := (pt Do Dq)) (rv_move rfl) (sq (v := (pt Do Dq)) (rv_nilCheck rfl) (sq (v := (pt Do Dq)) (rv_fieldAddr (off := 0) (ft := 3) Tryz.underlying106 rfl ti3 rfl rfl) ?_))))
 have hc13 := H.cell (u := (I Aj.1)) (o' := Dq) 0 0 rfl rfl rfl
 refine sq (v := (I Aj.1)) (rv_load1 Tryz.underlying3 rfl rfl hc13) (sq_end ?_)
 intro σ14 hm15
 replace H := H.grow (hm15.mono fun _ h => h); clear hm15
 refine st (v := (B (decide (Aj.1 < (r6.length : Int))))) (rv_gtr (a := (r6.length : Int)) (b := Aj.1) rfl rfl) (w_end (q_then ?_))
 refine cd_cond (decide (Aj.1 < (r6.length : Int))) rfl (fun hb16 => ?_) (fun hb16 => ?_)
 ·replace h := bif_t hb16 h
  refine rg (sm (pt Do Dq) rfl (st (v := (pt Do Dq)) (rv_nilCheck rfl) (st (v := (pt Do (Dq + 1))) (rv_fieldAddr (off := 1) (ft := 104) Tryz.underlying106 rfl ti104 rfl rfl) (st (v := (.iface 121 (pt Do (Dq + 1)))) (rv_makeInterface Tryz.underlying121 rfl rfl) ?_))))
  replace H := Hp.focus (c1 := [(I Aj.1)]) (c2 := [(Sl a9 r6 c10)]) (c3 := []) (o' := (Dq + 1)) H 0 rfl rfl
  revert h; refine br fun r17 hx18 h => ?_
  have hc19 := c_container_heap_Pop__impl_hitHeap (Cu := Dn) (Cv := Do) (Cw := (Dq + 1)) (Cy := (Dr ++ [(I Aj.1)])) (Cz := ([] ++ Ds)) (Cs := a9) (Ct := c10) hx18
  refine st_call (cx_call hc19 (ent_f hc19.fn rfl) hn0 (H.sel' [0, 1, 2] rfl rfl : Hp S0 σ0 _ ([_, _] ++ _))) wn ?_
  rintro _ σ22 ⟨_, ⟨a20, c21, rfl, rfl⟩, H, -⟩
  replace H : Hp _ _ _ [_, _, _] := H
  replace H : Hp S0 σ0 σ22 [Ch.bx Dn Do Dq [(I Aj.1), (Sl a20 r17.2 c21)] Dr Ds, Ch.own 0 0 (Sl a20 r17.2 c21) r17.2, Ch.bx n0 b1 0 [(I Bj.1), (I Bj.2)] [] []] := Hp.unfocus (o := Dq) (c1 := [(I Aj.1)]) (c2 := [(Sl a20 r17.2 c21)]) (c3 := []) (pre := Dr) (suf := Ds) H 0 rfl rfl
  refine w_end ?_
  obtain rfl := sj h
  exact fin_end (v := (.tuple #[])) (results_ok Tryz.results85 res_nil rfl) ⟨a20, c21, rfl, rfl⟩ (H.sel' [0, 1] rfl rfl)
 ·replace h := bif_f hb16 h
  refine c_skip ?_
  obtain rfl := sj h
  exact fin_end (v := (.tuple #[])) (results_ok Tryz.results85 res_nil rfl) ⟨a9, c10, rfl, rfl⟩ (H.sel' [0, 1] rfl rfl)

theorem c_slices_xorshift_Next {Dt : Int} {Du Dv Dw : Nat} {Dx Dy : List Value} {r : Int × Int} (h : M.slices_xorshift_Next Dt = some r) :
    Cal2 Tryz.prog 159 [(pt Dv Dw)] [Ch.bx Du Dv Dw [(.int .u64 Dt)] Dx Dy] (fun n0 v L => v = (.int .u64 r.1) ∧ L = [Ch.bx Du Dv Dw [(.int .u64 r.2)] Dx Dy]) := by
 refine cal2 (n := 33) Tryz.func159 rfl rfl rfl rfl ?_
 intro S0 σ0 n0 hn0 H
 unfold M.slices_xorshift_Next at h
 refine c_seq (rg (sa (.int .u64 0) rfl (w_end (q_then (c_seq ?_)))))
 refine rgP (σ := σ0) 7 (by kernel_rfl) (by kernel_rfl) (by kernel_rfl) ?_
 refine sq (v := (pt Dv Dw)) (rv_move rfl) (sq (v := (pt Dv Dw)) (rv_nilCheck rfl) ?_)
 have hc1 := H.cell (u := (.int .u64 Dt)) (o' := Dw) 0 0 rfl rfl rfl
 refine sq (v := (.int .u64 Dt)) (rv_load1 Tryz.underlying167 rfl rfl hc1) (sq (v := (pt Dv Dw)) (rv_move rfl) (sq (v := (pt Dv Dw)) (rv_nilCheck rfl) ?_))
 have hc2 := H.cell (u := (.int .u64 Dt)) (o' := Dw) 0 0 rfl rfl rfl
 refine sq (v := (.int .u64 Dt)) (rv_load1 Tryz.underlying167 rfl rfl hc2) ?_
 refine sq (v := (.int .u64 (gshl .u64 Dt 13))) (rvk_shl (k := .u64) (k' := .u64) (a := Dt) (b := 13) rfl rfl (by decide)) ?_
 refine sq_end ?_
 intro σ3 hm4
 replace H := H.grow (hm4.mono fun _ h => h); clear hm4
 refine st (v := (.int .u64 (gxork .u64 Dt (gshl .u64 Dt 13)))) (rvk_xor (k := .u64) (a := Dt) (b := (gshl .u64 Dt 13)) rfl rfl) (st (v := (pt Dv Dw)) (rv_nilCheck rfl) ?_)
 refine st_exS (ex_store_box (k := 0) (cs := [(.int .u64 Dt)]) (vs := [(.int .u64 (gxork .u64 Dt (gshl .u64 Dt 13)))]) (cs' := [(.int .u64 (gxork .u64 Dt (gshl .u64 Dt 13)))]) H (i := 0) rfl ti167 rfl rfl rfl rfl rfl (Nat.le_of_ble_eq_true rfl) (by simp [plain]) rfl) wn ?_
 rintro σ5 ⟨H, -⟩
 refine w_end (q_then (c_seq ?_))
 refine rgP (σ := σ5) 7 (by kernel_rfl) (by kernel_rfl) (by kernel_rfl) ?_
 refine sq (v := (pt Dv Dw)) (rv_move rfl) (sq (v := (pt Dv Dw)) (rv_nilCheck rfl) ?_)
 have hc6 := H.cell (u := (.int .u64 (gxork .u64 Dt (gshl .u64 Dt 13)))) (o' := Dw) 0 0 rfl rfl rfl
 refine sq (v := (.int .u64 (gxork .u64 Dt (gshl .u64 Dt 13)))) (rv_load1 Tryz.underlying167 rfl rfl hc6) (sq (v := (pt Dv Dw)) (rv_move rfl) (sq (v := (pt Dv Dw)) (rv_nilCheck rfl) ?_))
 have hc7 := H.cell (u := (.int .u64 (gxork .u64 Dt (gshl .u64 Dt 13)))) (o' := Dw) 0 0 rfl rfl rfl
 refine sq (v := (.int .u64 (gxork .u64 Dt (gshl .u64 Dt 13)))) (rv_load1 Tryz.underlying167 rfl rfl hc7) ?_
 refine sq (v := (.int .u64 (gshr .u64 (gxork .u64 Dt (gshl .u64 Dt 13)) 7))) (rvk_shr (k := .u64) (k' := .u64) (a := (gxork .u64 Dt (gshl .u64 Dt 13))) (b := 7) rfl rfl (by decide)) ?_
 refine sq_end ?_
 intro σ8 hm9
 replace H := H.grow (hm9.mono fun _ h => h); clear hm9
 refine st (v := (.int .u64 (gxork .u64 (gxork .u64 Dt (gshl .u64 Dt 13)) (gshr .u64 (gxork .u64 Dt (gshl .u64 Dt 13)) 7)))) (rvk_xor (k := .u64) (a := (gxork .u64 Dt (gshl .u64 Dt 13))) (b := (gshr .u64 (gxork .u64 Dt (gshl .u64 Dt 13)) 7)) rfl rfl) (st (v := (pt Dv Dw)) (rv_nilCheck rfl) ?_)
 refine st_exS (ex_store_box (k := 0) (cs := [(.int .u64 (gxork .u64 Dt (gshl .u64 Dt 13)))]) (vs := [(.int .u64 (gxork .u64 (gxork .u64 Dt (gshl .u64 Dt 13)) (gshr .u64 (gxork .u64 Dt (gshl .u64 Dt 13)) 7)))]) (cs' := [(.int .u64 (gxork .u64 (gxork .u64 Dt (gshl .u64 Dt 13)) (gshr .u64 (gxork .u64 Dt (gshl .u64 Dt 13)) 7)))]) H (i := 0) rfl ti167 rfl rfl rfl rfl rfl (Nat.le_of_ble_eq_true rfl) (by simp [plain]) rfl) wn ?_
 rintro σ10 ⟨H, -⟩
 refine w_end (q_then (c_seq ?_))
 refine rgP (σ := σ10) 7 (by kernel_rfl) (by kernel_rfl) (by kernel_rfl) ?_
 refine sq (v := (pt Dv Dw)) (rv_move rfl) (sq (v := (pt Dv Dw)) (rv_nilCheck rfl) ?_)
 have hc11 := H.cell (u := (.int .u64 (gxork .u64 (gxork .u64 Dt (gshl .u64 Dt 13)) (gshr .u64 (gxork .u64 Dt (gshl .u64 Dt 13)) 7)))) (o' := Dw) 0 0 rfl rfl rfl
 refine sq (v := (.int .u64 (gxork .u64 (gxork .u64 Dt (gshl .u64 Dt 13)) (gshr .u64 (gxork .u64 Dt (gshl .u64 Dt 13)) 7)))) (rv_load1 Tryz.underlying167 rfl rfl hc11) (sq (v := (pt Dv Dw)) (rv_move rfl) (sq (v := (pt Dv Dw)) (rv_nilCheck rfl) ?_))
 have hc12 := H.cell (u := (.int .u64 (gxork .u64 (gxork .u64 Dt (gshl .u64 Dt 13)) (gshr .u64 (gxork .u64 Dt (gshl .u64 Dt 13)) 7)))) (o' := Dw) 0 0 rfl rfl rfl
 refine sq (v := (.int .u64 (gxork .u64 (gxork .u64 Dt (gshl .u64 Dt 13)) (gshr .u64 (gxork .u64 Dt (gshl .u64 Dt 13)) 7)))) (rv_load1 Tryz.underlying167 rfl rfl hc12) ?_
 refine sq (v := (.int .u64 (gshl .u64 (gxork .u64 (gxork .u64 Dt (gshl .u64 Dt 13)) (gshr .u64 (gxork .u64 Dt (gshl .u64 Dt 13)) 7)) 17))) (rvk_shl (k := .u64) (k' := .u64) (a := (gxork .u64 (gxork .u64 Dt (gshl .u64 Dt 13)) (gshr .u64 (gxork .u64 Dt (gshl .u64 Dt 13)) 7))) (b := 17) rfl rfl (by decide)) ?_
 refine sq_end ?_
 intro σ13 hm14
 replace H := H.grow (hm14.mono fun _ h => h); clear hm14
 refine st (v := (.int .u64 (gxork .u64 (gxork .u64 (gxork .u64 Dt (gshl .u64 Dt 13)) (gshr .u64 (gxork .u64 Dt (gshl .u64 Dt 13)) 7)) (gshl .u64 (gxork .u64 (gxork .u64 Dt (gshl .u64 Dt 13)) (gshr .u64 (gxork .u64 Dt (gshl .u64 Dt 13)) 7)) 17)))) (rvk_xor (k := .u64) (a := (gxork .u64 (gxork .u64 Dt (gshl .u64 Dt 13)) (gshr .u64 (gxork .u64 Dt (gshl .u64 Dt 13)) 7))) (b := (gshl .u64 (gxork .u64 (gxork .u64 Dt (gshl .u64 Dt 13)) (gshr .u64 (gxork .u64 Dt (gshl .u64 Dt 13)) 7)) 17)) rfl rfl) (st (v := (pt Dv Dw)) (rv_nilCheck rfl) ?_)
 refine st_exS (ex_store_box (k := 0) (cs := [(.int .u64 (gxork .u64 (gxork .u64 Dt (gshl .u64 Dt 13)) (gshr .u64 (gxork .u64 Dt (gshl .u64 Dt 13)) 7)))]) (vs := [(.int .u64 (gxork .u64 (gxork .u64 (gxork .u64 Dt (gshl .u64 Dt 13)) (gshr .u64 (gxork .u64 Dt (gshl .u64 Dt 13)) 7)) (gshl .u64 (gxork .u64 (gxork .u64 Dt (gshl .u64 Dt 13)) (gshr .u64 (gxork .u64 Dt (gshl .u64 Dt 13)) 7)) 17)))]) (cs' := [(.int .u64 (gxork .u64 (gxork .u64 (gxork .u64 Dt (gshl .u64 Dt 13)) (gshr .u64 (gxork .u64 Dt (gshl .u64 Dt 13)) 7)) (gshl .u64 (gxork .u64 (gxork .u64 Dt (gshl .u64 Dt 13)) (gshr .u64 (gxork .u64 Dt (gshl .u64 Dt 13)) 7)) 17)))]) H (i := 0) rfl ti167 rfl rfl rfl rfl rfl (Nat.le_of_ble_eq_true rfl) (by simp [plain]) rfl) wn ?_
 rintro σ15 ⟨H, -⟩
 refine w_end (q_then (c_seq (rg (sm (pt Dv Dw) rfl (st (v := (pt Dv Dw)) (rv_nilCheck rfl) ?_)))))
 have hc16 := H.cell (u := (.int .u64 (gxork .u64 (gxork .u64 (gxork .u64 Dt (gshl .u64 Dt 13)) (gshr .u64 (gxork .u64 Dt (gshl .u64 Dt 13)) 7)) (gshl .u64 (gxork .u64 (gxork .u64 Dt (gshl .u64 Dt 13)) (gshr .u64 (gxork .u64 Dt (gshl .u64 Dt 13)) 7)) 17)))) (o' := Dw) 0 0 rfl rfl rfl
 refine st (v := (.int .u64 (gxork .u64 (gxork .u64 (gxork .u64 Dt (gshl .u64 Dt 13)) (gshr .u64 (gxork .u64 Dt (gshl .u64 Dt 13)) 7)) (gshl .u64 (gxork .u64 (gxork .u64 Dt (gshl .u64 Dt 13)) (gshr .u64 (gxork .u64 Dt (gshl .u64 Dt 13)) 7)) 17)))) (rv_load1 Tryz.underlying167 rfl rfl hc16) (sa (.int .u64 (gxork .u64 (gxork .u64 (gxork .u64 Dt (gshl .u64 Dt 13)) (gshr .u64 (gxork .u64 Dt (gshl .u64 Dt 13)) 7)) (gshl .u64 (gxork .u64 (gxork .u64 Dt (gshl .u64 Dt 13)) (gshr .u64 (gxork .u64 Dt (gshl .u64 Dt 13)) 7)) 17))) rfl (w_end (q_then (c_ret ?_))))
 obtain rfl := sj h
 exact fin_ret (v := (.int .u64 (gxork .u64 (gxork .u64 (gxork .u64 Dt (gshl .u64 Dt 13)) (gshr .u64 (gxork .u64 Dt (gshl .u64 Dt 13)) 7)) (gshl .u64 (gxork .u64 (gxork .u64 Dt (gshl .u64 Dt 13)) (gshr .u64 (gxork .u64 Dt (gshl .u64 Dt 13)) 7)) 17)))) (results_ok Tryz.results159 (res_tmp (v := (.int .u64 (gxork .u64 (gxork .u64 (gxork .u64 Dt (gshl .u64 Dt 13)) (gshr .u64 (gxork .u64 Dt (gshl .u64 Dt 13)) 7)) (gshl .u64 (gxork .u64 (gxork .u64 Dt (gshl .u64 Dt 13)) (gshr .u64 (gxork .u64 Dt (gshl .u64 Dt 13)) 7)) 17)))) rfl res_nil) rfl) ⟨rfl, rfl⟩ (H.sel' [0] rfl rfl)

theorem c_slices_Values_impl_hitHeap_impl_Hit {Dz : List (Int × Int)} {Ea : Option Addr} {Eb : Nat} {r : Unit} (h : M.slices_Values_impl_hitHeap_impl_Hit Dz = some r) :
    Cal2 Tryz.prog 112 [(Sl Ea Dz Eb)] [Ch.ro 0 (Sl Ea Dz Eb) Dz] (fun n0 v L => ∃ (bz1 : Nat), v = (.func (.func 132) #[] #[(pt bz1 0)]) ∧ L = [Ch.bx n0 bz1 0 [(Sl Ea Dz Eb)] [] []]) := by
 refine cal2 (n := 4) Tryz.func112 rfl rfl rfl rfl ?_
 intro S0 σ0 n0 hn0 H
 unfold M.slices_Values_impl_hitHeap_impl_Hit at h
 refine c_seq (rg (st_ex (ex_box (cs := [(Sl Ea Dz Eb)]) H hn0 rfl rfl) wn ?_))
 rintro _ σ2 ⟨b1, rfl, H, -⟩
 refine sa (.nilFunc) rfl (w_end (q_then (c_seq (rg (st (v := (.func (.func 132) #[] #[(pt b1 0)])) (rv_makeFunc (vs := [(pt b1 0)]) rfl) (sa (.func (.func 132) #[] #[(pt b1 0)]) rfl (w_end (q_then (c_ret ?_)))))))))
 obtain rfl := sj h
 exact fin_ret (v := (.func (.func 132) #[] #[(pt b1 0)])) (results_ok Tryz.results112 (res_tmp (v := (.func (.func 132) #[] #[(pt b1 0)])) rfl res_nil) rfl) ⟨b1, rfl, rfl⟩ (H.sel' [0] rfl rfl)

theorem it_slices_AppendSeq_impl_Hit_impl_Hit__slices_Values_impl_hitHeap_impl_Hit_1 {b o c l : Nat} {a : Option Addr} {xs : List (Int × Int)} {J : Nat → St → Prop} (hst : ∀ {i σ σ'}, J i σ → Md (fun _ => False) σ σ' → J i σ')
    (hbx : ∀ {i σ}, J i σ → HCell σ.w.heap b o = some (Sl a xs c) ∧ Rd 0 σ (Sl a xs c) xs) (hn : xs.length ≤ 2147483648)
    (hy : ∀ i, (h : i < xs.length) → ∀ σ, J i σ → YieldAt Fence.wide 0 Tryz.prog l [(.agg #[(I (xs[i]).1), (I (xs[i]).2)])].toArray σ.w fun e W' => e = .returned (.bool true) ∧ ∃ σ', W' = σ'.w ∧ J (i + 1) σ')
    (σ : St) (h0 : J 0 σ) : CallsIn Fence.wide 0 Tryz.prog 132 [.func (.yield l) #[] #[], (pt b o)].toArray σ.w fun e W' => (∃ v, e = .returned v) ∧ ∃ σ', W' = σ'.w ∧ J xs.length σ' := by
  refine enterI (n := 16) Tryz.func132 rfl rfl rfl ?_
  refine wpIn_seq ?_
  obtain ⟨hc, -⟩ := hbx h0
  refine rgI ?_
  refine stI nofun (v := (Sl a xs c)) (rv_load1 Tryz.underlying104 rfl rfl hc) ?_
  refine stI nofun (v := (I (xs.length : Int))) (rv_len Tryz.underlying104 rfl) ?_
  refine stI nofun (v := (I 0)) (rv_move rfl) ?_
  refine endI ?_
  refine q_then (wpIn_block ?_)
  refine wpIn_loop_ghost (fun k a' w' => ∃ i ρ σ, i + k = xs.length ∧ a' = fr 16 (updL ρ [(0, .func (.yield l) #[] #[]), (1, pt b o), (5, Sl a xs c), (6, I (xs.length : Int)), (7, I (i : Int))]) ∧ w' = σ.w ∧ J i σ) xs.length ⟨0, _, σ, by omega, fr_join ⟨rfl, rfl, rfl, rfl, rfl, trivial⟩, rfl, h0⟩ ?_
  clear hc h0
  rintro k _ _ ⟨i, ρ, σ, hik, rfl, rfl, hJ⟩
  refine wpIn_seq ?_
  refine rgI ?_
  refine stI nofun (v := (B (decide ((i : Int) < (xs.length : Int))))) (rv_lss (a := (i : Int)) (b := (xs.length : Int)) rfl rfl) ?_
  refine endI ?_
  refine q_then (wpIn_seq ?_)
  refine cdI_cond (decide ((i : Int) < (xs.length : Int))) rfl (fun hb => ?_) (fun hb => ?_)
  · have hlt : i < xs.length := by have := of_decide_eq_true hb; omega
    refine wpIn_skip ?_
    refine q_then (wpIn_seq ?_)
    refine wpIn_block ?_
    refine wpIn_seq ?_
    refine rgI ?_
    have hg : gidx xs (i : Int) = some xs[i] := gidx_at hlt
    obtain ⟨-, hR⟩ := hbx hJ
    obtain ⟨bx, ox, hi, hat⟩ := hR.ix hg
    obtain ⟨_, ⟨_, _, rfl, rfl, rfl⟩, hl, hcx⟩ := hat.cells
    refine stI nofun (v := (pt bx ox)) (rv_ix Tryz.underlying104 ti67 rfl rfl hi) ?_
    refine stI nofun (v := (.agg #[(I (xs[i]).1), (I (xs[i]).2)])) (rv_load (cs := [(I (xs[i]).1), (I (xs[i]).2)]) Tryz.underlying67 rfl ti67 rfl hl hcx) ?_
    have H : Hp (cov []) σ σ [] := Hp.begin trivial trivial
    refine stI_ex nofun (ex_alloc (lo := 0) H (Nat.zero_le _) ti67 rfl) ?_
    rintro _ σ2 ⟨b4, rfl, H, -⟩
    refine stI_exS nofun (ex_store_box (vs := [(I (xs[i]).1), (I (xs[i]).2)]) (k := 0) H (i := 0) rfl ti67 rfl rfl rfl rfl rfl (Nat.le_of_ble_eq_true rfl) (by simp [plain]) rfl) ?_
    rintro σ3 ⟨H, -⟩
    refine endI ?_
    refine q_then (wpIn_seq ?_)
    refine rgI ?_
    refine stI nofun (v := (.func (.yield l) #[] #[])) (rv_move rfl) ?_
    have hc4 := H.cells 0 rfl
    refine stI nofun (v := (.agg #[(I (xs[i]).1), (I (xs[i]).2)])) (rv_load (cs := [(I (xs[i]).1), (I (xs[i]).2)]) Tryz.underlying67 rfl ti67 rfl rfl hc4) ?_
    refine stI_yield (args := [(.agg #[(I (xs[i]).1), (I (xs[i]).2)])]) rfl rfl (hy i hlt σ3 (hst hJ H.md)) ?_
    rintro e w' ⟨rfl, σ4, rfl, hJ4⟩
    refine ⟨_, rfl, ?_⟩
    refine stI nofun (v := (B (!true))) (rv_not rfl) ?_
    refine endI ?_
    refine q_then ?_
    refine cdI_cond false rfl (fun hb => by cases hb) (fun _ => ?_)
    refine wpIn_skip ?_
    refine q_blk (q_then (rgI ?_))
    refine stI nofun (v := (I (w64 ((i : Int) + 1)))) (rv_add (a := (i : Int)) (b := 1) rfl rfl) ?_
    refine stI nofun (v := (I (w64 ((i : Int) + 1)))) (rv_move rfl) ?_
    refine endI ?_
    have e1 : w64 ((i : Int) + 1) = ((i + 1 : Nat) : Int) := w64_id (by omega) (by omega)
    rw [e1]
    refine q_then ?_
    exact ⟨k - 1, by omega, i + 1, _, σ4, by omega, fr_join ⟨rfl, rfl, rfl, rfl, rfl, trivial⟩, rfl, hJ4⟩
  · have hlt : ¬ i < xs.length := by have := of_decide_eq_false hb; omega
    have : i = xs.length := by omega
    subst this
    refine wpIn_exit ?_
    refine q_then_x (q_then_x (q_blk_hit ?_))
    exact fin_plain' (v := .tuple #[]) (results_ok Tryz.results132 res_nil rfl) ⟨⟨_, rfl⟩, σ, rfl, hJ⟩
theorem c_slices_AppendSeq_impl_Hit_impl_Hit__slices_Values_impl_hitHeap_impl_Hit_1 {Ec : List (Int × Int)} {Ed : Option Addr} {Ee : Nat} {Ef Eg Eh : Nat} {Ei Ej : List Value} {r : List (Int × Int)} (h : M.slices_AppendSeq_impl_Hit_impl_Hit__slices_Values_impl_hitHeap_impl_Hit_1 Ec = some r) :
    Cal2 Tryz.prog 137 [.slice none 0 0, (.func (.func 132) #[] #[(pt Eg Eh)])] [Ch.bx Ef Eg Eh [(Sl Ed Ec Ee)] Ei Ej, Ch.ro 0 (Sl Ed Ec Ee) Ec] (fun n0 v L => ∃ (az1 : Option Addr), ∃ (cz2 : Nat), v = (Sl az1 r cz2) ∧ L = [Ch.own n0 n0 (Sl az1 r cz2) r, Ch.bx Ef Eg Eh [(Sl Ed Ec Ee)] Ei Ej]) := by
  obtain ⟨hn, rfl⟩ := coll_some (show M.coll Ec = some r from h)
  refine ⟨⟨_, _, Tryz.func137, rfl, rfl⟩, fun σ0 n0 hn0 H => ?_⟩
  refine callsIn_wide.1 (enterI (n := 13) Tryz.func137 rfl rfl rfl ?_)
  refine wpIn_seq ?_
  refine rgI ?_
  refine stI_ex nofun (ex_box (cs := [.slice none 0 0]) H hn0 rfl rfl) ?_
  rintro _ σ1 ⟨b1, rfl, H, -⟩
  refine stI nofun (v := (.slice none 0 0)) (rv_assign rfl) ?_
  refine endI ?_
  refine q_then (wpIn_seq ?_)
  refine wpIn_seq ?_
  refine rgI ?_
  refine stI nofun (v := (.func (.func 132) #[] #[(pt Eg Eh)])) (rv_move rfl) ?_
  refine endI ?_
  refine q_then (wpIn_block ?_)
  replace H := H.nilOwn (Int × Int) n0 n0
  refine wp_rangeF (gf := 132) (lb := #[(pt Eg Eh)]) (N := r.length) (encs := fun i => [(.agg #[(I (r.getD i (0, 0)).1), (I (r.getD i (0, 0)).2)])].toArray) (by rw [fr_eval]; rfl) (eg_of ⟨_, _, Tryz.func132, rfl, rfl⟩) (fun _ _ => rfl)
    (fun i L => ∃ a' c', L = [Ch.own n0 n0 (Sl a' (r.take i) c') (r.take i), Ch.bx n0 b1 0 [(Sl a' (r.take i) c')] [] [], Ch.bx Ef Eg Eh [(Sl Ed r Ee)] Ei Ej, Ch.ro 0 (Sl Ed r Ee) r]) ⟨none, 0, rfl⟩ H ?_ ?_ ?_
  · intro l J hst hJ hy σ h0
    refine it_slices_AppendSeq_impl_Hit_impl_Hit__slices_Values_impl_hitHeap_impl_Hit_1 (J := J) (a := Ed) (c := Ee) hst (fun {i σ} h => ?_) hn (fun i hi σ h => ?_) σ h0
    · obtain ⟨L, R, ⟨a', c', rfl⟩, H⟩ := hJ h
      have H2 := H.drop R
      exact ⟨H2.cells 2 rfl 0 (by simp), (H2.ro 3 rfl).rd⟩
    · have := hy i hi σ h
      simpa [List.getD, hi] using this
  · rintro l D i rc rc' hi σ _ ⟨a', c', rfl⟩ H
    have hgd : r.getD i (0, 0) = r[i] := by simp [List.getD, hi]
    simp only [hgd]
    rw [round_fr]
    refine rgI ?_
    refine stI_ex nofun (ex_alloc (lo := n0) H hn0 ti67 rfl) ?_
    rintro _ σ2 ⟨b5, rfl, H, -⟩
    refine stI_exS nofun (ex_store_box (vs := [(I (r[i]).1), (I (r[i]).2)]) (cs' := [(I (r[i]).1), (I (r[i]).2)]) (k := 0) H (i := 0) rfl ti67 rfl rfl rfl rfl rfl (Nat.le_of_ble_eq_true rfl) (by simp [plain]) rfl) ?_
    rintro σ3 ⟨H, -⟩
    refine endI ?_
    refine q_then ?_
    refine ⟨σ3, _, rfl, H.sel' [1, 2, 0, 3, 4, 5, 6] rfl rfl, ?_⟩
    clear H
    intro σ4 H
    refine wpIn_block ?_
    refine rgI ?_
    have hc1 := H.cells 4 rfl
    refine stI nofun (v := (Sl a' (r.take i) c')) (rv_load1 Tryz.underlying29 rfl rfl (hc1 0 (by simp))) ?_
    have hc5 := H.cells 2 rfl
    refine stI nofun (v := (.agg #[(I (r[i]).1), (I (r[i]).2)])) (rv_load (cs := [(I (r[i]).1), (I (r[i]).2)]) Tryz.underlying67 rfl ti67 rfl rfl hc5) ?_
    refine stI_ex nofun (ex_buildSlice (lo := n0) (el := n0) (xs := ([((r[i]).1, (r[i]).2)] : List (Int × Int))) (ps := [(0, (.agg #[(I (r[i]).1), (I (r[i]).2)]))]) (cs := [(I (r[i]).1), (I (r[i]).2)]) H hn0 Tryz.underlying29 ti67 rfl rfl (by kernel_rfl) (.cons (c := [(I (r[i]).1), (I (r[i]).2)]) ⟨_, _, rfl, rfl, rfl⟩ .nil) rfl) ?_
    rintro _ σ5 ⟨b10, rfl, H, -⟩
    refine stI_ex nofun (ex_append H (i := 4) rfl Tryz.underlying29 Tryz.underlying29 ti67 rfl rfl (by decide) (H.own 0 rfl).rd (take_gapp hi hn) hn0 rfl rfl) ?_
    rintro _ σ6 ⟨a2, c2, rfl, H, -⟩
    refine stI_exS nofun (ex_store_box (vs := [(Sl a2 (r.take (i + 1)) c2)]) (cs' := [(Sl a2 (r.take (i + 1)) c2)]) (k := 0) H (i := 5) rfl ti29 rfl rfl rfl rfl rfl (Nat.le_of_ble_eq_true rfl) (by simp [plain, Sl]) rfl) ?_
    rintro σ7 ⟨H, -⟩
    refine endI ?_
    refine q_blk ?_
    exact ⟨rfl, σ7, _, rfl, ⟨a2, c2, rfl⟩, H.sel' [3, 4, 1, 0, 6, 7] rfl rfl⟩
  · rintro D σ _ ⟨a', c', rfl⟩ H
    rw [List.take_length] at H
    refine q_blk (q_then (wpIn_seq ?_))
    refine rgD (ds := [{ target := .collected D, args := #[] }]) ?_
    have hc1 := H.cells 2 rfl
    refine stD nofun (v := (Sl a' r c')) (rv_load1 Tryz.underlying29 rfl rfl (hc1 0 (by simp))) ?_
    refine stD nofun (v := (Sl a' r c')) (rv_assign rfl) ?_
    refine endD ?_
    refine q_then (wpIn_ret ?_)
    exact fin_mark (v := Sl a' r c') H (results_ok Tryz.results137 (res_tmp (v := Sl a' r c') rfl res_nil) rfl) ⟨_, _, _, rfl, rfl, ⟨a', c', rfl, rfl⟩, (H.putDf _).sel' [0, 2] rfl rfl⟩

theorem c_slices_Collect_impl_Hit__slices_Values_impl_hitHeap_impl_Hit_1 {Ek : List (Int × Int)} {El : Option Addr} {Em : Nat} {En Eo Ep : Nat} {Er Es : List Value} {r : (List (Int × Int))} (h : M.slices_Collect_impl_Hit__slices_Values_impl_hitHeap_impl_Hit_1 Ek = some r) :
    Cal2 Tryz.prog 130 [(.func (.func 132) #[] #[(pt Eo Ep)])] [Ch.bx En Eo Ep [(Sl El Ek Em)] Er Es, Ch.ro 0 (Sl El Ek Em) Ek] (fun n0 v L => ∃ (az1 : Option Addr), ∃ (cz2 : Nat), v = (Sl az1 r cz2) ∧ L = [Ch.own n0 n0 (Sl az1 r cz2) r, Ch.bx En Eo Ep [(Sl El Ek Em)] Er Es]) := by
 refine cal2 (n := 5) Tryz.func130 rfl rfl rfl rfl ?_
 intro S0 σ0 n0 hn0 H
 unfold M.slices_Collect_impl_Hit__slices_Values_impl_hitHeap_impl_Hit_1 at h
 refine c_seq (rg (sa (.slice none 0 0) rfl (w_end (q_then (c_seq (rg (sm (.func (.func 132) #[] #[(pt Eo Ep)]) rfl ?_)))))))
 revert h; refine br fun r1 hx2 h => ?_
 have hc3 := c_slices_AppendSeq_impl_Hit_impl_Hit__slices_Values_impl_hitHeap_impl_Hit_1 (Ef := En) (Eg := Eo) (Eh := Ep) (Ei := Er) (Ej := Es) (Ed := El) (Ee := Em) hx2
 refine st_call (cx_call hc3 (ent_f hc3.fn rfl) hn0 (H.sel' [0, 1, 1] rfl rfl : Hp S0 σ0 _ ([_, _] ++ _))) wn ?_
 rintro _ σ6 ⟨_, ⟨a4, c5, rfl, rfl⟩, H, -⟩
 replace H : Hp _ _ _ [_, _, _] := H
 refine sa (Sl a4 r1 c5) rfl (w_end (q_then (c_ret ?_)))
 obtain rfl := sj h
 exact fin_ret (v := (Sl a4 r1 c5)) (results_ok Tryz.results130 (res_tmp (v := (Sl a4 r1 c5)) rfl res_nil) rfl) ⟨a4, c5, rfl, rfl⟩ (H.sel' [0, 1] rfl rfl)

def sort131_ren : Go.Shelf.Ren := ⟨fun | 6 => 131 | 15 => 136 | 14 => 138 | 28 => 147 | 29 => 148 | 20 => 149 | 21 => 150 | 22 => 151 | 23 => 152 | 24 => 153 | 25 => 154 | 26 => 155 | 27 => 156 | 46 => 162 | 47 => 158 | 48 => 159 | 49 => 163 | 50 => 164 | 57 => 166 | n => n, fun | 22 => 29 | 24 => 67 | 25 => 95 | 3 => 3 | 39 => 132 | 0 => 0 | 53 => 148 | 55 => 150 | 4 => 4 | 46 => 157 | 45 => 156 | 50 => 90 | 5 => 5 | 9 => 9 | 66 => 167 | 70 => 171 | 76 => 175 | 77 => 176 | n => n, fun | n => n⟩
theorem sort131 : Go.Proofs.SlLaysF0.n6 Tryz.prog sort131_ren := {
  mixed := by kernel_rfl
  f6 := ⟨Tryz.f131.name, by decide, Tryz.func131.trans (congrArg some (by kernel_rfl))⟩
  f14 := ⟨Tryz.f138.name, by decide, Tryz.func138.trans (congrArg some (by kernel_rfl))⟩
  f15 := Tryz.func136.trans (congrArg some (by kernel_rfl))
  f20 := ⟨Tryz.f149.name, by decide, Tryz.func149.trans (congrArg some (by kernel_rfl))⟩
  f21 := ⟨Tryz.f150.name, by decide, Tryz.func150.trans (congrArg some (by kernel_rfl))⟩
  f22 := ⟨Tryz.f151.name, by decide, Tryz.func151.trans (congrArg some (by kernel_rfl))⟩
  f23 := ⟨Tryz.f152.name, by decide, Tryz.func152.trans (congrArg some (by kernel_rfl))⟩
  f24 := ⟨Tryz.f153.name, by decide, Tryz.func153.trans (congrArg some (by kernel_rfl))⟩
  f25 := ⟨Tryz.f154.name, by decide, Tryz.func154.trans (congrArg some (by kernel_rfl))⟩
  f26 := ⟨Tryz.f155.name, by decide, Tryz.func155.trans (congrArg some (by kernel_rfl))⟩
  f27 := ⟨Tryz.f156.name, by decide, Tryz.func156.trans (congrArg some (by kernel_rfl))⟩
  f28 := Tryz.func147.trans (congrArg some (by kernel_rfl))
  f29 := Tryz.func148.trans (congrArg some (by kernel_rfl))
  f46 := ⟨Tryz.f162.name, by decide, Tryz.func162.trans (congrArg some (by kernel_rfl))⟩
  f47 := Tryz.func158.trans (congrArg some (by kernel_rfl))
  f48 := Tryz.func159.trans (congrArg some (by kernel_rfl))
  f49 := ⟨Tryz.f163.name, by decide, Tryz.func163.trans (congrArg some (by kernel_rfl))⟩
  f50 := ⟨Tryz.f164.name, by decide, Tryz.func164.trans (congrArg some (by kernel_rfl))⟩
  f57 := ⟨Tryz.f166.name, by decide, Tryz.func166.trans (congrArg some (by kernel_rfl))⟩
  t0 := Tryz.underlying0
  a0 := Tryz.isAgg0
  z0 := Tryz.sizeOf0
  v0 := Tryz.zeroValue0
  t3 := Tryz.underlying3
  a3 := Tryz.isAgg3
  z3 := Tryz.sizeOf3
  v3 := Tryz.zeroValue3
  t4 := Tryz.underlying4
  a4 := Tryz.isAgg4
  z4 := Tryz.sizeOf4
  v4 := Tryz.zeroValue4
  t5 := Tryz.underlying5
  a5 := Tryz.isAgg5
  z5 := Tryz.sizeOf5
  v5 := Tryz.zeroValue5
  t9 := Tryz.underlying9
  a9 := Tryz.isAgg9
  z9 := Tryz.sizeOf9
  v9 := Tryz.zeroValue9
  t22 := Tryz.underlying29
  a22 := Tryz.isAgg29
  z22 := Tryz.sizeOf29
  v22 := Tryz.zeroValue29
  t25 := Tryz.underlying95
  a25 := Tryz.isAgg95
  z25 := Tryz.sizeOf95
  v25 := Tryz.zeroValue95
  t39 := Tryz.underlying132
  a39 := Tryz.isAgg132
  z39 := Tryz.sizeOf132
  v39 := Tryz.zeroValue132
  t45 := Tryz.underlying156
  a45 := Tryz.isAgg156
  z45 := Tryz.sizeOf156
  v45 := Tryz.zeroValue156
  t46 := Tryz.underlying157
  a46 := Tryz.isAgg157
  z46 := Tryz.sizeOf157
  v46 := Tryz.zeroValue157
  t50 := Tryz.underlying90
  a50 := Tryz.isAgg90
  z50 := Tryz.sizeOf90
  v50 := Tryz.zeroValue90
  t53 := Tryz.underlying148
  a53 := Tryz.isAgg148
  z53 := Tryz.sizeOf148
  v53 := Tryz.zeroValue148
  t55 := Tryz.underlying150
  a55 := Tryz.isAgg150
  z55 := Tryz.sizeOf150
  v55 := Tryz.zeroValue150
  t66 := Tryz.underlying167
  a66 := Tryz.isAgg167
  z66 := Tryz.sizeOf167
  v66 := Tryz.zeroValue167
  t70 := Tryz.underlying171
  a70 := Tryz.isAgg171
  z70 := Tryz.sizeOf171
  v70 := Tryz.zeroValue171
  t76 := Tryz.underlying175
  a76 := Tryz.isAgg175
  z76 := Tryz.sizeOf175
  v76 := Tryz.zeroValue175
  t77 := Tryz.underlying176
  a77 := Tryz.isAgg176
  z77 := Tryz.sizeOf176
  v77 := Tryz.zeroValue176 }

theorem c_slices_SortFunc_impl_Hit_impl_Hit__impl_compareHits {Ba : List (Int × Int)} {Et : Option Addr} {Eu : Nat} {r : List (Int × Int)} (h : M.slices_SortFunc_impl_Hit_impl_Hit__impl_compareHits Ba = some r) :
    Cal2 Tryz.prog 131 [(Sl Et Ba Eu), (.func (.func 73) #[] #[])] [Ch.own 0 0 (Sl Et Ba Eu) Ba] (fun n0 v L => v = (.tuple #[]) ∧ L = [Ch.own 0 0 (Sl Et r Eu) r] ∧ r.length = Ba.length) := by
 obtain ⟨hn, hs, hL, rfl⟩ := sortD_some h
 have hE : ∀ σ σ' : St, Ext σ σ' → (True) → (True) := fun _ _ _ hp => hp
 have hB : ∀ σ : St, allAs σ [] → apart [] → ∃ σp, Pb (cov []) σ σp ∧ True := fun σ _ _ => ⟨σ, ⟨rfl, fun _ _ => rfl, fun _ => Nat.le_refl _⟩, trivial⟩
 have hC : ∀ σ : St, (True) → ∀ x ∈ Ba, ∀ y ∈ Ba, ∀ cx cy, Rp.rp 0 σ cx x → Rp.rp 0 σ cy y → Calls Tryz.prog 73 ([Value.agg cx.toArray, Value.agg cy.toArray] ++ []).toArray σ.w fun e w' => e = .returned (I ((M.impl_compareHits (x.1, x.2) (y.1, y.2)).getD 0)) ∧ ∃ q os, w' = Go.Sort.grow (σ.w.drewN q) os := by
     intro σ hp x hx y hy cx cy rx ry
     obtain ⟨r, hr⟩ := hs x hx y hy
     obtain ⟨_, _, rfl, rfl, rfl⟩ := rx
     obtain ⟨_, _, rfl, rfl, rfl⟩ := ry
     have hc := c_impl_compareHits  hr
     refine (hc.runs σ 0 (Nat.zero_le _) (Hp.begin trivial trivial)).mono ?_
     rintro e w' ⟨v, σ', L', rfl, rfl, ⟨rfl, -⟩, H⟩
     exact ⟨by rw [hr]; rfl, (H.md.mono fun i => fun h => h).grown⟩
 refine (sort_cal2 (α := (Int × Int)) sort131 Tryz.isAgg67 Tryz.sizeOf67 (xs := Ba) (a := Et) (c := Eu) (g := 73) (cb := []) (B := []) (fun x y => (M.impl_compareHits (x.1, x.2) (y.1, y.2)).getD 0) hL hn ⟨_, _, Tryz.func73, rfl, rfl⟩ _ hE hB hC).conv ?_
 rintro m v L ⟨rfl, rfl⟩
 exact ⟨_, ⟨rfl, rfl, sortL_len⟩, fun H => H.sel' [0] rfl rfl⟩

theorem c_slices_SortedFunc_impl_Hit__slices_Values_impl_hitHeap_impl_Hit_1__impl_compareHits {Ek : List (Int × Int)} {El : Option Addr} {Em : Nat} {En Eo Ep : Nat} {Er Es : List Value} {r : (List (Int × Int))} (h : M.slices_SortedFunc_impl_Hit__slices_Values_impl_hitHeap_impl_Hit_1__impl_compareHits Ek = some r) :
    Cal2 Tryz.prog 111 [(.func (.func 132) #[] #[(pt Eo Ep)]), (.func (.func 73) #[] #[])] [Ch.bx En Eo Ep [(Sl El Ek Em)] Er Es, Ch.ro 0 (Sl El Ek Em) Ek] (fun n0 v L => ∃ (az1 : Option Addr), ∃ (cz2 : Nat), v = (Sl az1 r cz2) ∧ L = [Ch.own 0 n0 (Sl az1 r cz2) r, Ch.bx En Eo Ep [(Sl El Ek Em)] Er Es]) := by
 refine cal2 (n := 12) Tryz.func111 rfl rfl rfl rfl ?_
 intro S0 σ0 n0 hn0 H
 unfold M.slices_SortedFunc_impl_Hit__slices_Values_impl_hitHeap_impl_Hit_1__impl_compareHits at h
 refine c_seq (rg (sa (.slice none 0 0) rfl (w_end (q_then (c_seq (rg (sm (.func (.func 132) #[] #[(pt Eo Ep)]) rfl ?_)))))))
 revert h; refine br fun r1 hx2 h => ?_
 have hc3 := c_slices_Collect_impl_Hit__slices_Values_impl_hitHeap_impl_Hit_1 (En := En) (Eo := Eo) (Ep := Ep) (Er := Er) (Es := Es) (El := El) (Em := Em) hx2
 refine st_call (cx_call hc3 (ent_f hc3.fn rfl) hn0 (H.sel' [0, 1, 1] rfl rfl : Hp S0 σ0 _ ([_, _] ++ _))) wn ?_
 rintro _ σ6 ⟨_, ⟨a4, c5, rfl, rfl⟩, H, -⟩
 replace H : Hp _ _ _ [_, _, _] := H
 refine sa (Sl a4 r1 c5) rfl (w_end (q_then (c_seq (rg (sm (Sl a4 r1 c5) rfl (sm (.func (.func 73) #[] #[]) rfl ?_))))))
 replace H := H.ownLow 0 0 0 rfl (Nat.zero_le _) (Nat.zero_le _)
 revert h; refine br fun r7 hx8 h => ?_
 have hc9 := c_slices_SortFunc_impl_Hit_impl_Hit__impl_compareHits (Et := a4) (Eu := c5) hx8
 refine st_call (cx_call hc9 (ent_f hc9.fn rfl) hn0 (H.sel' [0, 1, 2] rfl rfl : Hp S0 σ0 _ ([_] ++ _))) wn ?_
 rintro _ σ11 ⟨_, ⟨rfl, rfl, hn10⟩, H, -⟩
 replace H : Hp _ _ _ [_, _, _] := H
 have hsl : (Sl a4 r1 c5) = (Sl a4 r7 c5) := sl_len hn10.symm
 try rw [hsl]
 try rw [hsl] at H
 clear hsl
 refine w_end (q_then (c_seq (rg (sm (Sl a4 r7 c5) rfl (sa (Sl a4 r7 c5) rfl (w_end (q_then (c_ret ?_))))))))
 replace H := H.ownSc 0 0 n0 rfl (Nat.le_refl _)
 obtain rfl := sj h
 exact fin_ret (v := (Sl a4 r7 c5)) (results_ok Tryz.results111 (res_tmp (v := (Sl a4 r7 c5)) rfl res_nil) rfl) ⟨a4, c5, rfl, rfl⟩ (H.sel' [0, 1] rfl rfl)

theorem c_impl_nearestHits_inOrder {Aj : Int × (List (Int × Int))} {Dk : Option Addr} {Dm : Nat} {Dn Do Dq : Nat} {Dr Ds : List Value} {r : (List (Int × Int))} (h : M.impl_nearestHits_inOrder Aj = some r) :
    Cal2 Tryz.prog 86 [(pt Do Dq)] [Ch.bx Dn Do Dq [(I Aj.1), (Sl Dk Aj.2 Dm)] Dr Ds, Ch.ro 0 (Sl Dk Aj.2 Dm) Aj.2] (fun n0 v L => ∃ (az1 : Option Addr), ∃ (cz2 : Nat), v = (Sl az1 r cz2) ∧ L = [Ch.own 0 n0 (Sl az1 r cz2) r, Ch.bx Dn Do Dq [(I Aj.1), (Sl Dk Aj.2 Dm)] Dr Ds]) := by
 refine cal2 (n := 9) Tryz.func86 rfl rfl rfl rfl ?_
 intro S0 σ0 n0 hn0 H
 unfold M.impl_nearestHits_inOrder at h
 refine c_seq (rg (sa (.slice none 0 0) rfl (w_end (q_then (c_seq (rg (sm (pt Do Dq) rfl (st (v := (pt Do Dq)) (rv_nilCheck rfl) (st (v := (pt Do (Dq + 1))) (rv_fieldAddr (off := 1) (ft := 104) Tryz.underlying106 rfl ti104 rfl rfl) ?_)))))))))
 have hc1 := H.cell (u := (Sl Dk Aj.2 Dm)) (o' := (Dq + 1)) 0 1 rfl rfl rfl
 refine st (v := (Sl Dk Aj.2 Dm)) (rv_load1 Tryz.underlying104 rfl rfl hc1) ?_
 revert h; refine br fun r2 hx3 h => ?_
 have hc4 := c_slices_Values_impl_hitHeap_impl_Hit (Ea := Dk) (Eb := Dm) hx3
 refine st_call (cx_call hc4 (ent_f hc4.fn rfl) hn0 (H.sel' [1, 0, 1] rfl rfl : Hp S0 σ0 _ ([_] ++ _))) wn ?_
 rintro _ σ6 ⟨_, ⟨b5, rfl, rfl⟩, H, -⟩
 replace H : Hp _ _ _ [_, _, _] := H
 revert h; refine br fun r7 hx8 h => ?_
 have hc9 := c_slices_SortedFunc_impl_Hit__slices_Values_impl_hitHeap_impl_Hit_1__impl_compareHits (En := n0) (Eo := b5) (Ep := 0) (Er := []) (Es := []) (El := Dk) (Em := Dm) hx8
 refine st_call (cx_call hc9 (ent_f hc9.fn rfl) hn0 (H.sel' [0, 2, 1, 2] rfl rfl : Hp S0 σ0 _ ([_, _] ++ _))) wn ?_
 rintro _ σ12 ⟨_, ⟨a10, c11, rfl, rfl⟩, H, -⟩
 replace H : Hp _ _ _ [_, _, _, _] := H
 refine sa (Sl a10 r7 c11) rfl (w_end (q_then (c_ret ?_)))
 obtain rfl := sj h
 exact fin_ret (v := (Sl a10 r7 c11)) (results_ok Tryz.results86 (res_tmp (v := (Sl a10 r7 c11)) rfl res_nil) rfl) ⟨a10, c11, rfl, rfl⟩ (H.sel' [0, 2] rfl rfl)

theorem c_slices_Min_int_int {Ba : List Int} {Et : Option Addr} {Eu : Nat} {r : Int} (h : M.slices_Min_int_int Ba = some r) :
    Cal2 Tryz.prog 114 [(Sl Et Ba Eu)] [Ch.ro 0 (Sl Et Ba Eu) Ba] (fun n0 v L => v = (I r) ∧ L = []) := by
 refine cal2 (n := 25) Tryz.func114 rfl rfl rfl rfl ?_
 intro S0 σ0 n0 hn0 H
 unfold M.slices_Min_int_int at h
 refine c_seq (rg (sa (I 0) rfl (w_end (q_then (c_seq (c_seq (rg (sm (Sl Et Ba Eu) rfl (st (v := (I (Ba.length : Int))) (rv_len Tryz.underlying26 rfl) (st (v := (B (decide ((Ba.length : Int) < 1)))) (rv_lss (a := (Ba.length : Int)) (b := 1) rfl rfl) (w_end ?_)))))))))))
 refine q_then ?_
 refine cd_cond (decide ((Ba.length : Int) < 1)) rfl (fun hb1 => ?_) (fun hb1 => ?_)
 ·replace h := bif_t hb1 h
  refine rg (st (v := (.iface 9 (.string (ByteArray.mk #[115, 108, 105, 99, 101, 115, 46, 77, 105, 110, 58, 32, 101, 109, 112, 116, 121, 32, 108, 105, 115, 116])))) (rv_makeInterface Tryz.underlying9 rfl rfl) ?_)
  cases h
 ·replace h := bif_f hb1 h
  refine c_skip (q_then (c_seq (rg (sm (Sl Et Ba Eu) rfl ?_))))
  revert h; refine br fun x2 hx3 h => ?_
  obtain ⟨b5, o6, hi4, -⟩ := (H.ro 0 rfl).ix hx3
  refine st (v := (pt b5 o6)) (rv_ix Tryz.underlying26 ti3 rfl rfl hi4) ?_
  have hc7 := ((H.ro 0 rfl).at hx3 hi4).int
  refine st (v := (I x2)) (rv_load1 Tryz.underlying3 rfl rfl hc7) (sa (I x2) rfl (w_end (q_then (c_seq (c_seq (rg (sa (I 1) rfl (w_end (q_then ?_)))))))))
  obtain ⟨o8, hj, h'⟩ := bind_some h
  clear h
  refine c_cut (fun e a w => e = .normal ∧ ∃ (ρ : Nat → Value) (σ : St), a = fr 25 (updL ρ [(3, (I o8))]) ∧ w = σ.w ∧ Hp S0 σ0 σ []) ?_ ?_
  ·clear h'
   rename _ = some o8 => h
   refine c_blk (wp_loopM _ h (fun s9 a w => ∃ (ρ : Nat → Value) (σ : St), a = fr 25 (updL ρ [(0, (Sl Et Ba Eu)), (3, (I s9.1)), (4, (I s9.2))]) ∧ w = σ.w ∧ Hp S0 σ0 σ [Ch.ro 0 (Sl Et Ba Eu) Ba]) ⟨_, σ0, fr_join ⟨rfl, rfl, rfl, trivial⟩, rfl, H.sel' [0] rfl rfl⟩ ?_)
   clear h H
   rintro s9 a w o ⟨ρ, σ10, rfl, rfl, H⟩ h hres
   refine c_seq (c_seq (rg (sm (I s9.2) rfl (sm (Sl Et Ba Eu) rfl (st (v := (I (Ba.length : Int))) (rv_len Tryz.underlying26 rfl) (st (v := (B (decide (s9.2 < (Ba.length : Int))))) (rv_lss (a := s9.2) (b := (Ba.length : Int)) rfl rfl) (w_end (q_then ?_))))))))
   refine cd_cond (decide (s9.2 < (Ba.length : Int))) rfl (fun hb11 => ?_) (fun hb11 => ?_)
   ·replace h := bif_t hb11 h
    refine c_skip (q_then (c_seq (c_blk (rg (sm (I s9.1) rfl (sm (Sl Et Ba Eu) rfl (sm (I s9.2) rfl ?_)))))))
    revert h; refine br fun x12 hx13 h => ?_
    obtain ⟨b15, o16, hi14, -⟩ := (H.ro 0 rfl).ix hx13
    refine st (v := (pt b15 o16)) (rv_ix Tryz.underlying26 ti3 rfl rfl hi14) ?_
    have hc17 := ((H.ro 0 rfl).at hx13 hi14).int
    refine st (v := (I x12)) (rv_load1 Tryz.underlying3 rfl rfl hc17) (st (v := (I (min s9.1 x12))) (rv_min rfl rfl) (sa (I (min s9.1 x12)) rfl (w_end (q_blk (q_then (rg (sm (I s9.2) rfl (st (v := (I (w64 (s9.2 + 1)))) (rv_add (a := s9.2) (b := 1) rfl rfl) (sa (I (w64 (s9.2 + 1))) rfl (w_end (q_then ?_)))))))))))
    obtain rfl := sj h
    exact ⟨_, rfl, _, σ10, fr_join ⟨rfl, rfl, rfl, trivial⟩, rfl, H.sel' [0] rfl rfl⟩
   ·replace h := bif_f hb11 h
    refine c_exit (q_then_x (q_then_x (q_blk_hit ?_)))
    obtain rfl := sj h
    obtain rfl := hres _ rfl
    exact ⟨rfl, _, σ10, fr_join ⟨rfl, trivial⟩, rfl, H.sel' [] rfl rfl⟩
  ·clear hj
   have h := h'
   clear h' H
   rintro e a w ⟨rfl, ρ, σ18, rfl, rfl, H⟩
   refine q_then (c_seq (rg (sm (I o8) rfl (sa (I o8) rfl (w_end (q_then (c_ret ?_)))))))
   obtain rfl := sj h
   exact fin_ret (v := (I o8)) (results_ok Tryz.results114 (res_tmp (v := (I o8)) rfl res_nil) rfl) ⟨rfl, rfl⟩ (H.sel' [] rfl rfl)

theorem c_slices_Index_int_int {Dz : List Int} {Ev : Int} {Ea : Option Addr} {Eb : Nat} {r : Int} (h : M.slices_Index_int_int Dz Ev = some r) :
    Cal2 Tryz.prog 113 [(Sl Ea Dz Eb), (I Ev)] [Ch.ro 0 (Sl Ea Dz Eb) Dz] (fun n0 v L => v = (I r) ∧ L = []) := by
 refine cal2 (n := 19) Tryz.func113 rfl rfl rfl rfl ?_
 intro S0 σ0 n0 hn0 H
 unfold M.slices_Index_int_int at h
 refine c_seq (rg (sa (I 0) rfl (w_end (q_then (c_seq (c_seq (rg (sm (Sl Ea Dz Eb) rfl (st (v := (I (Dz.length : Int))) (rv_len Tryz.underlying26 rfl) (sm (I 0) rfl (w_end ?_)))))))))))
 refine q_then ?_
 obtain ⟨o1, hj, h'⟩ := bind_some h
 clear h
 refine c_cut (fun e a w => (∃ t, o1 = (.inl t) ∧ e = .normal ∧ ∃ (ρ : Nat → Value) (σ : St), a = fr 19 (updL ρ []) ∧ w = σ.w ∧ Hp S0 σ0 σ []) ∨ (∃ t, o1 = (.inr t) ∧ e = .ret ∧ ∃ (ρ : Nat → Value) (σ : St), a = fr 19 (updL ρ [(4, (I t))]) ∧ w = σ.w ∧ Hp S0 σ0 σ [])) ?_ ?_
 ·clear h'
  rename _ = some o1 => h
  refine c_blk (wp_loopM _ h (fun s2 a w => ∃ (ρ : Nat → Value) (σ : St), a = fr 19 (updL ρ [(0, (Sl Ea Dz Eb)), (1, (I Ev)), (7, (I (Dz.length : Int))), (8, (I s2))]) ∧ w = σ.w ∧ Hp S0 σ0 σ [Ch.ro 0 (Sl Ea Dz Eb) Dz]) ⟨_, σ0, fr_join ⟨rfl, rfl, rfl, rfl, trivial⟩, rfl, H.sel' [0] rfl rfl⟩ ?_)
  clear h H
  rintro s2 a w o ⟨ρ, σ3, rfl, rfl, H⟩ h hres
  refine c_seq (rg (st (v := (B (decide (s2 < (Dz.length : Int))))) (rv_lss (a := s2) (b := (Dz.length : Int)) rfl rfl) (w_end (q_then (c_seq ?_)))))
  refine cd_cond (decide (s2 < (Dz.length : Int))) rfl (fun hb4 => ?_) (fun hb4 => ?_)
  ·replace h := bif_t hb4 h
   refine c_skip (q_then (c_seq (c_blk (c_seq (rg (sm (I s2) rfl (sa (I s2) rfl (w_end (q_then (c_seq (rg ?_)))))))))))
   refine sm (I Ev) rfl (sm (Sl Ea Dz Eb) rfl (sm (I s2) rfl ?_))
   revert h; refine br fun x5 hx6 h => ?_
   obtain ⟨b8, o9, hi7, -⟩ := (H.ro 0 rfl).ix hx6
   refine st (v := (pt b8 o9)) (rv_ix Tryz.underlying26 ti3 rfl rfl hi7) ?_
   have hc10 := ((H.ro 0 rfl).at hx6 hi7).int
   refine st (v := (I x5)) (rv_load1 Tryz.underlying3 rfl rfl hc10) (st (v := (B (Ev == x5))) (rv_eql (a := Ev) (b := x5) rfl rfl) (w_end (q_then ?_)))
   refine cd_cond (Ev == x5) rfl (fun hb11 => ?_) (fun hb11 => ?_)
   ·replace h := bif_t hb11 h
    refine c_seq (rg (sm (I s2) rfl (sa (I s2) rfl (w_end (q_then (c_ret (q_blk_r (q_then_r (q_then_r (q_blk_r ?_))))))))))
    obtain rfl := sj h
    obtain rfl := hres _ rfl
    exact .inr (⟨_, rfl, rfl, _, σ3, fr_join ⟨rfl, trivial⟩, rfl, H.sel' [] rfl rfl⟩)
   ·replace h := bif_f hb11 h
    refine c_skip (q_blk (q_then (rg (st (v := (I (w64 (s2 + 1)))) (rv_add (a := s2) (b := 1) rfl rfl) (sm (I (w64 (s2 + 1))) rfl (w_end (q_then ?_)))))))
    obtain rfl := sj h
    exact ⟨_, rfl, _, σ3, fr_join ⟨rfl, rfl, rfl, rfl, trivial⟩, rfl, H.sel' [0] rfl rfl⟩
  ·replace h := bif_f hb4 h
   refine c_exit (q_then_x (q_then_x (q_blk_hit ?_)))
   obtain rfl := sj h
   obtain rfl := hres _ rfl
   exact .inl ⟨_, rfl, rfl, _, σ3, fr_join trivial, rfl, H.sel' [] rfl rfl⟩
 ·clear hj
  have h := h'
  clear h' H
  rintro e a w (⟨t12, rfl, rfl, ρ, σ13, rfl, rfl, H⟩ | ⟨t14, rfl, rfl, ρ, σ15, rfl, rfl, H⟩)
  ·replace h := selim_l h
   refine q_then (c_seq (rg (sa (I (-1)) rfl (w_end (q_then (c_ret ?_))))))
   obtain rfl := sj h
   exact fin_ret (v := (I (-1))) (results_ok Tryz.results113 (res_tmp (v := (I (-1))) rfl res_nil) rfl) ⟨rfl, rfl⟩ (H.sel' [] rfl rfl)
  ·replace h := selim_r h
   refine q_then_r ?_
   obtain rfl := sj h
   exact fin_ret (v := (I t14)) (results_ok Tryz.results113 (res_tmp (v := (I t14)) rfl res_nil) rfl) ⟨rfl, rfl⟩ (H.sel' [] rfl rfl)

theorem c_impl_sideTable_nearest {Ew : List Int} (Ey : Ew.length = 4) {r : Int} (h : M.impl_sideTable_nearest Ew = some r) :
    Cal2 Tryz.prog 87 [(.agg (List.map I Ew).toArray)] [] (fun n0 v L => v = (I r) ∧ L = []) := by
 refine cal2 (n := 7) Tryz.func87 rfl rfl rfl rfl ?_
 intro S0 σ0 n0 hn0 H
 unfold M.impl_sideTable_nearest at h
 refine c_seq (rg (st_ex (ex_box (cs := (List.map I Ew)) H hn0 rfl rfl) wn ?_))
 rintro _ σ2 ⟨b1, rfl, H, -⟩
 refine sa (I 0) rfl (w_end (q_then (c_seq ?_)))
 replace H := Hp.arr (el := n0) H (i := 0) rfl Ey
 obtain ⟨σ3, hw4, H, -⟩ := H.pub 0 rfl (Nat.le_refl _)
 rw [← hw4]; clear hw4
 replace H := H.roLow 0 0 rfl (Nat.zero_le _)
 revert h; refine br fun r5 hx6 h => ?_
 have hc7 := c_slices_Min_int_int (Et := (some ⟨b1, 0, none⟩)) (Eu := 4) hx6
 have Hs := H
 refine rg2 (σ := σ3) (Nm := Unit) 3 [2] [[false], [true]] [[(0, 0), (1, 1)], [(0, 0)], [(0, 1)]] 1 [fun _ => fun σm => Hp S0 σ0 σm [Ch.ro 0 (Sl (some ⟨b1, 0, none⟩) Ew 4) Ew, Ch.ro n0 (Sl (some ⟨b1, 0, none⟩) Ew 4) Ew] ∧ Md (cov []) σ3 σm, fun _ => fun σm => Hp S0 σ0 σm [Ch.ro 0 (Sl (some ⟨b1, 0, none⟩) Ew 4) Ew, Ch.ro n0 (Sl (some ⟨b1, 0, none⟩) Ew 4) Ew] ∧ Md (cov []) σ3 σm] [fun _ => (Sl (some ⟨b1, 0, none⟩) Ew 4), fun _ => (Sl (some ⟨b1, 0, none⟩) Ew 4), fun _ => (I r5)] () (by kernel_rfl) (by kernel_rfl) ?_ ?_ ?_
 ·intro σm m0
  exact ⟨H.grow (m0.mono fun _ h => h.elim), m0⟩
 ·refine ac rfl (by
    intro k _nm ρ σm hJ hoff hdep
    have e1 := look_off (N := 7) (hoff 1 rfl) rfl
    exact dp_v (v := (Sl (some ⟨b1, 0, none⟩) Ew 4)) wn (rv_slice_arrL Tryz.underlying101 ti3 (by decide) e1 Ey) rfl hJ) ?_
  refine ac rfl (by
    intro k _nm ρ σm hJ hoff hdep
    have e1 := look_off (N := 7) (hoff 1 rfl) rfl
    exact dp_v (v := (Sl (some ⟨b1, 0, none⟩) Ew 4)) wn (rv_slice_arrL Tryz.underlying101 ti3 (by decide) e1 Ey) rfl hJ) ?_
  refine all_cons (by
    refine ⟨?_, ?_⟩
    ·intro _nm ρ σm hJ hoff hdep
     have e4 : look 7 ρ 4 = (Sl (some ⟨b1, 0, none⟩) Ew 4) := hdep 1 rfl rfl 4 rfl
     obtain ⟨H, m⟩ := id hJ
     refine dp_cx wn (cx_call hc7 (ent_f hc7.fn (by show [look 7 ρ 4] = _; rw [e4])) hn0 (H.sel' [0, 0, 1] rfl rfl : Hp S0 σ0 _ ([_] ++ _))) ?_
     rintro _ σq ⟨_, ⟨rfl, rfl⟩, H2, m2⟩
     exact ⟨_, (), rfl, rfl, ⟨H2.sel' [0, 1] rfl rfl, m.comp0 (m2.mono (fun i h => by simp [cov, Ch.ro] at h))⟩, stab [0, 1] (by kernel_rfl) ⟨rfl, rfl, trivial⟩⟩
    trivial) ?_
  exact all_nil
 ·intro _nm ρ σ8 hJ hoff hrel
  have e3 := hrel 0 rfl 3 rfl
  have e5 := hrel 2 rfl 5 rfl
  obtain ⟨H, -⟩ := (show Hp S0 σ0 σ8 [Ch.ro 0 (Sl (some ⟨b1, 0, none⟩) Ew 4) Ew, Ch.ro n0 (Sl (some ⟨b1, 0, none⟩) Ew 4) Ew] ∧ Md (cov []) σ3 σ8 from hJ)
  clear hJ Hs
  rw [fr_lookL (L := [(3, (Sl (some ⟨b1, 0, none⟩) Ew 4)), (5, (I r5))]) ⟨e3, e5, trivial⟩]
  clear hoff hrel e3 e5
  replace H := H.roLow 1 0 rfl (Nat.zero_le _)
  revert h; refine br fun r9 hx10 h => ?_
  have hc11 := c_slices_Index_int_int (Ea := (some ⟨b1, 0, none⟩)) (Eb := 4) hx10
  refine st_call (cx_call hc11 (ent_f hc11.fn rfl) hn0 (H.sel' [0, 0, 1, 2] rfl rfl : Hp S0 σ0 _ ([_] ++ _))) wn ?_
  rintro _ σ12 ⟨_, ⟨rfl, rfl⟩, H, -⟩
  replace H : Hp _ _ _ [_, _, _] := H
  refine sa (I r9) rfl (w_end (q_then (c_ret ?_)))
  obtain rfl := sj h
  exact fin_ret (v := (I r9)) (results_ok Tryz.results87 (res_tmp (v := (I r9)) rfl res_nil) rfl) ⟨rfl, rfl⟩ (H.sel' [] rfl rfl)

end Go.Vs
