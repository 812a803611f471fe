/- The functions compute what their models say. -/
import Derived.Test.YtdjjikmfkejdiaeGreatKExactCodeNearestC3
set_option linter.unusedVariables false
set_option linter.unusedSimpArgs false
set_option maxRecDepth 20000
namespace Go.Vs
open Go Go.Proofs
attribute [local irreducible] Code.wp Code.wpIn wpList wpListIn wpQuiet Calls CallsIn

theorem c_impl_EncodeVector {Ar : (List (List Int)) × (List (List Int))} {By : List Int} {As : Option Addr} {Au : Nat} {Av : Option Addr} {Aw : Nat} {Bz : Option Addr} {Ca : Nat} {r : Int} (h : M.impl_EncodeVector Ar By = some r) :
    Cal2 Tryz.prog 48 [(.agg #[(Sl As Ar.1 Au), (Sl Av Ar.2 Aw)]), (Sl Bz By Ca)] [Ch.ro 0 (Sl As Ar.1 Au) Ar.1, Ch.ro 0 (Sl Av Ar.2 Aw) Ar.2, Ch.ro 0 (Sl Bz By Ca) By] (fun n0 v L => v = (I r) ∧ L = []) := by
 refine cal2 (n := 27) Tryz.func48 rfl rfl rfl rfl ?_
 intro S0 σ0 n0 hn0 H
 unfold M.impl_EncodeVector at h
 refine c_seq (rg (st_ex (ex_box (cs := [(Sl As Ar.1 Au), (Sl Av Ar.2 Aw)]) H hn0 rfl rfl) wn ?_))
 rintro _ σ2 ⟨b1, rfl, H, -⟩
 refine sa (I 0) rfl (w_end (q_then (c_seq (c_seq ?_))))
 obtain ⟨o3, hj, h'⟩ := bind_some h
 clear h
 refine c_cut (fun e a w => e = .normal ∧ ∃ (ρ : Nat → Value) (σ : St), a = fr 27 (updL ρ [(1, (Sl Bz By Ca)), (2, (pt b1 0)), (14, (B o3))]) ∧ w = σ.w ∧ Hp S0 σ0 σ [Ch.ro 0 (Sl Bz By Ca) By, Ch.ro 0 (Sl As Ar.1 Au) Ar.1, Ch.ro 0 (Sl Av Ar.2 Aw) Ar.2, Ch.bx n0 b1 0 [(Sl As Ar.1 Au), (Sl Av Ar.2 Aw)] [] []]) ?_ ?_
 ·clear h'
  rename _ = some o3 => h
  refine rg ?_
  have hc4 := H.cells 0 rfl
  refine st (v := (.agg #[(Sl As Ar.1 Au), (Sl Av Ar.2 Aw)])) (rv_load (cs := [(Sl As Ar.1 Au), (Sl Av Ar.2 Aw)]) Tryz.underlying31 rfl ti31 rfl rfl hc4) ?_
  revert h; refine br fun r5 hx6 h => ?_
  have hc7 := c_impl_ValidBook (As := As) (Au := Au) (Av := Av) (Aw := Aw) hx6
  refine st_call (cx_call hc7 (ent_f hc7.fn rfl) hn0 (H.sel' [1, 2, 0, 1, 2, 3] rfl rfl : Hp S0 σ0 _ ([_, _] ++ _))) wn ?_
  rintro _ σ8 ⟨_, ⟨rfl, rfl⟩, H, -⟩
  replace H : Hp _ _ _ [_, _, _, _] := H
  refine st (v := (B (!r5))) (rv_not rfl) (sm (B (!r5)) rfl ?_)
  rcases Bool.eq_false_or_eq_true (!r5) with hb9 | hb9
  ·replace h := bif_t hb9 h
   refine st_skip (congrArg some hb9) (st_skip (congrArg some hb9) (st_skip (congrArg some hb9) (st (v := (B true)) (rv_pick_t (congrArg B hb9) rfl) (w_end ?_))))
   obtain rfl := sj h
   exact ⟨rfl, _, σ8, fr_join ⟨rfl, rfl, rfl, trivial⟩, rfl, H.sel' [3, 1, 2, 0] rfl rfl⟩
  ·replace h := bif_f hb9 h
   refine st_g (v := (Sl Bz By Ca)) (congrArg some hb9) (rv_move rfl) ?_
   revert h; refine br fun r10 hx11 h => ?_
   have hc12 := c_impl_ValidVector (Ay := Bz) (Az := Ca) hx11
   refine st_call (cx_call hc12 (ent_f hc12.fn rfl) hn0 (H.sel' [3, 0, 1, 2, 3] rfl rfl : Hp S0 σ0 _ ([_] ++ _))) (wanted_yes rfl (by exact (congrArg some hb9))) ?_
   rintro _ σ13 ⟨_, ⟨rfl, rfl⟩, H, -⟩
   replace H : Hp _ _ _ [_, _, _, _] := H
   refine st_g (v := (B (!r10))) (congrArg some hb9) (rv_not rfl) (st (v := (B (!r10))) (rv_pick_f (congrArg B hb9) rfl) (w_end ?_))
   obtain rfl := sj h
   exact ⟨rfl, _, σ13, fr_join ⟨rfl, rfl, rfl, trivial⟩, rfl, H.sel' [3, 1, 2, 0] rfl rfl⟩
 ·clear hj
  have h := h'
  clear h' H
  rintro e a w ⟨rfl, ρ, σ14, rfl, rfl, H⟩
  refine q_then ?_
  refine cd_cond o3 rfl (fun hb15 => ?_) (fun hb15 => ?_)
  ·replace h := bif_t hb15 h
   refine c_seq (rg (sa (I (-1)) rfl (w_end (q_then (c_ret (q_then_r ?_))))))
   obtain rfl := sj h
   exact fin_ret (v := (I (-1))) (results_ok Tryz.results48 (res_tmp (v := (I (-1))) rfl res_nil) rfl) ⟨rfl, rfl⟩ (H.sel' [] rfl rfl)
  ·replace h := bif_f hb15 h
   refine c_skip (q_then (c_seq (rg ?_)))
   have hc16 := H.cells 3 rfl
   refine st (v := (.agg #[(Sl As Ar.1 Au), (Sl Av Ar.2 Aw)])) (rv_load (cs := [(Sl As Ar.1 Au), (Sl Av Ar.2 Aw)]) Tryz.underlying31 rfl ti31 rfl rfl hc16) (sm (Sl Bz By Ca) rfl ?_)
   revert h; refine br fun r17 hx18 h => ?_
   have hc19 := c_impl_tablesOf (As := As) (Au := Au) (Av := Av) (Aw := Aw) (Bz := Bz) (Ca := Ca) hx18
   refine st_call (cx_call hc19 (ent_f hc19.fn rfl) hn0 (H.sel' [1, 2, 0, 0, 1, 2, 3] rfl rfl : Hp S0 σ0 _ ([_, _, _] ++ _))) wn ?_
   rintro _ σ22 ⟨_, ⟨rfl, rfl, hl20, hl21⟩, H, -⟩
   replace H : Hp _ _ _ [_, _, _, _] := H
   refine sm (.tuple #[(.agg (List.map I r17.1).toArray), (.agg (List.map I r17.2).toArray)]) rfl (st (v := (.agg (List.map I r17.1).toArray)) (rv_extract rfl rfl) (st (v := (.agg (List.map I r17.2).toArray)) (rv_extract rfl rfl) (st_ex (ex_alloc (cs := (List.map I (List.replicate 4 0))) H hn0 ti101 rfl) wn ?_)))
   rintro _ σ24 ⟨b23, rfl, H, -⟩
   refine st_ex (ex_alloc (cs := (List.map I (List.replicate 4 0))) H hn0 ti101 rfl) wn ?_
   rintro _ σ26 ⟨b25, rfl, H, -⟩
   refine st_exS (ex_store_box (k := 0) (cs := (List.map I (List.replicate 4 0))) (vs := (List.map I r17.1)) (cs' := (List.map I r17.1)) H (i := 1) rfl ti101 rfl rfl rfl rfl ((List.length_map _).trans hl20) (arr_fits (k := 4) hl20 rfl) (plain_ints _) (arr_all (k := 4) hl20 rfl)) wn ?_
   rintro σ27 ⟨H, -⟩
   refine st_exS (ex_store_box (k := 0) (cs := (List.map I (List.replicate 4 0))) (vs := (List.map I r17.2)) (cs' := (List.map I r17.2)) H (i := 1) rfl ti101 rfl rfl rfl rfl ((List.length_map _).trans hl21) (arr_fits (k := 4) hl21 rfl) (plain_ints _) (arr_all (k := 4) hl21 rfl)) wn ?_
   rintro σ28 ⟨H, -⟩
   refine w_end (q_then (c_seq ?_))
   have hc29 := H.cells 1 rfl
   revert h; refine br fun r30 hx31 h => ?_
   have hc32 := c_impl_sideTable_nearest hl20 hx31
   have hc33 := H.cells 0 rfl
   revert h; refine br fun r34 hx35 h => ?_
   have hc36 := c_impl_sideTable_nearest hl21 hx35
   have Hs := H
   refine rg2 (σ := σ28) (Nm := Unit) 5 [1, 4] [[false, false], [true, false], [true, true]] [[(0, 0)], [(0, 1)], [(1, 1), (2, 2)], [(0, 0), (1, 1)], [(1, 2)]] 2 [fun _ => fun σm => Hp S0 σ0 σm [Ch.bx n0 b25 0 (List.map I r17.2) [] [], Ch.bx n0 b23 0 (List.map I r17.1) [] [], Ch.ro 0 (Sl Bz By Ca) By, Ch.ro 0 (Sl As Ar.1 Au) Ar.1, Ch.ro 0 (Sl Av Ar.2 Aw) Ar.2, Ch.bx n0 b1 0 [(Sl As Ar.1 Au), (Sl Av Ar.2 Aw)] [] []] ∧ Md (cov []) σ28 σm, fun _ => fun σm => Hp S0 σ0 σm [Ch.bx n0 b25 0 (List.map I r17.2) [] [], Ch.bx n0 b23 0 (List.map I r17.1) [] [], Ch.ro 0 (Sl Bz By Ca) By, Ch.ro 0 (Sl As Ar.1 Au) Ar.1, Ch.ro 0 (Sl Av Ar.2 Aw) Ar.2, Ch.bx n0 b1 0 [(Sl As Ar.1 Au), (Sl Av Ar.2 Aw)] [] []] ∧ Md (cov []) σ28 σm, fun _ => fun σm => Hp S0 σ0 σm [Ch.bx n0 b25 0 (List.map I r17.2) [] [], Ch.bx n0 b23 0 (List.map I r17.1) [] [], Ch.ro 0 (Sl Bz By Ca) By, Ch.ro 0 (Sl As Ar.1 Au) Ar.1, Ch.ro 0 (Sl Av Ar.2 Aw) Ar.2, Ch.bx n0 b1 0 [(Sl As Ar.1 Au), (Sl Av Ar.2 Aw)] [] []] ∧ Md (cov []) σ28 σm] [fun _ => (.agg (List.map I r17.1).toArray), fun _ => (I r30), fun _ => (I (w64 (4 * r30))), fun _ => (.agg (List.map I r17.2).toArray), fun _ => (I r34)] () (by kernel_rfl) (by kernel_rfl) ?_ ?_ ?_
   ·intro σm m0
    exact ⟨H.grow (m0.mono fun _ h => h.elim), m0⟩
   ·refine all_cons (by
      refine ⟨?_, ?_⟩
      ·intro _nm ρ σm hJ hoff hdep
       have e5 := look_off (N := 27) (hoff 5 rfl) rfl
       obtain ⟨H, m⟩ := id hJ
       have hc29 := H.cells 1 rfl
       exact dp_v (v := (.agg (List.map I r17.1).toArray)) wn (rv_load (cs := (List.map I r17.1)) Tryz.underlying101 rfl ti101 e5 (by rw [List.length_map]; exact hl20) hc29) rfl hJ
      trivial) ?_
    refine all_cons (by
      refine ⟨?_, ?_⟩
      ·intro _nm ρ σm hJ hoff hdep
       have e21 : look 27 ρ 21 = (.agg (List.map I r17.1).toArray) := hdep 0 rfl rfl 21 rfl
       obtain ⟨H, m⟩ := id hJ
       refine dp_cx wn (cx_call hc32 (ent_f hc32.fn (by show [look 27 ρ 21] = _; rw [e21])) hn0 (H.sel' [0, 1, 2, 3, 4, 5] rfl rfl : Hp S0 σ0 _ ([] ++ _))) ?_
       rintro _ σq ⟨_, ⟨rfl, rfl⟩, H2, m2⟩
       exact ⟨_, (), rfl, rfl, ⟨H2.sel' [0, 1, 2, 3, 4, 5] rfl rfl, m.comp0 m2⟩, stab [0, 3] (by kernel_rfl) ⟨rfl, rfl, trivial⟩⟩
      trivial) ?_
    refine ac rfl (by
      intro k _nm ρ σm hJ hoff hdep
      have e22 := hdep 1 rfl rfl 22 rfl
      exact dp_v (v := (I (w64 (4 * r30)))) wn (rv_mul (a := 4) (b := r30) rfl e22) rfl hJ) ?_
    refine all_cons (by
      refine ⟨?_, ?_⟩
      ·intro _nm ρ σm hJ hoff hdep
       have e6 := look_off (N := 27) (hoff 6 rfl) rfl
       obtain ⟨H, m⟩ := id hJ
       have hc33 := H.cells 0 rfl
       exact dp_v (v := (.agg (List.map I r17.2).toArray)) wn (rv_load (cs := (List.map I r17.2)) Tryz.underlying101 rfl ti101 e6 (by rw [List.length_map]; exact hl21) hc33) rfl hJ
      refine ⟨?_, ?_⟩
      ·intro _nm ρ σm hJ hoff hdep
       have e6 := look_off (N := 27) (hoff 6 rfl) rfl
       obtain ⟨H, m⟩ := id hJ
       have hc33 := H.cells 0 rfl
       exact dp_v (v := (.agg (List.map I r17.2).toArray)) wn (rv_load (cs := (List.map I r17.2)) Tryz.underlying101 rfl ti101 e6 (by rw [List.length_map]; exact hl21) hc33) rfl hJ
      trivial) ?_
    refine all_cons (by
      refine ⟨?_, ?_⟩
      ·intro _nm ρ σm hJ hoff hdep
       have e24 : look 27 ρ 24 = (.agg (List.map I r17.2).toArray) := hdep 3 rfl rfl 24 rfl
       obtain ⟨H, m⟩ := id hJ
       refine dp_cx wn (cx_call hc36 (ent_f hc36.fn (by show [look 27 ρ 24] = _; rw [e24])) hn0 (H.sel' [0, 1, 2, 3, 4, 5] rfl rfl : Hp S0 σ0 _ ([] ++ _))) ?_
       rintro _ σq ⟨_, ⟨rfl, rfl⟩, H2, m2⟩
       exact ⟨_, (), rfl, rfl, ⟨H2.sel' [0, 1, 2, 3, 4, 5] rfl rfl, m.comp0 m2⟩, stab [0, 1, 2, 3] (by kernel_rfl) ⟨rfl, rfl, rfl, rfl, trivial⟩⟩
      trivial) ?_
    exact all_nil
   ·intro _nm ρ σ37 hJ hoff hrel
    have e23 := hrel 2 rfl 23 rfl
    have e25 := hrel 4 rfl 25 rfl
    obtain ⟨H, -⟩ := (show Hp S0 σ0 σ37 [Ch.bx n0 b25 0 (List.map I r17.2) [] [], Ch.bx n0 b23 0 (List.map I r17.1) [] [], Ch.ro 0 (Sl Bz By Ca) By, Ch.ro 0 (Sl As Ar.1 Au) Ar.1, Ch.ro 0 (Sl Av Ar.2 Aw) Ar.2, Ch.bx n0 b1 0 [(Sl As Ar.1 Au), (Sl Av Ar.2 Aw)] [] []] ∧ Md (cov []) σ28 σ37 from hJ)
    clear hJ Hs
    rw [fr_lookL (L := [(23, (I (w64 (4 * r30)))), (25, (I r34))]) ⟨e23, e25, trivial⟩]
    clear hoff hrel e23 e25
    refine st (v := (I (w64 ((w64 (4 * r30)) + r34)))) (rv_add (a := (w64 (4 * r30))) (b := r34) rfl rfl) (sa (I (w64 ((w64 (4 * r30)) + r34))) rfl (w_end (q_then (c_ret ?_))))
    obtain rfl := sj h
    exact fin_ret (v := (I (w64 ((w64 (4 * r30)) + r34)))) (results_ok Tryz.results48 (res_tmp (v := (I (w64 ((w64 (4 * r30)) + r34)))) rfl res_nil) rfl) ⟨rfl, rfl⟩ (H.sel' [] rfl rfl)

theorem c_impl_CodeNearest_1__p24__p_impl_Book {Ba : Int × (List Int) × Int} {Ez : List Int} {Fa : (List (List Int)) × (List (List Int))} {Bb : Option Addr} {Bc : Nat} {Fb : Option Addr} {Fc : Nat} {Fd Fe Ff : Nat} {Fg Fh : List Value} {Fi : Option Addr} {Fj : Nat} {Fk : Option Addr} {Fl : Nat} {Fm Fn Fo : Nat} {Fp Fq : List Value} {r : Int} (h : M.impl_CodeNearest_1__p24__p_impl_Book Ba Ez Fa = some r) :
    Cal2 Tryz.prog 47 [(.agg #[(I Ba.1), (Sl Bb Ba.2.1 Bc), (I Ba.2.2)]), (pt Fe Ff), (pt Fn Fo)] [Ch.ro 0 (Sl Bb Ba.2.1 Bc) Ba.2.1, Ch.bx Fd Fe Ff [(Sl Fb Ez Fc)] Fg Fh, Ch.ro 0 (Sl Fb Ez Fc) Ez, Ch.bx Fm Fn Fo [(Sl Fi Fa.1 Fj), (Sl Fk Fa.2 Fl)] Fp Fq, Ch.ro 0 (Sl Fi Fa.1 Fj) Fa.1, Ch.ro 0 (Sl Fk Fa.2 Fl) Fa.2] (fun n0 v L => v = (I r) ∧ L = [Ch.bx Fd Fe Ff [(Sl Fb Ez Fc)] Fg Fh, Ch.bx Fm Fn Fo [(Sl Fi Fa.1 Fj), (Sl Fk Fa.2 Fl)] Fp Fq]) := by
 refine cal2 (n := 12) Tryz.func47 rfl rfl rfl rfl ?_
 intro S0 σ0 n0 hn0 H
 unfold M.impl_CodeNearest_1__p24__p_impl_Book at h
 refine c_seq (rg (st_ex (ex_box (cs := [(I Ba.1), (Sl Bb Ba.2.1 Bc), (I Ba.2.2)]) H hn0 rfl rfl) wn ?_))
 rintro _ σ2 ⟨b1, rfl, H, -⟩
 refine sa (I 0) rfl (w_end (q_then (c_seq ?_)))
 have hc3 := H.cell (u := (Sl Fb Ez Fc)) (o' := Ff) 2 0 rfl rfl rfl
 have hc4 := H.cells 4 rfl
 have hc5 := H.cell (u := (Sl Bb Ba.2.1 Bc)) (o' := 1) 0 1 rfl rfl rfl
 revert h; refine br fun r6 hx7 h => ?_
 have hc8 := c_impl_EncodeVector (As := Fi) (Au := Fj) (Av := Fk) (Aw := Fl) (Bz := Bb) (Ca := Bc) hx7
 have Hs := H
 refine rg2 (σ := σ2) (Nm := Unit) 5 [4] [[false], [true]] [[(0, 0), (1, 1)], [(0, 0)], [(0, 0)], [(0, 0)], [(0, 1)]] 1 [fun _ => fun σm => Hp S0 σ0 σm [Ch.bx n0 b1 0 [(I Ba.1), (Sl Bb Ba.2.1 Bc), (I Ba.2.2)] [] [], Ch.ro 0 (Sl Bb Ba.2.1 Bc) Ba.2.1, Ch.bx Fd Fe Ff [(Sl Fb Ez Fc)] Fg Fh, Ch.ro 0 (Sl Fb Ez Fc) Ez, Ch.bx Fm Fn Fo [(Sl Fi Fa.1 Fj), (Sl Fk Fa.2 Fl)] Fp Fq, Ch.ro 0 (Sl Fi Fa.1 Fj) Fa.1, Ch.ro 0 (Sl Fk Fa.2 Fl) Fa.2] ∧ Md (cov []) σ2 σm, fun _ => fun σm => Hp S0 σ0 σm [Ch.bx n0 b1 0 [(I Ba.1), (Sl Bb Ba.2.1 Bc), (I Ba.2.2)] [] [], Ch.ro 0 (Sl Bb Ba.2.1 Bc) Ba.2.1, Ch.bx Fd Fe Ff [(Sl Fb Ez Fc)] Fg Fh, Ch.ro 0 (Sl Fb Ez Fc) Ez, Ch.bx Fm Fn Fo [(Sl Fi Fa.1 Fj), (Sl Fk Fa.2 Fl)] Fp Fq, Ch.ro 0 (Sl Fi Fa.1 Fj) Fa.1, Ch.ro 0 (Sl Fk Fa.2 Fl) Fa.2] ∧ Md (cov []) σ2 σm] [fun _ => (Sl Fb Ez Fc), fun _ => (.agg #[(Sl Fi Fa.1 Fj), (Sl Fk Fa.2 Fl)]), fun _ => (pt b1 1), fun _ => (Sl Bb Ba.2.1 Bc), fun _ => (I r6)] () (by kernel_rfl) (by kernel_rfl) ?_ ?_ ?_
 ·intro σm m0
  exact ⟨H.grow (m0.mono fun _ h => h.elim), m0⟩
 ·refine all_cons (by
    refine ⟨?_, ?_⟩
    ·intro _nm ρ σm hJ hoff hdep
     have e1 := look_off (N := 12) (hoff 1 rfl) rfl
     obtain ⟨H, m⟩ := id hJ
     have hc3 := H.cell (u := (Sl Fb Ez Fc)) (o' := Ff) 2 0 rfl rfl rfl
     exact dp_v (v := (Sl Fb Ez Fc)) wn (rv_load1 Tryz.underlying26 rfl e1 hc3) rfl hJ
    refine ⟨?_, ?_⟩
    ·intro _nm ρ σm hJ hoff hdep
     have e1 := look_off (N := 12) (hoff 1 rfl) rfl
     obtain ⟨H, m⟩ := id hJ
     have hc3 := H.cell (u := (Sl Fb Ez Fc)) (o' := Ff) 2 0 rfl rfl rfl
     exact dp_v (v := (Sl Fb Ez Fc)) wn (rv_load1 Tryz.underlying26 rfl e1 hc3) rfl hJ
    trivial) ?_
  refine all_cons (by
    refine ⟨?_, ?_⟩
    ·intro _nm ρ σm hJ hoff hdep
     have e2 := look_off (N := 12) (hoff 2 rfl) rfl
     obtain ⟨H, m⟩ := id hJ
     have hc4 := H.cells 4 rfl
     exact dp_v (v := (.agg #[(Sl Fi Fa.1 Fj), (Sl Fk Fa.2 Fl)])) wn (rv_load (cs := [(Sl Fi Fa.1 Fj), (Sl Fk Fa.2 Fl)]) Tryz.underlying31 rfl ti31 e2 rfl hc4) rfl hJ
    trivial) ?_
  refine ac rfl (by
    intro k _nm ρ σm hJ hoff hdep
    have e3 := look_off (N := 12) (hoff 3 rfl) rfl
    exact dp_v (v := (pt b1 1)) wn (rv_fieldAddr (off := 1) (ft := 26) Tryz.underlying62 rfl ti26 rfl e3) rfl hJ) ?_
  refine all_cons (by
    refine ⟨?_, ?_⟩
    ·intro _nm ρ σm hJ hoff hdep
     have e7 := hdep 2 rfl rfl 7 rfl
     obtain ⟨H, m⟩ := id hJ
     have hc5 := H.cell (u := (Sl Bb Ba.2.1 Bc)) (o' := 1) 0 1 rfl rfl rfl
     exact dp_v (v := (Sl Bb Ba.2.1 Bc)) wn (rv_load1 Tryz.underlying26 rfl e7 hc5) rfl hJ
    trivial) ?_
  refine all_cons (by
    refine ⟨?_, ?_⟩
    ·intro _nm ρ σm hJ hoff hdep
     have e6 : look 12 ρ 6 = (.agg #[(Sl Fi Fa.1 Fj), (Sl Fk Fa.2 Fl)]) := hdep 1 rfl rfl 6 rfl
     have e8 : look 12 ρ 8 = (Sl Bb Ba.2.1 Bc) := hdep 3 rfl rfl 8 rfl
     obtain ⟨H, m⟩ := id hJ
     refine dp_cx wn (cx_call hc8 (ent_f hc8.fn (by show [look 12 ρ 6, look 12 ρ 8] = _; rw [e6, e8])) hn0 (H.sel' [5, 6, 1, 0, 1, 2, 3, 4, 5, 6] rfl rfl : Hp S0 σ0 _ ([_, _, _] ++ _))) ?_
     rintro _ σq ⟨_, ⟨rfl, rfl⟩, H2, m2⟩
     exact ⟨_, (), rfl, rfl, ⟨H2.sel' [0, 1, 2, 3, 4, 5, 6] rfl rfl, m.comp0 (m2.mono (fun i h => by simp [cov, Ch.ro] at h))⟩, stab [0, 1, 2, 3] (by kernel_rfl) ⟨rfl, rfl, rfl, rfl, trivial⟩⟩
    trivial) ?_
  exact all_nil
 ·intro _nm ρ σ9 hJ hoff hrel
  have e1 := look_off (N := 12) (hoff 1 rfl) rfl
  have e2 := look_off (N := 12) (hoff 2 rfl) rfl
  have e5 := hrel 0 rfl 5 rfl
  have e9 := hrel 4 rfl 9 rfl
  obtain ⟨H, -⟩ := (show Hp S0 σ0 σ9 [Ch.bx n0 b1 0 [(I Ba.1), (Sl Bb Ba.2.1 Bc), (I Ba.2.2)] [] [], Ch.ro 0 (Sl Bb Ba.2.1 Bc) Ba.2.1, Ch.bx Fd Fe Ff [(Sl Fb Ez Fc)] Fg Fh, Ch.ro 0 (Sl Fb Ez Fc) Ez, Ch.bx Fm Fn Fo [(Sl Fi Fa.1 Fj), (Sl Fk Fa.2 Fl)] Fp Fq, Ch.ro 0 (Sl Fi Fa.1 Fj) Fa.1, Ch.ro 0 (Sl Fk Fa.2 Fl) Fa.2] ∧ Md (cov []) σ2 σ9 from hJ)
  clear hJ Hs
  rw [fr_lookL (L := [(1, (pt Fe Ff)), (2, (pt Fn Fo)), (5, (Sl Fb Ez Fc)), (9, (I r6))]) ⟨e1, e2, e5, e9, trivial⟩]
  clear hoff hrel e1 e2 e5 e9
  revert h; refine br fun x10 hx11 h => ?_
  obtain ⟨b13, o14, hi12, -⟩ := (H.ro 3 rfl).ix hx11
  refine st (v := (pt b13 o14)) (rv_ix Tryz.underlying26 ti3 rfl rfl hi12) ?_
  have hc15 := ((H.ro 3 rfl).at hx11 hi12).int
  refine st (v := (I x10)) (rv_load1 Tryz.underlying3 rfl rfl hc15) (sa (I x10) rfl (w_end (q_then (c_ret ?_))))
  obtain rfl := sj h
  exact fin_ret (v := (I x10)) (results_ok Tryz.results47 (res_tmp (v := (I x10)) rfl res_nil) rfl) ⟨rfl, rfl⟩ (H.sel' [2, 4] rfl rfl)

theorem c_impl_nearestBy__impl_CodeNearest_1 {Ao : List (Int × (List Int) × Int)} {Fr : Int} {Fs : List Int} {Ft : (List (List Int)) × (List (List Int))} {Ap : Option Addr} {Aq : Nat} {Fu : Option Addr} {Fv : Nat} {Fw Fx Fy : Nat} {Ga Gb : List Value} {Gc : Option Addr} {Gd : Nat} {Ge : Option Addr} {Gf : Nat} {Gg Gh Gi : Nat} {Gj Gk : List Value} {r : (List (Int × Int))} (h : M.impl_nearestBy__impl_CodeNearest_1 Ao Fr Fs Ft = some r) :
    Cal2 Tryz.prog 46 [(Sl Ap Ao Aq), (I Fr), (.func (.func 47) #[] #[(pt Fx Fy), (pt Gh Gi)])] [Ch.ro 0 (Sl Ap Ao Aq) Ao, Ch.bx Fw Fx Fy [(Sl Fu Fs Fv)] Ga Gb, Ch.ro 0 (Sl Fu Fs Fv) Fs, Ch.bx Gg Gh Gi [(Sl Gc Ft.1 Gd), (Sl Ge Ft.2 Gf)] Gj Gk, Ch.ro 0 (Sl Gc Ft.1 Gd) Ft.1, Ch.ro 0 (Sl Ge Ft.2 Gf) Ft.2] (fun n0 v L => ∃ (az1 : Option Addr), ∃ (cz2 : Nat), v = (Sl az1 r cz2) ∧ L = [Ch.own 0 n0 (Sl az1 r cz2) r, Ch.bx Fw Fx Fy [(Sl Fu Fs Fv)] Ga Gb, Ch.bx Gg Gh Gi [(Sl Gc Ft.1 Gd), (Sl Ge Ft.2 Gf)] Gj Gk]) := by
 refine cal2 (n := 27) Tryz.func46 rfl rfl rfl rfl ?_
 intro S0 σ0 n0 hn0 H
 unfold M.impl_nearestBy__impl_CodeNearest_1 at h
 refine c_seq (rg (sa (.slice none 0 0) rfl (w_end (q_then (c_seq (rg (sm (I Fr) rfl ?_)))))))
 refine st (v := (.agg #[(I Fr), (.slice none 0 0)])) (rv_build (ps := [(0, (I Fr))]) Tryz.underlying106 ti106 (bp106 Tryz.underlying106) rfl (by kernel_rfl)) ?_
 refine st_ex (ex_alloc (cs := [(I 0), (.slice none 0 0)]) H hn0 ti106 rfl) wn ?_
 rintro _ σ2 ⟨b1, rfl, H, -⟩
 refine st_exS (ex_store_box (k := 0) (cs := [(I 0), (.slice none 0 0)]) (vs := [(I Fr), (.slice none 0 0)]) (cs' := [(I Fr), (.slice none 0 0)]) H (i := 0) rfl ti106 rfl rfl rfl rfl rfl (Nat.le_of_ble_eq_true rfl) (by simp [plain]) rfl) wn ?_
 rintro σ3 ⟨H, -⟩
 refine w_end (q_then (c_seq (c_seq (rg (sm (Sl Ap Ao Aq) rfl (st (v := (I (Ao.length : Int))) (rv_len Tryz.underlying33 rfl) (sm (I 0) rfl (w_end (q_then ?_)))))))))
 obtain ⟨o4, hj, h'⟩ := bind_some h
 clear h
 refine c_cut (fun e a w => e = .normal ∧ ∃ (ρ : Nat → Value) (σ : St) (aj1 : Option Addr) (cj2 : Nat), a = fr 27 (updL ρ [(2, (.func (.func 47) #[] #[(pt Fx Fy), (pt Gh Gi)])), (7, (pt b1 0))]) ∧ w = σ.w ∧ Hp S0 σ0 σ [Ch.bx n0 b1 0 [(I o4.1), (Sl aj1 o4.2 cj2)] [] [], Ch.own 0 0 (Sl aj1 o4.2 cj2) o4.2, Ch.ro 0 (Sl Fu Fs Fv) Fs, Ch.bx Fw Fx Fy [(Sl Fu Fs Fv)] Ga Gb, Ch.ro 0 (Sl Gc Ft.1 Gd) Ft.1, Ch.ro 0 (Sl Ge Ft.2 Gf) Ft.2, Ch.bx Gg Gh Gi [(Sl Gc Ft.1 Gd), (Sl Ge Ft.2 Gf)] Gj Gk]) ?_ ?_
 ·clear h'
  rename _ = some o4 => h
  refine c_blk ?_
  replace H := H.nilOwn (Int × Int) 0 0
  refine wp_loopM _ h (fun s5 a w => ∃ (ρ : Nat → Value) (σ : St) (aj1 : Option Addr) (cj2 : Nat), a = fr 27 (updL ρ [(2, (.func (.func 47) #[] #[(pt Fx Fy), (pt Gh Gi)])), (7, (pt b1 0)), (12, (Sl Ap Ao Aq)), (13, (I (Ao.length : Int))), (14, (I s5.2))]) ∧ w = σ.w ∧ Hp S0 σ0 σ [Ch.bx n0 b1 0 [(I s5.1.1), (Sl aj1 s5.1.2 cj2)] [] [], Ch.own 0 0 (Sl aj1 s5.1.2 cj2) s5.1.2, Ch.ro 0 (Sl Fu Fs Fv) Fs, Ch.bx Fw Fx Fy [(Sl Fu Fs Fv)] Ga Gb, Ch.ro 0 (Sl Gc Ft.1 Gd) Ft.1, Ch.ro 0 (Sl Ge Ft.2 Gf) Ft.2, Ch.bx Gg Gh Gi [(Sl Gc Ft.1 Gd), (Sl Ge Ft.2 Gf)] Gj Gk, Ch.ro 0 (Sl Ap Ao Aq) Ao]) ⟨_, σ3, none, 0, fr_join ⟨rfl, rfl, rfl, rfl, rfl, trivial⟩, rfl, H.sel' [1, 0, 4, 3, 6, 7, 5, 2] rfl rfl⟩ ?_
  clear h H
  rintro s5 a w o ⟨ρ, σ6, a7, c8, rfl, rfl, H⟩ h hres
  refine c_seq (rg (st (v := (B (decide (s5.2 < (Ao.length : Int))))) (rv_lss (a := s5.2) (b := (Ao.length : Int)) rfl rfl) (w_end (q_then (c_seq ?_)))))
  refine cd_cond (decide (s5.2 < (Ao.length : Int))) rfl (fun hb9 => ?_) (fun hb9 => ?_)
  ·replace h := bif_t hb9 h
   refine c_skip (q_then (c_seq (c_blk (c_seq (rg ?_)))))
   revert h; refine br fun x10 hx11 h => ?_
   obtain ⟨b13, o14, hi12, -⟩ := (H.ro 7 rfl).ix hx11
   refine st (v := (pt b13 o14)) (rv_ix Tryz.underlying33 ti62 rfl rfl hi12) ?_
   obtain ⟨_, ⟨_, _, rfl, rfl, ⟨_, _, rfl, ⟨_, rfl, hR19⟩, rfl⟩⟩, hl15, hc16⟩ := ((H.ro 7 rfl).at hx11 hi12).cells
   obtain ⟨a17, c18, rfl⟩ := hR19.isSl
   replace H := H.add (d := Ch.ro 0 (Sl a17 x10.2.1 c18) x10.2.1) hR19 (fun _ h => h)
   clear hR19
   refine st (v := (.agg #[(I x10.1), (Sl a17 x10.2.1 c18), (I x10.2.2)])) (rv_load Tryz.underlying62 rfl ti62 rfl hl15 hc16) (st_ex (ex_alloc (cs := [(I 0), (.slice none 0 0), (I 0)]) H hn0 ti62 rfl) wn ?_)
   rintro _ σ21 ⟨b20, rfl, H, -⟩
   refine st_exS (ex_store_box (k := 0) (cs := [(I 0), (.slice none 0 0), (I 0)]) (vs := [(I x10.1), (Sl a17 x10.2.1 c18), (I x10.2.2)]) (cs' := [(I x10.1), (Sl a17 x10.2.1 c18), (I x10.2.2)]) H (i := 0) rfl ti62 rfl rfl rfl rfl rfl (Nat.le_of_ble_eq_true rfl) (by simp [plain]) rfl) wn ?_
   rintro σ22 ⟨H, -⟩
   refine w_end (q_then ?_)
   have hc23 := H.cell (u := (I x10.1)) (o' := 0) 0 0 rfl rfl rfl
   have hc24 := H.cells 0 rfl
   revert h; refine br fun r25 hx26 h => ?_
   have hc27 := c_impl_CodeNearest_1__p24__p_impl_Book (Bb := a17) (Bc := c18) (Fd := Fw) (Fe := Fx) (Ff := Fy) (Fg := Ga) (Fh := Gb) (Fb := Fu) (Fc := Fv) (Fm := Gg) (Fn := Gh) (Fo := Gi) (Fp := Gj) (Fq := Gk) (Fi := Gc) (Fj := Gd) (Fk := Ge) (Fl := Gf) hx26
   have Hs := H
   refine rg2 (σ := σ22) (Nm := Unit) 5 [4] [[false], [true]] [[(0, 0), (1, 1)], [(0, 0), (1, 1)], [(0, 0)], [(0, 0)], [(0, 1)]] 1 [fun _ => fun σm => Hp S0 σ0 σm [Ch.bx n0 b20 0 [(I x10.1), (Sl a17 x10.2.1 c18), (I x10.2.2)] [] [], Ch.ro 0 (Sl a17 x10.2.1 c18) x10.2.1, Ch.bx n0 b1 0 [(I s5.1.1), (Sl a7 s5.1.2 c8)] [] [], Ch.own 0 0 (Sl a7 s5.1.2 c8) s5.1.2, Ch.ro 0 (Sl Fu Fs Fv) Fs, Ch.bx Fw Fx Fy [(Sl Fu Fs Fv)] Ga Gb, Ch.ro 0 (Sl Gc Ft.1 Gd) Ft.1, Ch.ro 0 (Sl Ge Ft.2 Gf) Ft.2, Ch.bx Gg Gh Gi [(Sl Gc Ft.1 Gd), (Sl Ge Ft.2 Gf)] Gj Gk, Ch.ro 0 (Sl Ap Ao Aq) Ao] ∧ Md (cov []) σ22 σm, fun _ => fun σm => Hp S0 σ0 σm [Ch.bx Fw Fx Fy [(Sl Fu Fs Fv)] Ga Gb, Ch.bx Gg Gh Gi [(Sl Gc Ft.1 Gd), (Sl Ge Ft.2 Gf)] Gj Gk, Ch.bx n0 b20 0 [(I x10.1), (Sl a17 x10.2.1 c18), (I x10.2.2)] [] [], Ch.ro 0 (Sl a17 x10.2.1 c18) x10.2.1, Ch.bx n0 b1 0 [(I s5.1.1), (Sl a7 s5.1.2 c8)] [] [], Ch.own 0 0 (Sl a7 s5.1.2 c8) s5.1.2, Ch.ro 0 (Sl Fu Fs Fv) Fs, Ch.ro 0 (Sl Gc Ft.1 Gd) Ft.1, Ch.ro 0 (Sl Ge Ft.2 Gf) Ft.2, Ch.ro 0 (Sl Ap Ao Aq) Ao] ∧ Md (fun i => (cov []) i ∨ (cov [Ch.ro 0 (Sl a17 x10.2.1 c18) x10.2.1, Ch.bx Fw Fx Fy [(Sl Fu Fs Fv)] Ga Gb, Ch.ro 0 (Sl Fu Fs Fv) Fs, Ch.bx Gg Gh Gi [(Sl Gc Ft.1 Gd), (Sl Ge Ft.2 Gf)] Gj Gk, Ch.ro 0 (Sl Gc Ft.1 Gd) Ft.1, Ch.ro 0 (Sl Ge Ft.2 Gf) Ft.2]) i) σ22 σm] [fun _ => (pt b20 0), fun _ => (I x10.1), fun _ => (.func (.func 47) #[] #[(pt Fx Fy), (pt Gh Gi)]), fun _ => (.agg #[(I x10.1), (Sl a17 x10.2.1 c18), (I x10.2.2)]), fun _ => (I r25)] () (by kernel_rfl) (by kernel_rfl) ?_ ?_ ?_
   ·intro σm m0
    exact ⟨H.grow (m0.mono fun _ h => h.elim), m0⟩
   ·refine ac rfl (by
      intro k _nm ρ σm hJ hoff hdep
      have e9 := look_off (N := 27) (hoff 9 rfl) rfl
      exact dp_v (v := (pt b20 0)) wn (rv_fieldAddr (off := 0) (ft := 3) Tryz.underlying62 rfl ti3 rfl e9) rfl hJ) ?_
    refine all_cons (by
      refine ⟨?_, ?_⟩
      ·intro _nm ρ σm hJ hoff hdep
       have e18 := hdep 0 rfl rfl 18 rfl
       obtain ⟨H, m⟩ := id hJ
       have hc23 := H.cell (u := (I x10.1)) (o' := 0) 0 0 rfl rfl rfl
       exact dp_v (v := (I x10.1)) wn (rv_load1 Tryz.underlying3 rfl e18 hc23) rfl hJ
      refine ⟨?_, ?_⟩
      ·intro _nm ρ σm hJ hoff hdep
       have e18 := hdep 0 rfl rfl 18 rfl
       obtain ⟨H, m⟩ := id hJ
       have hc23 := H.cell (u := (I x10.1)) (o' := 0) 2 0 rfl rfl rfl
       exact dp_v (v := (I x10.1)) wn (rv_load1 Tryz.underlying3 rfl e18 hc23) rfl hJ
      trivial) ?_
    refine ac rfl (by
      intro k _nm ρ σm hJ hoff hdep
      have e2 := look_off (N := 27) (hoff 2 rfl) rfl
      exact dp_v (v := (.func (.func 47) #[] #[(pt Fx Fy), (pt Gh Gi)])) wn (rv_move e2) rfl hJ) ?_
    refine all_cons (by
      refine ⟨?_, ?_⟩
      ·intro _nm ρ σm hJ hoff hdep
       have e9 := look_off (N := 27) (hoff 9 rfl) rfl
       obtain ⟨H, m⟩ := id hJ
       have hc24 := H.cells 0 rfl
       exact dp_v (v := (.agg #[(I x10.1), (Sl a17 x10.2.1 c18), (I x10.2.2)])) wn (rv_load (cs := [(I x10.1), (Sl a17 x10.2.1 c18), (I x10.2.2)]) Tryz.underlying62 rfl ti62 e9 rfl hc24) rfl hJ
      trivial) ?_
    refine all_cons (by
      refine ⟨?_, ?_⟩
      ·intro _nm ρ σm hJ hoff hdep
       have e21 : look 27 ρ 21 = (.agg #[(I x10.1), (Sl a17 x10.2.1 c18), (I x10.2.2)]) := hdep 3 rfl rfl 21 rfl
       have e20 := hdep 2 rfl rfl 20 rfl
       obtain ⟨H, m⟩ := id hJ
       refine dp_cx wn (cx_call hc27 (ent_v (cap := [(pt Fx Fy), (pt Gh Gi)]) hc27.fn e20 (by show [look 27 ρ 21] ++ [(pt Fx Fy), (pt Gh Gi)] = _; rw [e21]; rfl)) hn0 (H.sel' [1, 5, 4, 8, 6, 7, 0, 1, 2, 3, 4, 6, 7, 9] rfl rfl : Hp S0 σ0 _ ([_, _, _, _, _, _] ++ _))) ?_
       rintro _ σq ⟨_, ⟨rfl, rfl⟩, H2, m2⟩
       exact ⟨_, (), rfl, rfl, ⟨H2.sel' [0, 1, 2, 3, 4, 5, 6, 7, 8, 9] rfl rfl, m.comp m2⟩, stab [0, 1, 2, 3] (by kernel_rfl) ⟨rfl, rfl, rfl, rfl, trivial⟩⟩
      trivial) ?_
    exact all_nil
   ·intro _nm ρ σ28 hJ hoff hrel
    have e2 := look_off (N := 27) (hoff 2 rfl) rfl
    have e7 := look_off (N := 27) (hoff 7 rfl) rfl
    have e12 := look_off (N := 27) (hoff 12 rfl) rfl
    have e13 := look_off (N := 27) (hoff 13 rfl) rfl
    have e14 := look_off (N := 27) (hoff 14 rfl) rfl
    have e19 := hrel 1 rfl 19 rfl
    have e22 := hrel 4 rfl 22 rfl
    obtain ⟨H, -⟩ := (show Hp S0 σ0 σ28 [Ch.bx Fw Fx Fy [(Sl Fu Fs Fv)] Ga Gb, Ch.bx Gg Gh Gi [(Sl Gc Ft.1 Gd), (Sl Ge Ft.2 Gf)] Gj Gk, Ch.bx n0 b20 0 [(I x10.1), (Sl a17 x10.2.1 c18), (I x10.2.2)] [] [], Ch.ro 0 (Sl a17 x10.2.1 c18) x10.2.1, Ch.bx n0 b1 0 [(I s5.1.1), (Sl a7 s5.1.2 c8)] [] [], Ch.own 0 0 (Sl a7 s5.1.2 c8) s5.1.2, Ch.ro 0 (Sl Fu Fs Fv) Fs, Ch.ro 0 (Sl Gc Ft.1 Gd) Ft.1, Ch.ro 0 (Sl Ge Ft.2 Gf) Ft.2, Ch.ro 0 (Sl Ap Ao Aq) Ao] ∧ Md (fun i => (cov []) i ∨ (cov [Ch.ro 0 (Sl a17 x10.2.1 c18) x10.2.1, Ch.bx Fw Fx Fy [(Sl Fu Fs Fv)] Ga Gb, Ch.ro 0 (Sl Fu Fs Fv) Fs, Ch.bx Gg Gh Gi [(Sl Gc Ft.1 Gd), (Sl Ge Ft.2 Gf)] Gj Gk, Ch.ro 0 (Sl Gc Ft.1 Gd) Ft.1, Ch.ro 0 (Sl Ge Ft.2 Gf) Ft.2]) i) σ22 σ28 from hJ)
    clear hJ Hs
    rw [fr_lookL (L := [(2, (.func (.func 47) #[] #[(pt Fx Fy), (pt Gh Gi)])), (7, (pt b1 0)), (12, (Sl Ap Ao Aq)), (13, (I (Ao.length : Int))), (14, (I s5.2)), (19, (I x10.1)), (22, (I r25))]) ⟨e2, e7, e12, e13, e14, e19, e22, trivial⟩]
    clear hoff hrel e2 e7 e12 e13 e14 e19 e22
    refine st (v := (.agg #[(I x10.1), (I r25)])) (rv_build (ps := [(0, (I x10.1)), (1, (I r25))]) Tryz.underlying67 ti67 (bp67 Tryz.underlying67) rfl (by kernel_rfl)) ?_
    revert h; refine br fun r29 hx30 h => ?_
    have hc31 := c_impl_nearestHits_offer (Dn := n0) (Do := b1) (Dq := 0) (Dr := []) (Ds := []) (Dk := a7) (Dm := c8) hx30
    refine st_call (cx_call hc31 (ent_f hc31.fn rfl) hn0 (H.sel' [4, 5, 0, 1, 2, 3, 6, 7, 8, 9] rfl rfl : Hp S0 σ0 _ ([_, _] ++ _))) wn ?_
    rintro _ σ34 ⟨_, ⟨a32, c33, rfl, rfl⟩, H, -⟩
    replace H : Hp _ _ _ [_, _, _, _, _, _, _, _, _, _] := H
    replace H : Hp S0 σ0 σ34 [Ch.bx n0 b1 0 [(I r29.1), (Sl a32 r29.2 c33)] [] [], Ch.own 0 0 (Sl a32 r29.2 c33) r29.2, Ch.bx Fw Fx Fy [(Sl Fu Fs Fv)] Ga Gb, Ch.bx Gg Gh Gi [(Sl Gc Ft.1 Gd), (Sl Ge Ft.2 Gf)] Gj Gk, Ch.ro 0 (Sl Fu Fs Fv) Fs, Ch.ro 0 (Sl Gc Ft.1 Gd) Ft.1, Ch.ro 0 (Sl Ge Ft.2 Gf) Ft.2, Ch.ro 0 (Sl Ap Ao Aq) Ao] := H.sel' [0, 1, 2, 3, 6, 7, 8, 9] rfl rfl
    refine w_end (q_blk (q_then (rg (st (v := (I (w64 (s5.2 + 1)))) (rv_add (a := s5.2) (b := 1) rfl rfl) (sm (I (w64 (s5.2 + 1))) rfl (w_end (q_then ?_)))))))
    obtain rfl := sj h
    exact ⟨_, rfl, _, σ34, a32, c33, fr_join ⟨rfl, rfl, rfl, rfl, rfl, trivial⟩, rfl, H.sel' [0, 1, 4, 2, 5, 6, 3, 7] rfl rfl⟩
  ·replace h := bif_f hb9 h
   refine c_exit (q_then_x (q_then_x (q_blk_hit ?_)))
   obtain rfl := sj h
   obtain rfl := hres _ rfl
   exact ⟨rfl, _, σ6, a7, c8, fr_join ⟨rfl, rfl, trivial⟩, rfl, H.sel' [0, 1, 2, 3, 4, 5, 6] rfl rfl⟩
 ·clear hj
  have h := h'
  clear h' H
  rintro e a w ⟨rfl, ρ, σ35, a36, c37, rfl, rfl, H⟩
  refine q_then (c_seq (rg ?_))
  obtain ⟨σ38, hw39, H, -⟩ := H.pub 1 rfl (Nat.le_refl _)
  rw [← hw39]; clear hw39
  revert h; refine br fun r40 hx41 h => ?_
  have hc42 := c_impl_nearestHits_inOrder (Dn := n0) (Do := b1) (Dq := 0) (Dr := []) (Ds := []) (Dk := a36) (Dm := c37) hx41
  refine st_call (cx_call hc42 (ent_f hc42.fn rfl) hn0 (H.sel' [1, 0, 0, 2, 3, 4, 5, 6] rfl rfl : Hp S0 σ0 _ ([_, _] ++ _))) wn ?_
  rintro _ σ45 ⟨_, ⟨a43, c44, rfl, rfl⟩, H, -⟩
  replace H : Hp _ _ _ [_, _, _, _, _, _, _, _] := H
  replace H : Hp S0 σ0 σ45 [Ch.own 0 n0 (Sl a43 r40 c44) r40, Ch.ro 0 (Sl Fu Fs Fv) Fs, Ch.bx Fw Fx Fy [(Sl Fu Fs Fv)] Ga Gb, Ch.ro 0 (Sl Gc Ft.1 Gd) Ft.1, Ch.ro 0 (Sl Ge Ft.2 Gf) Ft.2, Ch.bx Gg Gh Gi [(Sl Gc Ft.1 Gd), (Sl Ge Ft.2 Gf)] Gj Gk] := H.sel' [0, 3, 4, 5, 6, 7] rfl rfl
  refine sa (Sl a43 r40 c44) rfl (w_end (q_then (c_ret ?_)))
  obtain rfl := sj h
  exact fin_ret (v := (Sl a43 r40 c44)) (results_ok Tryz.results46 (res_tmp (v := (Sl a43 r40 c44)) rfl res_nil) rfl) ⟨a43, c44, rfl, rfl⟩ (H.sel' [0, 2, 5] rfl rfl)

theorem c_impl_CodeNearest {Ar : (List (List Int)) × (List (List Int))} {Cb : List (Int × (List Int) × Int)} {Bf : List Int} {Cc : Int} {As : Option Addr} {Au : Nat} {Av : Option Addr} {Aw : Nat} {Cd : Option Addr} {Ce : Nat} {Bg : Option Addr} {Bh : Nat} {r : (List (Int × Int))} (h : M.impl_CodeNearest Ar Cb Bf Cc = some r) :
    Cal2 Tryz.prog 13 [(.agg #[(Sl As Ar.1 Au), (Sl Av Ar.2 Aw)]), (Sl Cd Cb Ce), (Sl Bg Bf Bh), (I Cc)] [Ch.ro 0 (Sl As Ar.1 Au) Ar.1, Ch.ro 0 (Sl Av Ar.2 Aw) Ar.2, Ch.ro 0 (Sl Cd Cb Ce) Cb, Ch.ro 0 (Sl Bg Bf Bh) Bf] (fun n0 v L => ∃ (az1 : Option Addr), ∃ (cz2 : Nat), v = (Sl az1 r cz2) ∧ L = [Ch.own 0 n0 (Sl az1 r cz2) r]) := by
 refine cal2 (n := 27) Tryz.func13 rfl rfl rfl rfl ?_
 intro S0 σ0 n0 hn0 H
 unfold M.impl_CodeNearest at h
 refine c_seq (rg (st_ex (ex_box (cs := [(Sl As Ar.1 Au), (Sl Av Ar.2 Aw)]) H hn0 rfl rfl) wn ?_))
 rintro _ σ2 ⟨b1, rfl, H, -⟩
 refine sa (.slice none 0 0) rfl (w_end (q_then (c_seq (c_seq ?_))))
 obtain ⟨o3, hj, h'⟩ := bind_some h
 clear h
 refine c_cut (fun e a w => e = .normal ∧ ∃ (ρ : Nat → Value) (σ : St), a = fr 27 (updL ρ [(1, (Sl Cd Cb Ce)), (2, (Sl Bg Bf Bh)), (3, (I Cc)), (4, (pt b1 0)), (19, (B o3))]) ∧ w = σ.w ∧ Hp S0 σ0 σ [Ch.ro 0 (Sl Cd Cb Ce) Cb, Ch.ro 0 (Sl Bg Bf Bh) Bf, Ch.ro 0 (Sl As Ar.1 Au) Ar.1, Ch.ro 0 (Sl Av Ar.2 Aw) Ar.2, Ch.bx n0 b1 0 [(Sl As Ar.1 Au), (Sl Av Ar.2 Aw)] [] []]) ?_ ?_
 ·clear h'
  rename _ = some o3 => h
  refine rg ?_
  have hc4 := H.cells 0 rfl
  refine st (v := (.agg #[(Sl As Ar.1 Au), (Sl Av Ar.2 Aw)])) (rv_load (cs := [(Sl As Ar.1 Au), (Sl Av Ar.2 Aw)]) Tryz.underlying31 rfl ti31 rfl rfl hc4) ?_
  revert h; refine br fun r5 hx6 h => ?_
  have hc7 := c_impl_ValidBook (As := As) (Au := Au) (Av := Av) (Aw := Aw) hx6
  refine st_call (cx_call hc7 (ent_f hc7.fn rfl) hn0 (H.sel' [1, 2, 0, 1, 2, 3, 4] rfl rfl : Hp S0 σ0 _ ([_, _] ++ _))) wn ?_
  rintro _ σ8 ⟨_, ⟨rfl, rfl⟩, H, -⟩
  replace H : Hp _ _ _ [_, _, _, _, _] := H
  refine st (v := (B (!r5))) (rv_not rfl) (sm (B (!r5)) rfl ?_)
  rcases Bool.eq_false_or_eq_true (!r5) with hb9 | hb9
  ·replace h := bif_t hb9 h
   refine st_skip (congrArg some hb9) (st_skip (congrArg some hb9) (st_skip (congrArg some hb9) (st_skip (congrArg some hb9) (st_skip (congrArg some hb9) (st (v := (B true)) (rv_pick_t (congrArg B hb9) rfl) (w_end ?_))))))
   obtain rfl := sj h
   exact ⟨rfl, _, σ8, fr_join ⟨rfl, rfl, rfl, rfl, rfl, trivial⟩, rfl, H.sel' [3, 4, 1, 2, 0] rfl rfl⟩
  ·replace h := bif_f hb9 h
   refine st_g (v := (Sl Cd Cb Ce)) (congrArg some hb9) (rv_move rfl) (st_g (v := (Sl Bg Bf Bh)) (congrArg some hb9) (rv_move rfl) (st_g (v := (I Cc)) (congrArg some hb9) (rv_move rfl) ?_))
   revert h; refine br fun r10 hx11 h => ?_
   have hc12 := c_impl_validSearch (Ap := Cd) (Aq := Ce) (Bg := Bg) (Bh := Bh) hx11
   refine st_call (cx_call hc12 (ent_f hc12.fn rfl) hn0 (H.sel' [3, 4, 0, 1, 2, 3, 4] rfl rfl : Hp S0 σ0 _ ([_, _] ++ _))) (wanted_yes rfl (by exact (congrArg some hb9))) ?_
   rintro _ σ13 ⟨_, ⟨rfl, rfl⟩, H, -⟩
   replace H : Hp _ _ _ [_, _, _, _, _] := H
   refine st_g (v := (B (!r10))) (congrArg some hb9) (rv_not rfl) (st (v := (B (!r10))) (rv_pick_f (congrArg B hb9) rfl) (w_end ?_))
   obtain rfl := sj h
   exact ⟨rfl, _, σ13, fr_join ⟨rfl, rfl, rfl, rfl, rfl, trivial⟩, rfl, H.sel' [3, 4, 1, 2, 0] rfl rfl⟩
 ·clear hj
  have h := h'
  clear h' H
  rintro e a w ⟨rfl, ρ, σ14, rfl, rfl, H⟩
  refine q_then ?_
  refine cd_cond o3 rfl (fun hb15 => ?_) (fun hb15 => ?_)
  ·replace h := bif_t hb15 h
   refine c_seq (rg (sa (.slice none 0 0) rfl (w_end (q_then (c_ret (q_then_r ?_))))))
   replace H := H.nilOwn (Int × Int) 0 n0
   obtain rfl := sj h
   exact fin_ret (v := (.slice none 0 0)) (results_ok Tryz.results13 (res_tmp (v := (.slice none 0 0)) rfl res_nil) rfl) ⟨none, 0, rfl, rfl⟩ (H.sel' [0] rfl rfl)
  ·replace h := bif_f hb15 h
   refine c_skip (q_then (c_seq (rg ?_)))
   have hc16 := H.cells 4 rfl
   refine st (v := (.agg #[(Sl As Ar.1 Au), (Sl Av Ar.2 Aw)])) (rv_load (cs := [(Sl As Ar.1 Au), (Sl Av Ar.2 Aw)]) Tryz.underlying31 rfl ti31 rfl rfl hc16) (sm (Sl Bg Bf Bh) rfl ?_)
   revert h; refine br fun r17 hx18 h => ?_
   have hc19 := c_impl_CodeDistances (As := As) (Au := Au) (Av := Av) (Aw := Aw) (Bz := Bg) (Ca := Bh) hx18
   refine st_call (cx_call hc19 (ent_f hc19.fn rfl) hn0 (H.sel' [2, 3, 1, 0, 1, 2, 3, 4] rfl rfl : Hp S0 σ0 _ ([_, _, _] ++ _))) wn ?_
   rintro _ σ22 ⟨_, ⟨a20, c21, rfl, rfl⟩, H, -⟩
   replace H : Hp _ _ _ [_, _, _, _, _, _] := H
   refine st_ex (ex_alloc (cs := [(.slice none 0 0)]) H hn0 ti26 rfl) wn ?_
   rintro _ σ24 ⟨b23, rfl, H, -⟩
   refine st_exS (ex_store_box (k := 0) (cs := [(.slice none 0 0)]) (vs := [(Sl a20 r17 c21)]) (cs' := [(Sl a20 r17 c21)]) H (i := 0) rfl ti26 rfl rfl rfl rfl rfl (Nat.le_of_ble_eq_true rfl) (by simp [plain]) rfl) wn ?_
   rintro σ25 ⟨H, -⟩
   refine w_end (q_then (c_seq (rg (sm (Sl Cd Cb Ce) rfl (sm (I Cc) rfl (st (v := (.func (.func 47) #[] #[(pt b23 0), (pt b1 0)])) (rv_makeFunc (vs := [(pt b23 0), (pt b1 0)]) rfl) ?_))))))
   obtain ⟨σ26, hw27, H, -⟩ := H.pub 1 rfl (Nat.le_refl _)
   rw [← hw27]; clear hw27
   replace H := H.roLow 0 0 rfl (Nat.zero_le _)
   revert h; refine br fun r28 hx29 h => ?_
   have hc30 := c_impl_nearestBy__impl_CodeNearest_1 (Ap := Cd) (Aq := Ce) (Fw := n0) (Fx := b23) (Fy := 0) (Ga := []) (Gb := []) (Fu := a20) (Fv := c21) (Gg := n0) (Gh := b1) (Gi := 0) (Gj := []) (Gk := []) (Gc := As) (Gd := Au) (Ge := Av) (Gf := Aw) hx29
   refine st_call (cx_call hc30 (ent_f hc30.fn rfl) hn0 (H.sel' [3, 2, 0, 7, 5, 6, 0, 1, 3, 4, 5, 6] rfl rfl : Hp S0 σ0 _ ([_, _, _, _, _, _] ++ _))) wn ?_
   rintro _ σ33 ⟨_, ⟨a31, c32, rfl, rfl⟩, H, -⟩
   replace H : Hp _ _ _ [_, _, _, _, _, _, _, _, _] := H
   replace H : Hp S0 σ0 σ33 [Ch.own 0 n0 (Sl a31 r28 c32) r28] := H.sel' [0] rfl rfl
   refine sa (Sl a31 r28 c32) rfl (w_end (q_then (c_ret ?_)))
   obtain rfl := sj h
   exact fin_ret (v := (Sl a31 r28 c32)) (results_ok Tryz.results13 (res_tmp (v := (Sl a31 r28 c32)) rfl res_nil) rfl) ⟨a31, c32, rfl, rfl⟩ (H.sel' [0] rfl rfl)

theorem c_laws_eqHit {Aa : Int × Int} {Bi : Int × Int}  {r : Bool} (h : M.laws_eqHit Aa Bi = some r) :
    Cal2 Tryz.prog 49 [(.agg #[(I Aa.1), (I Aa.2)]), (.agg #[(I Bi.1), (I Bi.2)])] [] (fun n0 v L => v = (B r) ∧ L = []) := by
 refine cal2 (n := 15) Tryz.func49 rfl rfl rfl rfl ?_
 intro S0 σ0 n0 hn0 H
 unfold M.laws_eqHit at h
 refine c_seq (rg (st_ex (ex_box (cs := [(I Aa.1), (I Aa.2)]) H hn0 rfl rfl) wn ?_))
 rintro _ σ2 ⟨b1, rfl, H, -⟩
 refine st_ex (ex_box (cs := [(I Bi.1), (I Bi.2)]) H hn0 rfl rfl) wn ?_
 rintro _ σ4 ⟨b3, rfl, H, -⟩
 refine sa (B false) rfl (w_end (q_then (c_seq (c_seq (rg (st (v := (pt b1 0)) (rv_fieldAddr (off := 0) (ft := 3) Tryz.underlying67 rfl ti3 rfl rfl) ?_))))))
 have hc5 := H.cell (u := (I Aa.1)) (o' := 0) 1 0 rfl rfl rfl
 refine st (v := (I Aa.1)) (rv_load1 Tryz.underlying3 rfl rfl hc5) (st (v := (pt b3 0)) (rv_fieldAddr (off := 0) (ft := 3) Tryz.underlying67 rfl ti3 rfl rfl) ?_)
 have hc6 := H.cell (u := (I Bi.1)) (o' := 0) 0 0 rfl rfl rfl
 refine st (v := (I Bi.1)) (rv_load1 Tryz.underlying3 rfl rfl hc6) (st (v := (B (Aa.1 != Bi.1))) (rv_neq (a := Aa.1) (b := Bi.1) rfl rfl) (w_end (q_then ?_)))
 refine cd_cond (Aa.1 != Bi.1) rfl (fun hb7 => ?_) (fun hb7 => ?_)
 ·replace h := bif_t hb7 h
  refine c_seq (rg (sa (B false) rfl (w_end (q_then (c_ret (q_then_r ?_))))))
  obtain rfl := sj h
  exact fin_ret (v := (B false)) (results_ok Tryz.results49 (res_tmp (v := (B false)) rfl res_nil) rfl) ⟨rfl, rfl⟩ (H.sel' [] rfl rfl)
 ·replace h := bif_f hb7 h
  refine c_skip (q_then (c_seq (c_seq (rg (st (v := (pt b1 1)) (rv_fieldAddr (off := 1) (ft := 3) Tryz.underlying67 rfl ti3 rfl rfl) ?_)))))
  have hc8 := H.cell (u := (I Aa.2)) (o' := 1) 1 1 rfl rfl rfl
  refine st (v := (I Aa.2)) (rv_load1 Tryz.underlying3 rfl rfl hc8) (st (v := (pt b3 1)) (rv_fieldAddr (off := 1) (ft := 3) Tryz.underlying67 rfl ti3 rfl rfl) ?_)
  have hc9 := H.cell (u := (I Bi.2)) (o' := 1) 0 1 rfl rfl rfl
  refine st (v := (I Bi.2)) (rv_load1 Tryz.underlying3 rfl rfl hc9) (st (v := (B (Aa.2 != Bi.2))) (rv_neq (a := Aa.2) (b := Bi.2) rfl rfl) (w_end (q_then ?_)))
  refine cd_cond (Aa.2 != Bi.2) rfl (fun hb10 => ?_) (fun hb10 => ?_)
  ·replace h := bif_t hb10 h
   refine c_seq (rg (sa (B false) rfl (w_end (q_then (c_ret (q_then_r ?_))))))
   obtain rfl := sj h
   exact fin_ret (v := (B false)) (results_ok Tryz.results49 (res_tmp (v := (B false)) rfl res_nil) rfl) ⟨rfl, rfl⟩ (H.sel' [] rfl rfl)
  ·replace h := bif_f hb10 h
   refine c_skip (q_then (c_seq (rg (sa (B true) rfl (w_end (q_then (c_ret ?_)))))))
   obtain rfl := sj h
   exact fin_ret (v := (B true)) (results_ok Tryz.results49 (res_tmp (v := (B true)) rfl res_nil) rfl) ⟨rfl, rfl⟩ (H.sel' [] rfl rfl)

theorem c_laws_eqHitS {Aa : List (Int × Int)} {Bi : List (Int × Int)} {Ad : Option Addr} {Ae : Nat} {Bs : Option Addr} {Bt : Nat} {r : Bool} (h : M.laws_eqHitS Aa Bi = some r) :
    Cal2 Tryz.prog 14 [(Sl Ad Aa Ae), (Sl Bs Bi Bt)] [Ch.ro 0 (Sl Ad Aa Ae) Aa, Ch.ro 0 (Sl Bs Bi Bt) Bi] (fun n0 v L => v = (B r) ∧ L = []) := by
 refine cal2 (n := 27) Tryz.func14 rfl rfl rfl rfl ?_
 intro S0 σ0 n0 hn0 H
 unfold M.laws_eqHitS at h
 refine c_seq (rg (sa (B false) rfl (w_end (q_then (c_seq (c_seq (rg (sm (Sl Ad Aa Ae) rfl (st (v := (I (Aa.length : Int))) (rv_len Tryz.underlying29 rfl) (sm (Sl Bs Bi Bt) rfl (st (v := (I (Bi.length : Int))) (rv_len Tryz.underlying29 rfl) ?_)))))))))))
 refine st (v := (B ((Aa.length : Int) != (Bi.length : Int)))) (rv_neq (a := (Aa.length : Int)) (b := (Bi.length : Int)) rfl rfl) (w_end (q_then ?_))
 refine cd_cond ((Aa.length : Int) != (Bi.length : Int)) rfl (fun hb1 => ?_) (fun hb1 => ?_)
 ·replace h := bif_t hb1 h
  refine c_seq (rg (sa (B false) rfl (w_end (q_then (c_ret (q_then_r ?_))))))
  obtain rfl := sj h
  exact fin_ret (v := (B false)) (results_ok Tryz.results14 (res_tmp (v := (B false)) rfl res_nil) rfl) ⟨rfl, rfl⟩ (H.sel' [] rfl rfl)
 ·replace h := bif_f hb1 h
  refine c_skip (q_then (c_seq (c_seq (rg (sa (I 0) rfl (w_end (q_then ?_)))))))
  obtain ⟨o2, hj, h'⟩ := bind_some h
  clear h
  refine c_cut (fun e a w => (∃ t, o2 = (.inl t) ∧ e = .normal ∧ ∃ (ρ : Nat → Value) (σ : St), a = fr 27 (updL ρ []) ∧ w = σ.w ∧ Hp S0 σ0 σ []) ∨ (∃ t, o2 = (.inr t) ∧ e = .ret ∧ ∃ (ρ : Nat → Value) (σ : St), a = fr 27 (updL ρ [(4, (B t))]) ∧ w = σ.w ∧ Hp S0 σ0 σ [])) ?_ ?_
  ·clear h'
   rename _ = some o2 => h
   refine c_blk (wp_loopM _ h (fun s3 a w => ∃ (ρ : Nat → Value) (σ : St), a = fr 27 (updL ρ [(0, (Sl Ad Aa Ae)), (1, (Sl Bs Bi Bt)), (5, (I s3))]) ∧ w = σ.w ∧ Hp S0 σ0 σ [Ch.ro 0 (Sl Ad Aa Ae) Aa, Ch.ro 0 (Sl Bs Bi Bt) Bi]) ⟨_, σ0, fr_join ⟨rfl, rfl, rfl, trivial⟩, rfl, H.sel' [0, 1] rfl rfl⟩ ?_)
   clear h H
   rintro s3 a w o ⟨ρ, σ4, rfl, rfl, H⟩ h hres
   refine c_seq (c_seq (rg (sm (I s3) rfl (sm (Sl Ad Aa Ae) rfl (st (v := (I (Aa.length : Int))) (rv_len Tryz.underlying29 rfl) (st (v := (B (decide (s3 < (Aa.length : Int))))) (rv_lss (a := s3) (b := (Aa.length : Int)) rfl rfl) (w_end (q_then ?_))))))))
   refine cd_cond (decide (s3 < (Aa.length : Int))) rfl (fun hb5 => ?_) (fun hb5 => ?_)
   ·replace h := bif_t hb5 h
    refine c_skip (q_then (c_seq (c_blk (c_seq ?_))))
    refine rgP (σ := σ4) 8 (by kernel_rfl) (by kernel_rfl) (by kernel_rfl) ?_
    refine sq (v := (Sl Ad Aa Ae)) (rv_move rfl) (sq (v := (I s3)) (rv_move rfl) ?_)
    revert h; refine br fun x6 hx7 h => ?_
    obtain ⟨b9, o10, hi8, -⟩ := (H.ro 0 rfl).ix hx7
    refine sq (v := (pt b9 o10)) (rv_ix Tryz.underlying29 ti67 rfl rfl hi8) ?_
    obtain ⟨_, ⟨_, _, rfl, rfl, rfl⟩, hl11, hc12⟩ := ((H.ro 0 rfl).at hx7 hi8).cells
    refine sq (v := (.agg #[(I x6.1), (I x6.2)])) (rv_load Tryz.underlying67 rfl ti67 rfl hl11 hc12) (sq (v := (Sl Bs Bi Bt)) (rv_move rfl) (sq (v := (I s3)) (rv_move rfl) ?_))
    revert h; refine br fun x13 hx14 h => ?_
    obtain ⟨b16, o17, hi15, -⟩ := (H.ro 1 rfl).ix hx14
    refine sq (v := (pt b16 o17)) (rv_ix Tryz.underlying29 ti67 rfl rfl hi15) ?_
    obtain ⟨_, ⟨_, _, rfl, rfl, rfl⟩, hl18, hc19⟩ := ((H.ro 1 rfl).at hx14 hi15).cells
    refine sq (v := (.agg #[(I x13.1), (I x13.2)])) (rv_load Tryz.underlying67 rfl ti67 rfl hl18 hc19) (sq_end ?_)
    intro σ20 hm21
    replace H := H.grow (hm21.mono fun _ h => h); clear hm21
    revert h; refine br fun r22 hx23 h => ?_
    have hc24 := c_laws_eqHit hx23
    refine st_call (cx_call hc24 (ent_f hc24.fn rfl) hn0 (H.sel' [0, 1] rfl rfl : Hp S0 σ0 _ ([] ++ _))) wn ?_
    rintro _ σ25 ⟨_, ⟨rfl, rfl⟩, H, -⟩
    replace H : Hp _ _ _ [_, _] := H
    refine st (v := (B (!r22))) (rv_not rfl) (w_end (q_then ?_))
    refine cd_cond (!r22) rfl (fun hb26 => ?_) (fun hb26 => ?_)
    ·replace h := bif_t hb26 h
     refine c_seq (rg (sa (B false) rfl (w_end (q_then (c_ret (q_blk_r (q_then_r (q_then_r (q_blk_r ?_)))))))))
     obtain rfl := sj h
     obtain rfl := hres _ rfl
     exact .inr (⟨_, rfl, rfl, _, σ25, fr_join ⟨rfl, trivial⟩, rfl, H.sel' [] rfl rfl⟩)
    ·replace h := bif_f hb26 h
     refine c_skip (q_blk (q_then (rg (sm (I s3) rfl (st (v := (I (w64 (s3 + 1)))) (rv_add (a := s3) (b := 1) rfl rfl) (sa (I (w64 (s3 + 1))) rfl (w_end (q_then ?_))))))))
     obtain rfl := sj h
     exact ⟨_, rfl, _, σ25, fr_join ⟨rfl, rfl, rfl, trivial⟩, rfl, H.sel' [0, 1] rfl rfl⟩
   ·replace h := bif_f hb5 h
    refine c_exit (q_then_x (q_then_x (q_blk_hit ?_)))
    obtain rfl := sj h
    obtain rfl := hres _ rfl
    exact .inl ⟨_, rfl, rfl, _, σ4, fr_join trivial, rfl, H.sel' [] rfl rfl⟩
  ·clear hj
   have h := h'
   clear h' H
   rintro e a w (⟨t27, rfl, rfl, ρ, σ28, rfl, rfl, H⟩ | ⟨t29, rfl, rfl, ρ, σ30, rfl, rfl, H⟩)
   ·replace h := selim_l h
    refine q_then (c_seq (rg (sa (B true) rfl (w_end (q_then (c_ret ?_))))))
    obtain rfl := sj h
    exact fin_ret (v := (B true)) (results_ok Tryz.results14 (res_tmp (v := (B true)) rfl res_nil) rfl) ⟨rfl, rfl⟩ (H.sel' [] rfl rfl)
   ·replace h := selim_r h
    refine q_then_r ?_
    obtain rfl := sj h
    exact fin_ret (v := (B t29)) (results_ok Tryz.results14 (res_tmp (v := (B t29)) rfl res_nil) rfl) ⟨rfl, rfl⟩ (H.sel' [] rfl rfl)

theorem c_laws_eqIntS {Aa : List Int} {Bi : List Int} {Ad : Option Addr} {Ae : Nat} {Bs : Option Addr} {Bt : Nat} {r : Bool} (h : M.laws_eqIntS Aa Bi = some r) :
    Cal2 Tryz.prog 17 [(Sl Ad Aa Ae), (Sl Bs Bi Bt)] [Ch.ro 0 (Sl Ad Aa Ae) Aa, Ch.ro 0 (Sl Bs Bi Bt) Bi] (fun n0 v L => v = (B r) ∧ L = []) := by
 refine cal2 (n := 26) Tryz.func17 rfl rfl rfl rfl ?_
 intro S0 σ0 n0 hn0 H
 unfold M.laws_eqIntS at h
 refine c_seq (rg (sa (B false) rfl (w_end (q_then (c_seq (c_seq (rg (sm (Sl Ad Aa Ae) rfl (st (v := (I (Aa.length : Int))) (rv_len Tryz.underlying26 rfl) (sm (Sl Bs Bi Bt) rfl (st (v := (I (Bi.length : Int))) (rv_len Tryz.underlying26 rfl) ?_)))))))))))
 refine st (v := (B ((Aa.length : Int) != (Bi.length : Int)))) (rv_neq (a := (Aa.length : Int)) (b := (Bi.length : Int)) rfl rfl) (w_end (q_then ?_))
 refine cd_cond ((Aa.length : Int) != (Bi.length : Int)) rfl (fun hb1 => ?_) (fun hb1 => ?_)
 ·replace h := bif_t hb1 h
  refine c_seq (rg (sa (B false) rfl (w_end (q_then (c_ret (q_then_r ?_))))))
  obtain rfl := sj h
  exact fin_ret (v := (B false)) (results_ok Tryz.results17 (res_tmp (v := (B false)) rfl res_nil) rfl) ⟨rfl, rfl⟩ (H.sel' [] rfl rfl)
 ·replace h := bif_f hb1 h
  refine c_skip (q_then (c_seq (c_seq (rg (sa (I 0) rfl (w_end (q_then ?_)))))))
  obtain ⟨o2, hj, h'⟩ := bind_some h
  clear h
  refine c_cut (fun e a w => (∃ t, o2 = (.inl t) ∧ e = .normal ∧ ∃ (ρ : Nat → Value) (σ : St), a = fr 26 (updL ρ []) ∧ w = σ.w ∧ Hp S0 σ0 σ []) ∨ (∃ t, o2 = (.inr t) ∧ e = .ret ∧ ∃ (ρ : Nat → Value) (σ : St), a = fr 26 (updL ρ [(4, (B t))]) ∧ w = σ.w ∧ Hp S0 σ0 σ [])) ?_ ?_
  ·clear h'
   rename _ = some o2 => h
   refine c_blk (wp_loopM _ h (fun s3 a w => ∃ (ρ : Nat → Value) (σ : St), a = fr 26 (updL ρ [(0, (Sl Ad Aa Ae)), (1, (Sl Bs Bi Bt)), (5, (I s3))]) ∧ w = σ.w ∧ Hp S0 σ0 σ [Ch.ro 0 (Sl Ad Aa Ae) Aa, Ch.ro 0 (Sl Bs Bi Bt) Bi]) ⟨_, σ0, fr_join ⟨rfl, rfl, rfl, trivial⟩, rfl, H.sel' [0, 1] rfl rfl⟩ ?_)
   clear h H
   rintro s3 a w o ⟨ρ, σ4, rfl, rfl, H⟩ h hres
   refine c_seq (c_seq (rg (sm (I s3) rfl (sm (Sl Ad Aa Ae) rfl (st (v := (I (Aa.length : Int))) (rv_len Tryz.underlying26 rfl) (st (v := (B (decide (s3 < (Aa.length : Int))))) (rv_lss (a := s3) (b := (Aa.length : Int)) rfl rfl) (w_end (q_then ?_))))))))
   refine cd_cond (decide (s3 < (Aa.length : Int))) rfl (fun hb5 => ?_) (fun hb5 => ?_)
   ·replace h := bif_t hb5 h
    refine c_skip (q_then (c_seq (c_blk (c_seq ?_))))
    refine rgP (σ := σ4) 8 (by kernel_rfl) (by kernel_rfl) (by kernel_rfl) ?_
    refine sq (v := (Sl Ad Aa Ae)) (rv_move rfl) (sq (v := (I s3)) (rv_move rfl) ?_)
    revert h; refine br fun x6 hx7 h => ?_
    obtain ⟨b9, o10, hi8, -⟩ := (H.ro 0 rfl).ix hx7
    refine sq (v := (pt b9 o10)) (rv_ix Tryz.underlying26 ti3 rfl rfl hi8) ?_
    have hc11 := ((H.ro 0 rfl).at hx7 hi8).int
    refine sq (v := (I x6)) (rv_load1 Tryz.underlying3 rfl rfl hc11) (sq (v := (Sl Bs Bi Bt)) (rv_move rfl) (sq (v := (I s3)) (rv_move rfl) ?_))
    revert h; refine br fun x12 hx13 h => ?_
    obtain ⟨b15, o16, hi14, -⟩ := (H.ro 1 rfl).ix hx13
    refine sq (v := (pt b15 o16)) (rv_ix Tryz.underlying26 ti3 rfl rfl hi14) ?_
    have hc17 := ((H.ro 1 rfl).at hx13 hi14).int
    refine sq (v := (I x12)) (rv_load1 Tryz.underlying3 rfl rfl hc17) (sq_end ?_)
    intro σ18 hm19
    replace H := H.grow (hm19.mono fun _ h => h); clear hm19
    refine st (v := (B (x6 != x12))) (rv_neq (a := x6) (b := x12) rfl rfl) (w_end (q_then ?_))
    refine cd_cond (x6 != x12) rfl (fun hb20 => ?_) (fun hb20 => ?_)
    ·replace h := bif_t hb20 h
     refine c_seq (rg (sa (B false) rfl (w_end (q_then (c_ret (q_blk_r (q_then_r (q_then_r (q_blk_r ?_)))))))))
     obtain rfl := sj h
     obtain rfl := hres _ rfl
     exact .inr (⟨_, rfl, rfl, _, σ18, fr_join ⟨rfl, trivial⟩, rfl, H.sel' [] rfl rfl⟩)
    ·replace h := bif_f hb20 h
     refine c_skip (q_blk (q_then (rg (sm (I s3) rfl (st (v := (I (w64 (s3 + 1)))) (rv_add (a := s3) (b := 1) rfl rfl) (sa (I (w64 (s3 + 1))) rfl (w_end (q_then ?_))))))))
     obtain rfl := sj h
     exact ⟨_, rfl, _, σ18, fr_join ⟨rfl, rfl, rfl, trivial⟩, rfl, H.sel' [0, 1] rfl rfl⟩
   ·replace h := bif_f hb5 h
    refine c_exit (q_then_x (q_then_x (q_blk_hit ?_)))
    obtain rfl := sj h
    obtain rfl := hres _ rfl
    exact .inl ⟨_, rfl, rfl, _, σ4, fr_join trivial, rfl, H.sel' [] rfl rfl⟩
  ·clear hj
   have h := h'
   clear h' H
   rintro e a w (⟨t21, rfl, rfl, ρ, σ22, rfl, rfl, H⟩ | ⟨t23, rfl, rfl, ρ, σ24, rfl, rfl, H⟩)
   ·replace h := selim_l h
    refine q_then (c_seq (rg (sa (B true) rfl (w_end (q_then (c_ret ?_))))))
    obtain rfl := sj h
    exact fin_ret (v := (B true)) (results_ok Tryz.results17 (res_tmp (v := (B true)) rfl res_nil) rfl) ⟨rfl, rfl⟩ (H.sel' [] rfl rfl)
   ·replace h := selim_r h
    refine q_then_r ?_
    obtain rfl := sj h
    exact fin_ret (v := (B t23)) (results_ok Tryz.results17 (res_tmp (v := (B t23)) rfl res_nil) rfl) ⟨rfl, rfl⟩ (H.sel' [] rfl rfl)

theorem c_laws_eqIntSS {Aa : List (List Int)} {Bi : List (List Int)} {Ad : Option Addr} {Ae : Nat} {Bs : Option Addr} {Bt : Nat} {r : Bool} (h : M.laws_eqIntSS Aa Bi = some r) :
    Cal2 Tryz.prog 29 [(Sl Ad Aa Ae), (Sl Bs Bi Bt)] [Ch.ro 0 (Sl Ad Aa Ae) Aa, Ch.ro 0 (Sl Bs Bi Bt) Bi] (fun n0 v L => v = (B r) ∧ L = []) := by
 refine cal2 (n := 27) Tryz.func29 rfl rfl rfl rfl ?_
 intro S0 σ0 n0 hn0 H
 unfold M.laws_eqIntSS at h
 refine c_seq (rg (sa (B false) rfl (w_end (q_then (c_seq (c_seq (rg (sm (Sl Ad Aa Ae) rfl (st (v := (I (Aa.length : Int))) (rv_len Tryz.underlying22 rfl) (sm (Sl Bs Bi Bt) rfl (st (v := (I (Bi.length : Int))) (rv_len Tryz.underlying22 rfl) ?_)))))))))))
 refine st (v := (B ((Aa.length : Int) != (Bi.length : Int)))) (rv_neq (a := (Aa.length : Int)) (b := (Bi.length : Int)) rfl rfl) (w_end (q_then ?_))
 refine cd_cond ((Aa.length : Int) != (Bi.length : Int)) rfl (fun hb1 => ?_) (fun hb1 => ?_)
 ·replace h := bif_t hb1 h
  refine c_seq (rg (sa (B false) rfl (w_end (q_then (c_ret (q_then_r ?_))))))
  obtain rfl := sj h
  exact fin_ret (v := (B false)) (results_ok Tryz.results29 (res_tmp (v := (B false)) rfl res_nil) rfl) ⟨rfl, rfl⟩ (H.sel' [] rfl rfl)
 ·replace h := bif_f hb1 h
  refine c_skip (q_then (c_seq (c_seq (rg (sa (I 0) rfl (w_end (q_then ?_)))))))
  obtain ⟨o2, hj, h'⟩ := bind_some h
  clear h
  refine c_cut (fun e a w => (∃ t, o2 = (.inl t) ∧ e = .normal ∧ ∃ (ρ : Nat → Value) (σ : St), a = fr 27 (updL ρ []) ∧ w = σ.w ∧ Hp S0 σ0 σ []) ∨ (∃ t, o2 = (.inr t) ∧ e = .ret ∧ ∃ (ρ : Nat → Value) (σ : St), a = fr 27 (updL ρ [(4, (B t))]) ∧ w = σ.w ∧ Hp S0 σ0 σ [])) ?_ ?_
  ·clear h'
   rename _ = some o2 => h
   refine c_blk (wp_loopM _ h (fun s3 a w => ∃ (ρ : Nat → Value) (σ : St), a = fr 27 (updL ρ [(0, (Sl Ad Aa Ae)), (1, (Sl Bs Bi Bt)), (5, (I s3))]) ∧ w = σ.w ∧ Hp S0 σ0 σ [Ch.ro 0 (Sl Ad Aa Ae) Aa, Ch.ro 0 (Sl Bs Bi Bt) Bi]) ⟨_, σ0, fr_join ⟨rfl, rfl, rfl, trivial⟩, rfl, H.sel' [0, 1] rfl rfl⟩ ?_)
   clear h H
   rintro s3 a w o ⟨ρ, σ4, rfl, rfl, H⟩ h hres
   refine c_seq (c_seq (rg (sm (I s3) rfl (sm (Sl Ad Aa Ae) rfl (st (v := (I (Aa.length : Int))) (rv_len Tryz.underlying22 rfl) (st (v := (B (decide (s3 < (Aa.length : Int))))) (rv_lss (a := s3) (b := (Aa.length : Int)) rfl rfl) (w_end (q_then ?_))))))))
   refine cd_cond (decide (s3 < (Aa.length : Int))) rfl (fun hb5 => ?_) (fun hb5 => ?_)
   ·replace h := bif_t hb5 h
    refine c_skip (q_then (c_seq (c_blk (c_seq ?_))))
    refine rgP (σ := σ4) 8 (by kernel_rfl) (by kernel_rfl) (by kernel_rfl) ?_
    refine sq (v := (Sl Ad Aa Ae)) (rv_move rfl) (sq (v := (I s3)) (rv_move rfl) ?_)
    revert h; refine br fun x6 hx7 h => ?_
    obtain ⟨b9, o10, hi8, -⟩ := (H.ro 0 rfl).ix hx7
    refine sq (v := (pt b9 o10)) (rv_ix Tryz.underlying22 ti26 rfl rfl hi8) ?_
    obtain ⟨v14, hc15, hR13⟩ := ((H.ro 0 rfl).at hx7 hi8).slice
    obtain ⟨a11, c12, rfl⟩ := hR13.isSl
    replace H := H.add (d := Ch.ro 0 (Sl a11 x6 c12) x6) hR13 (fun _ h => h)
    clear hR13
    refine sq (v := (Sl a11 x6 c12)) (rv_load1 Tryz.underlying26 rfl rfl hc15) (sq (v := (Sl Bs Bi Bt)) (rv_move rfl) (sq (v := (I s3)) (rv_move rfl) ?_))
    revert h; refine br fun x16 hx17 h => ?_
    obtain ⟨b19, o20, hi18, -⟩ := (H.ro 2 rfl).ix hx17
    refine sq (v := (pt b19 o20)) (rv_ix Tryz.underlying22 ti26 rfl rfl hi18) ?_
    obtain ⟨v24, hc25, hR23⟩ := ((H.ro 2 rfl).at hx17 hi18).slice
    obtain ⟨a21, c22, rfl⟩ := hR23.isSl
    replace H := H.add (d := Ch.ro 0 (Sl a21 x16 c22) x16) hR23 (fun _ h => h)
    clear hR23
    refine sq (v := (Sl a21 x16 c22)) (rv_load1 Tryz.underlying26 rfl rfl hc25) (sq_end ?_)
    intro σ26 hm27
    replace H := H.grow (hm27.mono fun _ h => h); clear hm27
    revert h; refine br fun r28 hx29 h => ?_
    have hc30 := c_laws_eqIntS (Ad := a11) (Ae := c12) (Bs := a21) (Bt := c22) hx29
    refine st_call (cx_call hc30 (ent_f hc30.fn rfl) hn0 (H.sel' [1, 0, 0, 1, 2, 3] rfl rfl : Hp S0 σ0 _ ([_, _] ++ _))) wn ?_
    rintro _ σ31 ⟨_, ⟨rfl, rfl⟩, H, -⟩
    replace H : Hp _ _ _ [_, _, _, _] := H
    refine st (v := (B (!r28))) (rv_not rfl) (w_end (q_then ?_))
    refine cd_cond (!r28) rfl (fun hb32 => ?_) (fun hb32 => ?_)
    ·replace h := bif_t hb32 h
     refine c_seq (rg (sa (B false) rfl (w_end (q_then (c_ret (q_blk_r (q_then_r (q_then_r (q_blk_r ?_)))))))))
     obtain rfl := sj h
     obtain rfl := hres _ rfl
     exact .inr (⟨_, rfl, rfl, _, σ31, fr_join ⟨rfl, trivial⟩, rfl, H.sel' [] rfl rfl⟩)
    ·replace h := bif_f hb32 h
     refine c_skip (q_blk (q_then (rg (sm (I s3) rfl (st (v := (I (w64 (s3 + 1)))) (rv_add (a := s3) (b := 1) rfl rfl) (sa (I (w64 (s3 + 1))) rfl (w_end (q_then ?_))))))))
     obtain rfl := sj h
     exact ⟨_, rfl, _, σ31, fr_join ⟨rfl, rfl, rfl, trivial⟩, rfl, H.sel' [2, 3] rfl rfl⟩
   ·replace h := bif_f hb5 h
    refine c_exit (q_then_x (q_then_x (q_blk_hit ?_)))
    obtain rfl := sj h
    obtain rfl := hres _ rfl
    exact .inl ⟨_, rfl, rfl, _, σ4, fr_join trivial, rfl, H.sel' [] rfl rfl⟩
  ·clear hj
   have h := h'
   clear h' H
   rintro e a w (⟨t33, rfl, rfl, ρ, σ34, rfl, rfl, H⟩ | ⟨t35, rfl, rfl, ρ, σ36, rfl, rfl, H⟩)
   ·replace h := selim_l h
    refine q_then (c_seq (rg (sa (B true) rfl (w_end (q_then (c_ret ?_))))))
    obtain rfl := sj h
    exact fin_ret (v := (B true)) (results_ok Tryz.results29 (res_tmp (v := (B true)) rfl res_nil) rfl) ⟨rfl, rfl⟩ (H.sel' [] rfl rfl)
   ·replace h := selim_r h
    refine q_then_r ?_
    obtain rfl := sj h
    exact fin_ret (v := (B t35)) (results_ok Tryz.results29 (res_tmp (v := (B t35)) rfl res_nil) rfl) ⟨rfl, rfl⟩ (H.sel' [] rfl rfl)

theorem c_laws_eqBook {Aa : (List (List Int)) × (List (List Int))} {Bi : (List (List Int)) × (List (List Int))} {Af : Option Addr} {Ag : Nat} {Ah : Option Addr} {Ai : Nat} {Gl : Option Addr} {Gm : Nat} {Gn : Option Addr} {Gp : Nat} {r : Bool} (h : M.laws_eqBook Aa Bi = some r) :
    Cal2 Tryz.prog 15 [(.agg #[(Sl Af Aa.1 Ag), (Sl Ah Aa.2 Ai)]), (.agg #[(Sl Gl Bi.1 Gm), (Sl Gn Bi.2 Gp)])] [Ch.ro 0 (Sl Af Aa.1 Ag) Aa.1, Ch.ro 0 (Sl Ah Aa.2 Ai) Aa.2, Ch.ro 0 (Sl Gl Bi.1 Gm) Bi.1, Ch.ro 0 (Sl Gn Bi.2 Gp) Bi.2] (fun n0 v L => v = (B r) ∧ L = []) := by
 refine cal2 (n := 17) Tryz.func15 rfl rfl rfl rfl ?_
 intro S0 σ0 n0 hn0 H
 unfold M.laws_eqBook at h
 refine c_seq (rg (st_ex (ex_box (cs := [(Sl Af Aa.1 Ag), (Sl Ah Aa.2 Ai)]) H hn0 rfl rfl) wn ?_))
 rintro _ σ2 ⟨b1, rfl, H, -⟩
 refine st_ex (ex_box (cs := [(Sl Gl Bi.1 Gm), (Sl Gn Bi.2 Gp)]) H hn0 rfl rfl) wn ?_
 rintro _ σ4 ⟨b3, rfl, H, -⟩
 refine sa (B false) rfl (w_end (q_then (c_seq (c_seq (rg (st (v := (pt b1 0)) (rv_fieldAddr (off := 0) (ft := 22) Tryz.underlying31 rfl ti22 rfl rfl) ?_))))))
 have hc5 := H.cell (u := (Sl Af Aa.1 Ag)) (o' := 0) 1 0 rfl rfl rfl
 refine st (v := (Sl Af Aa.1 Ag)) (rv_load1 Tryz.underlying22 rfl rfl hc5) (st (v := (pt b3 0)) (rv_fieldAddr (off := 0) (ft := 22) Tryz.underlying31 rfl ti22 rfl rfl) ?_)
 have hc6 := H.cell (u := (Sl Gl Bi.1 Gm)) (o' := 0) 0 0 rfl rfl rfl
 refine st (v := (Sl Gl Bi.1 Gm)) (rv_load1 Tryz.underlying22 rfl rfl hc6) ?_
 revert h; refine br fun r7 hx8 h => ?_
 have hc9 := c_laws_eqIntSS (Ad := Af) (Ae := Ag) (Bs := Gl) (Bt := Gm) hx8
 refine st_call (cx_call hc9 (ent_f hc9.fn rfl) hn0 (H.sel' [2, 4, 0, 1, 2, 3, 4, 5] rfl rfl : Hp S0 σ0 _ ([_, _] ++ _))) wn ?_
 rintro _ σ10 ⟨_, ⟨rfl, rfl⟩, H, -⟩
 replace H : Hp _ _ _ [_, _, _, _, _, _] := H
 refine st (v := (B (!r7))) (rv_not rfl) (w_end (q_then ?_))
 refine cd_cond (!r7) rfl (fun hb11 => ?_) (fun hb11 => ?_)
 ·replace h := bif_t hb11 h
  refine c_seq (rg (sa (B false) rfl (w_end (q_then (c_ret (q_then_r ?_))))))
  obtain rfl := sj h
  exact fin_ret (v := (B false)) (results_ok Tryz.results15 (res_tmp (v := (B false)) rfl res_nil) rfl) ⟨rfl, rfl⟩ (H.sel' [] rfl rfl)
 ·replace h := bif_f hb11 h
  refine c_skip (q_then (c_seq (c_seq (rg (st (v := (pt b1 1)) (rv_fieldAddr (off := 1) (ft := 22) Tryz.underlying31 rfl ti22 rfl rfl) ?_)))))
  have hc12 := H.cell (u := (Sl Ah Aa.2 Ai)) (o' := 1) 1 1 rfl rfl rfl
  refine st (v := (Sl Ah Aa.2 Ai)) (rv_load1 Tryz.underlying22 rfl rfl hc12) (st (v := (pt b3 1)) (rv_fieldAddr (off := 1) (ft := 22) Tryz.underlying31 rfl ti22 rfl rfl) ?_)
  have hc13 := H.cell (u := (Sl Gn Bi.2 Gp)) (o' := 1) 0 1 rfl rfl rfl
  refine st (v := (Sl Gn Bi.2 Gp)) (rv_load1 Tryz.underlying22 rfl rfl hc13) ?_
  revert h; refine br fun r14 hx15 h => ?_
  have hc16 := c_laws_eqIntSS (Ad := Ah) (Ae := Ai) (Bs := Gn) (Bt := Gp) hx15
  refine st_call (cx_call hc16 (ent_f hc16.fn rfl) hn0 (H.sel' [3, 5, 0, 1, 2, 3, 4, 5] rfl rfl : Hp S0 σ0 _ ([_, _] ++ _))) wn ?_
  rintro _ σ17 ⟨_, ⟨rfl, rfl⟩, H, -⟩
  replace H : Hp _ _ _ [_, _, _, _, _, _] := H
  refine st (v := (B (!r14))) (rv_not rfl) (w_end (q_then ?_))
  refine cd_cond (!r14) rfl (fun hb18 => ?_) (fun hb18 => ?_)
  ·replace h := bif_t hb18 h
   refine c_seq (rg (sa (B false) rfl (w_end (q_then (c_ret (q_then_r ?_))))))
   obtain rfl := sj h
   exact fin_ret (v := (B false)) (results_ok Tryz.results15 (res_tmp (v := (B false)) rfl res_nil) rfl) ⟨rfl, rfl⟩ (H.sel' [] rfl rfl)
  ·replace h := bif_f hb18 h
   refine c_skip (q_then (c_seq (rg (sa (B true) rfl (w_end (q_then (c_ret ?_)))))))
   obtain rfl := sj h
   exact fin_ret (v := (B true)) (results_ok Tryz.results15 (res_tmp (v := (B true)) rfl res_nil) rfl) ⟨rfl, rfl⟩ (H.sel' [] rfl rfl)

theorem c_laws_eqItem {Aa : Int × (List Int) × Int} {Bi : Int × (List Int) × Int} {Ah : Option Addr} {Ai : Nat} {Gn : Option Addr} {Gp : Nat} {r : Bool} (h : M.laws_eqItem Aa Bi = some r) :
    Cal2 Tryz.prog 50 [(.agg #[(I Aa.1), (Sl Ah Aa.2.1 Ai), (I Aa.2.2)]), (.agg #[(I Bi.1), (Sl Gn Bi.2.1 Gp), (I Bi.2.2)])] [Ch.ro 0 (Sl Ah Aa.2.1 Ai) Aa.2.1, Ch.ro 0 (Sl Gn Bi.2.1 Gp) Bi.2.1] (fun n0 v L => v = (B r) ∧ L = []) := by
 refine cal2 (n := 21) Tryz.func50 rfl rfl rfl rfl ?_
 intro S0 σ0 n0 hn0 H
 unfold M.laws_eqItem at h
 refine c_seq (rg (st_ex (ex_box (cs := [(I Aa.1), (Sl Ah Aa.2.1 Ai), (I Aa.2.2)]) H hn0 rfl rfl) wn ?_))
 rintro _ σ2 ⟨b1, rfl, H, -⟩
 refine st_ex (ex_box (cs := [(I Bi.1), (Sl Gn Bi.2.1 Gp), (I Bi.2.2)]) H hn0 rfl rfl) wn ?_
 rintro _ σ4 ⟨b3, rfl, H, -⟩
 refine sa (B false) rfl (w_end (q_then (c_seq (c_seq (rg (st (v := (pt b1 0)) (rv_fieldAddr (off := 0) (ft := 3) Tryz.underlying62 rfl ti3 rfl rfl) ?_))))))
 have hc5 := H.cell (u := (I Aa.1)) (o' := 0) 1 0 rfl rfl rfl
 refine st (v := (I Aa.1)) (rv_load1 Tryz.underlying3 rfl rfl hc5) (st (v := (pt b3 0)) (rv_fieldAddr (off := 0) (ft := 3) Tryz.underlying62 rfl ti3 rfl rfl) ?_)
 have hc6 := H.cell (u := (I Bi.1)) (o' := 0) 0 0 rfl rfl rfl
 refine st (v := (I Bi.1)) (rv_load1 Tryz.underlying3 rfl rfl hc6) (st (v := (B (Aa.1 != Bi.1))) (rv_neq (a := Aa.1) (b := Bi.1) rfl rfl) (w_end (q_then ?_)))
 refine cd_cond (Aa.1 != Bi.1) rfl (fun hb7 => ?_) (fun hb7 => ?_)
 ·replace h := bif_t hb7 h
  refine c_seq (rg (sa (B false) rfl (w_end (q_then (c_ret (q_then_r ?_))))))
  obtain rfl := sj h
  exact fin_ret (v := (B false)) (results_ok Tryz.results50 (res_tmp (v := (B false)) rfl res_nil) rfl) ⟨rfl, rfl⟩ (H.sel' [] rfl rfl)
 ·replace h := bif_f hb7 h
  refine c_skip (q_then (c_seq (c_seq (rg (st (v := (pt b1 1)) (rv_fieldAddr (off := 1) (ft := 26) Tryz.underlying62 rfl ti26 rfl rfl) ?_)))))
  have hc8 := H.cell (u := (Sl Ah Aa.2.1 Ai)) (o' := 1) 1 1 rfl rfl rfl
  refine st (v := (Sl Ah Aa.2.1 Ai)) (rv_load1 Tryz.underlying26 rfl rfl hc8) (st (v := (pt b3 1)) (rv_fieldAddr (off := 1) (ft := 26) Tryz.underlying62 rfl ti26 rfl rfl) ?_)
  have hc9 := H.cell (u := (Sl Gn Bi.2.1 Gp)) (o' := 1) 0 1 rfl rfl rfl
  refine st (v := (Sl Gn Bi.2.1 Gp)) (rv_load1 Tryz.underlying26 rfl rfl hc9) ?_
  revert h; refine br fun r10 hx11 h => ?_
  have hc12 := c_laws_eqIntS (Ad := Ah) (Ae := Ai) (Bs := Gn) (Bt := Gp) hx11
  refine st_call (cx_call hc12 (ent_f hc12.fn rfl) hn0 (H.sel' [2, 3, 0, 1, 2, 3] rfl rfl : Hp S0 σ0 _ ([_, _] ++ _))) wn ?_
  rintro _ σ13 ⟨_, ⟨rfl, rfl⟩, H, -⟩
  replace H : Hp _ _ _ [_, _, _, _] := H
  refine st (v := (B (!r10))) (rv_not rfl) (w_end (q_then ?_))
  refine cd_cond (!r10) rfl (fun hb14 => ?_) (fun hb14 => ?_)
  ·replace h := bif_t hb14 h
   refine c_seq (rg (sa (B false) rfl (w_end (q_then (c_ret (q_then_r ?_))))))
   obtain rfl := sj h
   exact fin_ret (v := (B false)) (results_ok Tryz.results50 (res_tmp (v := (B false)) rfl res_nil) rfl) ⟨rfl, rfl⟩ (H.sel' [] rfl rfl)
  ·replace h := bif_f hb14 h
   refine c_skip (q_then (c_seq (c_seq (rg (st (v := (pt b1 2)) (rv_fieldAddr (off := 2) (ft := 3) Tryz.underlying62 rfl ti3 rfl rfl) ?_)))))
   have hc15 := H.cell (u := (I Aa.2.2)) (o' := 2) 1 2 rfl rfl rfl
   refine st (v := (I Aa.2.2)) (rv_load1 Tryz.underlying3 rfl rfl hc15) (st (v := (pt b3 2)) (rv_fieldAddr (off := 2) (ft := 3) Tryz.underlying62 rfl ti3 rfl rfl) ?_)
   have hc16 := H.cell (u := (I Bi.2.2)) (o' := 2) 0 2 rfl rfl rfl
   refine st (v := (I Bi.2.2)) (rv_load1 Tryz.underlying3 rfl rfl hc16) (st (v := (B (Aa.2.2 != Bi.2.2))) (rv_neq (a := Aa.2.2) (b := Bi.2.2) rfl rfl) (w_end (q_then ?_)))
   refine cd_cond (Aa.2.2 != Bi.2.2) rfl (fun hb17 => ?_) (fun hb17 => ?_)
   ·replace h := bif_t hb17 h
    refine c_seq (rg (sa (B false) rfl (w_end (q_then (c_ret (q_then_r ?_))))))
    obtain rfl := sj h
    exact fin_ret (v := (B false)) (results_ok Tryz.results50 (res_tmp (v := (B false)) rfl res_nil) rfl) ⟨rfl, rfl⟩ (H.sel' [] rfl rfl)
   ·replace h := bif_f hb17 h
    refine c_skip (q_then (c_seq (rg (sa (B true) rfl (w_end (q_then (c_ret ?_)))))))
    obtain rfl := sj h
    exact fin_ret (v := (B true)) (results_ok Tryz.results50 (res_tmp (v := (B true)) rfl res_nil) rfl) ⟨rfl, rfl⟩ (H.sel' [] rfl rfl)

theorem c_laws_eqItemS {Aa : List (Int × (List Int) × Int)} {Bi : List (Int × (List Int) × Int)} {Ad : Option Addr} {Ae : Nat} {Bs : Option Addr} {Bt : Nat} {r : Bool} (h : M.laws_eqItemS Aa Bi = some r) :
    Cal2 Tryz.prog 16 [(Sl Ad Aa Ae), (Sl Bs Bi Bt)] [Ch.ro 0 (Sl Ad Aa Ae) Aa, Ch.ro 0 (Sl Bs Bi Bt) Bi] (fun n0 v L => v = (B r) ∧ L = []) := by
 refine cal2 (n := 27) Tryz.func16 rfl rfl rfl rfl ?_
 intro S0 σ0 n0 hn0 H
 unfold M.laws_eqItemS at h
 refine c_seq (rg (sa (B false) rfl (w_end (q_then (c_seq (c_seq (rg (sm (Sl Ad Aa Ae) rfl (st (v := (I (Aa.length : Int))) (rv_len Tryz.underlying33 rfl) (sm (Sl Bs Bi Bt) rfl (st (v := (I (Bi.length : Int))) (rv_len Tryz.underlying33 rfl) ?_)))))))))))
 refine st (v := (B ((Aa.length : Int) != (Bi.length : Int)))) (rv_neq (a := (Aa.length : Int)) (b := (Bi.length : Int)) rfl rfl) (w_end (q_then ?_))
 refine cd_cond ((Aa.length : Int) != (Bi.length : Int)) rfl (fun hb1 => ?_) (fun hb1 => ?_)
 ·replace h := bif_t hb1 h
  refine c_seq (rg (sa (B false) rfl (w_end (q_then (c_ret (q_then_r ?_))))))
  obtain rfl := sj h
  exact fin_ret (v := (B false)) (results_ok Tryz.results16 (res_tmp (v := (B false)) rfl res_nil) rfl) ⟨rfl, rfl⟩ (H.sel' [] rfl rfl)
 ·replace h := bif_f hb1 h
  refine c_skip (q_then (c_seq (c_seq (rg (sa (I 0) rfl (w_end (q_then ?_)))))))
  obtain ⟨o2, hj, h'⟩ := bind_some h
  clear h
  refine c_cut (fun e a w => (∃ t, o2 = (.inl t) ∧ e = .normal ∧ ∃ (ρ : Nat → Value) (σ : St), a = fr 27 (updL ρ []) ∧ w = σ.w ∧ Hp S0 σ0 σ []) ∨ (∃ t, o2 = (.inr t) ∧ e = .ret ∧ ∃ (ρ : Nat → Value) (σ : St), a = fr 27 (updL ρ [(4, (B t))]) ∧ w = σ.w ∧ Hp S0 σ0 σ [])) ?_ ?_
  ·clear h'
   rename _ = some o2 => h
   refine c_blk (wp_loopM _ h (fun s3 a w => ∃ (ρ : Nat → Value) (σ : St), a = fr 27 (updL ρ [(0, (Sl Ad Aa Ae)), (1, (Sl Bs Bi Bt)), (5, (I s3))]) ∧ w = σ.w ∧ Hp S0 σ0 σ [Ch.ro 0 (Sl Ad Aa Ae) Aa, Ch.ro 0 (Sl Bs Bi Bt) Bi]) ⟨_, σ0, fr_join ⟨rfl, rfl, rfl, trivial⟩, rfl, H.sel' [0, 1] rfl rfl⟩ ?_)
   clear h H
   rintro s3 a w o ⟨ρ, σ4, rfl, rfl, H⟩ h hres
   refine c_seq (c_seq (rg (sm (I s3) rfl (sm (Sl Ad Aa Ae) rfl (st (v := (I (Aa.length : Int))) (rv_len Tryz.underlying33 rfl) (st (v := (B (decide (s3 < (Aa.length : Int))))) (rv_lss (a := s3) (b := (Aa.length : Int)) rfl rfl) (w_end (q_then ?_))))))))
   refine cd_cond (decide (s3 < (Aa.length : Int))) rfl (fun hb5 => ?_) (fun hb5 => ?_)
   ·replace h := bif_t hb5 h
    refine c_skip (q_then (c_seq (c_blk (c_seq ?_))))
    refine rgP (σ := σ4) 8 (by kernel_rfl) (by kernel_rfl) (by kernel_rfl) ?_
    refine sq (v := (Sl Ad Aa Ae)) (rv_move rfl) (sq (v := (I s3)) (rv_move rfl) ?_)
    revert h; refine br fun x6 hx7 h => ?_
    obtain ⟨b9, o10, hi8, -⟩ := (H.ro 0 rfl).ix hx7
    refine sq (v := (pt b9 o10)) (rv_ix Tryz.underlying33 ti62 rfl rfl hi8) ?_
    obtain ⟨_, ⟨_, _, rfl, rfl, ⟨_, _, rfl, ⟨_, rfl, hR15⟩, rfl⟩⟩, hl11, hc12⟩ := ((H.ro 0 rfl).at hx7 hi8).cells
    obtain ⟨a13, c14, rfl⟩ := hR15.isSl
    replace H := H.add (d := Ch.ro 0 (Sl a13 x6.2.1 c14) x6.2.1) hR15 (fun _ h => h)
    clear hR15
    refine sq (v := (.agg #[(I x6.1), (Sl a13 x6.2.1 c14), (I x6.2.2)])) (rv_load Tryz.underlying62 rfl ti62 rfl hl11 hc12) (sq (v := (Sl Bs Bi Bt)) (rv_move rfl) (sq (v := (I s3)) (rv_move rfl) ?_))
    revert h; refine br fun x16 hx17 h => ?_
    obtain ⟨b19, o20, hi18, -⟩ := (H.ro 2 rfl).ix hx17
    refine sq (v := (pt b19 o20)) (rv_ix Tryz.underlying33 ti62 rfl rfl hi18) ?_
    obtain ⟨_, ⟨_, _, rfl, rfl, ⟨_, _, rfl, ⟨_, rfl, hR25⟩, rfl⟩⟩, hl21, hc22⟩ := ((H.ro 2 rfl).at hx17 hi18).cells
    obtain ⟨a23, c24, rfl⟩ := hR25.isSl
    replace H := H.add (d := Ch.ro 0 (Sl a23 x16.2.1 c24) x16.2.1) hR25 (fun _ h => h)
    clear hR25
    refine sq (v := (.agg #[(I x16.1), (Sl a23 x16.2.1 c24), (I x16.2.2)])) (rv_load Tryz.underlying62 rfl ti62 rfl hl21 hc22) (sq_end ?_)
    intro σ26 hm27
    replace H := H.grow (hm27.mono fun _ h => h); clear hm27
    revert h; refine br fun r28 hx29 h => ?_
    have hc30 := c_laws_eqItem (Ah := a13) (Ai := c14) (Gn := a23) (Gp := c24) hx29
    refine st_call (cx_call hc30 (ent_f hc30.fn rfl) hn0 (H.sel' [1, 0, 0, 1, 2, 3] rfl rfl : Hp S0 σ0 _ ([_, _] ++ _))) wn ?_
    rintro _ σ31 ⟨_, ⟨rfl, rfl⟩, H, -⟩
    replace H : Hp _ _ _ [_, _, _, _] := H
    refine st (v := (B (!r28))) (rv_not rfl) (w_end (q_then ?_))
    refine cd_cond (!r28) rfl (fun hb32 => ?_) (fun hb32 => ?_)
    ·replace h := bif_t hb32 h
     refine c_seq (rg (sa (B false) rfl (w_end (q_then (c_ret (q_blk_r (q_then_r (q_then_r (q_blk_r ?_)))))))))
     obtain rfl := sj h
     obtain rfl := hres _ rfl
     exact .inr (⟨_, rfl, rfl, _, σ31, fr_join ⟨rfl, trivial⟩, rfl, H.sel' [] rfl rfl⟩)
    ·replace h := bif_f hb32 h
     refine c_skip (q_blk (q_then (rg (sm (I s3) rfl (st (v := (I (w64 (s3 + 1)))) (rv_add (a := s3) (b := 1) rfl rfl) (sa (I (w64 (s3 + 1))) rfl (w_end (q_then ?_))))))))
     obtain rfl := sj h
     exact ⟨_, rfl, _, σ31, fr_join ⟨rfl, rfl, rfl, trivial⟩, rfl, H.sel' [2, 3] rfl rfl⟩
   ·replace h := bif_f hb5 h
    refine c_exit (q_then_x (q_then_x (q_blk_hit ?_)))
    obtain rfl := sj h
    obtain rfl := hres _ rfl
    exact .inl ⟨_, rfl, rfl, _, σ4, fr_join trivial, rfl, H.sel' [] rfl rfl⟩
  ·clear hj
   have h := h'
   clear h' H
   rintro e a w (⟨t33, rfl, rfl, ρ, σ34, rfl, rfl, H⟩ | ⟨t35, rfl, rfl, ρ, σ36, rfl, rfl, H⟩)
   ·replace h := selim_l h
    refine q_then (c_seq (rg (sa (B true) rfl (w_end (q_then (c_ret ?_))))))
    obtain rfl := sj h
    exact fin_ret (v := (B true)) (results_ok Tryz.results16 (res_tmp (v := (B true)) rfl res_nil) rfl) ⟨rfl, rfl⟩ (H.sel' [] rfl rfl)
   ·replace h := selim_r h
    refine q_then_r ?_
    obtain rfl := sj h
    exact fin_ret (v := (B t35)) (results_ok Tryz.results16 (res_tmp (v := (B t35)) rfl res_nil) rfl) ⟨rfl, rfl⟩ (H.sel' [] rfl rfl)

theorem c_laws_markIntS {Aa : List Int} {Fr : Int} {Ad : Option Addr} {Ae : Nat} {r : Int × (List Int)} (h : M.laws_markIntS Aa Fr = some r) :
    Cal2 Tryz.prog 20 [(Sl Ad Aa Ae), (I Fr)] [Ch.own 0 0 (Sl Ad Aa Ae) Aa] (fun n0 v L => v = (I r.1) ∧ L = [Ch.own 0 0 (Sl Ad r.2 Ae) r.2] ∧ r.2.length = Aa.length) := by
 refine cal2 (n := 19) Tryz.func20 rfl rfl rfl rfl ?_
 intro S0 σ0 n0 hn0 H
 unfold M.laws_markIntS at h
 refine c_seq (rg (sa (I 0) rfl (w_end (q_then (c_seq (c_seq (rg (sa (I 0) rfl (w_end (q_then ?_))))))))))
 obtain ⟨o1, hj, h'⟩ := bind_some h
 clear h
 refine c_cut (fun e a w => e = .normal ∧ ∃ (ρ : Nat → Value) (σ : St), a = fr 19 (updL ρ [(0, (Sl Ad o1.1 Ae)), (1, (I o1.2))]) ∧ w = σ.w ∧ Hp S0 σ0 σ [Ch.own 0 0 (Sl Ad o1.1 Ae) o1.1] ∧ o1.1.length = Aa.length) ?_ ?_
 ·clear h'
  rename _ = some o1 => h
  refine c_blk (wp_loopM _ h (fun s2 a w => ∃ (ρ : Nat → Value) (σ : St), a = fr 19 (updL ρ [(0, (Sl Ad s2.1 Ae)), (1, (I s2.2.1)), (5, (I s2.2.2))]) ∧ w = σ.w ∧ Hp S0 σ0 σ [Ch.own 0 0 (Sl Ad s2.1 Ae) s2.1] ∧ s2.1.length = Aa.length) ⟨_, σ0, fr_join ⟨rfl, rfl, rfl, trivial⟩, rfl, H.sel' [0] rfl rfl, rfl⟩ ?_)
  clear h H
  rintro s2 a w o ⟨ρ, σ3, rfl, rfl, H, hn4⟩ h hres
  refine c_seq (c_seq (rg (sm (I s2.2.2) rfl (sm (Sl Ad s2.1 Ae) rfl (st (v := (I (s2.1.length : Int))) (rv_len Tryz.underlying26 rfl) (st (v := (B (decide (s2.2.2 < (s2.1.length : Int))))) (rv_lss (a := s2.2.2) (b := (s2.1.length : Int)) rfl rfl) (w_end (q_then ?_))))))))
  refine cd_cond (decide (s2.2.2 < (s2.1.length : Int))) rfl (fun hb5 => ?_) (fun hb5 => ?_)
  ·replace h := bif_t hb5 h
   refine c_skip (q_then (c_seq (c_blk (c_seq (rg (sm (Sl Ad s2.1 Ae) rfl (sm (I s2.2.2) rfl (sm (I s2.2.1) rfl ?_))))))))
   revert h; refine br fun x6 hx7 h => ?_
   obtain ⟨b9, o10, hi8, -⟩ := (H.own 0 rfl).ix hx7
   refine st (v := (pt b9 o10)) (rv_ix Tryz.underlying26 ti3 rfl rfl hi8) ?_
   refine st_exS (ex_store_own (e' := s2.2.1) (vs := [(I s2.2.1)]) (k := 0) H (i := 0) rfl ti3 hx7 hi8 rfl rfl rfl rfl rfl (Nat.le_of_ble_eq_true rfl) (by simp [plain]) (by rintro _ rfl; exact rfl)) wn ?_
   rintro σ11 ⟨H, -⟩
   have hsl : (Sl Ad s2.1 Ae) = (Sl Ad (s2.1.set s2.2.2.toNat s2.2.1) Ae) := sl_len List.length_set.symm
   rw [hsl]; rw [hsl] at H; clear hsl
   refine w_end (q_then (rg (sm (I s2.2.1) rfl (st (v := (I (w64 (s2.2.1 + 1)))) (rv_add (a := s2.2.1) (b := 1) rfl rfl) (sa (I (w64 (s2.2.1 + 1))) rfl (w_end (q_blk (q_then (rg (sm (I s2.2.2) rfl (st (v := (I (w64 (s2.2.2 + 1)))) (rv_add (a := s2.2.2) (b := 1) rfl rfl) ?_)))))))))))
   refine sa (I (w64 (s2.2.2 + 1))) rfl (w_end (q_then ?_))
   obtain rfl := sj h
   exact ⟨_, rfl, _, σ11, fr_join ⟨rfl, rfl, rfl, trivial⟩, rfl, H.sel' [0] rfl rfl, (List.length_set.trans hn4)⟩
  ·replace h := bif_f hb5 h
   refine c_exit (q_then_x (q_then_x (q_blk_hit ?_)))
   obtain rfl := sj h
   obtain rfl := hres _ rfl
   exact ⟨rfl, _, σ3, fr_join ⟨rfl, rfl, trivial⟩, rfl, H.sel' [0] rfl rfl, hn4⟩
 ·clear hj
  have h := h'
  clear h' H
  rintro e a w ⟨rfl, ρ, σ12, rfl, rfl, H, hn13⟩
  refine q_then (c_seq (rg (sm (I o1.2) rfl (sa (I o1.2) rfl (w_end (q_then (c_ret ?_)))))))
  obtain rfl := sj h
  exact fin_ret (v := (I o1.2)) (results_ok Tryz.results20 (res_tmp (v := (I o1.2)) rfl res_nil) rfl) ⟨rfl, rfl, hn13⟩ (H.sel' [0] rfl rfl)

theorem c_laws_markIntSS {Aa : List (List Int)} {Fr : Int} {Ad : Option Addr} {Ae : Nat} {lo : Nat} {K : List Ch} (hK : Dp lo (Sl Ad Aa Ae) Aa K) {r : Int} (h : M.markIntSD Aa Fr = some r) :
    Cal2 Tryz.prog 30 [(Sl Ad Aa Ae), (I Fr)] [Ch.big K] (fun n0 v L => v = (I r) ∧ L = []) := by
 obtain ⟨hn, h⟩ := markIntSD_some h
 obtain ⟨ps, hps, rfl⟩ := hK.ex
 refine cal2 (n := 19) Tryz.func30 rfl rfl rfl rfl ?_
 intro S0 σ0 n0 hn0 H
 refine c_seq (rg (sa (I 0) rfl (w_end (q_then (c_seq (c_seq (rg (sa (I 0) rfl (w_end (q_then ?_))))))))))
 refine c_cut (fun e a w => e = .normal ∧ ∃ (ρ : Nat → Value) (σ : St), a = fr 19 (updL ρ [(1, (I r))]) ∧ w = σ.w ∧ Hp S0 σ0 σ []) ?_ ?_
 ·refine c_blk ?_
  have hlen : ps.length = Aa.length := by rw [hps]; simp
  refine wp_loop_ghost (fun m a w => ∃ (i : Nat) (ρ : Nat → Value) (σ : St) (ys : List Value) (qs : List ((List Int) × Value)) (k : Int), i + m = Aa.length ∧ qs.length = m ∧ ys.drop i = qs.map dsh ∧ M.dmarkIntSS (qs.map (·.1)) k = some r ∧ a = fr 19 (updL ρ [(0, (Sl Ad Aa Ae)), (1, (I k)), (5, (I (i : Int)))]) ∧ w = σ.w ∧ Hp S0 σ0 σ [Ch.own lo lo (Sl Ad Aa Ae) ys, Ch.big (qs.map (dow lo))]) Aa.length ⟨0, _, σ0, _, ps, Fr, by omega, hlen, rfl, hps ▸ h, fr_join ⟨rfl, rfl, rfl, trivial⟩, rfl, H.unbig⟩ ?_
  clear H
  rintro m _ _ ⟨i, ρ, σ3, ys, qs, k, him, hqs, hys, hk, rfl, rfl, H⟩
  refine c_seq (c_seq (rg (sm (I (i : Int)) rfl (sm (Sl Ad Aa Ae) rfl (st (v := (I (Aa.length : Int))) (rv_len Tryz.underlying22 rfl) (st (v := (B (decide ((i : Int) < (Aa.length : Int))))) (rv_lss (a := (i : Int)) (b := (Aa.length : Int)) rfl rfl) (w_end (q_then ?_))))))))
  refine cd_cond (decide ((i : Int) < (Aa.length : Int))) rfl (fun hb => ?_) (fun hb => ?_)
  ·have hlt : i < Aa.length := by have := of_decide_eq_true hb; omega
   obtain ⟨m, rfl⟩ : ∃ m', m = m' + 1 := ⟨m - 1, by omega⟩
   obtain ⟨p, qs, rfl⟩ : ∃ p qs', qs = p :: qs' := by cases qs with
    | nil => cases hqs
    | cons p qs => exact ⟨p, qs, rfl⟩
   obtain ⟨q, hq, hk'⟩ := bind_some (show (M.laws_markIntS p.1 k).bind (fun q => M.dmarkIntSS (qs.map (·.1)) q.1) = some r from hk)
   replace hys : ys.drop i = dsh p :: qs.map dsh := hys
   refine c_skip (q_then (c_seq (c_blk (rg (sm (Sl Ad Aa Ae) rfl (sm (I (i : Int)) rfl ?_))))))
   have hx7 := gidx_drop hys
   obtain ⟨b9, o10, hi8, -⟩ := (H.own 0 rfl).ix hx7
   refine st (v := (pt b9 o10)) (rv_ix Tryz.underlying22 ti26 rfl rfl hi8) ?_
   obtain ⟨_, ⟨rfl, hpl⟩, hl18, hc19⟩ := ((H.own 0 rfl).at hx7 hi8).cells
   replace H := Hp.unbig (H.sel' [1, 0] rfl rfl)
   obtain ⟨a20, c21, h22⟩ : IsSl p.2 p.1.length := (show Ow σ3 lo lo p.2 p.1 from H.head).isSl
   obtain ⟨px, hd⟩ := p
   dsimp only at h22 hq hys hc19
   subst h22
   have hc20 := hc19 0 (by simp)
   refine st (v := (Sl a20 px c21)) (rv_load1 Tryz.underlying26 rfl rfl hc20) (sm (I k) rfl ?_)
   replace H : Hp _ _ _ [_, _, _] := H
   replace H := H.ownSc 0 0 0 rfl (Nat.zero_le _)
   have hc25 := c_laws_markIntS (Ad := a20) (Ae := c21) hq
   refine st_call (cx_call hc25 (ent_f hc25.fn rfl) hn0 (H.sel' [0, 1, 2] rfl rfl : Hp S0 σ0 _ ([_] ++ _))) (wanted_none _ rfl _) ?_
   rintro _ σ29 ⟨_, ⟨rfl, rfl, -⟩, H, -⟩
   replace H : Hp _ _ _ [_, _, _] := H
   replace H := H.sel' [2, 1] rfl rfl
   refine sa (I q.1) rfl (w_end (q_blk (q_then (rg (sm (I (i : Int)) rfl (st (v := (I (w64 ((i : Int) + 1)))) (rv_add (a := (i : Int)) (b := 1) rfl rfl) (sa (I (w64 ((i : Int) + 1))) rfl (w_end ?_))))))))
   have e1 : w64 ((i : Int) + 1) = ((i + 1 : Nat) : Int) := w64_id (by omega) (by omega)
   rw [e1]
   refine q_then ?_
   exact ⟨m, by omega, i + 1, _, σ29, _, qs, _, by omega, by simpa using hqs, drop_next hys, hk', fr_join ⟨rfl, rfl, rfl, trivial⟩, rfl, H⟩
  ·have hlt : ¬ i < Aa.length := by have := of_decide_eq_false hb; omega
   obtain rfl : m = 0 := by omega
   obtain rfl : qs = [] := List.eq_nil_of_length_eq_zero hqs
   obtain rfl : k = r := Option.some.inj hk
   refine c_exit (q_then_x (q_then_x (q_blk_hit ?_)))
   exact ⟨rfl, _, σ3, fr_join ⟨rfl, trivial⟩, rfl, H.sel' [] rfl rfl⟩
 ·clear H
  rintro e a w ⟨rfl, ρ, σ41, rfl, rfl, H⟩
  refine q_then (c_seq (rg (sm (I r) rfl (sa (I r) rfl (w_end (q_then (c_ret ?_)))))))
  exact fin_ret (v := (I r)) (results_ok Tryz.results30 (res_tmp (v := (I r)) rfl res_nil) rfl) ⟨rfl, rfl⟩ H


theorem c_laws_markBook {Aa : (List (List Int)) × (List (List Int))} {Fr : Int} {Af : Option Addr} {Ag : Nat} {Gq : Nat} {Gr : List Ch} (Gs : Dp Gq (Sl Af Aa.1 Ag) Aa.1 Gr) {Ah : Option Addr} {Ai : Nat} {Gt : Nat} {Gu : List Ch} (Gv : Dp Gt (Sl Ah Aa.2 Ai) Aa.2 Gu) {r : Int} (h : M.laws_markBook Aa Fr = some r) :
    Cal2 Tryz.prog 18 [(.agg #[(Sl Af Aa.1 Ag), (Sl Ah Aa.2 Ai)]), (I Fr)] [Ch.big Gr, Ch.big Gu] (fun n0 v L => v = (I r) ∧ L = []) := by
 refine cal2 (n := 14) Tryz.func18 rfl rfl rfl rfl ?_
 intro S0 σ0 n0 hn0 H
 unfold M.laws_markBook at h
 refine c_seq (rg (st_ex (ex_box (cs := [(Sl Af Aa.1 Ag), (Sl Ah Aa.2 Ai)]) H hn0 rfl rfl) wn ?_))
 rintro _ σ2 ⟨b1, rfl, H, -⟩
 refine sa (I 0) rfl (w_end (q_then (c_seq (rg (st (v := (pt b1 0)) (rv_fieldAddr (off := 0) (ft := 22) Tryz.underlying31 rfl ti22 rfl rfl) ?_)))))
 have hc3 := H.cell (u := (Sl Af Aa.1 Ag)) (o' := 0) 0 0 rfl rfl rfl
 refine st (v := (Sl Af Aa.1 Ag)) (rv_load1 Tryz.underlying22 rfl rfl hc3) (sm (I Fr) rfl ?_)
 revert h; refine br fun r4 hx5 h => ?_
 have hc6 := c_laws_markIntSS (Ad := Af) (Ae := Ag) (hK := Gs) hx5
 refine st_call (cx_call hc6 (ent_f hc6.fn rfl) hn0 (H.sel' [1, 0, 2] rfl rfl : Hp S0 σ0 _ ([_] ++ _))) wn ?_
 rintro _ σ7 ⟨_, ⟨rfl, rfl⟩, H, -⟩
 replace H : Hp _ _ _ [_, _] := H
 refine sa (I r4) rfl (w_end (q_then (c_seq (rg (st (v := (pt b1 1)) (rv_fieldAddr (off := 1) (ft := 22) Tryz.underlying31 rfl ti22 rfl rfl) ?_)))))
 have hc8 := H.cell (u := (Sl Ah Aa.2 Ai)) (o' := 1) 0 1 rfl rfl rfl
 refine st (v := (Sl Ah Aa.2 Ai)) (rv_load1 Tryz.underlying22 rfl rfl hc8) (sm (I r4) rfl ?_)
 revert h; refine br fun r9 hx10 h => ?_
 have hc11 := c_laws_markIntSS (Ad := Ah) (Ae := Ai) (hK := Gv) hx10
 refine st_call (cx_call hc11 (ent_f hc11.fn rfl) hn0 (H.sel' [1, 0] rfl rfl : Hp S0 σ0 _ ([_] ++ _))) wn ?_
 rintro _ σ12 ⟨_, ⟨rfl, rfl⟩, H, -⟩
 replace H : Hp _ _ _ [_] := H
 refine sa (I r9) rfl (w_end (q_then (c_seq (rg (sm (I r9) rfl (sa (I r9) rfl (w_end (q_then (c_ret ?_)))))))))
 obtain rfl := sj h
 exact fin_ret (v := (I r9)) (results_ok Tryz.results18 (res_tmp (v := (I r9)) rfl res_nil) rfl) ⟨rfl, rfl⟩ (H.sel' [] rfl rfl)

theorem c_laws_markItemS {Aa : List (Int × (List Int) × Int)} {Fr : Int} {Ad : Option Addr} {Ae : Nat} {lo : Nat} {K : List Ch} (hK : Dp lo (Sl Ad Aa Ae) Aa K) {r : Int} (h : M.markItemD Aa Fr = some r) :
    Cal2 Tryz.prog 19 [(Sl Ad Aa Ae), (I Fr)] [Ch.big K] (fun n0 v L => v = (I r) ∧ L = []) := by
 obtain ⟨hn, h⟩ := markItemD_some h
 obtain ⟨ps, hps, rfl⟩ := hK.ex
 refine cal2 (n := 34) Tryz.func19 rfl rfl rfl rfl ?_
 intro S0 σ0 n0 hn0 H
 refine c_seq (rg (sa (I 0) rfl (w_end (q_then (c_seq (c_seq (rg (sa (I 0) rfl (w_end (q_then ?_))))))))))
 refine c_cut (fun e a w => e = .normal ∧ ∃ (ρ : Nat → Value) (σ : St), a = fr 34 (updL ρ [(1, (I r))]) ∧ w = σ.w ∧ Hp S0 σ0 σ []) ?_ ?_
 ·refine c_blk ?_
  have hlen : ps.length = Aa.length := by rw [hps]; simp
  refine wp_loop_ghost (fun m a w => ∃ (i : Nat) (ρ : Nat → Value) (σ : St) (ys : List (Int × Value × Int)) (qs : List ((Int × (List Int) × Int) × Value)) (k : Int), i + m = Aa.length ∧ qs.length = m ∧ ys.drop i = qs.map dsh ∧ M.dmarkItemS (qs.map (·.1)) k = some r ∧ a = fr 34 (updL ρ [(0, (Sl Ad Aa Ae)), (1, (I k)), (5, (I (i : Int)))]) ∧ w = σ.w ∧ Hp S0 σ0 σ [Ch.own lo lo (Sl Ad Aa Ae) ys, Ch.big (qs.map (dow lo))]) Aa.length ⟨0, _, σ0, _, ps, Fr, by omega, hlen, rfl, hps ▸ h, fr_join ⟨rfl, rfl, rfl, trivial⟩, rfl, H.unbig⟩ ?_
  clear H
  rintro m _ _ ⟨i, ρ, σ3, ys, qs, k, him, hqs, hys, hk, rfl, rfl, H⟩
  refine c_seq (c_seq (rg (sm (I (i : Int)) rfl (sm (Sl Ad Aa Ae) rfl (st (v := (I (Aa.length : Int))) (rv_len Tryz.underlying33 rfl) (st (v := (B (decide ((i : Int) < (Aa.length : Int))))) (rv_lss (a := (i : Int)) (b := (Aa.length : Int)) rfl rfl) (w_end (q_then ?_))))))))
  refine cd_cond (decide ((i : Int) < (Aa.length : Int))) rfl (fun hb => ?_) (fun hb => ?_)
  ·have hlt : i < Aa.length := by have := of_decide_eq_true hb; omega
   obtain ⟨m, rfl⟩ : ∃ m', m = m' + 1 := ⟨m - 1, by omega⟩
   obtain ⟨p, qs, rfl⟩ : ∃ p qs', qs = p :: qs' := by cases qs with
    | nil => cases hqs
    | cons p qs => exact ⟨p, qs, rfl⟩
   obtain ⟨q, hq, hk'⟩ := bind_some (show (M.laws_markIntS p.1.2.1 (w64 (k + 1))).bind (fun q => M.dmarkItemS (qs.map (·.1)) (w64 (q.1 + 1))) = some r from hk)
   replace hys : ys.drop i = dsh p :: qs.map dsh := hys
   refine c_skip (q_then (c_seq (c_blk (c_seq (rg (sm (Sl Ad Aa Ae) rfl (sm (I (i : Int)) rfl (sm (I k) rfl ?_))))))))
   have hx7 := gidx_drop hys
   obtain ⟨b9, o10, hi8, -⟩ := (H.own 0 rfl).ix hx7
   refine st (v := (pt b9 o10)) (rv_ix Tryz.underlying33 ti62 rfl rfl hi8) (st (v := (pt b9 (o10 + 0))) (rv_fieldAddr (off := 0) (ft := 3) Tryz.underlying62 rfl ti3 rfl rfl) ?_)
   refine st_exS (ex_store_own (e' := ((k, p.2, p.1.2.2) : Int × Value × Int)) (vs := [(I k)]) (k := 0) H (i := 0) rfl ti3 hx7 hi8 rfl rfl rfl rfl rfl (Nat.le_of_ble_eq_true rfl) (by simp [plain]) (by rintro _ ⟨_, _, rfl, rfl, ⟨_, _, rfl, ⟨rfl, hpl⟩, rfl⟩⟩; exact ⟨[(I k)], [p.2, (I p.1.2.2)], rfl, rfl, ⟨[p.2], [(I p.1.2.2)], rfl, ⟨rfl, hpl⟩, rfl⟩⟩)) (wanted_none _ rfl _) ?_
   rintro σ11 ⟨H, -⟩
   refine w_end (q_then (c_seq (rg (sm (I k) rfl (st (v := (I (w64 (k + 1)))) (rv_add (a := k) (b := 1) rfl rfl) (sa (I (w64 (k + 1))) rfl (w_end (q_then (c_seq (rg ?_))))))))))
   replace hys := drop_set (e' := ((k, p.2, p.1.2.2) : Int × Value × Int)) hys
   rw [Int.toNat_natCast] at H
   generalize ys.set i ((k, p.2, p.1.2.2) : Int × Value × Int) = ys at H hys
   have hx7 := gidx_drop hys
   refine sm (Sl Ad Aa Ae) rfl (sm (I (i : Int)) rfl ?_)
   obtain ⟨b9, o10, hi8, -⟩ := (H.own 0 rfl).ix hx7
   refine st (v := (pt b9 o10)) (rv_ix Tryz.underlying33 ti62 rfl rfl hi8) (st (v := (pt b9 (o10 + 1))) (rv_fieldAddr (off := 1) (ft := 26) Tryz.underlying62 rfl ti26 rfl rfl) ?_)
   obtain ⟨_, ⟨_, _, rfl, rfl, ⟨_, _, rfl, ⟨rfl, hpl⟩, rfl⟩⟩, hl18, hc19⟩ := ((H.own 0 rfl).at hx7 hi8).cells
   replace H := Hp.unbig (H.sel' [1, 0] rfl rfl)
   obtain ⟨a20, c21, h22⟩ : IsSl p.2 p.1.2.1.length := (show Ow σ11 lo lo p.2 p.1.2.1 from H.head).isSl
   obtain ⟨px, hd⟩ := p
   dsimp only at h22 hq hys hc19
   subst h22
   have hc20 := hc19 1 (by simp)
   refine st (v := (Sl a20 px.2.1 c21)) (rv_load1 Tryz.underlying26 rfl rfl hc20) (sm (I (w64 (k + 1))) rfl ?_)
   replace H : Hp _ _ _ [_, _, _] := H
   replace H := H.ownSc 0 0 0 rfl (Nat.zero_le _)
   have hc25 := c_laws_markIntS (Ad := a20) (Ae := c21) hq
   refine st_call (cx_call hc25 (ent_f hc25.fn rfl) hn0 (H.sel' [0, 1, 2] rfl rfl : Hp S0 σ0 _ ([_] ++ _))) (wanted_none _ rfl _) ?_
   rintro _ σ29 ⟨_, ⟨rfl, rfl, -⟩, H, -⟩
   replace H : Hp _ _ _ [_, _, _] := H
   replace H := H.sel' [2, 1] rfl rfl
   refine sa (I q.1) rfl (w_end (q_then (c_seq (rg (sm (Sl Ad Aa Ae) rfl (sm (I (i : Int)) rfl (sm (I q.1) rfl ?_)))))))
   obtain ⟨b9, o10, hi8, -⟩ := (H.own 0 rfl).ix hx7
   refine st (v := (pt b9 o10)) (rv_ix Tryz.underlying33 ti62 rfl rfl hi8) (st (v := (pt b9 (o10 + 2))) (rv_fieldAddr (off := 2) (ft := 3) Tryz.underlying62 rfl ti3 rfl rfl) ?_)
   refine st_exS (ex_store_own (e' := ((k, (Sl a20 px.2.1 c21), q.1) : Int × Value × Int)) (vs := [(I q.1)]) (k := 2) H (i := 0) rfl ti3 hx7 hi8 rfl rfl rfl rfl rfl (Nat.le_of_ble_eq_true rfl) (by simp [plain]) (by rintro _ ⟨_, _, rfl, rfl, ⟨_, _, rfl, ⟨rfl, hpl⟩, rfl⟩⟩; exact ⟨[(I k)], [(Sl a20 px.2.1 c21), (I q.1)], rfl, rfl, ⟨[(Sl a20 px.2.1 c21)], [(I q.1)], rfl, ⟨rfl, hpl⟩, rfl⟩⟩)) (wanted_none _ rfl _) ?_
   rintro σ30 ⟨H, -⟩
   refine w_end (q_then (rg (sm (I q.1) rfl (st (v := (I (w64 (q.1 + 1)))) (rv_add (a := q.1) (b := 1) rfl rfl) (sa (I (w64 (q.1 + 1))) rfl (w_end (q_blk (q_then (rg (sm (I (i : Int)) rfl (st (v := (I (w64 ((i : Int) + 1)))) (rv_add (a := (i : Int)) (b := 1) rfl rfl) ?_)))))))))))
   refine sa (I (w64 ((i : Int) + 1))) rfl (w_end ?_)
   have e1 : w64 ((i : Int) + 1) = ((i + 1 : Nat) : Int) := w64_id (by omega) (by omega)
   rw [e1]
   refine q_then ?_
   rw [Int.toNat_natCast] at H
   exact ⟨m, by omega, i + 1, _, σ30, _, qs, _, by omega, by simpa using hqs, drop_next (drop_set hys), hk', fr_join ⟨rfl, rfl, rfl, trivial⟩, rfl, H⟩
  ·have hlt : ¬ i < Aa.length := by have := of_decide_eq_false hb; omega
   obtain rfl : m = 0 := by omega
   obtain rfl : qs = [] := List.eq_nil_of_length_eq_zero hqs
   obtain rfl : k = r := Option.some.inj hk
   refine c_exit (q_then_x (q_then_x (q_blk_hit ?_)))
   exact ⟨rfl, _, σ3, fr_join ⟨rfl, trivial⟩, rfl, H.sel' [] rfl rfl⟩
 ·clear H
  rintro e a w ⟨rfl, ρ, σ41, rfl, rfl, H⟩
  refine q_then (c_seq (rg (sm (I r) rfl (sa (I r) rfl (w_end (q_then (c_ret ?_)))))))
  exact fin_ret (v := (I r)) (results_ok Tryz.results19 (res_tmp (v := (I r)) rfl res_nil) rfl) ⟨rfl, rfl⟩ H


theorem c_laws_markHitS {Aa : List (Int × Int)} {Fr : Int} {Ad : Option Addr} {Ae : Nat} {r : Int × (List (Int × Int))} (h : M.laws_markHitS Aa Fr = some r) :
    Cal2 Tryz.prog 21 [(Sl Ad Aa Ae), (I Fr)] [Ch.own 0 0 (Sl Ad Aa Ae) Aa] (fun n0 v L => v = (I r.1) ∧ L = [Ch.own 0 0 (Sl Ad r.2 Ae) r.2] ∧ r.2.length = Aa.length) := by
 refine cal2 (n := 27) Tryz.func21 rfl rfl rfl rfl ?_
 intro S0 σ0 n0 hn0 H
 unfold M.laws_markHitS at h
 refine c_seq (rg (sa (I 0) rfl (w_end (q_then (c_seq (c_seq (rg (sa (I 0) rfl (w_end (q_then ?_))))))))))
 obtain ⟨o1, hj, h'⟩ := bind_some h
 clear h
 refine c_cut (fun e a w => e = .normal ∧ ∃ (ρ : Nat → Value) (σ : St), a = fr 27 (updL ρ [(0, (Sl Ad o1.1 Ae)), (1, (I o1.2))]) ∧ w = σ.w ∧ Hp S0 σ0 σ [Ch.own 0 0 (Sl Ad o1.1 Ae) o1.1] ∧ o1.1.length = Aa.length) ?_ ?_
 ·clear h'
  rename _ = some o1 => h
  refine c_blk (wp_loopM _ h (fun s2 a w => ∃ (ρ : Nat → Value) (σ : St), a = fr 27 (updL ρ [(0, (Sl Ad s2.1 Ae)), (1, (I s2.2.1)), (5, (I s2.2.2))]) ∧ w = σ.w ∧ Hp S0 σ0 σ [Ch.own 0 0 (Sl Ad s2.1 Ae) s2.1] ∧ s2.1.length = Aa.length) ⟨_, σ0, fr_join ⟨rfl, rfl, rfl, trivial⟩, rfl, H.sel' [0] rfl rfl, rfl⟩ ?_)
  clear h H
  rintro s2 a w o ⟨ρ, σ3, rfl, rfl, H, hn4⟩ h hres
  refine c_seq (c_seq (rg (sm (I s2.2.2) rfl (sm (Sl Ad s2.1 Ae) rfl (st (v := (I (s2.1.length : Int))) (rv_len Tryz.underlying29 rfl) (st (v := (B (decide (s2.2.2 < (s2.1.length : Int))))) (rv_lss (a := s2.2.2) (b := (s2.1.length : Int)) rfl rfl) (w_end (q_then ?_))))))))
  refine cd_cond (decide (s2.2.2 < (s2.1.length : Int))) rfl (fun hb5 => ?_) (fun hb5 => ?_)
  ·replace h := bif_t hb5 h
   refine c_skip (q_then (c_seq (c_blk (c_seq (rg (sm (Sl Ad s2.1 Ae) rfl (sm (I s2.2.2) rfl (sm (I s2.2.1) rfl ?_))))))))
   revert h; refine br fun x6 hx7 h => ?_
   obtain ⟨b9, o10, hi8, -⟩ := (H.own 0 rfl).ix hx7
   refine st (v := (pt b9 o10)) (rv_ix Tryz.underlying29 ti67 rfl rfl hi8) (st (v := (pt b9 (o10 + 0))) (rv_fieldAddr (off := 0) (ft := 3) Tryz.underlying67 rfl ti3 rfl rfl) ?_)
   refine st_exS (ex_store_own (e' := (s2.2.1, x6.2)) (vs := [(I s2.2.1)]) (k := 0) H (i := 0) rfl ti3 hx7 hi8 rfl rfl rfl rfl rfl (Nat.le_of_ble_eq_true rfl) (by simp [plain]) (by rintro _ ⟨_, _, rfl, rfl, rfl⟩; exact ⟨[(I s2.2.1)], [(I x6.2)], rfl, rfl, rfl⟩)) wn ?_
   rintro σ11 ⟨H, -⟩
   have hsl : (Sl Ad s2.1 Ae) = (Sl Ad (s2.1.set s2.2.2.toNat (s2.2.1, x6.2)) Ae) := sl_len List.length_set.symm
   rw [hsl]; rw [hsl] at H; clear hsl
   refine w_end (q_then (c_seq (rg (sm (I s2.2.1) rfl (st (v := (I (w64 (s2.2.1 + 1)))) (rv_add (a := s2.2.1) (b := 1) rfl rfl) (sa (I (w64 (s2.2.1 + 1))) rfl (w_end (q_then (c_seq (rg (sm (Sl Ad (s2.1.set s2.2.2.toNat (s2.2.1, x6.2)) Ae) rfl ?_)))))))))))
   refine sm (I s2.2.2) rfl (sm (I (w64 (s2.2.1 + 1))) rfl ?_)
   revert h; refine br fun x12 hx13 h => ?_
   obtain ⟨b15, o16, hi14, -⟩ := (H.own 0 rfl).ix hx13
   refine st (v := (pt b15 o16)) (rv_ix Tryz.underlying29 ti67 rfl rfl hi14) (st (v := (pt b15 (o16 + 1))) (rv_fieldAddr (off := 1) (ft := 3) Tryz.underlying67 rfl ti3 rfl rfl) ?_)
   refine st_exS (ex_store_own (e' := (x12.1, w64 (s2.2.1 + 1))) (vs := [(I (w64 (s2.2.1 + 1)))]) (k := 1) H (i := 0) rfl ti3 hx13 hi14 rfl rfl rfl rfl rfl (Nat.le_of_ble_eq_true rfl) (by simp [plain]) (by rintro _ ⟨_, _, rfl, rfl, rfl⟩; exact ⟨[(I x12.1)], [(I (w64 (s2.2.1 + 1)))], rfl, rfl, rfl⟩)) wn ?_
   rintro σ17 ⟨H, -⟩
   have hsl : (Sl Ad (s2.1.set s2.2.2.toNat (s2.2.1, x6.2)) Ae) = (Sl Ad ((s2.1.set s2.2.2.toNat (s2.2.1, x6.2)).set s2.2.2.toNat (x12.1, w64 (s2.2.1 + 1))) Ae) := sl_len List.length_set.symm
   rw [hsl]; rw [hsl] at H; clear hsl
   refine w_end (q_then (rg (sm (I (w64 (s2.2.1 + 1))) rfl (st (v := (I (w64 ((w64 (s2.2.1 + 1)) + 1)))) (rv_add (a := (w64 (s2.2.1 + 1))) (b := 1) rfl rfl) (sa (I (w64 ((w64 (s2.2.1 + 1)) + 1))) rfl (w_end (q_blk (q_then (rg (sm (I s2.2.2) rfl (st (v := (I (w64 (s2.2.2 + 1)))) (rv_add (a := s2.2.2) (b := 1) rfl rfl) ?_)))))))))))
   refine sa (I (w64 (s2.2.2 + 1))) rfl (w_end (q_then ?_))
   obtain rfl := sj h
   exact ⟨_, rfl, _, σ17, fr_join ⟨rfl, rfl, rfl, trivial⟩, rfl, H.sel' [0] rfl rfl, (List.length_set.trans (List.length_set.trans hn4))⟩
  ·replace h := bif_f hb5 h
   refine c_exit (q_then_x (q_then_x (q_blk_hit ?_)))
   obtain rfl := sj h
   obtain rfl := hres _ rfl
   exact ⟨rfl, _, σ3, fr_join ⟨rfl, rfl, trivial⟩, rfl, H.sel' [0] rfl rfl, hn4⟩
 ·clear hj
  have h := h'
  clear h' H
  rintro e a w ⟨rfl, ρ, σ18, rfl, rfl, H, hn19⟩
  refine q_then (c_seq (rg (sm (I o1.2) rfl (sa (I o1.2) rfl (w_end (q_then (c_ret ?_)))))))
  obtain rfl := sj h
  exact fin_ret (v := (I o1.2)) (results_ok Tryz.results21 (res_tmp (v := (I o1.2)) rfl res_nil) rfl) ⟨rfl, rfl, hn19⟩ (H.sel' [0] rfl rfl)

theorem c_laws_heldHitS {Aa : List (Int × Int)} {Fr : Int} {Ad : Option Addr} {Ae : Nat} {r : Int} (h : M.laws_heldHitS Aa Fr = some r) :
    Cal2 Tryz.prog 22 [(Sl Ad Aa Ae), (I Fr)] [Ch.ro 0 (Sl Ad Aa Ae) Aa] (fun n0 v L => v = (I r) ∧ L = []) := by
 refine cal2 (n := 31) Tryz.func22 rfl rfl rfl rfl ?_
 intro S0 σ0 n0 hn0 H
 unfold M.laws_heldHitS at h
 refine c_seq (rg (sa (I 0) rfl (w_end (q_then (c_seq (c_seq (rg (sa (I 0) rfl (w_end (q_then ?_))))))))))
 obtain ⟨o1, hj, h'⟩ := bind_some h
 clear h
 refine c_cut (fun e a w => (∃ t, o1 = (.inl t) ∧ e = .normal ∧ ∃ (ρ : Nat → Value) (σ : St), a = fr 31 (updL ρ [(1, (I t))]) ∧ w = σ.w ∧ Hp S0 σ0 σ []) ∨ (∃ t, o1 = (.inr t) ∧ e = .ret ∧ ∃ (ρ : Nat → Value) (σ : St), a = fr 31 (updL ρ [(4, (I t))]) ∧ w = σ.w ∧ Hp S0 σ0 σ [])) ?_ ?_
 ·clear h'
  rename _ = some o1 => h
  refine c_blk (wp_loopM _ h (fun s2 a w => ∃ (ρ : Nat → Value) (σ : St), a = fr 31 (updL ρ [(0, (Sl Ad Aa Ae)), (1, (I s2.1)), (5, (I s2.2))]) ∧ w = σ.w ∧ Hp S0 σ0 σ [Ch.ro 0 (Sl Ad Aa Ae) Aa]) ⟨_, σ0, fr_join ⟨rfl, rfl, rfl, trivial⟩, rfl, H.sel' [0] rfl rfl⟩ ?_)
  clear h H
  rintro s2 a w o ⟨ρ, σ3, rfl, rfl, H⟩ h hres
  refine c_seq (c_seq (rg (sm (I s2.2) rfl (sm (Sl Ad Aa Ae) rfl (st (v := (I (Aa.length : Int))) (rv_len Tryz.underlying29 rfl) (st (v := (B (decide (s2.2 < (Aa.length : Int))))) (rv_lss (a := s2.2) (b := (Aa.length : Int)) rfl rfl) (w_end (q_then ?_))))))))
  refine cd_cond (decide (s2.2 < (Aa.length : Int))) rfl (fun hb4 => ?_) (fun hb4 => ?_)
  ·replace h := bif_t hb4 h
   refine c_skip (q_then (c_seq (c_blk (c_seq (c_seq (rg (sm (Sl Ad Aa Ae) rfl (sm (I s2.2) rfl ?_))))))))
   revert h; refine br fun x5 hx6 h => ?_
   obtain ⟨b8, o9, hi7, -⟩ := (H.ro 0 rfl).ix hx6
   refine st (v := (pt b8 o9)) (rv_ix Tryz.underlying29 ti67 rfl rfl hi7) (st (v := (pt b8 (o9 + 0))) (rv_fieldAddr (off := 0) (ft := 3) Tryz.underlying67 rfl ti3 rfl rfl) ?_)
   have hc10 := ((H.ro 0 rfl).at hx6 hi7).fst.int
   refine st (v := (I x5.1)) (rv_load1 Tryz.underlying3 rfl rfl hc10) (sm (I s2.1) rfl (st (v := (B (x5.1 != s2.1))) (rv_neq (a := x5.1) (b := s2.1) rfl rfl) (w_end (q_then ?_))))
   refine cd_cond (x5.1 != s2.1) rfl (fun hb11 => ?_) (fun hb11 => ?_)
   ·replace h := bif_t hb11 h
    refine c_seq (rg (sa (I (-1)) rfl (w_end (q_then (c_ret (q_then_r (q_blk_r (q_then_r (q_then_r (q_blk_r ?_))))))))))
    obtain rfl := sj h
    obtain rfl := hres _ rfl
    exact .inr (⟨_, rfl, rfl, _, σ3, fr_join ⟨rfl, trivial⟩, rfl, H.sel' [] rfl rfl⟩)
   ·replace h := bif_f hb11 h
    refine c_skip (q_then (c_seq (rg (sm (I s2.1) rfl (st (v := (I (w64 (s2.1 + 1)))) (rv_add (a := s2.1) (b := 1) rfl rfl) (sa (I (w64 (s2.1 + 1))) rfl (w_end (q_then (c_seq (c_seq (rg ?_)))))))))))
    refine sm (Sl Ad Aa Ae) rfl (sm (I s2.2) rfl ?_)
    revert h; refine br fun x12 hx13 h => ?_
    obtain ⟨b15, o16, hi14, -⟩ := (H.ro 0 rfl).ix hx13
    refine st (v := (pt b15 o16)) (rv_ix Tryz.underlying29 ti67 rfl rfl hi14) (st (v := (pt b15 (o16 + 1))) (rv_fieldAddr (off := 1) (ft := 3) Tryz.underlying67 rfl ti3 rfl rfl) ?_)
    have hc17 := ((H.ro 0 rfl).at hx13 hi14).snd.int
    refine st (v := (I x12.2)) (rv_load1 Tryz.underlying3 rfl rfl hc17) (sm (I (w64 (s2.1 + 1))) rfl (st (v := (B (x12.2 != (w64 (s2.1 + 1))))) (rv_neq (a := x12.2) (b := (w64 (s2.1 + 1))) rfl rfl) (w_end (q_then ?_))))
    refine cd_cond (x12.2 != (w64 (s2.1 + 1))) rfl (fun hb18 => ?_) (fun hb18 => ?_)
    ·replace h := bif_t hb18 h
     refine c_seq (rg (sa (I (-1)) rfl (w_end (q_then (c_ret (q_then_r (q_blk_r (q_then_r (q_then_r (q_blk_r ?_))))))))))
     obtain rfl := sj h
     obtain rfl := hres _ rfl
     exact .inr (⟨_, rfl, rfl, _, σ3, fr_join ⟨rfl, trivial⟩, rfl, H.sel' [] rfl rfl⟩)
    ·replace h := bif_f hb18 h
     refine c_skip (q_then (rg (sm (I (w64 (s2.1 + 1))) rfl (st (v := (I (w64 ((w64 (s2.1 + 1)) + 1)))) (rv_add (a := (w64 (s2.1 + 1))) (b := 1) rfl rfl) (sa (I (w64 ((w64 (s2.1 + 1)) + 1))) rfl (w_end (q_blk (q_then (rg (sm (I s2.2) rfl (st (v := (I (w64 (s2.2 + 1)))) (rv_add (a := s2.2) (b := 1) rfl rfl) ?_)))))))))))
     refine sa (I (w64 (s2.2 + 1))) rfl (w_end (q_then ?_))
     obtain rfl := sj h
     exact ⟨_, rfl, _, σ3, fr_join ⟨rfl, rfl, rfl, trivial⟩, rfl, H.sel' [0] rfl rfl⟩
  ·replace h := bif_f hb4 h
   refine c_exit (q_then_x (q_then_x (q_blk_hit ?_)))
   obtain rfl := sj h
   obtain rfl := hres _ rfl
   exact .inl ⟨_, rfl, rfl, _, σ3, fr_join ⟨rfl, trivial⟩, rfl, H.sel' [] rfl rfl⟩
 ·clear hj
  have h := h'
  clear h' H
  rintro e a w (⟨t19, rfl, rfl, ρ, σ20, rfl, rfl, H⟩ | ⟨t21, rfl, rfl, ρ, σ22, rfl, rfl, H⟩)
  ·replace h := selim_l h
   refine q_then (c_seq (rg (sm (I t19) rfl (sa (I t19) rfl (w_end (q_then (c_ret ?_)))))))
   obtain rfl := sj h
   exact fin_ret (v := (I t19)) (results_ok Tryz.results22 (res_tmp (v := (I t19)) rfl res_nil) rfl) ⟨rfl, rfl⟩ (H.sel' [] rfl rfl)
  ·replace h := selim_r h
   refine q_then_r ?_
   obtain rfl := sj h
   exact fin_ret (v := (I t21)) (results_ok Tryz.results22 (res_tmp (v := (I t21)) rfl res_nil) rfl) ⟨rfl, rfl⟩ (H.sel' [] rfl rfl)

end Go.Vs
