/- The functions compute what their models say. -/
import Derived.Test.YtnkflplbeagljaaGreatKRerankNearestFromC4
set_option linter.unusedVariables false
set_option linter.unusedSimpArgs false
set_option maxRecDepth 20000
namespace Go.Vs
open Go Go.Proofs
attribute [local irreducible] Code.wp Code.wpIn wpList wpListIn wpQuiet Calls CallsIn

theorem c_impl_Distance {Cl : Int} {Gs : List Int} {Gt : List Int} {Gu : Option Addr} {Gv : Nat} {Gw : Option Addr} {Gx : Nat} {r : Int} (h : M.impl_Distance Cl Gs Gt = some r) :
    Cal2 Tryz.prog 15 [(I Cl), (Sl Gu Gs Gv), (Sl Gw Gt Gx)] [Ch.ro 0 (Sl Gu Gs Gv) Gs, Ch.ro 0 (Sl Gw Gt Gx) Gt] (fun n0 v L => v = (I r) ∧ L = []) := by
 refine cal2 (n := 24) Tryz.func15 rfl rfl rfl rfl ?_
 intro S0 σ0 n0 hn0 H
 unfold M.impl_Distance at h
 refine c_seq (rg (sa (I 0) rfl (w_end (q_then (c_seq (c_seq ?_))))))
 obtain ⟨o1, hj, h'⟩ := bind_some h
 clear h
 refine c_cut (fun e a w => e = .normal ∧ ∃ (ρ : Nat → Value) (σ : St), a = fr 24 (updL ρ [(0, (I Cl)), (1, (Sl Gu Gs Gv)), (2, (Sl Gw Gt Gx)), (14, (B o1))]) ∧ w = σ.w ∧ Hp S0 σ0 σ [Ch.ro 0 (Sl Gu Gs Gv) Gs, Ch.ro 0 (Sl Gw Gt Gx) Gt]) ?_ ?_
 ·clear h'
  rename _ = some o1 => h
  refine rg (sm (Sl Gu Gs Gv) rfl ?_)
  revert h; refine br fun r2 hx3 h => ?_
  have hc4 := c_impl_ValidVector (Bp := Gu) (Bq := Gv) hx3
  refine st_call (cx_call hc4 (ent_f hc4.fn rfl) hn0 (H.sel' [0, 0, 1] rfl rfl : Hp S0 σ0 _ ([_] ++ _))) wn ?_
  rintro _ σ5 ⟨_, ⟨rfl, rfl⟩, H, -⟩
  replace H : Hp _ _ _ [_, _] := H
  refine st (v := (B (!r2))) (rv_not rfl) (sm (B (!r2)) rfl ?_)
  rcases Bool.eq_false_or_eq_true (!r2) with hb6 | hb6
  ·replace h := bif_t hb6 h
   refine st_skip (congrArg some hb6) (st_skip (congrArg some hb6) (st_skip (congrArg some hb6) (st (v := (B true)) (rv_pick_t (congrArg B hb6) rfl) (w_end ?_))))
   obtain rfl := sj h
   exact ⟨rfl, _, σ5, fr_join ⟨rfl, rfl, rfl, rfl, trivial⟩, rfl, H.sel' [0, 1] rfl rfl⟩
  ·replace h := bif_f hb6 h
   refine st_g (v := (Sl Gw Gt Gx)) (congrArg some hb6) (rv_move rfl) ?_
   revert h; refine br fun r7 hx8 h => ?_
   have hc9 := c_impl_ValidVector (Bp := Gw) (Bq := Gx) hx8
   refine st_call (cx_call hc9 (ent_f hc9.fn rfl) hn0 (H.sel' [1, 0, 1] rfl rfl : Hp S0 σ0 _ ([_] ++ _))) (wanted_yes rfl (by exact (congrArg some hb6))) ?_
   rintro _ σ10 ⟨_, ⟨rfl, rfl⟩, H, -⟩
   replace H : Hp _ _ _ [_, _] := H
   refine st_g (v := (B (!r7))) (congrArg some hb6) (rv_not rfl) (st (v := (B (!r7))) (rv_pick_f (congrArg B hb6) rfl) (w_end ?_))
   obtain rfl := sj h
   exact ⟨rfl, _, σ10, fr_join ⟨rfl, rfl, rfl, rfl, trivial⟩, rfl, H.sel' [0, 1] rfl rfl⟩
 ·clear hj
  have h := h'
  clear h' H
  rintro e a w ⟨rfl, ρ, σ11, rfl, rfl, H⟩
  refine q_then ?_
  refine cd_cond o1 rfl (fun hb12 => ?_) (fun hb12 => ?_)
  ·replace h := bif_t hb12 h
   refine c_seq (rg (sa (I (-1)) rfl (w_end (q_then (c_ret (q_then_r ?_))))))
   obtain rfl := sj h
   exact fin_ret (v := (I (-1))) (results_ok Tryz.results15 (res_tmp (v := (I (-1))) rfl res_nil) rfl) ⟨rfl, rfl⟩ (H.sel' [] rfl rfl)
  ·replace h := bif_f hb12 h
   refine c_skip (q_then (c_seq ?_))
   revert h; refine br fun xs13 hx14 h => ?_
   obtain ⟨hl18, hq19⟩ := garr_some hx14
   clear hx14 hq19
   obtain ⟨b15, o16, rfl, hc17⟩ := (H.ro 0 rfl).arr (Nat.lt_of_lt_of_le (by decide) hl18)
   revert h; refine br fun xs20 hx21 h => ?_
   obtain ⟨hl25, hq26⟩ := garr_some hx21
   clear hx21 hq26
   obtain ⟨b22, o23, rfl, hc24⟩ := (H.ro 1 rfl).arr (Nat.lt_of_lt_of_le (by decide) hl25)
   revert h; refine br fun r27 hx28 h => ?_
   have hc29 := c_impl_gapsOf (by rw [List.length_take]; have := hl18; omega) (by rw [List.length_take]; have := hl25; omega) hx28
   have Hs := H
   refine rg2 (σ := σ11) (Nm := Unit) 8 [7] [[false], [true]] [[(0, 0), (1, 1)], [(0, 0)], [(0, 0)], [(0, 0)], [(0, 0)], [(0, 0)], [(0, 0)], [(0, 1)]] 1 [fun _ => fun σm => Hp S0 σ0 σm [Ch.ro 0 (Sl (some ⟨b15, o16, none⟩) Gs Gv) Gs, Ch.ro 0 (Sl (some ⟨b22, o23, none⟩) Gt Gx) Gt] ∧ Md (cov []) σ11 σm, fun _ => fun σm => Hp S0 σ0 σm [Ch.ro 0 (Sl (some ⟨b15, o16, none⟩) Gs Gv) Gs, Ch.ro 0 (Sl (some ⟨b22, o23, none⟩) Gt Gx) Gt] ∧ Md (cov []) σ11 σm ∧ r27.length = 4] [fun _ => (I Cl), fun _ => (Sl (some ⟨b15, o16, none⟩) Gs Gv), fun _ => (.pointer (some ⟨b15, o16, none⟩)), fun _ => (.agg (List.map I (List.take 4 Gs)).toArray), fun _ => (Sl (some ⟨b22, o23, none⟩) Gt Gx), fun _ => (.pointer (some ⟨b22, o23, none⟩)), fun _ => (.agg (List.map I (List.take 4 Gt)).toArray), fun _ => (.agg (List.map I r27).toArray)] () (by kernel_rfl) (by kernel_rfl) ?_ ?_ ?_
   ·intro σm m0
    exact ⟨H.grow (m0.mono fun _ h => h.elim), m0⟩
   ·refine ac rfl (by
      intro k _nm ρ σm hJ hoff hdep
      have e0 := look_off (N := 24) (hoff 0 rfl) rfl
      exact dp_v (v := (I Cl)) wn (rv_move e0) rfl hJ) ?_
    refine ac rfl (by
      intro k _nm ρ σm hJ hoff hdep
      have e1 := look_off (N := 24) (hoff 1 rfl) rfl
      exact dp_v (v := (Sl (some ⟨b15, o16, none⟩) Gs Gv)) wn (rv_move e1) rfl hJ) ?_
    refine ac rfl (by
      intro k _nm ρ σm hJ hoff hdep
      have e16 := hdep 1 rfl rfl 16 rfl
      exact dp_v (v := (.pointer (some ⟨b15, o16, none⟩))) wn (rv_arrPtr Tryz.underlying67 e16 hl18) rfl hJ) ?_
    refine all_cons (by
      refine ⟨?_, ?_⟩
      ·intro _nm ρ σm hJ hoff hdep
       have e17 := hdep 2 rfl rfl 17 rfl
       obtain ⟨H, m⟩ := id hJ
       replace hc17 := (Hs.ro 0 rfl).arr_md hc17 m
       exact dp_v (v := (.agg (List.map I (List.take 4 Gs)).toArray)) wn (rv_load (cs := List.map I (List.take 4 Gs)) Tryz.underlying67 rfl ti67 e17 (by rw [List.length_map, List.length_take]; have := hl18; omega) (arr_take hc17)) rfl hJ
      trivial) ?_
    refine ac rfl (by
      intro k _nm ρ σm hJ hoff hdep
      have e2 := look_off (N := 24) (hoff 2 rfl) rfl
      exact dp_v (v := (Sl (some ⟨b22, o23, none⟩) Gt Gx)) wn (rv_move e2) rfl hJ) ?_
    refine ac rfl (by
      intro k _nm ρ σm hJ hoff hdep
      have e19 := hdep 4 rfl rfl 19 rfl
      exact dp_v (v := (.pointer (some ⟨b22, o23, none⟩))) wn (rv_arrPtr Tryz.underlying67 e19 hl25) rfl hJ) ?_
    refine all_cons (by
      refine ⟨?_, ?_⟩
      ·intro _nm ρ σm hJ hoff hdep
       have e20 := hdep 5 rfl rfl 20 rfl
       obtain ⟨H, m⟩ := id hJ
       replace hc24 := (Hs.ro 1 rfl).arr_md hc24 m
       exact dp_v (v := (.agg (List.map I (List.take 4 Gt)).toArray)) wn (rv_load (cs := List.map I (List.take 4 Gt)) Tryz.underlying67 rfl ti67 e20 (by rw [List.length_map, List.length_take]; have := hl25; omega) (arr_take hc24)) rfl hJ
      trivial) ?_
    refine all_cons (by
      refine ⟨?_, ?_⟩
      ·intro _nm ρ σm hJ hoff hdep
       have e18 : look 24 ρ 18 = (.agg (List.map I (List.take 4 Gs)).toArray) := hdep 3 rfl rfl 18 rfl
       have e21 : look 24 ρ 21 = (.agg (List.map I (List.take 4 Gt)).toArray) := hdep 6 rfl rfl 21 rfl
       obtain ⟨H, m⟩ := id hJ
       refine dp_cx wn (cx_call hc29 (ent_f hc29.fn (by show [look 24 ρ 18, look 24 ρ 21] = _; rw [e18, e21])) hn0 (H.sel' [0, 1] rfl rfl : Hp S0 σ0 _ ([] ++ _))) ?_
       rintro _ σq ⟨_, ⟨rfl, rfl, hl30⟩, H2, m2⟩
       exact ⟨_, (), rfl, rfl, ⟨H2.sel' [0, 1] rfl rfl, m.comp0 m2, hl30⟩, stab [0, 1, 2, 3, 4, 5, 6] (by kernel_rfl) ⟨rfl, rfl, rfl, rfl, rfl, rfl, rfl, trivial⟩⟩
      trivial) ?_
    exact all_nil
   ·intro _nm ρ σ31 hJ hoff hrel
    have e15 := hrel 0 rfl 15 rfl
    have e22 := hrel 7 rfl 22 rfl
    obtain ⟨H, -, hl30⟩ := (show Hp S0 σ0 σ31 [Ch.ro 0 (Sl (some ⟨b15, o16, none⟩) Gs Gv) Gs, Ch.ro 0 (Sl (some ⟨b22, o23, none⟩) Gt Gx) Gt] ∧ Md (cov []) σ11 σ31 ∧ r27.length = 4 from hJ)
    clear hJ Hs
    rw [fr_lookL (L := [(15, (I Cl)), (22, (.agg (List.map I r27).toArray))]) ⟨e15, e22, trivial⟩]
    clear hoff hrel e15 e22
    revert h; refine br fun r32 hx33 h => ?_
    have hc34 := c_impl_distanceOf hl30 hx33
    refine st_call (cx_call hc34 (ent_f hc34.fn rfl) hn0 (H.sel' [0, 1] rfl rfl : Hp S0 σ0 _ ([] ++ _))) wn ?_
    rintro _ σ35 ⟨_, ⟨rfl, rfl⟩, H, -⟩
    replace H : Hp _ _ _ [_, _] := H
    refine sa (I r32) rfl (w_end (q_then (c_ret ?_)))
    obtain rfl := sj h
    exact fin_ret (v := (I r32)) (results_ok Tryz.results15 (res_tmp (v := (I r32)) rfl res_nil) rfl) ⟨rfl, rfl⟩ (H.sel' [] rfl rfl)

theorem c_impl_nearestAmong_1__p3__p24 {Ap : Int × (List Int) × Int} {Av : Int} {Eu : List Int} {Cj : Option Addr} {Ck : Nat} {Aw Ax Ay : Nat} {Az Ba : List Value} {Gy : Option Addr} {Gz : Nat} {Fc Fd Fe : Nat} {Ff Fg : List Value} {r : Int} (h : M.impl_nearestAmong_1__p3__p24 Ap Av Eu = some r) :
    Cal2 Tryz.prog 96 [(.agg #[(I Ap.1), (Sl Cj Ap.2.1 Ck), (I Ap.2.2)]), (pt Ax Ay), (pt Fd Fe)] [Ch.ro 0 (Sl Cj Ap.2.1 Ck) Ap.2.1, Ch.bx Aw Ax Ay [(I Av)] Az Ba, Ch.bx Fc Fd Fe [(Sl Gy Eu Gz)] Ff Fg, Ch.ro 0 (Sl Gy Eu Gz) Eu] (fun n0 v L => v = (I r) ∧ L = [Ch.bx Aw Ax Ay [(I Av)] Az Ba, Ch.bx Fc Fd Fe [(Sl Gy Eu Gz)] Ff Fg]) := by
 refine cal2 (n := 10) Tryz.func96 rfl rfl rfl rfl ?_
 intro S0 σ0 n0 hn0 H
 unfold M.impl_nearestAmong_1__p3__p24 at h
 refine c_seq (rg (st_ex (ex_box (cs := [(I Ap.1), (Sl Cj Ap.2.1 Ck), (I Ap.2.2)]) H hn0 rfl rfl) wn ?_))
 rintro _ σ2 ⟨b1, rfl, H, -⟩
 refine sa (I 0) rfl (w_end (q_then (c_seq (rg ?_))))
 have hc3 := H.cell (u := (I Av)) (o' := Ay) 2 0 rfl rfl rfl
 refine st (v := (I Av)) (rv_load1 Tryz.underlying3 rfl rfl hc3) (st (v := (pt b1 1)) (rv_fieldAddr (off := 1) (ft := 24) Tryz.underlying33 rfl ti24 rfl rfl) ?_)
 have hc4 := H.cell (u := (Sl Cj Ap.2.1 Ck)) (o' := 1) 0 1 rfl rfl rfl
 refine st (v := (Sl Cj Ap.2.1 Ck)) (rv_load1 Tryz.underlying24 rfl rfl hc4) ?_
 have hc5 := H.cell (u := (Sl Gy Eu Gz)) (o' := Fe) 3 0 rfl rfl rfl
 refine st (v := (Sl Gy Eu Gz)) (rv_load1 Tryz.underlying24 rfl rfl hc5) ?_
 revert h; refine br fun r6 hx7 h => ?_
 have hc8 := c_impl_Distance (Gu := Cj) (Gv := Ck) (Gw := Gy) (Gx := Gz) hx7
 refine st_call (cx_call hc8 (ent_f hc8.fn rfl) hn0 (H.sel' [1, 4, 0, 1, 2, 3, 4] rfl rfl : Hp S0 σ0 _ ([_, _] ++ _))) wn ?_
 rintro _ σ9 ⟨_, ⟨rfl, rfl⟩, H, -⟩
 replace H : Hp _ _ _ [_, _, _, _, _] := H
 refine sa (I r6) rfl (w_end (q_then (c_ret ?_)))
 obtain rfl := sj h
 exact fin_ret (v := (I r6)) (results_ok Tryz.results96 (res_tmp (v := (I r6)) rfl res_nil) rfl) ⟨rfl, rfl⟩ (H.sel' [2, 3] rfl rfl)

theorem c_impl_nearestBy__impl_nearestAmong_1 {Ah : List (Int × (List Int) × Int)} {Fh : Int} {Fi : Int} {Fj : List Int} {Aj : Option Addr} {Ak : Nat} {Fm Fn Fo : Nat} {Fp Fq : List Value} {Ha : Option Addr} {Hc : Nat} {Fv Fw Fx : Nat} {Fy Ga : List Value} {r : (List (Int × Int))} (h : M.impl_nearestBy__impl_nearestAmong_1 Ah Fh Fi Fj = some r) :
    Cal2 Tryz.prog 67 [(Sl Aj Ah Ak), (I Fh), (.func (.func 96) #[] #[(pt Fn Fo), (pt Fw Fx)])] [Ch.ro 0 (Sl Aj Ah Ak) Ah, Ch.bx Fm Fn Fo [(I Fi)] Fp Fq, Ch.bx Fv Fw Fx [(Sl Ha Fj Hc)] Fy Ga, Ch.ro 0 (Sl Ha Fj Hc) Fj] (fun n0 v L => ∃ (az1 : Option Addr), ∃ (cz2 : Nat), v = (Sl az1 r cz2) ∧ L = [Ch.own 0 n0 (Sl az1 r cz2) r, Ch.bx Fm Fn Fo [(I Fi)] Fp Fq, Ch.bx Fv Fw Fx [(Sl Ha Fj Hc)] Fy Ga]) := by
 refine cal2 (n := 27) Tryz.func67 rfl rfl rfl rfl ?_
 intro S0 σ0 n0 hn0 H
 unfold M.impl_nearestBy__impl_nearestAmong_1 at h
 refine c_seq (rg (sa (.slice none 0 0) rfl (w_end (q_then (c_seq (rg (sm (I Fh) rfl ?_)))))))
 refine st (v := (.agg #[(I Fh), (.slice none 0 0)])) (rv_build (ps := [(0, (I Fh))]) Tryz.underlying116 ti116 (bp116 Tryz.underlying116) rfl (by kernel_rfl)) ?_
 refine st_ex (ex_alloc (cs := [(I 0), (.slice none 0 0)]) H hn0 ti116 rfl) wn ?_
 rintro _ σ2 ⟨b1, rfl, H, -⟩
 refine st_exS (ex_store_box (k := 0) (cs := [(I 0), (.slice none 0 0)]) (vs := [(I Fh), (.slice none 0 0)]) (cs' := [(I Fh), (.slice none 0 0)]) H (i := 0) rfl ti116 rfl rfl rfl rfl rfl (Nat.le_of_ble_eq_true rfl) (by simp [plain]) rfl) wn ?_
 rintro σ3 ⟨H, -⟩
 refine w_end (q_then (c_seq (c_seq (rg (sm (Sl Aj Ah Ak) rfl (st (v := (I (Ah.length : Int))) (rv_len Tryz.underlying23 rfl) (sm (I 0) rfl (w_end (q_then ?_)))))))))
 obtain ⟨o4, hj, h'⟩ := bind_some h
 clear h
 refine c_cut (fun e a w => e = .normal ∧ ∃ (ρ : Nat → Value) (σ : St) (aj1 : Option Addr) (cj2 : Nat), a = fr 27 (updL ρ [(2, (.func (.func 96) #[] #[(pt Fn Fo), (pt Fw Fx)])), (7, (pt b1 0))]) ∧ w = σ.w ∧ Hp S0 σ0 σ [Ch.bx n0 b1 0 [(I o4.1), (Sl aj1 o4.2 cj2)] [] [], Ch.own 0 0 (Sl aj1 o4.2 cj2) o4.2, Ch.bx Fm Fn Fo [(I Fi)] Fp Fq, Ch.ro 0 (Sl Ha Fj Hc) Fj, Ch.bx Fv Fw Fx [(Sl Ha Fj Hc)] Fy Ga]) ?_ ?_
 ·clear h'
  rename _ = some o4 => h
  refine c_blk ?_
  replace H := H.nilOwn (Int × Int) 0 0
  refine wp_loopM _ h (fun s5 a w => ∃ (ρ : Nat → Value) (σ : St) (aj1 : Option Addr) (cj2 : Nat), a = fr 27 (updL ρ [(2, (.func (.func 96) #[] #[(pt Fn Fo), (pt Fw Fx)])), (7, (pt b1 0)), (12, (Sl Aj Ah Ak)), (13, (I (Ah.length : Int))), (14, (I s5.2))]) ∧ w = σ.w ∧ Hp S0 σ0 σ [Ch.bx n0 b1 0 [(I s5.1.1), (Sl aj1 s5.1.2 cj2)] [] [], Ch.own 0 0 (Sl aj1 s5.1.2 cj2) s5.1.2, Ch.bx Fm Fn Fo [(I Fi)] Fp Fq, Ch.ro 0 (Sl Ha Fj Hc) Fj, Ch.bx Fv Fw Fx [(Sl Ha Fj Hc)] Fy Ga, Ch.ro 0 (Sl Aj Ah Ak) Ah]) ⟨_, σ3, none, 0, fr_join ⟨rfl, rfl, rfl, rfl, rfl, trivial⟩, rfl, H.sel' [1, 0, 3, 5, 4, 2] rfl rfl⟩ ?_
  clear h H
  rintro s5 a w o ⟨ρ, σ6, a7, c8, rfl, rfl, H⟩ h hres
  refine c_seq (rg (st (v := (B (decide (s5.2 < (Ah.length : Int))))) (rv_lss (a := s5.2) (b := (Ah.length : Int)) rfl rfl) (w_end (q_then (c_seq ?_)))))
  refine cd_cond (decide (s5.2 < (Ah.length : Int))) rfl (fun hb9 => ?_) (fun hb9 => ?_)
  ·replace h := bif_t hb9 h
   refine c_skip (q_then (c_seq (c_blk (c_seq (rg ?_)))))
   revert h; refine br fun x10 hx11 h => ?_
   obtain ⟨b13, o14, hi12, -⟩ := (H.ro 5 rfl).ix hx11
   refine st (v := (pt b13 o14)) (rv_ix Tryz.underlying23 ti33 rfl rfl hi12) ?_
   obtain ⟨_, ⟨_, _, rfl, rfl, ⟨_, _, rfl, ⟨_, rfl, hR19⟩, rfl⟩⟩, hl15, hc16⟩ := ((H.ro 5 rfl).at hx11 hi12).cells
   obtain ⟨a17, c18, rfl⟩ := hR19.isSl
   replace H := H.add (d := Ch.ro 0 (Sl a17 x10.2.1 c18) x10.2.1) hR19 (fun _ h => h)
   clear hR19
   refine st (v := (.agg #[(I x10.1), (Sl a17 x10.2.1 c18), (I x10.2.2)])) (rv_load Tryz.underlying33 rfl ti33 rfl hl15 hc16) (st_ex (ex_alloc (cs := [(I 0), (.slice none 0 0), (I 0)]) H hn0 ti33 rfl) wn ?_)
   rintro _ σ21 ⟨b20, rfl, H, -⟩
   refine st_exS (ex_store_box (k := 0) (cs := [(I 0), (.slice none 0 0), (I 0)]) (vs := [(I x10.1), (Sl a17 x10.2.1 c18), (I x10.2.2)]) (cs' := [(I x10.1), (Sl a17 x10.2.1 c18), (I x10.2.2)]) H (i := 0) rfl ti33 rfl rfl rfl rfl rfl (Nat.le_of_ble_eq_true rfl) (by simp [plain]) rfl) wn ?_
   rintro σ22 ⟨H, -⟩
   refine w_end (q_then ?_)
   have hc23 := H.cell (u := (I x10.1)) (o' := 0) 0 0 rfl rfl rfl
   have hc24 := H.cells 0 rfl
   revert h; refine br fun r25 hx26 h => ?_
   have hc27 := c_impl_nearestAmong_1__p3__p24 (Cj := a17) (Ck := c18) (Aw := Fm) (Ax := Fn) (Ay := Fo) (Az := Fp) (Ba := Fq) (Fc := Fv) (Fd := Fw) (Fe := Fx) (Ff := Fy) (Fg := Ga) (Gy := Ha) (Gz := Hc) hx26
   have Hs := H
   refine rg2 (σ := σ22) (Nm := Unit) 5 [4] [[false], [true]] [[(0, 0), (1, 1)], [(0, 0), (1, 1)], [(0, 0)], [(0, 0)], [(0, 1)]] 1 [fun _ => fun σm => Hp S0 σ0 σm [Ch.bx n0 b20 0 [(I x10.1), (Sl a17 x10.2.1 c18), (I x10.2.2)] [] [], Ch.ro 0 (Sl a17 x10.2.1 c18) x10.2.1, Ch.bx n0 b1 0 [(I s5.1.1), (Sl a7 s5.1.2 c8)] [] [], Ch.own 0 0 (Sl a7 s5.1.2 c8) s5.1.2, Ch.bx Fm Fn Fo [(I Fi)] Fp Fq, Ch.ro 0 (Sl Ha Fj Hc) Fj, Ch.bx Fv Fw Fx [(Sl Ha Fj Hc)] Fy Ga, Ch.ro 0 (Sl Aj Ah Ak) Ah] ∧ Md (cov []) σ22 σm, fun _ => fun σm => Hp S0 σ0 σm [Ch.bx Fm Fn Fo [(I Fi)] Fp Fq, Ch.bx Fv Fw Fx [(Sl Ha Fj Hc)] Fy Ga, Ch.bx n0 b20 0 [(I x10.1), (Sl a17 x10.2.1 c18), (I x10.2.2)] [] [], Ch.ro 0 (Sl a17 x10.2.1 c18) x10.2.1, Ch.bx n0 b1 0 [(I s5.1.1), (Sl a7 s5.1.2 c8)] [] [], Ch.own 0 0 (Sl a7 s5.1.2 c8) s5.1.2, Ch.ro 0 (Sl Ha Fj Hc) Fj, Ch.ro 0 (Sl Aj Ah Ak) Ah] ∧ Md (fun i => (cov []) i ∨ (cov [Ch.ro 0 (Sl a17 x10.2.1 c18) x10.2.1, Ch.bx Fm Fn Fo [(I Fi)] Fp Fq, Ch.bx Fv Fw Fx [(Sl Ha Fj Hc)] Fy Ga, Ch.ro 0 (Sl Ha Fj Hc) Fj]) i) σ22 σm] [fun _ => (pt b20 0), fun _ => (I x10.1), fun _ => (.func (.func 96) #[] #[(pt Fn Fo), (pt Fw Fx)]), fun _ => (.agg #[(I x10.1), (Sl a17 x10.2.1 c18), (I x10.2.2)]), fun _ => (I r25)] () (by kernel_rfl) (by kernel_rfl) ?_ ?_ ?_
   ·intro σm m0
    exact ⟨H.grow (m0.mono fun _ h => h.elim), m0⟩
   ·refine ac rfl (by
      intro k _nm ρ σm hJ hoff hdep
      have e9 := look_off (N := 27) (hoff 9 rfl) rfl
      exact dp_v (v := (pt b20 0)) wn (rv_fieldAddr (off := 0) (ft := 3) Tryz.underlying33 rfl ti3 rfl e9) rfl hJ) ?_
    refine all_cons (by
      refine ⟨?_, ?_⟩
      ·intro _nm ρ σm hJ hoff hdep
       have e18 := hdep 0 rfl rfl 18 rfl
       obtain ⟨H, m⟩ := id hJ
       have hc23 := H.cell (u := (I x10.1)) (o' := 0) 0 0 rfl rfl rfl
       exact dp_v (v := (I x10.1)) wn (rv_load1 Tryz.underlying3 rfl e18 hc23) rfl hJ
      refine ⟨?_, ?_⟩
      ·intro _nm ρ σm hJ hoff hdep
       have e18 := hdep 0 rfl rfl 18 rfl
       obtain ⟨H, m⟩ := id hJ
       have hc23 := H.cell (u := (I x10.1)) (o' := 0) 2 0 rfl rfl rfl
       exact dp_v (v := (I x10.1)) wn (rv_load1 Tryz.underlying3 rfl e18 hc23) rfl hJ
      trivial) ?_
    refine ac rfl (by
      intro k _nm ρ σm hJ hoff hdep
      have e2 := look_off (N := 27) (hoff 2 rfl) rfl
      exact dp_v (v := (.func (.func 96) #[] #[(pt Fn Fo), (pt Fw Fx)])) wn (rv_move e2) rfl hJ) ?_
    refine all_cons (by
      refine ⟨?_, ?_⟩
      ·intro _nm ρ σm hJ hoff hdep
       have e9 := look_off (N := 27) (hoff 9 rfl) rfl
       obtain ⟨H, m⟩ := id hJ
       have hc24 := H.cells 0 rfl
       exact dp_v (v := (.agg #[(I x10.1), (Sl a17 x10.2.1 c18), (I x10.2.2)])) wn (rv_load (cs := [(I x10.1), (Sl a17 x10.2.1 c18), (I x10.2.2)]) Tryz.underlying33 rfl ti33 e9 rfl hc24) rfl hJ
      trivial) ?_
    refine all_cons (by
      refine ⟨?_, ?_⟩
      ·intro _nm ρ σm hJ hoff hdep
       have e21 : look 27 ρ 21 = (.agg #[(I x10.1), (Sl a17 x10.2.1 c18), (I x10.2.2)]) := hdep 3 rfl rfl 21 rfl
       have e20 := hdep 2 rfl rfl 20 rfl
       obtain ⟨H, m⟩ := id hJ
       refine dp_cx wn (cx_call hc27 (ent_v (cap := [(pt Fn Fo), (pt Fw Fx)]) hc27.fn e20 (by show [look 27 ρ 21] ++ [(pt Fn Fo), (pt Fw Fx)] = _; rw [e21]; rfl)) hn0 (H.sel' [1, 4, 6, 5, 0, 1, 2, 3, 5, 7] rfl rfl : Hp S0 σ0 _ ([_, _, _, _] ++ _))) ?_
       rintro _ σq ⟨_, ⟨rfl, rfl⟩, H2, m2⟩
       exact ⟨_, (), rfl, rfl, ⟨H2.sel' [0, 1, 2, 3, 4, 5, 6, 7] rfl rfl, m.comp m2⟩, stab [0, 1, 2, 3] (by kernel_rfl) ⟨rfl, rfl, rfl, rfl, trivial⟩⟩
      trivial) ?_
    exact all_nil
   ·intro _nm ρ σ28 hJ hoff hrel
    have e2 := look_off (N := 27) (hoff 2 rfl) rfl
    have e7 := look_off (N := 27) (hoff 7 rfl) rfl
    have e12 := look_off (N := 27) (hoff 12 rfl) rfl
    have e13 := look_off (N := 27) (hoff 13 rfl) rfl
    have e14 := look_off (N := 27) (hoff 14 rfl) rfl
    have e19 := hrel 1 rfl 19 rfl
    have e22 := hrel 4 rfl 22 rfl
    obtain ⟨H, -⟩ := (show Hp S0 σ0 σ28 [Ch.bx Fm Fn Fo [(I Fi)] Fp Fq, Ch.bx Fv Fw Fx [(Sl Ha Fj Hc)] Fy Ga, Ch.bx n0 b20 0 [(I x10.1), (Sl a17 x10.2.1 c18), (I x10.2.2)] [] [], Ch.ro 0 (Sl a17 x10.2.1 c18) x10.2.1, Ch.bx n0 b1 0 [(I s5.1.1), (Sl a7 s5.1.2 c8)] [] [], Ch.own 0 0 (Sl a7 s5.1.2 c8) s5.1.2, Ch.ro 0 (Sl Ha Fj Hc) Fj, Ch.ro 0 (Sl Aj Ah Ak) Ah] ∧ Md (fun i => (cov []) i ∨ (cov [Ch.ro 0 (Sl a17 x10.2.1 c18) x10.2.1, Ch.bx Fm Fn Fo [(I Fi)] Fp Fq, Ch.bx Fv Fw Fx [(Sl Ha Fj Hc)] Fy Ga, Ch.ro 0 (Sl Ha Fj Hc) Fj]) i) σ22 σ28 from hJ)
    clear hJ Hs
    rw [fr_lookL (L := [(2, (.func (.func 96) #[] #[(pt Fn Fo), (pt Fw Fx)])), (7, (pt b1 0)), (12, (Sl Aj Ah Ak)), (13, (I (Ah.length : Int))), (14, (I s5.2)), (19, (I x10.1)), (22, (I r25))]) ⟨e2, e7, e12, e13, e14, e19, e22, trivial⟩]
    clear hoff hrel e2 e7 e12 e13 e14 e19 e22
    refine st (v := (.agg #[(I x10.1), (I r25)])) (rv_build (ps := [(0, (I x10.1)), (1, (I r25))]) Tryz.underlying44 ti44 (bp44 Tryz.underlying44) rfl (by kernel_rfl)) ?_
    revert h; refine br fun r29 hx30 h => ?_
    have hc31 := c_impl_nearestHits_offer (Dm := n0) (Dn := b1) (Do := 0) (Dq := []) (Dr := []) (Dj := a7) (Dk := c8) hx30
    refine st_call (cx_call hc31 (ent_f hc31.fn rfl) hn0 (H.sel' [4, 5, 0, 1, 2, 3, 6, 7] rfl rfl : Hp S0 σ0 _ ([_, _] ++ _))) wn ?_
    rintro _ σ34 ⟨_, ⟨a32, c33, rfl, rfl⟩, H, -⟩
    replace H : Hp _ _ _ [_, _, _, _, _, _, _, _] := H
    replace H : Hp S0 σ0 σ34 [Ch.bx n0 b1 0 [(I r29.1), (Sl a32 r29.2 c33)] [] [], Ch.own 0 0 (Sl a32 r29.2 c33) r29.2, Ch.bx Fm Fn Fo [(I Fi)] Fp Fq, Ch.bx Fv Fw Fx [(Sl Ha Fj Hc)] Fy Ga, Ch.ro 0 (Sl Ha Fj Hc) Fj, Ch.ro 0 (Sl Aj Ah Ak) Ah] := H.sel' [0, 1, 2, 3, 6, 7] rfl rfl
    refine w_end (q_blk (q_then (rg (st (v := (I (w64 (s5.2 + 1)))) (rv_add (a := s5.2) (b := 1) rfl rfl) (sm (I (w64 (s5.2 + 1))) rfl (w_end (q_then ?_)))))))
    obtain rfl := sj h
    exact ⟨_, rfl, _, σ34, a32, c33, fr_join ⟨rfl, rfl, rfl, rfl, rfl, trivial⟩, rfl, H.sel' [0, 1, 2, 4, 3, 5] rfl rfl⟩
  ·replace h := bif_f hb9 h
   refine c_exit (q_then_x (q_then_x (q_blk_hit ?_)))
   obtain rfl := sj h
   obtain rfl := hres _ rfl
   exact ⟨rfl, _, σ6, a7, c8, fr_join ⟨rfl, rfl, trivial⟩, rfl, H.sel' [0, 1, 2, 3, 4] rfl rfl⟩
 ·clear hj
  have h := h'
  clear h' H
  rintro e a w ⟨rfl, ρ, σ35, a36, c37, rfl, rfl, H⟩
  refine q_then (c_seq (rg ?_))
  obtain ⟨σ38, hw39, H, -⟩ := H.pub 1 rfl (Nat.le_refl _)
  rw [← hw39]; clear hw39
  revert h; refine br fun r40 hx41 h => ?_
  have hc42 := c_impl_nearestHits_inOrder (Dm := n0) (Dn := b1) (Do := 0) (Dq := []) (Dr := []) (Dj := a36) (Dk := c37) hx41
  refine st_call (cx_call hc42 (ent_f hc42.fn rfl) hn0 (H.sel' [1, 0, 0, 2, 3, 4] rfl rfl : Hp S0 σ0 _ ([_, _] ++ _))) wn ?_
  rintro _ σ45 ⟨_, ⟨a43, c44, rfl, rfl⟩, H, -⟩
  replace H : Hp _ _ _ [_, _, _, _, _, _] := H
  refine sa (Sl a43 r40 c44) rfl (w_end (q_then (c_ret ?_)))
  obtain rfl := sj h
  exact fin_ret (v := (Sl a43 r40 c44)) (results_ok Tryz.results67 (res_tmp (v := (Sl a43 r40 c44)) rfl res_nil) rfl) ⟨a43, c44, rfl, rfl⟩ (H.sel' [0, 3, 5] rfl rfl)

theorem c_impl_nearestAmong {Ah : List (Int × (List Int) × Int)} {Cm : Int} {Cn : List Int} {Cp : Int} {Aj : Option Addr} {Ak : Nat} {Cq : Option Addr} {Cr : Nat} {r : (List (Int × Int))} (h : M.impl_nearestAmong Ah Cm Cn Cp = some r) :
    Cal2 Tryz.prog 43 [(Sl Aj Ah Ak), (I Cm), (Sl Cq Cn Cr), (I Cp)] [Ch.ro 0 (Sl Aj Ah Ak) Ah, Ch.ro 0 (Sl Cq Cn Cr) Cn] (fun n0 v L => ∃ (az1 : Option Addr), ∃ (cz2 : Nat), v = (Sl az1 r cz2) ∧ L = [Ch.own 0 n0 (Sl az1 r cz2) r]) := by
 refine cal2 (n := 13) Tryz.func43 rfl rfl rfl rfl ?_
 intro S0 σ0 n0 hn0 H
 unfold M.impl_nearestAmong at h
 refine c_seq (rg (st_ex (ex_box (cs := [(I Cm)]) H hn0 rfl rfl) wn ?_))
 rintro _ σ2 ⟨b1, rfl, H, -⟩
 refine st_ex (ex_box (cs := [(Sl Cq Cn Cr)]) H hn0 rfl rfl) wn ?_
 rintro _ σ4 ⟨b3, rfl, H, -⟩
 refine sa (.slice none 0 0) rfl (w_end (q_then (c_seq (rg (sm (Sl Aj Ah Ak) rfl (sm (I Cp) rfl (st (v := (.func (.func 96) #[] #[(pt b1 0), (pt b3 0)])) (rv_makeFunc (vs := [(pt b1 0), (pt b3 0)]) rfl) ?_)))))))
 revert h; refine br fun r5 hx6 h => ?_
 have hc7 := c_impl_nearestBy__impl_nearestAmong_1 (Aj := Aj) (Ak := Ak) (Fm := n0) (Fn := b1) (Fo := 0) (Fp := []) (Fq := []) (Fv := n0) (Fw := b3) (Fx := 0) (Fy := []) (Ga := []) (Ha := Cq) (Hc := Cr) hx6
 refine st_call (cx_call hc7 (ent_f hc7.fn rfl) hn0 (H.sel' [2, 1, 0, 3, 2, 3] rfl rfl : Hp S0 σ0 _ ([_, _, _, _] ++ _))) wn ?_
 rintro _ σ10 ⟨_, ⟨a8, c9, rfl, rfl⟩, H, -⟩
 replace H : Hp _ _ _ [_, _, _, _, _] := H
 refine sa (Sl a8 r5 c9) rfl (w_end (q_then (c_ret ?_)))
 obtain rfl := sj h
 exact fin_ret (v := (Sl a8 r5 c9)) (results_ok Tryz.results43 (res_tmp (v := (Sl a8 r5 c9)) rfl res_nil) rfl) ⟨a8, c9, rfl, rfl⟩ (H.sel' [0] rfl rfl)

theorem c_impl_RerankNearest_1_1__p_impl_Item {Ao : Int × Int} {Av : Int × (List Int) × Int} {Hd : Option Addr} {He : Nat} {Aw Ax Ay : Nat} {Az Ba : List Value} {r : Bool} (h : M.impl_RerankNearest_1_1__p_impl_Item Ao Av = some r) :
    Cal2 Tryz.prog 80 [(.agg #[(I Ao.1), (I Ao.2)]), (pt Ax Ay)] [Ch.bx Aw Ax Ay [(I Av.1), (Sl Hd Av.2.1 He), (I Av.2.2)] Az Ba, Ch.ro 0 (Sl Hd Av.2.1 He) Av.2.1] (fun n0 v L => v = (B r) ∧ L = [Ch.bx Aw Ax Ay [(I Av.1), (Sl Hd Av.2.1 He), (I Av.2.2)] Az Ba]) := by
 refine cal2 (n := 9) Tryz.func80 rfl rfl rfl rfl ?_
 intro S0 σ0 n0 hn0 H
 unfold M.impl_RerankNearest_1_1__p_impl_Item at h
 refine c_seq (rg (st_ex (ex_box (cs := [(I Ao.1), (I Ao.2)]) H hn0 rfl rfl) wn ?_))
 rintro _ σ2 ⟨b1, rfl, H, -⟩
 refine sa (B false) rfl (w_end (q_then (c_seq (rg (st (v := (pt b1 0)) (rv_fieldAddr (off := 0) (ft := 3) Tryz.underlying44 rfl ti3 rfl rfl) ?_)))))
 have hc3 := H.cell (u := (I Ao.1)) (o' := 0) 0 0 rfl rfl rfl
 refine st (v := (I Ao.1)) (rv_load1 Tryz.underlying3 rfl rfl hc3) (st (v := (pt Ax Ay)) (rv_fieldAddr (off := 0) (ft := 3) Tryz.underlying33 rfl ti3 rfl rfl) ?_)
 have hc4 := H.cell (u := (I Av.1)) (o' := Ay) 1 0 rfl rfl rfl
 refine st (v := (I Av.1)) (rv_load1 Tryz.underlying3 rfl rfl hc4) (st (v := (B (Ao.1 == Av.1))) (rv_eql (a := Ao.1) (b := Av.1) rfl rfl) (sa (B (Ao.1 == Av.1)) rfl (w_end (q_then (c_ret ?_)))))
 obtain rfl := sj h
 exact fin_ret (v := (B (Ao.1 == Av.1))) (results_ok Tryz.results80 (res_tmp (v := (B (Ao.1 == Av.1))) rfl res_nil) rfl) ⟨rfl, rfl⟩ (H.sel' [1] rfl rfl)

theorem c_slices_IndexFunc_impl_Hit_impl_Hit__impl_RerankNearest_1_1 {Bb : List (Int × Int)} {Bc : Int × (List Int) × Int} {Bd : Option Addr} {Be : Nat} {Hf : Option Addr} {Hg : Nat} {Bf Bg Bh : Nat} {Bi Bj : List Value} {r : Int} (h : M.slices_IndexFunc_impl_Hit_impl_Hit__impl_RerankNearest_1_1 Bb Bc = some r) :
    Cal2 Tryz.prog 90 [(Sl Bd Bb Be), (.func (.func 80) #[] #[(pt Bg Bh)])] [Ch.ro 0 (Sl Bd Bb Be) Bb, Ch.bx Bf Bg Bh [(I Bc.1), (Sl Hf Bc.2.1 Hg), (I Bc.2.2)] Bi Bj, Ch.ro 0 (Sl Hf Bc.2.1 Hg) Bc.2.1] (fun n0 v L => v = (I r) ∧ L = [Ch.bx Bf Bg Bh [(I Bc.1), (Sl Hf Bc.2.1 Hg), (I Bc.2.2)] Bi Bj]) := by
 refine cal2 (n := 19) Tryz.func90 rfl rfl rfl rfl ?_
 intro S0 σ0 n0 hn0 H
 unfold M.slices_IndexFunc_impl_Hit_impl_Hit__impl_RerankNearest_1_1 at h
 refine c_seq (rg (sa (I 0) rfl (w_end (q_then (c_seq (c_seq (rg (sm (Sl Bd Bb Be) rfl (st (v := (I (Bb.length : Int))) (rv_len Tryz.underlying27 rfl) (sm (I 0) rfl (w_end ?_)))))))))))
 refine q_then ?_
 obtain ⟨o1, hj, h'⟩ := bind_some h
 clear h
 refine c_cut (fun e a w => (∃ t, o1 = (.inl t) ∧ e = .normal ∧ ∃ (ρ : Nat → Value) (σ : St), a = fr 19 (updL ρ [(1, (.func (.func 80) #[] #[(pt Bg Bh)]))]) ∧ w = σ.w ∧ Hp S0 σ0 σ [Ch.ro 0 (Sl Hf Bc.2.1 Hg) Bc.2.1, Ch.bx Bf Bg Bh [(I Bc.1), (Sl Hf Bc.2.1 Hg), (I Bc.2.2)] Bi Bj]) ∨ (∃ t, o1 = (.inr t) ∧ e = .ret ∧ ∃ (ρ : Nat → Value) (σ : St), a = fr 19 (updL ρ [(1, (.func (.func 80) #[] #[(pt Bg Bh)])), (4, (I t))]) ∧ w = σ.w ∧ Hp S0 σ0 σ [Ch.ro 0 (Sl Hf Bc.2.1 Hg) Bc.2.1, Ch.bx Bf Bg Bh [(I Bc.1), (Sl Hf Bc.2.1 Hg), (I Bc.2.2)] Bi Bj])) ?_ ?_
 ·clear h'
  rename _ = some o1 => h
  refine c_blk (wp_loopM _ h (fun s2 a w => ∃ (ρ : Nat → Value) (σ : St), a = fr 19 (updL ρ [(0, (Sl Bd Bb Be)), (1, (.func (.func 80) #[] #[(pt Bg Bh)])), (7, (I (Bb.length : Int))), (8, (I s2))]) ∧ w = σ.w ∧ Hp S0 σ0 σ [Ch.ro 0 (Sl Bd Bb Be) Bb, Ch.ro 0 (Sl Hf Bc.2.1 Hg) Bc.2.1, Ch.bx Bf Bg Bh [(I Bc.1), (Sl Hf Bc.2.1 Hg), (I Bc.2.2)] Bi Bj]) ⟨_, σ0, fr_join ⟨rfl, rfl, rfl, rfl, trivial⟩, rfl, H.sel' [0, 2, 1] rfl rfl⟩ ?_)
  clear h H
  rintro s2 a w o ⟨ρ, σ3, rfl, rfl, H⟩ h hres
  refine c_seq (rg (st (v := (B (decide (s2 < (Bb.length : Int))))) (rv_lss (a := s2) (b := (Bb.length : Int)) rfl rfl) (w_end (q_then (c_seq ?_)))))
  refine cd_cond (decide (s2 < (Bb.length : Int))) rfl (fun hb4 => ?_) (fun hb4 => ?_)
  ·replace h := bif_t hb4 h
   refine c_skip (q_then (c_seq (c_blk (c_seq (rg (sm (I s2) rfl (sa (I s2) rfl (w_end (q_then (c_seq (rg ?_)))))))))))
   refine sm (.func (.func 80) #[] #[(pt Bg Bh)]) rfl (sm (Sl Bd Bb Be) rfl (sm (I s2) rfl ?_))
   revert h; refine br fun x5 hx6 h => ?_
   obtain ⟨b8, o9, hi7, -⟩ := (H.ro 0 rfl).ix hx6
   refine st (v := (pt b8 o9)) (rv_ix Tryz.underlying27 ti44 rfl rfl hi7) ?_
   obtain ⟨_, ⟨_, _, rfl, rfl, rfl⟩, hl10, hc11⟩ := ((H.ro 0 rfl).at hx6 hi7).cells
   refine st (v := (.agg #[(I x5.1), (I x5.2)])) (rv_load Tryz.underlying44 rfl ti44 rfl hl10 hc11) ?_
   revert h; refine br fun r12 hx13 h => ?_
   have hc14 := c_impl_RerankNearest_1_1__p_impl_Item (Aw := Bf) (Ax := Bg) (Ay := Bh) (Az := Bi) (Ba := Bj) (Hd := Hf) (He := Hg) hx13
   refine st_call (cx_call hc14 (ent_v (cap := [(pt Bg Bh)]) hc14.fn rfl rfl) hn0 (H.sel' [2, 1, 0, 1] rfl rfl : Hp S0 σ0 _ ([_, _] ++ _))) wn ?_
   rintro _ σ15 ⟨_, ⟨rfl, rfl⟩, H, -⟩
   replace H : Hp _ _ _ [_, _, _] := H
   refine w_end (q_then ?_)
   refine cd_cond r12 rfl (fun hb16 => ?_) (fun hb16 => ?_)
   ·replace h := bif_t hb16 h
    refine c_seq (rg (sm (I s2) rfl (sa (I s2) rfl (w_end (q_then (c_ret (q_blk_r (q_then_r (q_then_r (q_blk_r ?_))))))))))
    obtain rfl := sj h
    obtain rfl := hres _ rfl
    exact .inr (⟨_, rfl, rfl, _, σ15, fr_join ⟨rfl, rfl, trivial⟩, rfl, H.sel' [2, 0] rfl rfl⟩)
   ·replace h := bif_f hb16 h
    refine c_skip (q_blk (q_then (rg (st (v := (I (w64 (s2 + 1)))) (rv_add (a := s2) (b := 1) rfl rfl) (sm (I (w64 (s2 + 1))) rfl (w_end (q_then ?_)))))))
    obtain rfl := sj h
    exact ⟨_, rfl, _, σ15, fr_join ⟨rfl, rfl, rfl, rfl, trivial⟩, rfl, H.sel' [1, 2, 0] rfl rfl⟩
  ·replace h := bif_f hb4 h
   refine c_exit (q_then_x (q_then_x (q_blk_hit ?_)))
   obtain rfl := sj h
   obtain rfl := hres _ rfl
   exact .inl ⟨_, rfl, rfl, _, σ3, fr_join ⟨rfl, trivial⟩, rfl, H.sel' [1, 2] rfl rfl⟩
 ·clear hj
  have h := h'
  clear h' H
  rintro e a w (⟨t17, rfl, rfl, ρ, σ18, rfl, rfl, H⟩ | ⟨t19, rfl, rfl, ρ, σ20, rfl, rfl, H⟩)
  ·replace h := selim_l h
   refine q_then (c_seq (rg (sa (I (-1)) rfl (w_end (q_then (c_ret ?_))))))
   obtain rfl := sj h
   exact fin_ret (v := (I (-1))) (results_ok Tryz.results90 (res_tmp (v := (I (-1))) rfl res_nil) rfl) ⟨rfl, rfl⟩ (H.sel' [1] rfl rfl)
  ·replace h := selim_r h
   refine q_then_r ?_
   obtain rfl := sj h
   exact fin_ret (v := (I t19)) (results_ok Tryz.results90 (res_tmp (v := (I t19)) rfl res_nil) rfl) ⟨rfl, rfl⟩ (H.sel' [1] rfl rfl)

theorem c_slices_ContainsFunc_impl_Hit_impl_Hit__impl_RerankNearest_1_1 {Bb : List (Int × Int)} {Bc : Int × (List Int) × Int} {Bd : Option Addr} {Be : Nat} {Hf : Option Addr} {Hg : Nat} {Bf Bg Bh : Nat} {Bi Bj : List Value} {r : Bool} (h : M.slices_ContainsFunc_impl_Hit_impl_Hit__impl_RerankNearest_1_1 Bb Bc = some r) :
    Cal2 Tryz.prog 79 [(Sl Bd Bb Be), (.func (.func 80) #[] #[(pt Bg Bh)])] [Ch.ro 0 (Sl Bd Bb Be) Bb, Ch.bx Bf Bg Bh [(I Bc.1), (Sl Hf Bc.2.1 Hg), (I Bc.2.2)] Bi Bj, Ch.ro 0 (Sl Hf Bc.2.1 Hg) Bc.2.1] (fun n0 v L => v = (B r) ∧ L = [Ch.bx Bf Bg Bh [(I Bc.1), (Sl Hf Bc.2.1 Hg), (I Bc.2.2)] Bi Bj]) := by
 refine cal2 (n := 9) Tryz.func79 rfl rfl rfl rfl ?_
 intro S0 σ0 n0 hn0 H
 unfold M.slices_ContainsFunc_impl_Hit_impl_Hit__impl_RerankNearest_1_1 at h
 refine c_seq (rg (sa (B false) rfl (w_end (q_then (c_seq (rg (sm (Sl Bd Bb Be) rfl (sm (.func (.func 80) #[] #[(pt Bg Bh)]) rfl ?_))))))))
 revert h; refine br fun r1 hx2 h => ?_
 have hc3 := c_slices_IndexFunc_impl_Hit_impl_Hit__impl_RerankNearest_1_1 (Bd := Bd) (Be := Be) (Bf := Bf) (Bg := Bg) (Bh := Bh) (Bi := Bi) (Bj := Bj) (Hf := Hf) (Hg := Hg) hx2
 refine st_call (cx_call hc3 (ent_f hc3.fn rfl) hn0 (H.sel' [0, 1, 2, 0, 2] rfl rfl : Hp S0 σ0 _ ([_, _, _] ++ _))) wn ?_
 rintro _ σ4 ⟨_, ⟨rfl, rfl⟩, H, -⟩
 replace H : Hp _ _ _ [_, _, _] := H
 refine st (v := (B (decide (0 ≤ r1)))) (rv_geq (a := r1) (b := 0) rfl rfl) (sa (B (decide (0 ≤ r1))) rfl (w_end (q_then (c_ret ?_))))
 obtain rfl := sj h
 exact fin_ret (v := (B (decide (0 ≤ r1)))) (results_ok Tryz.results79 (res_tmp (v := (B (decide (0 ≤ r1)))) rfl res_nil) rfl) ⟨rfl, rfl⟩ (H.sel' [0] rfl rfl)

theorem c_impl_RerankNearest_1__p_Simpl_Hit {Ap : Int × (List Int) × Int} {Av : List (Int × Int)} {Cj : Option Addr} {Ck : Nat} {Ev : Option Addr} {Ew : Nat} {Aw Ax Ay : Nat} {Az Ba : List Value} {r : Bool} (h : M.impl_RerankNearest_1__p_Simpl_Hit Ap Av = some r) :
    Cal2 Tryz.prog 78 [(.agg #[(I Ap.1), (Sl Cj Ap.2.1 Ck), (I Ap.2.2)]), (pt Ax Ay)] [Ch.ro 0 (Sl Cj Ap.2.1 Ck) Ap.2.1, Ch.bx Aw Ax Ay [(Sl Ev Av Ew)] Az Ba, Ch.ro 0 (Sl Ev Av Ew) Av] (fun n0 v L => v = (B r) ∧ L = [Ch.bx Aw Ax Ay [(Sl Ev Av Ew)] Az Ba]) := by
 refine cal2 (n := 7) Tryz.func78 rfl rfl rfl rfl ?_
 intro S0 σ0 n0 hn0 H
 unfold M.impl_RerankNearest_1__p_Simpl_Hit at h
 refine c_seq (rg (st_ex (ex_box (cs := [(I Ap.1), (Sl Cj Ap.2.1 Ck), (I Ap.2.2)]) H hn0 rfl rfl) wn ?_))
 rintro _ σ2 ⟨b1, rfl, H, -⟩
 refine sa (B false) rfl (w_end (q_then (c_seq (rg ?_))))
 have hc3 := H.cell (u := (Sl Ev Av Ew)) (o' := Ay) 2 0 rfl rfl rfl
 refine st (v := (Sl Ev Av Ew)) (rv_load1 Tryz.underlying27 rfl rfl hc3) (st (v := (.func (.func 80) #[] #[(pt b1 0)])) (rv_makeFunc (vs := [(pt b1 0)]) rfl) ?_)
 revert h; refine br fun r4 hx5 h => ?_
 have hc6 := c_slices_ContainsFunc_impl_Hit_impl_Hit__impl_RerankNearest_1_1 (Bd := Ev) (Be := Ew) (Bf := n0) (Bg := b1) (Bh := 0) (Bi := []) (Bj := []) (Hf := Cj) (Hg := Ck) hx5
 refine st_call (cx_call hc6 (ent_f hc6.fn rfl) hn0 (H.sel' [3, 0, 1, 1, 2, 3] rfl rfl : Hp S0 σ0 _ ([_, _, _] ++ _))) wn ?_
 rintro _ σ7 ⟨_, ⟨rfl, rfl⟩, H, -⟩
 replace H : Hp _ _ _ [_, _, _, _] := H
 refine sa (B r4) rfl (w_end (q_then (c_ret ?_)))
 obtain rfl := sj h
 exact fin_ret (v := (B r4)) (results_ok Tryz.results78 (res_tmp (v := (B r4)) rfl res_nil) rfl) ⟨rfl, rfl⟩ (H.sel' [2] rfl rfl)

theorem c_impl_itemsThat__impl_RerankNearest_1 {Ah : List (Int × (List Int) × Int)} {Hi : List (Int × Int)} {Aj : Option Addr} {Ak : Nat} {Hj : Option Addr} {Hk : Nat} {Hl Hm Hn : Nat} {Ho Hq : List Value} {r : (List (Int × (List Int) × Int))} (h : M.impl_itemsThat__impl_RerankNearest_1 Ah Hi = some r) :
    Cal2 Tryz.prog 77 [(Sl Aj Ah Ak), (.func (.func 78) #[] #[(pt Hm Hn)])] [Ch.ro 0 (Sl Aj Ah Ak) Ah, Ch.bx Hl Hm Hn [(Sl Hj Hi Hk)] Ho Hq, Ch.ro 0 (Sl Hj Hi Hk) Hi] (fun n0 v L => ∃ (az1 : Option Addr), ∃ (cz2 : Nat), v = (Sl az1 r cz2) ∧ L = [Ch.own n0 0 (Sl az1 r cz2) r, Ch.bx Hl Hm Hn [(Sl Hj Hi Hk)] Ho Hq]) := by
 refine cal2 (n := 23) Tryz.func77 rfl rfl rfl rfl ?_
 intro S0 σ0 n0 hn0 H
 unfold M.impl_itemsThat__impl_RerankNearest_1 at h
 refine c_seq (rg (sa (.slice none 0 0) rfl (w_end (q_then (c_seq (rg (sa (.slice none 0 0) rfl (w_end (q_then (c_seq (c_seq ?_)))))))))))
 refine rg (sm (Sl Aj Ah Ak) rfl (st (v := (I (Ah.length : Int))) (rv_len Tryz.underlying23 rfl) (sm (I 0) rfl (w_end (q_then ?_)))))
 obtain ⟨o1, hj, h'⟩ := bind_some h
 clear h
 refine c_cut (fun e a w => e = .normal ∧ ∃ (ρ : Nat → Value) (σ : St) (aj1 : Option Addr) (cj2 : Nat), a = fr 23 (updL ρ [(1, (.func (.func 78) #[] #[(pt Hm Hn)])), (5, (Sl aj1 o1 cj2))]) ∧ w = σ.w ∧ Hp S0 σ0 σ [Ch.ro 0 (Sl Hj Hi Hk) Hi, Ch.bx Hl Hm Hn [(Sl Hj Hi Hk)] Ho Hq, Ch.own n0 0 (Sl aj1 o1 cj2) o1]) ?_ ?_
 ·clear h'
  rename _ = some o1 => h
  refine c_blk ?_
  replace H := H.nilOwn (Int × (List Int) × Int) n0 0
  refine wp_loopM _ h (fun s2 a w => ∃ (ρ : Nat → Value) (σ : St) (aj1 : Option Addr) (cj2 : Nat), a = fr 23 (updL ρ [(1, (.func (.func 78) #[] #[(pt Hm Hn)])), (5, (Sl aj1 s2.1 cj2)), (8, (Sl Aj Ah Ak)), (9, (I (Ah.length : Int))), (10, (I s2.2))]) ∧ w = σ.w ∧ Hp S0 σ0 σ [Ch.ro 0 (Sl Hj Hi Hk) Hi, Ch.bx Hl Hm Hn [(Sl Hj Hi Hk)] Ho Hq, Ch.own n0 0 (Sl aj1 s2.1 cj2) s2.1, Ch.ro 0 (Sl Aj Ah Ak) Ah]) ⟨_, σ0, none, 0, fr_join ⟨rfl, rfl, rfl, rfl, rfl, trivial⟩, rfl, H.sel' [3, 2, 0, 1] rfl rfl⟩ ?_
  clear h H
  rintro s2 a w o ⟨ρ, σ3, a4, c5, rfl, rfl, H⟩ h hres
  refine c_seq (rg (st (v := (B (decide (s2.2 < (Ah.length : Int))))) (rv_lss (a := s2.2) (b := (Ah.length : Int)) rfl rfl) (w_end (q_then (c_seq ?_)))))
  refine cd_cond (decide (s2.2 < (Ah.length : Int))) rfl (fun hb6 => ?_) (fun hb6 => ?_)
  ·replace h := bif_t hb6 h
   refine c_skip (q_then (c_seq ?_))
   obtain ⟨o7, hj, h'⟩ := bind_some h
   clear h
   refine c_cut (fun e a w => e = .normal ∧ ∃ (ρ : Nat → Value) (σ : St) (aj1 : Option Addr) (cj2 : Nat), a = fr 23 (updL ρ [(1, (.func (.func 78) #[] #[(pt Hm Hn)])), (5, (Sl aj1 o7 cj2)), (8, (Sl Aj Ah Ak)), (9, (I (Ah.length : Int))), (10, (I s2.2))]) ∧ w = σ.w ∧ Hp S0 σ0 σ [Ch.ro 0 (Sl Hj Hi Hk) Hi, Ch.bx Hl Hm Hn [(Sl Hj Hi Hk)] Ho Hq, Ch.own n0 0 (Sl aj1 o7 cj2) o7, Ch.ro 0 (Sl Aj Ah Ak) Ah]) ?_ ?_
   ·clear h'
    rename _ = some o7 => h
    refine c_blk (c_seq (rg ?_))
    revert h; refine br fun x8 hx9 h => ?_
    obtain ⟨b11, o12, hi10, -⟩ := (H.ro 3 rfl).ix hx9
    refine st (v := (pt b11 o12)) (rv_ix Tryz.underlying23 ti33 rfl rfl hi10) ?_
    obtain ⟨_, ⟨_, _, rfl, rfl, ⟨_, _, rfl, ⟨_, rfl, hR17⟩, rfl⟩⟩, hl13, hc14⟩ := ((H.ro 3 rfl).at hx9 hi10).cells
    obtain ⟨a15, c16, rfl⟩ := hR17.isSl
    replace H := H.add (d := Ch.ro 0 (Sl a15 x8.2.1 c16) x8.2.1) hR17 (fun _ h => h)
    clear hR17
    refine st (v := (.agg #[(I x8.1), (Sl a15 x8.2.1 c16), (I x8.2.2)])) (rv_load Tryz.underlying33 rfl ti33 rfl hl13 hc14) (st_ex (ex_alloc (cs := [(I 0), (.slice none 0 0), (I 0)]) H hn0 ti33 rfl) wn ?_)
    rintro _ σ19 ⟨b18, rfl, H, -⟩
    refine st_exS (ex_store_box (k := 0) (cs := [(I 0), (.slice none 0 0), (I 0)]) (vs := [(I x8.1), (Sl a15 x8.2.1 c16), (I x8.2.2)]) (cs' := [(I x8.1), (Sl a15 x8.2.1 c16), (I x8.2.2)]) H (i := 0) rfl ti33 rfl rfl rfl rfl rfl (Nat.le_of_ble_eq_true rfl) (by simp [plain]) rfl) wn ?_
    rintro σ20 ⟨H, -⟩
    refine w_end (q_then (c_seq (rg (sm (.func (.func 78) #[] #[(pt Hm Hn)]) rfl ?_))))
    have hc21 := H.cells 0 rfl
    refine st (v := (.agg #[(I x8.1), (Sl a15 x8.2.1 c16), (I x8.2.2)])) (rv_load (cs := [(I x8.1), (Sl a15 x8.2.1 c16), (I x8.2.2)]) Tryz.underlying33 rfl ti33 rfl rfl hc21) ?_
    revert h; refine br fun r22 hx23 h => ?_
    have hc24 := c_impl_RerankNearest_1__p_Simpl_Hit (Cj := a15) (Ck := c16) (Aw := Hl) (Ax := Hm) (Ay := Hn) (Az := Ho) (Ba := Hq) (Ev := Hj) (Ew := Hk) hx23
    refine st_call (cx_call hc24 (ent_v (cap := [(pt Hm Hn)]) hc24.fn rfl rfl) hn0 (H.sel' [1, 3, 2, 0, 1, 2, 4, 5] rfl rfl : Hp S0 σ0 _ ([_, _, _] ++ _))) wn ?_
    rintro _ σ25 ⟨_, ⟨rfl, rfl⟩, H, -⟩
    replace H : Hp _ _ _ [_, _, _, _, _, _] := H
    refine w_end (q_then ?_)
    refine cd_cond r22 rfl (fun hb26 => ?_) (fun hb26 => ?_)
    ·replace h := bif_t hb26 h
     refine rg (sm (Sl a4 s2.1 c5) rfl ?_)
     have hc27 := H.cells 1 rfl
     refine st (v := (.agg #[(I x8.1), (Sl a15 x8.2.1 c16), (I x8.2.2)])) (rv_load (cs := [(I x8.1), (Sl a15 x8.2.1 c16), (I x8.2.2)]) Tryz.underlying33 rfl ti33 rfl rfl hc27) ?_
     refine st_ex (ex_buildSlice (el := 0) (xs := ([(x8.1, x8.2.1, x8.2.2)] : List (Int × (List Int) × Int))) (ps := [(0, (.agg #[(I x8.1), (Sl a15 x8.2.1 c16), (I x8.2.2)]))]) (cs := [(I x8.1), (Sl a15 x8.2.1 c16), (I x8.2.2)]) H hn0 Tryz.underlying23 ti33 rfl rfl (by kernel_rfl) (.cons (c := [(I x8.1), (Sl a15 x8.2.1 c16), (I x8.2.2)]) ⟨[(I x8.1)], [(Sl a15 x8.2.1 c16), (I x8.2.2)], rfl, rfl, ⟨[(Sl a15 x8.2.1 c16)], [(I x8.2.2)], rfl, ⟨_, rfl, (H.ro 2 rfl)⟩, rfl⟩⟩ (.nil)) rfl) wn ?_
     rintro _ σ29 ⟨b28, rfl, H, -⟩
     revert h; refine br fun xs30 hx31 h => ?_
     refine st_ex (ex_append H (i := 5) rfl Tryz.underlying23 Tryz.underlying23 ti33 rfl rfl (by decide) (H.own 0 rfl).rd hx31 hn0 rfl rfl) wn ?_
     rintro _ σ34 ⟨a32, c33, rfl, H, -⟩
     refine sa (Sl a32 xs30 c33) rfl (w_end (q_blk ?_))
     obtain rfl := sj h
     exact ⟨rfl, _, σ34, a32, c33, fr_join ⟨rfl, rfl, rfl, rfl, rfl, trivial⟩, rfl, H.sel' [5, 2, 0, 6] rfl rfl⟩
    ·replace h := bif_f hb26 h
     refine c_skip (q_blk ?_)
     obtain rfl := sj h
     exact ⟨rfl, _, σ25, a4, c5, fr_join ⟨rfl, rfl, rfl, rfl, rfl, trivial⟩, rfl, H.sel' [3, 0, 4, 5] rfl rfl⟩
   ·clear hj
    have h := h'
    clear h' H
    rintro e a w ⟨rfl, ρ, σ35, a36, c37, rfl, rfl, H⟩
    refine q_then (rg (st (v := (I (w64 (s2.2 + 1)))) (rv_add (a := s2.2) (b := 1) rfl rfl) (sm (I (w64 (s2.2 + 1))) rfl (w_end (q_then ?_)))))
    obtain rfl := sj h
    exact ⟨_, rfl, _, σ35, a36, c37, fr_join ⟨rfl, rfl, rfl, rfl, rfl, trivial⟩, rfl, H.sel' [0, 1, 2, 3] rfl rfl⟩
  ·replace h := bif_f hb6 h
   refine c_exit (q_then_x (q_then_x (q_blk_hit ?_)))
   obtain rfl := sj h
   obtain rfl := hres _ rfl
   exact ⟨rfl, _, σ3, a4, c5, fr_join ⟨rfl, rfl, trivial⟩, rfl, H.sel' [0, 1, 2] rfl rfl⟩
 ·clear hj
  have h := h'
  clear h' H
  rintro e a w ⟨rfl, ρ, σ38, a39, c40, rfl, rfl, H⟩
  refine q_then (c_seq (rg (sm (Sl a39 o1 c40) rfl (sa (Sl a39 o1 c40) rfl (w_end (q_then (c_ret ?_)))))))
  obtain rfl := sj h
  exact fin_ret (v := (Sl a39 o1 c40)) (results_ok Tryz.results77 (res_tmp (v := (Sl a39 o1 c40)) rfl res_nil) rfl) ⟨a39, c40, rfl, rfl⟩ (H.sel' [2, 1] rfl rfl)

theorem c_impl_RerankNearest {Bu : (List (List Int)) × (List (List Int))} {Gb : List (Int × (List Int) × Int)} {Cn : List Int} {Hr : Int} {Ht : Int} {Bv : Option Addr} {Bw : Nat} {By : Option Addr} {Bz : Nat} {Gc : Option Addr} {Gd : Nat} {Cq : Option Addr} {Cr : Nat} {r : (List (Int × Int))} (h : M.impl_RerankNearest Bu Gb Cn Hr Ht = some r) :
    Cal2 Tryz.prog 29 [(.agg #[(Sl Bv Bu.1 Bw), (Sl By Bu.2 Bz)]), (Sl Gc Gb Gd), (Sl Cq Cn Cr), (I Hr), (I Ht)] [Ch.ro 0 (Sl Bv Bu.1 Bw) Bu.1, Ch.ro 0 (Sl By Bu.2 Bz) Bu.2, Ch.ro 0 (Sl Gc Gb Gd) Gb, Ch.ro 0 (Sl Cq Cn Cr) Cn] (fun n0 v L => ∃ (az1 : Option Addr), ∃ (cz2 : Nat), v = (Sl az1 r cz2) ∧ L = [Ch.own 0 n0 (Sl az1 r cz2) r]) := by
 refine cal2 (n := 40) Tryz.func29 rfl rfl rfl rfl ?_
 intro S0 σ0 n0 hn0 H
 unfold M.impl_RerankNearest at h
 refine c_seq (rg (st_ex (ex_box (cs := [(Sl Bv Bu.1 Bw), (Sl By Bu.2 Bz)]) H hn0 rfl rfl) wn ?_))
 rintro _ σ2 ⟨b1, rfl, H, -⟩
 refine sa (.slice none 0 0) rfl (w_end (q_then (c_seq (c_seq ?_))))
 obtain ⟨o3, hj, h'⟩ := bind_some h
 clear h
 refine c_cut (fun e a w => e = .normal ∧ ∃ (ρ : Nat → Value) (σ : St), a = fr 40 (updL ρ [(1, (Sl Gc Gb Gd)), (2, (Sl Cq Cn Cr)), (3, (I Hr)), (4, (I Ht)), (5, (pt b1 0)), (27, (B o3))]) ∧ w = σ.w ∧ Hp S0 σ0 σ [Ch.ro 0 (Sl Gc Gb Gd) Gb, Ch.ro 0 (Sl Cq Cn Cr) Cn, Ch.ro 0 (Sl Bv Bu.1 Bw) Bu.1, Ch.ro 0 (Sl By Bu.2 Bz) Bu.2, Ch.bx n0 b1 0 [(Sl Bv Bu.1 Bw), (Sl By Bu.2 Bz)] [] []]) ?_ ?_
 ·clear h'
  rename _ = some o3 => h
  refine rg ?_
  have hc4 := H.cells 0 rfl
  refine st (v := (.agg #[(Sl Bv Bu.1 Bw), (Sl By Bu.2 Bz)])) (rv_load (cs := [(Sl Bv Bu.1 Bw), (Sl By Bu.2 Bz)]) Tryz.underlying47 rfl ti47 rfl rfl hc4) ?_
  revert h; refine br fun r5 hx6 h => ?_
  have hc7 := c_impl_ValidBook (Bv := Bv) (Bw := Bw) (By := By) (Bz := Bz) hx6
  refine st_call (cx_call hc7 (ent_f hc7.fn rfl) hn0 (H.sel' [1, 2, 0, 1, 2, 3, 4] rfl rfl : Hp S0 σ0 _ ([_, _] ++ _))) wn ?_
  rintro _ σ8 ⟨_, ⟨rfl, rfl⟩, H, -⟩
  replace H : Hp _ _ _ [_, _, _, _, _] := H
  refine st (v := (B (!r5))) (rv_not rfl) (sm (B (!r5)) rfl ?_)
  rcases Bool.eq_false_or_eq_true (!r5) with hb9 | hb9
  ·replace h := bif_t hb9 h
   refine st_skip (congrArg some hb9) (st_skip (congrArg some hb9) (st_skip (congrArg some hb9) (st_skip (congrArg some hb9) (st_skip (congrArg some hb9) (st (v := (B true)) (rv_pick_t (congrArg B hb9) rfl) (sm (B true) rfl (st_skip rfl (st_skip rfl (st_skip rfl (st (v := (B true)) (rv_pick_t rfl rfl) (w_end ?_)))))))))))
   obtain rfl := sj h
   exact ⟨rfl, _, σ8, fr_join ⟨rfl, rfl, rfl, rfl, rfl, rfl, trivial⟩, rfl, H.sel' [3, 4, 1, 2, 0] rfl rfl⟩
  ·replace h := bif_f hb9 h
   refine st_g (v := (Sl Gc Gb Gd)) (congrArg some hb9) (rv_move rfl) (st_g (v := (Sl Cq Cn Cr)) (congrArg some hb9) (rv_move rfl) (st_g (v := (I Ht)) (congrArg some hb9) (rv_move rfl) ?_))
   revert h; refine br fun r10 hx11 h => ?_
   have hc12 := c_impl_validSearch (Aj := Gc) (Ak := Gd) (Cq := Cq) (Cr := Cr) hx11
   refine st_call (cx_call hc12 (ent_f hc12.fn rfl) hn0 (H.sel' [3, 4, 0, 1, 2, 3, 4] rfl rfl : Hp S0 σ0 _ ([_, _] ++ _))) (wanted_yes rfl (by exact (congrArg some hb9))) ?_
   rintro _ σ13 ⟨_, ⟨rfl, rfl⟩, H, -⟩
   replace H : Hp _ _ _ [_, _, _, _, _] := H
   refine st_g (v := (B (!r10))) (congrArg some hb9) (rv_not rfl) (st (v := (B (!r10))) (rv_pick_f (congrArg B hb9) rfl) (sm (B (!r10)) rfl ?_))
   rcases Bool.eq_false_or_eq_true (!r10) with hb14 | hb14
   ·replace h := bif_t hb14 h
    refine st_skip (congrArg some hb14) (st_skip (congrArg some hb14) (st_skip (congrArg some hb14) (st (v := (B true)) (rv_pick_t (congrArg B hb14) rfl) (w_end ?_))))
    obtain rfl := sj h
    exact ⟨rfl, _, σ13, fr_join ⟨rfl, rfl, rfl, rfl, rfl, rfl, trivial⟩, rfl, H.sel' [3, 4, 1, 2, 0] rfl rfl⟩
   ·replace h := bif_f hb14 h
    refine st_g (v := (I Hr)) (congrArg some hb14) (rv_move rfl) ?_
    revert h; refine br fun r15 hx16 h => ?_
    have hc17 := c_impl_validCount hx16
    refine st_call (cx_call hc17 (ent_f hc17.fn rfl) hn0 (H.sel' [0, 1, 2, 3, 4] rfl rfl : Hp S0 σ0 _ ([] ++ _))) (wanted_yes rfl (by exact (congrArg some hb14))) ?_
    rintro _ σ18 ⟨_, ⟨rfl, rfl⟩, H, -⟩
    replace H : Hp _ _ _ [_, _, _, _, _] := H
    refine st_g (v := (B (!r15))) (congrArg some hb14) (rv_not rfl) (st (v := (B (!r15))) (rv_pick_f (congrArg B hb14) rfl) (w_end ?_))
    obtain rfl := sj h
    exact ⟨rfl, _, σ18, fr_join ⟨rfl, rfl, rfl, rfl, rfl, rfl, trivial⟩, rfl, H.sel' [3, 4, 1, 2, 0] rfl rfl⟩
 ·clear hj
  have h := h'
  clear h' H
  rintro e a w ⟨rfl, ρ, σ19, rfl, rfl, H⟩
  refine q_then ?_
  refine cd_cond o3 rfl (fun hb20 => ?_) (fun hb20 => ?_)
  ·replace h := bif_t hb20 h
   refine c_seq (rg (sa (.slice none 0 0) rfl (w_end (q_then (c_ret (q_then_r ?_))))))
   replace H := H.nilOwn (Int × Int) 0 n0
   obtain rfl := sj h
   exact fin_ret (v := (.slice none 0 0)) (results_ok Tryz.results29 (res_tmp (v := (.slice none 0 0)) rfl res_nil) rfl) ⟨none, 0, rfl, rfl⟩ (H.sel' [0] rfl rfl)
  ·replace h := bif_f hb20 h
   refine c_skip (q_then (c_seq (rg ?_)))
   have hc21 := H.cells 4 rfl
   refine st (v := (.agg #[(Sl Bv Bu.1 Bw), (Sl By Bu.2 Bz)])) (rv_load (cs := [(Sl Bv Bu.1 Bw), (Sl By Bu.2 Bz)]) Tryz.underlying47 rfl ti47 rfl rfl hc21) (sm (Sl Gc Gb Gd) rfl (sm (Sl Cq Cn Cr) rfl (sm (I Hr) rfl ?_)))
   revert h; refine br fun r22 hx23 h => ?_
   have hc24 := c_impl_CodeNearest (Bv := Bv) (Bw := Bw) (By := By) (Bz := Bz) (Gc := Gc) (Gd := Gd) (Cq := Cq) (Cr := Cr) hx23
   refine st_call (cx_call hc24 (ent_f hc24.fn rfl) hn0 (H.sel' [2, 3, 0, 1, 0, 1, 2, 3, 4] rfl rfl : Hp S0 σ0 _ ([_, _, _, _] ++ _))) wn ?_
   rintro _ σ27 ⟨_, ⟨a25, c26, rfl, rfl⟩, H, -⟩
   replace H : Hp _ _ _ [_, _, _, _, _, _] := H
   refine st_ex (ex_alloc (cs := [(.slice none 0 0)]) H hn0 ti27 rfl) wn ?_
   rintro _ σ29 ⟨b28, rfl, H, -⟩
   refine st_exS (ex_store_box (k := 0) (cs := [(.slice none 0 0)]) (vs := [(Sl a25 r22 c26)]) (cs' := [(Sl a25 r22 c26)]) H (i := 0) rfl ti27 rfl rfl rfl rfl rfl (Nat.le_of_ble_eq_true rfl) (by simp [plain]) rfl) wn ?_
   rintro σ30 ⟨H, -⟩
   refine w_end (q_then (c_seq (rg (sm (Sl Gc Gb Gd) rfl (st (v := (.func (.func 78) #[] #[(pt b28 0)])) (rv_makeFunc (vs := [(pt b28 0)]) rfl) ?_)))))
   replace H := H.ownLow 1 0 0 rfl (Nat.le_refl _) (Nat.zero_le _)
   obtain ⟨σ31, hw32, H, -⟩ := H.pub 0 rfl (Nat.le_refl _)
   rw [← hw32]; clear hw32
   revert h; refine br fun r33 hx34 h => ?_
   have hc35 := c_impl_itemsThat__impl_RerankNearest_1 (Aj := Gc) (Ak := Gd) (Hl := n0) (Hm := b28) (Hn := 0) (Ho := []) (Hq := []) (Hj := a25) (Hk := c26) hx34
   refine st_call (cx_call hc35 (ent_f hc35.fn rfl) hn0 (H.sel' [2, 1, 0, 0, 2, 3, 4, 5, 6] rfl rfl : Hp S0 σ0 _ ([_, _, _] ++ _))) wn ?_
   rintro _ σ38 ⟨_, ⟨a36, c37, rfl, rfl⟩, H, -⟩
   replace H : Hp _ _ _ [_, _, _, _, _, _, _, _] := H
   replace H : Hp S0 σ0 σ38 [Ch.own n0 0 (Sl a36 r33 c37) r33, Ch.ro 0 (Sl Cq Cn Cr) Cn] := H.sel' [0, 4] rfl rfl
   refine sa (Sl a36 r33 c37) rfl (w_end (q_then (c_seq (rg (sm (Sl a36 r33 c37) rfl (sm (Sl Cq Cn Cr) rfl (sm (I Ht) rfl ?_)))))))
   obtain ⟨σ39, hw40, H, -⟩ := H.pub 0 rfl (Nat.zero_le _)
   rw [← hw40]; clear hw40
   revert h; refine br fun r41 hx42 h => ?_
   have hc43 := c_impl_nearestAmong (Aj := a36) (Ak := c37) (Cq := Cq) (Cr := Cr) hx42
   refine st_call (cx_call hc43 (ent_f hc43.fn rfl) hn0 (H.sel' [0, 1, 0, 1] rfl rfl : Hp S0 σ0 _ ([_, _] ++ _))) wn ?_
   rintro _ σ46 ⟨_, ⟨a44, c45, rfl, rfl⟩, H, -⟩
   replace H : Hp _ _ _ [_, _, _] := H
   refine sa (Sl a44 r41 c45) rfl (w_end (q_then (c_ret ?_)))
   obtain rfl := sj h
   exact fin_ret (v := (Sl a44 r41 c45)) (results_ok Tryz.results29 (res_tmp (v := (Sl a44 r41 c45)) rfl res_nil) rfl) ⟨a44, c45, rfl, rfl⟩ (H.sel' [0] rfl rfl)

theorem c_spec_validKind {Cl : Int}  {r : Bool} (h : M.spec_validKind Cl = some r) :
    Cal2 Tryz.prog 92 [(I Cl)] [] (fun n0 v L => v = (B r) ∧ L = []) := by
 refine cal2 (n := 5) Tryz.func92 rfl rfl rfl rfl ?_
 intro S0 σ0 n0 hn0 H
 unfold M.spec_validKind at h
 refine c_seq (rg (sa (B false) rfl (w_end (q_then (c_seq (rg (sm (I Cl) rfl ?_)))))))
 revert h; refine br fun r1 hx2 h => ?_
 have hc3 := c_spec_inRange hx2
 refine st_call (cx_call hc3 (ent_f hc3.fn rfl) hn0 (H.sel' [] rfl rfl : Hp S0 σ0 _ ([] ++ _))) wn ?_
 rintro _ σ4 ⟨_, ⟨rfl, rfl⟩, H, -⟩
 replace H : Hp _ _ _ [] := H
 refine sa (B r1) rfl (w_end (q_then (c_ret ?_)))
 obtain rfl := sj h
 exact fin_ret (v := (B r1)) (results_ok Tryz.results92 (res_tmp (v := (B r1)) rfl res_nil) rfl) ⟨rfl, rfl⟩ (H.sel' [] rfl rfl)

theorem c_spec_validQuery {Ah : List (Int × (List Int) × Int)} {Cm : Int} {Cn : List Int} {Aj : Option Addr} {Ak : Nat} {Cq : Option Addr} {Cr : Nat} {r : Bool} (h : M.spec_validQuery Ah Cm Cn = some r) :
    Cal2 Tryz.prog 40 [(Sl Aj Ah Ak), (I Cm), (Sl Cq Cn Cr)] [Ch.ro 0 (Sl Aj Ah Ak) Ah, Ch.ro 0 (Sl Cq Cn Cr) Cn] (fun n0 v L => v = (B r) ∧ L = []) := by
 refine cal2 (n := 17) Tryz.func40 rfl rfl rfl rfl ?_
 intro S0 σ0 n0 hn0 H
 unfold M.spec_validQuery at h
 refine c_seq (rg (sa (B false) rfl (w_end (q_then (c_seq (rg (sm (Sl Aj Ah Ak) rfl ?_)))))))
 revert h; refine br fun r1 hx2 h => ?_
 have hc3 := c_spec_validStore (Aj := Aj) (Ak := Ak) hx2
 refine st_call (cx_call hc3 (ent_f hc3.fn rfl) hn0 (H.sel' [0, 0, 1] rfl rfl : Hp S0 σ0 _ ([_] ++ _))) wn ?_
 rintro _ σ4 ⟨_, ⟨rfl, rfl⟩, H, -⟩
 replace H : Hp _ _ _ [_, _] := H
 refine sm (B r1) rfl ?_
 rcases Bool.eq_false_or_eq_true r1 with hb5 | hb5
 ·replace h := bif_t hb5 h
  refine st_g (v := (I Cm)) (congrArg some hb5) (rv_move rfl) ?_
  revert h; refine br fun r6 hx7 h => ?_
  have hc8 := c_spec_validKind hx7
  refine st_call (cx_call hc8 (ent_f hc8.fn rfl) hn0 (H.sel' [0, 1] rfl rfl : Hp S0 σ0 _ ([] ++ _))) (wanted_yes rfl (by exact (congrArg some hb5))) ?_
  rintro _ σ9 ⟨_, ⟨rfl, rfl⟩, H, -⟩
  replace H : Hp _ _ _ [_, _] := H
  refine st (v := (B r6)) (rv_pick_t (congrArg B hb5) rfl) (sm (B r6) rfl ?_)
  rcases Bool.eq_false_or_eq_true r6 with hb10 | hb10
  ·replace h := bif_t hb10 h
   refine st_g (v := (Sl Cq Cn Cr)) (congrArg some hb10) (rv_move rfl) ?_
   revert h; refine br fun r11 hx12 h => ?_
   have hc13 := c_spec_isVector (Bp := Cq) (Bq := Cr) hx12
   refine st_call (cx_call hc13 (ent_f hc13.fn rfl) hn0 (H.sel' [1, 0, 1] rfl rfl : Hp S0 σ0 _ ([_] ++ _))) (wanted_yes rfl (by exact (congrArg some hb10))) ?_
   rintro _ σ14 ⟨_, ⟨rfl, rfl⟩, H, -⟩
   replace H : Hp _ _ _ [_, _] := H
   refine st (v := (B r11)) (rv_pick_t (congrArg B hb10) rfl) (sa (B r11) rfl (w_end (q_then (c_ret ?_))))
   obtain rfl := sj h
   exact fin_ret (v := (B r11)) (results_ok Tryz.results40 (res_tmp (v := (B r11)) rfl res_nil) rfl) ⟨rfl, rfl⟩ (H.sel' [] rfl rfl)
  ·replace h := bif_f hb10 h
   refine st_skip (congrArg some hb10) (st_skip (congrArg some hb10) (st (v := (B false)) (rv_pick_f (congrArg B hb10) rfl) (sa (B false) rfl (w_end (q_then (c_ret ?_))))))
   obtain rfl := sj h
   exact fin_ret (v := (B false)) (results_ok Tryz.results40 (res_tmp (v := (B false)) rfl res_nil) rfl) ⟨rfl, rfl⟩ (H.sel' [] rfl rfl)
 ·replace h := bif_f hb5 h
  refine st_skip (congrArg some hb5) (st_skip (congrArg some hb5) (st (v := (B false)) (rv_pick_f (congrArg B hb5) rfl) (sm (B false) rfl (st_skip rfl (st_skip rfl (st (v := (B false)) (rv_pick_f rfl rfl) (sa (B false) rfl (w_end (q_then (c_ret ?_))))))))))
  obtain rfl := sj h
  exact fin_ret (v := (B false)) (results_ok Tryz.results40 (res_tmp (v := (B false)) rfl res_nil) rfl) ⟨rfl, rfl⟩ (H.sel' [] rfl rfl)

theorem c_spec_validHalves {Ah : List (List Int)} {Aj : Option Addr} {Ak : Nat} {r : Bool} (h : M.spec_validHalves Ah = some r) :
    Cal2 Tryz.prog 114 [(Sl Aj Ah Ak)] [Ch.ro 0 (Sl Aj Ah Ak) Ah] (fun n0 v L => v = (B r) ∧ L = []) := by
 refine cal2 (n := 24) Tryz.func114 rfl rfl rfl rfl ?_
 intro S0 σ0 n0 hn0 H
 unfold M.spec_validHalves at h
 refine c_seq (rg (sa (B false) rfl (w_end (q_then (c_seq (c_seq (rg (sa (I 0) rfl (w_end (q_then ?_))))))))))
 obtain ⟨o1, hj, h'⟩ := bind_some h
 clear h
 refine c_cut (fun e a w => (∃ t, o1 = (.inl t) ∧ e = .normal ∧ ∃ (ρ : Nat → Value) (σ : St), a = fr 24 (updL ρ []) ∧ w = σ.w ∧ Hp S0 σ0 σ []) ∨ (∃ t, o1 = (.inr t) ∧ e = .ret ∧ ∃ (ρ : Nat → Value) (σ : St), a = fr 24 (updL ρ [(2, (B t))]) ∧ w = σ.w ∧ Hp S0 σ0 σ [])) ?_ ?_
 ·clear h'
  rename _ = some o1 => h
  refine c_blk (wp_loopM _ h (fun s2 a w => ∃ (ρ : Nat → Value) (σ : St), a = fr 24 (updL ρ [(0, (Sl Aj Ah Ak)), (3, (I s2))]) ∧ w = σ.w ∧ Hp S0 σ0 σ [Ch.ro 0 (Sl Aj Ah Ak) Ah]) ⟨_, σ0, fr_join ⟨rfl, rfl, trivial⟩, rfl, H.sel' [0] rfl rfl⟩ ?_)
  clear h H
  rintro s2 a w o ⟨ρ, σ3, rfl, rfl, H⟩ h hres
  refine c_seq (c_seq (rg (sm (I s2) rfl (sm (Sl Aj Ah Ak) rfl (st (v := (I (Ah.length : Int))) (rv_len Tryz.underlying37 rfl) (st (v := (B (decide (s2 < (Ah.length : Int))))) (rv_lss (a := s2) (b := (Ah.length : Int)) rfl rfl) (w_end (q_then ?_))))))))
  refine cd_cond (decide (s2 < (Ah.length : Int))) rfl (fun hb4 => ?_) (fun hb4 => ?_)
  ·replace h := bif_t hb4 h
   refine c_skip (q_then (c_seq (c_blk (c_seq ?_))))
   obtain ⟨o5, hj, h'⟩ := bind_some h
   clear h
   refine c_cut (fun e a w => e = .normal ∧ ∃ (ρ : Nat → Value) (σ : St), a = fr 24 (updL ρ [(0, (Sl Aj Ah Ak)), (3, (I s2)), (23, (B o5))]) ∧ w = σ.w ∧ Hp S0 σ0 σ [Ch.ro 0 (Sl Aj Ah Ak) Ah]) ?_ ?_
   ·clear h'
    rename _ = some o5 => h
    refine rg (sm (Sl Aj Ah Ak) rfl (sm (I s2) rfl ?_))
    revert h; refine br fun x6 hx7 h => ?_
    obtain ⟨b9, o10, hi8, -⟩ := (H.ro 0 rfl).ix hx7
    refine st (v := (pt b9 o10)) (rv_ix Tryz.underlying37 ti24 rfl rfl hi8) ?_
    obtain ⟨v14, hc15, hR13⟩ := ((H.ro 0 rfl).at hx7 hi8).slice
    obtain ⟨a11, c12, rfl⟩ := hR13.isSl
    replace H := H.add (d := Ch.ro 0 (Sl a11 x6 c12) x6) hR13 (fun _ h => h)
    clear hR13
    refine st (v := (Sl a11 x6 c12)) (rv_load1 Tryz.underlying24 rfl rfl hc15) (st (v := (I (x6.length : Int))) (rv_len Tryz.underlying24 rfl) (st (v := (B ((x6.length : Int) != 2))) (rv_neq (a := (x6.length : Int)) (b := 2) rfl rfl) (sm (B ((x6.length : Int) != 2)) rfl ?_)))
    rcases Bool.eq_false_or_eq_true ((x6.length : Int) != 2) with hb16 | hb16
    ·replace h := bif_t hb16 h
     refine st_skip (congrArg some hb16) (st_skip (congrArg some hb16) (st_skip (congrArg some hb16) (st_skip (congrArg some hb16) (st_skip (congrArg some hb16) (st_skip (congrArg some hb16) (st (v := (B true)) (rv_pick_t (congrArg B hb16) rfl) (w_end ?_)))))))
     obtain rfl := sj h
     exact ⟨rfl, _, σ3, fr_join ⟨rfl, rfl, rfl, trivial⟩, rfl, H.sel' [1] rfl rfl⟩
    ·replace h := bif_f hb16 h
     refine st_g (v := (Sl Aj Ah Ak)) (congrArg some hb16) (rv_move rfl) (st_g (v := (I s2)) (congrArg some hb16) (rv_move rfl) ?_)
     revert h; refine br fun x17 hx18 h => ?_
     obtain ⟨b20, o21, hi19, -⟩ := (H.ro 1 rfl).ix hx18
     refine st_g (v := (pt b20 o21)) (congrArg some hb16) (rv_ix Tryz.underlying37 ti24 rfl rfl hi19) ?_
     obtain ⟨v25, hc26, hR24⟩ := ((H.ro 1 rfl).at hx18 hi19).slice
     obtain ⟨a22, c23, rfl⟩ := hR24.isSl
     replace H := H.add (d := Ch.ro 0 (Sl a22 x17 c23) x17) hR24 (fun _ h => h)
     clear hR24
     refine st_g (v := (Sl a22 x17 c23)) (congrArg some hb16) (rv_load1 Tryz.underlying24 rfl rfl hc26) ?_
     revert h; refine br fun r27 hx28 h => ?_
     have hc29 := c_spec_allIn (Aj := a22) (Ak := c23) hx28
     refine st_call (cx_call hc29 (ent_f hc29.fn rfl) hn0 (H.sel' [0, 0, 1, 2] rfl rfl : Hp S0 σ0 _ ([_] ++ _))) (wanted_yes rfl (by exact (congrArg some hb16))) ?_
     rintro _ σ30 ⟨_, ⟨rfl, rfl⟩, H, -⟩
     replace H : Hp _ _ _ [_, _, _] := H
     refine st_g (v := (B (!r27))) (congrArg some hb16) (rv_not rfl) (st (v := (B (!r27))) (rv_pick_f (congrArg B hb16) rfl) (w_end ?_))
     obtain rfl := sj h
     exact ⟨rfl, _, σ30, fr_join ⟨rfl, rfl, rfl, trivial⟩, rfl, H.sel' [2] rfl rfl⟩
   ·clear hj
    have h := h'
    clear h' H
    rintro e a w ⟨rfl, ρ, σ31, rfl, rfl, H⟩
    refine q_then ?_
    refine cd_cond o5 rfl (fun hb32 => ?_) (fun hb32 => ?_)
    ·replace h := bif_t hb32 h
     refine c_seq (rg (sa (B false) rfl (w_end (q_then (c_ret (q_blk_r (q_then_r (q_then_r (q_blk_r ?_)))))))))
     obtain rfl := sj h
     obtain rfl := hres _ rfl
     exact .inr (⟨_, rfl, rfl, _, σ31, fr_join ⟨rfl, trivial⟩, rfl, H.sel' [] rfl rfl⟩)
    ·replace h := bif_f hb32 h
     refine c_skip (q_blk (q_then (rg (sm (I s2) rfl (st (v := (I (w64 (s2 + 1)))) (rv_add (a := s2) (b := 1) rfl rfl) (sa (I (w64 (s2 + 1))) rfl (w_end (q_then ?_))))))))
     obtain rfl := sj h
     exact ⟨_, rfl, _, σ31, fr_join ⟨rfl, rfl, trivial⟩, rfl, H.sel' [0] rfl rfl⟩
  ·replace h := bif_f hb4 h
   refine c_exit (q_then_x (q_then_x (q_blk_hit ?_)))
   obtain rfl := sj h
   obtain rfl := hres _ rfl
   exact .inl ⟨_, rfl, rfl, _, σ3, fr_join trivial, rfl, H.sel' [] rfl rfl⟩
 ·clear hj
  have h := h'
  clear h' H
  rintro e a w (⟨t33, rfl, rfl, ρ, σ34, rfl, rfl, H⟩ | ⟨t35, rfl, rfl, ρ, σ36, rfl, rfl, H⟩)
  ·replace h := selim_l h
   refine q_then (c_seq (rg (sa (B true) rfl (w_end (q_then (c_ret ?_))))))
   obtain rfl := sj h
   exact fin_ret (v := (B true)) (results_ok Tryz.results114 (res_tmp (v := (B true)) rfl res_nil) rfl) ⟨rfl, rfl⟩ (H.sel' [] rfl rfl)
  ·replace h := selim_r h
   refine q_then_r ?_
   obtain rfl := sj h
   exact fin_ret (v := (B t35)) (results_ok Tryz.results114 (res_tmp (v := (B t35)) rfl res_nil) rfl) ⟨rfl, rfl⟩ (H.sel' [] rfl rfl)

theorem c_spec_validBook {Bu : (List (List Int)) × (List (List Int))} {Bv : Option Addr} {Bw : Nat} {By : Option Addr} {Bz : Nat} {r : Bool} (h : M.spec_validBook Bu = some r) :
    Cal2 Tryz.prog 69 [(.agg #[(Sl Bv Bu.1 Bw), (Sl By Bu.2 Bz)])] [Ch.ro 0 (Sl Bv Bu.1 Bw) Bu.1, Ch.ro 0 (Sl By Bu.2 Bz) Bu.2] (fun n0 v L => v = (B r) ∧ L = []) := by
 refine cal2 (n := 23) Tryz.func69 rfl rfl rfl rfl ?_
 intro S0 σ0 n0 hn0 H
 unfold M.spec_validBook at h
 refine c_seq (rg (st_ex (ex_box (cs := [(Sl Bv Bu.1 Bw), (Sl By Bu.2 Bz)]) H hn0 rfl rfl) wn ?_))
 rintro _ σ2 ⟨b1, rfl, H, -⟩
 refine sa (B false) rfl (w_end (q_then (c_seq (rg (st (v := (pt b1 0)) (rv_fieldAddr (off := 0) (ft := 37) Tryz.underlying47 rfl ti37 rfl rfl) ?_)))))
 have hc3 := H.cell (u := (Sl Bv Bu.1 Bw)) (o' := 0) 0 0 rfl rfl rfl
 refine st (v := (Sl Bv Bu.1 Bw)) (rv_load1 Tryz.underlying37 rfl rfl hc3) (st (v := (I (Bu.1.length : Int))) (rv_len Tryz.underlying37 rfl) (st (v := (B ((Bu.1.length : Int) == 4))) (rv_eql (a := (Bu.1.length : Int)) (b := 4) rfl rfl) (sm (B ((Bu.1.length : Int) == 4)) rfl ?_)))
 rcases Bool.eq_false_or_eq_true ((Bu.1.length : Int) == 4) with hb4 | hb4
 ·replace h := bif_t hb4 h
  refine st_g (v := (pt b1 1)) (congrArg some hb4) (rv_fieldAddr (off := 1) (ft := 37) Tryz.underlying47 rfl ti37 rfl rfl) ?_
  have hc5 := H.cell (u := (Sl By Bu.2 Bz)) (o' := 1) 0 1 rfl rfl rfl
  refine st_g (v := (Sl By Bu.2 Bz)) (congrArg some hb4) (rv_load1 Tryz.underlying37 rfl rfl hc5) (st_g (v := (I (Bu.2.length : Int))) (congrArg some hb4) (rv_len Tryz.underlying37 rfl) (st_g (v := (B ((Bu.2.length : Int) == 4))) (congrArg some hb4) (rv_eql (a := (Bu.2.length : Int)) (b := 4) rfl rfl) (st (v := (B ((Bu.2.length : Int) == 4))) (rv_pick_t (congrArg B hb4) rfl) (sm (B ((Bu.2.length : Int) == 4)) rfl ?_))))
  rcases Bool.eq_false_or_eq_true ((Bu.2.length : Int) == 4) with hb6 | hb6
  ·replace h := bif_t hb6 h
   refine st_g (v := (pt b1 0)) (congrArg some hb6) (rv_fieldAddr (off := 0) (ft := 37) Tryz.underlying47 rfl ti37 rfl rfl) ?_
   have hc7 := H.cell (u := (Sl Bv Bu.1 Bw)) (o' := 0) 0 0 rfl rfl rfl
   refine st_g (v := (Sl Bv Bu.1 Bw)) (congrArg some hb6) (rv_load1 Tryz.underlying37 rfl rfl hc7) ?_
   revert h; refine br fun r8 hx9 h => ?_
   have hc10 := c_spec_validHalves (Aj := Bv) (Ak := Bw) hx9
   refine st_call (cx_call hc10 (ent_f hc10.fn rfl) hn0 (H.sel' [1, 0, 1, 2] rfl rfl : Hp S0 σ0 _ ([_] ++ _))) (wanted_yes rfl (by exact (congrArg some hb6))) ?_
   rintro _ σ11 ⟨_, ⟨rfl, rfl⟩, H, -⟩
   replace H : Hp _ _ _ [_, _, _] := H
   refine st (v := (B r8)) (rv_pick_t (congrArg B hb6) rfl) (sm (B r8) rfl ?_)
   rcases Bool.eq_false_or_eq_true r8 with hb12 | hb12
   ·replace h := bif_t hb12 h
    refine st_g (v := (pt b1 1)) (congrArg some hb12) (rv_fieldAddr (off := 1) (ft := 37) Tryz.underlying47 rfl ti37 rfl rfl) ?_
    have hc13 := H.cell (u := (Sl By Bu.2 Bz)) (o' := 1) 0 1 rfl rfl rfl
    refine st_g (v := (Sl By Bu.2 Bz)) (congrArg some hb12) (rv_load1 Tryz.underlying37 rfl rfl hc13) ?_
    revert h; refine br fun r14 hx15 h => ?_
    have hc16 := c_spec_validHalves (Aj := By) (Ak := Bz) hx15
    refine st_call (cx_call hc16 (ent_f hc16.fn rfl) hn0 (H.sel' [2, 0, 1, 2] rfl rfl : Hp S0 σ0 _ ([_] ++ _))) (wanted_yes rfl (by exact (congrArg some hb12))) ?_
    rintro _ σ17 ⟨_, ⟨rfl, rfl⟩, H, -⟩
    replace H : Hp _ _ _ [_, _, _] := H
    refine st (v := (B r14)) (rv_pick_t (congrArg B hb12) rfl) (sa (B r14) rfl (w_end (q_then (c_ret ?_))))
    obtain rfl := sj h
    exact fin_ret (v := (B r14)) (results_ok Tryz.results69 (res_tmp (v := (B r14)) rfl res_nil) rfl) ⟨rfl, rfl⟩ (H.sel' [] rfl rfl)
   ·replace h := bif_f hb12 h
    refine st_skip (congrArg some hb12) (st_skip (congrArg some hb12) (st_skip (congrArg some hb12) (st (v := (B false)) (rv_pick_f (congrArg B hb12) rfl) (sa (B false) rfl (w_end (q_then (c_ret ?_)))))))
    obtain rfl := sj h
    exact fin_ret (v := (B false)) (results_ok Tryz.results69 (res_tmp (v := (B false)) rfl res_nil) rfl) ⟨rfl, rfl⟩ (H.sel' [] rfl rfl)
  ·replace h := bif_f hb6 h
   refine st_skip (congrArg some hb6) (st_skip (congrArg some hb6) (st_skip (congrArg some hb6) (st (v := (B false)) (rv_pick_f (congrArg B hb6) rfl) (sm (B false) rfl (st_skip rfl (st_skip rfl (st_skip rfl (st (v := (B false)) (rv_pick_f rfl rfl) (sa (B false) rfl (w_end (q_then ?_)))))))))))
   refine c_ret ?_
   obtain rfl := sj h
   exact fin_ret (v := (B false)) (results_ok Tryz.results69 (res_tmp (v := (B false)) rfl res_nil) rfl) ⟨rfl, rfl⟩ (H.sel' [] rfl rfl)
 ·replace h := bif_f hb4 h
  refine st_skip (congrArg some hb4) (st_skip (congrArg some hb4) (st_skip (congrArg some hb4) (st_skip (congrArg some hb4) (st (v := (B false)) (rv_pick_f (congrArg B hb4) rfl) (sm (B false) rfl (st_skip rfl (st_skip rfl (st_skip rfl (st (v := (B false)) (rv_pick_f rfl rfl) (sm (B false) rfl (st_skip rfl ?_)))))))))))
  refine st_skip rfl (st_skip rfl (st (v := (B false)) (rv_pick_f rfl rfl) (sa (B false) rfl (w_end (q_then (c_ret ?_))))))
  obtain rfl := sj h
  exact fin_ret (v := (B false)) (results_ok Tryz.results69 (res_tmp (v := (B false)) rfl res_nil) rfl) ⟨rfl, rfl⟩ (H.sel' [] rfl rfl)

theorem c_spec_nearer {Aa : Int × Int} {Ac : Int × Int}  {r : Bool} (h : M.spec_nearer Aa Ac = some r) :
    Cal2 Tryz.prog 115 [(.agg #[(I Aa.1), (I Aa.2)]), (.agg #[(I Ac.1), (I Ac.2)])] [] (fun n0 v L => v = (B r) ∧ L = []) := by
 refine cal2 (n := 24) Tryz.func115 rfl rfl rfl rfl ?_
 intro S0 σ0 n0 hn0 H
 unfold M.spec_nearer at h
 refine c_seq (rg (st_ex (ex_box (cs := [(I Aa.1), (I Aa.2)]) H hn0 rfl rfl) wn ?_))
 rintro _ σ2 ⟨b1, rfl, H, -⟩
 refine st_ex (ex_box (cs := [(I Ac.1), (I Ac.2)]) H hn0 rfl rfl) wn ?_
 rintro _ σ4 ⟨b3, rfl, H, -⟩
 refine sa (B false) rfl (w_end (q_then (c_seq (rg (st (v := (pt b1 1)) (rv_fieldAddr (off := 1) (ft := 3) Tryz.underlying44 rfl ti3 rfl rfl) ?_)))))
 have hc5 := H.cell (u := (I Aa.2)) (o' := 1) 1 1 rfl rfl rfl
 refine st (v := (I Aa.2)) (rv_load1 Tryz.underlying3 rfl rfl hc5) (st (v := (pt b3 1)) (rv_fieldAddr (off := 1) (ft := 3) Tryz.underlying44 rfl ti3 rfl rfl) ?_)
 have hc6 := H.cell (u := (I Ac.2)) (o' := 1) 0 1 rfl rfl rfl
 refine st (v := (I Ac.2)) (rv_load1 Tryz.underlying3 rfl rfl hc6) (st (v := (B (decide (Aa.2 < Ac.2)))) (rv_lss (a := Aa.2) (b := Ac.2) rfl rfl) (sm (B (decide (Aa.2 < Ac.2))) rfl ?_))
 rcases Bool.eq_false_or_eq_true (decide (Aa.2 < Ac.2)) with hb7 | hb7
 ·replace h := bif_t hb7 h
  refine st_skip (congrArg some hb7) (st_skip (congrArg some hb7) (st_skip (congrArg some hb7) (st_skip (congrArg some hb7) (st_skip (congrArg some hb7) (st_skip (congrArg some hb7) (st_skip_u rfl (st_skip_u rfl (st_skip_u rfl (st_skip_u rfl (st_skip_u rfl (st_skip (congrArg some hb7) ?_)))))))))))
  refine st (v := (B true)) (rv_pick_t (congrArg B hb7) rfl) (sa (B true) rfl (w_end (q_then (c_ret ?_))))
  obtain rfl := sj h
  exact fin_ret (v := (B true)) (results_ok Tryz.results115 (res_tmp (v := (B true)) rfl res_nil) rfl) ⟨rfl, rfl⟩ (H.sel' [] rfl rfl)
 ·replace h := bif_f hb7 h
  refine st_g (v := (pt b1 1)) (congrArg some hb7) (rv_fieldAddr (off := 1) (ft := 3) Tryz.underlying44 rfl ti3 rfl rfl) ?_
  have hc8 := H.cell (u := (I Aa.2)) (o' := 1) 1 1 rfl rfl rfl
  refine st_g (v := (I Aa.2)) (congrArg some hb7) (rv_load1 Tryz.underlying3 rfl rfl hc8) (st_g (v := (pt b3 1)) (congrArg some hb7) (rv_fieldAddr (off := 1) (ft := 3) Tryz.underlying44 rfl ti3 rfl rfl) ?_)
  have hc9 := H.cell (u := (I Ac.2)) (o' := 1) 0 1 rfl rfl rfl
  refine st_g (v := (I Ac.2)) (congrArg some hb7) (rv_load1 Tryz.underlying3 rfl rfl hc9) (st_g (v := (B (Aa.2 == Ac.2))) (congrArg some hb7) (rv_eql (a := Aa.2) (b := Ac.2) rfl rfl) (st_g (v := (B (Aa.2 == Ac.2))) (congrArg some hb7) (rv_move rfl) ?_))
  rcases Bool.eq_false_or_eq_true (Aa.2 == Ac.2) with hb10 | hb10
  ·replace h := bif_t hb10 h
   refine st_g (v := (pt b1 0)) (congrArg some hb10) (rv_fieldAddr (off := 0) (ft := 3) Tryz.underlying44 rfl ti3 rfl rfl) ?_
   have hc11 := H.cell (u := (I Aa.1)) (o' := 0) 1 0 rfl rfl rfl
   refine st_g (v := (I Aa.1)) (congrArg some hb10) (rv_load1 Tryz.underlying3 rfl rfl hc11) (st_g (v := (pt b3 0)) (congrArg some hb10) (rv_fieldAddr (off := 0) (ft := 3) Tryz.underlying44 rfl ti3 rfl rfl) ?_)
   have hc12 := H.cell (u := (I Ac.1)) (o' := 0) 0 0 rfl rfl rfl
   refine st_g (v := (I Ac.1)) (congrArg some hb10) (rv_load1 Tryz.underlying3 rfl rfl hc12) (st_g (v := (B (decide (Aa.1 < Ac.1)))) (congrArg some hb10) (rv_lss (a := Aa.1) (b := Ac.1) rfl rfl) (st_g (v := (B (decide (Aa.1 < Ac.1)))) (congrArg some hb7) (rv_pick_t (congrArg B hb10) rfl) (st (v := (B (decide (Aa.1 < Ac.1)))) (rv_pick_f (congrArg B hb7) rfl) (sa (B (decide (Aa.1 < Ac.1))) rfl (w_end (q_then (c_ret ?_)))))))
   obtain rfl := sj h
   exact fin_ret (v := (B (decide (Aa.1 < Ac.1)))) (results_ok Tryz.results115 (res_tmp (v := (B (decide (Aa.1 < Ac.1)))) rfl res_nil) rfl) ⟨rfl, rfl⟩ (H.sel' [] rfl rfl)
  ·replace h := bif_f hb10 h
   refine st_skip (congrArg some hb10) (st_skip (congrArg some hb10) (st_skip (congrArg some hb10) (st_skip (congrArg some hb10) (st_skip (congrArg some hb10) (st_g (v := (B false)) (congrArg some hb7) (rv_pick_f (congrArg B hb10) rfl) (st (v := (B false)) (rv_pick_f (congrArg B hb7) rfl) (sa (B false) rfl (w_end (q_then (c_ret ?_))))))))))
   obtain rfl := sj h
   exact fin_ret (v := (B false)) (results_ok Tryz.results115 (res_tmp (v := (B false)) rfl res_nil) rfl) ⟨rfl, rfl⟩ (H.sel' [] rfl rfl)

theorem c_spec_addHit {Ah : List (Int × Int)} {Di : Int × Int} {Hu : Int} {Aj : Option Addr} {Ak : Nat} {r : (List (Int × Int))} (h : M.spec_addHit Ah Di Hu = some r) :
    Cal2 Tryz.prog 70 [(Sl Aj Ah Ak), (.agg #[(I Di.1), (I Di.2)]), (I Hu)] [Ch.ro 0 (Sl Aj Ah Ak) Ah] (fun n0 v L => ∃ (az1 : Option Addr), ∃ (cz2 : Nat), v = (Sl az1 r cz2) ∧ L = [Ch.own n0 n0 (Sl az1 r cz2) r]) := by
 refine cal2 (n := 58) Tryz.func70 rfl rfl rfl rfl ?_
 intro S0 σ0 n0 hn0 H
 unfold M.spec_addHit at h
 refine c_seq (rg (st_ex (ex_box (cs := [(I Di.1), (I Di.2)]) H hn0 rfl rfl) wn ?_))
 rintro _ σ2 ⟨b1, rfl, H, -⟩
 refine sa (.slice none 0 0) rfl (w_end (q_then (c_seq ?_)))
 revert h; refine br fun xs4 hx5 h => ?_
 have hc8 := H.cells 0 rfl
 have Hs := H
 refine rg2 (σ := σ2) (Nm := (Nat) × (Option Addr) × (Nat) × (Nat)) 5 [0, 2, 4] [[false, false, false], [true, false, false], [false, false, true], [true, true, false], [true, false, true], [true, true, true]] [[(0, 1), (2, 4)], [(0, 0), (1, 1), (2, 2), (4, 4)], [(1, 3), (4, 5)], [(0, 0), (1, 1), (3, 3)], [(0, 2), (1, 4), (3, 5)]] 5 [fun ((b3, a6, c7, b9) : (Nat) × (Option Addr) × (Nat) × (Nat)) => fun σm => Hp S0 σ0 σm [Ch.bx n0 b1 0 [(I Di.1), (I Di.2)] [] [], Ch.ro 0 (Sl Aj Ah Ak) Ah] ∧ Md (cov []) σ2 σm, fun ((b3, a6, c7, b9) : (Nat) × (Option Addr) × (Nat) × (Nat)) => fun σm => Hp S0 σ0 σm [Ch.own n0 n0 (Sl (some ⟨b3, 0, none⟩) ([] : List (Int × Int)) 0) ([] : List (Int × Int)), Ch.bx n0 b1 0 [(I Di.1), (I Di.2)] [] [], Ch.ro 0 (Sl Aj Ah Ak) Ah] ∧ Md (cov []) σ2 σm, fun ((b3, a6, c7, b9) : (Nat) × (Option Addr) × (Nat) × (Nat)) => fun σm => Hp S0 σ0 σm [Ch.own n0 n0 (Sl (some ⟨b9, 0, none⟩) ([(Di.1, Di.2)] : List (Int × Int)) 1) ([(Di.1, Di.2)] : List (Int × Int)), Ch.bx n0 b1 0 [(I Di.1), (I Di.2)] [] [], Ch.ro 0 (Sl Aj Ah Ak) Ah] ∧ Md (cov []) σ2 σm, fun ((b3, a6, c7, b9) : (Nat) × (Option Addr) × (Nat) × (Nat)) => fun σm => Hp S0 σ0 σm [Ch.own n0 n0 (Sl a6 xs4 c7) xs4, Ch.bx n0 b1 0 [(I Di.1), (I Di.2)] [] [], Ch.ro 0 (Sl Aj Ah Ak) Ah] ∧ Md (fun i => (cov []) i ∨ (fun b => blk (Sl (some ⟨b3, 0, none⟩) ([] : List (Int × Int)) 0) = some b) i) σ2 σm, fun ((b3, a6, c7, b9) : (Nat) × (Option Addr) × (Nat) × (Nat)) => fun σm => Hp S0 σ0 σm [Ch.own n0 n0 (Sl (some ⟨b9, 0, none⟩) ([(Di.1, Di.2)] : List (Int × Int)) 1) ([(Di.1, Di.2)] : List (Int × Int)), Ch.own n0 n0 (Sl (some ⟨b3, 0, none⟩) ([] : List (Int × Int)) 0) ([] : List (Int × Int)), Ch.bx n0 b1 0 [(I Di.1), (I Di.2)] [] [], Ch.ro 0 (Sl Aj Ah Ak) Ah] ∧ Md (cov []) σ2 σm, fun ((b3, a6, c7, b9) : (Nat) × (Option Addr) × (Nat) × (Nat)) => fun σm => Hp S0 σ0 σm [Ch.own n0 n0 (Sl (some ⟨b9, 0, none⟩) ([(Di.1, Di.2)] : List (Int × Int)) 1) ([(Di.1, Di.2)] : List (Int × Int)), Ch.own n0 n0 (Sl a6 xs4 c7) xs4, Ch.bx n0 b1 0 [(I Di.1), (I Di.2)] [] [], Ch.ro 0 (Sl Aj Ah Ak) Ah] ∧ Md (fun i => (cov []) i ∨ (fun b => blk (Sl (some ⟨b3, 0, none⟩) ([] : List (Int × Int)) 0) = some b) i) σ2 σm] [fun ((b3, a6, c7, b9) : (Nat) × (Option Addr) × (Nat) × (Nat)) => (Sl (some ⟨b3, 0, none⟩) ([] : List (Int × Int)) 0), fun ((b3, a6, c7, b9) : (Nat) × (Option Addr) × (Nat) × (Nat)) => (Sl Aj Ah Ak), fun ((b3, a6, c7, b9) : (Nat) × (Option Addr) × (Nat) × (Nat)) => (Sl a6 xs4 c7), fun ((b3, a6, c7, b9) : (Nat) × (Option Addr) × (Nat) × (Nat)) => (.agg #[(I Di.1), (I Di.2)]), fun ((b3, a6, c7, b9) : (Nat) × (Option Addr) × (Nat) × (Nat)) => (Sl (some ⟨b9, 0, none⟩) ([(Di.1, Di.2)] : List (Int × Int)) 1)] (0, none, 0, 0) (by kernel_rfl) (by kernel_rfl) ?_ ?_ ?_
 ·intro σm m0
  exact ⟨H.grow (m0.mono fun _ h => h.elim), m0⟩
 ·refine all_cons (by
    refine ⟨?_, ?_⟩
    ·rintro ⟨b3, a6, c7, b9⟩ ρ σm hJ hoff hdep
     obtain ⟨H, m⟩ := id hJ
     refine dp_ex wn (ex_buildSlice (el := n0) (xs := ([] : List (Int × Int))) (ps := []) (cs := []) H hn0 Tryz.underlying27 ti44 rfl rfl (by kernel_rfl) (.nil) rfl) ?_
     rintro _ σq ⟨b3x, rfl, H2, m2⟩
     exact ⟨_, (b3x, a6, c7, b9), rfl, rfl, ⟨H2.sel' [0, 1, 2] rfl rfl, m.comp0 m2⟩, stab [1, 3, 4] (by kernel_rfl) ⟨rfl, rfl, rfl, trivial⟩⟩
    refine ⟨?_, ?_⟩
    ·rintro ⟨b3, a6, c7, b9⟩ ρ σm hJ hoff hdep
     obtain ⟨H, m⟩ := id hJ
     refine dp_ex wn (ex_buildSlice (el := n0) (xs := ([] : List (Int × Int))) (ps := []) (cs := []) H hn0 Tryz.underlying27 ti44 rfl rfl (by kernel_rfl) (.nil) rfl) ?_
     rintro _ σq ⟨b3x, rfl, H2, m2⟩
     exact ⟨_, (b3x, a6, c7, b9), rfl, rfl, ⟨H2.sel' [1, 0, 2, 3] rfl rfl, m.comp0 m2⟩, stab [1, 3, 4] (by kernel_rfl) ⟨rfl, rfl, rfl, trivial⟩⟩
    trivial) ?_
  refine ac rfl (by
    intro k; rintro ⟨b3, a6, c7, b9⟩ ρ σm hJ hoff hdep
    have e0 := look_off (N := 58) (hoff 0 rfl) rfl
    exact dp_v (v := (Sl Aj Ah Ak)) wn (rv_move e0) rfl hJ) ?_
  refine all_cons (by
    refine ⟨?_, ?_⟩
    ·rintro ⟨b3, a6, c7, b9⟩ ρ σm hJ hoff hdep
     have e10 := hdep 0 rfl rfl 10 rfl
     have e11 := hdep 1 rfl rfl 11 rfl
     obtain ⟨H, m⟩ := id hJ
     refine dp_ex wn (ex_append H (i := 0) rfl Tryz.underlying27 Tryz.underlying27 ti44 rfl rfl (by decide) ((H.ro 2 rfl).rd.sc) hx5 hn0 e10 e11) ?_
     rintro _ σq ⟨a6x, c7x, rfl, H2, m2⟩
     exact ⟨_, (b3, a6x, c7x, b9), rfl, rfl, ⟨H2.sel' [0, 1, 2] rfl rfl, m.comp m2⟩, stab [0, 1, 3, 4] (by kernel_rfl) ⟨rfl, rfl, rfl, rfl, trivial⟩⟩
    refine ⟨?_, ?_⟩
    ·rintro ⟨b3, a6, c7, b9⟩ ρ σm hJ hoff hdep
     have e10 := hdep 0 rfl rfl 10 rfl
     have e11 := hdep 1 rfl rfl 11 rfl
     obtain ⟨H, m⟩ := id hJ
     refine dp_ex wn (ex_append H (i := 1) rfl Tryz.underlying27 Tryz.underlying27 ti44 rfl rfl (by decide) ((H.ro 3 rfl).rd.sc) hx5 hn0 e10 e11) ?_
     rintro _ σq ⟨a6x, c7x, rfl, H2, m2⟩
     exact ⟨_, (b3, a6x, c7x, b9), rfl, rfl, ⟨H2.sel' [1, 0, 2, 3] rfl rfl, m.comp m2⟩, stab [0, 1, 3, 4] (by kernel_rfl) ⟨rfl, rfl, rfl, rfl, trivial⟩⟩
    trivial) ?_
  refine all_cons (by
    refine ⟨?_, ?_⟩
    ·rintro ⟨b3, a6, c7, b9⟩ ρ σm hJ hoff hdep
     have e4 := look_off (N := 58) (hoff 4 rfl) rfl
     obtain ⟨H, m⟩ := id hJ
     have hc8 := H.cells 0 rfl
     exact dp_v (v := (.agg #[(I Di.1), (I Di.2)])) wn (rv_load (cs := [(I Di.1), (I Di.2)]) Tryz.underlying44 rfl ti44 e4 rfl hc8) rfl hJ
    refine ⟨?_, ?_⟩
    ·rintro ⟨b3, a6, c7, b9⟩ ρ σm hJ hoff hdep
     have e4 := look_off (N := 58) (hoff 4 rfl) rfl
     obtain ⟨H, m⟩ := id hJ
     have hc8 := H.cells 1 rfl
     exact dp_v (v := (.agg #[(I Di.1), (I Di.2)])) wn (rv_load (cs := [(I Di.1), (I Di.2)]) Tryz.underlying44 rfl ti44 e4 rfl hc8) rfl hJ
    refine ⟨?_, ?_⟩
    ·rintro ⟨b3, a6, c7, b9⟩ ρ σm hJ hoff hdep
     have e4 := look_off (N := 58) (hoff 4 rfl) rfl
     obtain ⟨H, m⟩ := id hJ
     have hc8 := H.cells 1 rfl
     exact dp_v (v := (.agg #[(I Di.1), (I Di.2)])) wn (rv_load (cs := [(I Di.1), (I Di.2)]) Tryz.underlying44 rfl ti44 e4 rfl hc8) rfl hJ
    trivial) ?_
  refine all_cons (by
    refine ⟨?_, ?_⟩
    ·rintro ⟨b3, a6, c7, b9⟩ ρ σm hJ hoff hdep
     have e13 : look 58 ρ 13 = (.agg #[(I Di.1), (I Di.2)]) := hdep 3 rfl rfl 13 rfl
     obtain ⟨H, m⟩ := id hJ
     refine dp_ex wn (ex_buildSlice (el := n0) (xs := ([(Di.1, Di.2)] : List (Int × Int))) (ps := [(0, (.agg #[(I Di.1), (I Di.2)]))]) (cs := [(I Di.1), (I Di.2)]) H hn0 Tryz.underlying27 ti44 rfl (by show [(0, look 58 ρ 13)] = _; rw [e13]) (by kernel_rfl) (.cons (c := [(I Di.1), (I Di.2)]) ⟨[(I Di.1)], [(I Di.2)], rfl, rfl, rfl⟩ (.nil)) rfl) ?_
     rintro _ σq ⟨b9x, rfl, H2, m2⟩
     exact ⟨_, (b3, a6, c7, b9x), rfl, rfl, ⟨H2.sel' [0, 1, 2] rfl rfl, m.comp0 m2⟩, stab [0, 1, 2, 3] (by kernel_rfl) ⟨rfl, rfl, rfl, rfl, trivial⟩⟩
    refine ⟨?_, ?_⟩
    ·rintro ⟨b3, a6, c7, b9⟩ ρ σm hJ hoff hdep
     have e13 : look 58 ρ 13 = (.agg #[(I Di.1), (I Di.2)]) := hdep 3 rfl rfl 13 rfl
     obtain ⟨H, m⟩ := id hJ
     refine dp_ex wn (ex_buildSlice (el := n0) (xs := ([(Di.1, Di.2)] : List (Int × Int))) (ps := [(0, (.agg #[(I Di.1), (I Di.2)]))]) (cs := [(I Di.1), (I Di.2)]) H hn0 Tryz.underlying27 ti44 rfl (by show [(0, look 58 ρ 13)] = _; rw [e13]) (by kernel_rfl) (.cons (c := [(I Di.1), (I Di.2)]) ⟨[(I Di.1)], [(I Di.2)], rfl, rfl, rfl⟩ (.nil)) rfl) ?_
     rintro _ σq ⟨b9x, rfl, H2, m2⟩
     exact ⟨_, (b3, a6, c7, b9x), rfl, rfl, ⟨H2.sel' [0, 1, 2, 3] rfl rfl, m.comp0 m2⟩, stab [0, 1, 2, 3] (by kernel_rfl) ⟨rfl, rfl, rfl, rfl, trivial⟩⟩
    refine ⟨?_, ?_⟩
    ·rintro ⟨b3, a6, c7, b9⟩ ρ σm hJ hoff hdep
     have e13 : look 58 ρ 13 = (.agg #[(I Di.1), (I Di.2)]) := hdep 3 rfl rfl 13 rfl
     obtain ⟨H, m⟩ := id hJ
     refine dp_ex wn (ex_buildSlice (el := n0) (xs := ([(Di.1, Di.2)] : List (Int × Int))) (ps := [(0, (.agg #[(I Di.1), (I Di.2)]))]) (cs := [(I Di.1), (I Di.2)]) H hn0 Tryz.underlying27 ti44 rfl (by show [(0, look 58 ρ 13)] = _; rw [e13]) (by kernel_rfl) (.cons (c := [(I Di.1), (I Di.2)]) ⟨[(I Di.1)], [(I Di.2)], rfl, rfl, rfl⟩ (.nil)) rfl) ?_
     rintro _ σq ⟨b9x, rfl, H2, m2⟩
     exact ⟨_, (b3, a6, c7, b9x), rfl, rfl, ⟨H2.sel' [0, 1, 2, 3] rfl rfl, m.comp0 m2⟩, stab [0, 1, 2, 3] (by kernel_rfl) ⟨rfl, rfl, rfl, rfl, trivial⟩⟩
    trivial) ?_
  exact all_nil
 ·rintro ⟨b3, a6, c7, b9⟩ ρ σ10 hJ hoff hrel
  have e2 := look_off (N := 58) (hoff 2 rfl) rfl
  have e12 := hrel 2 rfl 12 rfl
  have e14 := hrel 4 rfl 14 rfl
  obtain ⟨H, -⟩ := (show Hp S0 σ0 σ10 [Ch.own n0 n0 (Sl (some ⟨b9, 0, none⟩) ([(Di.1, Di.2)] : List (Int × Int)) 1) ([(Di.1, Di.2)] : List (Int × Int)), Ch.own n0 n0 (Sl a6 xs4 c7) xs4, Ch.bx n0 b1 0 [(I Di.1), (I Di.2)] [] [], Ch.ro 0 (Sl Aj Ah Ak) Ah] ∧ Md (fun i => (cov []) i ∨ (fun b => blk (Sl (some ⟨b3, 0, none⟩) ([] : List (Int × Int)) 0) = some b) i) σ2 σ10 from hJ)
  clear hJ Hs
  rw [fr_lookL (L := [(2, (I Hu)), (12, (Sl a6 xs4 c7)), (14, (Sl (some ⟨b9, 0, none⟩) ([(Di.1, Di.2)] : List (Int × Int)) 1))]) ⟨e2, e12, e14, trivial⟩]
  clear hoff hrel e2 e12 e14
  revert h; refine br fun xs11 hx12 h => ?_
  refine st_ex (ex_append H (i := 1) rfl Tryz.underlying27 Tryz.underlying27 ti44 rfl rfl (by decide) (H.own 0 rfl).rd hx12 hn0 rfl rfl) wn ?_
  rintro _ σ15 ⟨a13, c14, rfl, H, -⟩
  refine sa (Sl a13 xs11 c14) rfl (w_end (q_then (c_seq (c_seq (rg (sm (Sl a13 xs11 c14) rfl (st (v := (I (xs11.length : Int))) (rv_len Tryz.underlying27 rfl) (st (v := (I (w64 ((xs11.length : Int) - 1)))) (rv_sub (a := (xs11.length : Int)) (b := 1) rfl rfl) (sa (I (w64 ((xs11.length : Int) - 1))) rfl (w_end (q_then ?_)))))))))))
  obtain ⟨o16, hj, h'⟩ := bind_some h
  clear h
  refine c_cut (fun e a w => e = .normal ∧ ∃ (ρ : Nat → Value) (σ : St), a = fr 58 (updL ρ [(2, (I Hu)), (7, (Sl a13 o16 c14))]) ∧ w = σ.w ∧ Hp S0 σ0 σ [Ch.own n0 n0 (Sl a13 o16 c14) o16] ∧ o16.length = xs11.length) ?_ ?_
  ·clear h'
   rename _ = some o16 => h
   refine c_blk (wp_loopM _ h (fun s17 a w => ∃ (ρ : Nat → Value) (σ : St), a = fr 58 (updL ρ [(2, (I Hu)), (7, (Sl a13 s17.1 c14)), (8, (I s17.2))]) ∧ w = σ.w ∧ Hp S0 σ0 σ [Ch.own n0 n0 (Sl a13 s17.1 c14) s17.1] ∧ s17.1.length = xs11.length) ⟨_, σ15, fr_join ⟨rfl, rfl, rfl, trivial⟩, rfl, H.sel' [0] rfl rfl, rfl⟩ ?_)
   clear h H
   rintro s17 a w o ⟨ρ, σ18, rfl, rfl, H, hn19⟩ h hres
   refine c_seq (c_seq ?_)
   obtain ⟨o20, hj, h'⟩ := bind_some h
   clear h
   refine c_cut (fun e a w => e = .normal ∧ ∃ (ρ : Nat → Value) (σ : St), a = fr 58 (updL ρ [(2, (I Hu)), (7, (Sl a13 s17.1 c14)), (8, (I s17.2)), (32, (B o20))]) ∧ w = σ.w ∧ Hp S0 σ0 σ [Ch.own n0 n0 (Sl a13 s17.1 c14) s17.1]) ?_ ?_
   ·clear h'
    rename _ = some o20 => h
    refine rgP (σ := σ18) 12 (by kernel_rfl) (by kernel_rfl) (by kernel_rfl) ?_
    refine sq (v := (I s17.2)) (rv_move rfl) (sq (v := (B (decide (0 < s17.2)))) (rv_gtr (a := s17.2) (b := 0) rfl rfl) (sq (v := (B (decide (0 < s17.2)))) (rv_move rfl) ?_))
    rcases Bool.eq_false_or_eq_true (decide (0 < s17.2)) with hb21 | hb21
    ·replace h := bif_t hb21 h
     refine sq_g (v := (Sl a13 s17.1 c14)) (congrArg some hb21) (rv_move rfl) (sq_g (v := (I s17.2)) (congrArg some hb21) (rv_move rfl) ?_)
     revert h; refine br fun x22 hx23 h => ?_
     obtain ⟨b25, o26, hi24, -⟩ := (H.own 0 rfl).ix hx23
     refine sq_g (v := (pt b25 o26)) (congrArg some hb21) (rv_ix Tryz.underlying27 ti44 rfl rfl hi24) ?_
     obtain ⟨_, ⟨_, _, rfl, rfl, rfl⟩, hl27, hc28⟩ := ((H.own 0 rfl).at hx23 hi24).cells
     refine sq_g (v := (.agg #[(I x22.1), (I x22.2)])) (congrArg some hb21) (rv_load Tryz.underlying44 rfl ti44 rfl hl27 hc28) (sq_g (v := (Sl a13 s17.1 c14)) (congrArg some hb21) (rv_move rfl) (sq_g (v := (I s17.2)) (congrArg some hb21) (rv_move rfl) (sq_g (v := (I (w64 (s17.2 - 1)))) (congrArg some hb21) (rv_sub (a := s17.2) (b := 1) rfl rfl) ?_)))
     revert h; refine br fun x29 hx30 h => ?_
     obtain ⟨b32, o33, hi31, -⟩ := (H.own 0 rfl).ix hx30
     refine sq_g (v := (pt b32 o33)) (congrArg some hb21) (rv_ix Tryz.underlying27 ti44 rfl rfl hi31) ?_
     obtain ⟨_, ⟨_, _, rfl, rfl, rfl⟩, hl34, hc35⟩ := ((H.own 0 rfl).at hx30 hi31).cells
     refine sq_g (v := (.agg #[(I x29.1), (I x29.2)])) (congrArg some hb21) (rv_load Tryz.underlying44 rfl ti44 rfl hl34 hc35) (sq_end ?_)
     intro σ36 hm37
     replace H := H.grow (hm37.mono fun _ h => h); clear hm37
     revert h; refine br fun r38 hx39 h => ?_
     have hc40 := c_spec_nearer hx39
     refine st_call (cx_call hc40 (ent_f hc40.fn rfl) hn0 (H.sel' [0] rfl rfl : Hp S0 σ0 _ ([] ++ _))) (wanted_yes rfl (by exact (congrArg some hb21))) ?_
     rintro _ σ41 ⟨_, ⟨rfl, rfl⟩, H, -⟩
     replace H : Hp _ _ _ [_] := H
     refine st (v := (B r38)) (rv_pick_t (congrArg B hb21) rfl) (w_end ?_)
     obtain rfl := sj h
     exact ⟨rfl, _, σ41, fr_join ⟨rfl, rfl, rfl, rfl, trivial⟩, rfl, H.sel' [0] rfl rfl⟩
    ·replace h := bif_f hb21 h
     refine sq_skip (congrArg some hb21) (sq_skip (congrArg some hb21) (sq_skip (congrArg some hb21) (sq_skip (congrArg some hb21) (sq_skip (congrArg some hb21) (sq_skip (congrArg some hb21) (sq_skip (congrArg some hb21) (sq_skip (congrArg some hb21) (sq_skip (congrArg some hb21) (sq_end ?_)))))))))
     intro σ42 hm43
     replace H := H.grow (hm43.mono fun _ h => h); clear hm43
     refine st_skip (congrArg some hb21) (st (v := (B false)) (rv_pick_f (congrArg B hb21) rfl) (w_end ?_))
     obtain rfl := sj h
     exact ⟨rfl, _, σ42, fr_join ⟨rfl, rfl, rfl, rfl, trivial⟩, rfl, H.sel' [0] rfl rfl⟩
   ·clear hj
    have h := h'
    clear h' H
    rintro e a w ⟨rfl, ρ, σ44, rfl, rfl, H⟩
    refine q_then ?_
    refine cd_cond o20 rfl (fun hb45 => ?_) (fun hb45 => ?_)
    ·replace h := bif_t hb45 h
     refine c_skip (q_then (c_seq (c_blk (c_seq (rg (sm (Sl a13 s17.1 c14) rfl (sm (I s17.2) rfl ?_)))))))
     revert h; refine br fun x46 hx47 h => ?_
     obtain ⟨b49, o50, hi48, -⟩ := (H.own 0 rfl).ix hx47
     refine st (v := (pt b49 o50)) (rv_ix Tryz.underlying27 ti44 rfl rfl hi48) ?_
     obtain ⟨_, ⟨_, _, rfl, rfl, rfl⟩, hl51, hc52⟩ := ((H.own 0 rfl).at hx47 hi48).cells
     refine st (v := (.agg #[(I x46.1), (I x46.2)])) (rv_load Tryz.underlying44 rfl ti44 rfl hl51 hc52) (st_ex (ex_alloc (cs := [(I 0), (I 0)]) H hn0 ti44 rfl) wn ?_)
     rintro _ σ54 ⟨b53, rfl, H, -⟩
     refine st_exS (ex_store_box (k := 0) (cs := [(I 0), (I 0)]) (vs := [(I x46.1), (I x46.2)]) (cs' := [(I x46.1), (I x46.2)]) H (i := 0) rfl ti44 rfl rfl rfl rfl rfl (Nat.le_of_ble_eq_true rfl) (by simp [plain]) rfl) wn ?_
     rintro σ55 ⟨H, -⟩
     refine w_end (q_then (c_seq (rg (sm (Sl a13 s17.1 c14) rfl (sm (I s17.2) rfl (sm (Sl a13 s17.1 c14) rfl (sm (I s17.2) rfl (st (v := (I (w64 (s17.2 - 1)))) (rv_sub (a := s17.2) (b := 1) rfl rfl) ?_))))))))
     revert h; refine br fun x56 hx57 h => ?_
     obtain ⟨b59, o60, hi58, -⟩ := (H.own 1 rfl).ix hx57
     refine st (v := (pt b59 o60)) (rv_ix Tryz.underlying27 ti44 rfl rfl hi58) ?_
     obtain ⟨_, ⟨_, _, rfl, rfl, rfl⟩, hl61, hc62⟩ := ((H.own 1 rfl).at hx57 hi58).cells
     refine st (v := (.agg #[(I x56.1), (I x56.2)])) (rv_load Tryz.underlying44 rfl ti44 rfl hl61 hc62) ?_
     revert h; refine br fun x63 hx64 h => ?_
     obtain ⟨b66, o67, hi65, -⟩ := (H.own 1 rfl).ix hx64
     refine st (v := (pt b66 o67)) (rv_ix Tryz.underlying27 ti44 rfl rfl hi65) ?_
     refine st_exS (ex_store_own (e' := (x56.1, x56.2)) (vs := [(I x56.1), (I x56.2)]) (k := 0) H (i := 1) rfl ti44 hx64 hi65 rfl rfl rfl rfl rfl (Nat.le_of_ble_eq_true rfl) (by simp [plain]) (by rintro _ ⟨_, _, rfl, rfl, rfl⟩; exact ⟨[(I x56.1)], [(I x56.2)], rfl, rfl, rfl⟩)) wn ?_
     rintro σ68 ⟨H, -⟩
     have hsl : (Sl a13 s17.1 c14) = (Sl a13 (s17.1.set s17.2.toNat (x56.1, x56.2)) c14) := sl_len List.length_set.symm
     rw [hsl]; rw [hsl] at H; clear hsl
     refine w_end (q_then (rg (sm (Sl a13 (s17.1.set s17.2.toNat (x56.1, x56.2)) c14) rfl (sm (I s17.2) rfl (st (v := (I (w64 (s17.2 - 1)))) (rv_sub (a := s17.2) (b := 1) rfl rfl) ?_)))))
     have hc69 := H.cells 1 rfl
     refine st (v := (.agg #[(I x46.1), (I x46.2)])) (rv_load (cs := [(I x46.1), (I x46.2)]) Tryz.underlying44 rfl ti44 rfl rfl hc69) ?_
     revert h; refine br fun x70 hx71 h => ?_
     obtain ⟨b73, o74, hi72, -⟩ := (H.own 0 rfl).ix hx71
     refine st (v := (pt b73 o74)) (rv_ix Tryz.underlying27 ti44 rfl rfl hi72) ?_
     refine st_exS (ex_store_own (e' := (x46.1, x46.2)) (vs := [(I x46.1), (I x46.2)]) (k := 0) H (i := 0) rfl ti44 hx71 hi72 rfl rfl rfl rfl rfl (Nat.le_of_ble_eq_true rfl) (by simp [plain]) (by rintro _ ⟨_, _, rfl, rfl, rfl⟩; exact ⟨[(I x46.1)], [(I x46.2)], rfl, rfl, rfl⟩)) wn ?_
     rintro σ75 ⟨H, -⟩
     have hsl : (Sl a13 (s17.1.set s17.2.toNat (x56.1, x56.2)) c14) = (Sl a13 ((s17.1.set s17.2.toNat (x56.1, x56.2)).set (w64 (s17.2 - 1)).toNat (x46.1, x46.2)) c14) := sl_len List.length_set.symm
     rw [hsl]; rw [hsl] at H; clear hsl
     refine w_end (q_blk (q_then (rg (sm (I s17.2) rfl (st (v := (I (w64 (s17.2 - 1)))) (rv_sub (a := s17.2) (b := 1) rfl rfl) (sa (I (w64 (s17.2 - 1))) rfl (w_end (q_then ?_))))))))
     obtain rfl := sj h
     exact ⟨_, rfl, _, σ75, fr_join ⟨rfl, rfl, rfl, trivial⟩, rfl, H.sel' [0] rfl rfl, (List.length_set.trans (List.length_set.trans hn19))⟩
    ·replace h := bif_f hb45 h
     refine c_exit (q_then_x (q_then_x (q_blk_hit ?_)))
     obtain rfl := sj h
     obtain rfl := hres _ rfl
     exact ⟨rfl, _, σ44, fr_join ⟨rfl, rfl, trivial⟩, rfl, H.sel' [0] rfl rfl, hn19⟩
  ·clear hj
   have h := h'
   clear h' H
   rintro e a w ⟨rfl, ρ, σ76, rfl, rfl, H, hn77⟩
   refine q_then (c_seq (rg (sm (Sl a13 o16 c14) rfl (sm (I Hu) rfl (sm (Sl a13 o16 c14) rfl (st (v := (I (o16.length : Int))) (rv_len Tryz.underlying27 rfl) (st (v := (I (min Hu (o16.length : Int)))) (rv_min rfl rfl) ?_)))))))
   revert h; refine br fun xs78 hx79 h => ?_
   obtain ⟨a80, c81, hs82, hR83, hb84⟩ := (H.own 0 rfl).slice hx79
   replace H := (H.front (i := 0) rfl).turn (d := Ch.own n0 n0 (Sl a80 xs78 c81) xs78) (fun _ => hR83) hb84; clear hR83 hb84
   refine st (v := (Sl a80 xs78 c81)) (rv_slice_h Tryz.underlying27 ti44 hs82 rfl rfl) (sa (Sl a80 xs78 c81) rfl (w_end (q_then (c_ret ?_))))
   obtain rfl := sj h
   exact fin_ret (v := (Sl a80 xs78 c81)) (results_ok Tryz.results70 (res_tmp (v := (Sl a80 xs78 c81)) rfl res_nil) rfl) ⟨a80, c81, rfl, rfl⟩ (H.sel' [0] rfl rfl)

theorem c_spec_size {Dh : Int}  {r : Int} (h : M.spec_size Dh = some r) :
    Cal2 Tryz.prog 116 [(I Dh)] [] (fun n0 v L => v = (I r) ∧ L = []) := by
 refine cal2 (n := 7) Tryz.func116 rfl rfl rfl rfl ?_
 intro S0 σ0 n0 hn0 H
 unfold M.spec_size at h
 refine c_seq (rg (sa (I 0) rfl (w_end (q_then (c_seq (rg (sm (I Dh) rfl (sm (I Dh) rfl (st (v := (I (w64 (0 - Dh)))) (rv_neg (a := Dh) rfl) (st (v := (I (max Dh (w64 (0 - Dh))))) (rv_max rfl rfl) (sa (I (max Dh (w64 (0 - Dh)))) rfl ?_)))))))))))
 refine w_end (q_then (c_ret ?_))
 obtain rfl := sj h
 exact fin_ret (v := (I (max Dh (w64 (0 - Dh))))) (results_ok Tryz.results116 (res_tmp (v := (I (max Dh (w64 (0 - Dh))))) rfl res_nil) rfl) ⟨rfl, rfl⟩ (H.sel' [] rfl rfl)

theorem c_spec_toInt {Bu : Bool}  {r : Int} (h : M.spec_toInt Bu = some r) :
    Cal2 Tryz.prog 117 [(B Bu)] [] (fun n0 v L => v = (I r) ∧ L = []) := by
 refine cal2 (n := 4) Tryz.func117 rfl rfl rfl rfl ?_
 intro S0 σ0 n0 hn0 H
 unfold M.spec_toInt at h
 refine c_seq (rg (sa (I 0) rfl (w_end (q_then (c_seq (c_seq (rg (sm (B Bu) rfl (w_end (q_then ?_))))))))))
 refine cd_cond Bu rfl (fun hb1 => ?_) (fun hb1 => ?_)
 ·replace h := bif_t hb1 h
  refine c_seq (rg (sa (I 1) rfl (w_end (q_then (c_ret (q_then_r ?_))))))
  obtain rfl := sj h
  exact fin_ret (v := (I 1)) (results_ok Tryz.results117 (res_tmp (v := (I 1)) rfl res_nil) rfl) ⟨rfl, rfl⟩ (H.sel' [] rfl rfl)
 ·replace h := bif_f hb1 h
  refine c_skip (q_then (c_seq (rg (sa (I 0) rfl (w_end (q_then (c_ret ?_)))))))
  obtain rfl := sj h
  exact fin_ret (v := (I 0)) (results_ok Tryz.results117 (res_tmp (v := (I 0)) rfl res_nil) rfl) ⟨rfl, rfl⟩ (H.sel' [] rfl rfl)

theorem c_spec_dist {Cl : Int} {Gs : List Int} {Gt : List Int} {Gu : Option Addr} {Gv : Nat} {Gw : Option Addr} {Gx : Nat} {r : Int} (h : M.spec_dist Cl Gs Gt = some r) :
    Cal2 Tryz.prog 71 [(I Cl), (Sl Gu Gs Gv), (Sl Gw Gt Gx)] [Ch.ro 0 (Sl Gu Gs Gv) Gs, Ch.ro 0 (Sl Gw Gt Gx) Gt] (fun n0 v L => v = (I r) ∧ L = []) := by
 refine cal2 (n := 50) Tryz.func71 rfl rfl rfl rfl ?_
 intro S0 σ0 n0 hn0 H
 unfold M.spec_dist at h
 refine c_seq (rg (sa (I 0) rfl (w_end (q_then (c_seq (rg (sa (I 0) rfl (w_end (q_then (c_seq (c_seq ?_)))))))))))
 refine rg (sa (I 0) rfl (w_end (q_then ?_)))
 obtain ⟨o1, hj, h'⟩ := bind_some h
 clear h
 refine c_cut (fun e a w => e = .normal ∧ ∃ (ρ : Nat → Value) (σ : St), a = fr 50 (updL ρ [(7, (I o1))]) ∧ w = σ.w ∧ Hp S0 σ0 σ []) ?_ ?_
 ·clear h'
  rename _ = some o1 => h
  refine c_blk (wp_loopM _ h (fun s2 a w => ∃ (ρ : Nat → Value) (σ : St), a = fr 50 (updL ρ [(0, (I Cl)), (1, (Sl Gu Gs Gv)), (2, (Sl Gw Gt Gx)), (7, (I s2.1)), (8, (I s2.2))]) ∧ w = σ.w ∧ Hp S0 σ0 σ [Ch.ro 0 (Sl Gu Gs Gv) Gs, Ch.ro 0 (Sl Gw Gt Gx) Gt]) ⟨_, σ0, fr_join ⟨rfl, rfl, rfl, rfl, rfl, trivial⟩, rfl, H.sel' [0, 1] rfl rfl⟩ ?_)
  clear h H
  rintro s2 a w o ⟨ρ, σ3, rfl, rfl, H⟩ h hres
  refine c_seq (c_seq (rg (sm (I s2.2) rfl (sm (Sl Gu Gs Gv) rfl (st (v := (I (Gs.length : Int))) (rv_len Tryz.underlying24 rfl) (st (v := (B (decide (s2.2 < (Gs.length : Int))))) (rv_lss (a := s2.2) (b := (Gs.length : Int)) rfl rfl) (w_end (q_then ?_))))))))
  refine cd_cond (decide (s2.2 < (Gs.length : Int))) rfl (fun hb4 => ?_) (fun hb4 => ?_)
  ·replace h := bif_t hb4 h
   refine c_skip (q_then (c_seq ?_))
   obtain ⟨o5, hj, h'⟩ := bind_some h
   clear h
   refine c_cut (fun e a w => e = .normal ∧ ∃ (ρ : Nat → Value) (σ : St), a = fr 50 (updL ρ [(0, (I Cl)), (1, (Sl Gu Gs Gv)), (2, (Sl Gw Gt Gx)), (7, (I o5)), (8, (I s2.2))]) ∧ w = σ.w ∧ Hp S0 σ0 σ [Ch.ro 0 (Sl Gu Gs Gv) Gs, Ch.ro 0 (Sl Gw Gt Gx) Gt]) ?_ ?_
   ·clear h'
    rename _ = some o5 => h
    refine c_blk (c_seq ?_)
    refine rgP (σ := σ3) 8 (by kernel_rfl) (by kernel_rfl) (by kernel_rfl) ?_
    refine sq (v := (Sl Gu Gs Gv)) (rv_move rfl) (sq (v := (I s2.2)) (rv_move rfl) ?_)
    revert h; refine br fun x6 hx7 h => ?_
    obtain ⟨b9, o10, hi8, -⟩ := (H.ro 0 rfl).ix hx7
    refine sq (v := (pt b9 o10)) (rv_ix Tryz.underlying24 ti3 rfl rfl hi8) ?_
    have hc11 := ((H.ro 0 rfl).at hx7 hi8).int
    refine sq (v := (I x6)) (rv_load1 Tryz.underlying3 rfl rfl hc11) (sq (v := (Sl Gw Gt Gx)) (rv_move rfl) (sq (v := (I s2.2)) (rv_move rfl) ?_))
    revert h; refine br fun x12 hx13 h => ?_
    obtain ⟨b15, o16, hi14, -⟩ := (H.ro 1 rfl).ix hx13
    refine sq (v := (pt b15 o16)) (rv_ix Tryz.underlying24 ti3 rfl rfl hi14) ?_
    have hc17 := ((H.ro 1 rfl).at hx13 hi14).int
    refine sq (v := (I x12)) (rv_load1 Tryz.underlying3 rfl rfl hc17) (sq_end ?_)
    intro σ18 hm19
    replace H := H.grow (hm19.mono fun _ h => h); clear hm19
    refine st (v := (I (w64 (x6 - x12)))) (rv_sub (a := x6) (b := x12) rfl rfl) ?_
    revert h; refine br fun r20 hx21 h => ?_
    have hc22 := c_spec_size hx21
    refine st_call (cx_call hc22 (ent_f hc22.fn rfl) hn0 (H.sel' [0, 1] rfl rfl : Hp S0 σ0 _ ([] ++ _))) wn ?_
    rintro _ σ23 ⟨_, ⟨rfl, rfl⟩, H, -⟩
    replace H : Hp _ _ _ [_, _] := H
    refine sa (I r20) rfl (w_end (q_then (c_seq (rg (sm (I Cl) rfl (w_end (q_then (c_blk (c_seq (rg (st (v := (B (Cl == 1))) (rv_eql (a := Cl) (b := 1) rfl rfl) ?_)))))))))))
    refine sa (B (Cl == 1)) rfl (w_end (q_then ?_))
    refine cd_cond (Cl == 1) rfl (fun hb24 => ?_) (fun hb24 => ?_)
    ·replace h := bif_t hb24 h
     refine rg (sm (I s2.1) rfl (sm (I r20) rfl (st (v := (I (w64 (s2.1 + r20)))) (rv_add (a := s2.1) (b := r20) rfl rfl) (sa (I (w64 (s2.1 + r20))) rfl (w_end (q_blk (q_blk ?_)))))))
     obtain rfl := sj h
     exact ⟨rfl, _, σ23, fr_join ⟨rfl, rfl, rfl, rfl, rfl, trivial⟩, rfl, H.sel' [0, 1] rfl rfl⟩
    ·replace h := bif_f hb24 h
     refine c_seq (rg (st (v := (B (Cl == 2))) (rv_eql (a := Cl) (b := 2) rfl rfl) (sa (B (Cl == 2)) rfl (w_end (q_then ?_)))))
     refine cd_cond (Cl == 2) rfl (fun hb25 => ?_) (fun hb25 => ?_)
     ·replace h := bif_t hb25 h
      refine rg (sm (I s2.1) rfl (sm (I r20) rfl (st (v := (I (max s2.1 r20))) (rv_max rfl rfl) (sa (I (max s2.1 r20)) rfl (w_end (q_blk (q_blk ?_)))))))
      obtain rfl := sj h
      exact ⟨rfl, _, σ23, fr_join ⟨rfl, rfl, rfl, rfl, rfl, trivial⟩, rfl, H.sel' [0, 1] rfl rfl⟩
     ·replace h := bif_f hb25 h
      refine c_seq (rg (st (v := (B (Cl == 3))) (rv_eql (a := Cl) (b := 3) rfl rfl) (sa (B (Cl == 3)) rfl (w_end (q_then ?_)))))
      refine cd_cond (Cl == 3) rfl (fun hb26 => ?_) (fun hb26 => ?_)
      ·replace h := bif_t hb26 h
       refine rg (sm (I s2.1) rfl (sm (I r20) rfl (sm (I r20) rfl (st (v := (I (w64 (r20 * r20)))) (rv_mul (a := r20) (b := r20) rfl rfl) (st (v := (I (w64 (s2.1 + (w64 (r20 * r20)))))) (rv_add (a := s2.1) (b := (w64 (r20 * r20))) rfl rfl) (sa (I (w64 (s2.1 + (w64 (r20 * r20))))) rfl (w_end (q_blk (q_blk ?_)))))))))
       obtain rfl := sj h
       exact ⟨rfl, _, σ23, fr_join ⟨rfl, rfl, rfl, rfl, rfl, trivial⟩, rfl, H.sel' [0, 1] rfl rfl⟩
      ·replace h := bif_f hb26 h
       refine rg (sm (I s2.1) rfl (sm (I r20) rfl (st (v := (B (decide (0 < r20)))) (rv_gtr (a := r20) (b := 0) rfl rfl) ?_)))
       revert h; refine br fun r27 hx28 h => ?_
       have hc29 := c_spec_toInt hx28
       refine st_call (cx_call hc29 (ent_f hc29.fn rfl) hn0 (H.sel' [0, 1] rfl rfl : Hp S0 σ0 _ ([] ++ _))) wn ?_
       rintro _ σ30 ⟨_, ⟨rfl, rfl⟩, H, -⟩
       replace H : Hp _ _ _ [_, _] := H
       refine st (v := (I (w64 (s2.1 + r27)))) (rv_add (a := s2.1) (b := r27) rfl rfl) (sa (I (w64 (s2.1 + r27))) rfl (w_end (q_blk (q_blk ?_))))
       obtain rfl := sj h
       exact ⟨rfl, _, σ30, fr_join ⟨rfl, rfl, rfl, rfl, rfl, trivial⟩, rfl, H.sel' [0, 1] rfl rfl⟩
   ·clear hj
    have h := h'
    clear h' H
    rintro e a w ⟨rfl, ρ, σ31, rfl, rfl, H⟩
    refine q_then (rg (sm (I s2.2) rfl (st (v := (I (w64 (s2.2 + 1)))) (rv_add (a := s2.2) (b := 1) rfl rfl) (sa (I (w64 (s2.2 + 1))) rfl (w_end (q_then ?_))))))
    obtain rfl := sj h
    exact ⟨_, rfl, _, σ31, fr_join ⟨rfl, rfl, rfl, rfl, rfl, trivial⟩, rfl, H.sel' [0, 1] rfl rfl⟩
  ·replace h := bif_f hb4 h
   refine c_exit (q_then_x (q_then_x (q_blk_hit ?_)))
   obtain rfl := sj h
   obtain rfl := hres _ rfl
   exact ⟨rfl, _, σ3, fr_join ⟨rfl, trivial⟩, rfl, H.sel' [] rfl rfl⟩
 ·clear hj
  have h := h'
  clear h' H
  rintro e a w ⟨rfl, ρ, σ32, rfl, rfl, H⟩
  refine q_then (c_seq (rg (sm (I o1) rfl (sa (I o1) rfl (w_end (q_then (c_ret ?_)))))))
  obtain rfl := sj h
  exact fin_ret (v := (I o1)) (results_ok Tryz.results71 (res_tmp (v := (I o1)) rfl res_nil) rfl) ⟨rfl, rfl⟩ (H.sel' [] rfl rfl)

theorem c_spec_decode {Bu : (List (List Int)) × (List (List Int))} {Hv : Int} {Bv : Option Addr} {Bw : Nat} {By : Option Addr} {Bz : Nat} {r : (List Int)} (h : M.spec_decode Bu Hv = some r) :
    Cal2 Tryz.prog 72 [(.agg #[(Sl Bv Bu.1 Bw), (Sl By Bu.2 Bz)]), (I Hv)] [Ch.ro 0 (Sl Bv Bu.1 Bw) Bu.1, Ch.ro 0 (Sl By Bu.2 Bz) Bu.2] (fun n0 v L => ∃ (az1 : Option Addr), ∃ (cz2 : Nat), v = (Sl az1 r cz2) ∧ L = [Ch.own n0 n0 (Sl az1 r cz2) r]) := by
 refine cal2 (n := 20) Tryz.func72 rfl rfl rfl rfl ?_
 intro S0 σ0 n0 hn0 H
 unfold M.spec_decode at h
 refine c_seq (rg (st_ex (ex_box (cs := [(Sl Bv Bu.1 Bw), (Sl By Bu.2 Bz)]) H hn0 rfl rfl) wn ?_))
 rintro _ σ2 ⟨b1, rfl, H, -⟩
 refine sa (.slice none 0 0) rfl (w_end (q_then (c_seq ?_)))
 have hc4 := H.cell (u := (Sl Bv Bu.1 Bw)) (o' := 0) 0 0 rfl rfl rfl
 revert h; refine br fun x5 hx6 h => ?_
 obtain ⟨b8, o9, hi7, -⟩ := (H.ro 1 rfl).ix hx6
 obtain ⟨v13, hc14, hR12⟩ := ((H.ro 1 rfl).at hx6 hi7).slice
 obtain ⟨a10, c11, rfl⟩ := hR12.isSl
 replace H := H.add (d := Ch.ro 0 (Sl a10 x5 c11) x5) hR12 (fun _ h => h)
 clear hR12
 revert h; refine br fun xs15 hx16 h => ?_
 have hc19 := H.cell (u := (Sl By Bu.2 Bz)) (o' := 1) 1 1 rfl rfl rfl
 revert h; refine br fun x20 hx21 h => ?_
 obtain ⟨b23, o24, hi22, -⟩ := (H.ro 3 rfl).ix hx21
 obtain ⟨v28, hc29, hR27⟩ := ((H.ro 3 rfl).at hx21 hi22).slice
 obtain ⟨a25, c26, rfl⟩ := hR27.isSl
 replace H := H.add (d := Ch.ro 0 (Sl a25 x20 c26) x20) hR27 (fun _ h => h)
 clear hR27
 have Hs := H
 refine rg2 (σ := σ2) (Nm := (Nat) × (Option Addr) × (Nat)) 14 [0, 7] [[false, false], [true, false], [true, true]] [[(0, 1)], [(0, 0), (1, 1)], [(0, 0), (1, 1)], [(0, 0), (1, 1)], [(0, 0), (1, 1)], [(0, 0), (1, 1)], [(0, 0), (1, 1)], [(1, 2)], [(0, 0), (1, 1), (2, 2)], [(0, 0), (1, 1), (2, 2)], [(0, 0), (1, 1), (2, 2)], [(0, 0), (1, 1), (2, 2)], [(0, 0), (1, 1), (2, 2)], [(0, 0), (1, 1), (2, 2)]] 2 [fun ((b3, a17, c18) : (Nat) × (Option Addr) × (Nat)) => fun σm => Hp S0 σ0 σm [Ch.ro 0 (Sl a25 x20 c26) x20, Ch.ro 0 (Sl a10 x5 c11) x5, Ch.bx n0 b1 0 [(Sl Bv Bu.1 Bw), (Sl By Bu.2 Bz)] [] [], Ch.ro 0 (Sl Bv Bu.1 Bw) Bu.1, Ch.ro 0 (Sl By Bu.2 Bz) Bu.2] ∧ Md (cov []) σ2 σm, fun ((b3, a17, c18) : (Nat) × (Option Addr) × (Nat)) => fun σm => Hp S0 σ0 σm [Ch.own n0 n0 (Sl (some ⟨b3, 0, none⟩) ([] : List Int) 0) ([] : List Int), Ch.ro 0 (Sl a25 x20 c26) x20, Ch.ro 0 (Sl a10 x5 c11) x5, Ch.bx n0 b1 0 [(Sl Bv Bu.1 Bw), (Sl By Bu.2 Bz)] [] [], Ch.ro 0 (Sl Bv Bu.1 Bw) Bu.1, Ch.ro 0 (Sl By Bu.2 Bz) Bu.2] ∧ Md (cov []) σ2 σm, fun ((b3, a17, c18) : (Nat) × (Option Addr) × (Nat)) => fun σm => Hp S0 σ0 σm [Ch.own n0 n0 (Sl a17 xs15 c18) xs15, Ch.ro 0 (Sl a25 x20 c26) x20, Ch.ro 0 (Sl a10 x5 c11) x5, Ch.bx n0 b1 0 [(Sl Bv Bu.1 Bw), (Sl By Bu.2 Bz)] [] [], Ch.ro 0 (Sl Bv Bu.1 Bw) Bu.1, Ch.ro 0 (Sl By Bu.2 Bz) Bu.2] ∧ Md (fun i => (cov []) i ∨ (fun b => blk (Sl (some ⟨b3, 0, none⟩) ([] : List Int) 0) = some b) i) σ2 σm] [fun ((b3, a17, c18) : (Nat) × (Option Addr) × (Nat)) => (Sl (some ⟨b3, 0, none⟩) ([] : List Int) 0), fun ((b3, a17, c18) : (Nat) × (Option Addr) × (Nat)) => (pt b1 0), fun ((b3, a17, c18) : (Nat) × (Option Addr) × (Nat)) => (Sl Bv Bu.1 Bw), fun ((b3, a17, c18) : (Nat) × (Option Addr) × (Nat)) => (I Hv), fun ((b3, a17, c18) : (Nat) × (Option Addr) × (Nat)) => (I (w64 (Hv.tdiv 4))), fun ((b3, a17, c18) : (Nat) × (Option Addr) × (Nat)) => (pt b8 o9), fun ((b3, a17, c18) : (Nat) × (Option Addr) × (Nat)) => (Sl a10 x5 c11), fun ((b3, a17, c18) : (Nat) × (Option Addr) × (Nat)) => (Sl a17 xs15 c18), fun ((b3, a17, c18) : (Nat) × (Option Addr) × (Nat)) => (pt b1 1), fun ((b3, a17, c18) : (Nat) × (Option Addr) × (Nat)) => (Sl By Bu.2 Bz), fun ((b3, a17, c18) : (Nat) × (Option Addr) × (Nat)) => (I Hv), fun ((b3, a17, c18) : (Nat) × (Option Addr) × (Nat)) => (I (Hv.tmod 4)), fun ((b3, a17, c18) : (Nat) × (Option Addr) × (Nat)) => (pt b23 o24), fun ((b3, a17, c18) : (Nat) × (Option Addr) × (Nat)) => (Sl a25 x20 c26)] (0, none, 0) (by kernel_rfl) (by kernel_rfl) ?_ ?_ ?_
 ·intro σm m0
  exact ⟨H.grow (m0.mono fun _ h => h.elim), m0⟩
 ·refine all_cons (by
    refine ⟨?_, ?_⟩
    ·rintro ⟨b3, a17, c18⟩ ρ σm hJ hoff hdep
     obtain ⟨H, m⟩ := id hJ
     refine dp_ex wn (ex_buildSlice (el := n0) (xs := ([] : List Int)) (ps := []) (cs := []) H hn0 Tryz.underlying24 ti3 rfl rfl (by kernel_rfl) (.nil) rfl) ?_
     rintro _ σq ⟨b3x, rfl, H2, m2⟩
     exact ⟨_, (b3x, a17, c18), rfl, rfl, ⟨H2.sel' [0, 1, 2, 3, 4, 5] rfl rfl, m.comp0 m2⟩, stab [1, 2, 3, 4, 5, 6, 8, 9, 10, 11, 12, 13] (by kernel_rfl) ⟨rfl, rfl, rfl, rfl, rfl, rfl, rfl, rfl, rfl, rfl, rfl, rfl, trivial⟩⟩
    trivial) ?_
  refine ac rfl (by
    intro k; rintro ⟨b3, a17, c18⟩ ρ σm hJ hoff hdep
    have e2 := look_off (N := 20) (hoff 2 rfl) rfl
    exact dp_v (v := (pt b1 0)) wn (rv_fieldAddr (off := 0) (ft := 37) Tryz.underlying47 rfl ti37 rfl e2) rfl hJ) ?_
  refine all_cons (by
    refine ⟨?_, ?_⟩
    ·rintro ⟨b3, a17, c18⟩ ρ σm hJ hoff hdep
     have e6 := hdep 1 rfl rfl 6 rfl
     obtain ⟨H, m⟩ := id hJ
     have hc4 := H.cell (u := (Sl Bv Bu.1 Bw)) (o' := 0) 2 0 rfl rfl rfl
     exact dp_v (v := (Sl Bv Bu.1 Bw)) wn (rv_load1 Tryz.underlying37 rfl e6 hc4) rfl hJ
    refine ⟨?_, ?_⟩
    ·rintro ⟨b3, a17, c18⟩ ρ σm hJ hoff hdep
     have e6 := hdep 1 rfl rfl 6 rfl
     obtain ⟨H, m⟩ := id hJ
     have hc4 := H.cell (u := (Sl Bv Bu.1 Bw)) (o' := 0) 3 0 rfl rfl rfl
     exact dp_v (v := (Sl Bv Bu.1 Bw)) wn (rv_load1 Tryz.underlying37 rfl e6 hc4) rfl hJ
    trivial) ?_
  refine ac rfl (by
    intro k; rintro ⟨b3, a17, c18⟩ ρ σm hJ hoff hdep
    have e1 := look_off (N := 20) (hoff 1 rfl) rfl
    exact dp_v (v := (I Hv)) wn (rv_move e1) rfl hJ) ?_
  refine ac rfl (by
    intro k; rintro ⟨b3, a17, c18⟩ ρ σm hJ hoff hdep
    have e8 := hdep 3 rfl rfl 8 rfl
    exact dp_v (v := (I (w64 (Hv.tdiv 4)))) wn (rv_quo (a := Hv) (b := 4) e8 rfl (by decide)) rfl hJ) ?_
  refine ac rfl (by
    intro k; rintro ⟨b3, a17, c18⟩ ρ σm hJ hoff hdep
    have e7 := hdep 2 rfl rfl 7 rfl
    have e9 := hdep 4 rfl rfl 9 rfl
    exact dp_v (v := (pt b8 o9)) wn (rv_ix Tryz.underlying37 ti24 e7 e9 hi7) rfl hJ) ?_
  refine all_cons (by
    refine ⟨?_, ?_⟩
    ·rintro ⟨b3, a17, c18⟩ ρ σm hJ hoff hdep
     have e10 := hdep 5 rfl rfl 10 rfl
     obtain ⟨H, m⟩ := id hJ
     replace hc14 := (Hs.ro 3 rfl).hmd hx6 hi7 (k := 0) (by decide) hc14 m
     exact dp_v (v := (Sl a10 x5 c11)) wn (rv_load1 Tryz.underlying24 rfl e10 hc14) rfl hJ
    refine ⟨?_, ?_⟩
    ·rintro ⟨b3, a17, c18⟩ ρ σm hJ hoff hdep
     have e10 := hdep 5 rfl rfl 10 rfl
     obtain ⟨H, m⟩ := id hJ
     replace hc14 := (Hs.ro 3 rfl).hmd hx6 hi7 (k := 0) (by decide) hc14 m
     exact dp_v (v := (Sl a10 x5 c11)) wn (rv_load1 Tryz.underlying24 rfl e10 hc14) rfl hJ
    trivial) ?_
  refine all_cons (by
    refine ⟨?_, ?_⟩
    ·rintro ⟨b3, a17, c18⟩ ρ σm hJ hoff hdep
     have e5 := hdep 0 rfl rfl 5 rfl
     have e11 := hdep 6 rfl rfl 11 rfl
     obtain ⟨H, m⟩ := id hJ
     refine dp_ex wn (ex_append H (i := 0) rfl Tryz.underlying24 Tryz.underlying24 ti3 rfl rfl (by decide) ((H.ro 2 rfl).rd.sc) hx16 hn0 e5 e11) ?_
     rintro _ σq ⟨a17x, c18x, rfl, H2, m2⟩
     exact ⟨_, (b3, a17x, c18x), rfl, rfl, ⟨H2.sel' [0, 1, 2, 3, 4, 5] rfl rfl, m.comp m2⟩, stab [0, 1, 2, 3, 4, 5, 6, 8, 9, 10, 11, 12, 13] (by kernel_rfl) ⟨rfl, rfl, rfl, rfl, rfl, rfl, rfl, rfl, rfl, rfl, rfl, rfl, rfl, trivial⟩⟩
    trivial) ?_
  refine ac rfl (by
    intro k; rintro ⟨b3, a17, c18⟩ ρ σm hJ hoff hdep
    have e2 := look_off (N := 20) (hoff 2 rfl) rfl
    exact dp_v (v := (pt b1 1)) wn (rv_fieldAddr (off := 1) (ft := 37) Tryz.underlying47 rfl ti37 rfl e2) rfl hJ) ?_
  refine all_cons (by
    refine ⟨?_, ?_⟩
    ·rintro ⟨b3, a17, c18⟩ ρ σm hJ hoff hdep
     have e13 := hdep 8 rfl rfl 13 rfl
     obtain ⟨H, m⟩ := id hJ
     have hc19 := H.cell (u := (Sl By Bu.2 Bz)) (o' := 1) 2 1 rfl rfl rfl
     exact dp_v (v := (Sl By Bu.2 Bz)) wn (rv_load1 Tryz.underlying37 rfl e13 hc19) rfl hJ
    refine ⟨?_, ?_⟩
    ·rintro ⟨b3, a17, c18⟩ ρ σm hJ hoff hdep
     have e13 := hdep 8 rfl rfl 13 rfl
     obtain ⟨H, m⟩ := id hJ
     have hc19 := H.cell (u := (Sl By Bu.2 Bz)) (o' := 1) 3 1 rfl rfl rfl
     exact dp_v (v := (Sl By Bu.2 Bz)) wn (rv_load1 Tryz.underlying37 rfl e13 hc19) rfl hJ
    refine ⟨?_, ?_⟩
    ·rintro ⟨b3, a17, c18⟩ ρ σm hJ hoff hdep
     have e13 := hdep 8 rfl rfl 13 rfl
     obtain ⟨H, m⟩ := id hJ
     have hc19 := H.cell (u := (Sl By Bu.2 Bz)) (o' := 1) 3 1 rfl rfl rfl
     exact dp_v (v := (Sl By Bu.2 Bz)) wn (rv_load1 Tryz.underlying37 rfl e13 hc19) rfl hJ
    trivial) ?_
  refine ac rfl (by
    intro k; rintro ⟨b3, a17, c18⟩ ρ σm hJ hoff hdep
    have e1 := look_off (N := 20) (hoff 1 rfl) rfl
    exact dp_v (v := (I Hv)) wn (rv_move e1) rfl hJ) ?_
  refine ac rfl (by
    intro k; rintro ⟨b3, a17, c18⟩ ρ σm hJ hoff hdep
    have e15 := hdep 10 rfl rfl 15 rfl
    exact dp_v (v := (I (Hv.tmod 4))) wn (rv_rem (a := Hv) (b := 4) e15 rfl (by decide)) rfl hJ) ?_
  refine ac rfl (by
    intro k; rintro ⟨b3, a17, c18⟩ ρ σm hJ hoff hdep
    have e14 := hdep 9 rfl rfl 14 rfl
    have e16 := hdep 11 rfl rfl 16 rfl
    exact dp_v (v := (pt b23 o24)) wn (rv_ix Tryz.underlying37 ti24 e14 e16 hi22) rfl hJ) ?_
  refine all_cons (by
    refine ⟨?_, ?_⟩
    ·rintro ⟨b3, a17, c18⟩ ρ σm hJ hoff hdep
     have e17 := hdep 12 rfl rfl 17 rfl
     obtain ⟨H, m⟩ := id hJ
     replace hc29 := (Hs.ro 4 rfl).hmd hx21 hi22 (k := 0) (by decide) hc29 m
     exact dp_v (v := (Sl a25 x20 c26)) wn (rv_load1 Tryz.underlying24 rfl e17 hc29) rfl hJ
    refine ⟨?_, ?_⟩
    ·rintro ⟨b3, a17, c18⟩ ρ σm hJ hoff hdep
     have e17 := hdep 12 rfl rfl 17 rfl
     obtain ⟨H, m⟩ := id hJ
     replace hc29 := (Hs.ro 4 rfl).hmd hx21 hi22 (k := 0) (by decide) hc29 m
     exact dp_v (v := (Sl a25 x20 c26)) wn (rv_load1 Tryz.underlying24 rfl e17 hc29) rfl hJ
    refine ⟨?_, ?_⟩
    ·rintro ⟨b3, a17, c18⟩ ρ σm hJ hoff hdep
     have e17 := hdep 12 rfl rfl 17 rfl
     obtain ⟨H, m⟩ := id hJ
     replace hc29 := (Hs.ro 4 rfl).hmd hx21 hi22 (k := 0) (by decide) hc29 m
     exact dp_v (v := (Sl a25 x20 c26)) wn (rv_load1 Tryz.underlying24 rfl e17 hc29) rfl hJ
    trivial) ?_
  exact all_nil
 ·rintro ⟨b3, a17, c18⟩ ρ σ30 hJ hoff hrel
  have e12 := hrel 7 rfl 12 rfl
  have e18 := hrel 13 rfl 18 rfl
  obtain ⟨H, -⟩ := (show Hp S0 σ0 σ30 [Ch.own n0 n0 (Sl a17 xs15 c18) xs15, Ch.ro 0 (Sl a25 x20 c26) x20, Ch.ro 0 (Sl a10 x5 c11) x5, Ch.bx n0 b1 0 [(Sl Bv Bu.1 Bw), (Sl By Bu.2 Bz)] [] [], Ch.ro 0 (Sl Bv Bu.1 Bw) Bu.1, Ch.ro 0 (Sl By Bu.2 Bz) Bu.2] ∧ Md (fun i => (cov []) i ∨ (fun b => blk (Sl (some ⟨b3, 0, none⟩) ([] : List Int) 0) = some b) i) σ2 σ30 from hJ)
  clear hJ Hs
  rw [fr_lookL (L := [(12, (Sl a17 xs15 c18)), (18, (Sl a25 x20 c26))]) ⟨e12, e18, trivial⟩]
  clear hoff hrel e12 e18
  revert h; refine br fun xs31 hx32 h => ?_
  refine st_ex (ex_append H (i := 0) rfl Tryz.underlying24 Tryz.underlying24 ti3 rfl rfl (by decide) ((H.ro 1 rfl).rd.sc) hx32 hn0 rfl rfl) wn ?_
  rintro _ σ35 ⟨a33, c34, rfl, H, -⟩
  refine sa (Sl a33 xs31 c34) rfl (w_end (q_then (c_ret ?_)))
  obtain rfl := sj h
  exact fin_ret (v := (Sl a33 xs31 c34)) (results_ok Tryz.results72 (res_tmp (v := (Sl a33 xs31 c34)) rfl res_nil) rfl) ⟨a33, c34, rfl, rfl⟩ (H.sel' [0] rfl rfl)

theorem c_spec_halfDist {Aa : List Int} {Ac : List Int} {Ad : Option Addr} {Ae : Nat} {Af : Option Addr} {Ag : Nat} {r : Int} (h : M.spec_halfDist Aa Ac = some r) :
    Cal2 Tryz.prog 142 [(Sl Ad Aa Ae), (Sl Af Ac Ag)] [Ch.ro 0 (Sl Ad Aa Ae) Aa, Ch.ro 0 (Sl Af Ac Ag) Ac] (fun n0 v L => v = (I r) ∧ L = []) := by
 refine cal2 (n := 8) Tryz.func142 rfl rfl rfl rfl ?_
 intro S0 σ0 n0 hn0 H
 unfold M.spec_halfDist at h
 refine c_seq (rg (sa (I 0) rfl (w_end (q_then (c_seq (rg (sm (Sl Ad Aa Ae) rfl (sm (Sl Af Ac Ag) rfl ?_))))))))
 revert h; refine br fun r1 hx2 h => ?_
 have hc3 := c_spec_dist (Gu := Ad) (Gv := Ae) (Gw := Af) (Gx := Ag) hx2
 refine st_call (cx_call hc3 (ent_f hc3.fn rfl) hn0 (H.sel' [0, 1, 0, 1] rfl rfl : Hp S0 σ0 _ ([_, _] ++ _))) wn ?_
 rintro _ σ4 ⟨_, ⟨rfl, rfl⟩, H, -⟩
 replace H : Hp _ _ _ [_, _] := H
 refine sa (I r1) rfl (w_end (q_then (c_ret ?_)))
 obtain rfl := sj h
 exact fin_ret (v := (I r1)) (results_ok Tryz.results142 (res_tmp (v := (I r1)) rfl res_nil) rfl) ⟨rfl, rfl⟩ (H.sel' [] rfl rfl)

end Go.Vs
