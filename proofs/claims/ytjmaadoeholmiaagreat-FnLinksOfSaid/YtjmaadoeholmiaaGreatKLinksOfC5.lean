/- The functions compute what their models say. -/
import Derived.Test.YtjmaadoeholmiaaGreatKLinksOfC4
set_option linter.unusedVariables false
set_option linter.unusedSimpArgs false
set_option maxRecDepth 20000
namespace Go.Vs
open Go Go.Proofs
attribute [local irreducible] Code.wp Code.wpIn wpList wpListIn wpQuiet Calls CallsIn

theorem c_impl_nearestBy__impl_nearestAmong_1 {As : List (Int × (List Int) × Int)} {Gn : Int} {Gp : Int} {Gq : List Int} {Au : Option Addr} {Av : Nat} {Gr Gs Gt : Nat} {Gu Gv : List Value} {Gw : Option Addr} {Gx : Nat} {Gy Gz Ha : Nat} {Hc Hd : List Value} {r : (List (Int × Int))} (h : M.impl_nearestBy__impl_nearestAmong_1 As Gn Gp Gq = some r) :
    Cal2 Tryz.prog 73 [(Sl Au As Av), (I Gn), (.func (.func 74) #[] #[(pt Gs Gt), (pt Gz Ha)])] [Ch.ro 0 (Sl Au As Av) As, Ch.bx Gr Gs Gt [(I Gp)] Gu Gv, Ch.bx Gy Gz Ha [(Sl Gw Gq Gx)] Hc Hd, Ch.ro 0 (Sl Gw Gq Gx) Gq] (fun n0 v L => ∃ (az1 : Option Addr), ∃ (cz2 : Nat), v = (Sl az1 r cz2) ∧ L = [Ch.own 0 n0 (Sl az1 r cz2) r, Ch.bx Gr Gs Gt [(I Gp)] Gu Gv, Ch.bx Gy Gz Ha [(Sl Gw Gq Gx)] Hc Hd]) := by
 refine cal2 (n := 27) Tryz.func73 rfl rfl rfl rfl ?_
 intro S0 σ0 n0 hn0 H
 unfold M.impl_nearestBy__impl_nearestAmong_1 at h
 refine c_seq (rg (sa (.slice none 0 0) rfl (w_end (q_then (c_seq (rg (sm (I Gn) rfl ?_)))))))
 refine st (v := (.agg #[(I Gn), (.slice none 0 0)])) (rv_build (ps := [(0, (I Gn))]) Tryz.underlying108 ti108 (bp108 Tryz.underlying108) rfl (by kernel_rfl)) ?_
 refine st_ex (ex_alloc (cs := [(I 0), (.slice none 0 0)]) H hn0 ti108 rfl) wn ?_
 rintro _ σ2 ⟨b1, rfl, H, -⟩
 refine st_exS (ex_store_box (k := 0) (cs := [(I 0), (.slice none 0 0)]) (vs := [(I Gn), (.slice none 0 0)]) (cs' := [(I Gn), (.slice none 0 0)]) H (i := 0) rfl ti108 rfl rfl rfl rfl rfl (Nat.le_of_ble_eq_true rfl) (by simp [plain]) rfl) wn ?_
 rintro σ3 ⟨H, -⟩
 refine w_end (q_then (c_seq (c_seq (rg (sm (Sl Au As Av) rfl (st (v := (I (As.length : Int))) (rv_len Tryz.underlying23 rfl) (sm (I 0) rfl (w_end (q_then ?_)))))))))
 obtain ⟨o4, hj, h'⟩ := bind_some h
 clear h
 refine c_cut (fun e a w => e = .normal ∧ ∃ (ρ : Nat → Value) (σ : St) (aj1 : Option Addr) (cj2 : Nat), a = fr 27 (updL ρ [(2, (.func (.func 74) #[] #[(pt Gs Gt), (pt Gz Ha)])), (7, (pt b1 0))]) ∧ w = σ.w ∧ Hp S0 σ0 σ [Ch.bx n0 b1 0 [(I o4.1), (Sl aj1 o4.2 cj2)] [] [], Ch.own 0 0 (Sl aj1 o4.2 cj2) o4.2, Ch.bx Gr Gs Gt [(I Gp)] Gu Gv, Ch.ro 0 (Sl Gw Gq Gx) Gq, Ch.bx Gy Gz Ha [(Sl Gw Gq Gx)] Hc Hd]) ?_ ?_
 ·clear h'
  rename _ = some o4 => h
  refine c_blk ?_
  replace H := H.nilOwn (Int × Int) 0 0
  refine wp_loopM _ h (fun s5 a w => ∃ (ρ : Nat → Value) (σ : St) (aj1 : Option Addr) (cj2 : Nat), a = fr 27 (updL ρ [(2, (.func (.func 74) #[] #[(pt Gs Gt), (pt Gz Ha)])), (7, (pt b1 0)), (12, (Sl Au As Av)), (13, (I (As.length : Int))), (14, (I s5.2))]) ∧ w = σ.w ∧ Hp S0 σ0 σ [Ch.bx n0 b1 0 [(I s5.1.1), (Sl aj1 s5.1.2 cj2)] [] [], Ch.own 0 0 (Sl aj1 s5.1.2 cj2) s5.1.2, Ch.bx Gr Gs Gt [(I Gp)] Gu Gv, Ch.ro 0 (Sl Gw Gq Gx) Gq, Ch.bx Gy Gz Ha [(Sl Gw Gq Gx)] Hc Hd, Ch.ro 0 (Sl Au As Av) As]) ⟨_, σ3, none, 0, fr_join ⟨rfl, rfl, rfl, rfl, rfl, trivial⟩, rfl, H.sel' [1, 0, 3, 5, 4, 2] rfl rfl⟩ ?_
  clear h H
  rintro s5 a w o ⟨ρ, σ6, a7, c8, rfl, rfl, H⟩ h hres
  refine c_seq (rg (st (v := (B (decide (s5.2 < (As.length : Int))))) (rv_lss (a := s5.2) (b := (As.length : Int)) rfl rfl) (w_end (q_then (c_seq ?_)))))
  refine cd_cond (decide (s5.2 < (As.length : Int))) rfl (fun hb9 => ?_) (fun hb9 => ?_)
  ·replace h := bif_t hb9 h
   refine c_skip (q_then (c_seq (c_blk (c_seq (rg ?_)))))
   revert h; refine br fun x10 hx11 h => ?_
   obtain ⟨b13, o14, hi12, -⟩ := (H.ro 5 rfl).ix hx11
   refine st (v := (pt b13 o14)) (rv_ix Tryz.underlying23 ti33 rfl rfl hi12) ?_
   obtain ⟨_, ⟨_, _, rfl, rfl, ⟨_, _, rfl, ⟨_, rfl, hR19⟩, rfl⟩⟩, hl15, hc16⟩ := ((H.ro 5 rfl).at hx11 hi12).cells
   obtain ⟨a17, c18, rfl⟩ := hR19.isSl
   replace H := H.add (d := Ch.ro 0 (Sl a17 x10.2.1 c18) x10.2.1) hR19 (fun _ h => h)
   clear hR19
   refine st (v := (.agg #[(I x10.1), (Sl a17 x10.2.1 c18), (I x10.2.2)])) (rv_load Tryz.underlying33 rfl ti33 rfl hl15 hc16) (st_ex (ex_alloc (cs := [(I 0), (.slice none 0 0), (I 0)]) H hn0 ti33 rfl) wn ?_)
   rintro _ σ21 ⟨b20, rfl, H, -⟩
   refine st_exS (ex_store_box (k := 0) (cs := [(I 0), (.slice none 0 0), (I 0)]) (vs := [(I x10.1), (Sl a17 x10.2.1 c18), (I x10.2.2)]) (cs' := [(I x10.1), (Sl a17 x10.2.1 c18), (I x10.2.2)]) H (i := 0) rfl ti33 rfl rfl rfl rfl rfl (Nat.le_of_ble_eq_true rfl) (by simp [plain]) rfl) wn ?_
   rintro σ22 ⟨H, -⟩
   refine w_end (q_then ?_)
   have hc23 := H.cell (u := (I x10.1)) (o' := 0) 0 0 rfl rfl rfl
   have hc24 := H.cells 0 rfl
   revert h; refine br fun r25 hx26 h => ?_
   have hc27 := c_impl_nearestAmong_1__p3__p24 (Be := a17) (Bf := c18) (Dy := Gr) (Dz := Gs) (Ea := Gt) (Eb := Gu) (Ec := Gv) (Gk := Gy) (Cu := Gz) (Cv := Ha) (Gl := Hc) (Gm := Hd) (Gi := Gw) (Gj := Gx) hx26
   have Hs := H
   refine rg2 (σ := σ22) (Nm := Unit) 5 [4] [[false], [true]] [[(0, 0), (1, 1)], [(0, 0), (1, 1)], [(0, 0)], [(0, 0)], [(0, 1)]] 1 [fun _ => fun σm => Hp S0 σ0 σm [Ch.bx n0 b20 0 [(I x10.1), (Sl a17 x10.2.1 c18), (I x10.2.2)] [] [], Ch.ro 0 (Sl a17 x10.2.1 c18) x10.2.1, Ch.bx n0 b1 0 [(I s5.1.1), (Sl a7 s5.1.2 c8)] [] [], Ch.own 0 0 (Sl a7 s5.1.2 c8) s5.1.2, Ch.bx Gr Gs Gt [(I Gp)] Gu Gv, Ch.ro 0 (Sl Gw Gq Gx) Gq, Ch.bx Gy Gz Ha [(Sl Gw Gq Gx)] Hc Hd, Ch.ro 0 (Sl Au As Av) As] ∧ Md (cov []) σ22 σm, fun _ => fun σm => Hp S0 σ0 σm [Ch.bx Gr Gs Gt [(I Gp)] Gu Gv, Ch.bx Gy Gz Ha [(Sl Gw Gq Gx)] Hc Hd, Ch.bx n0 b20 0 [(I x10.1), (Sl a17 x10.2.1 c18), (I x10.2.2)] [] [], Ch.ro 0 (Sl a17 x10.2.1 c18) x10.2.1, Ch.bx n0 b1 0 [(I s5.1.1), (Sl a7 s5.1.2 c8)] [] [], Ch.own 0 0 (Sl a7 s5.1.2 c8) s5.1.2, Ch.ro 0 (Sl Gw Gq Gx) Gq, Ch.ro 0 (Sl Au As Av) As] ∧ Md (fun i => (cov []) i ∨ (cov [Ch.ro 0 (Sl a17 x10.2.1 c18) x10.2.1, Ch.bx Gr Gs Gt [(I Gp)] Gu Gv, Ch.bx Gy Gz Ha [(Sl Gw Gq Gx)] Hc Hd, Ch.ro 0 (Sl Gw Gq Gx) Gq]) i) σ22 σm] [fun _ => (pt b20 0), fun _ => (I x10.1), fun _ => (.func (.func 74) #[] #[(pt Gs Gt), (pt Gz Ha)]), fun _ => (.agg #[(I x10.1), (Sl a17 x10.2.1 c18), (I x10.2.2)]), fun _ => (I r25)] () (by kernel_rfl) (by kernel_rfl) ?_ ?_ ?_
   ·intro σm m0
    exact ⟨H.grow (m0.mono fun _ h => h.elim), m0⟩
   ·refine ac rfl (by
      intro k _nm ρ σm hJ hoff hdep
      have e9 := look_off (N := 27) (hoff 9 rfl) rfl
      exact dp_v (v := (pt b20 0)) wn (rv_fieldAddr (off := 0) (ft := 3) Tryz.underlying33 rfl ti3 rfl e9) rfl hJ) ?_
    refine all_cons (by
      refine ⟨?_, ?_⟩
      ·intro _nm ρ σm hJ hoff hdep
       have e18 := hdep 0 rfl rfl 18 rfl
       obtain ⟨H, m⟩ := id hJ
       have hc23 := H.cell (u := (I x10.1)) (o' := 0) 0 0 rfl rfl rfl
       exact dp_v (v := (I x10.1)) wn (rv_load1 Tryz.underlying3 rfl e18 hc23) rfl hJ
      refine ⟨?_, ?_⟩
      ·intro _nm ρ σm hJ hoff hdep
       have e18 := hdep 0 rfl rfl 18 rfl
       obtain ⟨H, m⟩ := id hJ
       have hc23 := H.cell (u := (I x10.1)) (o' := 0) 2 0 rfl rfl rfl
       exact dp_v (v := (I x10.1)) wn (rv_load1 Tryz.underlying3 rfl e18 hc23) rfl hJ
      trivial) ?_
    refine ac rfl (by
      intro k _nm ρ σm hJ hoff hdep
      have e2 := look_off (N := 27) (hoff 2 rfl) rfl
      exact dp_v (v := (.func (.func 74) #[] #[(pt Gs Gt), (pt Gz Ha)])) wn (rv_move e2) rfl hJ) ?_
    refine all_cons (by
      refine ⟨?_, ?_⟩
      ·intro _nm ρ σm hJ hoff hdep
       have e9 := look_off (N := 27) (hoff 9 rfl) rfl
       obtain ⟨H, m⟩ := id hJ
       have hc24 := H.cells 0 rfl
       exact dp_v (v := (.agg #[(I x10.1), (Sl a17 x10.2.1 c18), (I x10.2.2)])) wn (rv_load (cs := [(I x10.1), (Sl a17 x10.2.1 c18), (I x10.2.2)]) Tryz.underlying33 rfl ti33 e9 rfl hc24) rfl hJ
      trivial) ?_
    refine all_cons (by
      refine ⟨?_, ?_⟩
      ·intro _nm ρ σm hJ hoff hdep
       have e21 : look 27 ρ 21 = (.agg #[(I x10.1), (Sl a17 x10.2.1 c18), (I x10.2.2)]) := hdep 3 rfl rfl 21 rfl
       have e20 := hdep 2 rfl rfl 20 rfl
       obtain ⟨H, m⟩ := id hJ
       refine dp_cx wn (cx_call hc27 (ent_v (cap := [(pt Gs Gt), (pt Gz Ha)]) hc27.fn e20 (by show [look 27 ρ 21] ++ [(pt Gs Gt), (pt Gz Ha)] = _; rw [e21]; rfl)) hn0 (H.sel' [1, 4, 6, 5, 0, 1, 2, 3, 5, 7] rfl rfl : Hp S0 σ0 _ ([_, _, _, _] ++ _))) ?_
       rintro _ σq ⟨_, ⟨rfl, rfl⟩, H2, m2⟩
       exact ⟨_, (), rfl, rfl, ⟨H2.sel' [0, 1, 2, 3, 4, 5, 6, 7] rfl rfl, m.comp m2⟩, stab [0, 1, 2, 3] (by kernel_rfl) ⟨rfl, rfl, rfl, rfl, trivial⟩⟩
      trivial) ?_
    exact all_nil
   ·intro _nm ρ σ28 hJ hoff hrel
    have e2 := look_off (N := 27) (hoff 2 rfl) rfl
    have e7 := look_off (N := 27) (hoff 7 rfl) rfl
    have e12 := look_off (N := 27) (hoff 12 rfl) rfl
    have e13 := look_off (N := 27) (hoff 13 rfl) rfl
    have e14 := look_off (N := 27) (hoff 14 rfl) rfl
    have e19 := hrel 1 rfl 19 rfl
    have e22 := hrel 4 rfl 22 rfl
    obtain ⟨H, -⟩ := (show Hp S0 σ0 σ28 [Ch.bx Gr Gs Gt [(I Gp)] Gu Gv, Ch.bx Gy Gz Ha [(Sl Gw Gq Gx)] Hc Hd, Ch.bx n0 b20 0 [(I x10.1), (Sl a17 x10.2.1 c18), (I x10.2.2)] [] [], Ch.ro 0 (Sl a17 x10.2.1 c18) x10.2.1, Ch.bx n0 b1 0 [(I s5.1.1), (Sl a7 s5.1.2 c8)] [] [], Ch.own 0 0 (Sl a7 s5.1.2 c8) s5.1.2, Ch.ro 0 (Sl Gw Gq Gx) Gq, Ch.ro 0 (Sl Au As Av) As] ∧ Md (fun i => (cov []) i ∨ (cov [Ch.ro 0 (Sl a17 x10.2.1 c18) x10.2.1, Ch.bx Gr Gs Gt [(I Gp)] Gu Gv, Ch.bx Gy Gz Ha [(Sl Gw Gq Gx)] Hc Hd, Ch.ro 0 (Sl Gw Gq Gx) Gq]) i) σ22 σ28 from hJ)
    clear hJ Hs
    rw [fr_lookL (L := [(2, (.func (.func 74) #[] #[(pt Gs Gt), (pt Gz Ha)])), (7, (pt b1 0)), (12, (Sl Au As Av)), (13, (I (As.length : Int))), (14, (I s5.2)), (19, (I x10.1)), (22, (I r25))]) ⟨e2, e7, e12, e13, e14, e19, e22, trivial⟩]
    clear hoff hrel e2 e7 e12 e13 e14 e19 e22
    refine st (v := (.agg #[(I x10.1), (I r25)])) (rv_build (ps := [(0, (I x10.1)), (1, (I r25))]) Tryz.underlying47 ti47 (bp47 Tryz.underlying47) rfl (by kernel_rfl)) ?_
    revert h; refine br fun r29 hx30 h => ?_
    have hc31 := c_impl_nearestHits_offer (Fm := n0) (Fn := b1) (Fo := 0) (Fp := []) (Fq := []) (Fk := a7) (Fl := c8) hx30
    refine st_call (cx_call hc31 (ent_f hc31.fn rfl) hn0 (H.sel' [4, 5, 0, 1, 2, 3, 6, 7] rfl rfl : Hp S0 σ0 _ ([_, _] ++ _))) wn ?_
    rintro _ σ34 ⟨_, ⟨a32, c33, rfl, rfl⟩, H, -⟩
    replace H : Hp _ _ _ [_, _, _, _, _, _, _, _] := H
    replace H : Hp S0 σ0 σ34 [Ch.bx n0 b1 0 [(I r29.1), (Sl a32 r29.2 c33)] [] [], Ch.own 0 0 (Sl a32 r29.2 c33) r29.2, Ch.bx Gr Gs Gt [(I Gp)] Gu Gv, Ch.bx Gy Gz Ha [(Sl Gw Gq Gx)] Hc Hd, Ch.ro 0 (Sl Gw Gq Gx) Gq, Ch.ro 0 (Sl Au As Av) As] := H.sel' [0, 1, 2, 3, 6, 7] rfl rfl
    refine w_end (q_blk (q_then (rg (st (v := (I (w64 (s5.2 + 1)))) (rv_add (a := s5.2) (b := 1) rfl rfl) (sm (I (w64 (s5.2 + 1))) rfl (w_end (q_then ?_)))))))
    obtain rfl := sj h
    exact ⟨_, rfl, _, σ34, a32, c33, fr_join ⟨rfl, rfl, rfl, rfl, rfl, trivial⟩, rfl, H.sel' [0, 1, 2, 4, 3, 5] rfl rfl⟩
  ·replace h := bif_f hb9 h
   refine c_exit (q_then_x (q_then_x (q_blk_hit ?_)))
   obtain rfl := sj h
   obtain rfl := hres _ rfl
   exact ⟨rfl, _, σ6, a7, c8, fr_join ⟨rfl, rfl, trivial⟩, rfl, H.sel' [0, 1, 2, 3, 4] rfl rfl⟩
 ·clear hj
  have h := h'
  clear h' H
  rintro e a w ⟨rfl, ρ, σ35, a36, c37, rfl, rfl, H⟩
  refine q_then (c_seq (rg ?_))
  obtain ⟨σ38, hw39, H, -⟩ := H.pub 1 rfl (Nat.le_refl _)
  rw [← hw39]; clear hw39
  revert h; refine br fun r40 hx41 h => ?_
  have hc42 := c_impl_nearestHits_inOrder (Fm := n0) (Fn := b1) (Fo := 0) (Fp := []) (Fq := []) (Fk := a36) (Fl := c37) hx41
  refine st_call (cx_call hc42 (ent_f hc42.fn rfl) hn0 (H.sel' [1, 0, 0, 2, 3, 4] rfl rfl : Hp S0 σ0 _ ([_, _] ++ _))) wn ?_
  rintro _ σ45 ⟨_, ⟨a43, c44, rfl, rfl⟩, H, -⟩
  replace H : Hp _ _ _ [_, _, _, _, _, _] := H
  refine sa (Sl a43 r40 c44) rfl (w_end (q_then (c_ret ?_)))
  obtain rfl := sj h
  exact fin_ret (v := (Sl a43 r40 c44)) (results_ok Tryz.results73 (res_tmp (v := (Sl a43 r40 c44)) rfl res_nil) rfl) ⟨a43, c44, rfl, rfl⟩ (H.sel' [0, 3, 5] rfl rfl)

theorem c_impl_nearestAmong {As : List (Int × (List Int) × Int)} {Bp : Int} {Ci : List Int} {Ez : Int} {Au : Option Addr} {Av : Nat} {Cj : Option Addr} {Ck : Nat} {r : (List (Int × Int))} (h : M.impl_nearestAmong As Bp Ci Ez = some r) :
    Cal2 Tryz.prog 42 [(Sl Au As Av), (I Bp), (Sl Cj Ci Ck), (I Ez)] [Ch.ro 0 (Sl Au As Av) As, Ch.ro 0 (Sl Cj Ci Ck) Ci] (fun n0 v L => ∃ (az1 : Option Addr), ∃ (cz2 : Nat), v = (Sl az1 r cz2) ∧ L = [Ch.own 0 n0 (Sl az1 r cz2) r]) := by
 refine cal2 (n := 13) Tryz.func42 rfl rfl rfl rfl ?_
 intro S0 σ0 n0 hn0 H
 unfold M.impl_nearestAmong at h
 refine c_seq (rg (st_ex (ex_box (cs := [(I Bp)]) H hn0 rfl rfl) wn ?_))
 rintro _ σ2 ⟨b1, rfl, H, -⟩
 refine st_ex (ex_box (cs := [(Sl Cj Ci Ck)]) H hn0 rfl rfl) wn ?_
 rintro _ σ4 ⟨b3, rfl, H, -⟩
 refine sa (.slice none 0 0) rfl (w_end (q_then (c_seq (rg (sm (Sl Au As Av) rfl (sm (I Ez) rfl (st (v := (.func (.func 74) #[] #[(pt b1 0), (pt b3 0)])) (rv_makeFunc (vs := [(pt b1 0), (pt b3 0)]) rfl) ?_)))))))
 revert h; refine br fun r5 hx6 h => ?_
 have hc7 := c_impl_nearestBy__impl_nearestAmong_1 (Au := Au) (Av := Av) (Gr := n0) (Gs := b1) (Gt := 0) (Gu := []) (Gv := []) (Gy := n0) (Gz := b3) (Ha := 0) (Hc := []) (Hd := []) (Gw := Cj) (Gx := Ck) hx6
 refine st_call (cx_call hc7 (ent_f hc7.fn rfl) hn0 (H.sel' [2, 1, 0, 3, 2, 3] rfl rfl : Hp S0 σ0 _ ([_, _, _, _] ++ _))) wn ?_
 rintro _ σ10 ⟨_, ⟨a8, c9, rfl, rfl⟩, H, -⟩
 replace H : Hp _ _ _ [_, _, _, _, _] := H
 refine sa (Sl a8 r5 c9) rfl (w_end (q_then (c_ret ?_)))
 obtain rfl := sj h
 exact fin_ret (v := (Sl a8 r5 c9)) (results_ok Tryz.results42 (res_tmp (v := (Sl a8 r5 c9)) rfl res_nil) rfl) ⟨a8, c9, rfl, rfl⟩ (H.sel' [0] rfl rfl)

theorem c_impl_Nearest {As : List (Int × (List Int) × Int)} {Bp : Int} {Ci : List Int} {Ez : Int} {Au : Option Addr} {Av : Nat} {Cj : Option Addr} {Ck : Nat} {r : (List (Int × Int))} (h : M.impl_Nearest As Bp Ci Ez = some r) :
    Cal2 Tryz.prog 16 [(Sl Au As Av), (I Bp), (Sl Cj Ci Ck), (I Ez)] [Ch.ro 0 (Sl Au As Av) As, Ch.ro 0 (Sl Cj Ci Ck) Ci] (fun n0 v L => ∃ (az1 : Option Addr), ∃ (cz2 : Nat), v = (Sl az1 r cz2) ∧ L = [Ch.own 0 n0 (Sl az1 r cz2) r]) := by
 refine cal2 (n := 20) Tryz.func16 rfl rfl rfl rfl ?_
 intro S0 σ0 n0 hn0 H
 unfold M.impl_Nearest at h
 refine c_seq (rg (sa (.slice none 0 0) rfl (w_end (q_then (c_seq (c_seq (rg (sm (Sl Au As Av) rfl (sm (I Bp) rfl (sm (Sl Cj Ci Ck) rfl (sm (I Ez) rfl ?_)))))))))))
 revert h; refine br fun r1 hx2 h => ?_
 have hc3 := c_impl_validSearch (Au := Au) (Av := Av) (Cj := Cj) (Ck := Ck) hx2
 refine st_call (cx_call hc3 (ent_f hc3.fn rfl) hn0 (H.sel' [0, 1, 0, 1] rfl rfl : Hp S0 σ0 _ ([_, _] ++ _))) wn ?_
 rintro _ σ4 ⟨_, ⟨rfl, rfl⟩, H, -⟩
 replace H : Hp _ _ _ [_, _] := H
 refine st (v := (B (!r1))) (rv_not rfl) (w_end (q_then ?_))
 refine cd_cond (!r1) rfl (fun hb5 => ?_) (fun hb5 => ?_)
 ·replace h := bif_t hb5 h
  refine c_seq (rg (sa (.slice none 0 0) rfl (w_end (q_then (c_ret (q_then_r ?_))))))
  replace H := H.nilOwn (Int × Int) 0 n0
  obtain rfl := sj h
  exact fin_ret (v := (.slice none 0 0)) (results_ok Tryz.results16 (res_tmp (v := (.slice none 0 0)) rfl res_nil) rfl) ⟨none, 0, rfl, rfl⟩ (H.sel' [0] rfl rfl)
 ·replace h := bif_f hb5 h
  refine c_skip (q_then (c_seq (rg (sm (Sl Au As Av) rfl (sm (I Bp) rfl (sm (Sl Cj Ci Ck) rfl (sm (I Ez) rfl ?_)))))))
  revert h; refine br fun r6 hx7 h => ?_
  have hc8 := c_impl_nearestAmong (Au := Au) (Av := Av) (Cj := Cj) (Ck := Ck) hx7
  refine st_call (cx_call hc8 (ent_f hc8.fn rfl) hn0 (H.sel' [0, 1, 0, 1] rfl rfl : Hp S0 σ0 _ ([_, _] ++ _))) wn ?_
  rintro _ σ11 ⟨_, ⟨a9, c10, rfl, rfl⟩, H, -⟩
  replace H : Hp _ _ _ [_, _, _] := H
  refine sa (Sl a9 r6 c10) rfl (w_end (q_then (c_ret ?_)))
  obtain rfl := sj h
  exact fin_ret (v := (Sl a9 r6 c10)) (results_ok Tryz.results16 (res_tmp (v := (Sl a9 r6 c10)) rfl res_nil) rfl) ⟨a9, c10, rfl, rfl⟩ (H.sel' [0] rfl rfl)

theorem c_laws_FnLinksOf {Aa : List UInt8} {Ac : Option Addr} {Ad : Nat} {r : Bool} (h : M.laws_FnLinksOf Aa = some r) :
    Cal2 Tryz.prog 3 [(Sl Ac Aa Ad)] [Ch.ro 0 (Sl Ac Aa Ad) Aa] (fun n0 v L => v = (B r) ∧ L = []) := by
 refine cal2 (n := 88) Tryz.func3 rfl rfl rfl rfl ?_
 intro S0 σ0 n0 hn0 H
 unfold M.laws_FnLinksOf at h
 refine c_seq (rg (sa (B false) rfl (w_end (q_then (c_seq (c_seq (rg (sm (Sl Ac Aa Ad) rfl (st (v := (I (Aa.length : Int))) (rv_len Tryz.underlying22 rfl) (st (v := (B (decide (1048576 < (Aa.length : Int))))) (rv_gtr (a := (Aa.length : Int)) (b := 1048576) rfl rfl) (w_end ?_)))))))))))
 refine q_then ?_
 refine cd_cond (decide (1048576 < (Aa.length : Int))) rfl (fun hb1 => ?_) (fun hb1 => ?_)
 ·replace h := bif_t hb1 h
  refine c_seq (rg (sa (B true) rfl (w_end (q_then (c_ret (q_then_r ?_))))))
  obtain rfl := sj h
  exact fin_ret (v := (B true)) (results_ok Tryz.results3 (res_tmp (v := (B true)) rfl res_nil) rfl) ⟨rfl, rfl⟩ (H.sel' [] rfl rfl)
 ·replace h := bif_f hb1 h
  refine c_skip (q_then (c_seq (rg (sm (Sl Ac Aa Ad) rfl ?_))))
  revert h; refine br fun r2 hx3 h => ?_
  have hc4 := c_spec_DrawLinksOf (Ac := Ac) (Ad := Ad) hx3
  refine st_call (cx_call hc4 (ent_f hc4.fn rfl) hn0 (H.sel' [0, 0] rfl rfl : Hp S0 σ0 _ ([_] ++ _))) wn ?_
  rintro _ σ7 ⟨_, ⟨a5, c6, rfl, rfl⟩, H, -⟩
  replace H : Hp _ _ _ [_, _] := H
  refine sm (.tuple #[(Sl a5 r2.1 c6), (I r2.2.1), (I r2.2.2)]) rfl (st (v := (Sl a5 r2.1 c6)) (rv_extract rfl rfl) (st (v := (I r2.2.1)) (rv_extract rfl rfl) (st (v := (I r2.2.2)) (rv_extract rfl rfl) (sa (Sl a5 r2.1 c6) rfl (sa (I r2.2.1) rfl (sa (I r2.2.2) rfl (w_end (q_then (c_seq (rg (sm (Sl a5 r2.1 c6) rfl ?_)))))))))))
  refine sm (I r2.2.1) rfl (sm (I r2.2.2) rfl ?_)
  revert h; refine br fun r8 hx9 h => ?_
  have hc10 := c_impl_LinksOf (Au := a5) (Av := c6) hx9
  have hle := Nat.le_trans hn0 H.size
  refine st_call (cx_lend (Loan.lend Loan.nil) hc10 (ent_f hc10.fn rfl) (show Hp S0 σ0 _ ([Ch.own n0 n0 (Sl a5 r2.1 c6) r2.1] ++ ([] ++ [Ch.ro 0 (Sl Ac Aa Ad) Aa])) from (H.sel' [0, 1] rfl rfl)) (by rintro _ _ _ ⟨_, _, rfl, rfl, _⟩; exact ⟨Ab.own (Nat.le_refl _), trivial⟩)) wn ?_
  rintro _ σ14 ⟨_, ⟨a11, c12, rfl, rfl, ht13⟩, H, -, -⟩
  replace H : Hp _ _ _ [_, _, _] := H
  replace H := H.ownLow 0 n0 n0 rfl hle hle
  clear hle
  replace H : Hp _ _ _ [_, _, _] := H
  refine sa (Sl a11 r8 c12) rfl (w_end (q_then (c_seq (c_seq ?_))))
  obtain ⟨o15, hj, h'⟩ := bind_some h
  clear h
  refine c_cut (fun e a w => e = .normal ∧ ∃ (ρ : Nat → Value) (σ : St), a = fr 88 (updL ρ [(3, (Sl a5 r2.1 c6)), (4, (I r2.2.1)), (5, (I r2.2.2)), (6, (Sl a11 r8 c12)), (34, (B o15))]) ∧ w = σ.w ∧ Hp S0 σ0 σ [Ch.own n0 n0 (Sl a5 r2.1 c6) r2.1, Ch.own n0 n0 (Sl a11 r8 c12) r8]) ?_ ?_
  ·clear h'
   rename _ = some o15 => h
   refine rg (sm (Sl a11 r8 c12) rfl (sm (Sl a5 r2.1 c6) rfl (sm (I r2.2.1) rfl (sm (I r2.2.2) rfl ?_))))
   revert h; refine br fun r16 hx17 h => ?_
   have hc18 := c_spec_LinksOf (Au := a5) (Av := c6) hx17
   have hle := Nat.le_trans hn0 H.size
   refine st_call (cx_lend (Loan.lend Loan.nil) hc18 (ent_f hc18.fn rfl) (show Hp S0 σ0 _ ([Ch.own n0 n0 (Sl a5 r2.1 c6) r2.1] ++ ([] ++ [Ch.own n0 n0 (Sl a11 r8 c12) r8, Ch.ro 0 (Sl Ac Aa Ad) Aa])) from (H.sel' [1, 0, 2] rfl rfl)) (by rintro _ _ _ ⟨_, _, rfl, rfl⟩; exact ⟨Ab.own (Nat.le_refl _), trivial⟩)) wn ?_
   rintro _ σ21 ⟨_, ⟨a19, c20, rfl, rfl⟩, H, -, -⟩
   replace H : Hp _ _ _ [_, _, _, _] := H
   replace H := H.ownLow 0 n0 n0 rfl hle hle
   clear hle
   replace H : Hp _ _ _ [_, _, _, _] := H
   obtain ⟨σ22, hw23, H, -⟩ := H.pub 0 rfl (Nat.le_refl _)
   rw [← hw23]; clear hw23
   replace H := H.roLow 0 0 rfl (Nat.zero_le _)
   revert h; refine br fun r24 hx25 h => ?_
   have hc26 := c_laws_equalLists (El := a11) (Em := c12) (En := a19) (Eo := c20) hx25
   have hle := Nat.le_trans hn0 H.size
   refine st_call (cx_lend (Loan.lend (Loan.same Loan.nil)) hc26 (ent_f hc26.fn rfl) (show Hp S0 σ0 _ ([Ch.own n0 n0 (Sl a11 r8 c12) r8] ++ ([Ch.ro 0 (Sl a19 r16 c20) r16] ++ [Ch.ro 0 (Sl a19 r16 c20) r16, Ch.ro n0 (Sl a19 r16 c20) r16, Ch.own n0 n0 (Sl a5 r2.1 c6) r2.1, Ch.ro 0 (Sl Ac Aa Ad) Aa])) from (H.sel' [3, 0, 0, 1, 2, 4] rfl rfl)) (by rintro _ _ _ ⟨rfl, rfl⟩; exact trivial)) wn ?_
   rintro _ σ27 ⟨_, ⟨rfl, rfl⟩, H, -, -⟩
   replace H : Hp _ _ _ [_, _, _, _, _] := H
   clear hle
   replace H : Hp _ _ _ [_, _, _, _, _] := H
   refine st (v := (B (!r24))) (rv_not rfl) (sm (B (!r24)) rfl ?_)
   rcases Bool.eq_false_or_eq_true (!r24) with hb28 | hb28
   ·replace h := bif_t hb28 h
    refine st_skip (congrArg some hb28) (st_skip (congrArg some hb28) (st_skip (congrArg some hb28) (st (v := (B true)) (rv_pick_t (congrArg B hb28) rfl) (w_end ?_))))
    obtain rfl := sj h
    exact ⟨rfl, _, σ27, fr_join ⟨rfl, rfl, rfl, rfl, rfl, trivial⟩, rfl, H.sel' [3, 0] rfl rfl⟩
   ·replace h := bif_f hb28 h
    refine st_g (v := (Sl a11 r8 c12)) (congrArg some hb28) (rv_move rfl) (st_g (v := (I (r8.length : Int))) (congrArg some hb28) (rv_len Tryz.underlying26 rfl) (st_g (v := (B ((r8.length : Int) == 0))) (congrArg some hb28) (rv_eql (a := (r8.length : Int)) (b := 0) rfl rfl) (st (v := (B ((r8.length : Int) == 0))) (rv_pick_f (congrArg B hb28) rfl) (w_end ?_))))
    obtain rfl := sj h
    exact ⟨rfl, _, σ27, fr_join ⟨rfl, rfl, rfl, rfl, rfl, trivial⟩, rfl, H.sel' [3, 0] rfl rfl⟩
  ·clear hj
   have h := h'
   clear h' H
   rintro e a w ⟨rfl, ρ, σ29, rfl, rfl, H⟩
   refine q_then ?_
   refine cd_cond o15 rfl (fun hb30 => ?_) (fun hb30 => ?_)
   ·replace h := bif_t hb30 h
    refine c_seq (rg (sm (Sl a11 r8 c12) rfl (sm (Sl a5 r2.1 c6) rfl (sm (I r2.2.1) rfl (sm (I r2.2.2) rfl ?_)))))
    obtain ⟨σ31, hw32, H, -⟩ := H.pub 0 rfl (Nat.le_refl _)
    rw [← hw32]; clear hw32
    replace H := H.roLow 0 0 rfl (Nat.zero_le _)
    revert h; refine br fun r33 hx34 h => ?_
    have hc35 := c_spec_LinksOf (Au := a5) (Av := c6) hx34
    refine st_call (cx_call hc35 (ent_f hc35.fn rfl) hn0 (H.sel' [0, 0, 1, 2] rfl rfl : Hp S0 σ0 _ ([_] ++ _))) wn ?_
    rintro _ σ38 ⟨_, ⟨a36, c37, rfl, rfl⟩, H, -⟩
    replace H : Hp _ _ _ [_, _, _, _] := H
    obtain ⟨σ39, hw40, H, -⟩ := H.pub 3 rfl (Nat.le_refl _)
    rw [← hw40]; clear hw40
    obtain ⟨σ41, hw42, H, -⟩ := H.pub 1 rfl (Nat.le_refl _)
    rw [← hw42]; clear hw42
    replace H := H.roLow 1 0 rfl (Nat.zero_le _)
    replace H := H.roLow 1 0 rfl (Nat.zero_le _)
    revert h; refine br fun r43 hx44 h => ?_
    have hc45 := c_laws_equalLists (El := a11) (Em := c12) (En := a36) (Eo := c37) hx44
    refine st_call (cx_call hc45 (ent_f hc45.fn rfl) hn0 (H.sel' [1, 0, 0, 1, 2, 3, 4, 5] rfl rfl : Hp S0 σ0 _ ([_, _] ++ _))) wn ?_
    rintro _ σ46 ⟨_, ⟨rfl, rfl⟩, H, -⟩
    replace H : Hp _ _ _ [_, _, _, _, _, _] := H
    refine sa (B r43) rfl (w_end (q_then (c_ret (q_then_r ?_))))
    obtain rfl := sj h
    exact fin_ret (v := (B r43)) (results_ok Tryz.results3 (res_tmp (v := (B r43)) rfl res_nil) rfl) ⟨rfl, rfl⟩ (H.sel' [] rfl rfl)
   ·replace h := bif_f hb30 h
    refine c_skip (q_then (c_seq (c_seq (rg (sa (I 0) rfl (w_end (q_then ?_)))))))
    obtain ⟨o47, hj, h'⟩ := bind_some h
    clear h
    refine c_cut (fun e a w => (∃ t, o47 = (.inl t) ∧ e = .normal ∧ ∃ (ρ : Nat → Value) (σ : St), a = fr 88 (updL ρ [(3, (Sl a5 r2.1 c6)), (6, (Sl a11 r8 c12))]) ∧ w = σ.w ∧ Hp S0 σ0 σ [Ch.ro n0 (Sl a5 r2.1 c6) r2.1, Ch.ro n0 (Sl a11 r8 c12) r8]) ∨ (∃ t, o47 = (.inr t) ∧ e = .ret ∧ ∃ (ρ : Nat → Value) (σ : St), a = fr 88 (updL ρ [(2, (B t))]) ∧ w = σ.w ∧ Hp S0 σ0 σ [])) ?_ ?_
    ·clear h'
     rename _ = some o47 => h
     refine c_blk ?_
     obtain ⟨σ49, hw50, H, -⟩ := H.pub 0 rfl (Nat.le_refl _)
     rw [← hw50]; clear hw50
     obtain ⟨σ51, hw52, H, -⟩ := H.pub 1 rfl (Nat.le_refl _)
     rw [← hw52]; clear hw52
     refine wp_loopM _ h (fun s48 a w => ∃ (ρ : Nat → Value) (σ : St), a = fr 88 (updL ρ [(3, (Sl a5 r2.1 c6)), (4, (I r2.2.1)), (5, (I r2.2.2)), (6, (Sl a11 r8 c12)), (7, (I s48))]) ∧ w = σ.w ∧ Hp S0 σ0 σ [Ch.ro n0 (Sl a5 r2.1 c6) r2.1, Ch.ro n0 (Sl a11 r8 c12) r8]) ⟨_, σ51, fr_join ⟨rfl, rfl, rfl, rfl, rfl, trivial⟩, rfl, H.sel' [1, 0] rfl rfl⟩ ?_
     clear h H
     rintro s48 a w o ⟨ρ, σ53, rfl, rfl, H⟩ h hres
     refine c_seq (c_seq (rg (sm (I s48) rfl (sm (Sl a5 r2.1 c6) rfl (st (v := (I (r2.1.length : Int))) (rv_len Tryz.underlying23 rfl) (st (v := (B (decide (s48 < (r2.1.length : Int))))) (rv_lss (a := s48) (b := (r2.1.length : Int)) rfl rfl) (w_end (q_then ?_))))))))
     refine cd_cond (decide (s48 < (r2.1.length : Int))) rfl (fun hb54 => ?_) (fun hb54 => ?_)
     ·replace h := bif_t hb54 h
      refine c_skip (q_then (c_seq (c_blk (c_seq (rg (sm (Sl a5 r2.1 c6) rfl (sm (Sl a5 r2.1 c6) rfl (sm (I s48) rfl ?_))))))))
      revert h; refine br fun x55 hx56 h => ?_
      obtain ⟨b58, o59, hi57, -⟩ := (H.ro 0 rfl).ix hx56
      refine st (v := (pt b58 o59)) (rv_ix Tryz.underlying23 ti33 rfl rfl hi57) (st (v := (pt b58 (o59 + 0))) (rv_fieldAddr (off := 0) (ft := 3) Tryz.underlying33 rfl ti3 rfl rfl) ?_)
      have hc60 := ((H.ro 0 rfl).at hx56 hi57).fst.int
      refine st (v := (I x55.1)) (rv_load1 Tryz.underlying3 rfl rfl hc60) ?_
      replace H := H.roLow 0 0 rfl (Nat.zero_le _)
      revert h; refine br fun r61 hx62 h => ?_
      have hc63 := c_impl_DropItem (Au := a5) (Av := c6) hx62
      refine st_call (cx_call hc63 (ent_f hc63.fn rfl) hn0 (H.sel' [0, 0, 1, 2] rfl rfl : Hp S0 σ0 _ ([_] ++ _))) wn ?_
      rintro _ σ66 ⟨_, ⟨a64, c65, rfl, rfl⟩, H, -⟩
      replace H : Hp _ _ _ [_, _, _, _] := H
      refine sm (.tuple #[(Sl a64 r61.1 c65), (B r61.2)]) rfl (st (v := (Sl a64 r61.1 c65)) (rv_extract rfl rfl) (st (v := (B r61.2)) (rv_extract rfl rfl) (sa (Sl a64 r61.1 c65) rfl (sa (B r61.2) rfl (w_end (q_then (c_seq ?_)))))))
      obtain ⟨o67, hj, h'⟩ := bind_some h
      clear h
      refine c_cut (fun e a w => e = .normal ∧ ∃ (ρ : Nat → Value) (σ : St), a = fr 88 (updL ρ [(3, (Sl a5 r2.1 c6)), (4, (I r2.2.1)), (5, (I r2.2.2)), (6, (Sl a11 r8 c12)), (7, (I s48)), (82, (B o67))]) ∧ w = σ.w ∧ Hp S0 σ0 σ [Ch.ro n0 (Sl a5 r2.1 c6) r2.1, Ch.ro n0 (Sl a11 r8 c12) r8]) ?_ ?_
      ·clear h'
       rename _ = some o67 => h
       obtain ⟨σ68, hw69, H, -⟩ := H.pub 0 rfl (Nat.le_refl _)
       rw [← hw69]; clear hw69
       rcases Bool.eq_false_or_eq_true (!r61.2) with hb70 | hb70
       ·replace h := bif_t hb70 h
        have Hs := H
        refine rg2 (σ := σ68) (Nm := Unit) 23 [] [[]] [[(0, 0)], [(0, 0)], [(0, 0)], [(0, 0)], [(0, 0)], [(0, 0)], [(0, 0)], [(0, 0)], [(0, 0)], [(0, 0)], [(0, 0)], [(0, 0)], [(0, 0)], [(0, 0)], [(0, 0)], [(0, 0)], [(0, 0)], [(0, 0)], [(0, 0)], [(0, 0)], [(0, 0)], [(0, 0)], [(0, 0)]] 0 [fun _ => fun σm => Hp S0 σ0 σm [Ch.ro 0 (Sl a64 r61.1 c65) r61.1, Ch.ro 0 (Sl a5 r2.1 c6) r2.1, Ch.ro n0 (Sl a5 r2.1 c6) r2.1, Ch.ro n0 (Sl a11 r8 c12) r8] ∧ Md (cov []) σ68 σm] [fun _ => (B r61.2), fun _ => (B (!r61.2)), fun _ => (B (!r61.2)), fun _ => undef, fun _ => undef, fun _ => undef, fun _ => undef, fun _ => (B true), fun _ => (B true), fun _ => undef, fun _ => undef, fun _ => undef, fun _ => undef, fun _ => undef, fun _ => undef, fun _ => undef, fun _ => undef, fun _ => undef, fun _ => undef, fun _ => undef, fun _ => undef, fun _ => undef, fun _ => undef] () (by kernel_rfl) (by kernel_rfl) ?_ ?_ ?_
        ·intro σm m0
         exact ⟨H.grow (m0.mono fun _ h => h.elim), m0⟩
        ·refine ac rfl (by
           intro k _nm ρ σm hJ hoff hdep
           have e9 := look_off (N := 88) (hoff 9 rfl) rfl
           exact dp_v (v := (B r61.2)) wn (rv_move e9) rfl hJ) ?_
         refine ac rfl (by
           intro k _nm ρ σm hJ hoff hdep
           have e57 := hdep 0 rfl rfl 57 rfl
           exact dp_v (v := (B (!r61.2))) wn (rv_not e57) rfl hJ) ?_
         refine ac rfl (by
           intro k _nm ρ σm hJ hoff hdep
           have e58 := hdep 1 rfl rfl 58 rfl
           exact dp_v (v := (B (!r61.2))) wn (rv_move e58) rfl hJ) ?_
         refine ac rfl (by
           intro k _nm ρ σm hJ hoff hdep
           have e59 := hdep 2 rfl rfl 59 rfl
           exact dp_skip (wanted_no rfl (yv_of rfl (e59.trans (congrArg B hb70)))) rfl hJ) ?_
         refine ac rfl (by
           intro k _nm ρ σm hJ hoff hdep
           have e59 := hdep 2 rfl rfl 59 rfl
           exact dp_skip (wanted_no rfl (yv_of rfl (e59.trans (congrArg B hb70)))) rfl hJ) ?_
         refine ac rfl (by
           intro k _nm ρ σm hJ hoff hdep
           have e59 := hdep 2 rfl rfl 59 rfl
           exact dp_skip (wanted_no rfl (yv_of rfl (e59.trans (congrArg B hb70)))) rfl hJ) ?_
         refine ac rfl (by
           intro k _nm ρ σm hJ hoff hdep
           have e59 := hdep 2 rfl rfl 59 rfl
           exact dp_skip (wanted_no rfl (yv_of rfl (e59.trans (congrArg B hb70)))) rfl hJ) ?_
         refine ac rfl (by
           intro k _nm ρ σm hJ hoff hdep
           have e59 := hdep 2 rfl rfl 59 rfl
           exact dp_v (v := (B true)) wn (rv_pick_t (e59.trans (congrArg B hb70)) rfl) rfl hJ) ?_
         refine ac rfl (by
           intro k _nm ρ σm hJ hoff hdep
           have e64 := hdep 7 rfl rfl 64 rfl
           exact dp_v (v := (B true)) wn (rv_move e64) rfl hJ) ?_
         refine ac rfl (by
           intro k _nm ρ σm hJ hoff hdep
           have e65 := hdep 8 rfl rfl 65 rfl
           exact dp_skip (wanted_no rfl (yv_of rfl e65)) rfl hJ) ?_
         refine ac rfl (by
           intro k _nm ρ σm hJ hoff hdep
           have e65 := hdep 8 rfl rfl 65 rfl
           exact dp_skip (wanted_no rfl (yv_of rfl e65)) rfl hJ) ?_
         refine ac rfl (by
           intro k _nm ρ σm hJ hoff hdep
           have e65 := hdep 8 rfl rfl 65 rfl
           exact dp_skip (wanted_no rfl (yv_of rfl e65)) rfl hJ) ?_
         refine ac rfl (by
           intro k _nm ρ σm hJ hoff hdep
           have e65 := hdep 8 rfl rfl 65 rfl
           exact dp_skip (wanted_no rfl (yv_of rfl e65)) rfl hJ) ?_
         refine ac rfl (by
           intro k _nm ρ σm hJ hoff hdep
           have e65 := hdep 8 rfl rfl 65 rfl
           exact dp_skip (wanted_no rfl (yv_of rfl e65)) rfl hJ) ?_
         refine ac rfl (by
           intro k _nm ρ σm hJ hoff hdep
           have e65 := hdep 8 rfl rfl 65 rfl
           exact dp_skip (wanted_no rfl (yv_of rfl e65)) rfl hJ) ?_
         refine ac rfl (by
           intro k _nm ρ σm hJ hoff hdep
           have e65 := hdep 8 rfl rfl 65 rfl
           exact dp_skip (wanted_no rfl (yv_of rfl e65)) rfl hJ) ?_
         refine ac rfl (by
           intro k _nm ρ σm hJ hoff hdep
           have e65 := hdep 8 rfl rfl 65 rfl
           exact dp_skip (wanted_no rfl (yv_of rfl e65)) rfl hJ) ?_
         refine ac rfl (by
           intro k _nm ρ σm hJ hoff hdep
           have e65 := hdep 8 rfl rfl 65 rfl
           exact dp_skip (wanted_no rfl (yv_of rfl e65)) rfl hJ) ?_
         refine ac rfl (by
           intro k _nm ρ σm hJ hoff hdep
           have e65 := hdep 8 rfl rfl 65 rfl
           exact dp_skip (wanted_no rfl (yv_of rfl e65)) rfl hJ) ?_
         refine ac rfl (by
           intro k _nm ρ σm hJ hoff hdep
           have e65 := hdep 8 rfl rfl 65 rfl
           exact dp_skip (wanted_no rfl (yv_of rfl e65)) rfl hJ) ?_
         refine ac rfl (by
           intro k _nm ρ σm hJ hoff hdep
           have e65 := hdep 8 rfl rfl 65 rfl
           exact dp_skip (wanted_no rfl (yv_of rfl e65)) rfl hJ) ?_
         refine ac rfl (by
           intro k _nm ρ σm hJ hoff hdep
           have e65 := hdep 8 rfl rfl 65 rfl
           exact dp_skip (wanted_no rfl (yv_of rfl e65)) rfl hJ) ?_
         refine ac rfl (by
           intro k _nm ρ σm hJ hoff hdep
           have e65 := hdep 8 rfl rfl 65 rfl
           exact dp_skip (wanted_no rfl (yv_of rfl e65)) rfl hJ) ?_
         exact all_nil
        ·intro _nm ρ σ71 hJ hoff hrel
         have e3 := look_off (N := 88) (hoff 3 rfl) rfl
         have e4 := look_off (N := 88) (hoff 4 rfl) rfl
         have e5 := look_off (N := 88) (hoff 5 rfl) rfl
         have e6 := look_off (N := 88) (hoff 6 rfl) rfl
         have e7 := look_off (N := 88) (hoff 7 rfl) rfl
         have e65 := hrel 8 rfl 65 rfl
         have e69 := hrel 12 rfl 69 rfl
         have e79 := hrel 22 rfl 79 rfl
         obtain ⟨H, -⟩ := (show Hp S0 σ0 σ71 [Ch.ro 0 (Sl a64 r61.1 c65) r61.1, Ch.ro 0 (Sl a5 r2.1 c6) r2.1, Ch.ro n0 (Sl a5 r2.1 c6) r2.1, Ch.ro n0 (Sl a11 r8 c12) r8] ∧ Md (cov []) σ68 σ71 from hJ)
         clear hJ Hs
         rw [fr_lookL (L := [(3, (Sl a5 r2.1 c6)), (4, (I r2.2.1)), (5, (I r2.2.2)), (6, (Sl a11 r8 c12)), (7, (I s48)), (65, (B true)), (69, undef), (79, undef)]) ⟨e3, e4, e5, e6, e7, e65, e69, e79, trivial⟩]
         clear hoff hrel e3 e4 e5 e6 e7 e65 e69 e79
         refine st_skip rfl (st_skip rfl (st (v := (B true)) (rv_pick_t rfl rfl) (w_end ?_)))
         obtain rfl := sj h
         exact ⟨rfl, _, σ71, fr_join ⟨rfl, rfl, rfl, rfl, rfl, rfl, trivial⟩, rfl, H.sel' [2, 3] rfl rfl⟩
       ·replace h := bif_f hb70 h
        rcases Bool.eq_false_or_eq_true (decide ((r8.length : Int) ≤ s48)) with hb72 | hb72
        ·replace h := bif_t hb72 h
         have Hs := H
         refine rg2 (σ := σ68) (Nm := Unit) 23 [] [[]] [[(0, 0)], [(0, 0)], [(0, 0)], [(0, 0)], [(0, 0)], [(0, 0)], [(0, 0)], [(0, 0)], [(0, 0)], [(0, 0)], [(0, 0)], [(0, 0)], [(0, 0)], [(0, 0)], [(0, 0)], [(0, 0)], [(0, 0)], [(0, 0)], [(0, 0)], [(0, 0)], [(0, 0)], [(0, 0)], [(0, 0)]] 0 [fun _ => fun σm => Hp S0 σ0 σm [Ch.ro 0 (Sl a64 r61.1 c65) r61.1, Ch.ro 0 (Sl a5 r2.1 c6) r2.1, Ch.ro n0 (Sl a5 r2.1 c6) r2.1, Ch.ro n0 (Sl a11 r8 c12) r8] ∧ Md (cov []) σ68 σm] [fun _ => (B r61.2), fun _ => (B (!r61.2)), fun _ => (B (!r61.2)), fun _ => (I s48), fun _ => (Sl a11 r8 c12), fun _ => (I (r8.length : Int)), fun _ => (B (decide ((r8.length : Int) ≤ s48))), fun _ => (B (decide ((r8.length : Int) ≤ s48))), fun _ => (B (decide ((r8.length : Int) ≤ s48))), fun _ => undef, fun _ => undef, fun _ => undef, fun _ => undef, fun _ => undef, fun _ => undef, fun _ => undef, fun _ => undef, fun _ => undef, fun _ => undef, fun _ => undef, fun _ => undef, fun _ => undef, fun _ => undef] () (by kernel_rfl) (by kernel_rfl) ?_ ?_ ?_
         ·intro σm m0
          exact ⟨H.grow (m0.mono fun _ h => h.elim), m0⟩
         ·refine ac rfl (by
            intro k _nm ρ σm hJ hoff hdep
            have e9 := look_off (N := 88) (hoff 9 rfl) rfl
            exact dp_v (v := (B r61.2)) wn (rv_move e9) rfl hJ) ?_
          refine ac rfl (by
            intro k _nm ρ σm hJ hoff hdep
            have e57 := hdep 0 rfl rfl 57 rfl
            exact dp_v (v := (B (!r61.2))) wn (rv_not e57) rfl hJ) ?_
          refine ac rfl (by
            intro k _nm ρ σm hJ hoff hdep
            have e58 := hdep 1 rfl rfl 58 rfl
            exact dp_v (v := (B (!r61.2))) wn (rv_move e58) rfl hJ) ?_
          refine ac rfl (by
            intro k _nm ρ σm hJ hoff hdep
            have e7 := look_off (N := 88) (hoff 7 rfl) rfl
            have e59 := hdep 2 rfl rfl 59 rfl
            exact dp_v (v := (I s48)) (wanted_yes rfl (yv_of rfl (e59.trans (congrArg B hb70)))) (rv_move e7) rfl hJ) ?_
          refine ac rfl (by
            intro k _nm ρ σm hJ hoff hdep
            have e6 := look_off (N := 88) (hoff 6 rfl) rfl
            have e59 := hdep 2 rfl rfl 59 rfl
            exact dp_v (v := (Sl a11 r8 c12)) (wanted_yes rfl (yv_of rfl (e59.trans (congrArg B hb70)))) (rv_move e6) rfl hJ) ?_
          refine ac rfl (by
            intro k _nm ρ σm hJ hoff hdep
            have e61 := hdep 4 rfl rfl 61 rfl
            have e59 := hdep 2 rfl rfl 59 rfl
            exact dp_v (v := (I (r8.length : Int))) (wanted_yes rfl (yv_of rfl (e59.trans (congrArg B hb70)))) (rv_len Tryz.underlying26 e61) rfl hJ) ?_
          refine ac rfl (by
            intro k _nm ρ σm hJ hoff hdep
            have e60 := hdep 3 rfl rfl 60 rfl
            have e62 := hdep 5 rfl rfl 62 rfl
            have e59 := hdep 2 rfl rfl 59 rfl
            exact dp_v (v := (B (decide ((r8.length : Int) ≤ s48)))) (wanted_yes rfl (yv_of rfl (e59.trans (congrArg B hb70)))) (rv_geq (a := s48) (b := (r8.length : Int)) e60 e62) rfl hJ) ?_
          refine ac rfl (by
            intro k _nm ρ σm hJ hoff hdep
            have e59 := hdep 2 rfl rfl 59 rfl
            have e63 := hdep 6 rfl rfl 63 rfl
            exact dp_v (v := (B (decide ((r8.length : Int) ≤ s48)))) wn (rv_pick_f (e59.trans (congrArg B hb70)) e63) rfl hJ) ?_
          refine ac rfl (by
            intro k _nm ρ σm hJ hoff hdep
            have e64 := hdep 7 rfl rfl 64 rfl
            exact dp_v (v := (B (decide ((r8.length : Int) ≤ s48)))) wn (rv_move e64) rfl hJ) ?_
          refine ac rfl (by
            intro k _nm ρ σm hJ hoff hdep
            have e65 := hdep 8 rfl rfl 65 rfl
            exact dp_skip (wanted_no rfl (yv_of rfl (e65.trans (congrArg B hb72)))) rfl hJ) ?_
          refine ac rfl (by
            intro k _nm ρ σm hJ hoff hdep
            have e65 := hdep 8 rfl rfl 65 rfl
            exact dp_skip (wanted_no rfl (yv_of rfl (e65.trans (congrArg B hb72)))) rfl hJ) ?_
          refine ac rfl (by
            intro k _nm ρ σm hJ hoff hdep
            have e65 := hdep 8 rfl rfl 65 rfl
            exact dp_skip (wanted_no rfl (yv_of rfl (e65.trans (congrArg B hb72)))) rfl hJ) ?_
          refine ac rfl (by
            intro k _nm ρ σm hJ hoff hdep
            have e65 := hdep 8 rfl rfl 65 rfl
            exact dp_skip (wanted_no rfl (yv_of rfl (e65.trans (congrArg B hb72)))) rfl hJ) ?_
          refine ac rfl (by
            intro k _nm ρ σm hJ hoff hdep
            have e65 := hdep 8 rfl rfl 65 rfl
            exact dp_skip (wanted_no rfl (yv_of rfl (e65.trans (congrArg B hb72)))) rfl hJ) ?_
          refine ac rfl (by
            intro k _nm ρ σm hJ hoff hdep
            have e65 := hdep 8 rfl rfl 65 rfl
            exact dp_skip (wanted_no rfl (yv_of rfl (e65.trans (congrArg B hb72)))) rfl hJ) ?_
          refine ac rfl (by
            intro k _nm ρ σm hJ hoff hdep
            have e65 := hdep 8 rfl rfl 65 rfl
            exact dp_skip (wanted_no rfl (yv_of rfl (e65.trans (congrArg B hb72)))) rfl hJ) ?_
          refine ac rfl (by
            intro k _nm ρ σm hJ hoff hdep
            have e65 := hdep 8 rfl rfl 65 rfl
            exact dp_skip (wanted_no rfl (yv_of rfl (e65.trans (congrArg B hb72)))) rfl hJ) ?_
          refine ac rfl (by
            intro k _nm ρ σm hJ hoff hdep
            have e65 := hdep 8 rfl rfl 65 rfl
            exact dp_skip (wanted_no rfl (yv_of rfl (e65.trans (congrArg B hb72)))) rfl hJ) ?_
          refine ac rfl (by
            intro k _nm ρ σm hJ hoff hdep
            have e65 := hdep 8 rfl rfl 65 rfl
            exact dp_skip (wanted_no rfl (yv_of rfl (e65.trans (congrArg B hb72)))) rfl hJ) ?_
          refine ac rfl (by
            intro k _nm ρ σm hJ hoff hdep
            have e65 := hdep 8 rfl rfl 65 rfl
            exact dp_skip (wanted_no rfl (yv_of rfl (e65.trans (congrArg B hb72)))) rfl hJ) ?_
          refine ac rfl (by
            intro k _nm ρ σm hJ hoff hdep
            have e65 := hdep 8 rfl rfl 65 rfl
            exact dp_skip (wanted_no rfl (yv_of rfl (e65.trans (congrArg B hb72)))) rfl hJ) ?_
          refine ac rfl (by
            intro k _nm ρ σm hJ hoff hdep
            have e65 := hdep 8 rfl rfl 65 rfl
            exact dp_skip (wanted_no rfl (yv_of rfl (e65.trans (congrArg B hb72)))) rfl hJ) ?_
          refine ac rfl (by
            intro k _nm ρ σm hJ hoff hdep
            have e65 := hdep 8 rfl rfl 65 rfl
            exact dp_skip (wanted_no rfl (yv_of rfl (e65.trans (congrArg B hb72)))) rfl hJ) ?_
          exact all_nil
         ·intro _nm ρ σ73 hJ hoff hrel
          have e3 := look_off (N := 88) (hoff 3 rfl) rfl
          have e4 := look_off (N := 88) (hoff 4 rfl) rfl
          have e5 := look_off (N := 88) (hoff 5 rfl) rfl
          have e6 := look_off (N := 88) (hoff 6 rfl) rfl
          have e7 := look_off (N := 88) (hoff 7 rfl) rfl
          have e65 := hrel 8 rfl 65 rfl
          have e69 := hrel 12 rfl 69 rfl
          have e79 := hrel 22 rfl 79 rfl
          obtain ⟨H, -⟩ := (show Hp S0 σ0 σ73 [Ch.ro 0 (Sl a64 r61.1 c65) r61.1, Ch.ro 0 (Sl a5 r2.1 c6) r2.1, Ch.ro n0 (Sl a5 r2.1 c6) r2.1, Ch.ro n0 (Sl a11 r8 c12) r8] ∧ Md (cov []) σ68 σ73 from hJ)
          clear hJ Hs
          rw [fr_lookL (L := [(3, (Sl a5 r2.1 c6)), (4, (I r2.2.1)), (5, (I r2.2.2)), (6, (Sl a11 r8 c12)), (7, (I s48)), (65, (B (decide ((r8.length : Int) ≤ s48)))), (69, undef), (79, undef)]) ⟨e3, e4, e5, e6, e7, e65, e69, e79, trivial⟩]
          clear hoff hrel e3 e4 e5 e6 e7 e65 e69 e79
          refine st_skip (congrArg some hb72) (st_skip (congrArg some hb72) (st (v := (B true)) (rv_pick_t (congrArg B hb72) rfl) (w_end ?_)))
          obtain rfl := sj h
          exact ⟨rfl, _, σ73, fr_join ⟨rfl, rfl, rfl, rfl, rfl, rfl, trivial⟩, rfl, H.sel' [2, 3] rfl rfl⟩
        ·replace h := bif_f hb72 h
         revert h; refine br fun x74 hx75 h => ?_
         obtain ⟨b77, o78, hi76, -⟩ := (H.ro 3 rfl).ix hx75
         obtain ⟨v82, hc83, hR81⟩ := ((H.ro 3 rfl).at hx75 hi76).slice
         obtain ⟨a79, c80, rfl⟩ := hR81.isSl
         replace H := H.add (d := Ch.ro n0 (Sl a79 x74 c80) x74) hR81 (fun _ h => h)
         clear hR81
         revert h; refine br fun x84 hx85 h => ?_
         obtain ⟨b87, o88, hi86, -⟩ := (H.ro 3 rfl).ix hx85
         obtain ⟨v92, hc93, hR91⟩ := ((H.ro 3 rfl).at hx85 hi86).snd.fst.slice
         obtain ⟨a89, c90, rfl⟩ := hR91.isSl
         replace H := H.add (d := Ch.ro n0 (Sl a89 x84.2.1 c90) x84.2.1) hR91 (fun _ h => h)
         clear hR91
         replace H := H.roLow 0 0 rfl (Nat.zero_le _)
         revert h; refine br fun r94 hx95 h => ?_
         have hc96 := c_impl_Nearest (Au := a64) (Av := c65) (Cj := a89) (Ck := c90) hx95
         revert h; refine br fun r99 hx100 h => ?_
         have hc101 := fun (a97 : Option Addr) (c98 : Nat) => c_laws_keys (Au := a97) (Av := c98) hx100
         have Hs := H
         refine rg2 (σ := σ68) (Nm := (Option Addr) × (Nat) × (Option Addr) × (Nat)) 23 [21, 22] [[false, false], [true, false], [true, true]] [[(0, 0)], [(0, 0)], [(0, 0)], [(0, 0)], [(0, 0)], [(0, 0)], [(0, 0)], [(0, 0)], [(0, 0)], [(0, 0), (1, 1), (2, 2)], [(0, 0), (1, 1), (2, 2)], [(0, 0), (1, 1), (2, 2)], [(0, 0), (1, 1), (2, 2)], [(0, 0)], [(0, 0)], [(0, 0)], [(0, 0)], [(0, 0)], [(0, 0)], [(0, 0)], [(0, 0)], [(0, 1)], [(1, 2)]] 2 [fun ((a97, c98, a102, c103) : (Option Addr) × (Nat) × (Option Addr) × (Nat)) => fun σm => Hp S0 σ0 σm [Ch.ro 0 (Sl a89 x84.2.1 c90) x84.2.1, Ch.ro n0 (Sl a89 x84.2.1 c90) x84.2.1, Ch.ro n0 (Sl a79 x74 c80) x74, Ch.ro 0 (Sl a64 r61.1 c65) r61.1, Ch.ro 0 (Sl a5 r2.1 c6) r2.1, Ch.ro n0 (Sl a5 r2.1 c6) r2.1, Ch.ro n0 (Sl a11 r8 c12) r8] ∧ Md (cov []) σ68 σm, fun ((a97, c98, a102, c103) : (Option Addr) × (Nat) × (Option Addr) × (Nat)) => fun σm => Hp S0 σ0 σm [Ch.ro 0 (Sl a97 r94 c98) r94, Ch.ro 0 (Sl a89 x84.2.1 c90) x84.2.1, Ch.ro n0 (Sl a89 x84.2.1 c90) x84.2.1, Ch.ro n0 (Sl a79 x74 c80) x74, Ch.ro 0 (Sl a64 r61.1 c65) r61.1, Ch.ro 0 (Sl a5 r2.1 c6) r2.1, Ch.ro n0 (Sl a5 r2.1 c6) r2.1, Ch.ro n0 (Sl a11 r8 c12) r8] ∧ Md (fun i => (cov []) i ∨ (fun i => (cov [Ch.ro 0 (Sl a64 r61.1 c65) r61.1, Ch.ro 0 (Sl a89 x84.2.1 c90) x84.2.1]) i ∨ (fun b => blk (Sl a97 r94 c98) = some b) i) i) σ68 σm, fun ((a97, c98, a102, c103) : (Option Addr) × (Nat) × (Option Addr) × (Nat)) => fun σm => Hp S0 σ0 σm [Ch.own n0 n0 (Sl a102 r99 c103) r99, Ch.ro 0 (Sl a97 r94 c98) r94, Ch.ro 0 (Sl a89 x84.2.1 c90) x84.2.1, Ch.ro n0 (Sl a89 x84.2.1 c90) x84.2.1, Ch.ro n0 (Sl a79 x74 c80) x74, Ch.ro 0 (Sl a64 r61.1 c65) r61.1, Ch.ro 0 (Sl a5 r2.1 c6) r2.1, Ch.ro n0 (Sl a5 r2.1 c6) r2.1, Ch.ro n0 (Sl a11 r8 c12) r8] ∧ Md (fun i => (cov []) i ∨ (fun i => (cov [Ch.ro 0 (Sl a64 r61.1 c65) r61.1, Ch.ro 0 (Sl a89 x84.2.1 c90) x84.2.1]) i ∨ (fun b => blk (Sl a97 r94 c98) = some b) i) i) σ68 σm] [fun ((a97, c98, a102, c103) : (Option Addr) × (Nat) × (Option Addr) × (Nat)) => (B r61.2), fun ((a97, c98, a102, c103) : (Option Addr) × (Nat) × (Option Addr) × (Nat)) => (B (!r61.2)), fun ((a97, c98, a102, c103) : (Option Addr) × (Nat) × (Option Addr) × (Nat)) => (B (!r61.2)), fun ((a97, c98, a102, c103) : (Option Addr) × (Nat) × (Option Addr) × (Nat)) => (I s48), fun ((a97, c98, a102, c103) : (Option Addr) × (Nat) × (Option Addr) × (Nat)) => (Sl a11 r8 c12), fun ((a97, c98, a102, c103) : (Option Addr) × (Nat) × (Option Addr) × (Nat)) => (I (r8.length : Int)), fun ((a97, c98, a102, c103) : (Option Addr) × (Nat) × (Option Addr) × (Nat)) => (B (decide ((r8.length : Int) ≤ s48))), fun ((a97, c98, a102, c103) : (Option Addr) × (Nat) × (Option Addr) × (Nat)) => (B (decide ((r8.length : Int) ≤ s48))), fun ((a97, c98, a102, c103) : (Option Addr) × (Nat) × (Option Addr) × (Nat)) => (B (decide ((r8.length : Int) ≤ s48))), fun ((a97, c98, a102, c103) : (Option Addr) × (Nat) × (Option Addr) × (Nat)) => (Sl a11 r8 c12), fun ((a97, c98, a102, c103) : (Option Addr) × (Nat) × (Option Addr) × (Nat)) => (I s48), fun ((a97, c98, a102, c103) : (Option Addr) × (Nat) × (Option Addr) × (Nat)) => (pt b77 o78), fun ((a97, c98, a102, c103) : (Option Addr) × (Nat) × (Option Addr) × (Nat)) => (Sl a79 x74 c80), fun ((a97, c98, a102, c103) : (Option Addr) × (Nat) × (Option Addr) × (Nat)) => (Sl a64 r61.1 c65), fun ((a97, c98, a102, c103) : (Option Addr) × (Nat) × (Option Addr) × (Nat)) => (I r2.2.1), fun ((a97, c98, a102, c103) : (Option Addr) × (Nat) × (Option Addr) × (Nat)) => (Sl a5 r2.1 c6), fun ((a97, c98, a102, c103) : (Option Addr) × (Nat) × (Option Addr) × (Nat)) => (I s48), fun ((a97, c98, a102, c103) : (Option Addr) × (Nat) × (Option Addr) × (Nat)) => (pt b87 o88), fun ((a97, c98, a102, c103) : (Option Addr) × (Nat) × (Option Addr) × (Nat)) => (pt b87 (o88 + 1)), fun ((a97, c98, a102, c103) : (Option Addr) × (Nat) × (Option Addr) × (Nat)) => (Sl a89 x84.2.1 c90), fun ((a97, c98, a102, c103) : (Option Addr) × (Nat) × (Option Addr) × (Nat)) => (I r2.2.2), fun ((a97, c98, a102, c103) : (Option Addr) × (Nat) × (Option Addr) × (Nat)) => (Sl a97 r94 c98), fun ((a97, c98, a102, c103) : (Option Addr) × (Nat) × (Option Addr) × (Nat)) => (Sl a102 r99 c103)] (none, 0, none, 0) (by kernel_rfl) (by kernel_rfl) ?_ ?_ ?_
         ·intro σm m0
          exact ⟨H.grow (m0.mono fun _ h => h.elim), m0⟩
         ·refine ac rfl (by
            intro k; rintro ⟨a97, c98, a102, c103⟩ ρ σm hJ hoff hdep
            have e9 := look_off (N := 88) (hoff 9 rfl) rfl
            exact dp_v (v := (B r61.2)) wn (rv_move e9) rfl hJ) ?_
          refine ac rfl (by
            intro k; rintro ⟨a97, c98, a102, c103⟩ ρ σm hJ hoff hdep
            have e57 := hdep 0 rfl rfl 57 rfl
            exact dp_v (v := (B (!r61.2))) wn (rv_not e57) rfl hJ) ?_
          refine ac rfl (by
            intro k; rintro ⟨a97, c98, a102, c103⟩ ρ σm hJ hoff hdep
            have e58 := hdep 1 rfl rfl 58 rfl
            exact dp_v (v := (B (!r61.2))) wn (rv_move e58) rfl hJ) ?_
          refine ac rfl (by
            intro k; rintro ⟨a97, c98, a102, c103⟩ ρ σm hJ hoff hdep
            have e7 := look_off (N := 88) (hoff 7 rfl) rfl
            have e59 := hdep 2 rfl rfl 59 rfl
            exact dp_v (v := (I s48)) (wanted_yes rfl (yv_of rfl (e59.trans (congrArg B hb70)))) (rv_move e7) rfl hJ) ?_
          refine ac rfl (by
            intro k; rintro ⟨a97, c98, a102, c103⟩ ρ σm hJ hoff hdep
            have e6 := look_off (N := 88) (hoff 6 rfl) rfl
            have e59 := hdep 2 rfl rfl 59 rfl
            exact dp_v (v := (Sl a11 r8 c12)) (wanted_yes rfl (yv_of rfl (e59.trans (congrArg B hb70)))) (rv_move e6) rfl hJ) ?_
          refine ac rfl (by
            intro k; rintro ⟨a97, c98, a102, c103⟩ ρ σm hJ hoff hdep
            have e61 := hdep 4 rfl rfl 61 rfl
            have e59 := hdep 2 rfl rfl 59 rfl
            exact dp_v (v := (I (r8.length : Int))) (wanted_yes rfl (yv_of rfl (e59.trans (congrArg B hb70)))) (rv_len Tryz.underlying26 e61) rfl hJ) ?_
          refine ac rfl (by
            intro k; rintro ⟨a97, c98, a102, c103⟩ ρ σm hJ hoff hdep
            have e60 := hdep 3 rfl rfl 60 rfl
            have e62 := hdep 5 rfl rfl 62 rfl
            have e59 := hdep 2 rfl rfl 59 rfl
            exact dp_v (v := (B (decide ((r8.length : Int) ≤ s48)))) (wanted_yes rfl (yv_of rfl (e59.trans (congrArg B hb70)))) (rv_geq (a := s48) (b := (r8.length : Int)) e60 e62) rfl hJ) ?_
          refine ac rfl (by
            intro k; rintro ⟨a97, c98, a102, c103⟩ ρ σm hJ hoff hdep
            have e59 := hdep 2 rfl rfl 59 rfl
            have e63 := hdep 6 rfl rfl 63 rfl
            exact dp_v (v := (B (decide ((r8.length : Int) ≤ s48)))) wn (rv_pick_f (e59.trans (congrArg B hb70)) e63) rfl hJ) ?_
          refine ac rfl (by
            intro k; rintro ⟨a97, c98, a102, c103⟩ ρ σm hJ hoff hdep
            have e64 := hdep 7 rfl rfl 64 rfl
            exact dp_v (v := (B (decide ((r8.length : Int) ≤ s48)))) wn (rv_move e64) rfl hJ) ?_
          refine ac rfl (by
            intro k; rintro ⟨a97, c98, a102, c103⟩ ρ σm hJ hoff hdep
            have e6 := look_off (N := 88) (hoff 6 rfl) rfl
            have e65 := hdep 8 rfl rfl 65 rfl
            exact dp_v (v := (Sl a11 r8 c12)) (wanted_yes rfl (yv_of rfl (e65.trans (congrArg B hb72)))) (rv_move e6) rfl hJ) ?_
          refine ac rfl (by
            intro k; rintro ⟨a97, c98, a102, c103⟩ ρ σm hJ hoff hdep
            have e7 := look_off (N := 88) (hoff 7 rfl) rfl
            have e65 := hdep 8 rfl rfl 65 rfl
            exact dp_v (v := (I s48)) (wanted_yes rfl (yv_of rfl (e65.trans (congrArg B hb72)))) (rv_move e7) rfl hJ) ?_
          refine ac rfl (by
            intro k; rintro ⟨a97, c98, a102, c103⟩ ρ σm hJ hoff hdep
            have e66 := hdep 9 rfl rfl 66 rfl
            have e67 := hdep 10 rfl rfl 67 rfl
            have e65 := hdep 8 rfl rfl 65 rfl
            exact dp_v (v := (pt b77 o78)) (wanted_yes rfl (yv_of rfl (e65.trans (congrArg B hb72)))) (rv_ix Tryz.underlying26 ti31 e66 e67 hi76) rfl hJ) ?_
          refine all_cons (by
            refine ⟨?_, ?_⟩
            ·rintro ⟨a97, c98, a102, c103⟩ ρ σm hJ hoff hdep
             have e68 := hdep 11 rfl rfl 68 rfl
             have e65 := hdep 8 rfl rfl 65 rfl
             obtain ⟨H, m⟩ := id hJ
             replace hc83 := (Hs.ro 6 rfl).hmd hx75 hi76 (k := 0) (by decide) hc83 m
             exact dp_v (v := (Sl a79 x74 c80)) (wanted_yes rfl (yv_of rfl (e65.trans (congrArg B hb72)))) (rv_load1 Tryz.underlying31 rfl e68 hc83) rfl hJ
            refine ⟨?_, ?_⟩
            ·rintro ⟨a97, c98, a102, c103⟩ ρ σm hJ hoff hdep
             have e68 := hdep 11 rfl rfl 68 rfl
             have e65 := hdep 8 rfl rfl 65 rfl
             obtain ⟨H, m⟩ := id hJ
             replace hc83 := (Hs.ro 6 rfl).hmd hx75 hi76 (k := 0) (by decide) hc83 m
             exact dp_v (v := (Sl a79 x74 c80)) (wanted_yes rfl (yv_of rfl (e65.trans (congrArg B hb72)))) (rv_load1 Tryz.underlying31 rfl e68 hc83) rfl hJ
            refine ⟨?_, ?_⟩
            ·rintro ⟨a97, c98, a102, c103⟩ ρ σm hJ hoff hdep
             have e68 := hdep 11 rfl rfl 68 rfl
             have e65 := hdep 8 rfl rfl 65 rfl
             obtain ⟨H, m⟩ := id hJ
             replace hc83 := (Hs.ro 6 rfl).hmd hx75 hi76 (k := 0) (by decide) hc83 m
             exact dp_v (v := (Sl a79 x74 c80)) (wanted_yes rfl (yv_of rfl (e65.trans (congrArg B hb72)))) (rv_load1 Tryz.underlying31 rfl e68 hc83) rfl hJ
            trivial) ?_
          refine ac rfl (by
            intro k; rintro ⟨a97, c98, a102, c103⟩ ρ σm hJ hoff hdep
            have e8 := look_off (N := 88) (hoff 8 rfl) rfl
            have e65 := hdep 8 rfl rfl 65 rfl
            exact dp_v (v := (Sl a64 r61.1 c65)) (wanted_yes rfl (yv_of rfl (e65.trans (congrArg B hb72)))) (rv_move e8) rfl hJ) ?_
          refine ac rfl (by
            intro k; rintro ⟨a97, c98, a102, c103⟩ ρ σm hJ hoff hdep
            have e4 := look_off (N := 88) (hoff 4 rfl) rfl
            have e65 := hdep 8 rfl rfl 65 rfl
            exact dp_v (v := (I r2.2.1)) (wanted_yes rfl (yv_of rfl (e65.trans (congrArg B hb72)))) (rv_move e4) rfl hJ) ?_
          refine ac rfl (by
            intro k; rintro ⟨a97, c98, a102, c103⟩ ρ σm hJ hoff hdep
            have e3 := look_off (N := 88) (hoff 3 rfl) rfl
            have e65 := hdep 8 rfl rfl 65 rfl
            exact dp_v (v := (Sl a5 r2.1 c6)) (wanted_yes rfl (yv_of rfl (e65.trans (congrArg B hb72)))) (rv_move e3) rfl hJ) ?_
          refine ac rfl (by
            intro k; rintro ⟨a97, c98, a102, c103⟩ ρ σm hJ hoff hdep
            have e7 := look_off (N := 88) (hoff 7 rfl) rfl
            have e65 := hdep 8 rfl rfl 65 rfl
            exact dp_v (v := (I s48)) (wanted_yes rfl (yv_of rfl (e65.trans (congrArg B hb72)))) (rv_move e7) rfl hJ) ?_
          refine ac rfl (by
            intro k; rintro ⟨a97, c98, a102, c103⟩ ρ σm hJ hoff hdep
            have e72 := hdep 15 rfl rfl 72 rfl
            have e73 := hdep 16 rfl rfl 73 rfl
            have e65 := hdep 8 rfl rfl 65 rfl
            exact dp_v (v := (pt b87 o88)) (wanted_yes rfl (yv_of rfl (e65.trans (congrArg B hb72)))) (rv_ix Tryz.underlying23 ti33 e72 e73 hi86) rfl hJ) ?_
          refine ac rfl (by
            intro k; rintro ⟨a97, c98, a102, c103⟩ ρ σm hJ hoff hdep
            have e74 := hdep 17 rfl rfl 74 rfl
            have e65 := hdep 8 rfl rfl 65 rfl
            exact dp_v (v := (pt b87 (o88 + 1))) (wanted_yes rfl (yv_of rfl (e65.trans (congrArg B hb72)))) (rv_fieldAddr (off := 1) (ft := 31) Tryz.underlying33 rfl ti31 rfl e74) rfl hJ) ?_
          refine all_cons (by
            refine ⟨?_, ?_⟩
            ·rintro ⟨a97, c98, a102, c103⟩ ρ σm hJ hoff hdep
             have e75 := hdep 18 rfl rfl 75 rfl
             have e65 := hdep 8 rfl rfl 65 rfl
             obtain ⟨H, m⟩ := id hJ
             replace hc93 := (Hs.ro 5 rfl).hmd hx85 hi86 (k := 1) (by decide) hc93 m
             exact dp_v (v := (Sl a89 x84.2.1 c90)) (wanted_yes rfl (yv_of rfl (e65.trans (congrArg B hb72)))) (rv_load1 Tryz.underlying31 rfl e75 hc93) rfl hJ
            trivial) ?_
          refine ac rfl (by
            intro k; rintro ⟨a97, c98, a102, c103⟩ ρ σm hJ hoff hdep
            have e5 := look_off (N := 88) (hoff 5 rfl) rfl
            have e65 := hdep 8 rfl rfl 65 rfl
            exact dp_v (v := (I r2.2.2)) (wanted_yes rfl (yv_of rfl (e65.trans (congrArg B hb72)))) (rv_move e5) rfl hJ) ?_
          refine all_cons (by
            refine ⟨?_, ?_⟩
            ·rintro ⟨a97, c98, a102, c103⟩ ρ σm hJ hoff hdep
             have e70 : look 88 ρ 70 = (Sl a64 r61.1 c65) := hdep 13 rfl rfl 70 rfl
             have e71 : look 88 ρ 71 = (I r2.2.1) := hdep 14 rfl rfl 71 rfl
             have e76 : look 88 ρ 76 = (Sl a89 x84.2.1 c90) := hdep 19 rfl rfl 76 rfl
             have e77 : look 88 ρ 77 = (I r2.2.2) := hdep 20 rfl rfl 77 rfl
             have e65 := hdep 8 rfl rfl 65 rfl
             obtain ⟨H, m⟩ := id hJ
             refine dp_cx (wanted_yes rfl (yv_of rfl (e65.trans (congrArg B hb72)))) (cx_call hc96 (ent_f hc96.fn (by show [look 88 ρ 70, look 88 ρ 71, look 88 ρ 76, look 88 ρ 77] = _; rw [e70, e71, e76, e77])) hn0 (H.sel' [3, 0, 0, 1, 2, 3, 4, 5, 6] rfl rfl : Hp S0 σ0 _ ([_, _] ++ _))) ?_
             rintro _ σq ⟨_, ⟨a97x, c98x, rfl, rfl⟩, H2, m2⟩
             obtain ⟨σr0, hwr0, H2, mr0⟩ := H2.pubSc 0 rfl
             exact ⟨_, (a97x, c98x, a102, c103), hwr0, rfl, ⟨H2.sel' [0, 1, 2, 3, 4, 5, 6, 7] rfl rfl, m.comp (m2.comp mr0)⟩, stab [0, 1, 2, 3, 4, 5, 6, 7, 8, 9, 10, 11, 12, 13, 14, 15, 16, 17, 18, 19, 20] (by kernel_rfl) ⟨rfl, rfl, rfl, rfl, rfl, rfl, rfl, rfl, rfl, rfl, rfl, rfl, rfl, rfl, rfl, rfl, rfl, rfl, rfl, rfl, rfl, trivial⟩⟩
            trivial) ?_
          refine all_cons (by
            refine ⟨?_, ?_⟩
            ·rintro ⟨a97, c98, a102, c103⟩ ρ σm hJ hoff hdep
             have e78 : look 88 ρ 78 = (Sl a97 r94 c98) := hdep 21 rfl rfl 78 rfl
             have e65 := hdep 8 rfl rfl 65 rfl
             obtain ⟨H, m⟩ := id hJ
             refine dp_cx (wanted_yes rfl (yv_of rfl (e65.trans (congrArg B hb72)))) (cx_call (hc101 a97 c98) (ent_f (hc101 a97 c98).fn (by show [look 88 ρ 78] = _; rw [e78])) hn0 (H.sel' [0, 0, 1, 2, 3, 4, 5, 6, 7] rfl rfl : Hp S0 σ0 _ ([_] ++ _))) ?_
             rintro _ σq ⟨_, ⟨a102x, c103x, rfl, rfl⟩, H2, m2⟩
             exact ⟨_, (a97, c98, a102x, c103x), rfl, rfl, ⟨H2.sel' [0, 1, 2, 3, 4, 5, 6, 7, 8] rfl rfl, m.comp0 (m2.mono (fun i h => by simp [cov, Ch.ro] at h))⟩, stab [0, 1, 2, 3, 4, 5, 6, 7, 8, 9, 10, 11, 12, 13, 14, 15, 16, 17, 18, 19, 20, 21] (by kernel_rfl) ⟨rfl, rfl, rfl, rfl, rfl, rfl, rfl, rfl, rfl, rfl, rfl, rfl, rfl, rfl, rfl, rfl, rfl, rfl, rfl, rfl, rfl, rfl, trivial⟩⟩
            trivial) ?_
          exact all_nil
         ·rintro ⟨a97, c98, a102, c103⟩ ρ σ104 hJ hoff hrel
          have e3 := look_off (N := 88) (hoff 3 rfl) rfl
          have e4 := look_off (N := 88) (hoff 4 rfl) rfl
          have e5 := look_off (N := 88) (hoff 5 rfl) rfl
          have e6 := look_off (N := 88) (hoff 6 rfl) rfl
          have e7 := look_off (N := 88) (hoff 7 rfl) rfl
          have e65 := hrel 8 rfl 65 rfl
          have e69 := hrel 12 rfl 69 rfl
          have e79 := hrel 22 rfl 79 rfl
          obtain ⟨H, -⟩ := (show Hp S0 σ0 σ104 [Ch.own n0 n0 (Sl a102 r99 c103) r99, Ch.ro 0 (Sl a97 r94 c98) r94, Ch.ro 0 (Sl a89 x84.2.1 c90) x84.2.1, Ch.ro n0 (Sl a89 x84.2.1 c90) x84.2.1, Ch.ro n0 (Sl a79 x74 c80) x74, Ch.ro 0 (Sl a64 r61.1 c65) r61.1, Ch.ro 0 (Sl a5 r2.1 c6) r2.1, Ch.ro n0 (Sl a5 r2.1 c6) r2.1, Ch.ro n0 (Sl a11 r8 c12) r8] ∧ Md (fun i => (cov []) i ∨ (fun i => (cov [Ch.ro 0 (Sl a64 r61.1 c65) r61.1, Ch.ro 0 (Sl a89 x84.2.1 c90) x84.2.1]) i ∨ (fun b => blk (Sl a97 r94 c98) = some b) i) i) σ68 σ104 from hJ)
          clear hJ Hs
          rw [fr_lookL (L := [(3, (Sl a5 r2.1 c6)), (4, (I r2.2.1)), (5, (I r2.2.2)), (6, (Sl a11 r8 c12)), (7, (I s48)), (65, (B (decide ((r8.length : Int) ≤ s48)))), (69, (Sl a79 x74 c80)), (79, (Sl a102 r99 c103))]) ⟨e3, e4, e5, e6, e7, e65, e69, e79, trivial⟩]
          clear hoff hrel e3 e4 e5 e6 e7 e65 e69 e79
          obtain ⟨σ105, hw106, H, -⟩ := H.pub 0 rfl (Nat.le_refl _)
          rw [← hw106]; clear hw106
          replace H := H.roLow 4 0 rfl (Nat.zero_le _)
          replace H := H.roLow 1 0 rfl (Nat.zero_le _)
          revert h; refine br fun r107 hx108 h => ?_
          have hc109 := c_laws_equalInts (El := a79) (Em := c80) (En := a102) (Eo := c103) hx108
          refine st_call (cx_call hc109 (ent_f hc109.fn rfl) hn0 (H.sel' [1, 0, 0, 1, 2, 3, 4, 5, 6, 7, 8, 9, 10] rfl rfl : Hp S0 σ0 _ ([_, _] ++ _))) (wanted_yes rfl (by exact (congrArg some hb72))) ?_
          rintro _ σ110 ⟨_, ⟨rfl, rfl⟩, H, -⟩
          replace H : Hp _ _ _ [_, _, _, _, _, _, _, _, _, _, _] := H
          replace H : Hp S0 σ0 σ110 [Ch.ro n0 (Sl a5 r2.1 c6) r2.1, Ch.ro n0 (Sl a11 r8 c12) r8] := H.sel' [9, 10] rfl rfl
          refine st_g (v := (B (!r107))) (congrArg some hb72) (rv_not rfl) (st (v := (B (!r107))) (rv_pick_f (congrArg B hb72) rfl) (w_end ?_))
          obtain rfl := sj h
          exact ⟨rfl, _, σ110, fr_join ⟨rfl, rfl, rfl, rfl, rfl, rfl, trivial⟩, rfl, H.sel' [0, 1] rfl rfl⟩
      ·clear hj
       have h := h'
       clear h' H
       rintro e a w ⟨rfl, ρ, σ111, rfl, rfl, H⟩
       refine q_then ?_
       refine cd_cond o67 rfl (fun hb112 => ?_) (fun hb112 => ?_)
       ·replace h := bif_t hb112 h
        refine c_seq (rg (sa (B false) rfl (w_end (q_then (c_ret (q_blk_r (q_then_r (q_then_r (q_blk_r ?_)))))))))
        obtain rfl := sj h
        obtain rfl := hres _ rfl
        exact .inr (⟨_, rfl, rfl, _, σ111, fr_join ⟨rfl, trivial⟩, rfl, H.sel' [] rfl rfl⟩)
       ·replace h := bif_f hb112 h
        refine c_skip (q_blk (q_then (rg (sm (I s48) rfl (st (v := (I (w64 (s48 + 1)))) (rv_add (a := s48) (b := 1) rfl rfl) (sa (I (w64 (s48 + 1))) rfl (w_end (q_then ?_))))))))
        obtain rfl := sj h
        exact ⟨_, rfl, _, σ111, fr_join ⟨rfl, rfl, rfl, rfl, rfl, trivial⟩, rfl, H.sel' [0, 1] rfl rfl⟩
     ·replace h := bif_f hb54 h
      refine c_exit (q_then_x (q_then_x (q_blk_hit ?_)))
      obtain rfl := sj h
      obtain rfl := hres _ rfl
      exact .inl ⟨_, rfl, rfl, _, σ53, fr_join ⟨rfl, rfl, trivial⟩, rfl, H.sel' [0, 1] rfl rfl⟩
    ·clear hj
     have h := h'
     clear h' H
     rintro e a w (⟨t113, rfl, rfl, ρ, σ114, rfl, rfl, H⟩ | ⟨t115, rfl, rfl, ρ, σ116, rfl, rfl, H⟩)
     ·replace h := selim_l h
      refine q_then (c_seq (rg (sm (Sl a11 r8 c12) rfl (st (v := (I (r8.length : Int))) (rv_len Tryz.underlying26 rfl) (sm (Sl a5 r2.1 c6) rfl (st (v := (I (r2.1.length : Int))) (rv_len Tryz.underlying23 rfl) (st (v := (B ((r8.length : Int) == (r2.1.length : Int)))) (rv_eql (a := (r8.length : Int)) (b := (r2.1.length : Int)) rfl rfl) (sa (B ((r8.length : Int) == (r2.1.length : Int))) rfl (w_end (q_then (c_ret ?_)))))))))))
      obtain rfl := sj h
      exact fin_ret (v := (B ((r8.length : Int) == (r2.1.length : Int)))) (results_ok Tryz.results3 (res_tmp (v := (B ((r8.length : Int) == (r2.1.length : Int)))) rfl res_nil) rfl) ⟨rfl, rfl⟩ (H.sel' [] rfl rfl)
     ·replace h := selim_r h
      refine q_then_r ?_
      obtain rfl := sj h
      exact fin_ret (v := (B t115)) (results_ok Tryz.results3 (res_tmp (v := (B t115)) rfl res_nil) rfl) ⟨rfl, rfl⟩ (H.sel' [] rfl rfl)

end Go.Vs
