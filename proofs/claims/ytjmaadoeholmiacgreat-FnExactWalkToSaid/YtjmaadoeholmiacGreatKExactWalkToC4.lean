/- The functions compute what their models say. -/
import Derived.Test.YtjmaadoeholmiacGreatKExactWalkToC3
set_option linter.unusedVariables false
set_option linter.unusedSimpArgs false
set_option maxRecDepth 20000
namespace Go.Vs
open Go Go.Proofs
attribute [local irreducible] Code.wp Code.wpIn wpList wpListIn wpQuiet Calls CallsIn

theorem c_impl_nearestBy__impl_nearestAmong_1 {Ak : List (Int × (List Int) × Int)} {Gf : Int} {Gg : Int} {Gh : List Int} {Am : Option Addr} {Ao : Nat} {Gi Gj Gk : Nat} {Gl Gm : List Value} {Gn : Option Addr} {Gp : Nat} {Gq Gr Gs : Nat} {Gt Gu : List Value} {r : (List (Int × Int))} (h : M.impl_nearestBy__impl_nearestAmong_1 Ak Gf Gg Gh = some r) :
    Cal2 Tryz.prog 46 [(Sl Am Ak Ao), (I Gf), (.func (.func 47) #[] #[(pt Gj Gk), (pt Gr Gs)])] [Ch.ro 0 (Sl Am Ak Ao) Ak, Ch.bx Gi Gj Gk [(I Gg)] Gl Gm, Ch.bx Gq Gr Gs [(Sl Gn Gh Gp)] Gt Gu, Ch.ro 0 (Sl Gn Gh Gp) Gh] (fun n0 v L => ∃ (az1 : Option Addr), ∃ (cz2 : Nat), v = (Sl az1 r cz2) ∧ L = [Ch.own 0 n0 (Sl az1 r cz2) r, Ch.bx Gi Gj Gk [(I Gg)] Gl Gm, Ch.bx Gq Gr Gs [(Sl Gn Gh Gp)] Gt Gu]) := by
 refine cal2 (n := 27) Tryz.func46 rfl rfl rfl rfl ?_
 intro S0 σ0 n0 hn0 H
 unfold M.impl_nearestBy__impl_nearestAmong_1 at h
 refine c_seq (rg (sa (.slice none 0 0) rfl (w_end (q_then (c_seq (rg (sm (I Gf) rfl ?_)))))))
 refine st (v := (.agg #[(I Gf), (.slice none 0 0)])) (rv_build (ps := [(0, (I Gf))]) Tryz.underlying85 ti85 (bp85 Tryz.underlying85) rfl (by kernel_rfl)) ?_
 refine st_ex (ex_alloc (cs := [(I 0), (.slice none 0 0)]) H hn0 ti85 rfl) wn ?_
 rintro _ σ2 ⟨b1, rfl, H, -⟩
 refine st_exS (ex_store_box (k := 0) (cs := [(I 0), (.slice none 0 0)]) (vs := [(I Gf), (.slice none 0 0)]) (cs' := [(I Gf), (.slice none 0 0)]) H (i := 0) rfl ti85 rfl rfl rfl rfl rfl (Nat.le_of_ble_eq_true rfl) (by simp [plain]) rfl) wn ?_
 rintro σ3 ⟨H, -⟩
 refine w_end (q_then (c_seq (c_seq (rg (sm (Sl Am Ak Ao) rfl (st (v := (I (Ak.length : Int))) (rv_len Tryz.underlying27 rfl) (sm (I 0) rfl (w_end (q_then ?_)))))))))
 obtain ⟨o4, hj, h'⟩ := bind_some h
 clear h
 refine c_cut (fun e a w => e = .normal ∧ ∃ (ρ : Nat → Value) (σ : St) (aj1 : Option Addr) (cj2 : Nat), a = fr 27 (updL ρ [(2, (.func (.func 47) #[] #[(pt Gj Gk), (pt Gr Gs)])), (7, (pt b1 0))]) ∧ w = σ.w ∧ Hp S0 σ0 σ [Ch.bx n0 b1 0 [(I o4.1), (Sl aj1 o4.2 cj2)] [] [], Ch.own 0 0 (Sl aj1 o4.2 cj2) o4.2, Ch.bx Gi Gj Gk [(I Gg)] Gl Gm, Ch.ro 0 (Sl Gn Gh Gp) Gh, Ch.bx Gq Gr Gs [(Sl Gn Gh Gp)] Gt Gu]) ?_ ?_
 ·clear h'
  rename _ = some o4 => h
  refine c_blk ?_
  replace H := H.nilOwn (Int × Int) 0 0
  refine wp_loopM _ h (fun s5 a w => ∃ (ρ : Nat → Value) (σ : St) (aj1 : Option Addr) (cj2 : Nat), a = fr 27 (updL ρ [(2, (.func (.func 47) #[] #[(pt Gj Gk), (pt Gr Gs)])), (7, (pt b1 0)), (12, (Sl Am Ak Ao)), (13, (I (Ak.length : Int))), (14, (I s5.2))]) ∧ w = σ.w ∧ Hp S0 σ0 σ [Ch.bx n0 b1 0 [(I s5.1.1), (Sl aj1 s5.1.2 cj2)] [] [], Ch.own 0 0 (Sl aj1 s5.1.2 cj2) s5.1.2, Ch.bx Gi Gj Gk [(I Gg)] Gl Gm, Ch.ro 0 (Sl Gn Gh Gp) Gh, Ch.bx Gq Gr Gs [(Sl Gn Gh Gp)] Gt Gu, Ch.ro 0 (Sl Am Ak Ao) Ak]) ⟨_, σ3, none, 0, fr_join ⟨rfl, rfl, rfl, rfl, rfl, trivial⟩, rfl, H.sel' [1, 0, 3, 5, 4, 2] rfl rfl⟩ ?_
  clear h H
  rintro s5 a w o ⟨ρ, σ6, a7, c8, rfl, rfl, H⟩ h hres
  refine c_seq (rg (st (v := (B (decide (s5.2 < (Ak.length : Int))))) (rv_lss (a := s5.2) (b := (Ak.length : Int)) rfl rfl) (w_end (q_then (c_seq ?_)))))
  refine cd_cond (decide (s5.2 < (Ak.length : Int))) rfl (fun hb9 => ?_) (fun hb9 => ?_)
  ·replace h := bif_t hb9 h
   refine c_skip (q_then (c_seq (c_blk (c_seq (rg ?_)))))
   revert h; refine br fun x10 hx11 h => ?_
   obtain ⟨b13, o14, hi12, -⟩ := (H.ro 5 rfl).ix hx11
   refine st (v := (pt b13 o14)) (rv_ix Tryz.underlying27 ti45 rfl rfl hi12) ?_
   obtain ⟨_, ⟨_, _, rfl, rfl, ⟨_, _, rfl, ⟨_, rfl, hR19⟩, rfl⟩⟩, hl15, hc16⟩ := ((H.ro 5 rfl).at hx11 hi12).cells
   obtain ⟨a17, c18, rfl⟩ := hR19.isSl
   replace H := H.add (d := Ch.ro 0 (Sl a17 x10.2.1 c18) x10.2.1) hR19 (fun _ h => h)
   clear hR19
   refine st (v := (.agg #[(I x10.1), (Sl a17 x10.2.1 c18), (I x10.2.2)])) (rv_load Tryz.underlying45 rfl ti45 rfl hl15 hc16) (st_ex (ex_alloc (cs := [(I 0), (.slice none 0 0), (I 0)]) H hn0 ti45 rfl) wn ?_)
   rintro _ σ21 ⟨b20, rfl, H, -⟩
   refine st_exS (ex_store_box (k := 0) (cs := [(I 0), (.slice none 0 0), (I 0)]) (vs := [(I x10.1), (Sl a17 x10.2.1 c18), (I x10.2.2)]) (cs' := [(I x10.1), (Sl a17 x10.2.1 c18), (I x10.2.2)]) H (i := 0) rfl ti45 rfl rfl rfl rfl rfl (Nat.le_of_ble_eq_true rfl) (by simp [plain]) rfl) wn ?_
   rintro σ22 ⟨H, -⟩
   refine w_end (q_then ?_)
   have hc23 := H.cell (u := (I x10.1)) (o' := 0) 0 0 rfl rfl rfl
   have hc24 := H.cells 0 rfl
   revert h; refine br fun r25 hx26 h => ?_
   have hc27 := c_impl_nearestAmong_1__p3__p24 (Au := a17) (Av := c18) (Dz := Gi) (Ea := Gj) (Eb := Gk) (Ec := Gl) (Ed := Gm) (Gc := Gq) (Cy := Gr) (Cz := Gs) (Gd := Gt) (Ge := Gu) (Ga := Gn) (Gb := Gp) hx26
   have Hs := H
   refine rg2 (σ := σ22) (Nm := Unit) 5 [4] [[false], [true]] [[(0, 0), (1, 1)], [(0, 0), (1, 1)], [(0, 0)], [(0, 0)], [(0, 1)]] 1 [fun _ => fun σm => Hp S0 σ0 σm [Ch.bx n0 b20 0 [(I x10.1), (Sl a17 x10.2.1 c18), (I x10.2.2)] [] [], Ch.ro 0 (Sl a17 x10.2.1 c18) x10.2.1, Ch.bx n0 b1 0 [(I s5.1.1), (Sl a7 s5.1.2 c8)] [] [], Ch.own 0 0 (Sl a7 s5.1.2 c8) s5.1.2, Ch.bx Gi Gj Gk [(I Gg)] Gl Gm, Ch.ro 0 (Sl Gn Gh Gp) Gh, Ch.bx Gq Gr Gs [(Sl Gn Gh Gp)] Gt Gu, Ch.ro 0 (Sl Am Ak Ao) Ak] ∧ Md (cov []) σ22 σm, fun _ => fun σm => Hp S0 σ0 σm [Ch.bx Gi Gj Gk [(I Gg)] Gl Gm, Ch.bx Gq Gr Gs [(Sl Gn Gh Gp)] Gt Gu, Ch.bx n0 b20 0 [(I x10.1), (Sl a17 x10.2.1 c18), (I x10.2.2)] [] [], Ch.ro 0 (Sl a17 x10.2.1 c18) x10.2.1, Ch.bx n0 b1 0 [(I s5.1.1), (Sl a7 s5.1.2 c8)] [] [], Ch.own 0 0 (Sl a7 s5.1.2 c8) s5.1.2, Ch.ro 0 (Sl Gn Gh Gp) Gh, Ch.ro 0 (Sl Am Ak Ao) Ak] ∧ Md (fun i => (cov []) i ∨ (cov [Ch.ro 0 (Sl a17 x10.2.1 c18) x10.2.1, Ch.bx Gi Gj Gk [(I Gg)] Gl Gm, Ch.bx Gq Gr Gs [(Sl Gn Gh Gp)] Gt Gu, Ch.ro 0 (Sl Gn Gh Gp) Gh]) i) σ22 σm] [fun _ => (pt b20 0), fun _ => (I x10.1), fun _ => (.func (.func 47) #[] #[(pt Gj Gk), (pt Gr Gs)]), fun _ => (.agg #[(I x10.1), (Sl a17 x10.2.1 c18), (I x10.2.2)]), fun _ => (I r25)] () (by kernel_rfl) (by kernel_rfl) ?_ ?_ ?_
   ·intro σm m0
    exact ⟨H.grow (m0.mono fun _ h => h.elim), m0⟩
   ·refine ac rfl (by
      intro k _nm ρ σm hJ hoff hdep
      have e9 := look_off (N := 27) (hoff 9 rfl) rfl
      exact dp_v (v := (pt b20 0)) wn (rv_fieldAddr (off := 0) (ft := 3) Tryz.underlying45 rfl ti3 rfl e9) rfl hJ) ?_
    refine all_cons (by
      refine ⟨?_, ?_⟩
      ·intro _nm ρ σm hJ hoff hdep
       have e18 := hdep 0 rfl rfl 18 rfl
       obtain ⟨H, m⟩ := id hJ
       have hc23 := H.cell (u := (I x10.1)) (o' := 0) 0 0 rfl rfl rfl
       exact dp_v (v := (I x10.1)) wn (rv_load1 Tryz.underlying3 rfl e18 hc23) rfl hJ
      refine ⟨?_, ?_⟩
      ·intro _nm ρ σm hJ hoff hdep
       have e18 := hdep 0 rfl rfl 18 rfl
       obtain ⟨H, m⟩ := id hJ
       have hc23 := H.cell (u := (I x10.1)) (o' := 0) 2 0 rfl rfl rfl
       exact dp_v (v := (I x10.1)) wn (rv_load1 Tryz.underlying3 rfl e18 hc23) rfl hJ
      trivial) ?_
    refine ac rfl (by
      intro k _nm ρ σm hJ hoff hdep
      have e2 := look_off (N := 27) (hoff 2 rfl) rfl
      exact dp_v (v := (.func (.func 47) #[] #[(pt Gj Gk), (pt Gr Gs)])) wn (rv_move e2) rfl hJ) ?_
    refine all_cons (by
      refine ⟨?_, ?_⟩
      ·intro _nm ρ σm hJ hoff hdep
       have e9 := look_off (N := 27) (hoff 9 rfl) rfl
       obtain ⟨H, m⟩ := id hJ
       have hc24 := H.cells 0 rfl
       exact dp_v (v := (.agg #[(I x10.1), (Sl a17 x10.2.1 c18), (I x10.2.2)])) wn (rv_load (cs := [(I x10.1), (Sl a17 x10.2.1 c18), (I x10.2.2)]) Tryz.underlying45 rfl ti45 e9 rfl hc24) rfl hJ
      trivial) ?_
    refine all_cons (by
      refine ⟨?_, ?_⟩
      ·intro _nm ρ σm hJ hoff hdep
       have e21 : look 27 ρ 21 = (.agg #[(I x10.1), (Sl a17 x10.2.1 c18), (I x10.2.2)]) := hdep 3 rfl rfl 21 rfl
       have e20 := hdep 2 rfl rfl 20 rfl
       obtain ⟨H, m⟩ := id hJ
       refine dp_cx wn (cx_call hc27 (ent_v (cap := [(pt Gj Gk), (pt Gr Gs)]) hc27.fn e20 (by show [look 27 ρ 21] ++ [(pt Gj Gk), (pt Gr Gs)] = _; rw [e21]; rfl)) hn0 (H.sel' [1, 4, 6, 5, 0, 1, 2, 3, 5, 7] rfl rfl : Hp S0 σ0 _ ([_, _, _, _] ++ _))) ?_
       rintro _ σq ⟨_, ⟨rfl, rfl⟩, H2, m2⟩
       exact ⟨_, (), rfl, rfl, ⟨H2.sel' [0, 1, 2, 3, 4, 5, 6, 7] rfl rfl, m.comp m2⟩, stab [0, 1, 2, 3] (by kernel_rfl) ⟨rfl, rfl, rfl, rfl, trivial⟩⟩
      trivial) ?_
    exact all_nil
   ·intro _nm ρ σ28 hJ hoff hrel
    have e2 := look_off (N := 27) (hoff 2 rfl) rfl
    have e7 := look_off (N := 27) (hoff 7 rfl) rfl
    have e12 := look_off (N := 27) (hoff 12 rfl) rfl
    have e13 := look_off (N := 27) (hoff 13 rfl) rfl
    have e14 := look_off (N := 27) (hoff 14 rfl) rfl
    have e19 := hrel 1 rfl 19 rfl
    have e22 := hrel 4 rfl 22 rfl
    obtain ⟨H, -⟩ := (show Hp S0 σ0 σ28 [Ch.bx Gi Gj Gk [(I Gg)] Gl Gm, Ch.bx Gq Gr Gs [(Sl Gn Gh Gp)] Gt Gu, Ch.bx n0 b20 0 [(I x10.1), (Sl a17 x10.2.1 c18), (I x10.2.2)] [] [], Ch.ro 0 (Sl a17 x10.2.1 c18) x10.2.1, Ch.bx n0 b1 0 [(I s5.1.1), (Sl a7 s5.1.2 c8)] [] [], Ch.own 0 0 (Sl a7 s5.1.2 c8) s5.1.2, Ch.ro 0 (Sl Gn Gh Gp) Gh, Ch.ro 0 (Sl Am Ak Ao) Ak] ∧ Md (fun i => (cov []) i ∨ (cov [Ch.ro 0 (Sl a17 x10.2.1 c18) x10.2.1, Ch.bx Gi Gj Gk [(I Gg)] Gl Gm, Ch.bx Gq Gr Gs [(Sl Gn Gh Gp)] Gt Gu, Ch.ro 0 (Sl Gn Gh Gp) Gh]) i) σ22 σ28 from hJ)
    clear hJ Hs
    rw [fr_lookL (L := [(2, (.func (.func 47) #[] #[(pt Gj Gk), (pt Gr Gs)])), (7, (pt b1 0)), (12, (Sl Am Ak Ao)), (13, (I (Ak.length : Int))), (14, (I s5.2)), (19, (I x10.1)), (22, (I r25))]) ⟨e2, e7, e12, e13, e14, e19, e22, trivial⟩]
    clear hoff hrel e2 e7 e12 e13 e14 e19 e22
    refine st (v := (.agg #[(I x10.1), (I r25)])) (rv_build (ps := [(0, (I x10.1)), (1, (I r25))]) Tryz.underlying43 ti43 (bp43 Tryz.underlying43) rfl (by kernel_rfl)) ?_
    revert h; refine br fun r29 hx30 h => ?_
    have hc31 := c_impl_nearestHits_offer (Fe := n0) (Ff := b1) (Fg := 0) (Fh := []) (Fi := []) (Fc := a7) (Fd := c8) hx30
    refine st_call (cx_call hc31 (ent_f hc31.fn rfl) hn0 (H.sel' [4, 5, 0, 1, 2, 3, 6, 7] rfl rfl : Hp S0 σ0 _ ([_, _] ++ _))) wn ?_
    rintro _ σ34 ⟨_, ⟨a32, c33, rfl, rfl⟩, H, -⟩
    replace H : Hp _ _ _ [_, _, _, _, _, _, _, _] := H
    replace H : Hp S0 σ0 σ34 [Ch.bx n0 b1 0 [(I r29.1), (Sl a32 r29.2 c33)] [] [], Ch.own 0 0 (Sl a32 r29.2 c33) r29.2, Ch.bx Gi Gj Gk [(I Gg)] Gl Gm, Ch.bx Gq Gr Gs [(Sl Gn Gh Gp)] Gt Gu, Ch.ro 0 (Sl Gn Gh Gp) Gh, Ch.ro 0 (Sl Am Ak Ao) Ak] := H.sel' [0, 1, 2, 3, 6, 7] rfl rfl
    refine w_end (q_blk (q_then (rg (st (v := (I (w64 (s5.2 + 1)))) (rv_add (a := s5.2) (b := 1) rfl rfl) (sm (I (w64 (s5.2 + 1))) rfl (w_end (q_then ?_)))))))
    obtain rfl := sj h
    exact ⟨_, rfl, _, σ34, a32, c33, fr_join ⟨rfl, rfl, rfl, rfl, rfl, trivial⟩, rfl, H.sel' [0, 1, 2, 4, 3, 5] rfl rfl⟩
  ·replace h := bif_f hb9 h
   refine c_exit (q_then_x (q_then_x (q_blk_hit ?_)))
   obtain rfl := sj h
   obtain rfl := hres _ rfl
   exact ⟨rfl, _, σ6, a7, c8, fr_join ⟨rfl, rfl, trivial⟩, rfl, H.sel' [0, 1, 2, 3, 4] rfl rfl⟩
 ·clear hj
  have h := h'
  clear h' H
  rintro e a w ⟨rfl, ρ, σ35, a36, c37, rfl, rfl, H⟩
  refine q_then (c_seq (rg ?_))
  obtain ⟨σ38, hw39, H, -⟩ := H.pub 1 rfl (Nat.le_refl _)
  rw [← hw39]; clear hw39
  revert h; refine br fun r40 hx41 h => ?_
  have hc42 := c_impl_nearestHits_inOrder (Fe := n0) (Ff := b1) (Fg := 0) (Fh := []) (Fi := []) (Fc := a36) (Fd := c37) hx41
  refine st_call (cx_call hc42 (ent_f hc42.fn rfl) hn0 (H.sel' [1, 0, 0, 2, 3, 4] rfl rfl : Hp S0 σ0 _ ([_, _] ++ _))) wn ?_
  rintro _ σ45 ⟨_, ⟨a43, c44, rfl, rfl⟩, H, -⟩
  replace H : Hp _ _ _ [_, _, _, _, _, _] := H
  refine sa (Sl a43 r40 c44) rfl (w_end (q_then (c_ret ?_)))
  obtain rfl := sj h
  exact fin_ret (v := (Sl a43 r40 c44)) (results_ok Tryz.results46 (res_tmp (v := (Sl a43 r40 c44)) rfl res_nil) rfl) ⟨a43, c44, rfl, rfl⟩ (H.sel' [0, 3, 5] rfl rfl)

theorem c_impl_nearestAmong {Ak : List (Int × (List Int) × Int)} {Ax : Int} {Ay : List Int} {Gv : Int} {Am : Option Addr} {Ao : Nat} {Az : Option Addr} {Ba : Nat} {r : (List (Int × Int))} (h : M.impl_nearestAmong Ak Ax Ay Gv = some r) :
    Cal2 Tryz.prog 27 [(Sl Am Ak Ao), (I Ax), (Sl Az Ay Ba), (I Gv)] [Ch.ro 0 (Sl Am Ak Ao) Ak, Ch.ro 0 (Sl Az Ay Ba) Ay] (fun n0 v L => ∃ (az1 : Option Addr), ∃ (cz2 : Nat), v = (Sl az1 r cz2) ∧ L = [Ch.own 0 n0 (Sl az1 r cz2) r]) := by
 refine cal2 (n := 13) Tryz.func27 rfl rfl rfl rfl ?_
 intro S0 σ0 n0 hn0 H
 unfold M.impl_nearestAmong at h
 refine c_seq (rg (st_ex (ex_box (cs := [(I Ax)]) H hn0 rfl rfl) wn ?_))
 rintro _ σ2 ⟨b1, rfl, H, -⟩
 refine st_ex (ex_box (cs := [(Sl Az Ay Ba)]) H hn0 rfl rfl) wn ?_
 rintro _ σ4 ⟨b3, rfl, H, -⟩
 refine sa (.slice none 0 0) rfl (w_end (q_then (c_seq (rg (sm (Sl Am Ak Ao) rfl (sm (I Gv) rfl (st (v := (.func (.func 47) #[] #[(pt b1 0), (pt b3 0)])) (rv_makeFunc (vs := [(pt b1 0), (pt b3 0)]) rfl) ?_)))))))
 revert h; refine br fun r5 hx6 h => ?_
 have hc7 := c_impl_nearestBy__impl_nearestAmong_1 (Am := Am) (Ao := Ao) (Gi := n0) (Gj := b1) (Gk := 0) (Gl := []) (Gm := []) (Gq := n0) (Gr := b3) (Gs := 0) (Gt := []) (Gu := []) (Gn := Az) (Gp := Ba) hx6
 refine st_call (cx_call hc7 (ent_f hc7.fn rfl) hn0 (H.sel' [2, 1, 0, 3, 2, 3] rfl rfl : Hp S0 σ0 _ ([_, _, _, _] ++ _))) wn ?_
 rintro _ σ10 ⟨_, ⟨a8, c9, rfl, rfl⟩, H, -⟩
 replace H : Hp _ _ _ [_, _, _, _, _] := H
 refine sa (Sl a8 r5 c9) rfl (w_end (q_then (c_ret ?_)))
 obtain rfl := sj h
 exact fin_ret (v := (Sl a8 r5 c9)) (results_ok Tryz.results27 (res_tmp (v := (Sl a8 r5 c9)) rfl res_nil) rfl) ⟨a8, c9, rfl, rfl⟩ (H.sel' [0] rfl rfl)

theorem c_impl_WalkTo {Ak : List (Int × (List Int) × Int)} {Ax : Int} {Bm : Int} {Bn : Int} {Bo : List Int} {Am : Option Addr} {Ao : Nat} {Bp : Option Addr} {Bq : Nat} {r : (List Int) × Bool} (h : M.impl_WalkTo Ak Ax Bm Bn Bo = some r) :
    Cal2 Tryz.prog 8 [(Sl Am Ak Ao), (I Ax), (I Bm), (I Bn), (Sl Bp Bo Bq)] [Ch.ro 0 (Sl Am Ak Ao) Ak, Ch.ro 0 (Sl Bp Bo Bq) Bo] (fun n0 v L => ∃ (az1 : Option Addr), ∃ (cz2 : Nat), v = (.tuple #[(Sl az1 r.1 cz2), (B r.2)]) ∧ L = [Ch.own n0 n0 (Sl az1 r.1 cz2) r.1]) := by
 refine cal2 (n := 76) Tryz.func8 rfl rfl rfl rfl ?_
 intro S0 σ0 n0 hn0 H
 unfold M.impl_WalkTo at h
 refine c_seq (rg (sa (.slice none 0 0) rfl (sa (B false) rfl (w_end (q_then (c_seq (c_seq ?_)))))))
 obtain ⟨o1, hj, h'⟩ := bind_some h
 clear h
 refine c_cut (fun e a w => e = .normal ∧ ∃ (ρ : Nat → Value) (σ : St), a = fr 76 (updL ρ [(0, (Sl Am Ak Ao)), (1, (I Ax)), (2, (I Bm)), (3, (I Bn)), (4, (Sl Bp Bo Bq)), (27, (B o1))]) ∧ w = σ.w ∧ Hp S0 σ0 σ [Ch.ro 0 (Sl Am Ak Ao) Ak, Ch.ro 0 (Sl Bp Bo Bq) Bo]) ?_ ?_
 ·clear h'
  rename _ = some o1 => h
  refine rg (sm (Sl Am Ak Ao) rfl (sm (I Ax) rfl (sm (I Bm) rfl ?_)))
  revert h; refine br fun r2 hx3 h => ?_
  have hc4 := c_impl_validLinks (Am := Am) (Ao := Ao) hx3
  refine st_call (cx_call hc4 (ent_f hc4.fn rfl) hn0 (H.sel' [0, 0, 1] rfl rfl : Hp S0 σ0 _ ([_] ++ _))) wn ?_
  rintro _ σ5 ⟨_, ⟨rfl, rfl⟩, H, -⟩
  replace H : Hp _ _ _ [_, _] := H
  refine st (v := (B (!r2))) (rv_not rfl) (sm (B (!r2)) rfl ?_)
  rcases Bool.eq_false_or_eq_true (!r2) with hb6 | hb6
  ·replace h := bif_t hb6 h
   refine st_skip (congrArg some hb6) (st_skip (congrArg some hb6) (st_skip (congrArg some hb6) (st (v := (B true)) (rv_pick_t (congrArg B hb6) rfl) (w_end ?_))))
   obtain rfl := sj h
   exact ⟨rfl, _, σ5, fr_join ⟨rfl, rfl, rfl, rfl, rfl, rfl, trivial⟩, rfl, H.sel' [0, 1] rfl rfl⟩
  ·replace h := bif_f hb6 h
   refine st_g (v := (Sl Bp Bo Bq)) (congrArg some hb6) (rv_move rfl) ?_
   revert h; refine br fun r7 hx8 h => ?_
   have hc9 := c_impl_ValidVector (Aq := Bp) (Ar := Bq) hx8
   refine st_call (cx_call hc9 (ent_f hc9.fn rfl) hn0 (H.sel' [1, 0, 1] rfl rfl : Hp S0 σ0 _ ([_] ++ _))) (wanted_yes rfl (by exact (congrArg some hb6))) ?_
   rintro _ σ10 ⟨_, ⟨rfl, rfl⟩, H, -⟩
   replace H : Hp _ _ _ [_, _] := H
   refine st_g (v := (B (!r7))) (congrArg some hb6) (rv_not rfl) (st (v := (B (!r7))) (rv_pick_f (congrArg B hb6) rfl) (w_end ?_))
   obtain rfl := sj h
   exact ⟨rfl, _, σ10, fr_join ⟨rfl, rfl, rfl, rfl, rfl, rfl, trivial⟩, rfl, H.sel' [0, 1] rfl rfl⟩
 ·clear hj
  have h := h'
  clear h' H
  rintro e a w ⟨rfl, ρ, σ11, rfl, rfl, H⟩
  refine q_then ?_
  refine cd_cond o1 rfl (fun hb12 => ?_) (fun hb12 => ?_)
  ·replace h := bif_t hb12 h
   refine c_seq (rg (sa (.slice none 0 0) rfl (sa (B false) rfl (w_end (q_then (c_ret (q_then_r ?_)))))))
   replace H := H.nilOwn Int n0 n0
   obtain rfl := sj h
   exact fin_ret (v := (.tuple #[(.slice none 0 0), (B false)])) (results_ok Tryz.results8 (res_tmp (v := (.slice none 0 0)) rfl (res_tmp (v := (B false)) rfl res_nil)) rfl) ⟨none, 0, rfl, rfl⟩ (H.sel' [0] rfl rfl)
  ·replace h := bif_f hb12 h
   refine c_skip (q_then (c_seq (rg (sm (Sl Am Ak Ao) rfl (sm (I Bn) rfl ?_)))))
   revert h; refine br fun r13 hx14 h => ?_
   have hc15 := c_impl_placeOf (Am := Am) (Ao := Ao) hx14
   refine st_call (cx_call hc15 (ent_f hc15.fn rfl) hn0 (H.sel' [0, 0, 1] rfl rfl : Hp S0 σ0 _ ([_] ++ _))) wn ?_
   rintro _ σ16 ⟨_, ⟨rfl, rfl⟩, H, -⟩
   replace H : Hp _ _ _ [_, _] := H
   refine sm (.tuple #[(I r13.1), (B r13.2)]) rfl (st (v := (I r13.1)) (rv_extract rfl rfl) (st (v := (B r13.2)) (rv_extract rfl rfl) (sa (I r13.1) rfl (sa (B r13.2) rfl (w_end (q_then (c_seq (c_seq (rg (sm (B r13.2) rfl (st (v := (B (!r13.2))) (rv_not rfl) ?_)))))))))))
   refine w_end (q_then ?_)
   refine cd_cond (!r13.2) rfl (fun hb17 => ?_) (fun hb17 => ?_)
   ·replace h := bif_t hb17 h
    refine c_seq (rg (sa (.slice none 0 0) rfl (sa (B false) rfl (w_end (q_then (c_ret (q_then_r ?_)))))))
    replace H := H.nilOwn Int n0 n0
    obtain rfl := sj h
    exact fin_ret (v := (.tuple #[(.slice none 0 0), (B false)])) (results_ok Tryz.results8 (res_tmp (v := (.slice none 0 0)) rfl (res_tmp (v := (B false)) rfl res_nil)) rfl) ⟨none, 0, rfl, rfl⟩ (H.sel' [0] rfl rfl)
   ·replace h := bif_f hb17 h
    refine c_skip (q_then (c_seq (rg (sm (Sl Am Ak Ao) rfl (sm (I Ax) rfl (sm (I Bm) rfl ?_))))))
    revert h; refine br fun r18 hx19 h => ?_
    have hc20 := c_impl_linkItems (Am := Am) (Ao := Ao) hx19
    refine st_call (cx_call hc20 (ent_f hc20.fn rfl) hn0 (H.sel' [0, 0, 1] rfl rfl : Hp S0 σ0 _ ([_] ++ _))) wn ?_
    rintro _ σ24 ⟨_, ⟨b21, K22, rfl, rfl, hK23⟩, H, -⟩
    replace H : Hp _ _ _ [_, _, _] := H
    refine sa (.map (some b21)) rfl (w_end (q_then (c_seq (rg (sm (Sl Am Ak Ao) rfl (sm (I r13.1) rfl ?_))))))
    revert h; refine br fun x25 hx26 h => ?_
    obtain ⟨b28, o29, hi27, -⟩ := (H.ro 1 rfl).ix hx26
    refine st (v := (pt b28 o29)) (rv_ix Tryz.underlying27 ti45 rfl rfl hi27) ?_
    obtain ⟨_, ⟨_, _, rfl, rfl, ⟨_, _, rfl, ⟨_, rfl, hR34⟩, rfl⟩⟩, hl30, hc31⟩ := ((H.ro 1 rfl).at hx26 hi27).cells
    obtain ⟨a32, c33, rfl⟩ := hR34.isSl
    replace H := H.add (d := Ch.ro 0 (Sl a32 x25.2.1 c33) x25.2.1) hR34 (fun _ h => h)
    clear hR34
    refine st (v := (.agg #[(I x25.1), (Sl a32 x25.2.1 c33), (I x25.2.2)])) (rv_load Tryz.underlying45 rfl ti45 rfl hl30 hc31) (sm (I Ax) rfl (sm (Sl Bp Bo Bq) rfl ?_))
    revert h; refine br fun r35 hx36 h => ?_
    have hc37 := c_impl_hitOf (Au := a32) (Av := c33) (Az := Bp) (Ba := Bq) hx36
    refine st_call (cx_call hc37 (ent_f hc37.fn rfl) hn0 (H.sel' [0, 3, 0, 1, 2, 3] rfl rfl : Hp S0 σ0 _ ([_, _] ++ _))) wn ?_
    rintro _ σ38 ⟨_, ⟨rfl, rfl⟩, H, -⟩
    replace H : Hp _ _ _ [_, _, _, _] := H
    refine sm (I Bn) rfl ?_
    refine st_ex (ex_buildSlice (el := n0) (xs := ([Bn] : List Int)) (ps := [(0, (I Bn))]) (cs := [(I Bn)]) H hn0 Tryz.underlying23 ti3 rfl rfl (by kernel_rfl) (.cons (c := [(I Bn)]) rfl (.nil)) rfl) wn ?_
    rintro _ σ40 ⟨b39, rfl, H, -⟩
    refine st_ex (ex_alloc (cs := [(I 0), (I 0)]) H hn0 ti43 rfl) wn ?_
    rintro _ σ42 ⟨b41, rfl, H, -⟩
    refine st_exS (ex_store_box (k := 0) (cs := [(I 0), (I 0)]) (vs := [(I r35.1), (I r35.2)]) (cs' := [(I r35.1), (I r35.2)]) H (i := 0) rfl ti43 rfl rfl rfl rfl rfl (Nat.le_of_ble_eq_true rfl) (by simp [plain]) rfl) wn ?_
    rintro σ43 ⟨H, -⟩
    refine sa (Sl (some ⟨b39, 0, none⟩) ([Bn] : List Int) 1) rfl (w_end (q_then ?_))
    obtain ⟨o44, hj, h'⟩ := bind_some h
    clear h
    refine c_cut (fun e a w => e = .ret ∧ ∃ (ρ : Nat → Value) (σ : St) (aj1 : Option Addr) (cj2 : Nat), a = fr 76 (updL ρ [(10, (Sl aj1 o44.1 cj2)), (11, (B o44.2))]) ∧ w = σ.w ∧ Hp S0 σ0 σ [Ch.own n0 n0 (Sl aj1 o44.1 cj2) o44.1]) ?_ ?_
    ·clear h'
     rename _ = some o44 => h
     refine c_blk ?_
     obtain ⟨σ46, hw47, H, -⟩ := H.mpPub 3 rfl hK23
     rw [← hw47]; clear hw47
     refine wp_loopM _ h (fun s45 a w => ∃ (ρ : Nat → Value) (σ : St) (aj1 : Option Addr) (cj2 : Nat), a = fr 76 (updL ρ [(1, (I Ax)), (4, (Sl Bp Bo Bq)), (14, (.map (some b21))), (15, (pt b41 0)), (16, (Sl aj1 s45.2 cj2))]) ∧ w = σ.w ∧ Hp S0 σ0 σ [Ch.bx n0 b41 0 [(I s45.1.1), (I s45.1.2)] [] [], Ch.ro 0 (Sl Bp Bo Bq) Bo, Ch.mr b21 r18, Ch.own n0 n0 (Sl aj1 s45.2 cj2) s45.2]) ⟨_, σ46, (some ⟨b39, 0, none⟩), 1, fr_join ⟨rfl, rfl, rfl, rfl, rfl, trivial⟩, rfl, H.sel' [1, 5, 0, 2] rfl rfl⟩ ?_
     clear h H
     rintro s45 a w o ⟨ρ, σ48, a49, c50, rfl, rfl, H⟩ h hres
     refine c_blk (c_seq (rg (sm (.map (some b21)) rfl (st (v := (pt b41 0)) (rv_fieldAddr (off := 0) (ft := 3) Tryz.underlying43 rfl ti3 rfl rfl) ?_))))
     have hc51 := H.cell (u := (I s45.1.1)) (o' := 0) 0 0 rfl rfl rfl
     refine st (v := (I s45.1.1)) (rv_load1 Tryz.underlying3 rfl rfl hc51) ?_
     obtain ⟨v55, hL54, hR56⟩ := mrGet (H.mr 2 rfl) s45.1.1
     obtain ⟨a52, c53, rfl⟩ := hR56.isSl
     replace H := H.add (d := Ch.ro 0 (Sl a52 (mget r18 s45.1.1) c53) (mget r18 s45.1.1)) hR56 (fun _ h => h)
     clear hR56
     refine st (v := (Sl a52 (mget r18 s45.1.1) c53)) (rv_lookup Tryz.underlying53 Tryz.underlying3 ti27 rfl rfl hL54) (sm (I Ax) rfl (sm (Sl Bp Bo Bq) rfl ?_))
     revert h; refine br fun r57 hx58 h => ?_
     have hc59 := c_impl_nearestAmong (Am := a52) (Ao := c53) (Az := Bp) (Ba := Bq) hx58
     refine st_call (cx_call hc59 (ent_f hc59.fn rfl) hn0 (H.sel' [0, 2, 0, 1, 2, 3, 4] rfl rfl : Hp S0 σ0 _ ([_, _] ++ _))) wn ?_
     rintro _ σ62 ⟨_, ⟨a60, c61, rfl, rfl⟩, H, -⟩
     replace H : Hp _ _ _ [_, _, _, _, _, _] := H
     refine sa (Sl a60 r57 c61) rfl (w_end (q_then (c_seq (c_seq ?_))))
     obtain ⟨o63, hj, h'⟩ := bind_some h
     clear h
     refine c_cut (fun e a w => e = .normal ∧ ∃ (ρ : Nat → Value) (σ : St), a = fr 76 (updL ρ [(1, (I Ax)), (4, (Sl Bp Bo Bq)), (14, (.map (some b21))), (15, (pt b41 0)), (16, (Sl a49 s45.2 c50)), (17, (Sl a60 r57 c61)), (66, (B o63))]) ∧ w = σ.w ∧ Hp S0 σ0 σ [Ch.ro 0 (Sl Bp Bo Bq) Bo, Ch.mr b21 r18, Ch.bx n0 b41 0 [(I s45.1.1), (I s45.1.2)] [] [], Ch.own n0 n0 (Sl a49 s45.2 c50) s45.2, Ch.own 0 n0 (Sl a60 r57 c61) r57]) ?_ ?_
     ·clear h'
      rename _ = some o63 => h
      refine rgP (σ := σ62) 8 (by kernel_rfl) (by kernel_rfl) (by kernel_rfl) ?_
      refine sq (v := (Sl a60 r57 c61)) (rv_move rfl) (sq (v := (I (r57.length : Int))) (rv_len Tryz.underlying55 rfl) (sq (v := (B ((r57.length : Int) == 0))) (rv_eql (a := (r57.length : Int)) (b := 0) rfl rfl) (sq (v := (B ((r57.length : Int) == 0))) (rv_move rfl) ?_)))
      rcases Bool.eq_false_or_eq_true ((r57.length : Int) == 0) with hb64 | hb64
      ·replace h := bif_t hb64 h
       refine sq_skip (congrArg some hb64) (sq_skip (congrArg some hb64) (sq_skip (congrArg some hb64) (sq_skip (congrArg some hb64) (sq_end ?_))))
       intro σ65 hm66
       replace H := H.grow (hm66.mono fun _ h => h); clear hm66
       refine st_skip (congrArg some hb64) (st_skip (congrArg some hb64) (st (v := (B true)) (rv_pick_t (congrArg B hb64) rfl) (w_end ?_)))
       obtain rfl := sj h
       exact ⟨rfl, _, σ65, fr_join ⟨rfl, rfl, rfl, rfl, rfl, rfl, rfl, trivial⟩, rfl, H.sel' [3, 4, 2, 5, 0] rfl rfl⟩
      ·replace h := bif_f hb64 h
       refine sq_g (v := (Sl a60 r57 c61)) (congrArg some hb64) (rv_move rfl) ?_
       revert h; refine br fun x67 hx68 h => ?_
       obtain ⟨b70, o71, hi69, -⟩ := (H.own 0 rfl).ix hx68
       refine sq_g (v := (pt b70 o71)) (congrArg some hb64) (rv_ix Tryz.underlying55 ti43 rfl rfl hi69) ?_
       obtain ⟨_, ⟨_, _, rfl, rfl, rfl⟩, hl72, hc73⟩ := ((H.own 0 rfl).at hx68 hi69).cells
       refine sq_g (v := (.agg #[(I x67.1), (I x67.2)])) (congrArg some hb64) (rv_load Tryz.underlying43 rfl ti43 rfl hl72 hc73) ?_
       have hc74 := H.cells 2 rfl
       refine sq_g (v := (.agg #[(I s45.1.1), (I s45.1.2)])) (congrArg some hb64) (rv_load (cs := [(I s45.1.1), (I s45.1.2)]) Tryz.underlying43 rfl ti43 rfl rfl hc74) (sq_end ?_)
       intro σ75 hm76
       replace H := H.grow (hm76.mono fun _ h => h); clear hm76
       revert h; refine br fun r77 hx78 h => ?_
       have hc79 := c_impl_compareHits hx78
       refine st_call (cx_call hc79 (ent_f hc79.fn rfl) hn0 (H.sel' [0, 1, 2, 3, 4, 5] rfl rfl : Hp S0 σ0 _ ([] ++ _))) (wanted_yes rfl (by exact (congrArg some hb64))) ?_
       rintro _ σ80 ⟨_, ⟨rfl, rfl⟩, H, -⟩
       replace H : Hp _ _ _ [_, _, _, _, _, _] := H
       refine st_g (v := (B (decide (0 ≤ r77)))) (congrArg some hb64) (rv_geq (a := r77) (b := 0) rfl rfl) (st (v := (B (decide (0 ≤ r77)))) (rv_pick_f (congrArg B hb64) rfl) (w_end ?_))
       obtain rfl := sj h
       exact ⟨rfl, _, σ80, fr_join ⟨rfl, rfl, rfl, rfl, rfl, rfl, rfl, trivial⟩, rfl, H.sel' [3, 4, 2, 5, 0] rfl rfl⟩
     ·clear hj
      have h := h'
      clear h' H
      rintro e a w ⟨rfl, ρ, σ81, rfl, rfl, H⟩
      refine q_then ?_
      refine cd_cond o63 rfl (fun hb82 => ?_) (fun hb82 => ?_)
      ·replace h := bif_t hb82 h
       refine c_seq (rg (sm (Sl a49 s45.2 c50) rfl (sa (Sl a49 s45.2 c50) rfl (sa (B true) rfl (w_end (q_then (c_ret (q_then_r (q_blk_r (q_then_r (q_blk_r ?_)))))))))))
       obtain rfl := sj h
       obtain rfl := hres _ rfl
       exact ⟨rfl, _, σ81, a49, c50, fr_join ⟨rfl, rfl, trivial⟩, rfl, H.sel' [3] rfl rfl⟩
      ·replace h := bif_f hb82 h
       refine c_skip (q_then (c_seq (rg (sm (Sl a60 r57 c61) rfl ?_))))
       revert h; refine br fun x83 hx84 h => ?_
       obtain ⟨b86, o87, hi85, -⟩ := (H.own 4 rfl).ix hx84
       refine st (v := (pt b86 o87)) (rv_ix Tryz.underlying55 ti43 rfl rfl hi85) ?_
       obtain ⟨_, ⟨_, _, rfl, rfl, rfl⟩, hl88, hc89⟩ := ((H.own 4 rfl).at hx84 hi85).cells
       refine st (v := (.agg #[(I x83.1), (I x83.2)])) (rv_load Tryz.underlying43 rfl ti43 rfl hl88 hc89) ?_
       refine st_exS (ex_store_box (k := 0) (cs := [(I s45.1.1), (I s45.1.2)]) (vs := [(I x83.1), (I x83.2)]) (cs' := [(I x83.1), (I x83.2)]) H (i := 2) rfl ti43 rfl rfl rfl rfl rfl (Nat.le_of_ble_eq_true rfl) (by simp [plain]) rfl) wn ?_
       rintro σ90 ⟨H, -⟩
       refine w_end (q_then (rg (sm (Sl a49 s45.2 c50) rfl (st (v := (pt b41 0)) (rv_fieldAddr (off := 0) (ft := 3) Tryz.underlying43 rfl ti3 rfl rfl) ?_))))
       have hc91 := H.cell (u := (I x83.1)) (o' := 0) 0 0 rfl rfl rfl
       refine st (v := (I x83.1)) (rv_load1 Tryz.underlying3 rfl rfl hc91) ?_
       refine st_ex (ex_buildSlice (el := n0) (xs := ([x83.1] : List Int)) (ps := [(0, (I x83.1))]) (cs := [(I x83.1)]) H hn0 Tryz.underlying23 ti3 rfl rfl (by kernel_rfl) (.cons (c := [(I x83.1)]) rfl (.nil)) rfl) wn ?_
       rintro _ σ93 ⟨b92, rfl, H, -⟩
       revert h; refine br fun xs94 hx95 h => ?_
       refine st_ex (ex_append H (i := 4) rfl Tryz.underlying23 Tryz.underlying23 ti3 rfl rfl (by decide) (H.own 0 rfl).rd hx95 hn0 rfl rfl) wn ?_
       rintro _ σ98 ⟨a96, c97, rfl, H, -⟩
       refine sa (Sl a96 xs94 c97) rfl (w_end (q_blk (q_then ?_)))
       obtain rfl := sj h
       exact ⟨_, rfl, _, σ98, a96, c97, fr_join ⟨rfl, rfl, rfl, rfl, rfl, trivial⟩, rfl, H.sel' [2, 3, 4, 0] rfl rfl⟩
    ·clear hj
     have h := h'
     clear h' H
     rintro e a w ⟨rfl, ρ, σ99, a100, c101, rfl, rfl, H⟩
     obtain rfl := sj h
     exact fin_ret (v := (.tuple #[(Sl a100 o44.1 c101), (B o44.2)])) (results_ok Tryz.results8 (res_tmp (v := (Sl a100 o44.1 c101)) rfl (res_tmp (v := (B o44.2)) rfl res_nil)) rfl) ⟨a100, c101, rfl, rfl⟩ (H.sel' [0] rfl rfl)

theorem c_laws_eqIntS {Aa : List Int} {Bj : List Int} {Ad : Option Addr} {Ae : Nat} {Gw : Option Addr} {Gx : Nat} {r : Bool} (h : M.laws_eqIntS Aa Bj = some r) :
    Cal2 Tryz.prog 9 [(Sl Ad Aa Ae), (Sl Gw Bj Gx)] [Ch.ro 0 (Sl Ad Aa Ae) Aa, Ch.ro 0 (Sl Gw Bj Gx) Bj] (fun n0 v L => v = (B r) ∧ L = []) := by
 refine cal2 (n := 26) Tryz.func9 rfl rfl rfl rfl ?_
 intro S0 σ0 n0 hn0 H
 unfold M.laws_eqIntS at h
 refine c_seq (rg (sa (B false) rfl (w_end (q_then (c_seq (c_seq (rg (sm (Sl Ad Aa Ae) rfl (st (v := (I (Aa.length : Int))) (rv_len Tryz.underlying23 rfl) (sm (Sl Gw Bj Gx) rfl (st (v := (I (Bj.length : Int))) (rv_len Tryz.underlying23 rfl) ?_)))))))))))
 refine st (v := (B ((Aa.length : Int) != (Bj.length : Int)))) (rv_neq (a := (Aa.length : Int)) (b := (Bj.length : Int)) rfl rfl) (w_end (q_then ?_))
 refine cd_cond ((Aa.length : Int) != (Bj.length : Int)) rfl (fun hb1 => ?_) (fun hb1 => ?_)
 ·replace h := bif_t hb1 h
  refine c_seq (rg (sa (B false) rfl (w_end (q_then (c_ret (q_then_r ?_))))))
  obtain rfl := sj h
  exact fin_ret (v := (B false)) (results_ok Tryz.results9 (res_tmp (v := (B false)) rfl res_nil) rfl) ⟨rfl, rfl⟩ (H.sel' [] rfl rfl)
 ·replace h := bif_f hb1 h
  refine c_skip (q_then (c_seq (c_seq (rg (sa (I 0) rfl (w_end (q_then ?_)))))))
  obtain ⟨o2, hj, h'⟩ := bind_some h
  clear h
  refine c_cut (fun e a w => (∃ t, o2 = (.inl t) ∧ e = .normal ∧ ∃ (ρ : Nat → Value) (σ : St), a = fr 26 (updL ρ []) ∧ w = σ.w ∧ Hp S0 σ0 σ []) ∨ (∃ t, o2 = (.inr t) ∧ e = .ret ∧ ∃ (ρ : Nat → Value) (σ : St), a = fr 26 (updL ρ [(4, (B t))]) ∧ w = σ.w ∧ Hp S0 σ0 σ [])) ?_ ?_
  ·clear h'
   rename _ = some o2 => h
   refine c_blk (wp_loopM _ h (fun s3 a w => ∃ (ρ : Nat → Value) (σ : St), a = fr 26 (updL ρ [(0, (Sl Ad Aa Ae)), (1, (Sl Gw Bj Gx)), (5, (I s3))]) ∧ w = σ.w ∧ Hp S0 σ0 σ [Ch.ro 0 (Sl Ad Aa Ae) Aa, Ch.ro 0 (Sl Gw Bj Gx) Bj]) ⟨_, σ0, fr_join ⟨rfl, rfl, rfl, trivial⟩, rfl, H.sel' [0, 1] rfl rfl⟩ ?_)
   clear h H
   rintro s3 a w o ⟨ρ, σ4, rfl, rfl, H⟩ h hres
   refine c_seq (c_seq (rg (sm (I s3) rfl (sm (Sl Ad Aa Ae) rfl (st (v := (I (Aa.length : Int))) (rv_len Tryz.underlying23 rfl) (st (v := (B (decide (s3 < (Aa.length : Int))))) (rv_lss (a := s3) (b := (Aa.length : Int)) rfl rfl) (w_end (q_then ?_))))))))
   refine cd_cond (decide (s3 < (Aa.length : Int))) rfl (fun hb5 => ?_) (fun hb5 => ?_)
   ·replace h := bif_t hb5 h
    refine c_skip (q_then (c_seq (c_blk (c_seq ?_))))
    refine rgP (σ := σ4) 8 (by kernel_rfl) (by kernel_rfl) (by kernel_rfl) ?_
    refine sq (v := (Sl Ad Aa Ae)) (rv_move rfl) (sq (v := (I s3)) (rv_move rfl) ?_)
    revert h; refine br fun x6 hx7 h => ?_
    obtain ⟨b9, o10, hi8, -⟩ := (H.ro 0 rfl).ix hx7
    refine sq (v := (pt b9 o10)) (rv_ix Tryz.underlying23 ti3 rfl rfl hi8) ?_
    have hc11 := ((H.ro 0 rfl).at hx7 hi8).int
    refine sq (v := (I x6)) (rv_load1 Tryz.underlying3 rfl rfl hc11) (sq (v := (Sl Gw Bj Gx)) (rv_move rfl) (sq (v := (I s3)) (rv_move rfl) ?_))
    revert h; refine br fun x12 hx13 h => ?_
    obtain ⟨b15, o16, hi14, -⟩ := (H.ro 1 rfl).ix hx13
    refine sq (v := (pt b15 o16)) (rv_ix Tryz.underlying23 ti3 rfl rfl hi14) ?_
    have hc17 := ((H.ro 1 rfl).at hx13 hi14).int
    refine sq (v := (I x12)) (rv_load1 Tryz.underlying3 rfl rfl hc17) (sq_end ?_)
    intro σ18 hm19
    replace H := H.grow (hm19.mono fun _ h => h); clear hm19
    refine st (v := (B (x6 != x12))) (rv_neq (a := x6) (b := x12) rfl rfl) (w_end (q_then ?_))
    refine cd_cond (x6 != x12) rfl (fun hb20 => ?_) (fun hb20 => ?_)
    ·replace h := bif_t hb20 h
     refine c_seq (rg (sa (B false) rfl (w_end (q_then (c_ret (q_blk_r (q_then_r (q_then_r (q_blk_r ?_)))))))))
     obtain rfl := sj h
     obtain rfl := hres _ rfl
     exact .inr (⟨_, rfl, rfl, _, σ18, fr_join ⟨rfl, trivial⟩, rfl, H.sel' [] rfl rfl⟩)
    ·replace h := bif_f hb20 h
     refine c_skip (q_blk (q_then (rg (sm (I s3) rfl (st (v := (I (w64 (s3 + 1)))) (rv_add (a := s3) (b := 1) rfl rfl) (sa (I (w64 (s3 + 1))) rfl (w_end (q_then ?_))))))))
     obtain rfl := sj h
     exact ⟨_, rfl, _, σ18, fr_join ⟨rfl, rfl, rfl, trivial⟩, rfl, H.sel' [0, 1] rfl rfl⟩
   ·replace h := bif_f hb5 h
    refine c_exit (q_then_x (q_then_x (q_blk_hit ?_)))
    obtain rfl := sj h
    obtain rfl := hres _ rfl
    exact .inl ⟨_, rfl, rfl, _, σ4, fr_join trivial, rfl, H.sel' [] rfl rfl⟩
  ·clear hj
   have h := h'
   clear h' H
   rintro e a w (⟨t21, rfl, rfl, ρ, σ22, rfl, rfl, H⟩ | ⟨t23, rfl, rfl, ρ, σ24, rfl, rfl, H⟩)
   ·replace h := selim_l h
    refine q_then (c_seq (rg (sa (B true) rfl (w_end (q_then (c_ret ?_))))))
    obtain rfl := sj h
    exact fin_ret (v := (B true)) (results_ok Tryz.results9 (res_tmp (v := (B true)) rfl res_nil) rfl) ⟨rfl, rfl⟩ (H.sel' [] rfl rfl)
   ·replace h := selim_r h
    refine q_then_r ?_
    obtain rfl := sj h
    exact fin_ret (v := (B t23)) (results_ok Tryz.results9 (res_tmp (v := (B t23)) rfl res_nil) rfl) ⟨rfl, rfl⟩ (H.sel' [] rfl rfl)

theorem c_laws_eqItem {Aa : Int × (List Int) × Int} {Bj : Int × (List Int) × Int} {Af : Option Addr} {Ag : Nat} {Gy : Option Addr} {Gz : Nat} {r : Bool} (h : M.laws_eqItem Aa Bj = some r) :
    Cal2 Tryz.prog 29 [(.agg #[(I Aa.1), (Sl Af Aa.2.1 Ag), (I Aa.2.2)]), (.agg #[(I Bj.1), (Sl Gy Bj.2.1 Gz), (I Bj.2.2)])] [Ch.ro 0 (Sl Af Aa.2.1 Ag) Aa.2.1, Ch.ro 0 (Sl Gy Bj.2.1 Gz) Bj.2.1] (fun n0 v L => v = (B r) ∧ L = []) := by
 refine cal2 (n := 21) Tryz.func29 rfl rfl rfl rfl ?_
 intro S0 σ0 n0 hn0 H
 unfold M.laws_eqItem at h
 refine c_seq (rg (st_ex (ex_box (cs := [(I Aa.1), (Sl Af Aa.2.1 Ag), (I Aa.2.2)]) H hn0 rfl rfl) wn ?_))
 rintro _ σ2 ⟨b1, rfl, H, -⟩
 refine st_ex (ex_box (cs := [(I Bj.1), (Sl Gy Bj.2.1 Gz), (I Bj.2.2)]) H hn0 rfl rfl) wn ?_
 rintro _ σ4 ⟨b3, rfl, H, -⟩
 refine sa (B false) rfl (w_end (q_then (c_seq (c_seq (rg (st (v := (pt b1 0)) (rv_fieldAddr (off := 0) (ft := 3) Tryz.underlying45 rfl ti3 rfl rfl) ?_))))))
 have hc5 := H.cell (u := (I Aa.1)) (o' := 0) 1 0 rfl rfl rfl
 refine st (v := (I Aa.1)) (rv_load1 Tryz.underlying3 rfl rfl hc5) (st (v := (pt b3 0)) (rv_fieldAddr (off := 0) (ft := 3) Tryz.underlying45 rfl ti3 rfl rfl) ?_)
 have hc6 := H.cell (u := (I Bj.1)) (o' := 0) 0 0 rfl rfl rfl
 refine st (v := (I Bj.1)) (rv_load1 Tryz.underlying3 rfl rfl hc6) (st (v := (B (Aa.1 != Bj.1))) (rv_neq (a := Aa.1) (b := Bj.1) rfl rfl) (w_end (q_then ?_)))
 refine cd_cond (Aa.1 != Bj.1) rfl (fun hb7 => ?_) (fun hb7 => ?_)
 ·replace h := bif_t hb7 h
  refine c_seq (rg (sa (B false) rfl (w_end (q_then (c_ret (q_then_r ?_))))))
  obtain rfl := sj h
  exact fin_ret (v := (B false)) (results_ok Tryz.results29 (res_tmp (v := (B false)) rfl res_nil) rfl) ⟨rfl, rfl⟩ (H.sel' [] rfl rfl)
 ·replace h := bif_f hb7 h
  refine c_skip (q_then (c_seq (c_seq (rg (st (v := (pt b1 1)) (rv_fieldAddr (off := 1) (ft := 23) Tryz.underlying45 rfl ti23 rfl rfl) ?_)))))
  have hc8 := H.cell (u := (Sl Af Aa.2.1 Ag)) (o' := 1) 1 1 rfl rfl rfl
  refine st (v := (Sl Af Aa.2.1 Ag)) (rv_load1 Tryz.underlying23 rfl rfl hc8) (st (v := (pt b3 1)) (rv_fieldAddr (off := 1) (ft := 23) Tryz.underlying45 rfl ti23 rfl rfl) ?_)
  have hc9 := H.cell (u := (Sl Gy Bj.2.1 Gz)) (o' := 1) 0 1 rfl rfl rfl
  refine st (v := (Sl Gy Bj.2.1 Gz)) (rv_load1 Tryz.underlying23 rfl rfl hc9) ?_
  revert h; refine br fun r10 hx11 h => ?_
  have hc12 := c_laws_eqIntS (Ad := Af) (Ae := Ag) (Gw := Gy) (Gx := Gz) hx11
  refine st_call (cx_call hc12 (ent_f hc12.fn rfl) hn0 (H.sel' [2, 3, 0, 1, 2, 3] rfl rfl : Hp S0 σ0 _ ([_, _] ++ _))) wn ?_
  rintro _ σ13 ⟨_, ⟨rfl, rfl⟩, H, -⟩
  replace H : Hp _ _ _ [_, _, _, _] := H
  refine st (v := (B (!r10))) (rv_not rfl) (w_end (q_then ?_))
  refine cd_cond (!r10) rfl (fun hb14 => ?_) (fun hb14 => ?_)
  ·replace h := bif_t hb14 h
   refine c_seq (rg (sa (B false) rfl (w_end (q_then (c_ret (q_then_r ?_))))))
   obtain rfl := sj h
   exact fin_ret (v := (B false)) (results_ok Tryz.results29 (res_tmp (v := (B false)) rfl res_nil) rfl) ⟨rfl, rfl⟩ (H.sel' [] rfl rfl)
  ·replace h := bif_f hb14 h
   refine c_skip (q_then (c_seq (c_seq (rg (st (v := (pt b1 2)) (rv_fieldAddr (off := 2) (ft := 3) Tryz.underlying45 rfl ti3 rfl rfl) ?_)))))
   have hc15 := H.cell (u := (I Aa.2.2)) (o' := 2) 1 2 rfl rfl rfl
   refine st (v := (I Aa.2.2)) (rv_load1 Tryz.underlying3 rfl rfl hc15) (st (v := (pt b3 2)) (rv_fieldAddr (off := 2) (ft := 3) Tryz.underlying45 rfl ti3 rfl rfl) ?_)
   have hc16 := H.cell (u := (I Bj.2.2)) (o' := 2) 0 2 rfl rfl rfl
   refine st (v := (I Bj.2.2)) (rv_load1 Tryz.underlying3 rfl rfl hc16) (st (v := (B (Aa.2.2 != Bj.2.2))) (rv_neq (a := Aa.2.2) (b := Bj.2.2) rfl rfl) (w_end (q_then ?_)))
   refine cd_cond (Aa.2.2 != Bj.2.2) rfl (fun hb17 => ?_) (fun hb17 => ?_)
   ·replace h := bif_t hb17 h
    refine c_seq (rg (sa (B false) rfl (w_end (q_then (c_ret (q_then_r ?_))))))
    obtain rfl := sj h
    exact fin_ret (v := (B false)) (results_ok Tryz.results29 (res_tmp (v := (B false)) rfl res_nil) rfl) ⟨rfl, rfl⟩ (H.sel' [] rfl rfl)
   ·replace h := bif_f hb17 h
    refine c_skip (q_then (c_seq (rg (sa (B true) rfl (w_end (q_then (c_ret ?_)))))))
    obtain rfl := sj h
    exact fin_ret (v := (B true)) (results_ok Tryz.results29 (res_tmp (v := (B true)) rfl res_nil) rfl) ⟨rfl, rfl⟩ (H.sel' [] rfl rfl)

theorem c_laws_eqItemS {Aa : List (Int × (List Int) × Int)} {Bj : List (Int × (List Int) × Int)} {Ad : Option Addr} {Ae : Nat} {Gw : Option Addr} {Gx : Nat} {r : Bool} (h : M.laws_eqItemS Aa Bj = some r) :
    Cal2 Tryz.prog 10 [(Sl Ad Aa Ae), (Sl Gw Bj Gx)] [Ch.ro 0 (Sl Ad Aa Ae) Aa, Ch.ro 0 (Sl Gw Bj Gx) Bj] (fun n0 v L => v = (B r) ∧ L = []) := by
 refine cal2 (n := 27) Tryz.func10 rfl rfl rfl rfl ?_
 intro S0 σ0 n0 hn0 H
 unfold M.laws_eqItemS at h
 refine c_seq (rg (sa (B false) rfl (w_end (q_then (c_seq (c_seq (rg (sm (Sl Ad Aa Ae) rfl (st (v := (I (Aa.length : Int))) (rv_len Tryz.underlying27 rfl) (sm (Sl Gw Bj Gx) rfl (st (v := (I (Bj.length : Int))) (rv_len Tryz.underlying27 rfl) ?_)))))))))))
 refine st (v := (B ((Aa.length : Int) != (Bj.length : Int)))) (rv_neq (a := (Aa.length : Int)) (b := (Bj.length : Int)) rfl rfl) (w_end (q_then ?_))
 refine cd_cond ((Aa.length : Int) != (Bj.length : Int)) rfl (fun hb1 => ?_) (fun hb1 => ?_)
 ·replace h := bif_t hb1 h
  refine c_seq (rg (sa (B false) rfl (w_end (q_then (c_ret (q_then_r ?_))))))
  obtain rfl := sj h
  exact fin_ret (v := (B false)) (results_ok Tryz.results10 (res_tmp (v := (B false)) rfl res_nil) rfl) ⟨rfl, rfl⟩ (H.sel' [] rfl rfl)
 ·replace h := bif_f hb1 h
  refine c_skip (q_then (c_seq (c_seq (rg (sa (I 0) rfl (w_end (q_then ?_)))))))
  obtain ⟨o2, hj, h'⟩ := bind_some h
  clear h
  refine c_cut (fun e a w => (∃ t, o2 = (.inl t) ∧ e = .normal ∧ ∃ (ρ : Nat → Value) (σ : St), a = fr 27 (updL ρ []) ∧ w = σ.w ∧ Hp S0 σ0 σ []) ∨ (∃ t, o2 = (.inr t) ∧ e = .ret ∧ ∃ (ρ : Nat → Value) (σ : St), a = fr 27 (updL ρ [(4, (B t))]) ∧ w = σ.w ∧ Hp S0 σ0 σ [])) ?_ ?_
  ·clear h'
   rename _ = some o2 => h
   refine c_blk (wp_loopM _ h (fun s3 a w => ∃ (ρ : Nat → Value) (σ : St), a = fr 27 (updL ρ [(0, (Sl Ad Aa Ae)), (1, (Sl Gw Bj Gx)), (5, (I s3))]) ∧ w = σ.w ∧ Hp S0 σ0 σ [Ch.ro 0 (Sl Ad Aa Ae) Aa, Ch.ro 0 (Sl Gw Bj Gx) Bj]) ⟨_, σ0, fr_join ⟨rfl, rfl, rfl, trivial⟩, rfl, H.sel' [0, 1] rfl rfl⟩ ?_)
   clear h H
   rintro s3 a w o ⟨ρ, σ4, rfl, rfl, H⟩ h hres
   refine c_seq (c_seq (rg (sm (I s3) rfl (sm (Sl Ad Aa Ae) rfl (st (v := (I (Aa.length : Int))) (rv_len Tryz.underlying27 rfl) (st (v := (B (decide (s3 < (Aa.length : Int))))) (rv_lss (a := s3) (b := (Aa.length : Int)) rfl rfl) (w_end (q_then ?_))))))))
   refine cd_cond (decide (s3 < (Aa.length : Int))) rfl (fun hb5 => ?_) (fun hb5 => ?_)
   ·replace h := bif_t hb5 h
    refine c_skip (q_then (c_seq (c_blk (c_seq ?_))))
    refine rgP (σ := σ4) 8 (by kernel_rfl) (by kernel_rfl) (by kernel_rfl) ?_
    refine sq (v := (Sl Ad Aa Ae)) (rv_move rfl) (sq (v := (I s3)) (rv_move rfl) ?_)
    revert h; refine br fun x6 hx7 h => ?_
    obtain ⟨b9, o10, hi8, -⟩ := (H.ro 0 rfl).ix hx7
    refine sq (v := (pt b9 o10)) (rv_ix Tryz.underlying27 ti45 rfl rfl hi8) ?_
    obtain ⟨_, ⟨_, _, rfl, rfl, ⟨_, _, rfl, ⟨_, rfl, hR15⟩, rfl⟩⟩, hl11, hc12⟩ := ((H.ro 0 rfl).at hx7 hi8).cells
    obtain ⟨a13, c14, rfl⟩ := hR15.isSl
    replace H := H.add (d := Ch.ro 0 (Sl a13 x6.2.1 c14) x6.2.1) hR15 (fun _ h => h)
    clear hR15
    refine sq (v := (.agg #[(I x6.1), (Sl a13 x6.2.1 c14), (I x6.2.2)])) (rv_load Tryz.underlying45 rfl ti45 rfl hl11 hc12) (sq (v := (Sl Gw Bj Gx)) (rv_move rfl) (sq (v := (I s3)) (rv_move rfl) ?_))
    revert h; refine br fun x16 hx17 h => ?_
    obtain ⟨b19, o20, hi18, -⟩ := (H.ro 2 rfl).ix hx17
    refine sq (v := (pt b19 o20)) (rv_ix Tryz.underlying27 ti45 rfl rfl hi18) ?_
    obtain ⟨_, ⟨_, _, rfl, rfl, ⟨_, _, rfl, ⟨_, rfl, hR25⟩, rfl⟩⟩, hl21, hc22⟩ := ((H.ro 2 rfl).at hx17 hi18).cells
    obtain ⟨a23, c24, rfl⟩ := hR25.isSl
    replace H := H.add (d := Ch.ro 0 (Sl a23 x16.2.1 c24) x16.2.1) hR25 (fun _ h => h)
    clear hR25
    refine sq (v := (.agg #[(I x16.1), (Sl a23 x16.2.1 c24), (I x16.2.2)])) (rv_load Tryz.underlying45 rfl ti45 rfl hl21 hc22) (sq_end ?_)
    intro σ26 hm27
    replace H := H.grow (hm27.mono fun _ h => h); clear hm27
    revert h; refine br fun r28 hx29 h => ?_
    have hc30 := c_laws_eqItem (Af := a13) (Ag := c14) (Gy := a23) (Gz := c24) hx29
    refine st_call (cx_call hc30 (ent_f hc30.fn rfl) hn0 (H.sel' [1, 0, 0, 1, 2, 3] rfl rfl : Hp S0 σ0 _ ([_, _] ++ _))) wn ?_
    rintro _ σ31 ⟨_, ⟨rfl, rfl⟩, H, -⟩
    replace H : Hp _ _ _ [_, _, _, _] := H
    refine st (v := (B (!r28))) (rv_not rfl) (w_end (q_then ?_))
    refine cd_cond (!r28) rfl (fun hb32 => ?_) (fun hb32 => ?_)
    ·replace h := bif_t hb32 h
     refine c_seq (rg (sa (B false) rfl (w_end (q_then (c_ret (q_blk_r (q_then_r (q_then_r (q_blk_r ?_)))))))))
     obtain rfl := sj h
     obtain rfl := hres _ rfl
     exact .inr (⟨_, rfl, rfl, _, σ31, fr_join ⟨rfl, trivial⟩, rfl, H.sel' [] rfl rfl⟩)
    ·replace h := bif_f hb32 h
     refine c_skip (q_blk (q_then (rg (sm (I s3) rfl (st (v := (I (w64 (s3 + 1)))) (rv_add (a := s3) (b := 1) rfl rfl) (sa (I (w64 (s3 + 1))) rfl (w_end (q_then ?_))))))))
     obtain rfl := sj h
     exact ⟨_, rfl, _, σ31, fr_join ⟨rfl, rfl, rfl, trivial⟩, rfl, H.sel' [2, 3] rfl rfl⟩
   ·replace h := bif_f hb5 h
    refine c_exit (q_then_x (q_then_x (q_blk_hit ?_)))
    obtain rfl := sj h
    obtain rfl := hres _ rfl
    exact .inl ⟨_, rfl, rfl, _, σ4, fr_join trivial, rfl, H.sel' [] rfl rfl⟩
  ·clear hj
   have h := h'
   clear h' H
   rintro e a w (⟨t33, rfl, rfl, ρ, σ34, rfl, rfl, H⟩ | ⟨t35, rfl, rfl, ρ, σ36, rfl, rfl, H⟩)
   ·replace h := selim_l h
    refine q_then (c_seq (rg (sa (B true) rfl (w_end (q_then (c_ret ?_))))))
    obtain rfl := sj h
    exact fin_ret (v := (B true)) (results_ok Tryz.results10 (res_tmp (v := (B true)) rfl res_nil) rfl) ⟨rfl, rfl⟩ (H.sel' [] rfl rfl)
   ·replace h := selim_r h
    refine q_then_r ?_
    obtain rfl := sj h
    exact fin_ret (v := (B t35)) (results_ok Tryz.results10 (res_tmp (v := (B t35)) rfl res_nil) rfl) ⟨rfl, rfl⟩ (H.sel' [] rfl rfl)

theorem c_laws_markIntS {Aa : List Int} {Gf : Int} {Ad : Option Addr} {Ae : Nat} {r : Int × (List Int)} (h : M.laws_markIntS Aa Gf = some r) :
    Cal2 Tryz.prog 12 [(Sl Ad Aa Ae), (I Gf)] [Ch.own 0 0 (Sl Ad Aa Ae) Aa] (fun n0 v L => v = (I r.1) ∧ L = [Ch.own 0 0 (Sl Ad r.2 Ae) r.2] ∧ r.2.length = Aa.length) := by
 refine cal2 (n := 19) Tryz.func12 rfl rfl rfl rfl ?_
 intro S0 σ0 n0 hn0 H
 unfold M.laws_markIntS at h
 refine c_seq (rg (sa (I 0) rfl (w_end (q_then (c_seq (c_seq (rg (sa (I 0) rfl (w_end (q_then ?_))))))))))
 obtain ⟨o1, hj, h'⟩ := bind_some h
 clear h
 refine c_cut (fun e a w => e = .normal ∧ ∃ (ρ : Nat → Value) (σ : St), a = fr 19 (updL ρ [(0, (Sl Ad o1.1 Ae)), (1, (I o1.2))]) ∧ w = σ.w ∧ Hp S0 σ0 σ [Ch.own 0 0 (Sl Ad o1.1 Ae) o1.1] ∧ o1.1.length = Aa.length) ?_ ?_
 ·clear h'
  rename _ = some o1 => h
  refine c_blk (wp_loopM _ h (fun s2 a w => ∃ (ρ : Nat → Value) (σ : St), a = fr 19 (updL ρ [(0, (Sl Ad s2.1 Ae)), (1, (I s2.2.1)), (5, (I s2.2.2))]) ∧ w = σ.w ∧ Hp S0 σ0 σ [Ch.own 0 0 (Sl Ad s2.1 Ae) s2.1] ∧ s2.1.length = Aa.length) ⟨_, σ0, fr_join ⟨rfl, rfl, rfl, trivial⟩, rfl, H.sel' [0] rfl rfl, rfl⟩ ?_)
  clear h H
  rintro s2 a w o ⟨ρ, σ3, rfl, rfl, H, hn4⟩ h hres
  refine c_seq (c_seq (rg (sm (I s2.2.2) rfl (sm (Sl Ad s2.1 Ae) rfl (st (v := (I (s2.1.length : Int))) (rv_len Tryz.underlying23 rfl) (st (v := (B (decide (s2.2.2 < (s2.1.length : Int))))) (rv_lss (a := s2.2.2) (b := (s2.1.length : Int)) rfl rfl) (w_end (q_then ?_))))))))
  refine cd_cond (decide (s2.2.2 < (s2.1.length : Int))) rfl (fun hb5 => ?_) (fun hb5 => ?_)
  ·replace h := bif_t hb5 h
   refine c_skip (q_then (c_seq (c_blk (c_seq (rg (sm (Sl Ad s2.1 Ae) rfl (sm (I s2.2.2) rfl (sm (I s2.2.1) rfl ?_))))))))
   revert h; refine br fun x6 hx7 h => ?_
   obtain ⟨b9, o10, hi8, -⟩ := (H.own 0 rfl).ix hx7
   refine st (v := (pt b9 o10)) (rv_ix Tryz.underlying23 ti3 rfl rfl hi8) ?_
   refine st_exS (ex_store_own (e' := s2.2.1) (vs := [(I s2.2.1)]) (k := 0) H (i := 0) rfl ti3 hx7 hi8 rfl rfl rfl rfl rfl (Nat.le_of_ble_eq_true rfl) (by simp [plain]) (by rintro _ rfl; exact rfl)) wn ?_
   rintro σ11 ⟨H, -⟩
   have hsl : (Sl Ad s2.1 Ae) = (Sl Ad (s2.1.set s2.2.2.toNat s2.2.1) Ae) := sl_len List.length_set.symm
   rw [hsl]; rw [hsl] at H; clear hsl
   refine w_end (q_then (rg (sm (I s2.2.1) rfl (st (v := (I (w64 (s2.2.1 + 1)))) (rv_add (a := s2.2.1) (b := 1) rfl rfl) (sa (I (w64 (s2.2.1 + 1))) rfl (w_end (q_blk (q_then (rg (sm (I s2.2.2) rfl (st (v := (I (w64 (s2.2.2 + 1)))) (rv_add (a := s2.2.2) (b := 1) rfl rfl) ?_)))))))))))
   refine sa (I (w64 (s2.2.2 + 1))) rfl (w_end (q_then ?_))
   obtain rfl := sj h
   exact ⟨_, rfl, _, σ11, fr_join ⟨rfl, rfl, rfl, trivial⟩, rfl, H.sel' [0] rfl rfl, (List.length_set.trans hn4)⟩
  ·replace h := bif_f hb5 h
   refine c_exit (q_then_x (q_then_x (q_blk_hit ?_)))
   obtain rfl := sj h
   obtain rfl := hres _ rfl
   exact ⟨rfl, _, σ3, fr_join ⟨rfl, rfl, trivial⟩, rfl, H.sel' [0] rfl rfl, hn4⟩
 ·clear hj
  have h := h'
  clear h' H
  rintro e a w ⟨rfl, ρ, σ12, rfl, rfl, H, hn13⟩
  refine q_then (c_seq (rg (sm (I o1.2) rfl (sa (I o1.2) rfl (w_end (q_then (c_ret ?_)))))))
  obtain rfl := sj h
  exact fin_ret (v := (I o1.2)) (results_ok Tryz.results12 (res_tmp (v := (I o1.2)) rfl res_nil) rfl) ⟨rfl, rfl, hn13⟩ (H.sel' [0] rfl rfl)

theorem c_laws_markItemS {Aa : List (Int × (List Int) × Int)} {Gf : Int} {Ad : Option Addr} {Ae : Nat} {lo : Nat} {K : List Ch} (hK : Dp lo (Sl Ad Aa Ae) Aa K) {r : Int} (h : M.markItemD Aa Gf = some r) :
    Cal2 Tryz.prog 11 [(Sl Ad Aa Ae), (I Gf)] [Ch.big K] (fun n0 v L => v = (I r) ∧ L = []) := by
 obtain ⟨hn, h⟩ := markItemD_some h
 obtain ⟨ps, hps, rfl⟩ := hK.ex
 refine cal2 (n := 34) Tryz.func11 rfl rfl rfl rfl ?_
 intro S0 σ0 n0 hn0 H
 refine c_seq (rg (sa (I 0) rfl (w_end (q_then (c_seq (c_seq (rg (sa (I 0) rfl (w_end (q_then ?_))))))))))
 refine c_cut (fun e a w => e = .normal ∧ ∃ (ρ : Nat → Value) (σ : St), a = fr 34 (updL ρ [(1, (I r))]) ∧ w = σ.w ∧ Hp S0 σ0 σ []) ?_ ?_
 ·refine c_blk ?_
  have hlen : ps.length = Aa.length := by rw [hps]; simp
  refine wp_loop_ghost (fun m a w => ∃ (i : Nat) (ρ : Nat → Value) (σ : St) (ys : List (Int × Value × Int)) (qs : List ((Int × (List Int) × Int) × Value)) (k : Int), i + m = Aa.length ∧ qs.length = m ∧ ys.drop i = qs.map dsh ∧ M.dmarkItemS (qs.map (·.1)) k = some r ∧ a = fr 34 (updL ρ [(0, (Sl Ad Aa Ae)), (1, (I k)), (5, (I (i : Int)))]) ∧ w = σ.w ∧ Hp S0 σ0 σ [Ch.own lo lo (Sl Ad Aa Ae) ys, Ch.big (qs.map (dow lo))]) Aa.length ⟨0, _, σ0, _, ps, Gf, by omega, hlen, rfl, hps ▸ h, fr_join ⟨rfl, rfl, rfl, trivial⟩, rfl, H.unbig⟩ ?_
  clear H
  rintro m _ _ ⟨i, ρ, σ3, ys, qs, k, him, hqs, hys, hk, rfl, rfl, H⟩
  refine c_seq (c_seq (rg (sm (I (i : Int)) rfl (sm (Sl Ad Aa Ae) rfl (st (v := (I (Aa.length : Int))) (rv_len Tryz.underlying27 rfl) (st (v := (B (decide ((i : Int) < (Aa.length : Int))))) (rv_lss (a := (i : Int)) (b := (Aa.length : Int)) rfl rfl) (w_end (q_then ?_))))))))
  refine cd_cond (decide ((i : Int) < (Aa.length : Int))) rfl (fun hb => ?_) (fun hb => ?_)
  ·have hlt : i < Aa.length := by have := of_decide_eq_true hb; omega
   obtain ⟨m, rfl⟩ : ∃ m', m = m' + 1 := ⟨m - 1, by omega⟩
   obtain ⟨p, qs, rfl⟩ : ∃ p qs', qs = p :: qs' := by cases qs with
    | nil => cases hqs
    | cons p qs => exact ⟨p, qs, rfl⟩
   obtain ⟨q, hq, hk'⟩ := bind_some (show (M.laws_markIntS p.1.2.1 (w64 (k + 1))).bind (fun q => M.dmarkItemS (qs.map (·.1)) (w64 (q.1 + 1))) = some r from hk)
   replace hys : ys.drop i = dsh p :: qs.map dsh := hys
   refine c_skip (q_then (c_seq (c_blk (c_seq (rg (sm (Sl Ad Aa Ae) rfl (sm (I (i : Int)) rfl (sm (I k) rfl ?_))))))))
   have hx7 := gidx_drop hys
   obtain ⟨b9, o10, hi8, -⟩ := (H.own 0 rfl).ix hx7
   refine st (v := (pt b9 o10)) (rv_ix Tryz.underlying27 ti45 rfl rfl hi8) (st (v := (pt b9 (o10 + 0))) (rv_fieldAddr (off := 0) (ft := 3) Tryz.underlying45 rfl ti3 rfl rfl) ?_)
   refine st_exS (ex_store_own (e' := ((k, p.2, p.1.2.2) : Int × Value × Int)) (vs := [(I k)]) (k := 0) H (i := 0) rfl ti3 hx7 hi8 rfl rfl rfl rfl rfl (Nat.le_of_ble_eq_true rfl) (by simp [plain]) (by rintro _ ⟨_, _, rfl, rfl, ⟨_, _, rfl, ⟨rfl, hpl⟩, rfl⟩⟩; exact ⟨[(I k)], [p.2, (I p.1.2.2)], rfl, rfl, ⟨[p.2], [(I p.1.2.2)], rfl, ⟨rfl, hpl⟩, rfl⟩⟩)) (wanted_none _ rfl _) ?_
   rintro σ11 ⟨H, -⟩
   refine w_end (q_then (c_seq (rg (sm (I k) rfl (st (v := (I (w64 (k + 1)))) (rv_add (a := k) (b := 1) rfl rfl) (sa (I (w64 (k + 1))) rfl (w_end (q_then (c_seq (rg ?_))))))))))
   replace hys := drop_set (e' := ((k, p.2, p.1.2.2) : Int × Value × Int)) hys
   rw [Int.toNat_natCast] at H
   generalize ys.set i ((k, p.2, p.1.2.2) : Int × Value × Int) = ys at H hys
   have hx7 := gidx_drop hys
   refine sm (Sl Ad Aa Ae) rfl (sm (I (i : Int)) rfl ?_)
   obtain ⟨b9, o10, hi8, -⟩ := (H.own 0 rfl).ix hx7
   refine st (v := (pt b9 o10)) (rv_ix Tryz.underlying27 ti45 rfl rfl hi8) (st (v := (pt b9 (o10 + 1))) (rv_fieldAddr (off := 1) (ft := 23) Tryz.underlying45 rfl ti23 rfl rfl) ?_)
   obtain ⟨_, ⟨_, _, rfl, rfl, ⟨_, _, rfl, ⟨rfl, hpl⟩, rfl⟩⟩, hl18, hc19⟩ := ((H.own 0 rfl).at hx7 hi8).cells
   replace H := Hp.unbig (H.sel' [1, 0] rfl rfl)
   obtain ⟨a20, c21, h22⟩ : IsSl p.2 p.1.2.1.length := (show Ow σ11 lo lo p.2 p.1.2.1 from H.head).isSl
   obtain ⟨px, hd⟩ := p
   dsimp only at h22 hq hys hc19
   subst h22
   have hc20 := hc19 1 (by simp)
   refine st (v := (Sl a20 px.2.1 c21)) (rv_load1 Tryz.underlying23 rfl rfl hc20) (sm (I (w64 (k + 1))) rfl ?_)
   replace H : Hp _ _ _ [_, _, _] := H
   replace H := H.ownSc 0 0 0 rfl (Nat.zero_le _)
   have hc25 := c_laws_markIntS (Ad := a20) (Ae := c21) hq
   refine st_call (cx_call hc25 (ent_f hc25.fn rfl) hn0 (H.sel' [0, 1, 2] rfl rfl : Hp S0 σ0 _ ([_] ++ _))) (wanted_none _ rfl _) ?_
   rintro _ σ29 ⟨_, ⟨rfl, rfl, -⟩, H, -⟩
   replace H : Hp _ _ _ [_, _, _] := H
   replace H := H.sel' [2, 1] rfl rfl
   refine sa (I q.1) rfl (w_end (q_then (c_seq (rg (sm (Sl Ad Aa Ae) rfl (sm (I (i : Int)) rfl (sm (I q.1) rfl ?_)))))))
   obtain ⟨b9, o10, hi8, -⟩ := (H.own 0 rfl).ix hx7
   refine st (v := (pt b9 o10)) (rv_ix Tryz.underlying27 ti45 rfl rfl hi8) (st (v := (pt b9 (o10 + 2))) (rv_fieldAddr (off := 2) (ft := 3) Tryz.underlying45 rfl ti3 rfl rfl) ?_)
   refine st_exS (ex_store_own (e' := ((k, (Sl a20 px.2.1 c21), q.1) : Int × Value × Int)) (vs := [(I q.1)]) (k := 2) H (i := 0) rfl ti3 hx7 hi8 rfl rfl rfl rfl rfl (Nat.le_of_ble_eq_true rfl) (by simp [plain]) (by rintro _ ⟨_, _, rfl, rfl, ⟨_, _, rfl, ⟨rfl, hpl⟩, rfl⟩⟩; exact ⟨[(I k)], [(Sl a20 px.2.1 c21), (I q.1)], rfl, rfl, ⟨[(Sl a20 px.2.1 c21)], [(I q.1)], rfl, ⟨rfl, hpl⟩, rfl⟩⟩)) (wanted_none _ rfl _) ?_
   rintro σ30 ⟨H, -⟩
   refine w_end (q_then (rg (sm (I q.1) rfl (st (v := (I (w64 (q.1 + 1)))) (rv_add (a := q.1) (b := 1) rfl rfl) (sa (I (w64 (q.1 + 1))) rfl (w_end (q_blk (q_then (rg (sm (I (i : Int)) rfl (st (v := (I (w64 ((i : Int) + 1)))) (rv_add (a := (i : Int)) (b := 1) rfl rfl) ?_)))))))))))
   refine sa (I (w64 ((i : Int) + 1))) rfl (w_end ?_)
   have e1 : w64 ((i : Int) + 1) = ((i + 1 : Nat) : Int) := w64_id (by omega) (by omega)
   rw [e1]
   refine q_then ?_
   rw [Int.toNat_natCast] at H
   exact ⟨m, by omega, i + 1, _, σ30, _, qs, _, by omega, by simpa using hqs, drop_next (drop_set hys), hk', fr_join ⟨rfl, rfl, rfl, trivial⟩, rfl, H⟩
  ·have hlt : ¬ i < Aa.length := by have := of_decide_eq_false hb; omega
   obtain rfl : m = 0 := by omega
   obtain rfl : qs = [] := List.eq_nil_of_length_eq_zero hqs
   obtain rfl : k = r := Option.some.inj hk
   refine c_exit (q_then_x (q_then_x (q_blk_hit ?_)))
   exact ⟨rfl, _, σ3, fr_join ⟨rfl, trivial⟩, rfl, H.sel' [] rfl rfl⟩
 ·clear H
  rintro e a w ⟨rfl, ρ, σ41, rfl, rfl, H⟩
  refine q_then (c_seq (rg (sm (I r) rfl (sa (I r) rfl (w_end (q_then (c_ret ?_)))))))
  exact fin_ret (v := (I r)) (results_ok Tryz.results11 (res_tmp (v := (I r)) rfl res_nil) rfl) ⟨rfl, rfl⟩ H


theorem c_laws_heldIntS {Aa : List Int} {Gf : Int} {Ad : Option Addr} {Ae : Nat} {r : Int} (h : M.laws_heldIntS Aa Gf = some r) :
    Cal2 Tryz.prog 13 [(Sl Ad Aa Ae), (I Gf)] [Ch.ro 0 (Sl Ad Aa Ae) Aa] (fun n0 v L => v = (I r) ∧ L = []) := by
 refine cal2 (n := 21) Tryz.func13 rfl rfl rfl rfl ?_
 intro S0 σ0 n0 hn0 H
 unfold M.laws_heldIntS at h
 refine c_seq (rg (sa (I 0) rfl (w_end (q_then (c_seq (c_seq (rg (sa (I 0) rfl (w_end (q_then ?_))))))))))
 obtain ⟨o1, hj, h'⟩ := bind_some h
 clear h
 refine c_cut (fun e a w => (∃ t, o1 = (.inl t) ∧ e = .normal ∧ ∃ (ρ : Nat → Value) (σ : St), a = fr 21 (updL ρ [(1, (I t))]) ∧ w = σ.w ∧ Hp S0 σ0 σ []) ∨ (∃ t, o1 = (.inr t) ∧ e = .ret ∧ ∃ (ρ : Nat → Value) (σ : St), a = fr 21 (updL ρ [(4, (I t))]) ∧ w = σ.w ∧ Hp S0 σ0 σ [])) ?_ ?_
 ·clear h'
  rename _ = some o1 => h
  refine c_blk (wp_loopM _ h (fun s2 a w => ∃ (ρ : Nat → Value) (σ : St), a = fr 21 (updL ρ [(0, (Sl Ad Aa Ae)), (1, (I s2.1)), (5, (I s2.2))]) ∧ w = σ.w ∧ Hp S0 σ0 σ [Ch.ro 0 (Sl Ad Aa Ae) Aa]) ⟨_, σ0, fr_join ⟨rfl, rfl, rfl, trivial⟩, rfl, H.sel' [0] rfl rfl⟩ ?_)
  clear h H
  rintro s2 a w o ⟨ρ, σ3, rfl, rfl, H⟩ h hres
  refine c_seq (c_seq (rg (sm (I s2.2) rfl (sm (Sl Ad Aa Ae) rfl (st (v := (I (Aa.length : Int))) (rv_len Tryz.underlying23 rfl) (st (v := (B (decide (s2.2 < (Aa.length : Int))))) (rv_lss (a := s2.2) (b := (Aa.length : Int)) rfl rfl) (w_end (q_then ?_))))))))
  refine cd_cond (decide (s2.2 < (Aa.length : Int))) rfl (fun hb4 => ?_) (fun hb4 => ?_)
  ·replace h := bif_t hb4 h
   refine c_skip (q_then (c_seq (c_blk (c_seq (c_seq (rg (sm (Sl Ad Aa Ae) rfl (sm (I s2.2) rfl ?_))))))))
   revert h; refine br fun x5 hx6 h => ?_
   obtain ⟨b8, o9, hi7, -⟩ := (H.ro 0 rfl).ix hx6
   refine st (v := (pt b8 o9)) (rv_ix Tryz.underlying23 ti3 rfl rfl hi7) ?_
   have hc10 := ((H.ro 0 rfl).at hx6 hi7).int
   refine st (v := (I x5)) (rv_load1 Tryz.underlying3 rfl rfl hc10) (sm (I s2.1) rfl (st (v := (B (x5 != s2.1))) (rv_neq (a := x5) (b := s2.1) rfl rfl) (w_end (q_then ?_))))
   refine cd_cond (x5 != s2.1) rfl (fun hb11 => ?_) (fun hb11 => ?_)
   ·replace h := bif_t hb11 h
    refine c_seq (rg (sa (I (-1)) rfl (w_end (q_then (c_ret (q_then_r (q_blk_r (q_then_r (q_then_r (q_blk_r ?_))))))))))
    obtain rfl := sj h
    obtain rfl := hres _ rfl
    exact .inr (⟨_, rfl, rfl, _, σ3, fr_join ⟨rfl, trivial⟩, rfl, H.sel' [] rfl rfl⟩)
   ·replace h := bif_f hb11 h
    refine c_skip (q_then (rg (sm (I s2.1) rfl (st (v := (I (w64 (s2.1 + 1)))) (rv_add (a := s2.1) (b := 1) rfl rfl) (sa (I (w64 (s2.1 + 1))) rfl (w_end (q_blk (q_then (rg (sm (I s2.2) rfl (st (v := (I (w64 (s2.2 + 1)))) (rv_add (a := s2.2) (b := 1) rfl rfl) ?_)))))))))))
    refine sa (I (w64 (s2.2 + 1))) rfl (w_end (q_then ?_))
    obtain rfl := sj h
    exact ⟨_, rfl, _, σ3, fr_join ⟨rfl, rfl, rfl, trivial⟩, rfl, H.sel' [0] rfl rfl⟩
  ·replace h := bif_f hb4 h
   refine c_exit (q_then_x (q_then_x (q_blk_hit ?_)))
   obtain rfl := sj h
   obtain rfl := hres _ rfl
   exact .inl ⟨_, rfl, rfl, _, σ3, fr_join ⟨rfl, trivial⟩, rfl, H.sel' [] rfl rfl⟩
 ·clear hj
  have h := h'
  clear h' H
  rintro e a w (⟨t12, rfl, rfl, ρ, σ13, rfl, rfl, H⟩ | ⟨t14, rfl, rfl, ρ, σ15, rfl, rfl, H⟩)
  ·replace h := selim_l h
   refine q_then (c_seq (rg (sm (I t12) rfl (sa (I t12) rfl (w_end (q_then (c_ret ?_)))))))
   obtain rfl := sj h
   exact fin_ret (v := (I t12)) (results_ok Tryz.results13 (res_tmp (v := (I t12)) rfl res_nil) rfl) ⟨rfl, rfl⟩ (H.sel' [] rfl rfl)
  ·replace h := selim_r h
   refine q_then_r ?_
   obtain rfl := sj h
   exact fin_ret (v := (I t14)) (results_ok Tryz.results13 (res_tmp (v := (I t14)) rfl res_nil) rfl) ⟨rfl, rfl⟩ (H.sel' [] rfl rfl)

theorem c_laws_FnExactWalkTo {Ha : List (Int × (List Int) × Int)} {Hc : Int} {Hd : Int} {He : Int} {Hf : List Int} {Hg : Option Addr} {Hi : Nat} {Hj : Option Addr} {Hk : Nat} {r : Bool} (h : M.laws_FnExactWalkTo Ha Hc Hd He Hf = some r) :
    Cal2 Tryz.prog 3 [(Sl Hg Ha Hi), (I Hc), (I Hd), (I He), (Sl Hj Hf Hk)] [Ch.ro 0 (Sl Hg Ha Hi) Ha, Ch.ro 0 (Sl Hj Hf Hk) Hf] (fun n0 v L => v = (B r) ∧ L = []) := by
 refine cal2 (n := 132) Tryz.func3 rfl rfl rfl rfl ?_
 intro S0 σ0 n0 hn0 H
 unfold M.laws_FnExactWalkTo at h
 refine c_seq (rg (sa (B false) rfl (w_end (q_then (c_seq (c_seq (rg (sm (Sl Hj Hf Hk) rfl (st (v := (I (Hf.length : Int))) (rv_len Tryz.underlying23 rfl) (st (v := (B (decide (1048576 < (Hf.length : Int))))) (rv_gtr (a := (Hf.length : Int)) (b := 1048576) rfl rfl) (w_end ?_)))))))))))
 refine q_then ?_
 refine cd_cond (decide (1048576 < (Hf.length : Int))) rfl (fun hb1 => ?_) (fun hb1 => ?_)
 ·replace h := bif_t hb1 h
  refine c_seq (rg (sa (B true) rfl (w_end (q_then (c_ret (q_then_r ?_))))))
  obtain rfl := sj h
  exact fin_ret (v := (B true)) (results_ok Tryz.results3 (res_tmp (v := (B true)) rfl res_nil) rfl) ⟨rfl, rfl⟩ (H.sel' [] rfl rfl)
 ·replace h := bif_f hb1 h
  refine c_skip (q_then (c_seq (rg (sa (I 1048576) rfl (w_end (q_then (c_seq (rg (sm (Sl Hg Ha Hi) rfl (sm (I 1048576) rfl ?_))))))))))
  revert h; refine br fun r2 hx3 h => ?_
  have hc4 := c_laws_szItemS (Ad := Hg) (Ae := Hi) hx3
  refine st_call (cx_call hc4 (ent_f hc4.fn rfl) hn0 (H.sel' [0, 0, 1] rfl rfl : Hp S0 σ0 _ ([_] ++ _))) wn ?_
  rintro _ σ5 ⟨_, ⟨rfl, rfl⟩, H, -⟩
  replace H : Hp _ _ _ [_, _] := H
  refine sa (I r2) rfl (w_end (q_then (c_seq (c_seq (rg (sm (I r2) rfl (st (v := (B (decide (r2 < 0)))) (rv_lss (a := r2) (b := 0) rfl rfl) (w_end (q_then ?_)))))))))
  refine cd_cond (decide (r2 < 0)) rfl (fun hb6 => ?_) (fun hb6 => ?_)
  ·replace h := bif_t hb6 h
   refine c_seq (rg (sa (B true) rfl (w_end (q_then (c_ret (q_then_r ?_))))))
   obtain rfl := sj h
   exact fin_ret (v := (B true)) (results_ok Tryz.results3 (res_tmp (v := (B true)) rfl res_nil) rfl) ⟨rfl, rfl⟩ (H.sel' [] rfl rfl)
  ·replace h := bif_f hb6 h
   refine c_skip (q_then (c_seq (rg (sm (Sl Hg Ha Hi) rfl ?_))))
   revert h; refine br fun r7 hx8 h => ?_
   have hc9 := c_laws_toItemS (Ad := Hg) (Ae := Hi) hx8
   refine st_call (cx_call hc9 (ent_f hc9.fn rfl) hn0 (H.sel' [0, 0, 1] rfl rfl : Hp S0 σ0 _ ([_] ++ _))) wn ?_
   rintro _ σ14 ⟨_, ⟨a10, c11, K12, rfl, rfl, hK13⟩, H, -⟩
   replace H : Hp _ _ _ [_, _, _] := H
   refine sm (I Hc) rfl (sm (I Hd) rfl (sm (I He) rfl (sm (Sl Hj Hf Hk) rfl ?_)))
   revert h; refine br fun r15 hx16 h => ?_
   have hc17 := c_laws_toIntS (Ad := Hj) (Ae := Hk) hx16
   refine st_call (cx_call hc17 (ent_f hc17.fn rfl) hn0 (H.sel' [2, 0, 1, 2] rfl rfl : Hp S0 σ0 _ ([_] ++ _))) wn ?_
   rintro _ σ21 ⟨_, ⟨a18, c19, rfl, rfl, ht20⟩, H, -⟩
   replace H : Hp _ _ _ [_, _, _, _] := H
   obtain ⟨σ22, hw23, H, -⟩ := H.pub 0 rfl (Nat.le_refl _)
   rw [← hw23]; clear hw23
   replace H := H.roLow 0 0 rfl (Nat.zero_le _)
   revert h; refine br fun r24 hx25 h => ?_
   have hc26 := c_spec_WalkTo (Am := a10) (Ao := c11) (Bp := a18) (Bq := c19) hx25
   have hle := Nat.le_trans hn0 H.size
   refine st_call (cx_lend (Loan.lendB hK13.lends (Loan.same Loan.nil)) hc26 (ent_f hc26.fn rfl) (show Hp S0 σ0 _ ([Ch.big K12] ++ ([Ch.ro 0 (Sl a18 r15 c19) r15] ++ [Ch.ro 0 (Sl a18 r15 c19) r15, Ch.ro n0 (Sl a18 r15 c19) r15, Ch.ro 0 (Sl Hg Ha Hi) Ha, Ch.ro 0 (Sl Hj Hf Hk) Hf])) from (H.sel' [2, 0, 0, 1, 3, 4] rfl rfl)) (by rintro _ _ _ ⟨_, _, rfl, rfl⟩; exact ⟨Ab.ownSc, trivial⟩)) wn ?_
   rintro _ σ29 ⟨_, ⟨a27, c28, rfl, rfl⟩, H, -, -⟩
   replace H : Hp _ _ _ [_, _, _, _, _, _] := H
   replace H := H.ownLow 0 n0 n0 rfl hle hle
   clear hle
   replace H : Hp _ _ _ [_, _, _, _, _, _] := H
   refine sm (.tuple #[(Sl a27 r24.1 c28), (B r24.2)]) rfl (st (v := (Sl a27 r24.1 c28)) (rv_extract rfl rfl) (st (v := (B r24.2)) (rv_extract rfl rfl) (sa (Sl a27 r24.1 c28) rfl (sa (B r24.2) rfl (w_end (q_then (c_seq (rg (sm (Sl Hg Ha Hi) rfl ?_)))))))))
   revert h; refine br fun r30 hx31 h => ?_
   have hc32 := c_laws_toItemS (Ad := Hg) (Ae := Hi) hx31
   refine st_call (cx_call hc32 (ent_f hc32.fn rfl) hn0 (H.sel' [4, 0, 1, 2, 3, 4, 5] rfl rfl : Hp S0 σ0 _ ([_] ++ _))) wn ?_
   rintro _ σ37 ⟨_, ⟨a33, c34, K35, rfl, rfl, hK36⟩, H, -⟩
   replace H : Hp _ _ _ [_, _, _, _, _, _, _] := H
   refine sa (Sl a33 r30 c34) rfl (w_end (q_then (c_seq (rg (sm (Sl Hj Hf Hk) rfl ?_)))))
   revert h; refine br fun r38 hx39 h => ?_
   have hc40 := c_laws_toIntS (Ad := Hj) (Ae := Hk) hx39
   refine st_call (cx_call hc40 (ent_f hc40.fn rfl) hn0 (H.sel' [6, 0, 1, 2, 3, 4, 5, 6] rfl rfl : Hp S0 σ0 _ ([_] ++ _))) wn ?_
   rintro _ σ44 ⟨_, ⟨a41, c42, rfl, rfl, ht43⟩, H, -⟩
   replace H : Hp _ _ _ [_, _, _, _, _, _, _, _] := H
   replace H : Hp S0 σ0 σ44 [Ch.own n0 n0 (Sl a41 r38 c42) r38, Ch.big K35, Ch.own n0 n0 (Sl a27 r24.1 c28) r24.1, Ch.ro 0 (Sl Hg Ha Hi) Ha, Ch.ro 0 (Sl Hj Hf Hk) Hf] := H.sel' [0, 1, 2, 6, 7] rfl rfl
   refine sa (Sl a41 r38 c42) rfl (w_end (q_then (c_seq (rg (sm (Sl a33 r30 c34) rfl (sm (I Hc) rfl (sm (I Hd) rfl (sm (I He) rfl (sm (Sl a41 r38 c42) rfl ?_)))))))))
   revert h; refine br fun r45 hx46 h => ?_
   have hc47 := c_impl_WalkTo (Am := a33) (Ao := c34) (Bp := a41) (Bq := c42) hx46
   have hle := Nat.le_trans hn0 H.size
   refine st_call (cx_lend (Loan.lendB hK36.lends (Loan.lend Loan.nil)) hc47 (ent_f hc47.fn rfl) (show Hp S0 σ0 _ ([Ch.big K35, Ch.own n0 n0 (Sl a41 r38 c42) r38] ++ ([] ++ [Ch.own n0 n0 (Sl a27 r24.1 c28) r24.1, Ch.ro 0 (Sl Hg Ha Hi) Ha, Ch.ro 0 (Sl Hj Hf Hk) Hf])) from (H.sel' [1, 0, 2, 3, 4] rfl rfl)) (by rintro _ _ _ ⟨_, _, rfl, rfl⟩; exact ⟨Ab.ownSc, trivial⟩)) wn ?_
   rintro _ σ50 ⟨_, ⟨a48, c49, rfl, rfl⟩, H, -, -⟩
   replace H : Hp _ _ _ [_, _, _, _, _, _] := H
   replace H := H.ownLow 0 n0 n0 rfl hle hle
   clear hle
   replace H : Hp _ _ _ [_, _, _, _, _, _] := H
   refine sm (.tuple #[(Sl a48 r45.1 c49), (B r45.2)]) rfl (st (v := (Sl a48 r45.1 c49)) (rv_extract rfl rfl) (st (v := (B r45.2)) (rv_extract rfl rfl) (sa (Sl a48 r45.1 c49) rfl (sa (B r45.2) rfl (w_end (q_then (c_seq (c_seq ?_))))))))
   obtain ⟨o51, hj, h'⟩ := bind_some h
   clear h
   refine c_cut (fun e a w => e = .normal ∧ ∃ (ρ : Nat → Value) (σ : St), a = fr 132 (updL ρ [(0, (Sl Hg Ha Hi)), (1, (I Hc)), (2, (I Hd)), (3, (I He)), (4, (Sl Hj Hf Hk)), (12, (Sl a27 r24.1 c28)), (13, (B r24.2)), (14, (Sl a33 r30 c34)), (15, (Sl a41 r38 c42)), (16, (Sl a48 r45.1 c49)), (17, (B r45.2)), (63, (B o51))]) ∧ w = σ.w ∧ Hp S0 σ0 σ [Ch.ro 0 (Sl Hg Ha Hi) Ha, Ch.ro 0 (Sl Hj Hf Hk) Hf, Ch.own n0 n0 (Sl a27 r24.1 c28) r24.1, Ch.big K35, Ch.own n0 n0 (Sl a41 r38 c42) r38, Ch.own n0 n0 (Sl a48 r45.1 c49) r45.1]) ?_ ?_
   ·clear h'
    rename _ = some o51 => h
    refine rg (sm (Sl a48 r45.1 c49) rfl (sm (Sl a27 r24.1 c28) rfl ?_))
    revert h; refine br fun r52 hx53 h => ?_
    have hc54 := c_laws_eqIntS (Ad := a48) (Ae := c49) (Gw := a27) (Gx := c28) hx53
    have hle := Nat.le_trans hn0 H.size
    refine st_call (cx_lend (Loan.lend (Loan.lend Loan.nil)) hc54 (ent_f hc54.fn rfl) (show Hp S0 σ0 _ ([Ch.own n0 n0 (Sl a48 r45.1 c49) r45.1, Ch.own n0 n0 (Sl a27 r24.1 c28) r24.1] ++ ([] ++ [Ch.big K35, Ch.own n0 n0 (Sl a41 r38 c42) r38, Ch.ro 0 (Sl Hg Ha Hi) Ha, Ch.ro 0 (Sl Hj Hf Hk) Hf])) from (H.sel' [0, 3, 1, 2, 4, 5] rfl rfl)) (by rintro _ _ _ ⟨rfl, rfl⟩; exact trivial)) wn ?_
    rintro _ σ55 ⟨_, ⟨rfl, rfl⟩, H, -, -⟩
    replace H : Hp _ _ _ [_, _, _, _, _, _] := H
    clear hle
    replace H : Hp _ _ _ [_, _, _, _, _, _] := H
    refine st (v := (B (!r52))) (rv_not rfl) (sm (B (!r52)) rfl ?_)
    rcases Bool.eq_false_or_eq_true (!r52) with hb56 | hb56
    ·replace h := bif_t hb56 h
     refine st_skip (congrArg some hb56) (st_skip (congrArg some hb56) (st_skip (congrArg some hb56) (st (v := (B true)) (rv_pick_t (congrArg B hb56) rfl) (w_end ?_))))
     obtain rfl := sj h
     exact ⟨rfl, _, σ55, fr_join ⟨rfl, rfl, rfl, rfl, rfl, rfl, rfl, rfl, rfl, rfl, rfl, rfl, trivial⟩, rfl, H.sel' [4, 5, 1, 2, 3, 0] rfl rfl⟩
    ·replace h := bif_f hb56 h
     refine st_g (v := (B r45.2)) (congrArg some hb56) (rv_move rfl) (st_g (v := (B r24.2)) (congrArg some hb56) (rv_move rfl) (st_g (v := (B (r45.2 != r24.2))) (congrArg some hb56) (rv_bneq Tryz.underlying4 rfl rfl) (st (v := (B (r45.2 != r24.2))) (rv_pick_f (congrArg B hb56) rfl) (w_end ?_))))
     obtain rfl := sj h
     exact ⟨rfl, _, σ55, fr_join ⟨rfl, rfl, rfl, rfl, rfl, rfl, rfl, rfl, rfl, rfl, rfl, rfl, trivial⟩, rfl, H.sel' [4, 5, 1, 2, 3, 0] rfl rfl⟩
   ·clear hj
    have h := h'
    clear h' H
    rintro e a w ⟨rfl, ρ, σ57, rfl, rfl, H⟩
    refine q_then ?_
    refine cd_cond o51 rfl (fun hb58 => ?_) (fun hb58 => ?_)
    ·replace h := bif_t hb58 h
     refine c_seq (rg (sa (B false) rfl (w_end (q_then (c_ret (q_then_r ?_))))))
     obtain rfl := sj h
     exact fin_ret (v := (B false)) (results_ok Tryz.results3 (res_tmp (v := (B false)) rfl res_nil) rfl) ⟨rfl, rfl⟩ (H.sel' [] rfl rfl)
    ·replace h := bif_f hb58 h
     refine c_skip (q_then (c_seq (c_seq (rg (sm (Sl a33 r30 c34) rfl (sm (Sl Hg Ha Hi) rfl ?_))))))
     revert h; refine br fun r59 hx60 h => ?_
     have hc61 := c_laws_toItemS (Ad := Hg) (Ae := Hi) hx60
     refine st_call (cx_call hc61 (ent_f hc61.fn rfl) hn0 (H.sel' [0, 0, 1, 2, 3, 4, 5] rfl rfl : Hp S0 σ0 _ ([_] ++ _))) wn ?_
     rintro _ σ66 ⟨_, ⟨a62, c63, K64, rfl, rfl, hK65⟩, H, -⟩
     replace H : Hp _ _ _ [_, _, _, _, _, _, _] := H
     revert h; refine br fun r67 hx68 h => ?_
     have hc69 := c_laws_eqItemS (Ad := a33) (Ae := c34) (Gw := a62) (Gx := c63) hx68
     have hle := Nat.le_trans hn0 H.size
     refine st_call (cx_lend (Loan.lendB hK36.lends (Loan.lendB hK65.lends Loan.nil)) hc69 (ent_f hc69.fn rfl) (show Hp S0 σ0 _ ([Ch.big K35, Ch.big K64] ++ ([] ++ [Ch.ro 0 (Sl Hg Ha Hi) Ha, Ch.ro 0 (Sl Hj Hf Hk) Hf, Ch.own n0 n0 (Sl a27 r24.1 c28) r24.1, Ch.own n0 n0 (Sl a41 r38 c42) r38, Ch.own n0 n0 (Sl a48 r45.1 c49) r45.1])) from (H.sel' [4, 0, 1, 2, 3, 5, 6] rfl rfl)) (by rintro _ _ _ ⟨rfl, rfl⟩; exact trivial)) wn ?_
     rintro _ σ70 ⟨_, ⟨rfl, rfl⟩, H, -, -⟩
     replace H : Hp _ _ _ [_, _, _, _, _, _, _] := H
     clear hle
     replace H : Hp _ _ _ [_, _, _, _, _, _, _] := H
     refine st (v := (B (!r67))) (rv_not rfl) (w_end (q_then ?_))
     refine cd_cond (!r67) rfl (fun hb71 => ?_) (fun hb71 => ?_)
     ·replace h := bif_t hb71 h
      refine c_seq (rg (sa (B false) rfl (w_end (q_then (c_ret (q_then_r ?_))))))
      obtain rfl := sj h
      exact fin_ret (v := (B false)) (results_ok Tryz.results3 (res_tmp (v := (B false)) rfl res_nil) rfl) ⟨rfl, rfl⟩ (H.sel' [] rfl rfl)
     ·replace h := bif_f hb71 h
      refine c_skip (q_then (c_seq (c_seq (rg (sm (Sl a41 r38 c42) rfl (sm (Sl Hj Hf Hk) rfl ?_))))))
      revert h; refine br fun r72 hx73 h => ?_
      have hc74 := c_laws_toIntS (Ad := Hj) (Ae := Hk) hx73
      refine st_call (cx_call hc74 (ent_f hc74.fn rfl) hn0 (H.sel' [3, 0, 1, 2, 3, 4, 5, 6] rfl rfl : Hp S0 σ0 _ ([_] ++ _))) wn ?_
      rintro _ σ78 ⟨_, ⟨a75, c76, rfl, rfl, ht77⟩, H, -⟩
      replace H : Hp _ _ _ [_, _, _, _, _, _, _, _] := H
      replace H : Hp S0 σ0 σ78 [Ch.own n0 n0 (Sl a75 r72 c76) r72, Ch.big K35, Ch.ro 0 (Sl Hg Ha Hi) Ha, Ch.ro 0 (Sl Hj Hf Hk) Hf, Ch.own n0 n0 (Sl a27 r24.1 c28) r24.1, Ch.own n0 n0 (Sl a41 r38 c42) r38, Ch.own n0 n0 (Sl a48 r45.1 c49) r45.1] := H.sel' [0, 1, 3, 4, 5, 6, 7] rfl rfl
      obtain ⟨σ79, hw80, H, -⟩ := H.pub 0 rfl (Nat.le_refl _)
      rw [← hw80]; clear hw80
      replace H := H.roLow 0 0 rfl (Nat.zero_le _)
      revert h; refine br fun r81 hx82 h => ?_
      have hc83 := c_laws_eqIntS (Ad := a41) (Ae := c42) (Gw := a75) (Gx := c76) hx82
      have hle := Nat.le_trans hn0 H.size
      refine st_call (cx_lend (Loan.lend (Loan.same Loan.nil)) hc83 (ent_f hc83.fn rfl) (show Hp S0 σ0 _ ([Ch.own n0 n0 (Sl a41 r38 c42) r38] ++ ([Ch.ro 0 (Sl a75 r72 c76) r72] ++ [Ch.ro 0 (Sl a75 r72 c76) r72, Ch.ro n0 (Sl a75 r72 c76) r72, Ch.big K35, Ch.ro 0 (Sl Hg Ha Hi) Ha, Ch.ro 0 (Sl Hj Hf Hk) Hf, Ch.own n0 n0 (Sl a27 r24.1 c28) r24.1, Ch.own n0 n0 (Sl a48 r45.1 c49) r45.1])) from (H.sel' [6, 0, 0, 1, 2, 3, 4, 5, 7] rfl rfl)) (by rintro _ _ _ ⟨rfl, rfl⟩; exact trivial)) wn ?_
      rintro _ σ84 ⟨_, ⟨rfl, rfl⟩, H, -, -⟩
      replace H : Hp _ _ _ [_, _, _, _, _, _, _, _] := H
      clear hle
      replace H : Hp _ _ _ [_, _, _, _, _, _, _, _] := H
      replace H : Hp S0 σ0 σ84 [Ch.own n0 n0 (Sl a41 r38 c42) r38, Ch.big K35, Ch.ro 0 (Sl Hg Ha Hi) Ha, Ch.ro 0 (Sl Hj Hf Hk) Hf, Ch.own n0 n0 (Sl a27 r24.1 c28) r24.1, Ch.own n0 n0 (Sl a48 r45.1 c49) r45.1] := H.sel' [0, 3, 4, 5, 6, 7] rfl rfl
      refine st (v := (B (!r81))) (rv_not rfl) (w_end (q_then ?_))
      refine cd_cond (!r81) rfl (fun hb85 => ?_) (fun hb85 => ?_)
      ·replace h := bif_t hb85 h
       refine c_seq (rg (sa (B false) rfl (w_end (q_then (c_ret (q_then_r ?_))))))
       obtain rfl := sj h
       exact fin_ret (v := (B false)) (results_ok Tryz.results3 (res_tmp (v := (B false)) rfl res_nil) rfl) ⟨rfl, rfl⟩ (H.sel' [] rfl rfl)
      ·replace h := bif_f hb85 h
       refine c_skip (q_then (c_seq (rg (sa (I 1) rfl (w_end (q_then (c_seq (rg (sm (Sl a33 r30 c34) rfl (sm (I 1) rfl ?_))))))))))
       revert h; refine br fun r86 hx87 h => ?_
       have hc88 := c_laws_markItemS (Ad := a33) (Ae := c34) (hK := hK36) hx87
       refine st_call (cx_call hc88 (ent_f hc88.fn rfl) hn0 (H.sel' [1, 0, 2, 3, 4, 5] rfl rfl : Hp S0 σ0 _ ([_] ++ _))) wn ?_
       rintro _ σ89 ⟨_, ⟨rfl, rfl⟩, H, -⟩
       replace H : Hp _ _ _ [_, _, _, _, _] := H
       refine sa (I r86) rfl (w_end (q_then (c_seq (rg (sm (Sl a41 r38 c42) rfl (sm (I r86) rfl ?_))))))
       replace H := H.ownLow 0 0 0 rfl (Nat.zero_le _) (Nat.zero_le _)
       revert h; refine br fun r90 hx91 h => ?_
       have hc92 := c_laws_markIntS (Ad := a41) (Ae := c42) hx91
       refine st_call (cx_call hc92 (ent_f hc92.fn rfl) hn0 (H.sel' [0, 1, 2, 3, 4] rfl rfl : Hp S0 σ0 _ ([_] ++ _))) wn ?_
       rintro _ σ94 ⟨_, ⟨rfl, rfl, hn93⟩, H, -⟩
       replace H : Hp _ _ _ [_, _, _, _, _] := H
       have hsl : (Sl a41 r38 c42) = (Sl a41 r90.2 c42) := sl_len hn93.symm
       try rw [hsl]
       try rw [hsl] at H
       clear hsl
       refine sa (I r90.1) rfl (w_end (q_then (c_seq (c_seq ?_))))
       obtain ⟨o95, hj, h'⟩ := bind_some h
       clear h
       refine c_cut (fun e a w => e = .normal ∧ ∃ (ρ : Nat → Value) (σ : St), a = fr 132 (updL ρ [(0, (Sl Hg Ha Hi)), (1, (I Hc)), (2, (I Hd)), (3, (I He)), (4, (Sl Hj Hf Hk)), (12, (Sl a27 r24.1 c28)), (13, (B r24.2)), (16, (Sl a48 r45.1 c49)), (92, (B o95))]) ∧ w = σ.w ∧ Hp S0 σ0 σ [Ch.ro 0 (Sl Hg Ha Hi) Ha, Ch.ro 0 (Sl Hj Hf Hk) Hf, Ch.own n0 n0 (Sl a27 r24.1 c28) r24.1, Ch.own n0 n0 (Sl a48 r45.1 c49) r45.1]) ?_ ?_
       ·clear h'
        rename _ = some o95 => h
        refine rg (sm (I r90.1) rfl (st (v := (B (decide (r90.1 < 0)))) (rv_lss (a := r90.1) (b := 0) rfl rfl) (sm (B (decide (r90.1 < 0))) rfl ?_)))
        rcases Bool.eq_false_or_eq_true (decide (r90.1 < 0)) with hb96 | hb96
        ·replace h := bif_t hb96 h
         refine st_skip (congrArg some hb96) (st_skip (congrArg some hb96) (st_skip (congrArg some hb96) (st_skip (congrArg some hb96) (st (v := (B true)) (rv_pick_t (congrArg B hb96) rfl) (sm (B true) rfl (st_skip rfl (st_skip rfl (st_skip rfl (st (v := (B true)) (rv_pick_t rfl rfl) (w_end ?_))))))))))
         obtain rfl := sj h
         exact ⟨rfl, _, σ94, fr_join ⟨rfl, rfl, rfl, rfl, rfl, rfl, rfl, rfl, rfl, trivial⟩, rfl, H.sel' [1, 2, 3, 4] rfl rfl⟩
        ·replace h := bif_f hb96 h
         refine st_g (v := (Sl a48 r45.1 c49)) (congrArg some hb96) (rv_move rfl) (st_g (v := (Sl a27 r24.1 c28)) (congrArg some hb96) (rv_move rfl) ?_)
         revert h; refine br fun r97 hx98 h => ?_
         have hc99 := c_laws_eqIntS (Ad := a48) (Ae := c49) (Gw := a27) (Gx := c28) hx98
         have hle := Nat.le_trans hn0 H.size
         refine st_call (cx_lend (Loan.lend (Loan.lend Loan.nil)) hc99 (ent_f hc99.fn rfl) (show Hp S0 σ0 _ ([Ch.own n0 n0 (Sl a48 r45.1 c49) r45.1, Ch.own n0 n0 (Sl a27 r24.1 c28) r24.1] ++ ([] ++ [Ch.own 0 0 (Sl a41 r90.2 c42) r90.2, Ch.ro 0 (Sl Hg Ha Hi) Ha, Ch.ro 0 (Sl Hj Hf Hk) Hf])) from (H.sel' [4, 3, 0, 1, 2] rfl rfl)) (by rintro _ _ _ ⟨rfl, rfl⟩; exact trivial)) (wanted_yes rfl (by exact (congrArg some hb96))) ?_
         rintro _ σ100 ⟨_, ⟨rfl, rfl⟩, H, -, -⟩
         replace H : Hp _ _ _ [_, _, _, _, _] := H
         clear hle
         replace H : Hp _ _ _ [_, _, _, _, _] := H
         refine st_g (v := (B (!r97))) (congrArg some hb96) (rv_not rfl) (st (v := (B (!r97))) (rv_pick_f (congrArg B hb96) rfl) (sm (B (!r97)) rfl ?_))
         rcases Bool.eq_false_or_eq_true (!r97) with hb101 | hb101
         ·replace h := bif_t hb101 h
          refine st_skip (congrArg some hb101) (st_skip (congrArg some hb101) (st_skip (congrArg some hb101) (st (v := (B true)) (rv_pick_t (congrArg B hb101) rfl) (w_end ?_))))
          obtain rfl := sj h
          exact ⟨rfl, _, σ100, fr_join ⟨rfl, rfl, rfl, rfl, rfl, rfl, rfl, rfl, rfl, trivial⟩, rfl, H.sel' [3, 4, 1, 0] rfl rfl⟩
         ·replace h := bif_f hb101 h
          refine st_g (v := (B r45.2)) (congrArg some hb101) (rv_move rfl) (st_g (v := (B r24.2)) (congrArg some hb101) (rv_move rfl) (st_g (v := (B (r45.2 != r24.2))) (congrArg some hb101) (rv_bneq Tryz.underlying4 rfl rfl) (st (v := (B (r45.2 != r24.2))) (rv_pick_f (congrArg B hb101) rfl) (w_end ?_))))
          obtain rfl := sj h
          exact ⟨rfl, _, σ100, fr_join ⟨rfl, rfl, rfl, rfl, rfl, rfl, rfl, rfl, rfl, trivial⟩, rfl, H.sel' [3, 4, 1, 0] rfl rfl⟩
       ·clear hj
        have h := h'
        clear h' H
        rintro e a w ⟨rfl, ρ, σ102, rfl, rfl, H⟩
        refine q_then ?_
        refine cd_cond o95 rfl (fun hb103 => ?_) (fun hb103 => ?_)
        ·replace h := bif_t hb103 h
         refine c_seq (rg (sa (B false) rfl (w_end (q_then (c_ret (q_then_r ?_))))))
         obtain rfl := sj h
         exact fin_ret (v := (B false)) (results_ok Tryz.results3 (res_tmp (v := (B false)) rfl res_nil) rfl) ⟨rfl, rfl⟩ (H.sel' [] rfl rfl)
        ·replace h := bif_f hb103 h
         refine c_skip (q_then (c_seq (rg (sa (I 1) rfl (w_end (q_then (c_seq (rg (sm (Sl a48 r45.1 c49) rfl (sm (I 1) rfl ?_))))))))))
         replace H := H.ownLow 3 0 0 rfl (Nat.zero_le _) (Nat.zero_le _)
         revert h; refine br fun r104 hx105 h => ?_
         have hc106 := c_laws_markIntS (Ad := a48) (Ae := c49) hx105
         refine st_call (cx_call hc106 (ent_f hc106.fn rfl) hn0 (H.sel' [0, 1, 2, 3] rfl rfl : Hp S0 σ0 _ ([_] ++ _))) wn ?_
         rintro _ σ108 ⟨_, ⟨rfl, rfl, hn107⟩, H, -⟩
         replace H : Hp _ _ _ [_, _, _, _] := H
         have hsl : (Sl a48 r45.1 c49) = (Sl a48 r104.2 c49) := sl_len hn107.symm
         try rw [hsl]
         try rw [hsl] at H
         clear hsl
         refine sa (I r104.1) rfl (w_end (q_then (c_seq (rg (sa (I 1) rfl (w_end (q_then (c_seq (rg (sm (Sl a48 r104.2 c49) rfl (sm (I 1) rfl ?_)))))))))))
         revert h; refine br fun r109 hx110 h => ?_
         have hc111 := c_laws_heldIntS (Ad := a48) (Ae := c49) hx110
         have hle := Nat.le_trans hn0 H.size
         refine st_call (cx_lend (Loan.lend Loan.nil) hc111 (ent_f hc111.fn rfl) (show Hp S0 σ0 _ ([Ch.own 0 0 (Sl a48 r104.2 c49) r104.2] ++ ([] ++ [Ch.ro 0 (Sl Hg Ha Hi) Ha, Ch.ro 0 (Sl Hj Hf Hk) Hf, Ch.own n0 n0 (Sl a27 r24.1 c28) r24.1])) from (H.sel' [0, 1, 2, 3] rfl rfl)) (by rintro _ _ _ ⟨rfl, rfl⟩; exact trivial)) wn ?_
         rintro _ σ112 ⟨_, ⟨rfl, rfl⟩, H, -, -⟩
         replace H : Hp _ _ _ [_, _, _, _] := H
         clear hle
         replace H : Hp _ _ _ [_, _, _, _] := H
         refine sa (I r109) rfl (w_end (q_then (c_seq (c_seq (rg (sm (I r109) rfl (st (v := (B (decide (r109 < 0)))) (rv_lss (a := r109) (b := 0) rfl rfl) (w_end (q_then ?_)))))))))
         refine cd_cond (decide (r109 < 0)) rfl (fun hb113 => ?_) (fun hb113 => ?_)
         ·replace h := bif_t hb113 h
          refine c_seq (rg (sa (B false) rfl (w_end (q_then (c_ret (q_then_r ?_))))))
          obtain rfl := sj h
          exact fin_ret (v := (B false)) (results_ok Tryz.results3 (res_tmp (v := (B false)) rfl res_nil) rfl) ⟨rfl, rfl⟩ (H.sel' [] rfl rfl)
         ·replace h := bif_f hb113 h
          refine c_skip (q_then (c_seq (c_seq (rg (sm (I r109) rfl (sm (I r104.1) rfl (st (v := (B (r109 != r104.1))) (rv_neq (a := r109) (b := r104.1) rfl rfl) (w_end (q_then ?_)))))))))
          refine cd_cond (r109 != r104.1) rfl (fun hb114 => ?_) (fun hb114 => ?_)
          ·replace h := bif_t hb114 h
           refine c_seq (rg (sa (B false) rfl (w_end (q_then (c_ret (q_then_r ?_))))))
           obtain rfl := sj h
           exact fin_ret (v := (B false)) (results_ok Tryz.results3 (res_tmp (v := (B false)) rfl res_nil) rfl) ⟨rfl, rfl⟩ (H.sel' [] rfl rfl)
          ·replace h := bif_f hb114 h
           refine c_skip (q_then (c_seq (rg (sm (Sl Hg Ha Hi) rfl ?_))))
           revert h; refine br fun r115 hx116 h => ?_
           have hc117 := c_laws_toItemS (Ad := Hg) (Ae := Hi) hx116
           refine st_call (cx_call hc117 (ent_f hc117.fn rfl) hn0 (H.sel' [1, 0, 1, 2, 3] rfl rfl : Hp S0 σ0 _ ([_] ++ _))) wn ?_
           rintro _ σ122 ⟨_, ⟨a118, c119, K120, rfl, rfl, hK121⟩, H, -⟩
           replace H : Hp _ _ _ [_, _, _, _, _] := H
           refine sm (I Hc) rfl (sm (I Hd) rfl (sm (I He) rfl (sm (Sl Hj Hf Hk) rfl ?_)))
           revert h; refine br fun r123 hx124 h => ?_
           have hc125 := c_laws_toIntS (Ad := Hj) (Ae := Hk) hx124
           refine st_call (cx_call hc125 (ent_f hc125.fn rfl) hn0 (H.sel' [3, 0, 1, 2, 3, 4] rfl rfl : Hp S0 σ0 _ ([_] ++ _))) wn ?_
           rintro _ σ129 ⟨_, ⟨a126, c127, rfl, rfl, ht128⟩, H, -⟩
           replace H : Hp _ _ _ [_, _, _, _, _, _] := H
           obtain ⟨σ130, hw131, H, -⟩ := H.pub 0 rfl (Nat.le_refl _)
           rw [← hw131]; clear hw131
           replace H := H.roLow 0 0 rfl (Nat.zero_le _)
           revert h; refine br fun r132 hx133 h => ?_
           have hc134 := c_impl_WalkTo (Am := a118) (Ao := c119) (Bp := a126) (Bq := c127) hx133
           have hle := Nat.le_trans hn0 H.size
           refine st_call (cx_lend (Loan.lendB hK121.lends (Loan.same Loan.nil)) hc134 (ent_f hc134.fn rfl) (show Hp S0 σ0 _ ([Ch.big K120] ++ ([Ch.ro 0 (Sl a126 r123 c127) r123] ++ [Ch.ro 0 (Sl a126 r123 c127) r123, Ch.ro n0 (Sl a126 r123 c127) r123, Ch.own 0 0 (Sl a48 r104.2 c49) r104.2, Ch.ro 0 (Sl Hg Ha Hi) Ha, Ch.ro 0 (Sl Hj Hf Hk) Hf, Ch.own n0 n0 (Sl a27 r24.1 c28) r24.1])) from (H.sel' [2, 0, 0, 1, 3, 4, 5, 6] rfl rfl)) (by rintro _ _ _ ⟨_, _, rfl, rfl⟩; exact ⟨Ab.ownSc, trivial⟩)) wn ?_
           rintro _ σ137 ⟨_, ⟨a135, c136, rfl, rfl⟩, H, -, -⟩
           replace H : Hp _ _ _ [_, _, _, _, _, _, _, _] := H
           replace H := H.ownLow 0 n0 n0 rfl hle hle
           clear hle
           replace H : Hp _ _ _ [_, _, _, _, _, _, _, _] := H
           replace H : Hp S0 σ0 σ137 [Ch.own n0 n0 (Sl a135 r132.1 c136) r132.1, Ch.own 0 0 (Sl a48 r104.2 c49) r104.2, Ch.own n0 n0 (Sl a27 r24.1 c28) r24.1] := H.sel' [0, 4, 7] rfl rfl
           refine sm (.tuple #[(Sl a135 r132.1 c136), (B r132.2)]) rfl (st (v := (Sl a135 r132.1 c136)) (rv_extract rfl rfl) (st (v := (B r132.2)) (rv_extract rfl rfl) (sa (Sl a135 r132.1 c136) rfl (sa (B r132.2) rfl (w_end (q_then (c_seq (c_seq ?_))))))))
           obtain ⟨o138, hj, h'⟩ := bind_some h
           clear h
           refine c_cut (fun e a w => e = .normal ∧ ∃ (ρ : Nat → Value) (σ : St), a = fr 132 (updL ρ [(16, (Sl a48 r104.2 c49)), (19, (I r104.1)), (123, (B o138))]) ∧ w = σ.w ∧ Hp S0 σ0 σ [Ch.own 0 0 (Sl a48 r104.2 c49) r104.2]) ?_ ?_
           ·clear h'
            rename _ = some o138 => h
            refine rg (sm (Sl a135 r132.1 c136) rfl (sm (Sl a27 r24.1 c28) rfl ?_))
            obtain ⟨σ139, hw140, H, -⟩ := H.pub 0 rfl (Nat.le_refl _)
            rw [← hw140]; clear hw140
            obtain ⟨σ141, hw142, H, -⟩ := H.pub 2 rfl (Nat.le_refl _)
            rw [← hw142]; clear hw142
            replace H := H.roLow 1 0 rfl (Nat.zero_le _)
            replace H := H.roLow 1 0 rfl (Nat.zero_le _)
            revert h; refine br fun r143 hx144 h => ?_
            have hc145 := c_laws_eqIntS (Ad := a135) (Ae := c136) (Gw := a27) (Gx := c28) hx144
            refine st_call (cx_call hc145 (ent_f hc145.fn rfl) hn0 (H.sel' [1, 0, 0, 1, 2, 3, 4] rfl rfl : Hp S0 σ0 _ ([_, _] ++ _))) wn ?_
            rintro _ σ146 ⟨_, ⟨rfl, rfl⟩, H, -⟩
            replace H : Hp _ _ _ [_, _, _, _, _] := H
            refine st (v := (B (!r143))) (rv_not rfl) (sm (B (!r143)) rfl ?_)
            rcases Bool.eq_false_or_eq_true (!r143) with hb147 | hb147
            ·replace h := bif_t hb147 h
             refine st_skip (congrArg some hb147) (st_skip (congrArg some hb147) (st_skip (congrArg some hb147) (st (v := (B true)) (rv_pick_t (congrArg B hb147) rfl) (w_end ?_))))
             obtain rfl := sj h
             exact ⟨rfl, _, σ146, fr_join ⟨rfl, rfl, rfl, trivial⟩, rfl, H.sel' [4] rfl rfl⟩
            ·replace h := bif_f hb147 h
             refine st_g (v := (B r132.2)) (congrArg some hb147) (rv_move rfl) (st_g (v := (B r24.2)) (congrArg some hb147) (rv_move rfl) (st_g (v := (B (r132.2 != r24.2))) (congrArg some hb147) (rv_bneq Tryz.underlying4 rfl rfl) (st (v := (B (r132.2 != r24.2))) (rv_pick_f (congrArg B hb147) rfl) (w_end ?_))))
             obtain rfl := sj h
             exact ⟨rfl, _, σ146, fr_join ⟨rfl, rfl, rfl, trivial⟩, rfl, H.sel' [4] rfl rfl⟩
           ·clear hj
            have h := h'
            clear h' H
            rintro e a w ⟨rfl, ρ, σ148, rfl, rfl, H⟩
            refine q_then ?_
            refine cd_cond o138 rfl (fun hb149 => ?_) (fun hb149 => ?_)
            ·replace h := bif_t hb149 h
             refine c_seq (rg (sa (B false) rfl (w_end (q_then (c_ret (q_then_r ?_))))))
             obtain rfl := sj h
             exact fin_ret (v := (B false)) (results_ok Tryz.results3 (res_tmp (v := (B false)) rfl res_nil) rfl) ⟨rfl, rfl⟩ (H.sel' [] rfl rfl)
            ·replace h := bif_f hb149 h
             refine c_skip (q_then (c_seq (rg (sa (I 1) rfl (w_end (q_then (c_seq (rg (sm (Sl a48 r104.2 c49) rfl (sm (I 1) rfl ?_))))))))))
             obtain ⟨σ150, hw151, H, -⟩ := H.pub 0 rfl (Nat.le_refl _)
             rw [← hw151]; clear hw151
             revert h; refine br fun r152 hx153 h => ?_
             have hc154 := c_laws_heldIntS (Ad := a48) (Ae := c49) hx153
             refine st_call (cx_call hc154 (ent_f hc154.fn rfl) hn0 (H.sel' [0, 0] rfl rfl : Hp S0 σ0 _ ([_] ++ _))) wn ?_
             rintro _ σ155 ⟨_, ⟨rfl, rfl⟩, H, -⟩
             replace H : Hp _ _ _ [_] := H
             refine sa (I r152) rfl (w_end (q_then (c_seq (c_seq (rg (sm (I r152) rfl (st (v := (B (decide (r152 < 0)))) (rv_lss (a := r152) (b := 0) rfl rfl) (w_end (q_then ?_)))))))))
             refine cd_cond (decide (r152 < 0)) rfl (fun hb156 => ?_) (fun hb156 => ?_)
             ·replace h := bif_t hb156 h
              refine c_seq (rg (sa (B false) rfl (w_end (q_then (c_ret (q_then_r ?_))))))
              obtain rfl := sj h
              exact fin_ret (v := (B false)) (results_ok Tryz.results3 (res_tmp (v := (B false)) rfl res_nil) rfl) ⟨rfl, rfl⟩ (H.sel' [] rfl rfl)
             ·replace h := bif_f hb156 h
              refine c_skip (q_then (c_seq (c_seq (rg (sm (I r152) rfl (sm (I r104.1) rfl (st (v := (B (r152 != r104.1))) (rv_neq (a := r152) (b := r104.1) rfl rfl) (w_end (q_then ?_)))))))))
              refine cd_cond (r152 != r104.1) rfl (fun hb157 => ?_) (fun hb157 => ?_)
              ·replace h := bif_t hb157 h
               refine c_seq (rg (sa (B false) rfl (w_end (q_then (c_ret (q_then_r ?_))))))
               obtain rfl := sj h
               exact fin_ret (v := (B false)) (results_ok Tryz.results3 (res_tmp (v := (B false)) rfl res_nil) rfl) ⟨rfl, rfl⟩ (H.sel' [] rfl rfl)
              ·replace h := bif_f hb157 h
               refine c_skip (q_then (c_seq (rg (sa (B true) rfl (w_end (q_then (c_ret ?_)))))))
               obtain rfl := sj h
               exact fin_ret (v := (B true)) (results_ok Tryz.results3 (res_tmp (v := (B true)) rfl res_nil) rfl) ⟨rfl, rfl⟩ (H.sel' [] rfl rfl)

end Go.Vs
