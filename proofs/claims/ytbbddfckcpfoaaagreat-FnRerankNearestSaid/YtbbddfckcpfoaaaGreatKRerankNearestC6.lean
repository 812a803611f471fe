/- The functions compute what their models say. -/
import Derived.Test.YtbbddfckcpfoaaaGreatKRerankNearestC5
set_option linter.unusedVariables false
set_option linter.unusedSimpArgs false
set_option maxRecDepth 20000
namespace Go.Vs
open Go Go.Proofs
attribute [local irreducible] Code.wp Code.wpIn wpList wpListIn wpQuiet Calls CallsIn

theorem c_spec_nearest {Av : List (Int × (List Int) × Int)} {Ba : Int} {Bb : List Int} {Bc : Int} {Aw : Option Addr} {Ax : Nat} {Bd : Option Addr} {Be : Nat} {r : (List (Int × Int))} (h : M.spec_nearest Av Ba Bb Bc = some r) :
    Cal2 Tryz.prog 76 [(Sl Aw Av Ax), (I Ba), (Sl Bd Bb Be), (I Bc)] [Ch.ro 0 (Sl Aw Av Ax) Av, Ch.ro 0 (Sl Bd Bb Be) Bb] (fun n0 v L => ∃ (az1 : Option Addr), ∃ (cz2 : Nat), v = (Sl az1 r cz2) ∧ L = [Ch.own n0 n0 (Sl az1 r cz2) r]) := by
 refine cal2 (n := 36) Tryz.func76 rfl rfl rfl rfl ?_
 intro S0 σ0 n0 hn0 H
 unfold M.spec_nearest at h
 refine c_seq (rg (sa (.slice none 0 0) rfl (w_end (q_then (c_seq (rg ?_))))))
 refine st_ex (ex_buildSlice (el := n0) (xs := ([] : List (Int × Int))) (ps := []) (cs := []) H hn0 Tryz.underlying30 ti43 rfl rfl (by kernel_rfl) (.nil) rfl) wn ?_
 rintro _ σ2 ⟨b1, rfl, H, -⟩
 refine sa (Sl (some ⟨b1, 0, none⟩) ([] : List (Int × Int)) 0) rfl (w_end (q_then (c_seq (c_seq (rg (sa (I 0) rfl (w_end (q_then ?_))))))))
 obtain ⟨o3, hj, h'⟩ := bind_some h
 clear h
 refine c_cut (fun e a w => e = .normal ∧ ∃ (ρ : Nat → Value) (σ : St) (aj1 : Option Addr) (cj2 : Nat), a = fr 36 (updL ρ [(9, (Sl aj1 o3 cj2))]) ∧ w = σ.w ∧ Hp S0 σ0 σ [Ch.own n0 n0 (Sl aj1 o3 cj2) o3]) ?_ ?_
 ·clear h'
  rename _ = some o3 => h
  refine c_blk (wp_loopM _ h (fun s4 a w => ∃ (ρ : Nat → Value) (σ : St) (aj1 : Option Addr) (cj2 : Nat), a = fr 36 (updL ρ [(0, (Sl Aw Av Ax)), (1, (I Ba)), (2, (Sl Bd Bb Be)), (3, (I Bc)), (9, (Sl aj1 s4.1 cj2)), (10, (I s4.2))]) ∧ w = σ.w ∧ Hp S0 σ0 σ [Ch.ro 0 (Sl Aw Av Ax) Av, Ch.ro 0 (Sl Bd Bb Be) Bb, Ch.own n0 n0 (Sl aj1 s4.1 cj2) s4.1]) ⟨_, σ2, (some ⟨b1, 0, none⟩), 0, fr_join ⟨rfl, rfl, rfl, rfl, rfl, rfl, trivial⟩, rfl, H.sel' [1, 2, 0] rfl rfl⟩ ?_)
  clear h H
  rintro s4 a w o ⟨ρ, σ5, a6, c7, rfl, rfl, H⟩ h hres
  refine c_seq (c_seq (rg (sm (I s4.2) rfl (sm (Sl Aw Av Ax) rfl (st (v := (I (Av.length : Int))) (rv_len Tryz.underlying26 rfl) (st (v := (B (decide (s4.2 < (Av.length : Int))))) (rv_lss (a := s4.2) (b := (Av.length : Int)) rfl rfl) (w_end (q_then ?_))))))))
  refine cd_cond (decide (s4.2 < (Av.length : Int))) rfl (fun hb8 => ?_) (fun hb8 => ?_)
  ·replace h := bif_t hb8 h
   refine c_skip (q_then (c_seq (c_blk ?_)))
   revert h; refine br fun x9 hx10 h => ?_
   obtain ⟨b12, o13, hi11, -⟩ := (H.ro 0 rfl).ix hx10
   have hc14 := ((H.ro 0 rfl).at hx10 hi11).fst.int
   revert h; refine br fun x15 hx16 h => ?_
   obtain ⟨b18, o19, hi17, -⟩ := (H.ro 0 rfl).ix hx16
   obtain ⟨v23, hc24, hR22⟩ := ((H.ro 0 rfl).at hx16 hi17).snd.fst.slice
   obtain ⟨a20, c21, rfl⟩ := hR22.isSl
   replace H := H.add (d := Ch.ro 0 (Sl a20 x15.2.1 c21) x15.2.1) hR22 (fun _ h => h)
   clear hR22
   revert h; refine br fun r25 hx26 h => ?_
   have hc27 := c_spec_dist (Du := a20) (Dv := c21) (Dw := Bd) (Dx := Be) hx26
   have Hs := H
   refine rg2 (σ := σ5) (Nm := Unit) 16 [13] [[false], [true]] [[(0, 0), (1, 1)], [(0, 0), (1, 1)], [(0, 0), (1, 1)], [(0, 0), (1, 1)], [(0, 0), (1, 1)], [(0, 0), (1, 1)], [(0, 0)], [(0, 0)], [(0, 0)], [(0, 0)], [(0, 0)], [(0, 0)], [(0, 0)], [(0, 1)], [(1, 1)], [(0, 0), (1, 1)]] 1 [fun _ => fun σm => Hp S0 σ0 σm [Ch.ro 0 (Sl a20 x15.2.1 c21) x15.2.1, Ch.ro 0 (Sl Aw Av Ax) Av, Ch.ro 0 (Sl Bd Bb Be) Bb, Ch.own n0 n0 (Sl a6 s4.1 c7) s4.1] ∧ Md (cov []) σ5 σm, fun _ => fun σm => Hp S0 σ0 σm [Ch.ro 0 (Sl a20 x15.2.1 c21) x15.2.1, Ch.ro 0 (Sl Aw Av Ax) Av, Ch.ro 0 (Sl Bd Bb Be) Bb, Ch.own n0 n0 (Sl a6 s4.1 c7) s4.1] ∧ Md (cov []) σ5 σm] [fun _ => (Sl a6 s4.1 c7), fun _ => (Sl Aw Av Ax), fun _ => (I s4.2), fun _ => (pt b12 o13), fun _ => (pt b12 (o13 + 0)), fun _ => (I x9.1), fun _ => (I Ba), fun _ => (Sl Aw Av Ax), fun _ => (I s4.2), fun _ => (pt b18 o19), fun _ => (pt b18 (o19 + 1)), fun _ => (Sl a20 x15.2.1 c21), fun _ => (Sl Bd Bb Be), fun _ => (I r25), fun _ => (.agg #[(I x9.1), (I r25)]), fun _ => (I Bc)] () (by kernel_rfl) (by kernel_rfl) ?_ ?_ ?_
   ·intro σm m0
    exact ⟨H.grow (m0.mono fun _ h => h.elim), m0⟩
   ·refine ac rfl (by
      intro k _nm ρ σm hJ hoff hdep
      have e9 := look_off (N := 36) (hoff 9 rfl) rfl
      exact dp_v (v := (Sl a6 s4.1 c7)) wn (rv_move e9) rfl hJ) ?_
    refine ac rfl (by
      intro k _nm ρ σm hJ hoff hdep
      have e0 := look_off (N := 36) (hoff 0 rfl) rfl
      exact dp_v (v := (Sl Aw Av Ax)) wn (rv_move e0) rfl hJ) ?_
    refine ac rfl (by
      intro k _nm ρ σm hJ hoff hdep
      have e10 := look_off (N := 36) (hoff 10 rfl) rfl
      exact dp_v (v := (I s4.2)) wn (rv_move e10) rfl hJ) ?_
    refine ac rfl (by
      intro k _nm ρ σm hJ hoff hdep
      have e19 := hdep 1 rfl rfl 19 rfl
      have e20 := hdep 2 rfl rfl 20 rfl
      exact dp_v (v := (pt b12 o13)) wn (rv_ix Tryz.underlying26 ti34 e19 e20 hi11) rfl hJ) ?_
    refine ac rfl (by
      intro k _nm ρ σm hJ hoff hdep
      have e21 := hdep 3 rfl rfl 21 rfl
      exact dp_v (v := (pt b12 (o13 + 0))) wn (rv_fieldAddr (off := 0) (ft := 3) Tryz.underlying34 rfl ti3 rfl e21) rfl hJ) ?_
    refine all_cons (by
      refine ⟨?_, ?_⟩
      ·intro _nm ρ σm hJ hoff hdep
       have e22 := hdep 4 rfl rfl 22 rfl
       obtain ⟨H, m⟩ := id hJ
       replace hc14 := (Hs.ro 1 rfl).hmd hx10 hi11 (k := 0) (by decide) hc14 m
       exact dp_v (v := (I x9.1)) wn (rv_load1 Tryz.underlying3 rfl e22 hc14) rfl hJ
      refine ⟨?_, ?_⟩
      ·intro _nm ρ σm hJ hoff hdep
       have e22 := hdep 4 rfl rfl 22 rfl
       obtain ⟨H, m⟩ := id hJ
       replace hc14 := (Hs.ro 1 rfl).hmd hx10 hi11 (k := 0) (by decide) hc14 m
       exact dp_v (v := (I x9.1)) wn (rv_load1 Tryz.underlying3 rfl e22 hc14) rfl hJ
      trivial) ?_
    refine ac rfl (by
      intro k _nm ρ σm hJ hoff hdep
      have e1 := look_off (N := 36) (hoff 1 rfl) rfl
      exact dp_v (v := (I Ba)) wn (rv_move e1) rfl hJ) ?_
    refine ac rfl (by
      intro k _nm ρ σm hJ hoff hdep
      have e0 := look_off (N := 36) (hoff 0 rfl) rfl
      exact dp_v (v := (Sl Aw Av Ax)) wn (rv_move e0) rfl hJ) ?_
    refine ac rfl (by
      intro k _nm ρ σm hJ hoff hdep
      have e10 := look_off (N := 36) (hoff 10 rfl) rfl
      exact dp_v (v := (I s4.2)) wn (rv_move e10) rfl hJ) ?_
    refine ac rfl (by
      intro k _nm ρ σm hJ hoff hdep
      have e25 := hdep 7 rfl rfl 25 rfl
      have e26 := hdep 8 rfl rfl 26 rfl
      exact dp_v (v := (pt b18 o19)) wn (rv_ix Tryz.underlying26 ti34 e25 e26 hi17) rfl hJ) ?_
    refine ac rfl (by
      intro k _nm ρ σm hJ hoff hdep
      have e27 := hdep 9 rfl rfl 27 rfl
      exact dp_v (v := (pt b18 (o19 + 1))) wn (rv_fieldAddr (off := 1) (ft := 27) Tryz.underlying34 rfl ti27 rfl e27) rfl hJ) ?_
    refine all_cons (by
      refine ⟨?_, ?_⟩
      ·intro _nm ρ σm hJ hoff hdep
       have e28 := hdep 10 rfl rfl 28 rfl
       obtain ⟨H, m⟩ := id hJ
       replace hc24 := (Hs.ro 1 rfl).hmd hx16 hi17 (k := 1) (by decide) hc24 m
       exact dp_v (v := (Sl a20 x15.2.1 c21)) wn (rv_load1 Tryz.underlying27 rfl e28 hc24) rfl hJ
      trivial) ?_
    refine ac rfl (by
      intro k _nm ρ σm hJ hoff hdep
      have e2 := look_off (N := 36) (hoff 2 rfl) rfl
      exact dp_v (v := (Sl Bd Bb Be)) wn (rv_move e2) rfl hJ) ?_
    refine all_cons (by
      refine ⟨?_, ?_⟩
      ·intro _nm ρ σm hJ hoff hdep
       have e24 : look 36 ρ 24 = (I Ba) := hdep 6 rfl rfl 24 rfl
       have e29 : look 36 ρ 29 = (Sl a20 x15.2.1 c21) := hdep 11 rfl rfl 29 rfl
       have e30 : look 36 ρ 30 = (Sl Bd Bb Be) := hdep 12 rfl rfl 30 rfl
       obtain ⟨H, m⟩ := id hJ
       refine dp_cx wn (cx_call hc27 (ent_f hc27.fn (by show [look 36 ρ 24, look 36 ρ 29, look 36 ρ 30] = _; rw [e24, e29, e30])) hn0 (H.sel' [0, 2, 0, 1, 2, 3] rfl rfl : Hp S0 σ0 _ ([_, _] ++ _))) ?_
       rintro _ σq ⟨_, ⟨rfl, rfl⟩, H2, m2⟩
       exact ⟨_, (), rfl, rfl, ⟨H2.sel' [0, 1, 2, 3] rfl rfl, m.comp0 (m2.mono (fun i h => by simp [cov, Ch.ro] at h))⟩, stab [0, 1, 2, 3, 4, 5, 6, 7, 8, 9, 10, 11, 12, 15] (by kernel_rfl) ⟨rfl, rfl, rfl, rfl, rfl, rfl, rfl, rfl, rfl, rfl, rfl, rfl, rfl, rfl, trivial⟩⟩
      trivial) ?_
    refine ac rfl (by
      intro k _nm ρ σm hJ hoff hdep
      have e23 : look 36 ρ 23 = (I x9.1) := hdep 5 rfl rfl 23 rfl
      have e31 : look 36 ρ 31 = (I r25) := hdep 13 rfl rfl 31 rfl
      exact dp_v (v := (.agg #[(I x9.1), (I r25)])) wn (rv_build (ps := [(0, (I x9.1)), (1, (I r25))]) Tryz.underlying43 ti43 (bp43 Tryz.underlying43) (by show [(0, look 36 ρ 23), (1, look 36 ρ 31)] = _; rw [e23, e31]) (by kernel_rfl)) rfl hJ) ?_
    refine ac rfl (by
      intro k _nm ρ σm hJ hoff hdep
      have e3 := look_off (N := 36) (hoff 3 rfl) rfl
      exact dp_v (v := (I Bc)) wn (rv_move e3) rfl hJ) ?_
    exact all_nil
   ·intro _nm ρ σ28 hJ hoff hrel
    have e0 := look_off (N := 36) (hoff 0 rfl) rfl
    have e1 := look_off (N := 36) (hoff 1 rfl) rfl
    have e2 := look_off (N := 36) (hoff 2 rfl) rfl
    have e3 := look_off (N := 36) (hoff 3 rfl) rfl
    have e10 := look_off (N := 36) (hoff 10 rfl) rfl
    have e18 := hrel 0 rfl 18 rfl
    have e32 := hrel 14 rfl 32 rfl
    have e33 := hrel 15 rfl 33 rfl
    obtain ⟨H, -⟩ := (show Hp S0 σ0 σ28 [Ch.ro 0 (Sl a20 x15.2.1 c21) x15.2.1, Ch.ro 0 (Sl Aw Av Ax) Av, Ch.ro 0 (Sl Bd Bb Be) Bb, Ch.own n0 n0 (Sl a6 s4.1 c7) s4.1] ∧ Md (cov []) σ5 σ28 from hJ)
    clear hJ Hs
    rw [fr_lookL (L := [(0, (Sl Aw Av Ax)), (1, (I Ba)), (2, (Sl Bd Bb Be)), (3, (I Bc)), (10, (I s4.2)), (18, (Sl a6 s4.1 c7)), (32, (.agg #[(I x9.1), (I r25)])), (33, (I Bc))]) ⟨e0, e1, e2, e3, e10, e18, e32, e33, trivial⟩]
    clear hoff hrel e0 e1 e2 e3 e10 e18 e32 e33
    obtain ⟨σ29, hw30, H, -⟩ := H.pub 3 rfl (Nat.le_refl _)
    rw [← hw30]; clear hw30
    replace H := H.roLow 0 0 rfl (Nat.zero_le _)
    revert h; refine br fun r31 hx32 h => ?_
    have hc33 := c_spec_addHit (Aw := a6) (Ax := c7) hx32
    refine st_call (cx_call hc33 (ent_f hc33.fn rfl) hn0 (H.sel' [0, 0, 1, 2, 3, 4] rfl rfl : Hp S0 σ0 _ ([_] ++ _))) wn ?_
    rintro _ σ36 ⟨_, ⟨a34, c35, rfl, rfl⟩, H, -⟩
    replace H : Hp _ _ _ [_, _, _, _, _, _] := H
    refine sa (Sl a34 r31 c35) rfl (w_end (q_blk (q_then (rg (sm (I s4.2) rfl (st (v := (I (w64 (s4.2 + 1)))) (rv_add (a := s4.2) (b := 1) rfl rfl) (sa (I (w64 (s4.2 + 1))) rfl (w_end (q_then ?_)))))))))
    obtain rfl := sj h
    exact ⟨_, rfl, _, σ36, a34, c35, fr_join ⟨rfl, rfl, rfl, rfl, rfl, rfl, trivial⟩, rfl, H.sel' [4, 5, 0] rfl rfl⟩
  ·replace h := bif_f hb8 h
   refine c_exit (q_then_x (q_then_x (q_blk_hit ?_)))
   obtain rfl := sj h
   obtain rfl := hres _ rfl
   exact ⟨rfl, _, σ5, a6, c7, fr_join ⟨rfl, trivial⟩, rfl, H.sel' [2] rfl rfl⟩
 ·clear hj
  have h := h'
  clear h' H
  rintro e a w ⟨rfl, ρ, σ37, a38, c39, rfl, rfl, H⟩
  refine q_then (c_seq (rg (sm (Sl a38 o3 c39) rfl (sa (Sl a38 o3 c39) rfl (w_end (q_then (c_ret ?_)))))))
  obtain rfl := sj h
  exact fin_ret (v := (Sl a38 o3 c39)) (results_ok Tryz.results76 (res_tmp (v := (Sl a38 o3 c39)) rfl res_nil) rfl) ⟨a38, c39, rfl, rfl⟩ (H.sel' [0] rfl rfl)

theorem c_spec_RerankNearest {Ft : (List (List Int)) × (List (List Int))} {Fj : List (Int × (List Int) × Int)} {Bb : List Int} {Hq : Int} {Hr : Int} {Fu : Option Addr} {Fv : Nat} {Fw : Option Addr} {Fx : Nat} {Fk : Option Addr} {Fl : Nat} {Bd : Option Addr} {Be : Nat} {r : (List (Int × Int))} (h : M.spec_RerankNearest Ft Fj Bb Hq Hr = some r) :
    Cal2 Tryz.prog 22 [(.agg #[(Sl Fu Ft.1 Fv), (Sl Fw Ft.2 Fx)]), (Sl Fk Fj Fl), (Sl Bd Bb Be), (I Hq), (I Hr)] [Ch.ro 0 (Sl Fu Ft.1 Fv) Ft.1, Ch.ro 0 (Sl Fw Ft.2 Fx) Ft.2, Ch.ro 0 (Sl Fk Fj Fl) Fj, Ch.ro 0 (Sl Bd Bb Be) Bb] (fun n0 v L => ∃ (az1 : Option Addr), ∃ (cz2 : Nat), v = (Sl az1 r cz2) ∧ L = [Ch.own n0 n0 (Sl az1 r cz2) r]) := by
 refine cal2 (n := 62) Tryz.func22 rfl rfl rfl rfl ?_
 intro S0 σ0 n0 hn0 H
 unfold M.spec_RerankNearest at h
 refine c_seq (rg (st_ex (ex_box (cs := [(Sl Fu Ft.1 Fv), (Sl Fw Ft.2 Fx)]) H hn0 rfl rfl) wn ?_))
 rintro _ σ2 ⟨b1, rfl, H, -⟩
 refine sa (.slice none 0 0) rfl (w_end (q_then (c_seq (c_seq ?_))))
 obtain ⟨o3, hj, h'⟩ := bind_some h
 clear h
 refine c_cut (fun e a w => e = .normal ∧ ∃ (ρ : Nat → Value) (σ : St), a = fr 62 (updL ρ [(1, (Sl Fk Fj Fl)), (2, (Sl Bd Bb Be)), (3, (I Hq)), (4, (I Hr)), (5, (pt b1 0)), (32, (B o3))]) ∧ w = σ.w ∧ Hp S0 σ0 σ [Ch.ro 0 (Sl Fk Fj Fl) Fj, Ch.ro 0 (Sl Bd Bb Be) Bb, Ch.ro 0 (Sl Fu Ft.1 Fv) Ft.1, Ch.ro 0 (Sl Fw Ft.2 Fx) Ft.2, Ch.bx n0 b1 0 [(Sl Fu Ft.1 Fv), (Sl Fw Ft.2 Fx)] [] []]) ?_ ?_
 ·clear h'
  rename _ = some o3 => h
  refine rg (sm (I Hr) rfl ?_)
  revert h; refine br fun r4 hx5 h => ?_
  have hc6 := c_spec_inRange hx5
  refine st_call (cx_call hc6 (ent_f hc6.fn rfl) hn0 (H.sel' [0, 1, 2, 3, 4] rfl rfl : Hp S0 σ0 _ ([] ++ _))) wn ?_
  rintro _ σ7 ⟨_, ⟨rfl, rfl⟩, H, -⟩
  replace H : Hp _ _ _ [_, _, _, _, _] := H
  refine st (v := (B (!r4))) (rv_not rfl) (sm (B (!r4)) rfl ?_)
  rcases Bool.eq_false_or_eq_true (!r4) with hb8 | hb8
  ·replace h := bif_t hb8 h
   refine st_skip (congrArg some hb8) (st_skip (congrArg some hb8) (st_skip (congrArg some hb8) (st (v := (B true)) (rv_pick_t (congrArg B hb8) rfl) (sm (B true) rfl (st_skip rfl (st_skip rfl (st_skip rfl (st (v := (B true)) (rv_pick_t rfl rfl) (sm (B true) rfl (st_skip rfl (st_skip rfl ?_)))))))))))
   refine st_skip rfl (st_skip rfl (st (v := (B true)) (rv_pick_t rfl rfl) (w_end ?_)))
   obtain rfl := sj h
   exact ⟨rfl, _, σ7, fr_join ⟨rfl, rfl, rfl, rfl, rfl, rfl, trivial⟩, rfl, H.sel' [3, 4, 1, 2, 0] rfl rfl⟩
  ·replace h := bif_f hb8 h
   refine st_g (v := (I Hq)) (congrArg some hb8) (rv_move rfl) ?_
   revert h; refine br fun r9 hx10 h => ?_
   have hc11 := c_spec_inRange hx10
   refine st_call (cx_call hc11 (ent_f hc11.fn rfl) hn0 (H.sel' [0, 1, 2, 3, 4] rfl rfl : Hp S0 σ0 _ ([] ++ _))) (wanted_yes rfl (by exact (congrArg some hb8))) ?_
   rintro _ σ12 ⟨_, ⟨rfl, rfl⟩, H, -⟩
   replace H : Hp _ _ _ [_, _, _, _, _] := H
   refine st_g (v := (B (!r9))) (congrArg some hb8) (rv_not rfl) (st (v := (B (!r9))) (rv_pick_f (congrArg B hb8) rfl) (sm (B (!r9)) rfl ?_))
   rcases Bool.eq_false_or_eq_true (!r9) with hb13 | hb13
   ·replace h := bif_t hb13 h
    refine st_skip (congrArg some hb13) (st_skip (congrArg some hb13) (st_skip (congrArg some hb13) (st (v := (B true)) (rv_pick_t (congrArg B hb13) rfl) (sm (B true) rfl (st_skip rfl (st_skip rfl (st_skip rfl (st_skip rfl (st (v := (B true)) (rv_pick_t rfl rfl) (w_end ?_))))))))))
    obtain rfl := sj h
    exact ⟨rfl, _, σ12, fr_join ⟨rfl, rfl, rfl, rfl, rfl, rfl, trivial⟩, rfl, H.sel' [3, 4, 1, 2, 0] rfl rfl⟩
   ·replace h := bif_f hb13 h
    have hc14 := H.cells 0 rfl
    refine st_g (v := (.agg #[(Sl Fu Ft.1 Fv), (Sl Fw Ft.2 Fx)])) (congrArg some hb13) (rv_load (cs := [(Sl Fu Ft.1 Fv), (Sl Fw Ft.2 Fx)]) Tryz.underlying25 rfl ti25 rfl rfl hc14) ?_
    revert h; refine br fun r15 hx16 h => ?_
    have hc17 := c_spec_validBook (Fu := Fu) (Fv := Fv) (Fw := Fw) (Fx := Fx) hx16
    refine st_call (cx_call hc17 (ent_f hc17.fn rfl) hn0 (H.sel' [1, 2, 0, 1, 2, 3, 4] rfl rfl : Hp S0 σ0 _ ([_, _] ++ _))) (wanted_yes rfl (by exact (congrArg some hb13))) ?_
    rintro _ σ18 ⟨_, ⟨rfl, rfl⟩, H, -⟩
    replace H : Hp _ _ _ [_, _, _, _, _] := H
    refine st_g (v := (B (!r15))) (congrArg some hb13) (rv_not rfl) (st (v := (B (!r15))) (rv_pick_f (congrArg B hb13) rfl) (sm (B (!r15)) rfl ?_))
    rcases Bool.eq_false_or_eq_true (!r15) with hb19 | hb19
    ·replace h := bif_t hb19 h
     refine st_skip (congrArg some hb19) (st_skip (congrArg some hb19) (st_skip (congrArg some hb19) (st_skip (congrArg some hb19) (st (v := (B true)) (rv_pick_t (congrArg B hb19) rfl) (w_end ?_)))))
     obtain rfl := sj h
     exact ⟨rfl, _, σ18, fr_join ⟨rfl, rfl, rfl, rfl, rfl, rfl, trivial⟩, rfl, H.sel' [3, 4, 1, 2, 0] rfl rfl⟩
    ·replace h := bif_f hb19 h
     refine st_g (v := (Sl Fk Fj Fl)) (congrArg some hb19) (rv_move rfl) (st_g (v := (Sl Bd Bb Be)) (congrArg some hb19) (rv_move rfl) ?_)
     revert h; refine br fun r20 hx21 h => ?_
     have hc22 := c_spec_validQuery (Aw := Fk) (Ax := Fl) (Bd := Bd) (Be := Be) hx21
     refine st_call (cx_call hc22 (ent_f hc22.fn rfl) hn0 (H.sel' [3, 4, 0, 1, 2, 3, 4] rfl rfl : Hp S0 σ0 _ ([_, _] ++ _))) (wanted_yes rfl (by exact (congrArg some hb19))) ?_
     rintro _ σ23 ⟨_, ⟨rfl, rfl⟩, H, -⟩
     replace H : Hp _ _ _ [_, _, _, _, _] := H
     refine st_g (v := (B (!r20))) (congrArg some hb19) (rv_not rfl) (st (v := (B (!r20))) (rv_pick_f (congrArg B hb19) rfl) (w_end ?_))
     obtain rfl := sj h
     exact ⟨rfl, _, σ23, fr_join ⟨rfl, rfl, rfl, rfl, rfl, rfl, trivial⟩, rfl, H.sel' [3, 4, 1, 2, 0] rfl rfl⟩
 ·clear hj
  have h := h'
  clear h' H
  rintro e a w ⟨rfl, ρ, σ24, rfl, rfl, H⟩
  refine q_then ?_
  refine cd_cond o3 rfl (fun hb25 => ?_) (fun hb25 => ?_)
  ·replace h := bif_t hb25 h
   refine c_seq (rg (sa (.slice none 0 0) rfl (w_end (q_then (c_ret (q_then_r ?_))))))
   replace H := H.nilOwn (Int × Int) n0 n0
   obtain rfl := sj h
   exact fin_ret (v := (.slice none 0 0)) (results_ok Tryz.results22 (res_tmp (v := (.slice none 0 0)) rfl res_nil) rfl) ⟨none, 0, rfl, rfl⟩ (H.sel' [0] rfl rfl)
  ·replace h := bif_f hb25 h
   refine c_skip (q_then (c_seq (rg ?_)))
   refine st_ex (ex_buildSlice (el := n0) (xs := ([] : List (Int × (List Int) × Int))) (ps := []) (cs := []) H hn0 Tryz.underlying26 ti34 rfl rfl (by kernel_rfl) (.nil) rfl) wn ?_
   rintro _ σ27 ⟨b26, rfl, H, -⟩
   refine sa (Sl (some ⟨b26, 0, none⟩) ([] : List (Int × (List Int) × Int)) 0) rfl (w_end (q_then (c_seq (rg ?_))))
   have hc28 := H.cells 5 rfl
   refine st (v := (.agg #[(Sl Fu Ft.1 Fv), (Sl Fw Ft.2 Fx)])) (rv_load (cs := [(Sl Fu Ft.1 Fv), (Sl Fw Ft.2 Fx)]) Tryz.underlying25 rfl ti25 rfl rfl hc28) (sm (Sl Fk Fj Fl) rfl (sm (Sl Bd Bb Be) rfl (sm (I Hq) rfl ?_)))
   revert h; refine br fun r29 hx30 h => ?_
   have hc31 := c_spec_CodeNearest (Fu := Fu) (Fv := Fv) (Fw := Fw) (Fx := Fx) (Fk := Fk) (Fl := Fl) (Bd := Bd) (Be := Be) hx30
   refine st_call (cx_call hc31 (ent_f hc31.fn rfl) hn0 (H.sel' [3, 4, 1, 2, 0, 1, 2, 3, 4, 5] rfl rfl : Hp S0 σ0 _ ([_, _, _, _] ++ _))) wn ?_
   rintro _ σ34 ⟨_, ⟨a32, c33, rfl, rfl⟩, H, -⟩
   replace H : Hp _ _ _ [_, _, _, _, _, _, _] := H
   refine sa (Sl a32 r29 c33) rfl (w_end (q_then (c_seq (c_seq (rg (sa (I 0) rfl (w_end (q_then ?_))))))))
   obtain ⟨o35, hj, h'⟩ := bind_some h
   clear h
   refine c_cut (fun e a w => e = .normal ∧ ∃ (ρ : Nat → Value) (σ : St) (aj1 : Option Addr) (cj2 : Nat), a = fr 62 (updL ρ [(2, (Sl Bd Bb Be)), (4, (I Hr)), (11, (Sl aj1 o35 cj2))]) ∧ w = σ.w ∧ Hp S0 σ0 σ [Ch.ro 0 (Sl Bd Bb Be) Bb, Ch.own n0 0 (Sl aj1 o35 cj2) o35]) ?_ ?_
   ·clear h'
    rename _ = some o35 => h
    refine c_blk ?_
    replace H := H.ownLow 1 n0 0 rfl (Nat.le_refl _) (Nat.zero_le _)
    refine wp_loopM _ h (fun s36 a w => ∃ (ρ : Nat → Value) (σ : St) (aj1 : Option Addr) (cj2 : Nat), a = fr 62 (updL ρ [(1, (Sl Fk Fj Fl)), (2, (Sl Bd Bb Be)), (4, (I Hr)), (11, (Sl aj1 s36.1 cj2)), (12, (Sl a32 r29 c33)), (13, (I s36.2))]) ∧ w = σ.w ∧ Hp S0 σ0 σ [Ch.ro 0 (Sl Fk Fj Fl) Fj, Ch.ro 0 (Sl Bd Bb Be) Bb, Ch.own n0 0 (Sl aj1 s36.1 cj2) s36.1, Ch.own n0 n0 (Sl a32 r29 c33) r29]) ⟨_, σ34, (some ⟨b26, 0, none⟩), 0, fr_join ⟨rfl, rfl, rfl, rfl, rfl, rfl, trivial⟩, rfl, H.sel' [2, 3, 0, 1] rfl rfl⟩ ?_
    clear h H
    rintro s36 a w o ⟨ρ, σ37, a38, c39, rfl, rfl, H⟩ h hres
    refine c_seq (c_seq (rg (sm (I s36.2) rfl (sm (Sl a32 r29 c33) rfl (st (v := (I (r29.length : Int))) (rv_len Tryz.underlying30 rfl) (st (v := (B (decide (s36.2 < (r29.length : Int))))) (rv_lss (a := s36.2) (b := (r29.length : Int)) rfl rfl) (w_end (q_then ?_))))))))
    refine cd_cond (decide (s36.2 < (r29.length : Int))) rfl (fun hb40 => ?_) (fun hb40 => ?_)
    ·replace h := bif_t hb40 h
     refine c_skip (q_then (c_seq (c_blk (rg (sm (Sl a38 s36.1 c39) rfl (sm (Sl Fk Fj Fl) rfl (sm (Sl Fk Fj Fl) rfl (sm (Sl a32 r29 c33) rfl (sm (I s36.2) rfl ?_)))))))))
     revert h; refine br fun x41 hx42 h => ?_
     obtain ⟨b44, o45, hi43, -⟩ := (H.own 3 rfl).ix hx42
     refine st (v := (pt b44 o45)) (rv_ix Tryz.underlying30 ti43 rfl rfl hi43) (st (v := (pt b44 (o45 + 0))) (rv_fieldAddr (off := 0) (ft := 3) Tryz.underlying43 rfl ti3 rfl rfl) ?_)
     have hc46 := ((H.own 3 rfl).at hx42 hi43).fst.int
     refine st (v := (I x41.1)) (rv_load1 Tryz.underlying3 rfl rfl hc46) ?_
     revert h; refine br fun r47 hx48 h => ?_
     have hc49 := c_spec_keyAt (Aw := Fk) (Ax := Fl) hx48
     refine st_call (cx_call hc49 (ent_f hc49.fn rfl) hn0 (H.sel' [0, 0, 1, 2, 3] rfl rfl : Hp S0 σ0 _ ([_] ++ _))) wn ?_
     rintro _ σ50 ⟨_, ⟨rfl, rfl⟩, H, -⟩
     replace H : Hp _ _ _ [_, _, _, _] := H
     revert h; refine br fun x51 hx52 h => ?_
     obtain ⟨b54, o55, hi53, -⟩ := (H.ro 0 rfl).ix hx52
     refine st (v := (pt b54 o55)) (rv_ix Tryz.underlying26 ti34 rfl rfl hi53) ?_
     obtain ⟨_, ⟨_, _, rfl, rfl, ⟨_, _, rfl, ⟨_, rfl, hR60⟩, rfl⟩⟩, hl56, hc57⟩ := ((H.ro 0 rfl).at hx52 hi53).cells
     obtain ⟨a58, c59, rfl⟩ := hR60.isSl
     replace H := H.add (d := Ch.ro 0 (Sl a58 x51.2.1 c59) x51.2.1) hR60 (fun _ h => h)
     clear hR60
     refine st (v := (.agg #[(I x51.1), (Sl a58 x51.2.1 c59), (I x51.2.2)])) (rv_load Tryz.underlying34 rfl ti34 rfl hl56 hc57) ?_
     refine st_ex (ex_buildSlice (el := 0) (xs := ([(x51.1, x51.2.1, x51.2.2)] : List (Int × (List Int) × Int))) (ps := [(0, (.agg #[(I x51.1), (Sl a58 x51.2.1 c59), (I x51.2.2)]))]) (cs := [(I x51.1), (Sl a58 x51.2.1 c59), (I x51.2.2)]) H hn0 Tryz.underlying26 ti34 rfl rfl (by kernel_rfl) (.cons (c := [(I x51.1), (Sl a58 x51.2.1 c59), (I x51.2.2)]) ⟨[(I x51.1)], [(Sl a58 x51.2.1 c59), (I x51.2.2)], rfl, rfl, ⟨[(Sl a58 x51.2.1 c59)], [(I x51.2.2)], rfl, ⟨_, rfl, (H.ro 0 rfl)⟩, rfl⟩⟩ (.nil)) rfl) wn ?_
     rintro _ σ62 ⟨b61, rfl, H, -⟩
     revert h; refine br fun xs63 hx64 h => ?_
     refine st_ex (ex_append H (i := 4) rfl Tryz.underlying26 Tryz.underlying26 ti34 rfl rfl (by decide) (H.own 0 rfl).rd hx64 hn0 rfl rfl) wn ?_
     rintro _ σ67 ⟨a65, c66, rfl, H, -⟩
     refine sa (Sl a65 xs63 c66) rfl (w_end (q_blk (q_then (rg (sm (I s36.2) rfl (st (v := (I (w64 (s36.2 + 1)))) (rv_add (a := s36.2) (b := 1) rfl rfl) (sa (I (w64 (s36.2 + 1))) rfl (w_end (q_then ?_)))))))))
     obtain rfl := sj h
     exact ⟨_, rfl, _, σ67, a65, c66, fr_join ⟨rfl, rfl, rfl, rfl, rfl, rfl, trivial⟩, rfl, H.sel' [3, 4, 0, 5] rfl rfl⟩
    ·replace h := bif_f hb40 h
     refine c_exit (q_then_x (q_then_x (q_blk_hit ?_)))
     obtain rfl := sj h
     obtain rfl := hres _ rfl
     exact ⟨rfl, _, σ37, a38, c39, fr_join ⟨rfl, rfl, rfl, trivial⟩, rfl, H.sel' [1, 2] rfl rfl⟩
   ·clear hj
    have h := h'
    clear h' H
    rintro e a w ⟨rfl, ρ, σ68, a69, c70, rfl, rfl, H⟩
    refine q_then (c_seq (rg (sm (Sl a69 o35 c70) rfl (sm (Sl Bd Bb Be) rfl (sm (I Hr) rfl ?_)))))
    obtain ⟨σ71, hw72, H, -⟩ := H.pub 1 rfl (Nat.zero_le _)
    rw [← hw72]; clear hw72
    revert h; refine br fun r73 hx74 h => ?_
    have hc75 := c_spec_nearest (Aw := a69) (Ax := c70) (Bd := Bd) (Be := Be) hx74
    refine st_call (cx_call hc75 (ent_f hc75.fn rfl) hn0 (H.sel' [0, 1, 0, 1] rfl rfl : Hp S0 σ0 _ ([_, _] ++ _))) wn ?_
    rintro _ σ78 ⟨_, ⟨a76, c77, rfl, rfl⟩, H, -⟩
    replace H : Hp _ _ _ [_, _, _] := H
    refine sa (Sl a76 r73 c77) rfl (w_end (q_then (c_ret ?_)))
    obtain rfl := sj h
    exact fin_ret (v := (Sl a76 r73 c77)) (results_ok Tryz.results22 (res_tmp (v := (Sl a76 r73 c77)) rfl res_nil) rfl) ⟨a76, c77, rfl, rfl⟩ (H.sel' [0] rfl rfl)

theorem c_laws_itemOf {Av : List (Int × (List Int) × Int)} {Hv : Int} {Aw : Option Addr} {Ax : Nat} {r : (Int × (List Int) × Int)} (h : M.laws_itemOf Av Hv = some r) :
    Cal2 Tryz.prog 24 [(Sl Aw Av Ax), (I Hv)] [Ch.ro 0 (Sl Aw Av Ax) Av] (fun n0 v L => ∃ (az1 : Option Addr), ∃ (cz2 : Nat), v = (.agg #[(I r.1), (Sl az1 r.2.1 cz2), (I r.2.2)]) ∧ L = [Ch.ro 0 (Sl az1 r.2.1 cz2) r.2.1]) := by
 refine cal2 (n := 24) Tryz.func24 rfl rfl rfl rfl ?_
 intro S0 σ0 n0 hn0 H
 unfold M.laws_itemOf at h
 refine c_seq (rg (st_ex (ex_alloc (cs := [(I 0), (.slice none 0 0), (I 0)]) H hn0 ti34 rfl) wn ?_))
 rintro _ σ2 ⟨b1, rfl, H, -⟩
 refine w_end (q_then (c_seq (c_seq (rg (sa (I 0) rfl (w_end (q_then ?_)))))))
 obtain ⟨o3, hj, h'⟩ := bind_some h
 clear h
 refine c_cut (fun e a w => (∃ t, o3 = (.inl t) ∧ e = .normal ∧ ∃ (ρ : Nat → Value) (σ : St), a = fr 24 (updL ρ [(4, (pt b1 0))]) ∧ w = σ.w ∧ Hp S0 σ0 σ [Ch.bx n0 b1 0 [(I 0), (.slice none 0 0), (I 0)] [] []]) ∨ (∃ t, o3 = (.inr t) ∧ e = .ret ∧ ∃ (ρ : Nat → Value) (σ : St) (aj1 : Option Addr) (cj2 : Nat), a = fr 24 (updL ρ [(4, (pt b1 0))]) ∧ w = σ.w ∧ Hp S0 σ0 σ [Ch.bx n0 b1 0 [(I t.1), (Sl aj1 t.2.1 cj2), (I t.2.2)] [] [], Ch.ro 0 (Sl aj1 t.2.1 cj2) t.2.1])) ?_ ?_
 ·clear h'
  rename _ = some o3 => h
  refine c_blk (wp_loopM _ h (fun s4 a w => ∃ (ρ : Nat → Value) (σ : St), a = fr 24 (updL ρ [(0, (Sl Aw Av Ax)), (1, (I Hv)), (4, (pt b1 0)), (5, (I s4))]) ∧ w = σ.w ∧ Hp S0 σ0 σ [Ch.ro 0 (Sl Aw Av Ax) Av, Ch.bx n0 b1 0 [(I 0), (.slice none 0 0), (I 0)] [] []]) ⟨_, σ2, fr_join ⟨rfl, rfl, rfl, rfl, trivial⟩, rfl, H.sel' [1, 0] rfl rfl⟩ ?_)
  clear h H
  rintro s4 a w o ⟨ρ, σ5, rfl, rfl, H⟩ h hres
  refine c_seq (c_seq (rg (sm (I s4) rfl (sm (Sl Aw Av Ax) rfl (st (v := (I (Av.length : Int))) (rv_len Tryz.underlying26 rfl) (st (v := (B (decide (s4 < (Av.length : Int))))) (rv_lss (a := s4) (b := (Av.length : Int)) rfl rfl) (w_end (q_then ?_))))))))
  refine cd_cond (decide (s4 < (Av.length : Int))) rfl (fun hb6 => ?_) (fun hb6 => ?_)
  ·replace h := bif_t hb6 h
   refine c_skip (q_then (c_seq (c_blk (c_seq (rg (sm (Sl Aw Av Ax) rfl (sm (I s4) rfl ?_)))))))
   revert h; refine br fun x7 hx8 h => ?_
   obtain ⟨b10, o11, hi9, -⟩ := (H.ro 0 rfl).ix hx8
   refine st (v := (pt b10 o11)) (rv_ix Tryz.underlying26 ti34 rfl rfl hi9) (st (v := (pt b10 (o11 + 0))) (rv_fieldAddr (off := 0) (ft := 3) Tryz.underlying34 rfl ti3 rfl rfl) ?_)
   have hc12 := ((H.ro 0 rfl).at hx8 hi9).fst.int
   refine st (v := (I x7.1)) (rv_load1 Tryz.underlying3 rfl rfl hc12) (sm (I Hv) rfl (st (v := (B (x7.1 == Hv))) (rv_eql (a := x7.1) (b := Hv) rfl rfl) (w_end (q_then ?_))))
   refine cd_cond (x7.1 == Hv) rfl (fun hb13 => ?_) (fun hb13 => ?_)
   ·replace h := bif_t hb13 h
    refine c_seq (rg (sm (Sl Aw Av Ax) rfl (sm (I s4) rfl ?_)))
    revert h; refine br fun x14 hx15 h => ?_
    obtain ⟨b17, o18, hi16, -⟩ := (H.ro 0 rfl).ix hx15
    refine st (v := (pt b17 o18)) (rv_ix Tryz.underlying26 ti34 rfl rfl hi16) ?_
    obtain ⟨_, ⟨_, _, rfl, rfl, ⟨_, _, rfl, ⟨_, rfl, hR23⟩, rfl⟩⟩, hl19, hc20⟩ := ((H.ro 0 rfl).at hx15 hi16).cells
    obtain ⟨a21, c22, rfl⟩ := hR23.isSl
    replace H := H.add (d := Ch.ro 0 (Sl a21 x14.2.1 c22) x14.2.1) hR23 (fun _ h => h)
    clear hR23
    refine st (v := (.agg #[(I x14.1), (Sl a21 x14.2.1 c22), (I x14.2.2)])) (rv_load Tryz.underlying34 rfl ti34 rfl hl19 hc20) ?_
    refine st_exS (ex_store_box (k := 0) (cs := [(I 0), (.slice none 0 0), (I 0)]) (vs := [(I x14.1), (Sl a21 x14.2.1 c22), (I x14.2.2)]) (cs' := [(I x14.1), (Sl a21 x14.2.1 c22), (I x14.2.2)]) H (i := 2) rfl ti34 rfl rfl rfl rfl rfl (Nat.le_of_ble_eq_true rfl) (by simp [plain]) rfl) wn ?_
    rintro σ24 ⟨H, -⟩
    refine w_end (q_then (c_ret (q_blk_r (q_then_r (q_then_r (q_blk_r ?_))))))
    obtain rfl := sj h
    obtain rfl := hres _ rfl
    exact .inr (⟨_, rfl, rfl, _, σ24, a21, c22, fr_join ⟨rfl, trivial⟩, rfl, H.sel' [0, 1] rfl rfl⟩)
   ·replace h := bif_f hb13 h
    refine c_skip (q_blk (q_then (rg (sm (I s4) rfl (st (v := (I (w64 (s4 + 1)))) (rv_add (a := s4) (b := 1) rfl rfl) (sa (I (w64 (s4 + 1))) rfl (w_end (q_then ?_))))))))
    obtain rfl := sj h
    exact ⟨_, rfl, _, σ5, fr_join ⟨rfl, rfl, rfl, rfl, trivial⟩, rfl, H.sel' [0, 1] rfl rfl⟩
  ·replace h := bif_f hb6 h
   refine c_exit (q_then_x (q_then_x (q_blk_hit ?_)))
   obtain rfl := sj h
   obtain rfl := hres _ rfl
   exact .inl ⟨_, rfl, rfl, _, σ5, fr_join ⟨rfl, trivial⟩, rfl, H.sel' [1] rfl rfl⟩
 ·clear hj
  have h := h'
  clear h' H
  rintro e a w (⟨t25, rfl, rfl, ρ, σ26, rfl, rfl, H⟩ | ⟨t28, rfl, rfl, ρ, σ29, a30, c31, rfl, rfl, H⟩)
  ·replace h := selim_l h
   refine q_then (c_seq (rg ?_))
   refine st (v := (.agg #[(I 0), (.slice none 0 0), (I 0)])) (rv_build (ps := []) Tryz.underlying34 ti34 (bp34 Tryz.underlying34) rfl (by kernel_rfl)) ?_
   refine st_exS (ex_store_box (k := 0) (cs := [(I 0), (.slice none 0 0), (I 0)]) (vs := [(I 0), (.slice none 0 0), (I 0)]) (cs' := [(I 0), (.slice none 0 0), (I 0)]) H (i := 0) rfl ti34 rfl rfl rfl rfl rfl (Nat.le_of_ble_eq_true rfl) (by simp [plain]) rfl) wn ?_
   rintro σ27 ⟨H, -⟩
   refine w_end (q_then (c_ret ?_))
   replace H := H.nilRo Int 0
   obtain rfl := sj h
   exact fin_ret (v := (.agg #[(I 0), (.slice none 0 0), (I 0)])) (results_ok Tryz.results24 (res_cell rfl (run_cellRes (cs := [(I 0), (.slice none 0 0), (I 0)]) Tryz.underlying34 rfl ti34 rfl (H.cells 1 rfl)) res_nil) rfl) ⟨none, 0, rfl, rfl⟩ (H.sel' [0] rfl rfl)
  ·replace h := selim_r h
   refine q_then_r ?_
   obtain rfl := sj h
   exact fin_ret (v := (.agg #[(I t28.1), (Sl a30 t28.2.1 c31), (I t28.2.2)])) (results_ok Tryz.results24 (res_cell rfl (run_cellRes (cs := [(I t28.1), (Sl a30 t28.2.1 c31), (I t28.2.2)]) Tryz.underlying34 rfl ti34 rfl (H.cells 0 rfl)) res_nil) rfl) ⟨a30, c31, rfl, rfl⟩ (H.sel' [1] rfl rfl)

theorem c_laws_FnRerankNearest {Fd : List UInt8} {Fe : Option Addr} {Ff : Nat} {r : Bool} (h : M.laws_FnRerankNearest Fd = some r) :
    Cal2 Tryz.prog 4 [(Sl Fe Fd Ff)] [Ch.ro 0 (Sl Fe Fd Ff) Fd] (fun n0 v L => v = (B r) ∧ L = []) := by
 refine cal2 (n := 92) Tryz.func4 rfl rfl rfl rfl ?_
 intro S0 σ0 n0 hn0 H
 unfold M.laws_FnRerankNearest at h
 refine c_seq (rg (sa (B false) rfl (w_end (q_then (c_seq (c_seq (rg (sm (Sl Fe Fd Ff) rfl (st (v := (I (Fd.length : Int))) (rv_len Tryz.underlying22 rfl) (st (v := (B (decide (1048576 < (Fd.length : Int))))) (rv_gtr (a := (Fd.length : Int)) (b := 1048576) rfl rfl) (w_end ?_)))))))))))
 refine q_then ?_
 refine cd_cond (decide (1048576 < (Fd.length : Int))) rfl (fun hb1 => ?_) (fun hb1 => ?_)
 ·replace h := bif_t hb1 h
  refine c_seq (rg (sa (B true) rfl (w_end (q_then (c_ret (q_then_r ?_))))))
  obtain rfl := sj h
  exact fin_ret (v := (B true)) (results_ok Tryz.results4 (res_tmp (v := (B true)) rfl res_nil) rfl) ⟨rfl, rfl⟩ (H.sel' [] rfl rfl)
 ·replace h := bif_f hb1 h
  refine c_skip (q_then (c_seq (rg (sm (Sl Fe Fd Ff) rfl ?_))))
  revert h; refine br fun r2 hx3 h => ?_
  have hc4 := c_spec_DrawRerankNearest (Fe := Fe) (Ff := Ff) hx3
  refine st_call (cx_call hc4 (ent_f hc4.fn rfl) hn0 (H.sel' [0, 0] rfl rfl : Hp S0 σ0 _ ([_] ++ _))) wn ?_
  rintro _ σ13 ⟨_, ⟨a5, c6, a7, c8, a9, c10, a11, c12, rfl, rfl⟩, H, -⟩
  replace H : Hp _ _ _ [_, _, _, _, _] := H
  refine sm (.tuple #[(.agg #[(Sl a5 r2.1.1 c6), (Sl a7 r2.1.2 c8)]), (Sl a9 r2.2.1 c10), (Sl a11 r2.2.2.1 c12), (I r2.2.2.2.1), (I r2.2.2.2.2)]) rfl (st (v := (.agg #[(Sl a5 r2.1.1 c6), (Sl a7 r2.1.2 c8)])) (rv_extract rfl rfl) (st (v := (Sl a9 r2.2.1 c10)) (rv_extract rfl rfl) (st (v := (Sl a11 r2.2.2.1 c12)) (rv_extract rfl rfl) (st (v := (I r2.2.2.2.1)) (rv_extract rfl rfl) (st (v := (I r2.2.2.2.2)) (rv_extract rfl rfl) (st_ex (ex_alloc (cs := [(.slice none 0 0), (.slice none 0 0)]) H hn0 ti25 rfl) wn ?_))))))
  rintro _ σ15 ⟨b14, rfl, H, -⟩
  refine st_exS (ex_store_box (k := 0) (cs := [(.slice none 0 0), (.slice none 0 0)]) (vs := [(Sl a5 r2.1.1 c6), (Sl a7 r2.1.2 c8)]) (cs' := [(Sl a5 r2.1.1 c6), (Sl a7 r2.1.2 c8)]) H (i := 0) rfl ti25 rfl rfl rfl rfl rfl (Nat.le_of_ble_eq_true rfl) (by simp [plain]) rfl) wn ?_
  rintro σ16 ⟨H, -⟩
  refine sa (Sl a9 r2.2.1 c10) rfl (sa (Sl a11 r2.2.2.1 c12) rfl (sa (I r2.2.2.2.1) rfl (sa (I r2.2.2.2.2) rfl (w_end (q_then (c_seq (rg ?_)))))))
  have hc17 := H.cells 0 rfl
  refine st (v := (.agg #[(Sl a5 r2.1.1 c6), (Sl a7 r2.1.2 c8)])) (rv_load (cs := [(Sl a5 r2.1.1 c6), (Sl a7 r2.1.2 c8)]) Tryz.underlying25 rfl ti25 rfl rfl hc17) (sm (Sl a9 r2.2.1 c10) rfl (sm (Sl a11 r2.2.2.1 c12) rfl (sm (I r2.2.2.2.1) rfl (sm (I r2.2.2.2.2) rfl ?_))))
  revert h; refine br fun r18 hx19 h => ?_
  have hc20 := c_impl_RerankNearest (Fu := a5) (Fv := c6) (Fw := a7) (Fx := c8) (Fk := a9) (Fl := c10) (Bd := a11) (Be := c12) hx19
  have hle := Nat.le_trans hn0 H.size
  refine st_call (cx_lend (Loan.lend (Loan.lend (Loan.lend (Loan.lend Loan.nil)))) hc20 (ent_f hc20.fn rfl) (show Hp S0 σ0 _ ([Ch.own n0 n0 (Sl a5 r2.1.1 c6) r2.1.1, Ch.own n0 n0 (Sl a7 r2.1.2 c8) r2.1.2, Ch.own n0 n0 (Sl a9 r2.2.1 c10) r2.2.1, Ch.own n0 n0 (Sl a11 r2.2.2.1 c12) r2.2.2.1] ++ ([] ++ [Ch.bx n0 b14 0 [(Sl a5 r2.1.1 c6), (Sl a7 r2.1.2 c8)] [] [], Ch.ro 0 (Sl Fe Fd Ff) Fd])) from (H.sel' [1, 2, 3, 4, 0, 5] rfl rfl)) (by rintro _ _ _ ⟨_, _, rfl, rfl⟩; exact ⟨Ab.ownSc, trivial⟩)) wn ?_
  rintro _ σ23 ⟨_, ⟨a21, c22, rfl, rfl⟩, H, -, -⟩
  replace H : Hp _ _ _ [_, _, _, _, _, _, _] := H
  replace H := H.ownLow 0 0 n0 rfl (Nat.le_refl _) hle
  clear hle
  replace H : Hp _ _ _ [_, _, _, _, _, _, _] := H
  refine sa (Sl a21 r18 c22) rfl (w_end (q_then (c_seq (c_seq ?_))))
  obtain ⟨o24, hj, h'⟩ := bind_some h
  clear h
  refine c_cut (fun e a w => e = .normal ∧ ∃ (ρ : Nat → Value) (σ : St), a = fr 92 (updL ρ [(3, (pt b14 0)), (4, (Sl a9 r2.2.1 c10)), (5, (Sl a11 r2.2.2.1 c12)), (6, (I r2.2.2.2.1)), (7, (I r2.2.2.2.2)), (8, (Sl a21 r18 c22)), (40, (B o24))]) ∧ w = σ.w ∧ Hp S0 σ0 σ [Ch.own n0 n0 (Sl a5 r2.1.1 c6) r2.1.1, Ch.own n0 n0 (Sl a7 r2.1.2 c8) r2.1.2, Ch.bx n0 b14 0 [(Sl a5 r2.1.1 c6), (Sl a7 r2.1.2 c8)] [] [], Ch.own n0 n0 (Sl a9 r2.2.1 c10) r2.2.1, Ch.own n0 n0 (Sl a11 r2.2.2.1 c12) r2.2.2.1, Ch.own 0 n0 (Sl a21 r18 c22) r18]) ?_ ?_
  ·clear h'
   rename _ = some o24 => h
   refine rg (sm (Sl a21 r18 c22) rfl ?_)
   have hc25 := H.cells 5 rfl
   refine st (v := (.agg #[(Sl a5 r2.1.1 c6), (Sl a7 r2.1.2 c8)])) (rv_load (cs := [(Sl a5 r2.1.1 c6), (Sl a7 r2.1.2 c8)]) Tryz.underlying25 rfl ti25 rfl rfl hc25) (sm (Sl a9 r2.2.1 c10) rfl (sm (Sl a11 r2.2.2.1 c12) rfl (sm (I r2.2.2.2.1) rfl (sm (I r2.2.2.2.2) rfl ?_))))
   revert h; refine br fun r26 hx27 h => ?_
   have hc28 := c_spec_RerankNearest (Fu := a5) (Fv := c6) (Fw := a7) (Fx := c8) (Fk := a9) (Fl := c10) (Bd := a11) (Be := c12) hx27
   have hle := Nat.le_trans hn0 H.size
   refine st_call (cx_lend (Loan.lend (Loan.lend (Loan.lend (Loan.lend Loan.nil)))) hc28 (ent_f hc28.fn rfl) (show Hp S0 σ0 _ ([Ch.own n0 n0 (Sl a5 r2.1.1 c6) r2.1.1, Ch.own n0 n0 (Sl a7 r2.1.2 c8) r2.1.2, Ch.own n0 n0 (Sl a9 r2.2.1 c10) r2.2.1, Ch.own n0 n0 (Sl a11 r2.2.2.1 c12) r2.2.2.1] ++ ([] ++ [Ch.own 0 n0 (Sl a21 r18 c22) r18, Ch.bx n0 b14 0 [(Sl a5 r2.1.1 c6), (Sl a7 r2.1.2 c8)] [] [], Ch.ro 0 (Sl Fe Fd Ff) Fd])) from (H.sel' [1, 2, 3, 4, 0, 5, 6] rfl rfl)) (by rintro _ _ _ ⟨_, _, rfl, rfl⟩; exact ⟨Ab.ownSc, trivial⟩)) wn ?_
   rintro _ σ31 ⟨_, ⟨a29, c30, rfl, rfl⟩, H, -, -⟩
   replace H : Hp _ _ _ [_, _, _, _, _, _, _, _] := H
   replace H := H.ownLow 0 n0 n0 rfl hle hle
   clear hle
   replace H : Hp _ _ _ [_, _, _, _, _, _, _, _] := H
   replace H : Hp S0 σ0 σ31 [Ch.own n0 n0 (Sl a29 r26 c30) r26, Ch.own n0 n0 (Sl a5 r2.1.1 c6) r2.1.1, Ch.own n0 n0 (Sl a7 r2.1.2 c8) r2.1.2, Ch.own n0 n0 (Sl a9 r2.2.1 c10) r2.2.1, Ch.own n0 n0 (Sl a11 r2.2.2.1 c12) r2.2.2.1, Ch.own 0 n0 (Sl a21 r18 c22) r18, Ch.bx n0 b14 0 [(Sl a5 r2.1.1 c6), (Sl a7 r2.1.2 c8)] [] []] := H.sel' [0, 1, 2, 3, 4, 5, 6] rfl rfl
   obtain ⟨σ32, hw33, H, -⟩ := H.pub 0 rfl (Nat.le_refl _)
   rw [← hw33]; clear hw33
   replace H := H.roLow 0 0 rfl (Nat.zero_le _)
   revert h; refine br fun r34 hx35 h => ?_
   have hc36 := c_laws_equalHits (Ad := a21) (Ae := c22) (Af := a29) (Ag := c30) hx35
   have hle := Nat.le_trans hn0 H.size
   refine st_call (cx_lend (Loan.lend (Loan.same Loan.nil)) hc36 (ent_f hc36.fn rfl) (show Hp S0 σ0 _ ([Ch.own 0 n0 (Sl a21 r18 c22) r18] ++ ([Ch.ro 0 (Sl a29 r26 c30) r26] ++ [Ch.ro 0 (Sl a29 r26 c30) r26, Ch.ro n0 (Sl a29 r26 c30) r26, Ch.own n0 n0 (Sl a5 r2.1.1 c6) r2.1.1, Ch.own n0 n0 (Sl a7 r2.1.2 c8) r2.1.2, Ch.own n0 n0 (Sl a9 r2.2.1 c10) r2.2.1, Ch.own n0 n0 (Sl a11 r2.2.2.1 c12) r2.2.2.1, Ch.bx n0 b14 0 [(Sl a5 r2.1.1 c6), (Sl a7 r2.1.2 c8)] [] []])) from (H.sel' [6, 0, 0, 1, 2, 3, 4, 5, 7] rfl rfl)) (by rintro _ _ _ ⟨rfl, rfl⟩; exact trivial)) wn ?_
   rintro _ σ37 ⟨_, ⟨rfl, rfl⟩, H, -, -⟩
   replace H : Hp _ _ _ [_, _, _, _, _, _, _, _] := H
   clear hle
   replace H : Hp _ _ _ [_, _, _, _, _, _, _, _] := H
   replace H : Hp S0 σ0 σ37 [Ch.own 0 n0 (Sl a21 r18 c22) r18, Ch.own n0 n0 (Sl a5 r2.1.1 c6) r2.1.1, Ch.own n0 n0 (Sl a7 r2.1.2 c8) r2.1.2, Ch.own n0 n0 (Sl a9 r2.2.1 c10) r2.2.1, Ch.own n0 n0 (Sl a11 r2.2.2.1 c12) r2.2.2.1, Ch.bx n0 b14 0 [(Sl a5 r2.1.1 c6), (Sl a7 r2.1.2 c8)] [] []] := H.sel' [0, 3, 4, 5, 6, 7] rfl rfl
   refine st (v := (B (!r34))) (rv_not rfl) (sm (B (!r34)) rfl ?_)
   rcases Bool.eq_false_or_eq_true (!r34) with hb38 | hb38
   ·replace h := bif_t hb38 h
    refine st_skip (congrArg some hb38) (st_skip (congrArg some hb38) (st_skip (congrArg some hb38) (st (v := (B true)) (rv_pick_t (congrArg B hb38) rfl) (w_end ?_))))
    obtain rfl := sj h
    exact ⟨rfl, _, σ37, fr_join ⟨rfl, rfl, rfl, rfl, rfl, rfl, rfl, trivial⟩, rfl, H.sel' [1, 2, 5, 3, 4, 0] rfl rfl⟩
   ·replace h := bif_f hb38 h
    refine st_g (v := (Sl a21 r18 c22)) (congrArg some hb38) (rv_move rfl) (st_g (v := (I (r18.length : Int))) (congrArg some hb38) (rv_len Tryz.underlying30 rfl) (st_g (v := (B ((r18.length : Int) == 0))) (congrArg some hb38) (rv_eql (a := (r18.length : Int)) (b := 0) rfl rfl) (st (v := (B ((r18.length : Int) == 0))) (rv_pick_f (congrArg B hb38) rfl) (w_end ?_))))
    obtain rfl := sj h
    exact ⟨rfl, _, σ37, fr_join ⟨rfl, rfl, rfl, rfl, rfl, rfl, rfl, trivial⟩, rfl, H.sel' [1, 2, 5, 3, 4, 0] rfl rfl⟩
  ·clear hj
   have h := h'
   clear h' H
   rintro e a w ⟨rfl, ρ, σ39, rfl, rfl, H⟩
   refine q_then ?_
   refine cd_cond o24 rfl (fun hb40 => ?_) (fun hb40 => ?_)
   ·replace h := bif_t hb40 h
    refine c_seq (rg (sm (Sl a21 r18 c22) rfl ?_))
    have hc41 := H.cells 2 rfl
    refine st (v := (.agg #[(Sl a5 r2.1.1 c6), (Sl a7 r2.1.2 c8)])) (rv_load (cs := [(Sl a5 r2.1.1 c6), (Sl a7 r2.1.2 c8)]) Tryz.underlying25 rfl ti25 rfl rfl hc41) (sm (Sl a9 r2.2.1 c10) rfl (sm (Sl a11 r2.2.2.1 c12) rfl (sm (I r2.2.2.2.1) rfl (sm (I r2.2.2.2.2) rfl ?_))))
    obtain ⟨σ42, hw43, H, -⟩ := H.pub 0 rfl (Nat.le_refl _)
    rw [← hw43]; clear hw43
    obtain ⟨σ44, hw45, H, -⟩ := H.pub 1 rfl (Nat.le_refl _)
    rw [← hw45]; clear hw45
    obtain ⟨σ46, hw47, H, -⟩ := H.pub 3 rfl (Nat.le_refl _)
    rw [← hw47]; clear hw47
    obtain ⟨σ48, hw49, H, -⟩ := H.pub 4 rfl (Nat.le_refl _)
    rw [← hw49]; clear hw49
    replace H := H.roLow 3 0 rfl (Nat.zero_le _)
    replace H := H.roLow 3 0 rfl (Nat.zero_le _)
    replace H := H.roLow 3 0 rfl (Nat.zero_le _)
    replace H := H.roLow 3 0 rfl (Nat.zero_le _)
    revert h; refine br fun r50 hx51 h => ?_
    have hc52 := c_spec_RerankNearest (Fu := a5) (Fv := c6) (Fw := a7) (Fx := c8) (Fk := a9) (Fl := c10) (Bd := a11) (Be := c12) hx51
    refine st_call (cx_call hc52 (ent_f hc52.fn rfl) hn0 (H.sel' [3, 2, 1, 0, 0, 1, 2, 3, 4, 5, 6, 7, 8, 9] rfl rfl : Hp S0 σ0 _ ([_, _, _, _] ++ _))) wn ?_
    rintro _ σ55 ⟨_, ⟨a53, c54, rfl, rfl⟩, H, -⟩
    replace H : Hp _ _ _ [_, _, _, _, _, _, _, _, _, _, _] := H
    replace H : Hp S0 σ0 σ55 [Ch.own n0 n0 (Sl a53 r50 c54) r50, Ch.own 0 n0 (Sl a21 r18 c22) r18] := H.sel' [0, 10] rfl rfl
    replace H := H.ownLow 1 0 0 rfl (Nat.le_refl _) (Nat.zero_le _)
    obtain ⟨σ56, hw57, H, -⟩ := H.pub 0 rfl (Nat.le_refl _)
    rw [← hw57]; clear hw57
    obtain ⟨σ58, hw59, H, -⟩ := H.pub 1 rfl (Nat.le_refl _)
    rw [← hw59]; clear hw59
    replace H := H.roLow 0 0 rfl (Nat.zero_le _)
    revert h; refine br fun r60 hx61 h => ?_
    have hc62 := c_laws_equalHits (Ad := a21) (Ae := c22) (Af := a53) (Ag := c54) hx61
    refine st_call (cx_call hc62 (ent_f hc62.fn rfl) hn0 (H.sel' [2, 0, 0, 1, 2] rfl rfl : Hp S0 σ0 _ ([_, _] ++ _))) wn ?_
    rintro _ σ63 ⟨_, ⟨rfl, rfl⟩, H, -⟩
    replace H : Hp _ _ _ [_, _, _] := H
    refine sa (B r60) rfl (w_end (q_then (c_ret (q_then_r ?_))))
    obtain rfl := sj h
    exact fin_ret (v := (B r60)) (results_ok Tryz.results4 (res_tmp (v := (B r60)) rfl res_nil) rfl) ⟨rfl, rfl⟩ (H.sel' [] rfl rfl)
   ·replace h := bif_f hb40 h
    refine c_skip (q_then (c_seq (c_seq (rg (sa (I 0) rfl (w_end (q_then ?_)))))))
    obtain ⟨o64, hj, h'⟩ := bind_some h
    clear h
    refine c_cut (fun e a w => (∃ t, o64 = (.inl t) ∧ e = .normal ∧ ∃ (ρ : Nat → Value) (σ : St), a = fr 92 (updL ρ [(3, (pt b14 0)), (4, (Sl a9 r2.2.1 c10)), (5, (Sl a11 r2.2.2.1 c12)), (6, (I r2.2.2.2.1)), (7, (I r2.2.2.2.2)), (8, (Sl a21 r18 c22))]) ∧ w = σ.w ∧ Hp S0 σ0 σ [Ch.own n0 n0 (Sl a5 r2.1.1 c6) r2.1.1, Ch.own n0 n0 (Sl a7 r2.1.2 c8) r2.1.2, Ch.bx n0 b14 0 [(Sl a5 r2.1.1 c6), (Sl a7 r2.1.2 c8)] [] [], Ch.ro n0 (Sl a9 r2.2.1 c10) r2.2.1, Ch.ro n0 (Sl a11 r2.2.2.1 c12) r2.2.2.1, Ch.own 0 n0 (Sl a21 r18 c22) r18]) ∨ (∃ t, o64 = (.inr t) ∧ e = .ret ∧ ∃ (ρ : Nat → Value) (σ : St), a = fr 92 (updL ρ [(2, (B t))]) ∧ w = σ.w ∧ Hp S0 σ0 σ [])) ?_ ?_
    ·clear h'
     rename _ = some o64 => h
     refine c_blk ?_
     obtain ⟨σ66, hw67, H, -⟩ := H.pub 3 rfl (Nat.le_refl _)
     rw [← hw67]; clear hw67
     obtain ⟨σ68, hw69, H, -⟩ := H.pub 4 rfl (Nat.le_refl _)
     rw [← hw69]; clear hw69
     refine wp_loopM _ h (fun s65 a w => ∃ (ρ : Nat → Value) (σ : St), a = fr 92 (updL ρ [(3, (pt b14 0)), (4, (Sl a9 r2.2.1 c10)), (5, (Sl a11 r2.2.2.1 c12)), (6, (I r2.2.2.2.1)), (7, (I r2.2.2.2.2)), (8, (Sl a21 r18 c22)), (9, (I s65))]) ∧ w = σ.w ∧ Hp S0 σ0 σ [Ch.own n0 n0 (Sl a5 r2.1.1 c6) r2.1.1, Ch.own n0 n0 (Sl a7 r2.1.2 c8) r2.1.2, Ch.bx n0 b14 0 [(Sl a5 r2.1.1 c6), (Sl a7 r2.1.2 c8)] [] [], Ch.ro n0 (Sl a9 r2.2.1 c10) r2.2.1, Ch.ro n0 (Sl a11 r2.2.2.1 c12) r2.2.2.1, Ch.own 0 n0 (Sl a21 r18 c22) r18]) ⟨_, σ68, fr_join ⟨rfl, rfl, rfl, rfl, rfl, rfl, rfl, trivial⟩, rfl, H.sel' [2, 3, 4, 1, 0, 5] rfl rfl⟩ ?_
     clear h H
     rintro s65 a w o ⟨ρ, σ70, rfl, rfl, H⟩ h hres
     refine c_seq (c_seq (rg (sm (I s65) rfl (sm (Sl a21 r18 c22) rfl (st (v := (I (r18.length : Int))) (rv_len Tryz.underlying30 rfl) (st (v := (B (decide (s65 < (r18.length : Int))))) (rv_lss (a := s65) (b := (r18.length : Int)) rfl rfl) (w_end (q_then ?_))))))))
     refine cd_cond (decide (s65 < (r18.length : Int))) rfl (fun hb71 => ?_) (fun hb71 => ?_)
     ·replace h := bif_t hb71 h
      refine c_skip (q_then (c_seq (c_blk (c_seq ?_))))
      revert h; refine br fun x72 hx73 h => ?_
      obtain ⟨b75, o76, hi74, -⟩ := (H.own 5 rfl).ix hx73
      have hc77 := ((H.own 5 rfl).at hx73 hi74).snd.int
      revert h; refine br fun x78 hx79 h => ?_
      obtain ⟨b81, o82, hi80, -⟩ := (H.own 5 rfl).ix hx79
      have hc83 := ((H.own 5 rfl).at hx79 hi80).fst.int
      replace H := H.roLow 3 0 rfl (Nat.zero_le _)
      revert h; refine br fun r84 hx85 h => ?_
      have hc86 := c_laws_itemOf (Aw := a9) (Ax := c10) hx85
      replace H := H.roLow 5 0 rfl (Nat.zero_le _)
      revert h; refine br fun r89 hx90 h => ?_
      have hc91 := fun (a87 : Option Addr) (c88 : Nat) => c_impl_Distance (Du := a87) (Dv := c88) (Dw := a11) (Dx := c12) hx90
      have Hs := H
      refine rg2 (σ := σ70) (Nm := (Option Addr) × (Nat)) 15 [11, 14] [[false, false], [true, false], [true, true]] [[(0, 0), (1, 1), (2, 2)], [(0, 0), (1, 1), (2, 2)], [(0, 0), (1, 1), (2, 2)], [(0, 0), (1, 1), (2, 2)], [(0, 0), (1, 1), (2, 2)], [(0, 0)], [(0, 0)], [(0, 0)], [(0, 0)], [(0, 0)], [(0, 0)], [(0, 1)], [(1, 1)], [(0, 0), (1, 1)], [(1, 2)]] 2 [fun ((a87, c88) : (Option Addr) × (Nat)) => fun σm => Hp S0 σ0 σm [Ch.ro 0 (Sl a11 r2.2.2.1 c12) r2.2.2.1, Ch.ro 0 (Sl a9 r2.2.1 c10) r2.2.1, Ch.own n0 n0 (Sl a5 r2.1.1 c6) r2.1.1, Ch.own n0 n0 (Sl a7 r2.1.2 c8) r2.1.2, Ch.bx n0 b14 0 [(Sl a5 r2.1.1 c6), (Sl a7 r2.1.2 c8)] [] [], Ch.ro n0 (Sl a9 r2.2.1 c10) r2.2.1, Ch.ro n0 (Sl a11 r2.2.2.1 c12) r2.2.2.1, Ch.own 0 n0 (Sl a21 r18 c22) r18] ∧ Md (cov []) σ70 σm, fun ((a87, c88) : (Option Addr) × (Nat)) => fun σm => Hp S0 σ0 σm [Ch.ro 0 (Sl a87 r84.2.1 c88) r84.2.1, Ch.ro 0 (Sl a11 r2.2.2.1 c12) r2.2.2.1, Ch.ro 0 (Sl a9 r2.2.1 c10) r2.2.1, Ch.own n0 n0 (Sl a5 r2.1.1 c6) r2.1.1, Ch.own n0 n0 (Sl a7 r2.1.2 c8) r2.1.2, Ch.bx n0 b14 0 [(Sl a5 r2.1.1 c6), (Sl a7 r2.1.2 c8)] [] [], Ch.ro n0 (Sl a9 r2.2.1 c10) r2.2.1, Ch.ro n0 (Sl a11 r2.2.2.1 c12) r2.2.2.1, Ch.own 0 n0 (Sl a21 r18 c22) r18] ∧ Md (cov []) σ70 σm, fun ((a87, c88) : (Option Addr) × (Nat)) => fun σm => Hp S0 σ0 σm [Ch.ro 0 (Sl a87 r84.2.1 c88) r84.2.1, Ch.ro 0 (Sl a11 r2.2.2.1 c12) r2.2.2.1, Ch.ro 0 (Sl a9 r2.2.1 c10) r2.2.1, Ch.own n0 n0 (Sl a5 r2.1.1 c6) r2.1.1, Ch.own n0 n0 (Sl a7 r2.1.2 c8) r2.1.2, Ch.bx n0 b14 0 [(Sl a5 r2.1.1 c6), (Sl a7 r2.1.2 c8)] [] [], Ch.ro n0 (Sl a9 r2.2.1 c10) r2.2.1, Ch.ro n0 (Sl a11 r2.2.2.1 c12) r2.2.2.1, Ch.own 0 n0 (Sl a21 r18 c22) r18] ∧ Md (cov []) σ70 σm] [fun ((a87, c88) : (Option Addr) × (Nat)) => (Sl a21 r18 c22), fun ((a87, c88) : (Option Addr) × (Nat)) => (I s65), fun ((a87, c88) : (Option Addr) × (Nat)) => (pt b75 o76), fun ((a87, c88) : (Option Addr) × (Nat)) => (pt b75 (o76 + 1)), fun ((a87, c88) : (Option Addr) × (Nat)) => (I x72.2), fun ((a87, c88) : (Option Addr) × (Nat)) => (Sl a9 r2.2.1 c10), fun ((a87, c88) : (Option Addr) × (Nat)) => (Sl a21 r18 c22), fun ((a87, c88) : (Option Addr) × (Nat)) => (I s65), fun ((a87, c88) : (Option Addr) × (Nat)) => (pt b81 o82), fun ((a87, c88) : (Option Addr) × (Nat)) => (pt b81 (o82 + 0)), fun ((a87, c88) : (Option Addr) × (Nat)) => (I x78.1), fun ((a87, c88) : (Option Addr) × (Nat)) => (.agg #[(I r84.1), (Sl a87 r84.2.1 c88), (I r84.2.2)]), fun ((a87, c88) : (Option Addr) × (Nat)) => (Sl a87 r84.2.1 c88), fun ((a87, c88) : (Option Addr) × (Nat)) => (Sl a11 r2.2.2.1 c12), fun ((a87, c88) : (Option Addr) × (Nat)) => (I r89)] (none, 0) (by kernel_rfl) (by kernel_rfl) ?_ ?_ ?_
      ·intro σm m0
       exact ⟨H.grow (m0.mono fun _ h => h.elim), m0⟩
      ·refine ac rfl (by
         intro k; rintro ⟨a87, c88⟩ ρ σm hJ hoff hdep
         have e8 := look_off (N := 92) (hoff 8 rfl) rfl
         exact dp_v (v := (Sl a21 r18 c22)) wn (rv_move e8) rfl hJ) ?_
       refine ac rfl (by
         intro k; rintro ⟨a87, c88⟩ ρ σm hJ hoff hdep
         have e9 := look_off (N := 92) (hoff 9 rfl) rfl
         exact dp_v (v := (I s65)) wn (rv_move e9) rfl hJ) ?_
       refine ac rfl (by
         intro k; rintro ⟨a87, c88⟩ ρ σm hJ hoff hdep
         have e55 := hdep 0 rfl rfl 55 rfl
         have e56 := hdep 1 rfl rfl 56 rfl
         exact dp_v (v := (pt b75 o76)) wn (rv_ix Tryz.underlying30 ti43 e55 e56 hi74) rfl hJ) ?_
       refine ac rfl (by
         intro k; rintro ⟨a87, c88⟩ ρ σm hJ hoff hdep
         have e57 := hdep 2 rfl rfl 57 rfl
         exact dp_v (v := (pt b75 (o76 + 1))) wn (rv_fieldAddr (off := 1) (ft := 3) Tryz.underlying43 rfl ti3 rfl e57) rfl hJ) ?_
       refine all_cons (by
         refine ⟨?_, ?_⟩
         ·rintro ⟨a87, c88⟩ ρ σm hJ hoff hdep
          have e58 := hdep 3 rfl rfl 58 rfl
          obtain ⟨H, m⟩ := id hJ
          have hc77 := ((H.own 7 rfl).at hx73 hi74).snd.int
          exact dp_v (v := (I x72.2)) wn (rv_load1 Tryz.underlying3 rfl e58 hc77) rfl hJ
         refine ⟨?_, ?_⟩
         ·rintro ⟨a87, c88⟩ ρ σm hJ hoff hdep
          have e58 := hdep 3 rfl rfl 58 rfl
          obtain ⟨H, m⟩ := id hJ
          have hc77 := ((H.own 8 rfl).at hx73 hi74).snd.int
          exact dp_v (v := (I x72.2)) wn (rv_load1 Tryz.underlying3 rfl e58 hc77) rfl hJ
         refine ⟨?_, ?_⟩
         ·rintro ⟨a87, c88⟩ ρ σm hJ hoff hdep
          have e58 := hdep 3 rfl rfl 58 rfl
          obtain ⟨H, m⟩ := id hJ
          have hc77 := ((H.own 8 rfl).at hx73 hi74).snd.int
          exact dp_v (v := (I x72.2)) wn (rv_load1 Tryz.underlying3 rfl e58 hc77) rfl hJ
         trivial) ?_
       refine ac rfl (by
         intro k; rintro ⟨a87, c88⟩ ρ σm hJ hoff hdep
         have e4 := look_off (N := 92) (hoff 4 rfl) rfl
         exact dp_v (v := (Sl a9 r2.2.1 c10)) wn (rv_move e4) rfl hJ) ?_
       refine ac rfl (by
         intro k; rintro ⟨a87, c88⟩ ρ σm hJ hoff hdep
         have e8 := look_off (N := 92) (hoff 8 rfl) rfl
         exact dp_v (v := (Sl a21 r18 c22)) wn (rv_move e8) rfl hJ) ?_
       refine ac rfl (by
         intro k; rintro ⟨a87, c88⟩ ρ σm hJ hoff hdep
         have e9 := look_off (N := 92) (hoff 9 rfl) rfl
         exact dp_v (v := (I s65)) wn (rv_move e9) rfl hJ) ?_
       refine ac rfl (by
         intro k; rintro ⟨a87, c88⟩ ρ σm hJ hoff hdep
         have e61 := hdep 6 rfl rfl 61 rfl
         have e62 := hdep 7 rfl rfl 62 rfl
         exact dp_v (v := (pt b81 o82)) wn (rv_ix Tryz.underlying30 ti43 e61 e62 hi80) rfl hJ) ?_
       refine ac rfl (by
         intro k; rintro ⟨a87, c88⟩ ρ σm hJ hoff hdep
         have e63 := hdep 8 rfl rfl 63 rfl
         exact dp_v (v := (pt b81 (o82 + 0))) wn (rv_fieldAddr (off := 0) (ft := 3) Tryz.underlying43 rfl ti3 rfl e63) rfl hJ) ?_
       refine all_cons (by
         refine ⟨?_, ?_⟩
         ·rintro ⟨a87, c88⟩ ρ σm hJ hoff hdep
          have e64 := hdep 9 rfl rfl 64 rfl
          obtain ⟨H, m⟩ := id hJ
          have hc83 := ((H.own 7 rfl).at hx79 hi80).fst.int
          exact dp_v (v := (I x78.1)) wn (rv_load1 Tryz.underlying3 rfl e64 hc83) rfl hJ
         trivial) ?_
       refine all_cons (by
         refine ⟨?_, ?_⟩
         ·rintro ⟨a87, c88⟩ ρ σm hJ hoff hdep
          have e60 : look 92 ρ 60 = (Sl a9 r2.2.1 c10) := hdep 5 rfl rfl 60 rfl
          have e65 : look 92 ρ 65 = (I x78.1) := hdep 10 rfl rfl 65 rfl
          obtain ⟨H, m⟩ := id hJ
          refine dp_cx wn (cx_call hc86 (ent_f hc86.fn (by show [look 92 ρ 60, look 92 ρ 65] = _; rw [e60, e65])) hn0 (H.sel' [1, 0, 1, 2, 3, 4, 5, 6, 7] rfl rfl : Hp S0 σ0 _ ([_] ++ _))) ?_
          rintro _ σq ⟨_, ⟨a87x, c88x, rfl, rfl⟩, H2, m2⟩
          exact ⟨_, (a87x, c88x), rfl, rfl, ⟨H2.sel' [0, 1, 2, 3, 4, 5, 6, 7, 8] rfl rfl, m.comp0 (m2.mono (fun i h => by simp [cov, Ch.ro] at h))⟩, stab [0, 1, 2, 3, 4, 5, 6, 7, 8, 9, 10, 13] (by kernel_rfl) ⟨rfl, rfl, rfl, rfl, rfl, rfl, rfl, rfl, rfl, rfl, rfl, rfl, trivial⟩⟩
         trivial) ?_
       refine ac rfl (by
         intro k; rintro ⟨a87, c88⟩ ρ σm hJ hoff hdep
         have e66 := hdep 11 rfl rfl 66 rfl
         exact dp_v (v := (Sl a87 r84.2.1 c88)) wn (rv_field (off := 1) (ft := 27) Tryz.underlying34 rfl Tryz.underlying27 rfl e66 rfl) rfl hJ) ?_
       refine ac rfl (by
         intro k; rintro ⟨a87, c88⟩ ρ σm hJ hoff hdep
         have e5 := look_off (N := 92) (hoff 5 rfl) rfl
         exact dp_v (v := (Sl a11 r2.2.2.1 c12)) wn (rv_move e5) rfl hJ) ?_
       refine all_cons (by
         refine ⟨?_, ?_⟩
         ·rintro ⟨a87, c88⟩ ρ σm hJ hoff hdep
          have e67 : look 92 ρ 67 = (Sl a87 r84.2.1 c88) := hdep 12 rfl rfl 67 rfl
          have e68 : look 92 ρ 68 = (Sl a11 r2.2.2.1 c12) := hdep 13 rfl rfl 68 rfl
          obtain ⟨H, m⟩ := id hJ
          refine dp_cx wn (cx_call (hc91 a87 c88) (ent_f (hc91 a87 c88).fn (by show [(I 3), look 92 ρ 67, look 92 ρ 68] = _; rw [e67, e68])) hn0 (H.sel' [0, 1, 0, 1, 2, 3, 4, 5, 6, 7, 8] rfl rfl : Hp S0 σ0 _ ([_, _] ++ _))) ?_
          rintro _ σq ⟨_, ⟨rfl, rfl⟩, H2, m2⟩
          exact ⟨_, (a87, c88), rfl, rfl, ⟨H2.sel' [0, 1, 2, 3, 4, 5, 6, 7, 8] rfl rfl, m.comp0 (m2.mono (fun i h => by simp [cov, Ch.ro] at h))⟩, stab [0, 1, 2, 3, 4, 5, 6, 7, 8, 9, 10, 11, 12, 13] (by kernel_rfl) ⟨rfl, rfl, rfl, rfl, rfl, rfl, rfl, rfl, rfl, rfl, rfl, rfl, rfl, rfl, trivial⟩⟩
         trivial) ?_
       exact all_nil
      ·rintro ⟨a87, c88⟩ ρ σ92 hJ hoff hrel
       have e3 := look_off (N := 92) (hoff 3 rfl) rfl
       have e4 := look_off (N := 92) (hoff 4 rfl) rfl
       have e5 := look_off (N := 92) (hoff 5 rfl) rfl
       have e6 := look_off (N := 92) (hoff 6 rfl) rfl
       have e7 := look_off (N := 92) (hoff 7 rfl) rfl
       have e8 := look_off (N := 92) (hoff 8 rfl) rfl
       have e9 := look_off (N := 92) (hoff 9 rfl) rfl
       have e59 := hrel 4 rfl 59 rfl
       have e69 := hrel 14 rfl 69 rfl
       obtain ⟨H, -⟩ := (show Hp S0 σ0 σ92 [Ch.ro 0 (Sl a87 r84.2.1 c88) r84.2.1, Ch.ro 0 (Sl a11 r2.2.2.1 c12) r2.2.2.1, Ch.ro 0 (Sl a9 r2.2.1 c10) r2.2.1, Ch.own n0 n0 (Sl a5 r2.1.1 c6) r2.1.1, Ch.own n0 n0 (Sl a7 r2.1.2 c8) r2.1.2, Ch.bx n0 b14 0 [(Sl a5 r2.1.1 c6), (Sl a7 r2.1.2 c8)] [] [], Ch.ro n0 (Sl a9 r2.2.1 c10) r2.2.1, Ch.ro n0 (Sl a11 r2.2.2.1 c12) r2.2.2.1, Ch.own 0 n0 (Sl a21 r18 c22) r18] ∧ Md (cov []) σ70 σ92 from hJ)
       clear hJ Hs
       rw [fr_lookL (L := [(3, (pt b14 0)), (4, (Sl a9 r2.2.1 c10)), (5, (Sl a11 r2.2.2.1 c12)), (6, (I r2.2.2.2.1)), (7, (I r2.2.2.2.2)), (8, (Sl a21 r18 c22)), (9, (I s65)), (59, (I x72.2)), (69, (I r89))]) ⟨e3, e4, e5, e6, e7, e8, e9, e59, e69, trivial⟩]
       clear hoff hrel e3 e4 e5 e6 e7 e8 e9 e59 e69
       refine st (v := (B (x72.2 != r89))) (rv_neq (a := x72.2) (b := r89) rfl rfl) (w_end (q_then ?_))
       refine cd_cond (x72.2 != r89) rfl (fun hb93 => ?_) (fun hb93 => ?_)
       ·replace h := bif_t hb93 h
        refine c_seq (rg (sa (B false) rfl (w_end (q_then (c_ret (q_blk_r (q_then_r (q_then_r (q_blk_r ?_)))))))))
        obtain rfl := sj h
        obtain rfl := hres _ rfl
        exact .inr (⟨_, rfl, rfl, _, σ92, fr_join ⟨rfl, trivial⟩, rfl, H.sel' [] rfl rfl⟩)
       ·replace h := bif_f hb93 h
        refine c_skip (q_blk (q_then (rg (sm (I s65) rfl (st (v := (I (w64 (s65 + 1)))) (rv_add (a := s65) (b := 1) rfl rfl) (sa (I (w64 (s65 + 1))) rfl (w_end (q_then ?_))))))))
        obtain rfl := sj h
        exact ⟨_, rfl, _, σ92, fr_join ⟨rfl, rfl, rfl, rfl, rfl, rfl, rfl, trivial⟩, rfl, H.sel' [3, 4, 5, 6, 7, 8] rfl rfl⟩
     ·replace h := bif_f hb71 h
      refine c_exit (q_then_x (q_then_x (q_blk_hit ?_)))
      obtain rfl := sj h
      obtain rfl := hres _ rfl
      exact .inl ⟨_, rfl, rfl, _, σ70, fr_join ⟨rfl, rfl, rfl, rfl, rfl, rfl, trivial⟩, rfl, H.sel' [0, 1, 2, 3, 4, 5] rfl rfl⟩
    ·clear hj
     have h := h'
     clear h' H
     rintro e a w (⟨t94, rfl, rfl, ρ, σ95, rfl, rfl, H⟩ | ⟨t122, rfl, rfl, ρ, σ123, rfl, rfl, H⟩)
     ·replace h := selim_l h
      refine q_then (c_seq (rg ?_))
      have hc96 := H.cells 2 rfl
      refine st (v := (.agg #[(Sl a5 r2.1.1 c6), (Sl a7 r2.1.2 c8)])) (rv_load (cs := [(Sl a5 r2.1.1 c6), (Sl a7 r2.1.2 c8)]) Tryz.underlying25 rfl ti25 rfl rfl hc96) (sm (Sl a9 r2.2.1 c10) rfl (sm (Sl a11 r2.2.2.1 c12) rfl (sm (I r2.2.2.2.2) rfl ?_)))
      obtain ⟨σ97, hw98, H, -⟩ := H.pub 0 rfl (Nat.le_refl _)
      rw [← hw98]; clear hw98
      obtain ⟨σ99, hw100, H, -⟩ := H.pub 1 rfl (Nat.le_refl _)
      rw [← hw100]; clear hw100
      replace H := H.roLow 1 0 rfl (Nat.zero_le _)
      replace H := H.roLow 1 0 rfl (Nat.zero_le _)
      replace H := H.roLow 5 0 rfl (Nat.zero_le _)
      replace H := H.roLow 7 0 rfl (Nat.zero_le _)
      revert h; refine br fun r101 hx102 h => ?_
      have hc103 := c_impl_RerankNearest (Fu := a5) (Fv := c6) (Fw := a7) (Fx := c8) (Fk := a9) (Fl := c10) (Bd := a11) (Be := c12) hx102
      refine st_call (cx_call hc103 (ent_f hc103.fn rfl) hn0 (H.sel' [3, 2, 1, 0, 0, 1, 2, 3, 4, 5, 6, 7, 8, 9] rfl rfl : Hp S0 σ0 _ ([_, _, _, _] ++ _))) wn ?_
      rintro _ σ106 ⟨_, ⟨a104, c105, rfl, rfl⟩, H, -⟩
      replace H : Hp _ _ _ [_, _, _, _, _, _, _, _, _, _, _] := H
      replace H : Hp S0 σ0 σ106 [Ch.own 0 n0 (Sl a104 r101 c105) r101, Ch.ro n0 (Sl a9 r2.2.1 c10) r2.2.1, Ch.ro n0 (Sl a11 r2.2.2.1 c12) r2.2.2.1, Ch.own 0 n0 (Sl a21 r18 c22) r18] := H.sel' [0, 8, 9, 10] rfl rfl
      refine sm (Sl a9 r2.2.1 c10) rfl (sm (Sl a11 r2.2.2.1 c12) rfl (sm (I r2.2.2.2.2) rfl ?_))
      replace H := H.roLow 1 0 rfl (Nat.zero_le _)
      replace H := H.roLow 3 0 rfl (Nat.zero_le _)
      revert h; refine br fun r107 hx108 h => ?_
      have hc109 := c_impl_Nearest (Aw := a9) (Ax := c10) (Bd := a11) (Be := c12) hx108
      refine st_call (cx_call hc109 (ent_f hc109.fn rfl) hn0 (H.sel' [1, 0, 0, 1, 2, 3, 4, 5] rfl rfl : Hp S0 σ0 _ ([_, _] ++ _))) wn ?_
      rintro _ σ112 ⟨_, ⟨a110, c111, rfl, rfl⟩, H, -⟩
      replace H : Hp _ _ _ [_, _, _, _, _, _, _] := H
      replace H := H.ownLow 3 0 0 rfl (Nat.le_refl _) (Nat.zero_le _)
      obtain ⟨σ113, hw114, H, -⟩ := H.pub 0 rfl (Nat.le_refl _)
      rw [← hw114]; clear hw114
      replace H := H.ownLow 1 0 0 rfl (Nat.le_refl _) (Nat.zero_le _)
      obtain ⟨σ115, hw116, H, -⟩ := H.pub 0 rfl (Nat.le_refl _)
      rw [← hw116]; clear hw116
      revert h; refine br fun r117 hx118 h => ?_
      have hc119 := c_laws_equalHits (Ad := a104) (Ae := c105) (Af := a110) (Ag := c111) hx118
      refine st_call (cx_call hc119 (ent_f hc119.fn rfl) hn0 (H.sel' [1, 0, 0, 1, 2, 3, 4, 5, 6] rfl rfl : Hp S0 σ0 _ ([_, _] ++ _))) wn ?_
      rintro _ σ120 ⟨_, ⟨rfl, rfl⟩, H, -⟩
      replace H : Hp _ _ _ [_, _, _, _, _, _, _] := H
      refine sm (B r117) rfl ?_
      rcases Bool.eq_false_or_eq_true r117 with hb121 | hb121
      ·replace h := bif_t hb121 h
       refine st_g (v := (Sl a21 r18 c22)) (congrArg some hb121) (rv_move rfl) (st_g (v := (I (r18.length : Int))) (congrArg some hb121) (rv_len Tryz.underlying30 rfl) (st_g (v := (I r2.2.2.2.1)) (congrArg some hb121) (rv_move rfl) (st_g (v := (I r2.2.2.2.2)) (congrArg some hb121) (rv_move rfl) (st_g (v := (I (min r2.2.2.2.1 r2.2.2.2.2))) (congrArg some hb121) (rv_min rfl rfl) (st_g (v := (Sl a9 r2.2.1 c10)) (congrArg some hb121) (rv_move rfl) (st_g (v := (I (r2.2.1.length : Int))) (congrArg some hb121) (rv_len Tryz.underlying26 rfl) (st_g (v := (I (min (min r2.2.2.2.1 r2.2.2.2.2) (r2.2.1.length : Int)))) (congrArg some hb121) (rv_min rfl rfl) (st_g (v := (B ((r18.length : Int) == (min (min r2.2.2.2.1 r2.2.2.2.2) (r2.2.1.length : Int))))) (congrArg some hb121) (rv_eql (a := (r18.length : Int)) (b := (min (min r2.2.2.2.1 r2.2.2.2.2) (r2.2.1.length : Int))) rfl rfl) (st (v := (B ((r18.length : Int) == (min (min r2.2.2.2.1 r2.2.2.2.2) (r2.2.1.length : Int))))) (rv_pick_t (congrArg B hb121) rfl) (sa (B ((r18.length : Int) == (min (min r2.2.2.2.1 r2.2.2.2.2) (r2.2.1.length : Int)))) rfl (w_end ?_)))))))))))
       refine q_then (c_ret ?_)
       obtain rfl := sj h
       exact fin_ret (v := (B ((r18.length : Int) == (min (min r2.2.2.2.1 r2.2.2.2.2) (r2.2.1.length : Int))))) (results_ok Tryz.results4 (res_tmp (v := (B ((r18.length : Int) == (min (min r2.2.2.2.1 r2.2.2.2.2) (r2.2.1.length : Int))))) rfl res_nil) rfl) ⟨rfl, rfl⟩ (H.sel' [] rfl rfl)
      ·replace h := bif_f hb121 h
       refine st_skip (congrArg some hb121) (st_skip (congrArg some hb121) (st_skip (congrArg some hb121) (st_skip (congrArg some hb121) (st_skip (congrArg some hb121) (st_skip (congrArg some hb121) (st_skip (congrArg some hb121) (st_skip (congrArg some hb121) (st_skip (congrArg some hb121) (st (v := (B false)) (rv_pick_f (congrArg B hb121) rfl) (sa (B false) rfl (w_end ?_)))))))))))
       refine q_then (c_ret ?_)
       obtain rfl := sj h
       exact fin_ret (v := (B false)) (results_ok Tryz.results4 (res_tmp (v := (B false)) rfl res_nil) rfl) ⟨rfl, rfl⟩ (H.sel' [] rfl rfl)
     ·replace h := selim_r h
      refine q_then_r ?_
      obtain rfl := sj h
      exact fin_ret (v := (B t122)) (results_ok Tryz.results4 (res_tmp (v := (B t122)) rfl res_nil) rfl) ⟨rfl, rfl⟩ (H.sel' [] rfl rfl)

end Go.Vs
