/- The functions compute what their models say. -/
import Derived.Test.YtdjjikmfkejdiaeGreatKExactWalkToC1
set_option linter.unusedVariables false
set_option linter.unusedSimpArgs false
set_option maxRecDepth 20000
namespace Go.Vs
open Go Go.Proofs
attribute [local irreducible] Code.wp Code.wpIn wpList wpListIn wpQuiet Calls CallsIn

theorem c_spec_dist {Bc : Int} {Bl : List Int} {Bm : List Int} {Bn : Option Addr} {Bo : Nat} {Bp : Option Addr} {Bq : Nat} {r : Int} (h : M.spec_dist Bc Bl Bm = some r) :
    Cal2 Tryz.prog 39 [(I Bc), (Sl Bn Bl Bo), (Sl Bp Bm Bq)] [Ch.ro 0 (Sl Bn Bl Bo) Bl, Ch.ro 0 (Sl Bp Bm Bq) Bm] (fun n0 v L => v = (I r) ∧ L = []) := by
 refine cal2 (n := 50) Tryz.func39 rfl rfl rfl rfl ?_
 intro S0 σ0 n0 hn0 H
 unfold M.spec_dist at h
 refine c_seq (rg (sa (I 0) rfl (w_end (q_then (c_seq (rg (sa (I 0) rfl (w_end (q_then (c_seq (c_seq ?_)))))))))))
 refine rg (sa (I 0) rfl (w_end (q_then ?_)))
 obtain ⟨o1, hj, h'⟩ := bind_some h
 clear h
 refine c_cut (fun e a w => e = .normal ∧ ∃ (ρ : Nat → Value) (σ : St), a = fr 50 (updL ρ [(7, (I o1))]) ∧ w = σ.w ∧ Hp S0 σ0 σ []) ?_ ?_
 ·clear h'
  rename _ = some o1 => h
  refine c_blk (wp_loopM _ h (fun s2 a w => ∃ (ρ : Nat → Value) (σ : St), a = fr 50 (updL ρ [(0, (I Bc)), (1, (Sl Bn Bl Bo)), (2, (Sl Bp Bm Bq)), (7, (I s2.1)), (8, (I s2.2))]) ∧ w = σ.w ∧ Hp S0 σ0 σ [Ch.ro 0 (Sl Bn Bl Bo) Bl, Ch.ro 0 (Sl Bp Bm Bq) Bm]) ⟨_, σ0, fr_join ⟨rfl, rfl, rfl, rfl, rfl, trivial⟩, rfl, H.sel' [0, 1] rfl rfl⟩ ?_)
  clear h H
  rintro s2 a w o ⟨ρ, σ3, rfl, rfl, H⟩ h hres
  refine c_seq (c_seq (rg (sm (I s2.2) rfl (sm (Sl Bn Bl Bo) rfl (st (v := (I (Bl.length : Int))) (rv_len Tryz.underlying26 rfl) (st (v := (B (decide (s2.2 < (Bl.length : Int))))) (rv_lss (a := s2.2) (b := (Bl.length : Int)) rfl rfl) (w_end (q_then ?_))))))))
  refine cd_cond (decide (s2.2 < (Bl.length : Int))) rfl (fun hb4 => ?_) (fun hb4 => ?_)
  ·replace h := bif_t hb4 h
   refine c_skip (q_then (c_seq ?_))
   obtain ⟨o5, hj, h'⟩ := bind_some h
   clear h
   refine c_cut (fun e a w => e = .normal ∧ ∃ (ρ : Nat → Value) (σ : St), a = fr 50 (updL ρ [(0, (I Bc)), (1, (Sl Bn Bl Bo)), (2, (Sl Bp Bm Bq)), (7, (I o5)), (8, (I s2.2))]) ∧ w = σ.w ∧ Hp S0 σ0 σ [Ch.ro 0 (Sl Bn Bl Bo) Bl, Ch.ro 0 (Sl Bp Bm Bq) Bm]) ?_ ?_
   ·clear h'
    rename _ = some o5 => h
    refine c_blk (c_seq ?_)
    refine rgP (σ := σ3) 8 (by kernel_rfl) (by kernel_rfl) (by kernel_rfl) ?_
    refine sq (v := (Sl Bn Bl Bo)) (rv_move rfl) (sq (v := (I s2.2)) (rv_move rfl) ?_)
    revert h; refine br fun x6 hx7 h => ?_
    obtain ⟨b9, o10, hi8, -⟩ := (H.ro 0 rfl).ix hx7
    refine sq (v := (pt b9 o10)) (rv_ix Tryz.underlying26 ti3 rfl rfl hi8) ?_
    have hc11 := ((H.ro 0 rfl).at hx7 hi8).int
    refine sq (v := (I x6)) (rv_load1 Tryz.underlying3 rfl rfl hc11) (sq (v := (Sl Bp Bm Bq)) (rv_move rfl) (sq (v := (I s2.2)) (rv_move rfl) ?_))
    revert h; refine br fun x12 hx13 h => ?_
    obtain ⟨b15, o16, hi14, -⟩ := (H.ro 1 rfl).ix hx13
    refine sq (v := (pt b15 o16)) (rv_ix Tryz.underlying26 ti3 rfl rfl hi14) ?_
    have hc17 := ((H.ro 1 rfl).at hx13 hi14).int
    refine sq (v := (I x12)) (rv_load1 Tryz.underlying3 rfl rfl hc17) (sq_end ?_)
    intro σ18 hm19
    replace H := H.grow (hm19.mono fun _ h => h); clear hm19
    refine st (v := (I (w64 (x6 - x12)))) (rv_sub (a := x6) (b := x12) rfl rfl) ?_
    revert h; refine br fun r20 hx21 h => ?_
    have hc22 := c_spec_size hx21
    refine st_call (cx_call hc22 (ent_f hc22.fn rfl) hn0 (H.sel' [0, 1] rfl rfl : Hp S0 σ0 _ ([] ++ _))) wn ?_
    rintro _ σ23 ⟨_, ⟨rfl, rfl⟩, H, -⟩
    replace H : Hp _ _ _ [_, _] := H
    refine sa (I r20) rfl (w_end (q_then (c_seq (rg (sm (I Bc) rfl (w_end (q_then (c_blk (c_seq (rg (st (v := (B (Bc == 1))) (rv_eql (a := Bc) (b := 1) rfl rfl) ?_)))))))))))
    refine sa (B (Bc == 1)) rfl (w_end (q_then ?_))
    refine cd_cond (Bc == 1) rfl (fun hb24 => ?_) (fun hb24 => ?_)
    ·replace h := bif_t hb24 h
     refine rg (sm (I s2.1) rfl (sm (I r20) rfl (st (v := (I (w64 (s2.1 + r20)))) (rv_add (a := s2.1) (b := r20) rfl rfl) (sa (I (w64 (s2.1 + r20))) rfl (w_end (q_blk (q_blk ?_)))))))
     obtain rfl := sj h
     exact ⟨rfl, _, σ23, fr_join ⟨rfl, rfl, rfl, rfl, rfl, trivial⟩, rfl, H.sel' [0, 1] rfl rfl⟩
    ·replace h := bif_f hb24 h
     refine c_seq (rg (st (v := (B (Bc == 2))) (rv_eql (a := Bc) (b := 2) rfl rfl) (sa (B (Bc == 2)) rfl (w_end (q_then ?_)))))
     refine cd_cond (Bc == 2) rfl (fun hb25 => ?_) (fun hb25 => ?_)
     ·replace h := bif_t hb25 h
      refine rg (sm (I s2.1) rfl (sm (I r20) rfl (st (v := (I (max s2.1 r20))) (rv_max rfl rfl) (sa (I (max s2.1 r20)) rfl (w_end (q_blk (q_blk ?_)))))))
      obtain rfl := sj h
      exact ⟨rfl, _, σ23, fr_join ⟨rfl, rfl, rfl, rfl, rfl, trivial⟩, rfl, H.sel' [0, 1] rfl rfl⟩
     ·replace h := bif_f hb25 h
      refine c_seq (rg (st (v := (B (Bc == 3))) (rv_eql (a := Bc) (b := 3) rfl rfl) (sa (B (Bc == 3)) rfl (w_end (q_then ?_)))))
      refine cd_cond (Bc == 3) rfl (fun hb26 => ?_) (fun hb26 => ?_)
      ·replace h := bif_t hb26 h
       refine rg (sm (I s2.1) rfl (sm (I r20) rfl (sm (I r20) rfl (st (v := (I (w64 (r20 * r20)))) (rv_mul (a := r20) (b := r20) rfl rfl) (st (v := (I (w64 (s2.1 + (w64 (r20 * r20)))))) (rv_add (a := s2.1) (b := (w64 (r20 * r20))) rfl rfl) (sa (I (w64 (s2.1 + (w64 (r20 * r20))))) rfl (w_end (q_blk (q_blk ?_)))))))))
       obtain rfl := sj h
       exact ⟨rfl, _, σ23, fr_join ⟨rfl, rfl, rfl, rfl, rfl, trivial⟩, rfl, H.sel' [0, 1] rfl rfl⟩
      ·replace h := bif_f hb26 h
       refine rg (sm (I s2.1) rfl (sm (I r20) rfl (st (v := (B (decide (0 < r20)))) (rv_gtr (a := r20) (b := 0) rfl rfl) ?_)))
       revert h; refine br fun r27 hx28 h => ?_
       have hc29 := c_spec_toInt hx28
       refine st_call (cx_call hc29 (ent_f hc29.fn rfl) hn0 (H.sel' [0, 1] rfl rfl : Hp S0 σ0 _ ([] ++ _))) wn ?_
       rintro _ σ30 ⟨_, ⟨rfl, rfl⟩, H, -⟩
       replace H : Hp _ _ _ [_, _] := H
       refine st (v := (I (w64 (s2.1 + r27)))) (rv_add (a := s2.1) (b := r27) rfl rfl) (sa (I (w64 (s2.1 + r27))) rfl (w_end (q_blk (q_blk ?_))))
       obtain rfl := sj h
       exact ⟨rfl, _, σ30, fr_join ⟨rfl, rfl, rfl, rfl, rfl, trivial⟩, rfl, H.sel' [0, 1] rfl rfl⟩
   ·clear hj
    have h := h'
    clear h' H
    rintro e a w ⟨rfl, ρ, σ31, rfl, rfl, H⟩
    refine q_then (rg (sm (I s2.2) rfl (st (v := (I (w64 (s2.2 + 1)))) (rv_add (a := s2.2) (b := 1) rfl rfl) (sa (I (w64 (s2.2 + 1))) rfl (w_end (q_then ?_))))))
    obtain rfl := sj h
    exact ⟨_, rfl, _, σ31, fr_join ⟨rfl, rfl, rfl, rfl, rfl, trivial⟩, rfl, H.sel' [0, 1] rfl rfl⟩
  ·replace h := bif_f hb4 h
   refine c_exit (q_then_x (q_then_x (q_blk_hit ?_)))
   obtain rfl := sj h
   obtain rfl := hres _ rfl
   exact ⟨rfl, _, σ3, fr_join ⟨rfl, trivial⟩, rfl, H.sel' [] rfl rfl⟩
 ·clear hj
  have h := h'
  clear h' H
  rintro e a w ⟨rfl, ρ, σ32, rfl, rfl, H⟩
  refine q_then (c_seq (rg (sm (I o1) rfl (sa (I o1) rfl (w_end (q_then (c_ret ?_)))))))
  obtain rfl := sj h
  exact fin_ret (v := (I o1)) (results_ok Tryz.results39 (res_tmp (v := (I o1)) rfl res_nil) rfl) ⟨rfl, rfl⟩ (H.sel' [] rfl rfl)

theorem c_spec_hit {Az : Int × (List Int) × Int} {Bd : Int} {Be : List Int} {Ba : Option Addr} {Bb : Nat} {Bf : Option Addr} {Bg : Nat} {r : (Int × Int)} (h : M.spec_hit Az Bd Be = some r) :
    Cal2 Tryz.prog 66 [(.agg #[(I Az.1), (Sl Ba Az.2.1 Bb), (I Az.2.2)]), (I Bd), (Sl Bf Be Bg)] [Ch.ro 0 (Sl Ba Az.2.1 Bb) Az.2.1, Ch.ro 0 (Sl Bf Be Bg) Be] (fun n0 v L => v = (.agg #[(I r.1), (I r.2)]) ∧ L = []) := by
 refine cal2 (n := 15) Tryz.func66 rfl rfl rfl rfl ?_
 intro S0 σ0 n0 hn0 H
 unfold M.spec_hit at h
 refine c_seq (rg (st_ex (ex_box (cs := [(I Az.1), (Sl Ba Az.2.1 Bb), (I Az.2.2)]) H hn0 rfl rfl) wn ?_))
 rintro _ σ2 ⟨b1, rfl, H, -⟩
 refine st_ex (ex_alloc (cs := [(I 0), (I 0)]) H hn0 ti67 rfl) wn ?_
 rintro _ σ4 ⟨b3, rfl, H, -⟩
 refine w_end (q_then (c_seq ?_))
 have hc5 := H.cell (u := (I Az.1)) (o' := 0) 1 0 rfl rfl rfl
 have hc6 := H.cell (u := (Sl Ba Az.2.1 Bb)) (o' := 1) 1 1 rfl rfl rfl
 revert h; refine br fun r7 hx8 h => ?_
 have hc9 := c_spec_dist (Bn := Ba) (Bo := Bb) (Bp := Bf) (Bq := Bg) hx8
 have Hs := H
 refine rg2 (σ := σ4) (Nm := Unit) 7 [6] [[false], [true]] [[(0, 0), (1, 1)], [(0, 0), (1, 1)], [(0, 0)], [(0, 0)], [(0, 0)], [(0, 0)], [(0, 1)]] 1 [fun _ => fun σm => Hp S0 σ0 σm [Ch.bx n0 b3 0 [(I 0), (I 0)] [] [], Ch.bx n0 b1 0 [(I Az.1), (Sl Ba Az.2.1 Bb), (I Az.2.2)] [] [], Ch.ro 0 (Sl Ba Az.2.1 Bb) Az.2.1, Ch.ro 0 (Sl Bf Be Bg) Be] ∧ Md (cov []) σ4 σm, fun _ => fun σm => Hp S0 σ0 σm [Ch.bx n0 b3 0 [(I 0), (I 0)] [] [], Ch.bx n0 b1 0 [(I Az.1), (Sl Ba Az.2.1 Bb), (I Az.2.2)] [] [], Ch.ro 0 (Sl Ba Az.2.1 Bb) Az.2.1, Ch.ro 0 (Sl Bf Be Bg) Be] ∧ Md (cov []) σ4 σm] [fun _ => (pt b1 0), fun _ => (I Az.1), fun _ => (I Bd), fun _ => (pt b1 1), fun _ => (Sl Ba Az.2.1 Bb), fun _ => (Sl Bf Be Bg), fun _ => (I r7)] () (by kernel_rfl) (by kernel_rfl) ?_ ?_ ?_
 ·intro σm m0
  exact ⟨H.grow (m0.mono fun _ h => h.elim), m0⟩
 ·refine ac rfl (by
    intro k _nm ρ σm hJ hoff hdep
    have e3 := look_off (N := 15) (hoff 3 rfl) rfl
    exact dp_v (v := (pt b1 0)) wn (rv_fieldAddr (off := 0) (ft := 3) Tryz.underlying62 rfl ti3 rfl e3) rfl hJ) ?_
  refine all_cons (by
    refine ⟨?_, ?_⟩
    ·intro _nm ρ σm hJ hoff hdep
     have e7 := hdep 0 rfl rfl 7 rfl
     obtain ⟨H, m⟩ := id hJ
     have hc5 := H.cell (u := (I Az.1)) (o' := 0) 1 0 rfl rfl rfl
     exact dp_v (v := (I Az.1)) wn (rv_load1 Tryz.underlying3 rfl e7 hc5) rfl hJ
    refine ⟨?_, ?_⟩
    ·intro _nm ρ σm hJ hoff hdep
     have e7 := hdep 0 rfl rfl 7 rfl
     obtain ⟨H, m⟩ := id hJ
     have hc5 := H.cell (u := (I Az.1)) (o' := 0) 1 0 rfl rfl rfl
     exact dp_v (v := (I Az.1)) wn (rv_load1 Tryz.underlying3 rfl e7 hc5) rfl hJ
    trivial) ?_
  refine ac rfl (by
    intro k _nm ρ σm hJ hoff hdep
    have e1 := look_off (N := 15) (hoff 1 rfl) rfl
    exact dp_v (v := (I Bd)) wn (rv_move e1) rfl hJ) ?_
  refine ac rfl (by
    intro k _nm ρ σm hJ hoff hdep
    have e3 := look_off (N := 15) (hoff 3 rfl) rfl
    exact dp_v (v := (pt b1 1)) wn (rv_fieldAddr (off := 1) (ft := 26) Tryz.underlying62 rfl ti26 rfl e3) rfl hJ) ?_
  refine all_cons (by
    refine ⟨?_, ?_⟩
    ·intro _nm ρ σm hJ hoff hdep
     have e10 := hdep 3 rfl rfl 10 rfl
     obtain ⟨H, m⟩ := id hJ
     have hc6 := H.cell (u := (Sl Ba Az.2.1 Bb)) (o' := 1) 1 1 rfl rfl rfl
     exact dp_v (v := (Sl Ba Az.2.1 Bb)) wn (rv_load1 Tryz.underlying26 rfl e10 hc6) rfl hJ
    trivial) ?_
  refine ac rfl (by
    intro k _nm ρ σm hJ hoff hdep
    have e2 := look_off (N := 15) (hoff 2 rfl) rfl
    exact dp_v (v := (Sl Bf Be Bg)) wn (rv_move e2) rfl hJ) ?_
  refine all_cons (by
    refine ⟨?_, ?_⟩
    ·intro _nm ρ σm hJ hoff hdep
     have e9 : look 15 ρ 9 = (I Bd) := hdep 2 rfl rfl 9 rfl
     have e11 : look 15 ρ 11 = (Sl Ba Az.2.1 Bb) := hdep 4 rfl rfl 11 rfl
     have e12 : look 15 ρ 12 = (Sl Bf Be Bg) := hdep 5 rfl rfl 12 rfl
     obtain ⟨H, m⟩ := id hJ
     refine dp_cx wn (cx_call hc9 (ent_f hc9.fn (by show [look 15 ρ 9, look 15 ρ 11, look 15 ρ 12] = _; rw [e9, e11, e12])) hn0 (H.sel' [2, 3, 0, 1, 2, 3] rfl rfl : Hp S0 σ0 _ ([_, _] ++ _))) ?_
     rintro _ σq ⟨_, ⟨rfl, rfl⟩, H2, m2⟩
     exact ⟨_, (), rfl, rfl, ⟨H2.sel' [0, 1, 2, 3] rfl rfl, m.comp0 (m2.mono (fun i h => by simp [cov, Ch.ro] at h))⟩, stab [0, 1, 2, 3, 4, 5] (by kernel_rfl) ⟨rfl, rfl, rfl, rfl, rfl, rfl, trivial⟩⟩
    trivial) ?_
  exact all_nil
 ·intro _nm ρ σ10 hJ hoff hrel
  have e6 := look_off (N := 15) (hoff 6 rfl) rfl
  have e8 := hrel 1 rfl 8 rfl
  have e13 := hrel 6 rfl 13 rfl
  obtain ⟨H, -⟩ := (show Hp S0 σ0 σ10 [Ch.bx n0 b3 0 [(I 0), (I 0)] [] [], Ch.bx n0 b1 0 [(I Az.1), (Sl Ba Az.2.1 Bb), (I Az.2.2)] [] [], Ch.ro 0 (Sl Ba Az.2.1 Bb) Az.2.1, Ch.ro 0 (Sl Bf Be Bg) Be] ∧ Md (cov []) σ4 σ10 from hJ)
  clear hJ Hs
  rw [fr_lookL (L := [(6, (pt b3 0)), (8, (I Az.1)), (13, (I r7))]) ⟨e6, e8, e13, trivial⟩]
  clear hoff hrel e6 e8 e13
  refine st (v := (.agg #[(I Az.1), (I r7)])) (rv_build (ps := [(0, (I Az.1)), (1, (I r7))]) Tryz.underlying67 ti67 (bp67 Tryz.underlying67) rfl (by kernel_rfl)) ?_
  refine st_exS (ex_store_box (k := 0) (cs := [(I 0), (I 0)]) (vs := [(I Az.1), (I r7)]) (cs' := [(I Az.1), (I r7)]) H (i := 0) rfl ti67 rfl rfl rfl rfl rfl (Nat.le_of_ble_eq_true rfl) (by simp [plain]) rfl) wn ?_
  rintro σ11 ⟨H, -⟩
  refine w_end (q_then (c_ret ?_))
  obtain rfl := sj h
  exact fin_ret (v := (.agg #[(I Az.1), (I r7)])) (results_ok Tryz.results66 (res_cell rfl (run_cellRes (cs := [(I Az.1), (I r7)]) Tryz.underlying67 rfl ti67 rfl (H.cells 0 rfl)) res_nil) rfl) ⟨rfl, rfl⟩ (H.sel' [] rfl rfl)

theorem c_spec_links {As : List (Int × (List Int) × Int)} {Bd : Int} {Br : Int} {Au : Option Addr} {Av : Nat} {r : (List (List Int))} (h : M.spec_links As Bd Br = some r) :
    Cal2 Tryz.prog 65 [(Sl Au As Av), (I Bd), (I Br)] [Ch.ro 0 (Sl Au As Av) As] (fun n0 v L => ∃ (az1 : Option Addr), ∃ (cz2 : Nat), v = (Sl az1 r cz2) ∧ L = [Ch.own n0 n0 (Sl az1 r cz2) r]) := by
 refine cal2 (n := 64) Tryz.func65 rfl rfl rfl rfl ?_
 intro S0 σ0 n0 hn0 H
 unfold M.spec_links at h
 refine c_seq (rg (sa (.slice none 0 0) rfl (w_end (q_then (c_seq (rg ?_))))))
 refine st_ex (ex_buildSlice (el := n0) (xs := ([] : List (List Int))) (ps := []) (cs := []) H hn0 Tryz.underlying22 ti26 rfl rfl (by kernel_rfl) (.nil) rfl) wn ?_
 rintro _ σ2 ⟨b1, rfl, H, -⟩
 refine sa (Sl (some ⟨b1, 0, none⟩) ([] : List (List Int)) 0) rfl (w_end (q_then (c_seq (c_seq (rg (sa (I 0) rfl (w_end (q_then ?_))))))))
 obtain ⟨o3, hj, h'⟩ := bind_some h
 clear h
 refine c_cut (fun e a w => e = .normal ∧ ∃ (ρ : Nat → Value) (σ : St) (aj1 : Option Addr) (cj2 : Nat), a = fr 64 (updL ρ [(7, (Sl aj1 o3 cj2))]) ∧ w = σ.w ∧ Hp S0 σ0 σ [Ch.own n0 n0 (Sl aj1 o3 cj2) o3]) ?_ ?_
 ·clear h'
  rename _ = some o3 => h
  refine c_blk (wp_loopM _ h (fun s4 a w => ∃ (ρ : Nat → Value) (σ : St) (aj1 : Option Addr) (cj2 : Nat), a = fr 64 (updL ρ [(0, (Sl Au As Av)), (1, (I Bd)), (2, (I Br)), (7, (Sl aj1 s4.1 cj2)), (8, (I s4.2))]) ∧ w = σ.w ∧ Hp S0 σ0 σ [Ch.ro 0 (Sl Au As Av) As, Ch.own n0 n0 (Sl aj1 s4.1 cj2) s4.1]) ⟨_, σ2, (some ⟨b1, 0, none⟩), 0, fr_join ⟨rfl, rfl, rfl, rfl, rfl, trivial⟩, rfl, H.sel' [1, 0] rfl rfl⟩ ?_)
  clear h H
  rintro s4 a w o ⟨ρ, σ5, a6, c7, rfl, rfl, H⟩ h hres
  refine c_seq (c_seq (rg (sm (I s4.2) rfl (sm (Sl Au As Av) rfl (st (v := (I (As.length : Int))) (rv_len Tryz.underlying33 rfl) (st (v := (B (decide (s4.2 < (As.length : Int))))) (rv_lss (a := s4.2) (b := (As.length : Int)) rfl rfl) (w_end (q_then ?_))))))))
  refine cd_cond (decide (s4.2 < (As.length : Int))) rfl (fun hb8 => ?_) (fun hb8 => ?_)
  ·replace h := bif_t hb8 h
   refine c_skip (q_then (c_seq (c_blk (c_seq (rg ?_)))))
   refine st_ex (ex_buildSlice (el := n0) (xs := ([] : List (Int × Int))) (ps := []) (cs := []) H hn0 Tryz.underlying29 ti67 rfl rfl (by kernel_rfl) (.nil) rfl) wn ?_
   rintro _ σ10 ⟨b9, rfl, H, -⟩
   refine sa (Sl (some ⟨b9, 0, none⟩) ([] : List (Int × Int)) 0) rfl (w_end (q_then (c_seq (c_seq (rg (sa (I 0) rfl (w_end (q_then ?_))))))))
   obtain ⟨o11, hj, h'⟩ := bind_some h
   clear h
   refine c_cut (fun e a w => e = .normal ∧ ∃ (ρ : Nat → Value) (σ : St) (aj1 : Option Addr) (cj2 : Nat), a = fr 64 (updL ρ [(0, (Sl Au As Av)), (1, (I Bd)), (2, (I Br)), (7, (Sl a6 s4.1 c7)), (8, (I s4.2)), (9, (Sl aj1 o11 cj2))]) ∧ w = σ.w ∧ Hp S0 σ0 σ [Ch.ro 0 (Sl Au As Av) As, Ch.own n0 n0 (Sl a6 s4.1 c7) s4.1, Ch.own n0 n0 (Sl aj1 o11 cj2) o11]) ?_ ?_
   ·clear h'
    rename _ = some o11 => h
    refine c_blk (wp_loopM _ h (fun s12 a w => ∃ (ρ : Nat → Value) (σ : St) (aj1 : Option Addr) (cj2 : Nat), a = fr 64 (updL ρ [(0, (Sl Au As Av)), (1, (I Bd)), (2, (I Br)), (7, (Sl a6 s4.1 c7)), (8, (I s4.2)), (9, (Sl aj1 s12.1 cj2)), (10, (I s12.2))]) ∧ w = σ.w ∧ Hp S0 σ0 σ [Ch.ro 0 (Sl Au As Av) As, Ch.own n0 n0 (Sl a6 s4.1 c7) s4.1, Ch.own n0 n0 (Sl aj1 s12.1 cj2) s12.1]) ⟨_, σ10, (some ⟨b9, 0, none⟩), 0, fr_join ⟨rfl, rfl, rfl, rfl, rfl, rfl, rfl, trivial⟩, rfl, H.sel' [1, 2, 0] rfl rfl⟩ ?_)
    clear h H
    rintro s12 a w o ⟨ρ, σ13, a14, c15, rfl, rfl, H⟩ h hres
    refine c_seq (c_seq (rg (sm (I s12.2) rfl (sm (Sl Au As Av) rfl (st (v := (I (As.length : Int))) (rv_len Tryz.underlying33 rfl) (st (v := (B (decide (s12.2 < (As.length : Int))))) (rv_lss (a := s12.2) (b := (As.length : Int)) rfl rfl) (w_end (q_then ?_))))))))
    refine cd_cond (decide (s12.2 < (As.length : Int))) rfl (fun hb16 => ?_) (fun hb16 => ?_)
    ·replace h := bif_t hb16 h
     refine c_skip (q_then (c_seq ?_))
     obtain ⟨o17, hj, h'⟩ := bind_some h
     clear h
     refine c_cut (fun e a w => e = .normal ∧ ∃ (ρ : Nat → Value) (σ : St) (aj1 : Option Addr) (cj2 : Nat), a = fr 64 (updL ρ [(0, (Sl Au As Av)), (1, (I Bd)), (2, (I Br)), (7, (Sl a6 s4.1 c7)), (8, (I s4.2)), (9, (Sl aj1 o17 cj2)), (10, (I s12.2))]) ∧ w = σ.w ∧ Hp S0 σ0 σ [Ch.ro 0 (Sl Au As Av) As, Ch.own n0 n0 (Sl a6 s4.1 c7) s4.1, Ch.own n0 n0 (Sl aj1 o17 cj2) o17]) ?_ ?_
     ·clear h'
      rename _ = some o17 => h
      refine c_blk (c_seq (rg (sm (I s12.2) rfl (sm (I s4.2) rfl (st (v := (B (s12.2 != s4.2))) (rv_neq (a := s12.2) (b := s4.2) rfl rfl) (w_end (q_then ?_)))))))
      refine cd_cond (s12.2 != s4.2) rfl (fun hb18 => ?_) (fun hb18 => ?_)
      ·replace h := bif_t hb18 h
       revert h; refine br fun x19 hx20 h => ?_
       obtain ⟨b22, o23, hi21, -⟩ := (H.ro 0 rfl).ix hx20
       obtain ⟨_, ⟨_, _, rfl, rfl, ⟨_, _, rfl, ⟨_, rfl, hR28⟩, rfl⟩⟩, hl24, hc25⟩ := ((H.ro 0 rfl).at hx20 hi21).cells
       obtain ⟨a26, c27, rfl⟩ := hR28.isSl
       replace H := H.add (d := Ch.ro 0 (Sl a26 x19.2.1 c27) x19.2.1) hR28 (fun _ h => h)
       clear hR28
       revert h; refine br fun x29 hx30 h => ?_
       obtain ⟨b32, o33, hi31, -⟩ := (H.ro 1 rfl).ix hx30
       obtain ⟨v37, hc38, hR36⟩ := ((H.ro 1 rfl).at hx30 hi31).snd.fst.slice
       obtain ⟨a34, c35, rfl⟩ := hR36.isSl
       replace H := H.add (d := Ch.ro 0 (Sl a34 x29.2.1 c35) x29.2.1) hR36 (fun _ h => h)
       clear hR36
       revert h; refine br fun r39 hx40 h => ?_
       have hc41 := c_spec_hit (Ba := a26) (Bb := c27) (Bf := a34) (Bg := c35) hx40
       have Hs := H
       refine rg2 (σ := σ13) (Nm := Unit) 13 [11] [[false], [true]] [[(0, 0), (1, 1)], [(0, 0)], [(0, 0)], [(0, 0)], [(0, 0)], [(0, 0)], [(0, 0)], [(0, 0)], [(0, 0)], [(0, 0)], [(0, 0)], [(0, 1)], [(0, 0), (1, 1)]] 1 [fun _ => fun σm => Hp S0 σ0 σm [Ch.ro 0 (Sl a34 x29.2.1 c35) x29.2.1, Ch.ro 0 (Sl a26 x19.2.1 c27) x19.2.1, Ch.ro 0 (Sl Au As Av) As, Ch.own n0 n0 (Sl a6 s4.1 c7) s4.1, Ch.own n0 n0 (Sl a14 s12.1 c15) s12.1] ∧ Md (cov []) σ13 σm, fun _ => fun σm => Hp S0 σ0 σm [Ch.ro 0 (Sl a34 x29.2.1 c35) x29.2.1, Ch.ro 0 (Sl a26 x19.2.1 c27) x19.2.1, Ch.ro 0 (Sl Au As Av) As, Ch.own n0 n0 (Sl a6 s4.1 c7) s4.1, Ch.own n0 n0 (Sl a14 s12.1 c15) s12.1] ∧ Md (cov []) σ13 σm] [fun _ => (Sl a14 s12.1 c15), fun _ => (Sl Au As Av), fun _ => (I s12.2), fun _ => (pt b22 o23), fun _ => (.agg #[(I x19.1), (Sl a26 x19.2.1 c27), (I x19.2.2)]), fun _ => (I Bd), fun _ => (Sl Au As Av), fun _ => (I s4.2), fun _ => (pt b32 o33), fun _ => (pt b32 (o33 + 1)), fun _ => (Sl a34 x29.2.1 c35), fun _ => (.agg #[(I r39.1), (I r39.2)]), fun _ => (I Br)] () (by kernel_rfl) (by kernel_rfl) ?_ ?_ ?_
       ·intro σm m0
        exact ⟨H.grow (m0.mono fun _ h => h.elim), m0⟩
       ·refine ac rfl (by
          intro k _nm ρ σm hJ hoff hdep
          have e9 := look_off (N := 64) (hoff 9 rfl) rfl
          exact dp_v (v := (Sl a14 s12.1 c15)) wn (rv_move e9) rfl hJ) ?_
        refine ac rfl (by
          intro k _nm ρ σm hJ hoff hdep
          have e0 := look_off (N := 64) (hoff 0 rfl) rfl
          exact dp_v (v := (Sl Au As Av)) wn (rv_move e0) rfl hJ) ?_
        refine ac rfl (by
          intro k _nm ρ σm hJ hoff hdep
          have e10 := look_off (N := 64) (hoff 10 rfl) rfl
          exact dp_v (v := (I s12.2)) wn (rv_move e10) rfl hJ) ?_
        refine ac rfl (by
          intro k _nm ρ σm hJ hoff hdep
          have e31 := hdep 1 rfl rfl 31 rfl
          have e32 := hdep 2 rfl rfl 32 rfl
          exact dp_v (v := (pt b22 o23)) wn (rv_ix Tryz.underlying33 ti62 e31 e32 hi21) rfl hJ) ?_
        refine all_cons (by
          refine ⟨?_, ?_⟩
          ·intro _nm ρ σm hJ hoff hdep
           have e33 := hdep 3 rfl rfl 33 rfl
           obtain ⟨H, m⟩ := id hJ
           replace hc25 := fun j hj => (Hs.ro 2 rfl).hmd hx20 hi21 (k := j) (Nat.lt_of_lt_of_eq hj hl24) (hc25 j hj) m
           exact dp_v (v := (.agg #[(I x19.1), (Sl a26 x19.2.1 c27), (I x19.2.2)])) wn (rv_load Tryz.underlying62 rfl ti62 e33 hl24 hc25) rfl hJ
          trivial) ?_
        refine ac rfl (by
          intro k _nm ρ σm hJ hoff hdep
          have e1 := look_off (N := 64) (hoff 1 rfl) rfl
          exact dp_v (v := (I Bd)) wn (rv_move e1) rfl hJ) ?_
        refine ac rfl (by
          intro k _nm ρ σm hJ hoff hdep
          have e0 := look_off (N := 64) (hoff 0 rfl) rfl
          exact dp_v (v := (Sl Au As Av)) wn (rv_move e0) rfl hJ) ?_
        refine ac rfl (by
          intro k _nm ρ σm hJ hoff hdep
          have e8 := look_off (N := 64) (hoff 8 rfl) rfl
          exact dp_v (v := (I s4.2)) wn (rv_move e8) rfl hJ) ?_
        refine ac rfl (by
          intro k _nm ρ σm hJ hoff hdep
          have e36 := hdep 6 rfl rfl 36 rfl
          have e37 := hdep 7 rfl rfl 37 rfl
          exact dp_v (v := (pt b32 o33)) wn (rv_ix Tryz.underlying33 ti62 e36 e37 hi31) rfl hJ) ?_
        refine ac rfl (by
          intro k _nm ρ σm hJ hoff hdep
          have e38 := hdep 8 rfl rfl 38 rfl
          exact dp_v (v := (pt b32 (o33 + 1))) wn (rv_fieldAddr (off := 1) (ft := 26) Tryz.underlying62 rfl ti26 rfl e38) rfl hJ) ?_
        refine all_cons (by
          refine ⟨?_, ?_⟩
          ·intro _nm ρ σm hJ hoff hdep
           have e39 := hdep 9 rfl rfl 39 rfl
           obtain ⟨H, m⟩ := id hJ
           replace hc38 := (Hs.ro 2 rfl).hmd hx30 hi31 (k := 1) (by decide) hc38 m
           exact dp_v (v := (Sl a34 x29.2.1 c35)) wn (rv_load1 Tryz.underlying26 rfl e39 hc38) rfl hJ
          trivial) ?_
        refine all_cons (by
          refine ⟨?_, ?_⟩
          ·intro _nm ρ σm hJ hoff hdep
           have e34 : look 64 ρ 34 = (.agg #[(I x19.1), (Sl a26 x19.2.1 c27), (I x19.2.2)]) := hdep 4 rfl rfl 34 rfl
           have e35 : look 64 ρ 35 = (I Bd) := hdep 5 rfl rfl 35 rfl
           have e40 : look 64 ρ 40 = (Sl a34 x29.2.1 c35) := hdep 10 rfl rfl 40 rfl
           obtain ⟨H, m⟩ := id hJ
           refine dp_cx wn (cx_call hc41 (ent_f hc41.fn (by show [look 64 ρ 34, look 64 ρ 35, look 64 ρ 40] = _; rw [e34, e35, e40])) hn0 (H.sel' [1, 0, 0, 1, 2, 3, 4] rfl rfl : Hp S0 σ0 _ ([_, _] ++ _))) ?_
           rintro _ σq ⟨_, ⟨rfl, rfl⟩, H2, m2⟩
           exact ⟨_, (), rfl, rfl, ⟨H2.sel' [0, 1, 2, 3, 4] rfl rfl, m.comp0 (m2.mono (fun i h => by simp [cov, Ch.ro] at h))⟩, stab [0, 1, 2, 3, 4, 5, 6, 7, 8, 9, 10, 12] (by kernel_rfl) ⟨rfl, rfl, rfl, rfl, rfl, rfl, rfl, rfl, rfl, rfl, rfl, rfl, trivial⟩⟩
          trivial) ?_
        refine ac rfl (by
          intro k _nm ρ σm hJ hoff hdep
          have e2 := look_off (N := 64) (hoff 2 rfl) rfl
          exact dp_v (v := (I Br)) wn (rv_move e2) rfl hJ) ?_
        exact all_nil
       ·intro _nm ρ σ42 hJ hoff hrel
        have e0 := look_off (N := 64) (hoff 0 rfl) rfl
        have e1 := look_off (N := 64) (hoff 1 rfl) rfl
        have e2 := look_off (N := 64) (hoff 2 rfl) rfl
        have e7 := look_off (N := 64) (hoff 7 rfl) rfl
        have e8 := look_off (N := 64) (hoff 8 rfl) rfl
        have e10 := look_off (N := 64) (hoff 10 rfl) rfl
        have e30 := hrel 0 rfl 30 rfl
        have e41 := hrel 11 rfl 41 rfl
        have e42 := hrel 12 rfl 42 rfl
        obtain ⟨H, -⟩ := (show Hp S0 σ0 σ42 [Ch.ro 0 (Sl a34 x29.2.1 c35) x29.2.1, Ch.ro 0 (Sl a26 x19.2.1 c27) x19.2.1, Ch.ro 0 (Sl Au As Av) As, Ch.own n0 n0 (Sl a6 s4.1 c7) s4.1, Ch.own n0 n0 (Sl a14 s12.1 c15) s12.1] ∧ Md (cov []) σ13 σ42 from hJ)
        clear hJ Hs
        rw [fr_lookL (L := [(0, (Sl Au As Av)), (1, (I Bd)), (2, (I Br)), (7, (Sl a6 s4.1 c7)), (8, (I s4.2)), (10, (I s12.2)), (30, (Sl a14 s12.1 c15)), (41, (.agg #[(I r39.1), (I r39.2)])), (42, (I Br))]) ⟨e0, e1, e2, e7, e8, e10, e30, e41, e42, trivial⟩]
        clear hoff hrel e0 e1 e2 e7 e8 e10 e30 e41 e42
        obtain ⟨σ43, hw44, H, -⟩ := H.pub 4 rfl (Nat.le_refl _)
        rw [← hw44]; clear hw44
        replace H := H.roLow 0 0 rfl (Nat.zero_le _)
        revert h; refine br fun r45 hx46 h => ?_
        have hc47 := c_spec_addHit (Au := a14) (Av := c15) hx46
        refine st_call (cx_call hc47 (ent_f hc47.fn rfl) hn0 (H.sel' [0, 0, 1, 2, 3, 4, 5] rfl rfl : Hp S0 σ0 _ ([_] ++ _))) wn ?_
        rintro _ σ50 ⟨_, ⟨a48, c49, rfl, rfl⟩, H, -⟩
        replace H : Hp _ _ _ [_, _, _, _, _, _, _] := H
        refine sa (Sl a48 r45 c49) rfl (w_end (q_blk ?_))
        obtain rfl := sj h
        exact ⟨rfl, _, σ50, a48, c49, fr_join ⟨rfl, rfl, rfl, rfl, rfl, rfl, rfl, trivial⟩, rfl, H.sel' [5, 6, 0] rfl rfl⟩
      ·replace h := bif_f hb18 h
       refine c_skip (q_blk ?_)
       obtain rfl := sj h
       exact ⟨rfl, _, σ13, a14, c15, fr_join ⟨rfl, rfl, rfl, rfl, rfl, rfl, rfl, trivial⟩, rfl, H.sel' [0, 1, 2] rfl rfl⟩
     ·clear hj
      have h := h'
      clear h' H
      rintro e a w ⟨rfl, ρ, σ51, a52, c53, rfl, rfl, H⟩
      refine q_then (rg (sm (I s12.2) rfl (st (v := (I (w64 (s12.2 + 1)))) (rv_add (a := s12.2) (b := 1) rfl rfl) (sa (I (w64 (s12.2 + 1))) rfl (w_end (q_then ?_))))))
      obtain rfl := sj h
      exact ⟨_, rfl, _, σ51, a52, c53, fr_join ⟨rfl, rfl, rfl, rfl, rfl, rfl, rfl, trivial⟩, rfl, H.sel' [0, 1, 2] rfl rfl⟩
    ·replace h := bif_f hb16 h
     refine c_exit (q_then_x (q_then_x (q_blk_hit ?_)))
     obtain rfl := sj h
     obtain rfl := hres _ rfl
     exact ⟨rfl, _, σ13, a14, c15, fr_join ⟨rfl, rfl, rfl, rfl, rfl, rfl, trivial⟩, rfl, H.sel' [0, 1, 2] rfl rfl⟩
   ·clear hj
    have h := h'
    clear h' H
    rintro e a w ⟨rfl, ρ, σ54, a55, c56, rfl, rfl, H⟩
    refine q_then (c_seq (rg ?_))
    refine st_ex (ex_buildSlice (el := n0) (xs := ([] : List Int)) (ps := []) (cs := []) H hn0 Tryz.underlying26 ti3 rfl rfl (by kernel_rfl) (.nil) rfl) wn ?_
    rintro _ σ58 ⟨b57, rfl, H, -⟩
    refine sa (Sl (some ⟨b57, 0, none⟩) ([] : List Int) 0) rfl (w_end (q_then (c_seq (c_seq (rg (sa (I 0) rfl (w_end (q_then ?_))))))))
    obtain ⟨o59, hj, h'⟩ := bind_some h
    clear h
    refine c_cut (fun e a w => e = .normal ∧ ∃ (ρ : Nat → Value) (σ : St) (aj1 : Option Addr) (cj2 : Nat), a = fr 64 (updL ρ [(0, (Sl Au As Av)), (1, (I Bd)), (2, (I Br)), (7, (Sl a6 s4.1 c7)), (8, (I s4.2)), (11, (Sl aj1 o59 cj2))]) ∧ w = σ.w ∧ Hp S0 σ0 σ [Ch.ro 0 (Sl Au As Av) As, Ch.own n0 n0 (Sl a6 s4.1 c7) s4.1, Ch.own n0 n0 (Sl aj1 o59 cj2) o59]) ?_ ?_
    ·clear h'
     rename _ = some o59 => h
     refine c_blk (wp_loopM _ h (fun s60 a w => ∃ (ρ : Nat → Value) (σ : St) (aj1 : Option Addr) (cj2 : Nat), a = fr 64 (updL ρ [(0, (Sl Au As Av)), (1, (I Bd)), (2, (I Br)), (7, (Sl a6 s4.1 c7)), (8, (I s4.2)), (9, (Sl a55 o11 c56)), (11, (Sl aj1 s60.1 cj2)), (12, (I s60.2))]) ∧ w = σ.w ∧ Hp S0 σ0 σ [Ch.ro 0 (Sl Au As Av) As, Ch.own n0 n0 (Sl a6 s4.1 c7) s4.1, Ch.own n0 n0 (Sl a55 o11 c56) o11, Ch.own n0 n0 (Sl aj1 s60.1 cj2) s60.1]) ⟨_, σ58, (some ⟨b57, 0, none⟩), 0, fr_join ⟨rfl, rfl, rfl, rfl, rfl, rfl, rfl, rfl, trivial⟩, rfl, H.sel' [1, 2, 3, 0] rfl rfl⟩ ?_)
     clear h H
     rintro s60 a w o ⟨ρ, σ61, a62, c63, rfl, rfl, H⟩ h hres
     refine c_seq (c_seq (rg (sm (I s60.2) rfl (sm (Sl a55 o11 c56) rfl (st (v := (I (o11.length : Int))) (rv_len Tryz.underlying29 rfl) (st (v := (B (decide (s60.2 < (o11.length : Int))))) (rv_lss (a := s60.2) (b := (o11.length : Int)) rfl rfl) (w_end (q_then ?_))))))))
     refine cd_cond (decide (s60.2 < (o11.length : Int))) rfl (fun hb64 => ?_) (fun hb64 => ?_)
     ·replace h := bif_t hb64 h
      refine c_skip (q_then (c_seq (c_blk (rg (sm (Sl a62 s60.1 c63) rfl (sm (Sl a55 o11 c56) rfl (sm (I s60.2) rfl ?_)))))))
      revert h; refine br fun x65 hx66 h => ?_
      obtain ⟨b68, o69, hi67, -⟩ := (H.own 2 rfl).ix hx66
      refine st (v := (pt b68 o69)) (rv_ix Tryz.underlying29 ti67 rfl rfl hi67) (st (v := (pt b68 (o69 + 0))) (rv_fieldAddr (off := 0) (ft := 3) Tryz.underlying67 rfl ti3 rfl rfl) ?_)
      have hc70 := ((H.own 2 rfl).at hx66 hi67).fst.int
      refine st (v := (I x65.1)) (rv_load1 Tryz.underlying3 rfl rfl hc70) ?_
      refine st_ex (ex_buildSlice (el := n0) (xs := ([x65.1] : List Int)) (ps := [(0, (I x65.1))]) (cs := [(I x65.1)]) H hn0 Tryz.underlying26 ti3 rfl rfl (by kernel_rfl) (.cons (c := [(I x65.1)]) rfl (.nil)) rfl) wn ?_
      rintro _ σ72 ⟨b71, rfl, H, -⟩
      revert h; refine br fun xs73 hx74 h => ?_
      refine st_ex (ex_append H (i := 4) rfl Tryz.underlying26 Tryz.underlying26 ti3 rfl rfl (by decide) (H.own 0 rfl).rd hx74 hn0 rfl rfl) wn ?_
      rintro _ σ77 ⟨a75, c76, rfl, H, -⟩
      refine sa (Sl a75 xs73 c76) rfl (w_end (q_blk (q_then (rg (sm (I s60.2) rfl (st (v := (I (w64 (s60.2 + 1)))) (rv_add (a := s60.2) (b := 1) rfl rfl) (sa (I (w64 (s60.2 + 1))) rfl (w_end (q_then ?_)))))))))
      obtain rfl := sj h
      exact ⟨_, rfl, _, σ77, a75, c76, fr_join ⟨rfl, rfl, rfl, rfl, rfl, rfl, rfl, rfl, trivial⟩, rfl, H.sel' [2, 3, 4, 0] rfl rfl⟩
     ·replace h := bif_f hb64 h
      refine c_exit (q_then_x (q_then_x (q_blk_hit ?_)))
      obtain rfl := sj h
      obtain rfl := hres _ rfl
      exact ⟨rfl, _, σ61, a62, c63, fr_join ⟨rfl, rfl, rfl, rfl, rfl, rfl, trivial⟩, rfl, H.sel' [0, 1, 3] rfl rfl⟩
    ·clear hj
     have h := h'
     clear h' H
     rintro e a w ⟨rfl, ρ, σ78, a79, c80, rfl, rfl, H⟩
     refine q_then (rg (sm (Sl a6 s4.1 c7) rfl (sm (Sl a79 o59 c80) rfl ?_)))
     obtain ⟨σ81, hw82, H, -⟩ := H.pub 2 rfl (Nat.le_refl _)
     rw [← hw82]; clear hw82
     refine st_ex (ex_buildSlice (el := n0) (xs := ([o59] : List (List Int))) (ps := [(0, (Sl a79 o59 c80))]) (cs := [(Sl a79 o59 c80)]) H hn0 Tryz.underlying22 ti26 rfl rfl (by kernel_rfl) (.cons (c := [(Sl a79 o59 c80)]) ⟨_, rfl, (H.ro 0 rfl)⟩ (.nil)) rfl) wn ?_
     rintro _ σ84 ⟨b83, rfl, H, -⟩
     revert h; refine br fun xs85 hx86 h => ?_
     refine st_ex (ex_append H (i := 3) rfl Tryz.underlying22 Tryz.underlying22 ti26 rfl rfl (by decide) (H.own 0 rfl).rd hx86 hn0 rfl rfl) wn ?_
     rintro _ σ89 ⟨a87, c88, rfl, H, -⟩
     refine sa (Sl a87 xs85 c88) rfl (w_end (q_blk (q_then (rg (sm (I s4.2) rfl (st (v := (I (w64 (s4.2 + 1)))) (rv_add (a := s4.2) (b := 1) rfl rfl) (sa (I (w64 (s4.2 + 1))) rfl (w_end (q_then ?_)))))))))
     obtain rfl := sj h
     exact ⟨_, rfl, _, σ89, a87, c88, fr_join ⟨rfl, rfl, rfl, rfl, rfl, trivial⟩, rfl, H.sel' [3, 0] rfl rfl⟩
  ·replace h := bif_f hb8 h
   refine c_exit (q_then_x (q_then_x (q_blk_hit ?_)))
   obtain rfl := sj h
   obtain rfl := hres _ rfl
   exact ⟨rfl, _, σ5, a6, c7, fr_join ⟨rfl, trivial⟩, rfl, H.sel' [1] rfl rfl⟩
 ·clear hj
  have h := h'
  clear h' H
  rintro e a w ⟨rfl, ρ, σ90, a91, c92, rfl, rfl, H⟩
  refine q_then (c_seq (rg (sm (Sl a91 o3 c92) rfl (sa (Sl a91 o3 c92) rfl (w_end (q_then (c_ret ?_)))))))
  obtain rfl := sj h
  exact fin_ret (v := (Sl a91 o3 c92)) (results_ok Tryz.results65 (res_tmp (v := (Sl a91 o3 c92)) rfl res_nil) rfl) ⟨a91, c92, rfl, rfl⟩ (H.sel' [0] rfl rfl)

theorem c_spec_WalkTo {As : List (Int × (List Int) × Int)} {Bd : Int} {Br : Int} {Bs : Int} {Bt : List Int} {Au : Option Addr} {Av : Nat} {Bu : Option Addr} {Bv : Nat} {r : (List Int) × Bool} (h : M.spec_WalkTo As Bd Br Bs Bt = some r) :
    Cal2 Tryz.prog 31 [(Sl Au As Av), (I Bd), (I Br), (I Bs), (Sl Bu Bt Bv)] [Ch.ro 0 (Sl Au As Av) As, Ch.ro 0 (Sl Bu Bt Bv) Bt] (fun n0 v L => ∃ (az1 : Option Addr), ∃ (cz2 : Nat), v = (.tuple #[(Sl az1 r.1 cz2), (B r.2)]) ∧ L = [Ch.own n0 n0 (Sl az1 r.1 cz2) r.1]) := by
 refine cal2 (n := 91) Tryz.func31 rfl rfl rfl rfl ?_
 intro S0 σ0 n0 hn0 H
 unfold M.spec_WalkTo at h
 refine c_seq (rg (sa (.slice none 0 0) rfl (sa (B false) rfl (w_end (q_then (c_seq (c_seq ?_)))))))
 obtain ⟨o1, hj, h'⟩ := bind_some h
 clear h
 refine c_cut (fun e a w => e = .normal ∧ ∃ (ρ : Nat → Value) (σ : St), a = fr 91 (updL ρ [(0, (Sl Au As Av)), (1, (I Bd)), (2, (I Br)), (3, (I Bs)), (4, (Sl Bu Bt Bv)), (34, (B o1))]) ∧ w = σ.w ∧ Hp S0 σ0 σ [Ch.ro 0 (Sl Au As Av) As, Ch.ro 0 (Sl Bu Bt Bv) Bt]) ?_ ?_
 ·clear h'
  rename _ = some o1 => h
  refine rg (sm (Sl Au As Av) rfl (sm (I Bd) rfl (sm (Sl Bu Bt Bv) rfl ?_)))
  revert h; refine br fun r2 hx3 h => ?_
  have hc4 := c_spec_validQuery (Au := Au) (Av := Av) (Bf := Bu) (Bg := Bv) hx3
  refine st_call (cx_call hc4 (ent_f hc4.fn rfl) hn0 (H.sel' [0, 1, 0, 1] rfl rfl : Hp S0 σ0 _ ([_, _] ++ _))) wn ?_
  rintro _ σ5 ⟨_, ⟨rfl, rfl⟩, H, -⟩
  replace H : Hp _ _ _ [_, _] := H
  refine st (v := (B (!r2))) (rv_not rfl) (sm (B (!r2)) rfl ?_)
  rcases Bool.eq_false_or_eq_true (!r2) with hb6 | hb6
  ·replace h := bif_t hb6 h
   refine st_skip (congrArg some hb6) (st_skip (congrArg some hb6) (st_skip (congrArg some hb6) (st (v := (B true)) (rv_pick_t (congrArg B hb6) rfl) (sm (B true) rfl (st_skip rfl (st_skip rfl (st_skip rfl (st_skip rfl (st (v := (B true)) (rv_pick_t rfl rfl) (w_end ?_))))))))))
   obtain rfl := sj h
   exact ⟨rfl, _, σ5, fr_join ⟨rfl, rfl, rfl, rfl, rfl, rfl, trivial⟩, rfl, H.sel' [0, 1] rfl rfl⟩
  ·replace h := bif_f hb6 h
   refine st_g (v := (I Br)) (congrArg some hb6) (rv_move rfl) ?_
   revert h; refine br fun r7 hx8 h => ?_
   have hc9 := c_spec_inRange hx8
   refine st_call (cx_call hc9 (ent_f hc9.fn rfl) hn0 (H.sel' [0, 1] rfl rfl : Hp S0 σ0 _ ([] ++ _))) (wanted_yes rfl (by exact (congrArg some hb6))) ?_
   rintro _ σ10 ⟨_, ⟨rfl, rfl⟩, H, -⟩
   replace H : Hp _ _ _ [_, _] := H
   refine st_g (v := (B (!r7))) (congrArg some hb6) (rv_not rfl) (st (v := (B (!r7))) (rv_pick_f (congrArg B hb6) rfl) (sm (B (!r7)) rfl ?_))
   rcases Bool.eq_false_or_eq_true (!r7) with hb11 | hb11
   ·replace h := bif_t hb11 h
    refine st_skip (congrArg some hb11) (st_skip (congrArg some hb11) (st_skip (congrArg some hb11) (st_skip (congrArg some hb11) (st (v := (B true)) (rv_pick_t (congrArg B hb11) rfl) (w_end ?_)))))
    obtain rfl := sj h
    exact ⟨rfl, _, σ10, fr_join ⟨rfl, rfl, rfl, rfl, rfl, rfl, trivial⟩, rfl, H.sel' [0, 1] rfl rfl⟩
   ·replace h := bif_f hb11 h
    refine st_g (v := (Sl Au As Av)) (congrArg some hb11) (rv_move rfl) (st_g (v := (I Bs)) (congrArg some hb11) (rv_move rfl) ?_)
    revert h; refine br fun r12 hx13 h => ?_
    have hc14 := c_spec_keyAt (Au := Au) (Av := Av) hx13
    refine st_call (cx_call hc14 (ent_f hc14.fn rfl) hn0 (H.sel' [0, 0, 1] rfl rfl : Hp S0 σ0 _ ([_] ++ _))) (wanted_yes rfl (by exact (congrArg some hb11))) ?_
    rintro _ σ15 ⟨_, ⟨rfl, rfl⟩, H, -⟩
    replace H : Hp _ _ _ [_, _] := H
    refine st_g (v := (B (decide (r12 < 0)))) (congrArg some hb11) (rv_lss (a := r12) (b := 0) rfl rfl) (st (v := (B (decide (r12 < 0)))) (rv_pick_f (congrArg B hb11) rfl) (w_end ?_))
    obtain rfl := sj h
    exact ⟨rfl, _, σ15, fr_join ⟨rfl, rfl, rfl, rfl, rfl, rfl, trivial⟩, rfl, H.sel' [0, 1] rfl rfl⟩
 ·clear hj
  have h := h'
  clear h' H
  rintro e a w ⟨rfl, ρ, σ16, rfl, rfl, H⟩
  refine q_then ?_
  refine cd_cond o1 rfl (fun hb17 => ?_) (fun hb17 => ?_)
  ·replace h := bif_t hb17 h
   refine c_seq (rg (sa (.slice none 0 0) rfl (sa (B false) rfl (w_end (q_then (c_ret (q_then_r ?_)))))))
   replace H := H.nilOwn Int n0 n0
   obtain rfl := sj h
   exact fin_ret (v := (.tuple #[(.slice none 0 0), (B false)])) (results_ok Tryz.results31 (res_tmp (v := (.slice none 0 0)) rfl (res_tmp (v := (B false)) rfl res_nil)) rfl) ⟨none, 0, rfl, rfl⟩ (H.sel' [0] rfl rfl)
  ·replace h := bif_f hb17 h
   refine c_skip (q_then (c_seq (rg (sm (Sl Au As Av) rfl (sm (I Bd) rfl (sm (I Br) rfl ?_))))))
   revert h; refine br fun r18 hx19 h => ?_
   have hc20 := c_spec_links (Au := Au) (Av := Av) hx19
   refine st_call (cx_call hc20 (ent_f hc20.fn rfl) hn0 (H.sel' [0, 0, 1] rfl rfl : Hp S0 σ0 _ ([_] ++ _))) wn ?_
   rintro _ σ23 ⟨_, ⟨a21, c22, rfl, rfl⟩, H, -⟩
   replace H : Hp _ _ _ [_, _, _] := H
   refine sa (Sl a21 r18 c22) rfl (w_end (q_then (c_seq (rg (sm (Sl Au As Av) rfl (sm (Sl Au As Av) rfl (sm (I Bs) rfl ?_)))))))
   revert h; refine br fun r24 hx25 h => ?_
   have hc26 := c_spec_keyAt (Au := Au) (Av := Av) hx25
   refine st_call (cx_call hc26 (ent_f hc26.fn rfl) hn0 (H.sel' [1, 0, 1, 2] rfl rfl : Hp S0 σ0 _ ([_] ++ _))) wn ?_
   rintro _ σ27 ⟨_, ⟨rfl, rfl⟩, H, -⟩
   replace H : Hp _ _ _ [_, _, _] := H
   revert h; refine br fun x28 hx29 h => ?_
   obtain ⟨b31, o32, hi30, -⟩ := (H.ro 1 rfl).ix hx29
   refine st (v := (pt b31 o32)) (rv_ix Tryz.underlying33 ti62 rfl rfl hi30) ?_
   obtain ⟨_, ⟨_, _, rfl, rfl, ⟨_, _, rfl, ⟨_, rfl, hR37⟩, rfl⟩⟩, hl33, hc34⟩ := ((H.ro 1 rfl).at hx29 hi30).cells
   obtain ⟨a35, c36, rfl⟩ := hR37.isSl
   replace H := H.add (d := Ch.ro 0 (Sl a35 x28.2.1 c36) x28.2.1) hR37 (fun _ h => h)
   clear hR37
   refine st (v := (.agg #[(I x28.1), (Sl a35 x28.2.1 c36), (I x28.2.2)])) (rv_load Tryz.underlying62 rfl ti62 rfl hl33 hc34) (sm (I Bd) rfl (sm (Sl Bu Bt Bv) rfl ?_))
   revert h; refine br fun r38 hx39 h => ?_
   have hc40 := c_spec_hit (Ba := a35) (Bb := c36) (Bf := Bu) (Bg := Bv) hx39
   refine st_call (cx_call hc40 (ent_f hc40.fn rfl) hn0 (H.sel' [0, 3, 0, 1, 2, 3] rfl rfl : Hp S0 σ0 _ ([_, _] ++ _))) wn ?_
   rintro _ σ41 ⟨_, ⟨rfl, rfl⟩, H, -⟩
   replace H : Hp _ _ _ [_, _, _, _] := H
   refine st_ex (ex_alloc (cs := [(I 0), (I 0)]) H hn0 ti67 rfl) wn ?_
   rintro _ σ43 ⟨b42, rfl, H, -⟩
   refine st_exS (ex_store_box (k := 0) (cs := [(I 0), (I 0)]) (vs := [(I r38.1), (I r38.2)]) (cs' := [(I r38.1), (I r38.2)]) H (i := 0) rfl ti67 rfl rfl rfl rfl rfl (Nat.le_of_ble_eq_true rfl) (by simp [plain]) rfl) wn ?_
   rintro σ44 ⟨H, -⟩
   refine w_end (q_then (c_seq (rg (st (v := (pt b42 0)) (rv_fieldAddr (off := 0) (ft := 3) Tryz.underlying67 rfl ti3 rfl rfl) ?_))))
   have hc45 := H.cell (u := (I r38.1)) (o' := 0) 0 0 rfl rfl rfl
   refine st (v := (I r38.1)) (rv_load1 Tryz.underlying3 rfl rfl hc45) ?_
   refine st_ex (ex_buildSlice (el := n0) (xs := ([r38.1] : List Int)) (ps := [(0, (I r38.1))]) (cs := [(I r38.1)]) H hn0 Tryz.underlying26 ti3 rfl rfl (by kernel_rfl) (.cons (c := [(I r38.1)]) rfl (.nil)) rfl) wn ?_
   rintro _ σ47 ⟨b46, rfl, H, -⟩
   refine sa (Sl (some ⟨b46, 0, none⟩) ([r38.1] : List Int) 1) rfl (w_end (q_then ?_))
   obtain ⟨o48, hj, h'⟩ := bind_some h
   clear h
   refine c_cut (fun e a w => e = .ret ∧ ∃ (ρ : Nat → Value) (σ : St) (aj1 : Option Addr) (cj2 : Nat), a = fr 91 (updL ρ [(10, (Sl aj1 o48.1 cj2)), (11, (B o48.2))]) ∧ w = σ.w ∧ Hp S0 σ0 σ [Ch.own n0 n0 (Sl aj1 o48.1 cj2) o48.1]) ?_ ?_
   ·clear h'
    rename _ = some o48 => h
    refine c_blk (wp_loopM _ h (fun s49 a w => ∃ (ρ : Nat → Value) (σ : St) (aj1 : Option Addr) (cj2 : Nat), a = fr 91 (updL ρ [(0, (Sl Au As Av)), (1, (I Bd)), (4, (Sl Bu Bt Bv)), (12, (Sl a21 r18 c22)), (13, (pt b42 0)), (14, (Sl aj1 s49.2 cj2))]) ∧ w = σ.w ∧ Hp S0 σ0 σ [Ch.bx n0 b42 0 [(I s49.1.1), (I s49.1.2)] [] [], Ch.ro 0 (Sl Au As Av) As, Ch.ro 0 (Sl Bu Bt Bv) Bt, Ch.own n0 n0 (Sl a21 r18 c22) r18, Ch.own n0 n0 (Sl aj1 s49.2 cj2) s49.2]) ⟨_, σ47, (some ⟨b46, 0, none⟩), 1, fr_join ⟨rfl, rfl, rfl, rfl, rfl, rfl, trivial⟩, rfl, H.sel' [1, 4, 5, 3, 0] rfl rfl⟩ ?_)
    clear h H
    rintro s49 a w o ⟨ρ, σ50, a51, c52, rfl, rfl, H⟩ h hres
    refine c_blk (c_seq (rg ?_))
    have hc53 := H.cells 0 rfl
    refine st (v := (.agg #[(I s49.1.1), (I s49.1.2)])) (rv_load (cs := [(I s49.1.1), (I s49.1.2)]) Tryz.underlying67 rfl ti67 rfl rfl hc53) (st_ex (ex_alloc (cs := [(I 0), (I 0)]) H hn0 ti67 rfl) wn ?_)
    rintro _ σ55 ⟨b54, rfl, H, -⟩
    refine st_exS (ex_store_box (k := 0) (cs := [(I 0), (I 0)]) (vs := [(I s49.1.1), (I s49.1.2)]) (cs' := [(I s49.1.1), (I s49.1.2)]) H (i := 0) rfl ti67 rfl rfl rfl rfl rfl (Nat.le_of_ble_eq_true rfl) (by simp [plain]) rfl) wn ?_
    rintro σ56 ⟨H, -⟩
    refine w_end (q_then (c_seq (rg (sm (Sl a21 r18 c22) rfl (sm (Sl Au As Av) rfl (st (v := (pt b42 0)) (rv_fieldAddr (off := 0) (ft := 3) Tryz.underlying67 rfl ti3 rfl rfl) ?_))))))
    have hc57 := H.cell (u := (I s49.1.1)) (o' := 0) 1 0 rfl rfl rfl
    refine st (v := (I s49.1.1)) (rv_load1 Tryz.underlying3 rfl rfl hc57) ?_
    revert h; refine br fun r58 hx59 h => ?_
    have hc60 := c_spec_keyAt (Au := Au) (Av := Av) hx59
    refine st_call (cx_call hc60 (ent_f hc60.fn rfl) hn0 (H.sel' [2, 0, 1, 2, 3, 4, 5] rfl rfl : Hp S0 σ0 _ ([_] ++ _))) wn ?_
    rintro _ σ61 ⟨_, ⟨rfl, rfl⟩, H, -⟩
    replace H : Hp _ _ _ [_, _, _, _, _, _] := H
    revert h; refine br fun x62 hx63 h => ?_
    obtain ⟨b65, o66, hi64, -⟩ := (H.own 4 rfl).ix hx63
    refine st (v := (pt b65 o66)) (rv_ix Tryz.underlying22 ti26 rfl rfl hi64) ?_
    obtain ⟨v70, hc71, hR69⟩ := ((H.own 4 rfl).at hx63 hi64).slice
    obtain ⟨a67, c68, rfl⟩ := hR69.isSl
    replace H := H.add (d := Ch.ro n0 (Sl a67 x62 c68) x62) hR69 (fun _ h => h)
    clear hR69
    refine st (v := (Sl a67 x62 c68)) (rv_load1 Tryz.underlying26 rfl rfl hc71) (sa (Sl a67 x62 c68) rfl (w_end (q_then (c_seq (c_seq (rg (sa (I 0) rfl (w_end (q_then ?_)))))))))
    obtain ⟨o72, hj, h'⟩ := bind_some h
    clear h
    refine c_cut (fun e a w => e = .normal ∧ ∃ (ρ : Nat → Value) (σ : St), a = fr 91 (updL ρ [(0, (Sl Au As Av)), (1, (I Bd)), (4, (Sl Bu Bt Bv)), (12, (Sl a21 r18 c22)), (13, (pt b42 0)), (14, (Sl a51 s49.2 c52)), (15, (pt b54 0))]) ∧ w = σ.w ∧ Hp S0 σ0 σ [Ch.bx n0 b54 0 [(I o72.1), (I o72.2)] [] [], Ch.ro 0 (Sl Au As Av) As, Ch.ro 0 (Sl Bu Bt Bv) Bt, Ch.own n0 n0 (Sl a21 r18 c22) r18, Ch.bx n0 b42 0 [(I s49.1.1), (I s49.1.2)] [] [], Ch.own n0 n0 (Sl a51 s49.2 c52) s49.2]) ?_ ?_
    ·clear h'
     rename _ = some o72 => h
     refine c_blk (wp_loopM _ h (fun s73 a w => ∃ (ρ : Nat → Value) (σ : St), a = fr 91 (updL ρ [(0, (Sl Au As Av)), (1, (I Bd)), (4, (Sl Bu Bt Bv)), (12, (Sl a21 r18 c22)), (13, (pt b42 0)), (14, (Sl a51 s49.2 c52)), (15, (pt b54 0)), (16, (Sl a67 x62 c68)), (17, (I s73.2))]) ∧ w = σ.w ∧ Hp S0 σ0 σ [Ch.bx n0 b54 0 [(I s73.1.1), (I s73.1.2)] [] [], Ch.ro 0 (Sl Au As Av) As, Ch.ro 0 (Sl Bu Bt Bv) Bt, Ch.own n0 n0 (Sl a21 r18 c22) r18, Ch.bx n0 b42 0 [(I s49.1.1), (I s49.1.2)] [] [], Ch.own n0 n0 (Sl a51 s49.2 c52) s49.2, Ch.ro n0 (Sl a67 x62 c68) x62]) ⟨_, σ61, fr_join ⟨rfl, rfl, rfl, rfl, rfl, rfl, rfl, rfl, rfl, trivial⟩, rfl, H.sel' [1, 3, 4, 5, 2, 6, 0] rfl rfl⟩ ?_)
     clear h H
     rintro s73 a w o ⟨ρ, σ74, rfl, rfl, H⟩ h hres
     refine c_seq (c_seq (rg (sm (I s73.2) rfl (sm (Sl a67 x62 c68) rfl (st (v := (I (x62.length : Int))) (rv_len Tryz.underlying26 rfl) (st (v := (B (decide (s73.2 < (x62.length : Int))))) (rv_lss (a := s73.2) (b := (x62.length : Int)) rfl rfl) (w_end (q_then ?_))))))))
     refine cd_cond (decide (s73.2 < (x62.length : Int))) rfl (fun hb75 => ?_) (fun hb75 => ?_)
     ·replace h := bif_t hb75 h
      refine c_skip (q_then (c_seq ?_))
      obtain ⟨o76, hj, h'⟩ := bind_some h
      clear h
      refine c_cut (fun e a w => e = .normal ∧ ∃ (ρ : Nat → Value) (σ : St), a = fr 91 (updL ρ [(0, (Sl Au As Av)), (1, (I Bd)), (4, (Sl Bu Bt Bv)), (12, (Sl a21 r18 c22)), (13, (pt b42 0)), (14, (Sl a51 s49.2 c52)), (15, (pt b54 0)), (16, (Sl a67 x62 c68)), (17, (I s73.2))]) ∧ w = σ.w ∧ Hp S0 σ0 σ [Ch.bx n0 b54 0 [(I o76.1), (I o76.2)] [] [], Ch.ro 0 (Sl Au As Av) As, Ch.ro 0 (Sl Bu Bt Bv) Bt, Ch.own n0 n0 (Sl a21 r18 c22) r18, Ch.bx n0 b42 0 [(I s49.1.1), (I s49.1.2)] [] [], Ch.own n0 n0 (Sl a51 s49.2 c52) s49.2, Ch.ro n0 (Sl a67 x62 c68) x62]) ?_ ?_
      ·clear h'
       rename _ = some o76 => h
       refine c_blk (c_seq (rg (sm (Sl Au As Av) rfl (sm (Sl Au As Av) rfl (sm (Sl a67 x62 c68) rfl (sm (I s73.2) rfl ?_))))))
       revert h; refine br fun x77 hx78 h => ?_
       obtain ⟨b80, o81, hi79, -⟩ := (H.ro 6 rfl).ix hx78
       refine st (v := (pt b80 o81)) (rv_ix Tryz.underlying26 ti3 rfl rfl hi79) ?_
       have hc82 := ((H.ro 6 rfl).at hx78 hi79).int
       refine st (v := (I x77)) (rv_load1 Tryz.underlying3 rfl rfl hc82) ?_
       revert h; refine br fun r83 hx84 h => ?_
       have hc85 := c_spec_keyAt (Au := Au) (Av := Av) hx84
       refine st_call (cx_call hc85 (ent_f hc85.fn rfl) hn0 (H.sel' [1, 0, 1, 2, 3, 4, 5, 6] rfl rfl : Hp S0 σ0 _ ([_] ++ _))) wn ?_
       rintro _ σ86 ⟨_, ⟨rfl, rfl⟩, H, -⟩
       replace H : Hp _ _ _ [_, _, _, _, _, _, _] := H
       revert h; refine br fun x87 hx88 h => ?_
       obtain ⟨b90, o91, hi89, -⟩ := (H.ro 1 rfl).ix hx88
       refine st (v := (pt b90 o91)) (rv_ix Tryz.underlying33 ti62 rfl rfl hi89) ?_
       obtain ⟨_, ⟨_, _, rfl, rfl, ⟨_, _, rfl, ⟨_, rfl, hR96⟩, rfl⟩⟩, hl92, hc93⟩ := ((H.ro 1 rfl).at hx88 hi89).cells
       obtain ⟨a94, c95, rfl⟩ := hR96.isSl
       replace H := H.add (d := Ch.ro 0 (Sl a94 x87.2.1 c95) x87.2.1) hR96 (fun _ h => h)
       clear hR96
       refine st (v := (.agg #[(I x87.1), (Sl a94 x87.2.1 c95), (I x87.2.2)])) (rv_load Tryz.underlying62 rfl ti62 rfl hl92 hc93) (sm (I Bd) rfl (sm (Sl Bu Bt Bv) rfl ?_))
       revert h; refine br fun r97 hx98 h => ?_
       have hc99 := c_spec_hit (Ba := a94) (Bb := c95) (Bf := Bu) (Bg := Bv) hx98
       refine st_call (cx_call hc99 (ent_f hc99.fn rfl) hn0 (H.sel' [0, 3, 0, 1, 2, 3, 4, 5, 6, 7] rfl rfl : Hp S0 σ0 _ ([_, _] ++ _))) wn ?_
       rintro _ σ100 ⟨_, ⟨rfl, rfl⟩, H, -⟩
       replace H : Hp _ _ _ [_, _, _, _, _, _, _, _] := H
       replace H : Hp S0 σ0 σ100 [Ch.bx n0 b54 0 [(I s73.1.1), (I s73.1.2)] [] [], Ch.ro 0 (Sl Au As Av) As, Ch.ro 0 (Sl Bu Bt Bv) Bt, Ch.own n0 n0 (Sl a21 r18 c22) r18, Ch.bx n0 b42 0 [(I s49.1.1), (I s49.1.2)] [] [], Ch.own n0 n0 (Sl a51 s49.2 c52) s49.2, Ch.ro n0 (Sl a67 x62 c68) x62] := H.sel' [1, 2, 3, 4, 5, 6, 7] rfl rfl
       refine st_ex (ex_alloc (cs := [(I 0), (I 0)]) H hn0 ti67 rfl) wn ?_
       rintro _ σ102 ⟨b101, rfl, H, -⟩
       refine st_exS (ex_store_box (k := 0) (cs := [(I 0), (I 0)]) (vs := [(I r97.1), (I r97.2)]) (cs' := [(I r97.1), (I r97.2)]) H (i := 0) rfl ti67 rfl rfl rfl rfl rfl (Nat.le_of_ble_eq_true rfl) (by simp [plain]) rfl) wn ?_
       rintro σ103 ⟨H, -⟩
       refine w_end (q_then (c_seq (rg ?_)))
       have hc104 := H.cells 0 rfl
       refine st (v := (.agg #[(I r97.1), (I r97.2)])) (rv_load (cs := [(I r97.1), (I r97.2)]) Tryz.underlying67 rfl ti67 rfl rfl hc104) ?_
       have hc105 := H.cells 1 rfl
       refine st (v := (.agg #[(I s73.1.1), (I s73.1.2)])) (rv_load (cs := [(I s73.1.1), (I s73.1.2)]) Tryz.underlying67 rfl ti67 rfl rfl hc105) ?_
       revert h; refine br fun r106 hx107 h => ?_
       have hc108 := c_spec_nearer hx107
       refine st_call (cx_call hc108 (ent_f hc108.fn rfl) hn0 (H.sel' [0, 1, 2, 3, 4, 5, 6, 7] rfl rfl : Hp S0 σ0 _ ([] ++ _))) wn ?_
       rintro _ σ109 ⟨_, ⟨rfl, rfl⟩, H, -⟩
       replace H : Hp _ _ _ [_, _, _, _, _, _, _, _] := H
       refine w_end (q_then ?_)
       refine cd_cond r106 rfl (fun hb110 => ?_) (fun hb110 => ?_)
       ·replace h := bif_t hb110 h
        refine rg ?_
        have hc111 := H.cells 0 rfl
        refine st (v := (.agg #[(I r97.1), (I r97.2)])) (rv_load (cs := [(I r97.1), (I r97.2)]) Tryz.underlying67 rfl ti67 rfl rfl hc111) ?_
        refine st_exS (ex_store_box (k := 0) (cs := [(I s73.1.1), (I s73.1.2)]) (vs := [(I r97.1), (I r97.2)]) (cs' := [(I r97.1), (I r97.2)]) H (i := 1) rfl ti67 rfl rfl rfl rfl rfl (Nat.le_of_ble_eq_true rfl) (by simp [plain]) rfl) wn ?_
        rintro σ112 ⟨H, -⟩
        replace H : Hp S0 σ0 σ112 [Ch.bx n0 b54 0 [(I r97.1), (I r97.2)] [] [], Ch.ro 0 (Sl Au As Av) As, Ch.ro 0 (Sl Bu Bt Bv) Bt, Ch.own n0 n0 (Sl a21 r18 c22) r18, Ch.bx n0 b42 0 [(I s49.1.1), (I s49.1.2)] [] [], Ch.own n0 n0 (Sl a51 s49.2 c52) s49.2, Ch.ro n0 (Sl a67 x62 c68) x62] := H.sel' [0, 2, 3, 4, 5, 6, 7] rfl rfl
        refine w_end (q_blk ?_)
        obtain rfl := sj h
        exact ⟨rfl, _, σ112, fr_join ⟨rfl, rfl, rfl, rfl, rfl, rfl, rfl, rfl, rfl, trivial⟩, rfl, H.sel' [0, 1, 2, 3, 4, 5, 6] rfl rfl⟩
       ·replace h := bif_f hb110 h
        refine c_skip (q_blk ?_)
        obtain rfl := sj h
        exact ⟨rfl, _, σ109, fr_join ⟨rfl, rfl, rfl, rfl, rfl, rfl, rfl, rfl, rfl, trivial⟩, rfl, H.sel' [1, 2, 3, 4, 5, 6, 7] rfl rfl⟩
      ·clear hj
       have h := h'
       clear h' H
       rintro e a w ⟨rfl, ρ, σ113, rfl, rfl, H⟩
       refine q_then (rg (sm (I s73.2) rfl (st (v := (I (w64 (s73.2 + 1)))) (rv_add (a := s73.2) (b := 1) rfl rfl) (sa (I (w64 (s73.2 + 1))) rfl (w_end (q_then ?_))))))
       obtain rfl := sj h
       exact ⟨_, rfl, _, σ113, fr_join ⟨rfl, rfl, rfl, rfl, rfl, rfl, rfl, rfl, rfl, trivial⟩, rfl, H.sel' [0, 1, 2, 3, 4, 5, 6] rfl rfl⟩
     ·replace h := bif_f hb75 h
      refine c_exit (q_then_x (q_then_x (q_blk_hit ?_)))
      obtain rfl := sj h
      obtain rfl := hres _ rfl
      exact ⟨rfl, _, σ74, fr_join ⟨rfl, rfl, rfl, rfl, rfl, rfl, rfl, trivial⟩, rfl, H.sel' [0, 1, 2, 3, 4, 5] rfl rfl⟩
    ·clear hj
     have h := h'
     clear h' H
     rintro e a w ⟨rfl, ρ, σ114, rfl, rfl, H⟩
     refine q_then (c_seq (c_seq (rg ?_)))
     have hc115 := H.cells 0 rfl
     refine st (v := (.agg #[(I o72.1), (I o72.2)])) (rv_load (cs := [(I o72.1), (I o72.2)]) Tryz.underlying67 rfl ti67 rfl rfl hc115) ?_
     have hc116 := H.cells 4 rfl
     refine st (v := (.agg #[(I s49.1.1), (I s49.1.2)])) (rv_load (cs := [(I s49.1.1), (I s49.1.2)]) Tryz.underlying67 rfl ti67 rfl rfl hc116) ?_
     refine st (v := (B (([o72.1, o72.2] : List Int) == ([s49.1.1, s49.1.2] : List Int)))) (rv_eqlI (xs := ([o72.1, o72.2] : List Int)) (ys := ([s49.1.1, s49.1.2] : List Int)) (by kernel_rfl) (by kernel_rfl) (by kernel_rfl) rfl (by kernel_rfl) (by exact intfs67) rfl rfl) ?_
     refine w_end (q_then ?_)
     refine cd_cond (([o72.1, o72.2] : List Int) == ([s49.1.1, s49.1.2] : List Int)) rfl (fun hb117 => ?_) (fun hb117 => ?_)
     ·replace h := bif_t hb117 h
      refine c_seq (rg (sm (Sl a51 s49.2 c52) rfl (sa (Sl a51 s49.2 c52) rfl (sa (B true) rfl (w_end (q_then (c_ret (q_then_r (q_blk_r (q_then_r (q_blk_r ?_)))))))))))
      obtain rfl := sj h
      obtain rfl := hres _ rfl
      exact ⟨rfl, _, σ114, a51, c52, fr_join ⟨rfl, rfl, trivial⟩, rfl, H.sel' [5] rfl rfl⟩
     ·replace h := bif_f hb117 h
      refine c_skip (q_then (c_seq (rg ?_)))
      have hc118 := H.cells 0 rfl
      refine st (v := (.agg #[(I o72.1), (I o72.2)])) (rv_load (cs := [(I o72.1), (I o72.2)]) Tryz.underlying67 rfl ti67 rfl rfl hc118) ?_
      refine st_exS (ex_store_box (k := 0) (cs := [(I s49.1.1), (I s49.1.2)]) (vs := [(I o72.1), (I o72.2)]) (cs' := [(I o72.1), (I o72.2)]) H (i := 4) rfl ti67 rfl rfl rfl rfl rfl (Nat.le_of_ble_eq_true rfl) (by simp [plain]) rfl) wn ?_
      rintro σ119 ⟨H, -⟩
      refine w_end (q_then (rg (sm (Sl a51 s49.2 c52) rfl (st (v := (pt b42 0)) (rv_fieldAddr (off := 0) (ft := 3) Tryz.underlying67 rfl ti3 rfl rfl) ?_))))
      have hc120 := H.cell (u := (I o72.1)) (o' := 0) 0 0 rfl rfl rfl
      refine st (v := (I o72.1)) (rv_load1 Tryz.underlying3 rfl rfl hc120) ?_
      refine st_ex (ex_buildSlice (el := n0) (xs := ([o72.1] : List Int)) (ps := [(0, (I o72.1))]) (cs := [(I o72.1)]) H hn0 Tryz.underlying26 ti3 rfl rfl (by kernel_rfl) (.cons (c := [(I o72.1)]) rfl (.nil)) rfl) wn ?_
      rintro _ σ122 ⟨b121, rfl, H, -⟩
      revert h; refine br fun xs123 hx124 h => ?_
      refine st_ex (ex_append H (i := 6) rfl Tryz.underlying26 Tryz.underlying26 ti3 rfl rfl (by decide) (H.own 0 rfl).rd hx124 hn0 rfl rfl) wn ?_
      rintro _ σ127 ⟨a125, c126, rfl, H, -⟩
      refine sa (Sl a125 xs123 c126) rfl (w_end (q_blk (q_then ?_)))
      obtain rfl := sj h
      exact ⟨_, rfl, _, σ127, a125, c126, fr_join ⟨rfl, rfl, rfl, rfl, rfl, rfl, trivial⟩, rfl, H.sel' [2, 4, 5, 6, 0] rfl rfl⟩
   ·clear hj
    have h := h'
    clear h' H
    rintro e a w ⟨rfl, ρ, σ128, a129, c130, rfl, rfl, H⟩
    obtain rfl := sj h
    exact fin_ret (v := (.tuple #[(Sl a129 o48.1 c130), (B o48.2)])) (results_ok Tryz.results31 (res_tmp (v := (Sl a129 o48.1 c130)) rfl (res_tmp (v := (B o48.2)) rfl res_nil)) rfl) ⟨a129, c130, rfl, rfl⟩ (H.sel' [0] rfl rfl)

theorem c_impl_hitHeap_Push__impl_Hit {Bw : List (Int × Int)} {By : Int × Int} {Bz : Option Addr} {Ca : Nat} {Cb Cc Cd : Nat} {Ce Cf : List Value} {r : (List (Int × Int))} (h : M.impl_hitHeap_Push__impl_Hit Bw By = some r) :
    Cal2 Tryz.prog 189 [(pt Cc Cd), (.iface 67 (.agg #[(I By.1), (I By.2)]))] [Ch.bx Cb Cc Cd [(Sl Bz Bw Ca)] Ce Cf, Ch.own 0 0 (Sl Bz Bw Ca) Bw] (fun n0 v L => ∃ (az1 : Option Addr), ∃ (cz2 : Nat), v = (.tuple #[]) ∧ L = [Ch.bx Cb Cc Cd [(Sl az1 r cz2)] Ce Cf, Ch.own 0 0 (Sl az1 r cz2) r]) := by
 refine cal2 (n := 13) Tryz.func189 rfl rfl rfl rfl ?_
 intro S0 σ0 n0 hn0 H
 unfold M.impl_hitHeap_Push__impl_Hit at h
 have hc1 := H.cell (u := (Sl Bz Bw Ca)) (o' := Cd) 0 0 rfl rfl rfl
 revert h; refine br fun xs3 hx4 h => ?_
 have Hs := H
 refine rg2 (σ := σ0) (Nm := (Nat) × (Option Addr) × (Nat)) 8 [6, 7] [[false, false], [true, false], [true, true]] [[(0, 0), (1, 1), (2, 2)], [(0, 0), (1, 1)], [(0, 0), (1, 1)], [(0, 0), (1, 1)], [(0, 0)], [(0, 0)], [(0, 1)], [(1, 2)]] 2 [fun ((b2, a5, c6) : (Nat) × (Option Addr) × (Nat)) => fun σm => Hp S0 σ0 σm [Ch.bx Cb Cc Cd [(Sl Bz Bw Ca)] Ce Cf, Ch.own 0 0 (Sl Bz Bw Ca) Bw] ∧ Md (cov []) σ0 σm, fun ((b2, a5, c6) : (Nat) × (Option Addr) × (Nat)) => fun σm => Hp S0 σ0 σm [Ch.own n0 n0 (Sl (some ⟨b2, 0, none⟩) ([(By.1, By.2)] : List (Int × Int)) 1) ([(By.1, By.2)] : List (Int × Int)), Ch.bx Cb Cc Cd [(Sl Bz Bw Ca)] Ce Cf, Ch.own 0 0 (Sl Bz Bw Ca) Bw] ∧ Md (cov []) σ0 σm, fun ((b2, a5, c6) : (Nat) × (Option Addr) × (Nat)) => fun σm => Hp S0 σ0 σm [Ch.own 0 0 (Sl a5 xs3 c6) xs3, Ch.own n0 n0 (Sl (some ⟨b2, 0, none⟩) ([(By.1, By.2)] : List (Int × Int)) 1) ([(By.1, By.2)] : List (Int × Int)), Ch.bx Cb Cc Cd [(Sl Bz Bw Ca)] Ce Cf] ∧ Md (fun i => (cov []) i ∨ (fun b => blk (Sl Bz Bw Ca) = some b) i) σ0 σm] [fun ((b2, a5, c6) : (Nat) × (Option Addr) × (Nat)) => (pt Cc Cd), fun ((b2, a5, c6) : (Nat) × (Option Addr) × (Nat)) => (pt Cc Cd), fun ((b2, a5, c6) : (Nat) × (Option Addr) × (Nat)) => (pt Cc Cd), fun ((b2, a5, c6) : (Nat) × (Option Addr) × (Nat)) => (Sl Bz Bw Ca), fun ((b2, a5, c6) : (Nat) × (Option Addr) × (Nat)) => (.iface 67 (.agg #[(I By.1), (I By.2)])), fun ((b2, a5, c6) : (Nat) × (Option Addr) × (Nat)) => (.agg #[(I By.1), (I By.2)]), fun ((b2, a5, c6) : (Nat) × (Option Addr) × (Nat)) => (Sl (some ⟨b2, 0, none⟩) ([(By.1, By.2)] : List (Int × Int)) 1), fun ((b2, a5, c6) : (Nat) × (Option Addr) × (Nat)) => (Sl a5 xs3 c6)] (0, none, 0) (by kernel_rfl) (by kernel_rfl) ?_ ?_ ?_
 ·intro σm m0
  exact ⟨H.grow (m0.mono fun _ h => h.elim), m0⟩
 ·refine ac rfl (by
    intro k; rintro ⟨b2, a5, c6⟩ ρ σm hJ hoff hdep
    have e0 := look_off (N := 13) (hoff 0 rfl) rfl
    exact dp_v (v := (pt Cc Cd)) wn (rv_move e0) rfl hJ) ?_
  refine ac rfl (by
    intro k; rintro ⟨b2, a5, c6⟩ ρ σm hJ hoff hdep
    have e0 := look_off (N := 13) (hoff 0 rfl) rfl
    exact dp_v (v := (pt Cc Cd)) wn (rv_move e0) rfl hJ) ?_
  refine ac rfl (by
    intro k; rintro ⟨b2, a5, c6⟩ ρ σm hJ hoff hdep
    have e5 := hdep 1 rfl rfl 5 rfl
    exact dp_v (v := (pt Cc Cd)) wn (rv_nilCheck e5) rfl hJ) ?_
  refine all_cons (by
    refine ⟨?_, ?_⟩
    ·rintro ⟨b2, a5, c6⟩ ρ σm hJ hoff hdep
     have e6 := hdep 2 rfl rfl 6 rfl
     obtain ⟨H, m⟩ := id hJ
     have hc1 := H.cell (u := (Sl Bz Bw Ca)) (o' := Cd) 0 0 rfl rfl rfl
     exact dp_v (v := (Sl Bz Bw Ca)) wn (rv_load1 Tryz.underlying104 rfl e6 hc1) rfl hJ
    refine ⟨?_, ?_⟩
    ·rintro ⟨b2, a5, c6⟩ ρ σm hJ hoff hdep
     have e6 := hdep 2 rfl rfl 6 rfl
     obtain ⟨H, m⟩ := id hJ
     have hc1 := H.cell (u := (Sl Bz Bw Ca)) (o' := Cd) 1 0 rfl rfl rfl
     exact dp_v (v := (Sl Bz Bw Ca)) wn (rv_load1 Tryz.underlying104 rfl e6 hc1) rfl hJ
    trivial) ?_
  refine ac rfl (by
    intro k; rintro ⟨b2, a5, c6⟩ ρ σm hJ hoff hdep
    have e1 := look_off (N := 13) (hoff 1 rfl) rfl
    exact dp_v (v := (.iface 67 (.agg #[(I By.1), (I By.2)]))) wn (rv_move e1) rfl hJ) ?_
  refine ac rfl (by
    intro k; rintro ⟨b2, a5, c6⟩ ρ σm hJ hoff hdep
    have e8 := hdep 4 rfl rfl 8 rfl
    exact dp_v (v := (.agg #[(I By.1), (I By.2)])) wn (rv_typeAssert Tryz.underlying67 rfl e8) rfl hJ) ?_
  refine all_cons (by
    refine ⟨?_, ?_⟩
    ·rintro ⟨b2, a5, c6⟩ ρ σm hJ hoff hdep
     have e9 : look 13 ρ 9 = (.agg #[(I By.1), (I By.2)]) := hdep 5 rfl rfl 9 rfl
     obtain ⟨H, m⟩ := id hJ
     refine dp_ex wn (ex_buildSlice (el := n0) (xs := ([(By.1, By.2)] : List (Int × Int))) (ps := [(0, (.agg #[(I By.1), (I By.2)]))]) (cs := [(I By.1), (I By.2)]) H hn0 Tryz.underlying104 ti67 rfl (by show [(0, look 13 ρ 9)] = _; rw [e9]) (by kernel_rfl) (.cons (c := [(I By.1), (I By.2)]) ⟨[(I By.1)], [(I By.2)], rfl, rfl, rfl⟩ (.nil)) rfl) ?_
     rintro _ σq ⟨b2x, rfl, H2, m2⟩
     exact ⟨_, (b2x, a5, c6), rfl, rfl, ⟨H2.sel' [0, 1, 2] rfl rfl, m.comp0 m2⟩, stab [0, 1, 2, 3, 4, 5] (by kernel_rfl) ⟨rfl, rfl, rfl, rfl, rfl, rfl, trivial⟩⟩
    trivial) ?_
  refine all_cons (by
    refine ⟨?_, ?_⟩
    ·rintro ⟨b2, a5, c6⟩ ρ σm hJ hoff hdep
     have e7 := hdep 3 rfl rfl 7 rfl
     have e10 := hdep 6 rfl rfl 10 rfl
     obtain ⟨H, m⟩ := id hJ
     refine dp_ex wn (ex_append H (i := 2) rfl Tryz.underlying104 Tryz.underlying104 ti67 rfl rfl (by decide) ((H.own 0 rfl).rd.sc) hx4 (Nat.zero_le _) e7 e10) ?_
     rintro _ σq ⟨a5x, c6x, rfl, H2, m2⟩
     exact ⟨_, (b2, a5x, c6x), rfl, rfl, ⟨H2.sel' [0, 1, 2] rfl rfl, m.comp m2⟩, stab [0, 1, 2, 3, 4, 5, 6] (by kernel_rfl) ⟨rfl, rfl, rfl, rfl, rfl, rfl, rfl, trivial⟩⟩
    trivial) ?_
  exact all_nil
 ·rintro ⟨b2, a5, c6⟩ ρ σ7 hJ hoff hrel
  have e0 := look_off (N := 13) (hoff 0 rfl) rfl
  have e4 := hrel 0 rfl 4 rfl
  have e11 := hrel 7 rfl 11 rfl
  obtain ⟨H, -⟩ := (show Hp S0 σ0 σ7 [Ch.own 0 0 (Sl a5 xs3 c6) xs3, Ch.own n0 n0 (Sl (some ⟨b2, 0, none⟩) ([(By.1, By.2)] : List (Int × Int)) 1) ([(By.1, By.2)] : List (Int × Int)), Ch.bx Cb Cc Cd [(Sl Bz Bw Ca)] Ce Cf] ∧ Md (fun i => (cov []) i ∨ (fun b => blk (Sl Bz Bw Ca) = some b) i) σ0 σ7 from hJ)
  clear hJ Hs
  rw [fr_lookL (L := [(0, (pt Cc Cd)), (4, (pt Cc Cd)), (11, (Sl a5 xs3 c6))]) ⟨e0, e4, e11, trivial⟩]
  clear hoff hrel e0 e4 e11
  refine st (v := (pt Cc Cd)) (rv_nilCheck rfl) ?_
  refine st_exS (ex_store_box (k := 0) (cs := [(Sl Bz Bw Ca)]) (vs := [(Sl a5 xs3 c6)]) (cs' := [(Sl a5 xs3 c6)]) H (i := 2) rfl ti104 rfl rfl rfl rfl rfl (Nat.le_of_ble_eq_true rfl) (by simp [plain]) rfl) wn ?_
  rintro σ8 ⟨H, -⟩
  refine w_end ?_
  obtain rfl := sj h
  exact fin_end (v := (.tuple #[])) (results_ok Tryz.results189 res_nil rfl) ⟨a5, c6, rfl, rfl⟩ (H.sel' [0, 1] rfl rfl)

theorem c_impl_hitHeap_Len {Bw : List (Int × Int)} {Bz : Option Addr} {Ca : Nat} {r : Int} (h : M.impl_hitHeap_Len Bw = some r) :
    Cal2 Tryz.prog 184 [(Sl Bz Bw Ca)] [Ch.ro 0 (Sl Bz Bw Ca) Bw] (fun n0 v L => v = (I r) ∧ L = []) := by
 refine cal2 (n := 5) Tryz.func184 rfl rfl rfl rfl ?_
 intro S0 σ0 n0 hn0 H
 unfold M.impl_hitHeap_Len at h
 refine c_seq (rg (sa (I 0) rfl (w_end (q_then (c_seq (rg (sm (Sl Bz Bw Ca) rfl (st (v := (I (Bw.length : Int))) (rv_len Tryz.underlying104 rfl) (sa (I (Bw.length : Int)) rfl (w_end (q_then ?_)))))))))))
 refine c_ret ?_
 obtain rfl := sj h
 exact fin_ret (v := (I (Bw.length : Int))) (results_ok Tryz.results184 (res_tmp (v := (I (Bw.length : Int))) rfl res_nil) rfl) ⟨rfl, rfl⟩ (H.sel' [] rfl rfl)

theorem c_cmp_isNaN_int {Az : Int}  {r : Bool} (h : M.cmp_isNaN_int Az = some r) :
    Cal2 Tryz.prog 122 [(I Az)] [] (fun n0 v L => v = (B r) ∧ L = []) := by
 refine cal2 (n := 6) Tryz.func122 rfl rfl rfl rfl ?_
 intro S0 σ0 n0 hn0 H
 unfold M.cmp_isNaN_int at h
 refine c_seq (rg (sa (B false) rfl (w_end (q_then (c_seq (rg (sm (I Az) rfl (sm (I Az) rfl (st (v := (B (Az != Az))) (rv_neq (a := Az) (b := Az) rfl rfl) (sa (B (Az != Az)) rfl (w_end ?_)))))))))))
 refine q_then (c_ret ?_)
 obtain rfl := sj h
 exact fin_ret (v := (B (Az != Az))) (results_ok Tryz.results122 (res_tmp (v := (B (Az != Az))) rfl res_nil) rfl) ⟨rfl, rfl⟩ (H.sel' [] rfl rfl)

theorem c_cmp_Compare_int {Az : Int} {Cg : Int}  {r : Int} (h : M.cmp_Compare_int Az Cg = some r) :
    Cal2 Tryz.prog 100 [(I Az), (I Cg)] [] (fun n0 v L => v = (I r) ∧ L = []) := by
 refine cal2 (n := 20) Tryz.func100 rfl rfl rfl rfl ?_
 intro S0 σ0 n0 hn0 H
 unfold M.cmp_Compare_int at h
 refine c_seq (rg (sa (I 0) rfl (w_end (q_then (c_seq (rg (sm (I Az) rfl ?_)))))))
 revert h; refine br fun r1 hx2 h => ?_
 have hc3 := c_cmp_isNaN_int hx2
 refine st_call (cx_call hc3 (ent_f hc3.fn rfl) hn0 (H.sel' [] rfl rfl : Hp S0 σ0 _ ([] ++ _))) wn ?_
 rintro _ σ4 ⟨_, ⟨rfl, rfl⟩, H, -⟩
 replace H : Hp _ _ _ [] := H
 refine sa (B r1) rfl (w_end (q_then (c_seq (rg (sm (I Cg) rfl ?_)))))
 revert h; refine br fun r5 hx6 h => ?_
 have hc7 := c_cmp_isNaN_int hx6
 refine st_call (cx_call hc7 (ent_f hc7.fn rfl) hn0 (H.sel' [] rfl rfl : Hp S0 σ0 _ ([] ++ _))) wn ?_
 rintro _ σ8 ⟨_, ⟨rfl, rfl⟩, H, -⟩
 replace H : Hp _ _ _ [] := H
 refine sa (B r5) rfl (w_end (q_then (c_seq (c_seq (rg (sm (B r1) rfl (w_end (q_then ?_))))))))
 refine cd_cond r1 rfl (fun hb9 => ?_) (fun hb9 => ?_)
 ·replace h := bif_t hb9 h
  refine c_seq (c_seq (rg (sm (B r5) rfl (w_end (q_then ?_)))))
  refine cd_cond r5 rfl (fun hb10 => ?_) (fun hb10 => ?_)
  ·replace h := bif_t hb10 h
   refine c_seq (rg (sa (I 0) rfl (w_end (q_then (c_ret (q_then_r (q_then_r ?_)))))))
   obtain rfl := sj h
   exact fin_ret (v := (I 0)) (results_ok Tryz.results100 (res_tmp (v := (I 0)) rfl res_nil) rfl) ⟨rfl, rfl⟩ (H.sel' [] rfl rfl)
  ·replace h := bif_f hb10 h
   refine c_skip (q_then (c_seq (rg (sa (I (-1)) rfl (w_end (q_then (c_ret (q_then_r ?_))))))))
   obtain rfl := sj h
   exact fin_ret (v := (I (-1))) (results_ok Tryz.results100 (res_tmp (v := (I (-1))) rfl res_nil) rfl) ⟨rfl, rfl⟩ (H.sel' [] rfl rfl)
 ·replace h := bif_f hb9 h
  refine c_skip (q_then (c_seq (c_seq (rg (sm (B r5) rfl (w_end (q_then ?_)))))))
  refine cd_cond r5 rfl (fun hb11 => ?_) (fun hb11 => ?_)
  ·replace h := bif_t hb11 h
   refine c_seq (rg (sa (I 1) rfl (w_end (q_then (c_ret (q_then_r ?_))))))
   obtain rfl := sj h
   exact fin_ret (v := (I 1)) (results_ok Tryz.results100 (res_tmp (v := (I 1)) rfl res_nil) rfl) ⟨rfl, rfl⟩ (H.sel' [] rfl rfl)
  ·replace h := bif_f hb11 h
   refine c_skip (q_then (c_seq (c_seq (rg (sm (I Az) rfl (sm (I Cg) rfl (st (v := (B (decide (Az < Cg)))) (rv_lss (a := Az) (b := Cg) rfl rfl) (w_end (q_then ?_)))))))))
   refine cd_cond (decide (Az < Cg)) rfl (fun hb12 => ?_) (fun hb12 => ?_)
   ·replace h := bif_t hb12 h
    refine c_seq (rg (sa (I (-1)) rfl (w_end (q_then (c_ret (q_then_r ?_))))))
    obtain rfl := sj h
    exact fin_ret (v := (I (-1))) (results_ok Tryz.results100 (res_tmp (v := (I (-1))) rfl res_nil) rfl) ⟨rfl, rfl⟩ (H.sel' [] rfl rfl)
   ·replace h := bif_f hb12 h
    refine c_skip (q_then (c_seq (c_seq (rg (sm (I Az) rfl (sm (I Cg) rfl (st (v := (B (decide (Cg < Az)))) (rv_gtr (a := Az) (b := Cg) rfl rfl) (w_end (q_then ?_)))))))))
    refine cd_cond (decide (Cg < Az)) rfl (fun hb13 => ?_) (fun hb13 => ?_)
    ·replace h := bif_t hb13 h
     refine c_seq (rg (sa (I 1) rfl (w_end (q_then (c_ret (q_then_r ?_))))))
     obtain rfl := sj h
     exact fin_ret (v := (I 1)) (results_ok Tryz.results100 (res_tmp (v := (I 1)) rfl res_nil) rfl) ⟨rfl, rfl⟩ (H.sel' [] rfl rfl)
    ·replace h := bif_f hb13 h
     refine c_skip (q_then (c_seq (rg (sa (I 0) rfl (w_end (q_then (c_ret ?_)))))))
     obtain rfl := sj h
     exact fin_ret (v := (I 0)) (results_ok Tryz.results100 (res_tmp (v := (I 0)) rfl res_nil) rfl) ⟨rfl, rfl⟩ (H.sel' [] rfl rfl)

theorem c_cmp_Or_int {Ci : List Int} {Cj : Option Addr} {Ck : Nat} {r : Int} (h : M.cmp_Or_int Ci = some r) :
    Cal2 Tryz.prog 103 [(Sl Cj Ci Ck)] [Ch.ro 0 (Sl Cj Ci Ck) Ci] (fun n0 v L => v = (I r) ∧ L = []) := by
 refine cal2 (n := 18) Tryz.func103 rfl rfl rfl rfl ?_
 intro S0 σ0 n0 hn0 H
 unfold M.cmp_Or_int at h
 refine c_seq (rg (sa (I 0) rfl (w_end (q_then (c_seq (rg (sa (I 0) rfl (w_end (q_then (c_seq (c_seq ?_)))))))))))
 refine rg (sm (Sl Cj Ci Ck) rfl (st (v := (I (Ci.length : Int))) (rv_len Tryz.underlying26 rfl) (sm (I 0) rfl (w_end (q_then ?_)))))
 obtain ⟨o1, hj, h'⟩ := bind_some h
 clear h
 refine c_cut (fun e a w => (∃ t, o1 = (.inl t) ∧ e = .normal ∧ ∃ (ρ : Nat → Value) (σ : St), a = fr 18 (updL ρ [(3, (I 0))]) ∧ w = σ.w ∧ Hp S0 σ0 σ []) ∨ (∃ t, o1 = (.inr t) ∧ e = .ret ∧ ∃ (ρ : Nat → Value) (σ : St), a = fr 18 (updL ρ [(2, (I t))]) ∧ w = σ.w ∧ Hp S0 σ0 σ [])) ?_ ?_
 ·clear h'
  rename _ = some o1 => h
  refine c_blk (wp_loopM _ h (fun s2 a w => ∃ (ρ : Nat → Value) (σ : St), a = fr 18 (updL ρ [(3, (I 0)), (6, (Sl Cj Ci Ck)), (7, (I (Ci.length : Int))), (8, (I s2))]) ∧ w = σ.w ∧ Hp S0 σ0 σ [Ch.ro 0 (Sl Cj Ci Ck) Ci]) ⟨_, σ0, fr_join ⟨rfl, rfl, rfl, rfl, trivial⟩, rfl, H.sel' [0] rfl rfl⟩ ?_)
  clear h H
  rintro s2 a w o ⟨ρ, σ3, rfl, rfl, H⟩ h hres
  refine c_seq (rg (st (v := (B (decide (s2 < (Ci.length : Int))))) (rv_lss (a := s2) (b := (Ci.length : Int)) rfl rfl) (w_end (q_then (c_seq ?_)))))
  refine cd_cond (decide (s2 < (Ci.length : Int))) rfl (fun hb4 => ?_) (fun hb4 => ?_)
  ·replace h := bif_t hb4 h
   refine c_skip (q_then (c_seq (c_blk (c_seq (rg ?_)))))
   revert h; refine br fun x5 hx6 h => ?_
   obtain ⟨b8, o9, hi7, -⟩ := (H.ro 0 rfl).ix hx6
   refine st (v := (pt b8 o9)) (rv_ix Tryz.underlying26 ti3 rfl rfl hi7) ?_
   have hc10 := ((H.ro 0 rfl).at hx6 hi7).int
   refine st (v := (I x5)) (rv_load1 Tryz.underlying3 rfl rfl hc10) (sa (I x5) rfl (w_end (q_then (c_seq (rg (sm (I x5) rfl (sm (I 0) rfl (st (v := (B (x5 != 0))) (rv_neq (a := x5) (b := 0) rfl rfl) (w_end (q_then ?_))))))))))
   refine cd_cond (x5 != 0) rfl (fun hb11 => ?_) (fun hb11 => ?_)
   ·replace h := bif_t hb11 h
    refine c_seq (rg (sm (I x5) rfl (sa (I x5) rfl (w_end (q_then (c_ret (q_blk_r (q_then_r (q_then_r (q_blk_r ?_))))))))))
    obtain rfl := sj h
    obtain rfl := hres _ rfl
    exact .inr (⟨_, rfl, rfl, _, σ3, fr_join ⟨rfl, trivial⟩, rfl, H.sel' [] rfl rfl⟩)
   ·replace h := bif_f hb11 h
    refine c_skip (q_blk (q_then (rg (st (v := (I (w64 (s2 + 1)))) (rv_add (a := s2) (b := 1) rfl rfl) (sm (I (w64 (s2 + 1))) rfl (w_end (q_then ?_)))))))
    obtain rfl := sj h
    exact ⟨_, rfl, _, σ3, fr_join ⟨rfl, rfl, rfl, rfl, trivial⟩, rfl, H.sel' [0] rfl rfl⟩
  ·replace h := bif_f hb4 h
   refine c_exit (q_then_x (q_then_x (q_blk_hit ?_)))
   obtain rfl := sj h
   obtain rfl := hres _ rfl
   exact .inl ⟨_, rfl, rfl, _, σ3, fr_join ⟨rfl, trivial⟩, rfl, H.sel' [] rfl rfl⟩
 ·clear hj
  have h := h'
  clear h' H
  rintro e a w (⟨t12, rfl, rfl, ρ, σ13, rfl, rfl, H⟩ | ⟨t14, rfl, rfl, ρ, σ15, rfl, rfl, H⟩)
  ·replace h := selim_l h
   refine q_then (c_seq (rg (sm (I 0) rfl (sa (I 0) rfl (w_end (q_then (c_ret ?_)))))))
   obtain rfl := sj h
   exact fin_ret (v := (I 0)) (results_ok Tryz.results103 (res_tmp (v := (I 0)) rfl res_nil) rfl) ⟨rfl, rfl⟩ (H.sel' [] rfl rfl)
  ·replace h := selim_r h
   refine q_then_r ?_
   obtain rfl := sj h
   exact fin_ret (v := (I t14)) (results_ok Tryz.results103 (res_tmp (v := (I t14)) rfl res_nil) rfl) ⟨rfl, rfl⟩ (H.sel' [] rfl rfl)

theorem c_impl_compareHits {Aa : Int × Int} {Ah : Int × Int}  {r : Int} (h : M.impl_compareHits Aa Ah = some r) :
    Cal2 Tryz.prog 73 [(.agg #[(I Aa.1), (I Aa.2)]), (.agg #[(I Ah.1), (I Ah.2)])] [] (fun n0 v L => v = (I r) ∧ L = []) := by
 refine cal2 (n := 17) Tryz.func73 rfl rfl rfl rfl ?_
 intro S0 σ0 n0 hn0 H
 unfold M.impl_compareHits at h
 refine c_seq (rg (st_ex (ex_box (cs := [(I Aa.1), (I Aa.2)]) H hn0 rfl rfl) wn ?_))
 rintro _ σ2 ⟨b1, rfl, H, -⟩
 refine st_ex (ex_box (cs := [(I Ah.1), (I Ah.2)]) H hn0 rfl rfl) wn ?_
 rintro _ σ4 ⟨b3, rfl, H, -⟩
 refine sa (I 0) rfl (w_end (q_then (c_seq ?_)))
 have hc5 := H.cell (u := (I Aa.2)) (o' := 1) 1 1 rfl rfl rfl
 have hc6 := H.cell (u := (I Ah.2)) (o' := 1) 0 1 rfl rfl rfl
 revert h; refine br fun r7 hx8 h => ?_
 have hc9 := c_cmp_Compare_int hx8
 have hc10 := H.cell (u := (I Aa.1)) (o' := 0) 1 0 rfl rfl rfl
 have hc11 := H.cell (u := (I Ah.1)) (o' := 0) 0 0 rfl rfl rfl
 have Hs := H
 refine rg2 (σ := σ4) (Nm := Unit) 9 [4] [[false], [true]] [[(0, 0)], [(0, 0)], [(0, 0)], [(0, 0)], [(0, 1)], [(0, 0), (1, 1)], [(0, 0), (1, 1)], [(0, 0), (1, 1)], [(0, 0), (1, 1)]] 1 [fun _ => fun σm => Hp S0 σ0 σm [Ch.bx n0 b3 0 [(I Ah.1), (I Ah.2)] [] [], Ch.bx n0 b1 0 [(I Aa.1), (I Aa.2)] [] []] ∧ Md (cov []) σ4 σm, fun _ => fun σm => Hp S0 σ0 σm [Ch.bx n0 b3 0 [(I Ah.1), (I Ah.2)] [] [], Ch.bx n0 b1 0 [(I Aa.1), (I Aa.2)] [] []] ∧ Md (cov []) σ4 σm] [fun _ => (pt b1 1), fun _ => (I Aa.2), fun _ => (pt b3 1), fun _ => (I Ah.2), fun _ => (I r7), fun _ => (pt b1 0), fun _ => (I Aa.1), fun _ => (pt b3 0), fun _ => (I Ah.1)] () (by kernel_rfl) (by kernel_rfl) ?_ ?_ ?_
 ·intro σm m0
  exact ⟨H.grow (m0.mono fun _ h => h.elim), m0⟩
 ·refine ac rfl (by
    intro k _nm ρ σm hJ hoff hdep
    have e2 := look_off (N := 17) (hoff 2 rfl) rfl
    exact dp_v (v := (pt b1 1)) wn (rv_fieldAddr (off := 1) (ft := 3) Tryz.underlying67 rfl ti3 rfl e2) rfl hJ) ?_
  refine all_cons (by
    refine ⟨?_, ?_⟩
    ·intro _nm ρ σm hJ hoff hdep
     have e5 := hdep 0 rfl rfl 5 rfl
     obtain ⟨H, m⟩ := id hJ
     have hc5 := H.cell (u := (I Aa.2)) (o' := 1) 1 1 rfl rfl rfl
     exact dp_v (v := (I Aa.2)) wn (rv_load1 Tryz.underlying3 rfl e5 hc5) rfl hJ
    trivial) ?_
  refine ac rfl (by
    intro k _nm ρ σm hJ hoff hdep
    have e3 := look_off (N := 17) (hoff 3 rfl) rfl
    exact dp_v (v := (pt b3 1)) wn (rv_fieldAddr (off := 1) (ft := 3) Tryz.underlying67 rfl ti3 rfl e3) rfl hJ) ?_
  refine all_cons (by
    refine ⟨?_, ?_⟩
    ·intro _nm ρ σm hJ hoff hdep
     have e7 := hdep 2 rfl rfl 7 rfl
     obtain ⟨H, m⟩ := id hJ
     have hc6 := H.cell (u := (I Ah.2)) (o' := 1) 0 1 rfl rfl rfl
     exact dp_v (v := (I Ah.2)) wn (rv_load1 Tryz.underlying3 rfl e7 hc6) rfl hJ
    trivial) ?_
  refine all_cons (by
    refine ⟨?_, ?_⟩
    ·intro _nm ρ σm hJ hoff hdep
     have e6 : look 17 ρ 6 = (I Aa.2) := hdep 1 rfl rfl 6 rfl
     have e8 : look 17 ρ 8 = (I Ah.2) := hdep 3 rfl rfl 8 rfl
     obtain ⟨H, m⟩ := id hJ
     refine dp_cx wn (cx_call hc9 (ent_f hc9.fn (by show [look 17 ρ 6, look 17 ρ 8] = _; rw [e6, e8])) hn0 (H.sel' [0, 1] rfl rfl : Hp S0 σ0 _ ([] ++ _))) ?_
     rintro _ σq ⟨_, ⟨rfl, rfl⟩, H2, m2⟩
     exact ⟨_, (), rfl, rfl, ⟨H2.sel' [0, 1] rfl rfl, m.comp0 m2⟩, stab [0, 1, 2, 3, 5, 6, 7, 8] (by kernel_rfl) ⟨rfl, rfl, rfl, rfl, rfl, rfl, rfl, rfl, trivial⟩⟩
    trivial) ?_
  refine ac rfl (by
    intro k _nm ρ σm hJ hoff hdep
    have e2 := look_off (N := 17) (hoff 2 rfl) rfl
    exact dp_v (v := (pt b1 0)) wn (rv_fieldAddr (off := 0) (ft := 3) Tryz.underlying67 rfl ti3 rfl e2) rfl hJ) ?_
  refine all_cons (by
    refine ⟨?_, ?_⟩
    ·intro _nm ρ σm hJ hoff hdep
     have e10 := hdep 5 rfl rfl 10 rfl
     obtain ⟨H, m⟩ := id hJ
     have hc10 := H.cell (u := (I Aa.1)) (o' := 0) 1 0 rfl rfl rfl
     exact dp_v (v := (I Aa.1)) wn (rv_load1 Tryz.underlying3 rfl e10 hc10) rfl hJ
    refine ⟨?_, ?_⟩
    ·intro _nm ρ σm hJ hoff hdep
     have e10 := hdep 5 rfl rfl 10 rfl
     obtain ⟨H, m⟩ := id hJ
     have hc10 := H.cell (u := (I Aa.1)) (o' := 0) 1 0 rfl rfl rfl
     exact dp_v (v := (I Aa.1)) wn (rv_load1 Tryz.underlying3 rfl e10 hc10) rfl hJ
    trivial) ?_
  refine ac rfl (by
    intro k _nm ρ σm hJ hoff hdep
    have e3 := look_off (N := 17) (hoff 3 rfl) rfl
    exact dp_v (v := (pt b3 0)) wn (rv_fieldAddr (off := 0) (ft := 3) Tryz.underlying67 rfl ti3 rfl e3) rfl hJ) ?_
  refine all_cons (by
    refine ⟨?_, ?_⟩
    ·intro _nm ρ σm hJ hoff hdep
     have e12 := hdep 7 rfl rfl 12 rfl
     obtain ⟨H, m⟩ := id hJ
     have hc11 := H.cell (u := (I Ah.1)) (o' := 0) 0 0 rfl rfl rfl
     exact dp_v (v := (I Ah.1)) wn (rv_load1 Tryz.underlying3 rfl e12 hc11) rfl hJ
    refine ⟨?_, ?_⟩
    ·intro _nm ρ σm hJ hoff hdep
     have e12 := hdep 7 rfl rfl 12 rfl
     obtain ⟨H, m⟩ := id hJ
     have hc11 := H.cell (u := (I Ah.1)) (o' := 0) 0 0 rfl rfl rfl
     exact dp_v (v := (I Ah.1)) wn (rv_load1 Tryz.underlying3 rfl e12 hc11) rfl hJ
    trivial) ?_
  exact all_nil
 ·intro _nm ρ σ12 hJ hoff hrel
  have e9 := hrel 4 rfl 9 rfl
  have e11 := hrel 6 rfl 11 rfl
  have e13 := hrel 8 rfl 13 rfl
  obtain ⟨H, -⟩ := (show Hp S0 σ0 σ12 [Ch.bx n0 b3 0 [(I Ah.1), (I Ah.2)] [] [], Ch.bx n0 b1 0 [(I Aa.1), (I Aa.2)] [] []] ∧ Md (cov []) σ4 σ12 from hJ)
  clear hJ Hs
  rw [fr_lookL (L := [(9, (I r7)), (11, (I Aa.1)), (13, (I Ah.1))]) ⟨e9, e11, e13, trivial⟩]
  clear hoff hrel e9 e11 e13
  revert h; refine br fun r13 hx14 h => ?_
  have hc15 := c_cmp_Compare_int hx14
  refine st_call (cx_call hc15 (ent_f hc15.fn rfl) hn0 (H.sel' [0, 1] rfl rfl : Hp S0 σ0 _ ([] ++ _))) wn ?_
  rintro _ σ16 ⟨_, ⟨rfl, rfl⟩, H, -⟩
  replace H : Hp _ _ _ [_, _] := H
  refine st_ex (ex_buildSlice (el := n0) (xs := ([r7, r13] : List Int)) (ps := [(0, (I r7)), (1, (I r13))]) (cs := [(I r7), (I r13)]) H hn0 Tryz.underlying26 ti3 rfl rfl (by kernel_rfl) (.cons (c := [(I r7)]) rfl (.cons (c := [(I r13)]) rfl (.nil))) rfl) wn ?_
  rintro _ σ18 ⟨b17, rfl, H, -⟩
  obtain ⟨σ19, hw20, H, -⟩ := H.pub 0 rfl (Nat.le_refl _)
  rw [← hw20]; clear hw20
  replace H := H.roLow 0 0 rfl (Nat.zero_le _)
  revert h; refine br fun r21 hx22 h => ?_
  have hc23 := c_cmp_Or_int (Cj := (some ⟨b17, 0, none⟩)) (Ck := 2) hx22
  refine st_call (cx_call hc23 (ent_f hc23.fn rfl) hn0 (H.sel' [0, 0, 1, 2, 3] rfl rfl : Hp S0 σ0 _ ([_] ++ _))) wn ?_
  rintro _ σ24 ⟨_, ⟨rfl, rfl⟩, H, -⟩
  replace H : Hp _ _ _ [_, _, _, _] := H
  refine sa (I r21) rfl (w_end (q_then (c_ret ?_)))
  obtain rfl := sj h
  exact fin_ret (v := (I r21)) (results_ok Tryz.results73 (res_tmp (v := (I r21)) rfl res_nil) rfl) ⟨rfl, rfl⟩ (H.sel' [] rfl rfl)

theorem c_impl_hitHeap_Less {Bw : List (Int × Int)} {Cl : Int} {Cm : Int} {Bz : Option Addr} {Ca : Nat} {r : Bool} (h : M.impl_hitHeap_Less Bw Cl Cm = some r) :
    Cal2 Tryz.prog 185 [(Sl Bz Bw Ca), (I Cl), (I Cm)] [Ch.ro 0 (Sl Bz Bw Ca) Bw] (fun n0 v L => v = (B r) ∧ L = []) := by
 refine cal2 (n := 17) Tryz.func185 rfl rfl rfl rfl ?_
 intro S0 σ0 n0 hn0 H
 unfold M.impl_hitHeap_Less at h
 refine c_seq (rg (sa (B false) rfl (w_end (q_then (c_seq ?_)))))
 refine rgP (σ := σ0) 8 (by kernel_rfl) (by kernel_rfl) (by kernel_rfl) ?_
 refine sq (v := (Sl Bz Bw Ca)) (rv_move rfl) (sq (v := (I Cl)) (rv_move rfl) ?_)
 revert h; refine br fun x1 hx2 h => ?_
 obtain ⟨b4, o5, hi3, -⟩ := (H.ro 0 rfl).ix hx2
 refine sq (v := (pt b4 o5)) (rv_ix Tryz.underlying104 ti67 rfl rfl hi3) ?_
 obtain ⟨_, ⟨_, _, rfl, rfl, rfl⟩, hl6, hc7⟩ := ((H.ro 0 rfl).at hx2 hi3).cells
 refine sq (v := (.agg #[(I x1.1), (I x1.2)])) (rv_load Tryz.underlying67 rfl ti67 rfl hl6 hc7) (sq (v := (Sl Bz Bw Ca)) (rv_move rfl) (sq (v := (I Cm)) (rv_move rfl) ?_))
 revert h; refine br fun x8 hx9 h => ?_
 obtain ⟨b11, o12, hi10, -⟩ := (H.ro 0 rfl).ix hx9
 refine sq (v := (pt b11 o12)) (rv_ix Tryz.underlying104 ti67 rfl rfl hi10) ?_
 obtain ⟨_, ⟨_, _, rfl, rfl, rfl⟩, hl13, hc14⟩ := ((H.ro 0 rfl).at hx9 hi10).cells
 refine sq (v := (.agg #[(I x8.1), (I x8.2)])) (rv_load Tryz.underlying67 rfl ti67 rfl hl13 hc14) (sq_end ?_)
 intro σ15 hm16
 replace H := H.grow (hm16.mono fun _ h => h); clear hm16
 revert h; refine br fun r17 hx18 h => ?_
 have hc19 := c_impl_compareHits hx18
 refine st_call (cx_call hc19 (ent_f hc19.fn rfl) hn0 (H.sel' [0] rfl rfl : Hp S0 σ0 _ ([] ++ _))) wn ?_
 rintro _ σ20 ⟨_, ⟨rfl, rfl⟩, H, -⟩
 replace H : Hp _ _ _ [_] := H
 refine st (v := (B (decide (0 < r17)))) (rv_gtr (a := r17) (b := 0) rfl rfl) (sa (B (decide (0 < r17))) rfl (w_end (q_then (c_ret ?_))))
 obtain rfl := sj h
 exact fin_ret (v := (B (decide (0 < r17)))) (results_ok Tryz.results185 (res_tmp (v := (B (decide (0 < r17)))) rfl res_nil) rfl) ⟨rfl, rfl⟩ (H.sel' [] rfl rfl)

theorem c_impl_hitHeap_Swap {Bw : List (Int × Int)} {Cl : Int} {Cm : Int} {Bz : Option Addr} {Ca : Nat} {r : (List (Int × Int))} (h : M.impl_hitHeap_Swap Bw Cl Cm = some r) :
    Cal2 Tryz.prog 186 [(Sl Bz Bw Ca), (I Cl), (I Cm)] [Ch.own 0 0 (Sl Bz Bw Ca) Bw] (fun n0 v L => v = (.tuple #[]) ∧ L = [Ch.own 0 0 (Sl Bz r Ca) r] ∧ r.length = Bw.length) := by
 refine cal2 (n := 20) Tryz.func186 rfl rfl rfl rfl ?_
 intro S0 σ0 n0 hn0 H
 unfold M.impl_hitHeap_Swap at h
 revert h; refine br fun x1 hx2 h => ?_
 obtain ⟨b4, o5, hi3, -⟩ := (H.own 0 rfl).ix hx2
 obtain ⟨_, ⟨_, _, rfl, rfl, rfl⟩, hl6, hc7⟩ := ((H.own 0 rfl).at hx2 hi3).cells
 revert h; refine br fun x8 hx9 h => ?_
 obtain ⟨b11, o12, hi10, -⟩ := (H.own 0 rfl).ix hx9
 obtain ⟨_, ⟨_, _, rfl, rfl, rfl⟩, hl13, hc14⟩ := ((H.own 0 rfl).at hx9 hi10).cells
 revert h; refine br fun x15 hx16 h => ?_
 obtain ⟨b18, o19, hi17, -⟩ := (H.own 0 rfl).ix hx16
 have Hs := H
 refine rg2 (σ := σ0) (Nm := Unit) 14 [13] [[false], [true]] [[(0, 0)], [(0, 0)], [(0, 0), (1, 1)], [(0, 0), (1, 1)], [(0, 0)], [(0, 0)], [(0, 0)], [(0, 0)], [(0, 0)], [(0, 0)], [(0, 0)], [(0, 0)], [(0, 0)], [(0, 1)]] 1 [fun _ => fun σm => Hp S0 σ0 σm [Ch.own 0 0 (Sl Bz Bw Ca) Bw] ∧ Md (cov []) σ0 σm, fun _ => fun σm => Hp S0 σ0 σm [Ch.own 0 0 (Sl Bz Bw Ca) (Bw.set Cl.toNat (x1.1, x1.2))] ∧ Md (fun i => (cov []) i ∨ (fun b => blk (Sl Bz Bw Ca) = some b) i) σ0 σm] [fun _ => (Sl Bz Bw Ca), fun _ => (I Cl), fun _ => (Sl Bz Bw Ca), fun _ => (I Cm), fun _ => (Sl Bz Bw Ca), fun _ => (I Cm), fun _ => (pt b4 o5), fun _ => (.agg #[(I x1.1), (I x1.2)]), fun _ => (Sl Bz Bw Ca), fun _ => (I Cl), fun _ => (pt b11 o12), fun _ => (.agg #[(I x8.1), (I x8.2)]), fun _ => (pt b18 o19), fun _ => undef] () (by kernel_rfl) (by kernel_rfl) ?_ ?_ ?_
 ·intro σm m0
  exact ⟨H.grow (m0.mono fun _ h => h.elim), m0⟩
 ·refine ac rfl (by
    intro k _nm ρ σm hJ hoff hdep
    have e0 := look_off (N := 20) (hoff 0 rfl) rfl
    exact dp_v (v := (Sl Bz Bw Ca)) wn (rv_move e0) rfl hJ) ?_
  refine ac rfl (by
    intro k _nm ρ σm hJ hoff hdep
    have e1 := look_off (N := 20) (hoff 1 rfl) rfl
    exact dp_v (v := (I Cl)) wn (rv_move e1) rfl hJ) ?_
  refine ac rfl (by
    intro k _nm ρ σm hJ hoff hdep
    have e0 := look_off (N := 20) (hoff 0 rfl) rfl
    exact dp_v (v := (Sl Bz Bw Ca)) wn (rv_move e0) rfl hJ) ?_
  refine ac rfl (by
    intro k _nm ρ σm hJ hoff hdep
    have e2 := look_off (N := 20) (hoff 2 rfl) rfl
    exact dp_v (v := (I Cm)) wn (rv_move e2) rfl hJ) ?_
  refine ac rfl (by
    intro k _nm ρ σm hJ hoff hdep
    have e0 := look_off (N := 20) (hoff 0 rfl) rfl
    exact dp_v (v := (Sl Bz Bw Ca)) wn (rv_move e0) rfl hJ) ?_
  refine ac rfl (by
    intro k _nm ρ σm hJ hoff hdep
    have e2 := look_off (N := 20) (hoff 2 rfl) rfl
    exact dp_v (v := (I Cm)) wn (rv_move e2) rfl hJ) ?_
  refine ac rfl (by
    intro k _nm ρ σm hJ hoff hdep
    have e10 := hdep 4 rfl rfl 10 rfl
    have e11 := hdep 5 rfl rfl 11 rfl
    exact dp_v (v := (pt b4 o5)) wn (rv_ix Tryz.underlying104 ti67 e10 e11 hi3) rfl hJ) ?_
  refine all_cons (by
    refine ⟨?_, ?_⟩
    ·intro _nm ρ σm hJ hoff hdep
     have e12 := hdep 6 rfl rfl 12 rfl
     obtain ⟨H, m⟩ := id hJ
     obtain ⟨_, ⟨_, _, rfl, rfl, rfl⟩, hl6, hc7⟩ := ((H.own 0 rfl).at hx2 hi3).cells
     exact dp_v (v := (.agg #[(I x1.1), (I x1.2)])) wn (rv_load Tryz.underlying67 rfl ti67 e12 hl6 hc7) rfl hJ
    trivial) ?_
  refine ac rfl (by
    intro k _nm ρ σm hJ hoff hdep
    have e0 := look_off (N := 20) (hoff 0 rfl) rfl
    exact dp_v (v := (Sl Bz Bw Ca)) wn (rv_move e0) rfl hJ) ?_
  refine ac rfl (by
    intro k _nm ρ σm hJ hoff hdep
    have e1 := look_off (N := 20) (hoff 1 rfl) rfl
    exact dp_v (v := (I Cl)) wn (rv_move e1) rfl hJ) ?_
  refine ac rfl (by
    intro k _nm ρ σm hJ hoff hdep
    have e14 := hdep 8 rfl rfl 14 rfl
    have e15 := hdep 9 rfl rfl 15 rfl
    exact dp_v (v := (pt b11 o12)) wn (rv_ix Tryz.underlying104 ti67 e14 e15 hi10) rfl hJ) ?_
  refine all_cons (by
    refine ⟨?_, ?_⟩
    ·intro _nm ρ σm hJ hoff hdep
     have e16 := hdep 10 rfl rfl 16 rfl
     obtain ⟨H, m⟩ := id hJ
     obtain ⟨_, ⟨_, _, rfl, rfl, rfl⟩, hl13, hc14⟩ := ((H.own 0 rfl).at hx9 hi10).cells
     exact dp_v (v := (.agg #[(I x8.1), (I x8.2)])) wn (rv_load Tryz.underlying67 rfl ti67 e16 hl13 hc14) rfl hJ
    trivial) ?_
  refine ac rfl (by
    intro k _nm ρ σm hJ hoff hdep
    have e6 := hdep 0 rfl rfl 6 rfl
    have e7 := hdep 1 rfl rfl 7 rfl
    exact dp_v (v := (pt b18 o19)) wn (rv_ix Tryz.underlying104 ti67 e6 e7 hi17) rfl hJ) ?_
  refine all_cons (by
    refine ⟨?_, ?_⟩
    ·intro _nm ρ σm hJ hoff hdep
     have e18 := hdep 12 rfl rfl 18 rfl
     have e13 := hdep 7 rfl rfl 13 rfl
     obtain ⟨H, m⟩ := id hJ
     refine dp_exS wn rfl (ex_store_own (e' := (x1.1, x1.2)) (vs := [(I x1.1), (I x1.2)]) (k := 0) H (i := 0) rfl ti67 hx16 hi17 e18 rfl e13 rfl rfl (Nat.le_of_ble_eq_true rfl) (by simp [plain]) (by rintro _ ⟨_, _, rfl, rfl, rfl⟩; exact ⟨[(I x1.1)], [(I x1.2)], rfl, rfl, rfl⟩)) ?_
     rintro σq ⟨H2, m2⟩
     exact ⟨_, (), rfl, ⟨H2.sel' [0] rfl rfl, m.comp m2⟩, stab [0, 1, 2, 3, 4, 5, 6, 7, 8, 9, 10, 11, 12] (by kernel_rfl) ⟨rfl, rfl, rfl, rfl, rfl, rfl, rfl, rfl, rfl, rfl, rfl, rfl, rfl, trivial⟩⟩
    trivial) ?_
  exact all_nil
 ·intro _nm ρ σ20 hJ hoff hrel
  have e0 := look_off (N := 20) (hoff 0 rfl) rfl
  have e8 := hrel 2 rfl 8 rfl
  have e9 := hrel 3 rfl 9 rfl
  have e17 := hrel 11 rfl 17 rfl
  obtain ⟨H, -⟩ := (show Hp S0 σ0 σ20 [Ch.own 0 0 (Sl Bz Bw Ca) (Bw.set Cl.toNat (x1.1, x1.2))] ∧ Md (fun i => (cov []) i ∨ (fun b => blk (Sl Bz Bw Ca) = some b) i) σ0 σ20 from hJ)
  clear hJ Hs
  rw [fr_lookL (L := [(0, (Sl Bz Bw Ca)), (8, (Sl Bz Bw Ca)), (9, (I Cm)), (17, (.agg #[(I x8.1), (I x8.2)]))]) ⟨e0, e8, e9, e17, trivial⟩]
  clear hoff hrel e0 e8 e9 e17
  have hsl : (Sl Bz Bw Ca) = (Sl Bz (Bw.set Cl.toNat (x1.1, x1.2)) Ca) := sl_len (by simp)
  rw [hsl]; rw [hsl] at H; clear hsl
  revert h; refine br fun x21 hx22 h => ?_
  obtain ⟨b24, o25, hi23, -⟩ := (H.own 0 rfl).ix hx22
  refine st (v := (pt b24 o25)) (rv_ix Tryz.underlying104 ti67 rfl rfl hi23) ?_
  refine st_exS (ex_store_own (e' := (x8.1, x8.2)) (vs := [(I x8.1), (I x8.2)]) (k := 0) H (i := 0) rfl ti67 hx22 hi23 rfl rfl rfl rfl rfl (Nat.le_of_ble_eq_true rfl) (by simp [plain]) (by rintro _ ⟨_, _, rfl, rfl, rfl⟩; exact ⟨[(I x8.1)], [(I x8.2)], rfl, rfl, rfl⟩)) wn ?_
  rintro σ26 ⟨H, -⟩
  have hsl : (Sl Bz (Bw.set Cl.toNat (x1.1, x1.2)) Ca) = (Sl Bz ((Bw.set Cl.toNat (x1.1, x1.2)).set Cm.toNat (x8.1, x8.2)) Ca) := sl_len List.length_set.symm
  rw [hsl]; rw [hsl] at H; clear hsl
  refine w_end ?_
  obtain rfl := sj h
  exact fin_end (v := (.tuple #[])) (results_ok Tryz.results186 res_nil rfl) ⟨rfl, rfl, (List.length_set.trans List.length_set)⟩ (H.sel' [0] rfl rfl)

theorem c_container_heap_up__impl_hitHeap {Bw : List (Int × Int)} {Cn : Int} {Bz : Option Addr} {Ca : Nat} {Cb Cc Cd : Nat} {Ce Cf : List Value} {r : (List (Int × Int))} (h : M.container_heap_up__impl_hitHeap Bw Cn = some r) :
    Cal2 Tryz.prog 128 [(.iface 121 (pt Cc Cd)), (I Cn)] [Ch.bx Cb Cc Cd [(Sl Bz Bw Ca)] Ce Cf, Ch.own 0 0 (Sl Bz Bw Ca) Bw] (fun n0 v L => ∃ (az1 : Option Addr), ∃ (cz2 : Nat), v = (.tuple #[]) ∧ L = [Ch.bx Cb Cc Cd [(Sl az1 r cz2)] Ce Cf, Ch.own 0 0 (Sl az1 r cz2) r]) := by
 refine cal2 (n := 23) Tryz.func128 rfl rfl rfl rfl ?_
 intro S0 σ0 n0 hn0 H
 unfold M.container_heap_up__impl_hitHeap at h
 obtain ⟨o1, hj, h'⟩ := bind_some h
 clear h
 refine c_cut (fun e a w => e = .normal ∧ ∃ (ρ : Nat → Value) (σ : St) (aj1 : Option Addr) (cj2 : Nat), a = fr 23 (updL ρ [(0, (.iface 121 (pt Cc Cd)))]) ∧ w = σ.w ∧ Hp S0 σ0 σ [Ch.bx Cb Cc Cd [(Sl aj1 o1 cj2)] Ce Cf, Ch.own 0 0 (Sl aj1 o1 cj2) o1]) ?_ ?_
 ·clear h'
  rename _ = some o1 => h
  refine c_blk (wp_loopM _ h (fun s2 a w => ∃ (ρ : Nat → Value) (σ : St) (aj1 : Option Addr) (cj2 : Nat), a = fr 23 (updL ρ [(0, (.iface 121 (pt Cc Cd))), (1, (I s2.2))]) ∧ w = σ.w ∧ Hp S0 σ0 σ [Ch.bx Cb Cc Cd [(Sl aj1 s2.1 cj2)] Ce Cf, Ch.own 0 0 (Sl aj1 s2.1 cj2) s2.1]) ⟨_, σ0, Bz, Ca, fr_join ⟨rfl, rfl, trivial⟩, rfl, H.sel' [0, 1] rfl rfl⟩ ?_)
  clear h H
  rintro s2 a w o ⟨ρ, σ3, a4, c5, rfl, rfl, H⟩ h hres
  refine c_blk (c_seq (rg (sm (I s2.2) rfl (st (v := (I (w64 (s2.2 - 1)))) (rv_sub (a := s2.2) (b := 1) rfl rfl) ?_))))
  refine st (v := (I (w64 ((w64 (s2.2 - 1)).tdiv 2)))) (rv_quo (a := (w64 (s2.2 - 1))) (b := 2) rfl rfl (by decide)) ?_
  refine sa (I (w64 ((w64 (s2.2 - 1)).tdiv 2))) rfl (w_end (q_then (c_seq (c_seq ?_))))
  obtain ⟨o6, hj, h'⟩ := bind_some h
  clear h
  refine c_cut (fun e a w => e = .normal ∧ ∃ (ρ : Nat → Value) (σ : St), a = fr 23 (updL ρ [(0, (.iface 121 (pt Cc Cd))), (1, (I s2.2)), (4, (I (w64 ((w64 (s2.2 - 1)).tdiv 2)))), (17, (B o6))]) ∧ w = σ.w ∧ Hp S0 σ0 σ [Ch.own 0 0 (Sl a4 s2.1 c5) s2.1, Ch.bx Cb Cc Cd [(Sl a4 s2.1 c5)] Ce Cf]) ?_ ?_
  ·clear h'
   rename _ = some o6 => h
   refine rg (sm (I (w64 ((w64 (s2.2 - 1)).tdiv 2))) rfl (sm (I s2.2) rfl (st (v := (B ((w64 ((w64 (s2.2 - 1)).tdiv 2)) == s2.2))) (rv_eql (a := (w64 ((w64 (s2.2 - 1)).tdiv 2))) (b := s2.2) rfl rfl) (sm (B ((w64 ((w64 (s2.2 - 1)).tdiv 2)) == s2.2)) rfl ?_))))
   rcases Bool.eq_false_or_eq_true ((w64 ((w64 (s2.2 - 1)).tdiv 2)) == s2.2) with hb7 | hb7
   ·replace h := bif_t hb7 h
    refine st_skip (congrArg some hb7) (st_skip (congrArg some hb7) (st_skip (congrArg some hb7) (st_skip (congrArg some hb7) (st_skip (congrArg some hb7) (st (v := (B true)) (rv_pick_t (congrArg B hb7) rfl) (w_end ?_))))))
    obtain rfl := sj h
    exact ⟨rfl, _, σ3, fr_join ⟨rfl, rfl, rfl, rfl, trivial⟩, rfl, H.sel' [1, 0] rfl rfl⟩
   ·replace h := bif_f hb7 h
    refine st_g (v := (.iface 121 (pt Cc Cd))) (congrArg some hb7) (rv_move rfl) (st_g (v := (I s2.2)) (congrArg some hb7) (rv_move rfl) (st_g (v := (I (w64 ((w64 (s2.2 - 1)).tdiv 2)))) (congrArg some hb7) (rv_move rfl) ?_))
    revert h; refine br fun r8 hx9 h => ?_
    have hc10 := c_impl_hitHeap_Less (Bz := a4) (Ca := c5) hx9
    have hle := Nat.le_trans hn0 H.size
    refine st_call (cx_lend (Loan.lend Loan.nil) hc10 (ent_iv hc10.fn (by kernel_rfl) Tryz.underlying121 Tryz.underlying104 rfl rfl (H.cell (u := (Sl a4 s2.1 c5)) (o' := Cd) 0 0 rfl rfl rfl) rfl) (show Hp S0 σ0 _ ([Ch.own 0 0 (Sl a4 s2.1 c5) s2.1] ++ ([] ++ [Ch.bx Cb Cc Cd [(Sl a4 s2.1 c5)] Ce Cf])) from (H.sel' [1, 0] rfl rfl)) (by rintro _ _ _ ⟨rfl, rfl⟩; exact trivial)) (wanted_yes rfl (by exact (congrArg some hb7))) ?_
    rintro _ σ11 ⟨_, ⟨rfl, rfl⟩, H, -, -⟩
    replace H : Hp _ _ _ [_, _] := H
    clear hle
    replace H : Hp _ _ _ [_, _] := H
    refine st_g (v := (B (!r8))) (congrArg some hb7) (rv_not rfl) (st (v := (B (!r8))) (rv_pick_f (congrArg B hb7) rfl) (w_end ?_))
    obtain rfl := sj h
    exact ⟨rfl, _, σ11, fr_join ⟨rfl, rfl, rfl, rfl, trivial⟩, rfl, H.sel' [0, 1] rfl rfl⟩
  ·clear hj
   have h := h'
   clear h' H
   rintro e a w ⟨rfl, ρ, σ12, rfl, rfl, H⟩
   refine q_then ?_
   refine cd_cond o6 rfl (fun hb13 => ?_) (fun hb13 => ?_)
   ·replace h := bif_t hb13 h
    refine c_exit (q_then_x ?_)
    refine q_blk_x (by decide) ?_
    refine q_then_x (q_blk_hit ?_)
    obtain rfl := sj h
    obtain rfl := hres _ rfl
    exact ⟨rfl, _, σ12, a4, c5, fr_join ⟨rfl, trivial⟩, rfl, H.sel' [1, 0] rfl rfl⟩
   ·replace h := bif_f hb13 h
    refine c_skip (q_then (c_seq (rg (sm (.iface 121 (pt Cc Cd)) rfl (sm (I (w64 ((w64 (s2.2 - 1)).tdiv 2))) rfl (sm (I s2.2) rfl ?_))))))
    revert h; refine br fun r14 hx15 h => ?_
    have hc16 := c_impl_hitHeap_Swap (Bz := a4) (Ca := c5) hx15
    refine st_call (cx_call hc16 (ent_iv hc16.fn (by kernel_rfl) Tryz.underlying121 Tryz.underlying104 rfl rfl (H.cell (u := (Sl a4 s2.1 c5)) (o' := Cd) 1 0 rfl rfl rfl) rfl) hn0 (H.sel' [0, 1] rfl rfl : Hp S0 σ0 _ ([_] ++ _))) wn ?_
    rintro _ σ18 ⟨_, ⟨rfl, rfl, hn17⟩, H, -⟩
    replace H : Hp _ _ _ [_, _] := H
    have hsl : (Sl a4 s2.1 c5) = (Sl a4 r14 c5) := sl_len hn17.symm
    try rw [hsl]
    try rw [hsl] at H
    clear hsl
    refine w_end (q_then (rg (sm (I (w64 ((w64 (s2.2 - 1)).tdiv 2))) rfl (sa (I (w64 ((w64 (s2.2 - 1)).tdiv 2))) rfl (w_end (q_blk (q_then ?_)))))))
    obtain rfl := sj h
    exact ⟨_, rfl, _, σ18, a4, c5, fr_join ⟨rfl, rfl, trivial⟩, rfl, H.sel' [1, 0] rfl rfl⟩
 ·clear hj
  have h := h'
  clear h' H
  rintro e a w ⟨rfl, ρ, σ19, a20, c21, rfl, rfl, H⟩
  obtain rfl := sj h
  exact fin_end (v := (.tuple #[])) (results_ok Tryz.results128 res_nil rfl) ⟨a20, c21, rfl, rfl⟩ (H.sel' [0, 1] rfl rfl)

theorem c_container_heap_Push__impl_hitHeap__impl_Hit {Bw : List (Int × Int)} {By : Int × Int} {Bz : Option Addr} {Ca : Nat} {Cb Cc Cd : Nat} {Ce Cf : List Value} {r : (List (Int × Int))} (h : M.container_heap_Push__impl_hitHeap__impl_Hit Bw By = some r) :
    Cal2 Tryz.prog 109 [(.iface 121 (pt Cc Cd)), (.iface 67 (.agg #[(I By.1), (I By.2)]))] [Ch.bx Cb Cc Cd [(Sl Bz Bw Ca)] Ce Cf, Ch.own 0 0 (Sl Bz Bw Ca) Bw] (fun n0 v L => ∃ (az1 : Option Addr), ∃ (cz2 : Nat), v = (.tuple #[]) ∧ L = [Ch.bx Cb Cc Cd [(Sl az1 r cz2)] Ce Cf, Ch.own 0 0 (Sl az1 r cz2) r]) := by
 refine cal2 (n := 12) Tryz.func109 rfl rfl rfl rfl ?_
 intro S0 σ0 n0 hn0 H
 unfold M.container_heap_Push__impl_hitHeap__impl_Hit at h
 refine c_seq (rg (sm (.iface 121 (pt Cc Cd)) rfl (sm (.iface 67 (.agg #[(I By.1), (I By.2)])) rfl ?_)))
 revert h; refine br fun r1 hx2 h => ?_
 have hc3 := c_impl_hitHeap_Push__impl_Hit (Cb := Cb) (Cc := Cc) (Cd := Cd) (Ce := Ce) (Cf := Cf) (Bz := Bz) (Ca := Ca) hx2
 refine st_call (cx_call hc3 (ent_ip hc3.fn (by kernel_rfl) Tryz.underlying121 rfl rfl) hn0 (H.sel' [0, 1] rfl rfl : Hp S0 σ0 _ ([_, _] ++ _))) wn ?_
 rintro _ σ6 ⟨_, ⟨a4, c5, rfl, rfl⟩, H, -⟩
 replace H : Hp _ _ _ [_, _] := H
 refine w_end (q_then (rg (sm (.iface 121 (pt Cc Cd)) rfl (sm (.iface 121 (pt Cc Cd)) rfl ?_))))
 revert h; refine br fun r7 hx8 h => ?_
 have hc9 := c_impl_hitHeap_Len (Bz := a4) (Ca := c5) hx8
 have hle := Nat.le_trans hn0 H.size
 refine st_call (cx_lend (Loan.lend Loan.nil) hc9 (ent_iv hc9.fn (by kernel_rfl) Tryz.underlying121 Tryz.underlying104 rfl rfl (H.cell (u := (Sl a4 r1 c5)) (o' := Cd) 0 0 rfl rfl rfl) rfl) (show Hp S0 σ0 _ ([Ch.own 0 0 (Sl a4 r1 c5) r1] ++ ([] ++ [Ch.bx Cb Cc Cd [(Sl a4 r1 c5)] Ce Cf])) from (H.sel' [1, 0] rfl rfl)) (by rintro _ _ _ ⟨rfl, rfl⟩; exact trivial)) wn ?_
 rintro _ σ10 ⟨_, ⟨rfl, rfl⟩, H, -, -⟩
 replace H : Hp _ _ _ [_, _] := H
 clear hle
 replace H : Hp _ _ _ [_, _] := H
 refine st (v := (I (w64 (r7 - 1)))) (rv_sub (a := r7) (b := 1) rfl rfl) ?_
 revert h; refine br fun r11 hx12 h => ?_
 have hc13 := c_container_heap_up__impl_hitHeap (Cb := Cb) (Cc := Cc) (Cd := Cd) (Ce := Ce) (Cf := Cf) (Bz := a4) (Ca := c5) hx12
 refine st_call (cx_call hc13 (ent_f hc13.fn rfl) hn0 (H.sel' [1, 0] rfl rfl : Hp S0 σ0 _ ([_, _] ++ _))) wn ?_
 rintro _ σ16 ⟨_, ⟨a14, c15, rfl, rfl⟩, H, -⟩
 replace H : Hp _ _ _ [_, _] := H
 refine w_end ?_
 obtain rfl := sj h
 exact fin_end (v := (.tuple #[])) (results_ok Tryz.results109 res_nil rfl) ⟨a14, c15, rfl, rfl⟩ (H.sel' [0, 1] rfl rfl)

theorem c_container_heap_down__impl_hitHeap {Bw : List (Int × Int)} {Cp : Int} {Cq : Int} {Bz : Option Addr} {Ca : Nat} {Cb Cc Cd : Nat} {Ce Cf : List Value} {r : Bool × (List (Int × Int))} (h : M.container_heap_down__impl_hitHeap Bw Cp Cq = some r) :
    Cal2 Tryz.prog 129 [(.iface 121 (pt Cc Cd)), (I Cp), (I Cq)] [Ch.bx Cb Cc Cd [(Sl Bz Bw Ca)] Ce Cf, Ch.own 0 0 (Sl Bz Bw Ca) Bw] (fun n0 v L => ∃ (az1 : Option Addr), ∃ (cz2 : Nat), v = (B r.1) ∧ L = [Ch.bx Cb Cc Cd [(Sl az1 r.2 cz2)] Ce Cf, Ch.own 0 0 (Sl az1 r.2 cz2) r.2]) := by
 refine cal2 (n := 48) Tryz.func129 rfl rfl rfl rfl ?_
 intro S0 σ0 n0 hn0 H
 unfold M.container_heap_down__impl_hitHeap at h
 refine c_seq (rg (sa (B false) rfl (w_end (q_then (c_seq (rg (sm (I Cp) rfl (sa (I Cp) rfl (w_end (q_then (c_seq ?_)))))))))))
 obtain ⟨o1, hj, h'⟩ := bind_some h
 clear h
 refine c_cut (fun e a w => e = .normal ∧ ∃ (ρ : Nat → Value) (σ : St) (aj1 : Option Addr) (cj2 : Nat), a = fr 48 (updL ρ [(0, (.iface 121 (pt Cc Cd))), (1, (I Cp)), (7, (I o1.2))]) ∧ w = σ.w ∧ Hp S0 σ0 σ [Ch.bx Cb Cc Cd [(Sl aj1 o1.1 cj2)] Ce Cf, Ch.own 0 0 (Sl aj1 o1.1 cj2) o1.1]) ?_ ?_
 ·clear h'
  rename _ = some o1 => h
  refine c_blk (wp_loopM _ h (fun s2 a w => ∃ (ρ : Nat → Value) (σ : St) (aj1 : Option Addr) (cj2 : Nat), a = fr 48 (updL ρ [(0, (.iface 121 (pt Cc Cd))), (1, (I Cp)), (2, (I Cq)), (7, (I s2.2))]) ∧ w = σ.w ∧ Hp S0 σ0 σ [Ch.bx Cb Cc Cd [(Sl aj1 s2.1 cj2)] Ce Cf, Ch.own 0 0 (Sl aj1 s2.1 cj2) s2.1]) ⟨_, σ0, Bz, Ca, fr_join ⟨rfl, rfl, rfl, rfl, trivial⟩, rfl, H.sel' [0, 1] rfl rfl⟩ ?_)
  clear h H
  rintro s2 a w o ⟨ρ, σ3, a4, c5, rfl, rfl, H⟩ h hres
  refine c_blk (c_seq (rg (sm (I s2.2) rfl (st (v := (I (w64 (2 * s2.2)))) (rv_mul (a := 2) (b := s2.2) rfl rfl) (st (v := (I (w64 ((w64 (2 * s2.2)) + 1)))) (rv_add (a := (w64 (2 * s2.2))) (b := 1) rfl rfl) (sa (I (w64 ((w64 (2 * s2.2)) + 1))) rfl (w_end (q_then (c_seq (c_seq ?_))))))))))
  obtain ⟨o6, hj, h'⟩ := bind_some h
  clear h
  refine c_cut (fun e a w => e = .normal ∧ ∃ (ρ : Nat → Value) (σ : St), a = fr 48 (updL ρ [(0, (.iface 121 (pt Cc Cd))), (1, (I Cp)), (2, (I Cq)), (7, (I s2.2)), (8, (I (w64 ((w64 (2 * s2.2)) + 1)))), (21, (B o6))]) ∧ w = σ.w ∧ Hp S0 σ0 σ [Ch.own 0 0 (Sl a4 s2.1 c5) s2.1, Ch.bx Cb Cc Cd [(Sl a4 s2.1 c5)] Ce Cf]) ?_ ?_
  ·clear h'
   rename _ = some o6 => h
   refine rg (sm (I (w64 ((w64 (2 * s2.2)) + 1))) rfl (sm (I Cq) rfl (st (v := (B (decide (Cq ≤ (w64 ((w64 (2 * s2.2)) + 1)))))) (rv_geq (a := (w64 ((w64 (2 * s2.2)) + 1))) (b := Cq) rfl rfl) (sm (B (decide (Cq ≤ (w64 ((w64 (2 * s2.2)) + 1))))) rfl ?_))))
   rcases Bool.eq_false_or_eq_true (decide (Cq ≤ (w64 ((w64 (2 * s2.2)) + 1)))) with hb7 | hb7
   ·replace h := bif_t hb7 h
    refine st_skip (congrArg some hb7) (st_skip (congrArg some hb7) (st (v := (B true)) (rv_pick_t (congrArg B hb7) rfl) (w_end ?_)))
    obtain rfl := sj h
    exact ⟨rfl, _, σ3, fr_join ⟨rfl, rfl, rfl, rfl, rfl, rfl, trivial⟩, rfl, H.sel' [1, 0] rfl rfl⟩
   ·replace h := bif_f hb7 h
    refine st_g (v := (I (w64 ((w64 (2 * s2.2)) + 1)))) (congrArg some hb7) (rv_move rfl) (st_g (v := (B (decide ((w64 ((w64 (2 * s2.2)) + 1)) < 0)))) (congrArg some hb7) (rv_lss (a := (w64 ((w64 (2 * s2.2)) + 1))) (b := 0) rfl rfl) (st (v := (B (decide ((w64 ((w64 (2 * s2.2)) + 1)) < 0)))) (rv_pick_f (congrArg B hb7) rfl) (w_end ?_)))
    obtain rfl := sj h
    exact ⟨rfl, _, σ3, fr_join ⟨rfl, rfl, rfl, rfl, rfl, rfl, trivial⟩, rfl, H.sel' [1, 0] rfl rfl⟩
  ·clear hj
   have h := h'
   clear h' H
   rintro e a w ⟨rfl, ρ, σ8, rfl, rfl, H⟩
   refine q_then ?_
   refine cd_cond o6 rfl (fun hb9 => ?_) (fun hb9 => ?_)
   ·replace h := bif_t hb9 h
    refine c_exit (q_then_x ?_)
    refine q_blk_x (by decide) ?_
    refine q_then_x (q_blk_hit ?_)
    obtain rfl := sj h
    obtain rfl := hres _ rfl
    exact ⟨rfl, _, σ8, a4, c5, fr_join ⟨rfl, rfl, rfl, trivial⟩, rfl, H.sel' [1, 0] rfl rfl⟩
   ·replace h := bif_f hb9 h
    refine c_skip (q_then (c_seq (rg (sm (I (w64 ((w64 (2 * s2.2)) + 1))) rfl (sa (I (w64 ((w64 (2 * s2.2)) + 1))) rfl (w_end (q_then (c_seq (c_seq (rg (sm (I (w64 ((w64 (2 * s2.2)) + 1))) rfl ?_)))))))))))
    refine st (v := (I (w64 ((w64 ((w64 (2 * s2.2)) + 1)) + 1)))) (rv_add (a := (w64 ((w64 (2 * s2.2)) + 1))) (b := 1) rfl rfl) (sa (I (w64 ((w64 ((w64 (2 * s2.2)) + 1)) + 1))) rfl (w_end (q_then (c_seq ?_))))
    obtain ⟨o10, hj, h'⟩ := bind_some h
    clear h
    refine c_cut (fun e a w => e = .normal ∧ ∃ (ρ : Nat → Value) (σ : St), a = fr 48 (updL ρ [(0, (.iface 121 (pt Cc Cd))), (1, (I Cp)), (2, (I Cq)), (7, (I s2.2)), (9, (I (w64 ((w64 (2 * s2.2)) + 1)))), (10, (I (w64 ((w64 ((w64 (2 * s2.2)) + 1)) + 1)))), (33, (B o10))]) ∧ w = σ.w ∧ Hp S0 σ0 σ [Ch.own 0 0 (Sl a4 s2.1 c5) s2.1, Ch.bx Cb Cc Cd [(Sl a4 s2.1 c5)] Ce Cf]) ?_ ?_
    ·clear h'
     rename _ = some o10 => h
     refine rg (sm (I (w64 ((w64 ((w64 (2 * s2.2)) + 1)) + 1))) rfl (sm (I Cq) rfl (st (v := (B (decide ((w64 ((w64 ((w64 (2 * s2.2)) + 1)) + 1)) < Cq)))) (rv_lss (a := (w64 ((w64 ((w64 (2 * s2.2)) + 1)) + 1))) (b := Cq) rfl rfl) (sm (B (decide ((w64 ((w64 ((w64 (2 * s2.2)) + 1)) + 1)) < Cq))) rfl ?_))))
     rcases Bool.eq_false_or_eq_true (decide ((w64 ((w64 ((w64 (2 * s2.2)) + 1)) + 1)) < Cq)) with hb11 | hb11
     ·replace h := bif_t hb11 h
      refine st_g (v := (.iface 121 (pt Cc Cd))) (congrArg some hb11) (rv_move rfl) (st_g (v := (I (w64 ((w64 ((w64 (2 * s2.2)) + 1)) + 1)))) (congrArg some hb11) (rv_move rfl) (st_g (v := (I (w64 ((w64 (2 * s2.2)) + 1)))) (congrArg some hb11) (rv_move rfl) ?_))
      revert h; refine br fun r12 hx13 h => ?_
      have hc14 := c_impl_hitHeap_Less (Bz := a4) (Ca := c5) hx13
      have hle := Nat.le_trans hn0 H.size
      refine st_call (cx_lend (Loan.lend Loan.nil) hc14 (ent_iv hc14.fn (by kernel_rfl) Tryz.underlying121 Tryz.underlying104 rfl rfl (H.cell (u := (Sl a4 s2.1 c5)) (o' := Cd) 1 0 rfl rfl rfl) rfl) (show Hp S0 σ0 _ ([Ch.own 0 0 (Sl a4 s2.1 c5) s2.1] ++ ([] ++ [Ch.bx Cb Cc Cd [(Sl a4 s2.1 c5)] Ce Cf])) from (H.sel' [0, 1] rfl rfl)) (by rintro _ _ _ ⟨rfl, rfl⟩; exact trivial)) (wanted_yes rfl (by exact (congrArg some hb11))) ?_
      rintro _ σ15 ⟨_, ⟨rfl, rfl⟩, H, -, -⟩
      replace H : Hp _ _ _ [_, _] := H
      clear hle
      replace H : Hp _ _ _ [_, _] := H
      refine st (v := (B r12)) (rv_pick_t (congrArg B hb11) rfl) (w_end ?_)
      obtain rfl := sj h
      exact ⟨rfl, _, σ15, fr_join ⟨rfl, rfl, rfl, rfl, rfl, rfl, rfl, trivial⟩, rfl, H.sel' [0, 1] rfl rfl⟩
     ·replace h := bif_f hb11 h
      refine st_skip (congrArg some hb11) (st_skip (congrArg some hb11) (st_skip (congrArg some hb11) (st_skip (congrArg some hb11) (st (v := (B false)) (rv_pick_f (congrArg B hb11) rfl) (w_end ?_)))))
      obtain rfl := sj h
      exact ⟨rfl, _, σ8, fr_join ⟨rfl, rfl, rfl, rfl, rfl, rfl, rfl, trivial⟩, rfl, H.sel' [0, 1] rfl rfl⟩
    ·clear hj
     have h := h'
     clear h' H
     rintro e a w ⟨rfl, ρ, σ16, rfl, rfl, H⟩
     refine q_then ?_
     obtain ⟨o17, hj, h'⟩ := bind_some h
     clear h
     refine c_cut (fun e a w => e = .normal ∧ ∃ (ρ : Nat → Value) (σ : St), a = fr 48 (updL ρ [(0, (.iface 121 (pt Cc Cd))), (1, (I Cp)), (2, (I Cq)), (7, (I s2.2)), (9, (I o17))]) ∧ w = σ.w ∧ Hp S0 σ0 σ [Ch.own 0 0 (Sl a4 s2.1 c5) s2.1, Ch.bx Cb Cc Cd [(Sl a4 s2.1 c5)] Ce Cf]) ?_ ?_
     ·clear h'
      rename _ = some o17 => h
      refine cd_cond o10 rfl (fun hb18 => ?_) (fun hb18 => ?_)
      ·replace h := bif_t hb18 h
       refine rg (sm (I (w64 ((w64 ((w64 (2 * s2.2)) + 1)) + 1))) rfl (sa (I (w64 ((w64 ((w64 (2 * s2.2)) + 1)) + 1))) rfl (w_end ?_)))
       obtain rfl := sj h
       exact ⟨rfl, _, σ16, fr_join ⟨rfl, rfl, rfl, rfl, rfl, trivial⟩, rfl, H.sel' [0, 1] rfl rfl⟩
      ·replace h := bif_f hb18 h
       refine c_skip ?_
       obtain rfl := sj h
       exact ⟨rfl, _, σ16, fr_join ⟨rfl, rfl, rfl, rfl, rfl, trivial⟩, rfl, H.sel' [0, 1] rfl rfl⟩
     ·clear hj
      have h := h'
      clear h' H
      rintro e a w ⟨rfl, ρ, σ19, rfl, rfl, H⟩
      refine q_then (c_seq (c_seq (rg (sm (.iface 121 (pt Cc Cd)) rfl (sm (I o17) rfl (sm (I s2.2) rfl ?_))))))
      revert h; refine br fun r20 hx21 h => ?_
      have hc22 := c_impl_hitHeap_Less (Bz := a4) (Ca := c5) hx21
      have hle := Nat.le_trans hn0 H.size
      refine st_call (cx_lend (Loan.lend Loan.nil) hc22 (ent_iv hc22.fn (by kernel_rfl) Tryz.underlying121 Tryz.underlying104 rfl rfl (H.cell (u := (Sl a4 s2.1 c5)) (o' := Cd) 1 0 rfl rfl rfl) rfl) (show Hp S0 σ0 _ ([Ch.own 0 0 (Sl a4 s2.1 c5) s2.1] ++ ([] ++ [Ch.bx Cb Cc Cd [(Sl a4 s2.1 c5)] Ce Cf])) from (H.sel' [0, 1] rfl rfl)) (by rintro _ _ _ ⟨rfl, rfl⟩; exact trivial)) wn ?_
      rintro _ σ23 ⟨_, ⟨rfl, rfl⟩, H, -, -⟩
      replace H : Hp _ _ _ [_, _] := H
      clear hle
      replace H : Hp _ _ _ [_, _] := H
      refine st (v := (B (!r20))) (rv_not rfl) (w_end (q_then ?_))
      refine cd_cond (!r20) rfl (fun hb24 => ?_) (fun hb24 => ?_)
      ·replace h := bif_t hb24 h
       refine c_exit (q_then_x ?_)
       refine q_blk_x (by decide) ?_
       refine q_then_x (q_blk_hit ?_)
       obtain rfl := sj h
       obtain rfl := hres _ rfl
       exact ⟨rfl, _, σ23, a4, c5, fr_join ⟨rfl, rfl, rfl, trivial⟩, rfl, H.sel' [1, 0] rfl rfl⟩
      ·replace h := bif_f hb24 h
       refine c_skip (q_then (c_seq (rg (sm (.iface 121 (pt Cc Cd)) rfl (sm (I s2.2) rfl (sm (I o17) rfl ?_))))))
       revert h; refine br fun r25 hx26 h => ?_
       have hc27 := c_impl_hitHeap_Swap (Bz := a4) (Ca := c5) hx26
       refine st_call (cx_call hc27 (ent_iv hc27.fn (by kernel_rfl) Tryz.underlying121 Tryz.underlying104 rfl rfl (H.cell (u := (Sl a4 s2.1 c5)) (o' := Cd) 1 0 rfl rfl rfl) rfl) hn0 (H.sel' [0, 1] rfl rfl : Hp S0 σ0 _ ([_] ++ _))) wn ?_
       rintro _ σ29 ⟨_, ⟨rfl, rfl, hn28⟩, H, -⟩
       replace H : Hp _ _ _ [_, _] := H
       have hsl : (Sl a4 s2.1 c5) = (Sl a4 r25 c5) := sl_len hn28.symm
       try rw [hsl]
       try rw [hsl] at H
       clear hsl
       refine w_end (q_then (rg (sm (I o17) rfl (sa (I o17) rfl (w_end (q_blk (q_then ?_)))))))
       obtain rfl := sj h
       exact ⟨_, rfl, _, σ29, a4, c5, fr_join ⟨rfl, rfl, rfl, rfl, trivial⟩, rfl, H.sel' [1, 0] rfl rfl⟩
 ·clear hj
  have h := h'
  clear h' H
  rintro e a w ⟨rfl, ρ, σ30, a31, c32, rfl, rfl, H⟩
  refine q_then (c_seq (rg (sm (I o1.2) rfl (sm (I Cp) rfl (st (v := (B (decide (Cp < o1.2)))) (rv_gtr (a := o1.2) (b := Cp) rfl rfl) (sa (B (decide (Cp < o1.2))) rfl (w_end (q_then (c_ret ?_)))))))))
  obtain rfl := sj h
  exact fin_ret (v := (B (decide (Cp < o1.2)))) (results_ok Tryz.results129 (res_tmp (v := (B (decide (Cp < o1.2)))) rfl res_nil) rfl) ⟨a31, c32, rfl, rfl⟩ (H.sel' [0, 1] rfl rfl)

theorem c_impl_hitHeap_Pop {Bw : List (Int × Int)} {Bz : Option Addr} {Ca : Nat} {Cb Cc Cd : Nat} {Ce Cf : List Value} {r : ((Int) × (Int)) × (List (Int × Int))} (h : M.impl_hitHeap_Pop Bw = some r) :
    Cal2 Tryz.prog 188 [(pt Cc Cd)] [Ch.bx Cb Cc Cd [(Sl Bz Bw Ca)] Ce Cf, Ch.own 0 0 (Sl Bz Bw Ca) Bw] (fun n0 v L => ∃ (az1 : Option Addr), ∃ (cz2 : Nat), v = (.iface 67 (.agg #[(I r.1.1), (I r.1.2)])) ∧ L = [Ch.bx Cb Cc Cd [(Sl az1 r.2 cz2)] Ce Cf, Ch.own 0 0 (Sl az1 r.2 cz2) r.2]) := by
 refine cal2 (n := 25) Tryz.func188 rfl rfl rfl rfl ?_
 intro S0 σ0 n0 hn0 H
 unfold M.impl_hitHeap_Pop at h
 refine c_seq (rg (sa (.nilIface) rfl (w_end (q_then (c_seq (rg (sm (pt Cc Cd) rfl (st (v := (pt Cc Cd)) (rv_nilCheck rfl) ?_))))))))
 have hc1 := H.cell (u := (Sl Bz Bw Ca)) (o' := Cd) 0 0 rfl rfl rfl
 refine st (v := (Sl Bz Bw Ca)) (rv_load1 Tryz.underlying104 rfl rfl hc1) (st (v := (I (Bw.length : Int))) (rv_len Tryz.underlying104 rfl) (st (v := (I (w64 ((Bw.length : Int) - 1)))) (rv_sub (a := (Bw.length : Int)) (b := 1) rfl rfl) (sa (I (w64 ((Bw.length : Int) - 1))) rfl (w_end (q_then (c_seq (rg (sm (pt Cc Cd) rfl (st (v := (pt Cc Cd)) (rv_nilCheck rfl) ?_)))))))))
 have hc2 := H.cell (u := (Sl Bz Bw Ca)) (o' := Cd) 0 0 rfl rfl rfl
 refine st (v := (Sl Bz Bw Ca)) (rv_load1 Tryz.underlying104 rfl rfl hc2) (sm (I (w64 ((Bw.length : Int) - 1))) rfl ?_)
 revert h; refine br fun x3 hx4 h => ?_
 obtain ⟨b6, o7, hi5, -⟩ := (H.own 1 rfl).ix hx4
 refine st (v := (pt b6 o7)) (rv_ix Tryz.underlying104 ti67 rfl rfl hi5) ?_
 obtain ⟨_, ⟨_, _, rfl, rfl, rfl⟩, hl8, hc9⟩ := ((H.own 1 rfl).at hx4 hi5).cells
 refine st (v := (.agg #[(I x3.1), (I x3.2)])) (rv_load Tryz.underlying67 rfl ti67 rfl hl8 hc9) (st_ex (ex_alloc (cs := [(I 0), (I 0)]) H hn0 ti67 rfl) wn ?_)
 rintro _ σ11 ⟨b10, rfl, H, -⟩
 refine st_exS (ex_store_box (k := 0) (cs := [(I 0), (I 0)]) (vs := [(I x3.1), (I x3.2)]) (cs' := [(I x3.1), (I x3.2)]) H (i := 0) rfl ti67 rfl rfl rfl rfl rfl (Nat.le_of_ble_eq_true rfl) (by simp [plain]) rfl) wn ?_
 rintro σ12 ⟨H, -⟩
 refine w_end (q_then (c_seq (rg (sm (pt Cc Cd) rfl (sm (pt Cc Cd) rfl (st (v := (pt Cc Cd)) (rv_nilCheck rfl) ?_))))))
 have hc13 := H.cell (u := (Sl Bz Bw Ca)) (o' := Cd) 1 0 rfl rfl rfl
 refine st (v := (Sl Bz Bw Ca)) (rv_load1 Tryz.underlying104 rfl rfl hc13) (sm (I (w64 ((Bw.length : Int) - 1))) rfl ?_)
 revert h; refine br fun xs14 hx15 h => ?_
 obtain ⟨a16, c17, hs18, -⟩ := (H.own 2 rfl).slice hx15
 refine st (v := (Sl a16 xs14 c17)) (rv_slice_h Tryz.underlying104 ti67 hs18 rfl rfl) (st (v := (pt Cc Cd)) (rv_nilCheck rfl) ?_)
 have hv20 := (H.own 2 rfl).view hx15 hs18
 replace H := (H.front (i := 2) rfl).turn (d := Ch.own 0 0 (Sl a16 xs14 c17) xs14) (fun _ => hv20.1) hv20.2; clear hv20
 refine st_exS (ex_store_box (k := 0) (cs := [(Sl Bz Bw Ca)]) (vs := [(Sl a16 xs14 c17)]) (cs' := [(Sl a16 xs14 c17)]) H (i := 2) rfl ti104 rfl rfl rfl rfl rfl (Nat.le_of_ble_eq_true rfl) (by simp [plain]) rfl) wn ?_
 rintro σ21 ⟨H, -⟩
 refine w_end (q_then (c_seq (rg ?_)))
 have hc22 := H.cells 2 rfl
 refine st (v := (.agg #[(I x3.1), (I x3.2)])) (rv_load (cs := [(I x3.1), (I x3.2)]) Tryz.underlying67 rfl ti67 rfl rfl hc22) (st (v := (.iface 67 (.agg #[(I x3.1), (I x3.2)]))) (rv_makeInterface Tryz.underlying67 rfl rfl) (sa (.iface 67 (.agg #[(I x3.1), (I x3.2)])) rfl (w_end (q_then (c_ret ?_)))))
 obtain rfl := sj h
 exact fin_ret (v := (.iface 67 (.agg #[(I x3.1), (I x3.2)]))) (results_ok Tryz.results188 (res_tmp (v := (.iface 67 (.agg #[(I x3.1), (I x3.2)]))) rfl res_nil) rfl) ⟨a16, c17, rfl, rfl⟩ (H.sel' [0, 1] rfl rfl)

theorem c_container_heap_Pop__impl_hitHeap {Bw : List (Int × Int)} {Bz : Option Addr} {Ca : Nat} {Cb Cc Cd : Nat} {Ce Cf : List Value} {r : ((Int) × (Int)) × (List (Int × Int))} (h : M.container_heap_Pop__impl_hitHeap Bw = some r) :
    Cal2 Tryz.prog 110 [(.iface 121 (pt Cc Cd))] [Ch.bx Cb Cc Cd [(Sl Bz Bw Ca)] Ce Cf, Ch.own 0 0 (Sl Bz Bw Ca) Bw] (fun n0 v L => ∃ (az1 : Option Addr), ∃ (cz2 : Nat), v = (.iface 67 (.agg #[(I r.1.1), (I r.1.2)])) ∧ L = [Ch.bx Cb Cc Cd [(Sl az1 r.2 cz2)] Ce Cf, Ch.own 0 0 (Sl az1 r.2 cz2) r.2]) := by
 refine cal2 (n := 15) Tryz.func110 rfl rfl rfl rfl ?_
 intro S0 σ0 n0 hn0 H
 unfold M.container_heap_Pop__impl_hitHeap at h
 refine c_seq (rg (sa (.nilIface) rfl (w_end (q_then (c_seq (rg (sm (.iface 121 (pt Cc Cd)) rfl ?_)))))))
 revert h; refine br fun r1 hx2 h => ?_
 have hc3 := c_impl_hitHeap_Len (Bz := Bz) (Ca := Ca) hx2
 have hle := Nat.le_trans hn0 H.size
 refine st_call (cx_lend (Loan.lend Loan.nil) hc3 (ent_iv hc3.fn (by kernel_rfl) Tryz.underlying121 Tryz.underlying104 rfl rfl (H.cell (u := (Sl Bz Bw Ca)) (o' := Cd) 0 0 rfl rfl rfl) rfl) (show Hp S0 σ0 _ ([Ch.own 0 0 (Sl Bz Bw Ca) Bw] ++ ([] ++ [Ch.bx Cb Cc Cd [(Sl Bz Bw Ca)] Ce Cf])) from (H.sel' [1, 0] rfl rfl)) (by rintro _ _ _ ⟨rfl, rfl⟩; exact trivial)) wn ?_
 rintro _ σ4 ⟨_, ⟨rfl, rfl⟩, H, -, -⟩
 replace H : Hp _ _ _ [_, _] := H
 clear hle
 replace H : Hp _ _ _ [_, _] := H
 refine st (v := (I (w64 (r1 - 1)))) (rv_sub (a := r1) (b := 1) rfl rfl) (sa (I (w64 (r1 - 1))) rfl (w_end (q_then (c_seq (rg (sm (.iface 121 (pt Cc Cd)) rfl (sm (I (w64 (r1 - 1))) rfl ?_)))))))
 revert h; refine br fun r5 hx6 h => ?_
 have hc7 := c_impl_hitHeap_Swap (Bz := Bz) (Ca := Ca) hx6
 refine st_call (cx_call hc7 (ent_iv hc7.fn (by kernel_rfl) Tryz.underlying121 Tryz.underlying104 rfl rfl (H.cell (u := (Sl Bz Bw Ca)) (o' := Cd) 1 0 rfl rfl rfl) rfl) hn0 (H.sel' [0, 1] rfl rfl : Hp S0 σ0 _ ([_] ++ _))) wn ?_
 rintro _ σ9 ⟨_, ⟨rfl, rfl, hn8⟩, H, -⟩
 replace H : Hp _ _ _ [_, _] := H
 have hsl : (Sl Bz Bw Ca) = (Sl Bz r5 Ca) := sl_len hn8.symm
 try rw [hsl]
 try rw [hsl] at H
 clear hsl
 refine w_end (q_then (c_seq (rg (sm (.iface 121 (pt Cc Cd)) rfl (sm (I (w64 (r1 - 1))) rfl ?_)))))
 revert h; refine br fun r10 hx11 h => ?_
 have hc12 := c_container_heap_down__impl_hitHeap (Cb := Cb) (Cc := Cc) (Cd := Cd) (Ce := Ce) (Cf := Cf) (Bz := Bz) (Ca := Ca) hx11
 refine st_call (cx_call hc12 (ent_f hc12.fn rfl) hn0 (H.sel' [1, 0] rfl rfl : Hp S0 σ0 _ ([_, _] ++ _))) wn ?_
 rintro _ σ15 ⟨_, ⟨a13, c14, rfl, rfl⟩, H, -⟩
 replace H : Hp _ _ _ [_, _] := H
 refine w_end (q_then (c_seq (rg (sm (.iface 121 (pt Cc Cd)) rfl ?_))))
 revert h; refine br fun r16 hx17 h => ?_
 have hc18 := c_impl_hitHeap_Pop (Cb := Cb) (Cc := Cc) (Cd := Cd) (Ce := Ce) (Cf := Cf) (Bz := a13) (Ca := c14) hx17
 refine st_call (cx_call hc18 (ent_ip hc18.fn (by kernel_rfl) Tryz.underlying121 rfl rfl) hn0 (H.sel' [0, 1] rfl rfl : Hp S0 σ0 _ ([_, _] ++ _))) wn ?_
 rintro _ σ21 ⟨_, ⟨a19, c20, rfl, rfl⟩, H, -⟩
 replace H : Hp _ _ _ [_, _] := H
 refine sa (.iface 67 (.agg #[(I r16.1.1), (I r16.1.2)])) rfl (w_end (q_then (c_ret ?_)))
 obtain rfl := sj h
 exact fin_ret (v := (.iface 67 (.agg #[(I r16.1.1), (I r16.1.2)]))) (results_ok Tryz.results110 (res_tmp (v := (.iface 67 (.agg #[(I r16.1.1), (I r16.1.2)]))) rfl res_nil) rfl) ⟨a19, c20, rfl, rfl⟩ (H.sel' [0, 1] rfl rfl)

theorem c_impl_nearestHits_offer {Ap : Int × (List (Int × Int))} {Bi : Int × Int} {Cr : Option Addr} {Cs : Nat} {Ct Cu Cv : Nat} {Cw Cy : List Value} {r : (Int × (List (Int × Int)))} (h : M.impl_nearestHits_offer Ap Bi = some r) :
    Cal2 Tryz.prog 85 [(pt Cu Cv), (.agg #[(I Bi.1), (I Bi.2)])] [Ch.bx Ct Cu Cv [(I Ap.1), (Sl Cr Ap.2 Cs)] Cw Cy, Ch.own 0 0 (Sl Cr Ap.2 Cs) Ap.2] (fun n0 v L => ∃ (az1 : Option Addr), ∃ (cz2 : Nat), v = (.tuple #[]) ∧ L = [Ch.bx Ct Cu Cv [(I r.1), (Sl az1 r.2 cz2)] Cw Cy, Ch.own 0 0 (Sl az1 r.2 cz2) r.2]) := by
 refine cal2 (n := 26) Tryz.func85 rfl rfl rfl rfl ?_
 intro S0 σ0 n0 hn0 H
 unfold M.impl_nearestHits_offer at h
 refine c_seq (rg (st_ex (ex_box (cs := [(I Bi.1), (I Bi.2)]) H hn0 rfl rfl) wn ?_))
 rintro _ σ2 ⟨b1, rfl, H, -⟩
 refine w_end (q_then (c_seq ?_))
 refine rgP (σ := σ2) 6 (by kernel_rfl) (by kernel_rfl) (by kernel_rfl) ?_
 refine sq (v := (pt Cu Cv)) (rv_move rfl) (sq (v := (pt Cu Cv)) (rv_nilCheck rfl) (sq (v := (pt Cu (Cv + 1))) (rv_fieldAddr (off := 1) (ft := 104) Tryz.underlying106 rfl ti104 rfl rfl) (sq (v := (.iface 121 (pt Cu (Cv + 1)))) (rv_makeInterface Tryz.underlying121 rfl rfl) ?_)))
 have hc3 := H.cells 0 rfl
 refine sq (v := (.agg #[(I Bi.1), (I Bi.2)])) (rv_load (cs := [(I Bi.1), (I Bi.2)]) Tryz.underlying67 rfl ti67 rfl rfl hc3) (sq (v := (.iface 67 (.agg #[(I Bi.1), (I Bi.2)]))) (rv_makeInterface Tryz.underlying67 rfl rfl) (sq_end ?_))
 intro σ4 hm5
 replace H := H.grow (hm5.mono fun _ h => h); clear hm5
 replace H := Hp.focus (c1 := [(I Ap.1)]) (c2 := [(Sl Cr Ap.2 Cs)]) (c3 := []) (o' := (Cv + 1)) H 1 rfl rfl
 revert h; refine br fun r6 hx7 h => ?_
 have hc8 := c_container_heap_Push__impl_hitHeap__impl_Hit (Cb := Ct) (Cc := Cu) (Cd := (Cv + 1)) (Ce := (Cw ++ [(I Ap.1)])) (Cf := ([] ++ Cy)) (Bz := Cr) (Ca := Cs) hx7
 refine st_call (cx_call hc8 (ent_f hc8.fn rfl) hn0 (H.sel' [0, 2, 1] rfl rfl : Hp S0 σ0 _ ([_, _] ++ _))) wn ?_
 rintro _ σ11 ⟨_, ⟨a9, c10, rfl, rfl⟩, H, -⟩
 replace H : Hp _ _ _ [_, _, _] := H
 replace H : Hp S0 σ0 σ11 [Ch.bx Ct Cu Cv [(I Ap.1), (Sl a9 r6 c10)] Cw Cy, Ch.own 0 0 (Sl a9 r6 c10) r6, Ch.bx n0 b1 0 [(I Bi.1), (I Bi.2)] [] []] := Hp.unfocus (o := Cv) (c1 := [(I Ap.1)]) (c2 := [(Sl a9 r6 c10)]) (c3 := []) (pre := Cw) (suf := Cy) H 0 rfl rfl
 refine w_end (q_then (c_seq ?_))
 refine rgP (σ := σ11) 9 (by kernel_rfl) (by kernel_rfl) (by kernel_rfl) ?_
 refine sq (v := (pt Cu Cv)) (rv_move rfl) (sq (v := (pt Cu Cv)) (rv_nilCheck rfl) (sq (v := (pt Cu (Cv + 1))) (rv_fieldAddr (off := 1) (ft := 104) Tryz.underlying106 rfl ti104 rfl rfl) ?_))
 have hc12 := H.cell (u := (Sl a9 r6 c10)) (o' := (Cv + 1)) 0 1 rfl rfl rfl
 refine sq (v := (Sl a9 r6 c10)) (rv_load1 Tryz.underlying104 rfl rfl hc12) (sq (v := (I (r6.length : Int))) (rv_len Tryz.underlying104 rfl) (sq (v := (pt Cu Cv)) (rv_move rfl) (sq (v := (pt Cu Cv)) (rv_nilCheck rfl) (sq (v := (pt Cu Cv)) (rv_fieldAddr (off := 0) (ft := 3) Tryz.underlying106 rfl ti3 rfl rfl) ?_))))
 have hc13 := H.cell (u := (I Ap.1)) (o' := Cv) 0 0 rfl rfl rfl
 refine sq (v := (I Ap.1)) (rv_load1 Tryz.underlying3 rfl rfl hc13) (sq_end ?_)
 intro σ14 hm15
 replace H := H.grow (hm15.mono fun _ h => h); clear hm15
 refine st (v := (B (decide (Ap.1 < (r6.length : Int))))) (rv_gtr (a := (r6.length : Int)) (b := Ap.1) rfl rfl) (w_end (q_then ?_))
 refine cd_cond (decide (Ap.1 < (r6.length : Int))) rfl (fun hb16 => ?_) (fun hb16 => ?_)
 ·replace h := bif_t hb16 h
  refine rg (sm (pt Cu Cv) rfl (st (v := (pt Cu Cv)) (rv_nilCheck rfl) (st (v := (pt Cu (Cv + 1))) (rv_fieldAddr (off := 1) (ft := 104) Tryz.underlying106 rfl ti104 rfl rfl) (st (v := (.iface 121 (pt Cu (Cv + 1)))) (rv_makeInterface Tryz.underlying121 rfl rfl) ?_))))
  replace H := Hp.focus (c1 := [(I Ap.1)]) (c2 := [(Sl a9 r6 c10)]) (c3 := []) (o' := (Cv + 1)) H 0 rfl rfl
  revert h; refine br fun r17 hx18 h => ?_
  have hc19 := c_container_heap_Pop__impl_hitHeap (Cb := Ct) (Cc := Cu) (Cd := (Cv + 1)) (Ce := (Cw ++ [(I Ap.1)])) (Cf := ([] ++ Cy)) (Bz := a9) (Ca := c10) hx18
  refine st_call (cx_call hc19 (ent_f hc19.fn rfl) hn0 (H.sel' [0, 1, 2] rfl rfl : Hp S0 σ0 _ ([_, _] ++ _))) wn ?_
  rintro _ σ22 ⟨_, ⟨a20, c21, rfl, rfl⟩, H, -⟩
  replace H : Hp _ _ _ [_, _, _] := H
  replace H : Hp S0 σ0 σ22 [Ch.bx Ct Cu Cv [(I Ap.1), (Sl a20 r17.2 c21)] Cw Cy, Ch.own 0 0 (Sl a20 r17.2 c21) r17.2, Ch.bx n0 b1 0 [(I Bi.1), (I Bi.2)] [] []] := Hp.unfocus (o := Cv) (c1 := [(I Ap.1)]) (c2 := [(Sl a20 r17.2 c21)]) (c3 := []) (pre := Cw) (suf := Cy) H 0 rfl rfl
  refine w_end ?_
  obtain rfl := sj h
  exact fin_end (v := (.tuple #[])) (results_ok Tryz.results85 res_nil rfl) ⟨a20, c21, rfl, rfl⟩ (H.sel' [0, 1] rfl rfl)
 ·replace h := bif_f hb16 h
  refine c_skip ?_
  obtain rfl := sj h
  exact fin_end (v := (.tuple #[])) (results_ok Tryz.results85 res_nil rfl) ⟨a9, c10, rfl, rfl⟩ (H.sel' [0, 1] rfl rfl)

end Go.Vs
