/- The functions compute what their models say. -/
import Derived.Test.YtjmaadoeholmiaaGreatKReachedFromClosedC5
set_option linter.unusedVariables false
set_option linter.unusedSimpArgs false
set_option maxRecDepth 20000
namespace Go.Vs
open Go Go.Proofs
attribute [local irreducible] Code.wp Code.wpIn wpList wpListIn wpQuiet Calls CallsIn

theorem c_spec_validKind {Ar : Int}  {r : Bool} (h : M.spec_validKind Ar = some r) :
    Cal2 Tryz.prog 34 [(I Ar)] [] (fun n0 v L => v = (B r) ∧ L = []) := by
 refine cal2 (n := 5) Tryz.func34 rfl rfl rfl rfl ?_
 intro S0 σ0 n0 hn0 H
 unfold M.spec_validKind at h
 refine c_seq (rg (sa (B false) rfl (w_end (q_then (c_seq (rg (sm (I Ar) rfl ?_)))))))
 revert h; refine br fun r1 hx2 h => ?_
 have hc3 := c_spec_inRange hx2
 refine st_call (cx_call hc3 (ent_f hc3.fn rfl) hn0 (H.sel' [] rfl rfl : Hp S0 σ0 _ ([] ++ _))) wn ?_
 rintro _ σ4 ⟨_, ⟨rfl, rfl⟩, H, -⟩
 replace H : Hp _ _ _ [] := H
 refine sa (B r1) rfl (w_end (q_then (c_ret ?_)))
 obtain rfl := sj h
 exact fin_ret (v := (B r1)) (results_ok Tryz.results34 (res_tmp (v := (B r1)) rfl res_nil) rfl) ⟨rfl, rfl⟩ (H.sel' [] rfl rfl)

theorem c_spec_size {Fp : Int}  {r : Int} (h : M.spec_size Fp = some r) :
    Cal2 Tryz.prog 98 [(I Fp)] [] (fun n0 v L => v = (I r) ∧ L = []) := by
 refine cal2 (n := 7) Tryz.func98 rfl rfl rfl rfl ?_
 intro S0 σ0 n0 hn0 H
 unfold M.spec_size at h
 refine c_seq (rg (sa (I 0) rfl (w_end (q_then (c_seq (rg (sm (I Fp) rfl (sm (I Fp) rfl (st (v := (I (w64 (0 - Fp)))) (rv_neg (a := Fp) rfl) (st (v := (I (max Fp (w64 (0 - Fp))))) (rv_max rfl rfl) (sa (I (max Fp (w64 (0 - Fp)))) rfl ?_)))))))))))
 refine w_end (q_then (c_ret ?_))
 obtain rfl := sj h
 exact fin_ret (v := (I (max Fp (w64 (0 - Fp))))) (results_ok Tryz.results98 (res_tmp (v := (I (max Fp (w64 (0 - Fp))))) rfl res_nil) rfl) ⟨rfl, rfl⟩ (H.sel' [] rfl rfl)

theorem c_spec_toInt {Fv : Bool}  {r : Int} (h : M.spec_toInt Fv = some r) :
    Cal2 Tryz.prog 99 [(B Fv)] [] (fun n0 v L => v = (I r) ∧ L = []) := by
 refine cal2 (n := 4) Tryz.func99 rfl rfl rfl rfl ?_
 intro S0 σ0 n0 hn0 H
 unfold M.spec_toInt at h
 refine c_seq (rg (sa (I 0) rfl (w_end (q_then (c_seq (c_seq (rg (sm (B Fv) rfl (w_end (q_then ?_))))))))))
 refine cd_cond Fv rfl (fun hb1 => ?_) (fun hb1 => ?_)
 ·replace h := bif_t hb1 h
  refine c_seq (rg (sa (I 1) rfl (w_end (q_then (c_ret (q_then_r ?_))))))
  obtain rfl := sj h
  exact fin_ret (v := (I 1)) (results_ok Tryz.results99 (res_tmp (v := (I 1)) rfl res_nil) rfl) ⟨rfl, rfl⟩ (H.sel' [] rfl rfl)
 ·replace h := bif_f hb1 h
  refine c_skip (q_then (c_seq (rg (sa (I 0) rfl (w_end (q_then (c_ret ?_)))))))
  obtain rfl := sj h
  exact fin_ret (v := (I 0)) (results_ok Tryz.results99 (res_tmp (v := (I 0)) rfl res_nil) rfl) ⟨rfl, rfl⟩ (H.sel' [] rfl rfl)

theorem c_spec_dist {Ar : Int} {Bk : List Int} {Bl : List Int} {Bm : Option Addr} {Bn : Nat} {Bo : Option Addr} {Bp : Nat} {r : Int} (h : M.spec_dist Ar Bk Bl = some r) :
    Cal2 Tryz.prog 80 [(I Ar), (Sl Bm Bk Bn), (Sl Bo Bl Bp)] [Ch.ro 0 (Sl Bm Bk Bn) Bk, Ch.ro 0 (Sl Bo Bl Bp) Bl] (fun n0 v L => v = (I r) ∧ L = []) := by
 refine cal2 (n := 50) Tryz.func80 rfl rfl rfl rfl ?_
 intro S0 σ0 n0 hn0 H
 unfold M.spec_dist at h
 refine c_seq (rg (sa (I 0) rfl (w_end (q_then (c_seq (rg (sa (I 0) rfl (w_end (q_then (c_seq (c_seq ?_)))))))))))
 refine rg (sa (I 0) rfl (w_end (q_then ?_)))
 obtain ⟨o1, hj, h'⟩ := bind_some h
 clear h
 refine c_cut (fun e a w => e = .normal ∧ ∃ (ρ : Nat → Value) (σ : St), a = fr 50 (updL ρ [(7, (I o1))]) ∧ w = σ.w ∧ Hp S0 σ0 σ []) ?_ ?_
 ·clear h'
  rename _ = some o1 => h
  refine c_blk (wp_loopM _ h (fun s2 a w => ∃ (ρ : Nat → Value) (σ : St), a = fr 50 (updL ρ [(0, (I Ar)), (1, (Sl Bm Bk Bn)), (2, (Sl Bo Bl Bp)), (7, (I s2.1)), (8, (I s2.2))]) ∧ w = σ.w ∧ Hp S0 σ0 σ [Ch.ro 0 (Sl Bm Bk Bn) Bk, Ch.ro 0 (Sl Bo Bl Bp) Bl]) ⟨_, σ0, fr_join ⟨rfl, rfl, rfl, rfl, rfl, trivial⟩, rfl, H.sel' [0, 1] rfl rfl⟩ ?_)
  clear h H
  rintro s2 a w o ⟨ρ, σ3, rfl, rfl, H⟩ h hres
  refine c_seq (c_seq (rg (sm (I s2.2) rfl (sm (Sl Bm Bk Bn) rfl (st (v := (I (Bk.length : Int))) (rv_len Tryz.underlying31 rfl) (st (v := (B (decide (s2.2 < (Bk.length : Int))))) (rv_lss (a := s2.2) (b := (Bk.length : Int)) rfl rfl) (w_end (q_then ?_))))))))
  refine cd_cond (decide (s2.2 < (Bk.length : Int))) rfl (fun hb4 => ?_) (fun hb4 => ?_)
  ·replace h := bif_t hb4 h
   refine c_skip (q_then (c_seq ?_))
   obtain ⟨o5, hj, h'⟩ := bind_some h
   clear h
   refine c_cut (fun e a w => e = .normal ∧ ∃ (ρ : Nat → Value) (σ : St), a = fr 50 (updL ρ [(0, (I Ar)), (1, (Sl Bm Bk Bn)), (2, (Sl Bo Bl Bp)), (7, (I o5)), (8, (I s2.2))]) ∧ w = σ.w ∧ Hp S0 σ0 σ [Ch.ro 0 (Sl Bm Bk Bn) Bk, Ch.ro 0 (Sl Bo Bl Bp) Bl]) ?_ ?_
   ·clear h'
    rename _ = some o5 => h
    refine c_blk (c_seq ?_)
    refine rgP (σ := σ3) 8 (by kernel_rfl) (by kernel_rfl) (by kernel_rfl) ?_
    refine sq (v := (Sl Bm Bk Bn)) (rv_move rfl) (sq (v := (I s2.2)) (rv_move rfl) ?_)
    revert h; refine br fun x6 hx7 h => ?_
    obtain ⟨b9, o10, hi8, -⟩ := (H.ro 0 rfl).ix hx7
    refine sq (v := (pt b9 o10)) (rv_ix Tryz.underlying31 ti3 rfl rfl hi8) ?_
    have hc11 := ((H.ro 0 rfl).at hx7 hi8).int
    refine sq (v := (I x6)) (rv_load1 Tryz.underlying3 rfl rfl hc11) (sq (v := (Sl Bo Bl Bp)) (rv_move rfl) (sq (v := (I s2.2)) (rv_move rfl) ?_))
    revert h; refine br fun x12 hx13 h => ?_
    obtain ⟨b15, o16, hi14, -⟩ := (H.ro 1 rfl).ix hx13
    refine sq (v := (pt b15 o16)) (rv_ix Tryz.underlying31 ti3 rfl rfl hi14) ?_
    have hc17 := ((H.ro 1 rfl).at hx13 hi14).int
    refine sq (v := (I x12)) (rv_load1 Tryz.underlying3 rfl rfl hc17) (sq_end ?_)
    intro σ18 hm19
    replace H := H.grow (hm19.mono fun _ h => h); clear hm19
    refine st (v := (I (w64 (x6 - x12)))) (rv_sub (a := x6) (b := x12) rfl rfl) ?_
    revert h; refine br fun r20 hx21 h => ?_
    have hc22 := c_spec_size hx21
    refine st_call (cx_call hc22 (ent_f hc22.fn rfl) hn0 (H.sel' [0, 1] rfl rfl : Hp S0 σ0 _ ([] ++ _))) wn ?_
    rintro _ σ23 ⟨_, ⟨rfl, rfl⟩, H, -⟩
    replace H : Hp _ _ _ [_, _] := H
    refine sa (I r20) rfl (w_end (q_then (c_seq (rg (sm (I Ar) rfl (w_end (q_then (c_blk (c_seq (rg (st (v := (B (Ar == 1))) (rv_eql (a := Ar) (b := 1) rfl rfl) ?_)))))))))))
    refine sa (B (Ar == 1)) rfl (w_end (q_then ?_))
    refine cd_cond (Ar == 1) rfl (fun hb24 => ?_) (fun hb24 => ?_)
    ·replace h := bif_t hb24 h
     refine rg (sm (I s2.1) rfl (sm (I r20) rfl (st (v := (I (w64 (s2.1 + r20)))) (rv_add (a := s2.1) (b := r20) rfl rfl) (sa (I (w64 (s2.1 + r20))) rfl (w_end (q_blk (q_blk ?_)))))))
     obtain rfl := sj h
     exact ⟨rfl, _, σ23, fr_join ⟨rfl, rfl, rfl, rfl, rfl, trivial⟩, rfl, H.sel' [0, 1] rfl rfl⟩
    ·replace h := bif_f hb24 h
     refine c_seq (rg (st (v := (B (Ar == 2))) (rv_eql (a := Ar) (b := 2) rfl rfl) (sa (B (Ar == 2)) rfl (w_end (q_then ?_)))))
     refine cd_cond (Ar == 2) rfl (fun hb25 => ?_) (fun hb25 => ?_)
     ·replace h := bif_t hb25 h
      refine rg (sm (I s2.1) rfl (sm (I r20) rfl (st (v := (I (max s2.1 r20))) (rv_max rfl rfl) (sa (I (max s2.1 r20)) rfl (w_end (q_blk (q_blk ?_)))))))
      obtain rfl := sj h
      exact ⟨rfl, _, σ23, fr_join ⟨rfl, rfl, rfl, rfl, rfl, trivial⟩, rfl, H.sel' [0, 1] rfl rfl⟩
     ·replace h := bif_f hb25 h
      refine c_seq (rg (st (v := (B (Ar == 3))) (rv_eql (a := Ar) (b := 3) rfl rfl) (sa (B (Ar == 3)) rfl (w_end (q_then ?_)))))
      refine cd_cond (Ar == 3) rfl (fun hb26 => ?_) (fun hb26 => ?_)
      ·replace h := bif_t hb26 h
       refine rg (sm (I s2.1) rfl (sm (I r20) rfl (sm (I r20) rfl (st (v := (I (w64 (r20 * r20)))) (rv_mul (a := r20) (b := r20) rfl rfl) (st (v := (I (w64 (s2.1 + (w64 (r20 * r20)))))) (rv_add (a := s2.1) (b := (w64 (r20 * r20))) rfl rfl) (sa (I (w64 (s2.1 + (w64 (r20 * r20))))) rfl (w_end (q_blk (q_blk ?_)))))))))
       obtain rfl := sj h
       exact ⟨rfl, _, σ23, fr_join ⟨rfl, rfl, rfl, rfl, rfl, trivial⟩, rfl, H.sel' [0, 1] rfl rfl⟩
      ·replace h := bif_f hb26 h
       refine rg (sm (I s2.1) rfl (sm (I r20) rfl (st (v := (B (decide (0 < r20)))) (rv_gtr (a := r20) (b := 0) rfl rfl) ?_)))
       revert h; refine br fun r27 hx28 h => ?_
       have hc29 := c_spec_toInt hx28
       refine st_call (cx_call hc29 (ent_f hc29.fn rfl) hn0 (H.sel' [0, 1] rfl rfl : Hp S0 σ0 _ ([] ++ _))) wn ?_
       rintro _ σ30 ⟨_, ⟨rfl, rfl⟩, H, -⟩
       replace H : Hp _ _ _ [_, _] := H
       refine st (v := (I (w64 (s2.1 + r27)))) (rv_add (a := s2.1) (b := r27) rfl rfl) (sa (I (w64 (s2.1 + r27))) rfl (w_end (q_blk (q_blk ?_))))
       obtain rfl := sj h
       exact ⟨rfl, _, σ30, fr_join ⟨rfl, rfl, rfl, rfl, rfl, trivial⟩, rfl, H.sel' [0, 1] rfl rfl⟩
   ·clear hj
    have h := h'
    clear h' H
    rintro e a w ⟨rfl, ρ, σ31, rfl, rfl, H⟩
    refine q_then (rg (sm (I s2.2) rfl (st (v := (I (w64 (s2.2 + 1)))) (rv_add (a := s2.2) (b := 1) rfl rfl) (sa (I (w64 (s2.2 + 1))) rfl (w_end (q_then ?_))))))
    obtain rfl := sj h
    exact ⟨_, rfl, _, σ31, fr_join ⟨rfl, rfl, rfl, rfl, rfl, trivial⟩, rfl, H.sel' [0, 1] rfl rfl⟩
  ·replace h := bif_f hb4 h
   refine c_exit (q_then_x (q_then_x (q_blk_hit ?_)))
   obtain rfl := sj h
   obtain rfl := hres _ rfl
   exact ⟨rfl, _, σ3, fr_join ⟨rfl, trivial⟩, rfl, H.sel' [] rfl rfl⟩
 ·clear hj
  have h := h'
  clear h' H
  rintro e a w ⟨rfl, ρ, σ32, rfl, rfl, H⟩
  refine q_then (c_seq (rg (sm (I o1) rfl (sa (I o1) rfl (w_end (q_then (c_ret ?_)))))))
  obtain rfl := sj h
  exact fin_ret (v := (I o1)) (results_ok Tryz.results80 (res_tmp (v := (I o1)) rfl res_nil) rfl) ⟨rfl, rfl⟩ (H.sel' [] rfl rfl)

theorem c_spec_hit {Aj : Int × (List Int) × Int} {As : Int} {Bq : List Int} {Ak : Option Addr} {Am : Nat} {Br : Option Addr} {Bs : Nat} {r : (Int × Int)} (h : M.spec_hit Aj As Bq = some r) :
    Cal2 Tryz.prog 50 [(.agg #[(I Aj.1), (Sl Ak Aj.2.1 Am), (I Aj.2.2)]), (I As), (Sl Br Bq Bs)] [Ch.ro 0 (Sl Ak Aj.2.1 Am) Aj.2.1, Ch.ro 0 (Sl Br Bq Bs) Bq] (fun n0 v L => v = (.agg #[(I r.1), (I r.2)]) ∧ L = []) := by
 refine cal2 (n := 15) Tryz.func50 rfl rfl rfl rfl ?_
 intro S0 σ0 n0 hn0 H
 unfold M.spec_hit at h
 refine c_seq (rg (st_ex (ex_box (cs := [(I Aj.1), (Sl Ak Aj.2.1 Am), (I Aj.2.2)]) H hn0 rfl rfl) wn ?_))
 rintro _ σ2 ⟨b1, rfl, H, -⟩
 refine st_ex (ex_alloc (cs := [(I 0), (I 0)]) H hn0 ti47 rfl) wn ?_
 rintro _ σ4 ⟨b3, rfl, H, -⟩
 refine w_end (q_then (c_seq ?_))
 have hc5 := H.cell (u := (I Aj.1)) (o' := 0) 1 0 rfl rfl rfl
 have hc6 := H.cell (u := (Sl Ak Aj.2.1 Am)) (o' := 1) 1 1 rfl rfl rfl
 revert h; refine br fun r7 hx8 h => ?_
 have hc9 := c_spec_dist (Bm := Ak) (Bn := Am) (Bo := Br) (Bp := Bs) hx8
 have Hs := H
 refine rg2 (σ := σ4) (Nm := Unit) 7 [6] [[false], [true]] [[(0, 0), (1, 1)], [(0, 0), (1, 1)], [(0, 0)], [(0, 0)], [(0, 0)], [(0, 0)], [(0, 1)]] 1 [fun _ => fun σm => Hp S0 σ0 σm [Ch.bx n0 b3 0 [(I 0), (I 0)] [] [], Ch.bx n0 b1 0 [(I Aj.1), (Sl Ak Aj.2.1 Am), (I Aj.2.2)] [] [], Ch.ro 0 (Sl Ak Aj.2.1 Am) Aj.2.1, Ch.ro 0 (Sl Br Bq Bs) Bq] ∧ Md (cov []) σ4 σm, fun _ => fun σm => Hp S0 σ0 σm [Ch.bx n0 b3 0 [(I 0), (I 0)] [] [], Ch.bx n0 b1 0 [(I Aj.1), (Sl Ak Aj.2.1 Am), (I Aj.2.2)] [] [], Ch.ro 0 (Sl Ak Aj.2.1 Am) Aj.2.1, Ch.ro 0 (Sl Br Bq Bs) Bq] ∧ Md (cov []) σ4 σm] [fun _ => (pt b1 0), fun _ => (I Aj.1), fun _ => (I As), fun _ => (pt b1 1), fun _ => (Sl Ak Aj.2.1 Am), fun _ => (Sl Br Bq Bs), fun _ => (I r7)] () (by kernel_rfl) (by kernel_rfl) ?_ ?_ ?_
 ·intro σm m0
  exact ⟨H.grow (m0.mono fun _ h => h.elim), m0⟩
 ·refine ac rfl (by
    intro k _nm ρ σm hJ hoff hdep
    have e3 := look_off (N := 15) (hoff 3 rfl) rfl
    exact dp_v (v := (pt b1 0)) wn (rv_fieldAddr (off := 0) (ft := 3) Tryz.underlying33 rfl ti3 rfl e3) rfl hJ) ?_
  refine all_cons (by
    refine ⟨?_, ?_⟩
    ·intro _nm ρ σm hJ hoff hdep
     have e7 := hdep 0 rfl rfl 7 rfl
     obtain ⟨H, m⟩ := id hJ
     have hc5 := H.cell (u := (I Aj.1)) (o' := 0) 1 0 rfl rfl rfl
     exact dp_v (v := (I Aj.1)) wn (rv_load1 Tryz.underlying3 rfl e7 hc5) rfl hJ
    refine ⟨?_, ?_⟩
    ·intro _nm ρ σm hJ hoff hdep
     have e7 := hdep 0 rfl rfl 7 rfl
     obtain ⟨H, m⟩ := id hJ
     have hc5 := H.cell (u := (I Aj.1)) (o' := 0) 1 0 rfl rfl rfl
     exact dp_v (v := (I Aj.1)) wn (rv_load1 Tryz.underlying3 rfl e7 hc5) rfl hJ
    trivial) ?_
  refine ac rfl (by
    intro k _nm ρ σm hJ hoff hdep
    have e1 := look_off (N := 15) (hoff 1 rfl) rfl
    exact dp_v (v := (I As)) wn (rv_move e1) rfl hJ) ?_
  refine ac rfl (by
    intro k _nm ρ σm hJ hoff hdep
    have e3 := look_off (N := 15) (hoff 3 rfl) rfl
    exact dp_v (v := (pt b1 1)) wn (rv_fieldAddr (off := 1) (ft := 31) Tryz.underlying33 rfl ti31 rfl e3) rfl hJ) ?_
  refine all_cons (by
    refine ⟨?_, ?_⟩
    ·intro _nm ρ σm hJ hoff hdep
     have e10 := hdep 3 rfl rfl 10 rfl
     obtain ⟨H, m⟩ := id hJ
     have hc6 := H.cell (u := (Sl Ak Aj.2.1 Am)) (o' := 1) 1 1 rfl rfl rfl
     exact dp_v (v := (Sl Ak Aj.2.1 Am)) wn (rv_load1 Tryz.underlying31 rfl e10 hc6) rfl hJ
    trivial) ?_
  refine ac rfl (by
    intro k _nm ρ σm hJ hoff hdep
    have e2 := look_off (N := 15) (hoff 2 rfl) rfl
    exact dp_v (v := (Sl Br Bq Bs)) wn (rv_move e2) rfl hJ) ?_
  refine all_cons (by
    refine ⟨?_, ?_⟩
    ·intro _nm ρ σm hJ hoff hdep
     have e9 : look 15 ρ 9 = (I As) := hdep 2 rfl rfl 9 rfl
     have e11 : look 15 ρ 11 = (Sl Ak Aj.2.1 Am) := hdep 4 rfl rfl 11 rfl
     have e12 : look 15 ρ 12 = (Sl Br Bq Bs) := hdep 5 rfl rfl 12 rfl
     obtain ⟨H, m⟩ := id hJ
     refine dp_cx wn (cx_call hc9 (ent_f hc9.fn (by show [look 15 ρ 9, look 15 ρ 11, look 15 ρ 12] = _; rw [e9, e11, e12])) hn0 (H.sel' [2, 3, 0, 1, 2, 3] rfl rfl : Hp S0 σ0 _ ([_, _] ++ _))) ?_
     rintro _ σq ⟨_, ⟨rfl, rfl⟩, H2, m2⟩
     exact ⟨_, (), rfl, rfl, ⟨H2.sel' [0, 1, 2, 3] rfl rfl, m.comp0 (m2.mono (fun i h => by simp [cov, Ch.ro] at h))⟩, stab [0, 1, 2, 3, 4, 5] (by kernel_rfl) ⟨rfl, rfl, rfl, rfl, rfl, rfl, trivial⟩⟩
    trivial) ?_
  exact all_nil
 ·intro _nm ρ σ10 hJ hoff hrel
  have e6 := look_off (N := 15) (hoff 6 rfl) rfl
  have e8 := hrel 1 rfl 8 rfl
  have e13 := hrel 6 rfl 13 rfl
  obtain ⟨H, -⟩ := (show Hp S0 σ0 σ10 [Ch.bx n0 b3 0 [(I 0), (I 0)] [] [], Ch.bx n0 b1 0 [(I Aj.1), (Sl Ak Aj.2.1 Am), (I Aj.2.2)] [] [], Ch.ro 0 (Sl Ak Aj.2.1 Am) Aj.2.1, Ch.ro 0 (Sl Br Bq Bs) Bq] ∧ Md (cov []) σ4 σ10 from hJ)
  clear hJ Hs
  rw [fr_lookL (L := [(6, (pt b3 0)), (8, (I Aj.1)), (13, (I r7))]) ⟨e6, e8, e13, trivial⟩]
  clear hoff hrel e6 e8 e13
  refine st (v := (.agg #[(I Aj.1), (I r7)])) (rv_build (ps := [(0, (I Aj.1)), (1, (I r7))]) Tryz.underlying47 ti47 (bp47 Tryz.underlying47) rfl (by kernel_rfl)) ?_
  refine st_exS (ex_store_box (k := 0) (cs := [(I 0), (I 0)]) (vs := [(I Aj.1), (I r7)]) (cs' := [(I Aj.1), (I r7)]) H (i := 0) rfl ti47 rfl rfl rfl rfl rfl (Nat.le_of_ble_eq_true rfl) (by simp [plain]) rfl) wn ?_
  rintro σ11 ⟨H, -⟩
  refine w_end (q_then (c_ret ?_))
  obtain rfl := sj h
  exact fin_ret (v := (.agg #[(I Aj.1), (I r7)])) (results_ok Tryz.results50 (res_cell rfl (run_cellRes (cs := [(I Aj.1), (I r7)]) Tryz.underlying47 rfl ti47 rfl (H.cells 0 rfl)) res_nil) rfl) ⟨rfl, rfl⟩ (H.sel' [] rfl rfl)

theorem c_spec_nearer {Be : Int × Int} {Bf : Int × Int}  {r : Bool} (h : M.spec_nearer Be Bf = some r) :
    Cal2 Tryz.prog 51 [(.agg #[(I Be.1), (I Be.2)]), (.agg #[(I Bf.1), (I Bf.2)])] [] (fun n0 v L => v = (B r) ∧ L = []) := by
 refine cal2 (n := 24) Tryz.func51 rfl rfl rfl rfl ?_
 intro S0 σ0 n0 hn0 H
 unfold M.spec_nearer at h
 refine c_seq (rg (st_ex (ex_box (cs := [(I Be.1), (I Be.2)]) H hn0 rfl rfl) wn ?_))
 rintro _ σ2 ⟨b1, rfl, H, -⟩
 refine st_ex (ex_box (cs := [(I Bf.1), (I Bf.2)]) H hn0 rfl rfl) wn ?_
 rintro _ σ4 ⟨b3, rfl, H, -⟩
 refine sa (B false) rfl (w_end (q_then (c_seq (rg (st (v := (pt b1 1)) (rv_fieldAddr (off := 1) (ft := 3) Tryz.underlying47 rfl ti3 rfl rfl) ?_)))))
 have hc5 := H.cell (u := (I Be.2)) (o' := 1) 1 1 rfl rfl rfl
 refine st (v := (I Be.2)) (rv_load1 Tryz.underlying3 rfl rfl hc5) (st (v := (pt b3 1)) (rv_fieldAddr (off := 1) (ft := 3) Tryz.underlying47 rfl ti3 rfl rfl) ?_)
 have hc6 := H.cell (u := (I Bf.2)) (o' := 1) 0 1 rfl rfl rfl
 refine st (v := (I Bf.2)) (rv_load1 Tryz.underlying3 rfl rfl hc6) (st (v := (B (decide (Be.2 < Bf.2)))) (rv_lss (a := Be.2) (b := Bf.2) rfl rfl) (sm (B (decide (Be.2 < Bf.2))) rfl ?_))
 rcases Bool.eq_false_or_eq_true (decide (Be.2 < Bf.2)) with hb7 | hb7
 ·replace h := bif_t hb7 h
  refine st_skip (congrArg some hb7) (st_skip (congrArg some hb7) (st_skip (congrArg some hb7) (st_skip (congrArg some hb7) (st_skip (congrArg some hb7) (st_skip (congrArg some hb7) (st_skip_u rfl (st_skip_u rfl (st_skip_u rfl (st_skip_u rfl (st_skip_u rfl (st_skip (congrArg some hb7) ?_)))))))))))
  refine st (v := (B true)) (rv_pick_t (congrArg B hb7) rfl) (sa (B true) rfl (w_end (q_then (c_ret ?_))))
  obtain rfl := sj h
  exact fin_ret (v := (B true)) (results_ok Tryz.results51 (res_tmp (v := (B true)) rfl res_nil) rfl) ⟨rfl, rfl⟩ (H.sel' [] rfl rfl)
 ·replace h := bif_f hb7 h
  refine st_g (v := (pt b1 1)) (congrArg some hb7) (rv_fieldAddr (off := 1) (ft := 3) Tryz.underlying47 rfl ti3 rfl rfl) ?_
  have hc8 := H.cell (u := (I Be.2)) (o' := 1) 1 1 rfl rfl rfl
  refine st_g (v := (I Be.2)) (congrArg some hb7) (rv_load1 Tryz.underlying3 rfl rfl hc8) (st_g (v := (pt b3 1)) (congrArg some hb7) (rv_fieldAddr (off := 1) (ft := 3) Tryz.underlying47 rfl ti3 rfl rfl) ?_)
  have hc9 := H.cell (u := (I Bf.2)) (o' := 1) 0 1 rfl rfl rfl
  refine st_g (v := (I Bf.2)) (congrArg some hb7) (rv_load1 Tryz.underlying3 rfl rfl hc9) (st_g (v := (B (Be.2 == Bf.2))) (congrArg some hb7) (rv_eql (a := Be.2) (b := Bf.2) rfl rfl) (st_g (v := (B (Be.2 == Bf.2))) (congrArg some hb7) (rv_move rfl) ?_))
  rcases Bool.eq_false_or_eq_true (Be.2 == Bf.2) with hb10 | hb10
  ·replace h := bif_t hb10 h
   refine st_g (v := (pt b1 0)) (congrArg some hb10) (rv_fieldAddr (off := 0) (ft := 3) Tryz.underlying47 rfl ti3 rfl rfl) ?_
   have hc11 := H.cell (u := (I Be.1)) (o' := 0) 1 0 rfl rfl rfl
   refine st_g (v := (I Be.1)) (congrArg some hb10) (rv_load1 Tryz.underlying3 rfl rfl hc11) (st_g (v := (pt b3 0)) (congrArg some hb10) (rv_fieldAddr (off := 0) (ft := 3) Tryz.underlying47 rfl ti3 rfl rfl) ?_)
   have hc12 := H.cell (u := (I Bf.1)) (o' := 0) 0 0 rfl rfl rfl
   refine st_g (v := (I Bf.1)) (congrArg some hb10) (rv_load1 Tryz.underlying3 rfl rfl hc12) (st_g (v := (B (decide (Be.1 < Bf.1)))) (congrArg some hb10) (rv_lss (a := Be.1) (b := Bf.1) rfl rfl) (st_g (v := (B (decide (Be.1 < Bf.1)))) (congrArg some hb7) (rv_pick_t (congrArg B hb10) rfl) (st (v := (B (decide (Be.1 < Bf.1)))) (rv_pick_f (congrArg B hb7) rfl) (sa (B (decide (Be.1 < Bf.1))) rfl (w_end (q_then (c_ret ?_)))))))
   obtain rfl := sj h
   exact fin_ret (v := (B (decide (Be.1 < Bf.1)))) (results_ok Tryz.results51 (res_tmp (v := (B (decide (Be.1 < Bf.1)))) rfl res_nil) rfl) ⟨rfl, rfl⟩ (H.sel' [] rfl rfl)
  ·replace h := bif_f hb10 h
   refine st_skip (congrArg some hb10) (st_skip (congrArg some hb10) (st_skip (congrArg some hb10) (st_skip (congrArg some hb10) (st_skip (congrArg some hb10) (st_g (v := (B false)) (congrArg some hb7) (rv_pick_f (congrArg B hb10) rfl) (st (v := (B false)) (rv_pick_f (congrArg B hb7) rfl) (sa (B false) rfl (w_end (q_then (c_ret ?_))))))))))
   obtain rfl := sj h
   exact fin_ret (v := (B false)) (results_ok Tryz.results51 (res_tmp (v := (B false)) rfl res_nil) rfl) ⟨rfl, rfl⟩ (H.sel' [] rfl rfl)

theorem c_spec_addHit {Ao : List (Int × Int)} {Fw : Int × Int} {Fx : Int} {Ap : Option Addr} {Aq : Nat} {r : (List (Int × Int))} (h : M.spec_addHit Ao Fw Fx = some r) :
    Cal2 Tryz.prog 66 [(Sl Ap Ao Aq), (.agg #[(I Fw.1), (I Fw.2)]), (I Fx)] [Ch.ro 0 (Sl Ap Ao Aq) Ao] (fun n0 v L => ∃ (az1 : Option Addr), ∃ (cz2 : Nat), v = (Sl az1 r cz2) ∧ L = [Ch.own n0 n0 (Sl az1 r cz2) r]) := by
 refine cal2 (n := 58) Tryz.func66 rfl rfl rfl rfl ?_
 intro S0 σ0 n0 hn0 H
 unfold M.spec_addHit at h
 refine c_seq (rg (st_ex (ex_box (cs := [(I Fw.1), (I Fw.2)]) H hn0 rfl rfl) wn ?_))
 rintro _ σ2 ⟨b1, rfl, H, -⟩
 refine sa (.slice none 0 0) rfl (w_end (q_then (c_seq ?_)))
 revert h; refine br fun xs4 hx5 h => ?_
 have hc8 := H.cells 0 rfl
 have Hs := H
 refine rg2 (σ := σ2) (Nm := (Nat) × (Option Addr) × (Nat) × (Nat)) 5 [0, 2, 4] [[false, false, false], [true, false, false], [false, false, true], [true, true, false], [true, false, true], [true, true, true]] [[(0, 1), (2, 4)], [(0, 0), (1, 1), (2, 2), (4, 4)], [(1, 3), (4, 5)], [(0, 0), (1, 1), (3, 3)], [(0, 2), (1, 4), (3, 5)]] 5 [fun ((b3, a6, c7, b9) : (Nat) × (Option Addr) × (Nat) × (Nat)) => fun σm => Hp S0 σ0 σm [Ch.bx n0 b1 0 [(I Fw.1), (I Fw.2)] [] [], Ch.ro 0 (Sl Ap Ao Aq) Ao] ∧ Md (cov []) σ2 σm, fun ((b3, a6, c7, b9) : (Nat) × (Option Addr) × (Nat) × (Nat)) => fun σm => Hp S0 σ0 σm [Ch.own n0 n0 (Sl (some ⟨b3, 0, none⟩) ([] : List (Int × Int)) 0) ([] : List (Int × Int)), Ch.bx n0 b1 0 [(I Fw.1), (I Fw.2)] [] [], Ch.ro 0 (Sl Ap Ao Aq) Ao] ∧ Md (cov []) σ2 σm, fun ((b3, a6, c7, b9) : (Nat) × (Option Addr) × (Nat) × (Nat)) => fun σm => Hp S0 σ0 σm [Ch.own n0 n0 (Sl (some ⟨b9, 0, none⟩) ([(Fw.1, Fw.2)] : List (Int × Int)) 1) ([(Fw.1, Fw.2)] : List (Int × Int)), Ch.bx n0 b1 0 [(I Fw.1), (I Fw.2)] [] [], Ch.ro 0 (Sl Ap Ao Aq) Ao] ∧ Md (cov []) σ2 σm, fun ((b3, a6, c7, b9) : (Nat) × (Option Addr) × (Nat) × (Nat)) => fun σm => Hp S0 σ0 σm [Ch.own n0 n0 (Sl a6 xs4 c7) xs4, Ch.bx n0 b1 0 [(I Fw.1), (I Fw.2)] [] [], Ch.ro 0 (Sl Ap Ao Aq) Ao] ∧ Md (fun i => (cov []) i ∨ (fun b => blk (Sl (some ⟨b3, 0, none⟩) ([] : List (Int × Int)) 0) = some b) i) σ2 σm, fun ((b3, a6, c7, b9) : (Nat) × (Option Addr) × (Nat) × (Nat)) => fun σm => Hp S0 σ0 σm [Ch.own n0 n0 (Sl (some ⟨b9, 0, none⟩) ([(Fw.1, Fw.2)] : List (Int × Int)) 1) ([(Fw.1, Fw.2)] : List (Int × Int)), Ch.own n0 n0 (Sl (some ⟨b3, 0, none⟩) ([] : List (Int × Int)) 0) ([] : List (Int × Int)), Ch.bx n0 b1 0 [(I Fw.1), (I Fw.2)] [] [], Ch.ro 0 (Sl Ap Ao Aq) Ao] ∧ Md (cov []) σ2 σm, fun ((b3, a6, c7, b9) : (Nat) × (Option Addr) × (Nat) × (Nat)) => fun σm => Hp S0 σ0 σm [Ch.own n0 n0 (Sl (some ⟨b9, 0, none⟩) ([(Fw.1, Fw.2)] : List (Int × Int)) 1) ([(Fw.1, Fw.2)] : List (Int × Int)), Ch.own n0 n0 (Sl a6 xs4 c7) xs4, Ch.bx n0 b1 0 [(I Fw.1), (I Fw.2)] [] [], Ch.ro 0 (Sl Ap Ao Aq) Ao] ∧ Md (fun i => (cov []) i ∨ (fun b => blk (Sl (some ⟨b3, 0, none⟩) ([] : List (Int × Int)) 0) = some b) i) σ2 σm] [fun ((b3, a6, c7, b9) : (Nat) × (Option Addr) × (Nat) × (Nat)) => (Sl (some ⟨b3, 0, none⟩) ([] : List (Int × Int)) 0), fun ((b3, a6, c7, b9) : (Nat) × (Option Addr) × (Nat) × (Nat)) => (Sl Ap Ao Aq), fun ((b3, a6, c7, b9) : (Nat) × (Option Addr) × (Nat) × (Nat)) => (Sl a6 xs4 c7), fun ((b3, a6, c7, b9) : (Nat) × (Option Addr) × (Nat) × (Nat)) => (.agg #[(I Fw.1), (I Fw.2)]), fun ((b3, a6, c7, b9) : (Nat) × (Option Addr) × (Nat) × (Nat)) => (Sl (some ⟨b9, 0, none⟩) ([(Fw.1, Fw.2)] : List (Int × Int)) 1)] (0, none, 0, 0) (by kernel_rfl) (by kernel_rfl) ?_ ?_ ?_
 ·intro σm m0
  exact ⟨H.grow (m0.mono fun _ h => h.elim), m0⟩
 ·refine all_cons (by
    refine ⟨?_, ?_⟩
    ·rintro ⟨b3, a6, c7, b9⟩ ρ σm hJ hoff hdep
     obtain ⟨H, m⟩ := id hJ
     refine dp_ex wn (ex_buildSlice (el := n0) (xs := ([] : List (Int × Int))) (ps := []) (cs := []) H hn0 Tryz.underlying36 ti47 rfl rfl (by kernel_rfl) (.nil) rfl) ?_
     rintro _ σq ⟨b3x, rfl, H2, m2⟩
     exact ⟨_, (b3x, a6, c7, b9), rfl, rfl, ⟨H2.sel' [0, 1, 2] rfl rfl, m.comp0 m2⟩, stab [1, 3, 4] (by kernel_rfl) ⟨rfl, rfl, rfl, trivial⟩⟩
    refine ⟨?_, ?_⟩
    ·rintro ⟨b3, a6, c7, b9⟩ ρ σm hJ hoff hdep
     obtain ⟨H, m⟩ := id hJ
     refine dp_ex wn (ex_buildSlice (el := n0) (xs := ([] : List (Int × Int))) (ps := []) (cs := []) H hn0 Tryz.underlying36 ti47 rfl rfl (by kernel_rfl) (.nil) rfl) ?_
     rintro _ σq ⟨b3x, rfl, H2, m2⟩
     exact ⟨_, (b3x, a6, c7, b9), rfl, rfl, ⟨H2.sel' [1, 0, 2, 3] rfl rfl, m.comp0 m2⟩, stab [1, 3, 4] (by kernel_rfl) ⟨rfl, rfl, rfl, trivial⟩⟩
    trivial) ?_
  refine ac rfl (by
    intro k; rintro ⟨b3, a6, c7, b9⟩ ρ σm hJ hoff hdep
    have e0 := look_off (N := 58) (hoff 0 rfl) rfl
    exact dp_v (v := (Sl Ap Ao Aq)) wn (rv_move e0) rfl hJ) ?_
  refine all_cons (by
    refine ⟨?_, ?_⟩
    ·rintro ⟨b3, a6, c7, b9⟩ ρ σm hJ hoff hdep
     have e10 := hdep 0 rfl rfl 10 rfl
     have e11 := hdep 1 rfl rfl 11 rfl
     obtain ⟨H, m⟩ := id hJ
     refine dp_ex wn (ex_append H (i := 0) rfl Tryz.underlying36 Tryz.underlying36 ti47 rfl rfl (by decide) ((H.ro 2 rfl).rd.sc) hx5 hn0 e10 e11) ?_
     rintro _ σq ⟨a6x, c7x, rfl, H2, m2⟩
     exact ⟨_, (b3, a6x, c7x, b9), rfl, rfl, ⟨H2.sel' [0, 1, 2] rfl rfl, m.comp m2⟩, stab [0, 1, 3, 4] (by kernel_rfl) ⟨rfl, rfl, rfl, rfl, trivial⟩⟩
    refine ⟨?_, ?_⟩
    ·rintro ⟨b3, a6, c7, b9⟩ ρ σm hJ hoff hdep
     have e10 := hdep 0 rfl rfl 10 rfl
     have e11 := hdep 1 rfl rfl 11 rfl
     obtain ⟨H, m⟩ := id hJ
     refine dp_ex wn (ex_append H (i := 1) rfl Tryz.underlying36 Tryz.underlying36 ti47 rfl rfl (by decide) ((H.ro 3 rfl).rd.sc) hx5 hn0 e10 e11) ?_
     rintro _ σq ⟨a6x, c7x, rfl, H2, m2⟩
     exact ⟨_, (b3, a6x, c7x, b9), rfl, rfl, ⟨H2.sel' [1, 0, 2, 3] rfl rfl, m.comp m2⟩, stab [0, 1, 3, 4] (by kernel_rfl) ⟨rfl, rfl, rfl, rfl, trivial⟩⟩
    trivial) ?_
  refine all_cons (by
    refine ⟨?_, ?_⟩
    ·rintro ⟨b3, a6, c7, b9⟩ ρ σm hJ hoff hdep
     have e4 := look_off (N := 58) (hoff 4 rfl) rfl
     obtain ⟨H, m⟩ := id hJ
     have hc8 := H.cells 0 rfl
     exact dp_v (v := (.agg #[(I Fw.1), (I Fw.2)])) wn (rv_load (cs := [(I Fw.1), (I Fw.2)]) Tryz.underlying47 rfl ti47 e4 rfl hc8) rfl hJ
    refine ⟨?_, ?_⟩
    ·rintro ⟨b3, a6, c7, b9⟩ ρ σm hJ hoff hdep
     have e4 := look_off (N := 58) (hoff 4 rfl) rfl
     obtain ⟨H, m⟩ := id hJ
     have hc8 := H.cells 1 rfl
     exact dp_v (v := (.agg #[(I Fw.1), (I Fw.2)])) wn (rv_load (cs := [(I Fw.1), (I Fw.2)]) Tryz.underlying47 rfl ti47 e4 rfl hc8) rfl hJ
    refine ⟨?_, ?_⟩
    ·rintro ⟨b3, a6, c7, b9⟩ ρ σm hJ hoff hdep
     have e4 := look_off (N := 58) (hoff 4 rfl) rfl
     obtain ⟨H, m⟩ := id hJ
     have hc8 := H.cells 1 rfl
     exact dp_v (v := (.agg #[(I Fw.1), (I Fw.2)])) wn (rv_load (cs := [(I Fw.1), (I Fw.2)]) Tryz.underlying47 rfl ti47 e4 rfl hc8) rfl hJ
    trivial) ?_
  refine all_cons (by
    refine ⟨?_, ?_⟩
    ·rintro ⟨b3, a6, c7, b9⟩ ρ σm hJ hoff hdep
     have e13 : look 58 ρ 13 = (.agg #[(I Fw.1), (I Fw.2)]) := hdep 3 rfl rfl 13 rfl
     obtain ⟨H, m⟩ := id hJ
     refine dp_ex wn (ex_buildSlice (el := n0) (xs := ([(Fw.1, Fw.2)] : List (Int × Int))) (ps := [(0, (.agg #[(I Fw.1), (I Fw.2)]))]) (cs := [(I Fw.1), (I Fw.2)]) H hn0 Tryz.underlying36 ti47 rfl (by show [(0, look 58 ρ 13)] = _; rw [e13]) (by kernel_rfl) (.cons (c := [(I Fw.1), (I Fw.2)]) ⟨[(I Fw.1)], [(I Fw.2)], rfl, rfl, rfl⟩ (.nil)) rfl) ?_
     rintro _ σq ⟨b9x, rfl, H2, m2⟩
     exact ⟨_, (b3, a6, c7, b9x), rfl, rfl, ⟨H2.sel' [0, 1, 2] rfl rfl, m.comp0 m2⟩, stab [0, 1, 2, 3] (by kernel_rfl) ⟨rfl, rfl, rfl, rfl, trivial⟩⟩
    refine ⟨?_, ?_⟩
    ·rintro ⟨b3, a6, c7, b9⟩ ρ σm hJ hoff hdep
     have e13 : look 58 ρ 13 = (.agg #[(I Fw.1), (I Fw.2)]) := hdep 3 rfl rfl 13 rfl
     obtain ⟨H, m⟩ := id hJ
     refine dp_ex wn (ex_buildSlice (el := n0) (xs := ([(Fw.1, Fw.2)] : List (Int × Int))) (ps := [(0, (.agg #[(I Fw.1), (I Fw.2)]))]) (cs := [(I Fw.1), (I Fw.2)]) H hn0 Tryz.underlying36 ti47 rfl (by show [(0, look 58 ρ 13)] = _; rw [e13]) (by kernel_rfl) (.cons (c := [(I Fw.1), (I Fw.2)]) ⟨[(I Fw.1)], [(I Fw.2)], rfl, rfl, rfl⟩ (.nil)) rfl) ?_
     rintro _ σq ⟨b9x, rfl, H2, m2⟩
     exact ⟨_, (b3, a6, c7, b9x), rfl, rfl, ⟨H2.sel' [0, 1, 2, 3] rfl rfl, m.comp0 m2⟩, stab [0, 1, 2, 3] (by kernel_rfl) ⟨rfl, rfl, rfl, rfl, trivial⟩⟩
    refine ⟨?_, ?_⟩
    ·rintro ⟨b3, a6, c7, b9⟩ ρ σm hJ hoff hdep
     have e13 : look 58 ρ 13 = (.agg #[(I Fw.1), (I Fw.2)]) := hdep 3 rfl rfl 13 rfl
     obtain ⟨H, m⟩ := id hJ
     refine dp_ex wn (ex_buildSlice (el := n0) (xs := ([(Fw.1, Fw.2)] : List (Int × Int))) (ps := [(0, (.agg #[(I Fw.1), (I Fw.2)]))]) (cs := [(I Fw.1), (I Fw.2)]) H hn0 Tryz.underlying36 ti47 rfl (by show [(0, look 58 ρ 13)] = _; rw [e13]) (by kernel_rfl) (.cons (c := [(I Fw.1), (I Fw.2)]) ⟨[(I Fw.1)], [(I Fw.2)], rfl, rfl, rfl⟩ (.nil)) rfl) ?_
     rintro _ σq ⟨b9x, rfl, H2, m2⟩
     exact ⟨_, (b3, a6, c7, b9x), rfl, rfl, ⟨H2.sel' [0, 1, 2, 3] rfl rfl, m.comp0 m2⟩, stab [0, 1, 2, 3] (by kernel_rfl) ⟨rfl, rfl, rfl, rfl, trivial⟩⟩
    trivial) ?_
  exact all_nil
 ·rintro ⟨b3, a6, c7, b9⟩ ρ σ10 hJ hoff hrel
  have e2 := look_off (N := 58) (hoff 2 rfl) rfl
  have e12 := hrel 2 rfl 12 rfl
  have e14 := hrel 4 rfl 14 rfl
  obtain ⟨H, -⟩ := (show Hp S0 σ0 σ10 [Ch.own n0 n0 (Sl (some ⟨b9, 0, none⟩) ([(Fw.1, Fw.2)] : List (Int × Int)) 1) ([(Fw.1, Fw.2)] : List (Int × Int)), Ch.own n0 n0 (Sl a6 xs4 c7) xs4, Ch.bx n0 b1 0 [(I Fw.1), (I Fw.2)] [] [], Ch.ro 0 (Sl Ap Ao Aq) Ao] ∧ Md (fun i => (cov []) i ∨ (fun b => blk (Sl (some ⟨b3, 0, none⟩) ([] : List (Int × Int)) 0) = some b) i) σ2 σ10 from hJ)
  clear hJ Hs
  rw [fr_lookL (L := [(2, (I Fx)), (12, (Sl a6 xs4 c7)), (14, (Sl (some ⟨b9, 0, none⟩) ([(Fw.1, Fw.2)] : List (Int × Int)) 1))]) ⟨e2, e12, e14, trivial⟩]
  clear hoff hrel e2 e12 e14
  revert h; refine br fun xs11 hx12 h => ?_
  refine st_ex (ex_append H (i := 1) rfl Tryz.underlying36 Tryz.underlying36 ti47 rfl rfl (by decide) (H.own 0 rfl).rd hx12 hn0 rfl rfl) wn ?_
  rintro _ σ15 ⟨a13, c14, rfl, H, -⟩
  refine sa (Sl a13 xs11 c14) rfl (w_end (q_then (c_seq (c_seq (rg (sm (Sl a13 xs11 c14) rfl (st (v := (I (xs11.length : Int))) (rv_len Tryz.underlying36 rfl) (st (v := (I (w64 ((xs11.length : Int) - 1)))) (rv_sub (a := (xs11.length : Int)) (b := 1) rfl rfl) (sa (I (w64 ((xs11.length : Int) - 1))) rfl (w_end (q_then ?_)))))))))))
  obtain ⟨o16, hj, h'⟩ := bind_some h
  clear h
  refine c_cut (fun e a w => e = .normal ∧ ∃ (ρ : Nat → Value) (σ : St), a = fr 58 (updL ρ [(2, (I Fx)), (7, (Sl a13 o16 c14))]) ∧ w = σ.w ∧ Hp S0 σ0 σ [Ch.own n0 n0 (Sl a13 o16 c14) o16] ∧ o16.length = xs11.length) ?_ ?_
  ·clear h'
   rename _ = some o16 => h
   refine c_blk (wp_loopM _ h (fun s17 a w => ∃ (ρ : Nat → Value) (σ : St), a = fr 58 (updL ρ [(2, (I Fx)), (7, (Sl a13 s17.1 c14)), (8, (I s17.2))]) ∧ w = σ.w ∧ Hp S0 σ0 σ [Ch.own n0 n0 (Sl a13 s17.1 c14) s17.1] ∧ s17.1.length = xs11.length) ⟨_, σ15, fr_join ⟨rfl, rfl, rfl, trivial⟩, rfl, H.sel' [0] rfl rfl, rfl⟩ ?_)
   clear h H
   rintro s17 a w o ⟨ρ, σ18, rfl, rfl, H, hn19⟩ h hres
   refine c_seq (c_seq ?_)
   obtain ⟨o20, hj, h'⟩ := bind_some h
   clear h
   refine c_cut (fun e a w => e = .normal ∧ ∃ (ρ : Nat → Value) (σ : St), a = fr 58 (updL ρ [(2, (I Fx)), (7, (Sl a13 s17.1 c14)), (8, (I s17.2)), (32, (B o20))]) ∧ w = σ.w ∧ Hp S0 σ0 σ [Ch.own n0 n0 (Sl a13 s17.1 c14) s17.1]) ?_ ?_
   ·clear h'
    rename _ = some o20 => h
    refine rgP (σ := σ18) 12 (by kernel_rfl) (by kernel_rfl) (by kernel_rfl) ?_
    refine sq (v := (I s17.2)) (rv_move rfl) (sq (v := (B (decide (0 < s17.2)))) (rv_gtr (a := s17.2) (b := 0) rfl rfl) (sq (v := (B (decide (0 < s17.2)))) (rv_move rfl) ?_))
    rcases Bool.eq_false_or_eq_true (decide (0 < s17.2)) with hb21 | hb21
    ·replace h := bif_t hb21 h
     refine sq_g (v := (Sl a13 s17.1 c14)) (congrArg some hb21) (rv_move rfl) (sq_g (v := (I s17.2)) (congrArg some hb21) (rv_move rfl) ?_)
     revert h; refine br fun x22 hx23 h => ?_
     obtain ⟨b25, o26, hi24, -⟩ := (H.own 0 rfl).ix hx23
     refine sq_g (v := (pt b25 o26)) (congrArg some hb21) (rv_ix Tryz.underlying36 ti47 rfl rfl hi24) ?_
     obtain ⟨_, ⟨_, _, rfl, rfl, rfl⟩, hl27, hc28⟩ := ((H.own 0 rfl).at hx23 hi24).cells
     refine sq_g (v := (.agg #[(I x22.1), (I x22.2)])) (congrArg some hb21) (rv_load Tryz.underlying47 rfl ti47 rfl hl27 hc28) (sq_g (v := (Sl a13 s17.1 c14)) (congrArg some hb21) (rv_move rfl) (sq_g (v := (I s17.2)) (congrArg some hb21) (rv_move rfl) (sq_g (v := (I (w64 (s17.2 - 1)))) (congrArg some hb21) (rv_sub (a := s17.2) (b := 1) rfl rfl) ?_)))
     revert h; refine br fun x29 hx30 h => ?_
     obtain ⟨b32, o33, hi31, -⟩ := (H.own 0 rfl).ix hx30
     refine sq_g (v := (pt b32 o33)) (congrArg some hb21) (rv_ix Tryz.underlying36 ti47 rfl rfl hi31) ?_
     obtain ⟨_, ⟨_, _, rfl, rfl, rfl⟩, hl34, hc35⟩ := ((H.own 0 rfl).at hx30 hi31).cells
     refine sq_g (v := (.agg #[(I x29.1), (I x29.2)])) (congrArg some hb21) (rv_load Tryz.underlying47 rfl ti47 rfl hl34 hc35) (sq_end ?_)
     intro σ36 hm37
     replace H := H.grow (hm37.mono fun _ h => h); clear hm37
     revert h; refine br fun r38 hx39 h => ?_
     have hc40 := c_spec_nearer hx39
     refine st_call (cx_call hc40 (ent_f hc40.fn rfl) hn0 (H.sel' [0] rfl rfl : Hp S0 σ0 _ ([] ++ _))) (wanted_yes rfl (by exact (congrArg some hb21))) ?_
     rintro _ σ41 ⟨_, ⟨rfl, rfl⟩, H, -⟩
     replace H : Hp _ _ _ [_] := H
     refine st (v := (B r38)) (rv_pick_t (congrArg B hb21) rfl) (w_end ?_)
     obtain rfl := sj h
     exact ⟨rfl, _, σ41, fr_join ⟨rfl, rfl, rfl, rfl, trivial⟩, rfl, H.sel' [0] rfl rfl⟩
    ·replace h := bif_f hb21 h
     refine sq_skip (congrArg some hb21) (sq_skip (congrArg some hb21) (sq_skip (congrArg some hb21) (sq_skip (congrArg some hb21) (sq_skip (congrArg some hb21) (sq_skip (congrArg some hb21) (sq_skip (congrArg some hb21) (sq_skip (congrArg some hb21) (sq_skip (congrArg some hb21) (sq_end ?_)))))))))
     intro σ42 hm43
     replace H := H.grow (hm43.mono fun _ h => h); clear hm43
     refine st_skip (congrArg some hb21) (st (v := (B false)) (rv_pick_f (congrArg B hb21) rfl) (w_end ?_))
     obtain rfl := sj h
     exact ⟨rfl, _, σ42, fr_join ⟨rfl, rfl, rfl, rfl, trivial⟩, rfl, H.sel' [0] rfl rfl⟩
   ·clear hj
    have h := h'
    clear h' H
    rintro e a w ⟨rfl, ρ, σ44, rfl, rfl, H⟩
    refine q_then ?_
    refine cd_cond o20 rfl (fun hb45 => ?_) (fun hb45 => ?_)
    ·replace h := bif_t hb45 h
     refine c_skip (q_then (c_seq (c_blk (c_seq (rg (sm (Sl a13 s17.1 c14) rfl (sm (I s17.2) rfl ?_)))))))
     revert h; refine br fun x46 hx47 h => ?_
     obtain ⟨b49, o50, hi48, -⟩ := (H.own 0 rfl).ix hx47
     refine st (v := (pt b49 o50)) (rv_ix Tryz.underlying36 ti47 rfl rfl hi48) ?_
     obtain ⟨_, ⟨_, _, rfl, rfl, rfl⟩, hl51, hc52⟩ := ((H.own 0 rfl).at hx47 hi48).cells
     refine st (v := (.agg #[(I x46.1), (I x46.2)])) (rv_load Tryz.underlying47 rfl ti47 rfl hl51 hc52) (st_ex (ex_alloc (cs := [(I 0), (I 0)]) H hn0 ti47 rfl) wn ?_)
     rintro _ σ54 ⟨b53, rfl, H, -⟩
     refine st_exS (ex_store_box (k := 0) (cs := [(I 0), (I 0)]) (vs := [(I x46.1), (I x46.2)]) (cs' := [(I x46.1), (I x46.2)]) H (i := 0) rfl ti47 rfl rfl rfl rfl rfl (Nat.le_of_ble_eq_true rfl) (by simp [plain]) rfl) wn ?_
     rintro σ55 ⟨H, -⟩
     refine w_end (q_then (c_seq (rg (sm (Sl a13 s17.1 c14) rfl (sm (I s17.2) rfl (sm (Sl a13 s17.1 c14) rfl (sm (I s17.2) rfl (st (v := (I (w64 (s17.2 - 1)))) (rv_sub (a := s17.2) (b := 1) rfl rfl) ?_))))))))
     revert h; refine br fun x56 hx57 h => ?_
     obtain ⟨b59, o60, hi58, -⟩ := (H.own 1 rfl).ix hx57
     refine st (v := (pt b59 o60)) (rv_ix Tryz.underlying36 ti47 rfl rfl hi58) ?_
     obtain ⟨_, ⟨_, _, rfl, rfl, rfl⟩, hl61, hc62⟩ := ((H.own 1 rfl).at hx57 hi58).cells
     refine st (v := (.agg #[(I x56.1), (I x56.2)])) (rv_load Tryz.underlying47 rfl ti47 rfl hl61 hc62) ?_
     revert h; refine br fun x63 hx64 h => ?_
     obtain ⟨b66, o67, hi65, -⟩ := (H.own 1 rfl).ix hx64
     refine st (v := (pt b66 o67)) (rv_ix Tryz.underlying36 ti47 rfl rfl hi65) ?_
     refine st_exS (ex_store_own (e' := (x56.1, x56.2)) (vs := [(I x56.1), (I x56.2)]) (k := 0) H (i := 1) rfl ti47 hx64 hi65 rfl rfl rfl rfl rfl (Nat.le_of_ble_eq_true rfl) (by simp [plain]) (by rintro _ ⟨_, _, rfl, rfl, rfl⟩; exact ⟨[(I x56.1)], [(I x56.2)], rfl, rfl, rfl⟩)) wn ?_
     rintro σ68 ⟨H, -⟩
     have hsl : (Sl a13 s17.1 c14) = (Sl a13 (s17.1.set s17.2.toNat (x56.1, x56.2)) c14) := sl_len List.length_set.symm
     rw [hsl]; rw [hsl] at H; clear hsl
     refine w_end (q_then (rg (sm (Sl a13 (s17.1.set s17.2.toNat (x56.1, x56.2)) c14) rfl (sm (I s17.2) rfl (st (v := (I (w64 (s17.2 - 1)))) (rv_sub (a := s17.2) (b := 1) rfl rfl) ?_)))))
     have hc69 := H.cells 1 rfl
     refine st (v := (.agg #[(I x46.1), (I x46.2)])) (rv_load (cs := [(I x46.1), (I x46.2)]) Tryz.underlying47 rfl ti47 rfl rfl hc69) ?_
     revert h; refine br fun x70 hx71 h => ?_
     obtain ⟨b73, o74, hi72, -⟩ := (H.own 0 rfl).ix hx71
     refine st (v := (pt b73 o74)) (rv_ix Tryz.underlying36 ti47 rfl rfl hi72) ?_
     refine st_exS (ex_store_own (e' := (x46.1, x46.2)) (vs := [(I x46.1), (I x46.2)]) (k := 0) H (i := 0) rfl ti47 hx71 hi72 rfl rfl rfl rfl rfl (Nat.le_of_ble_eq_true rfl) (by simp [plain]) (by rintro _ ⟨_, _, rfl, rfl, rfl⟩; exact ⟨[(I x46.1)], [(I x46.2)], rfl, rfl, rfl⟩)) wn ?_
     rintro σ75 ⟨H, -⟩
     have hsl : (Sl a13 (s17.1.set s17.2.toNat (x56.1, x56.2)) c14) = (Sl a13 ((s17.1.set s17.2.toNat (x56.1, x56.2)).set (w64 (s17.2 - 1)).toNat (x46.1, x46.2)) c14) := sl_len List.length_set.symm
     rw [hsl]; rw [hsl] at H; clear hsl
     refine w_end (q_blk (q_then (rg (sm (I s17.2) rfl (st (v := (I (w64 (s17.2 - 1)))) (rv_sub (a := s17.2) (b := 1) rfl rfl) (sa (I (w64 (s17.2 - 1))) rfl (w_end (q_then ?_))))))))
     obtain rfl := sj h
     exact ⟨_, rfl, _, σ75, fr_join ⟨rfl, rfl, rfl, trivial⟩, rfl, H.sel' [0] rfl rfl, (List.length_set.trans (List.length_set.trans hn19))⟩
    ·replace h := bif_f hb45 h
     refine c_exit (q_then_x (q_then_x (q_blk_hit ?_)))
     obtain rfl := sj h
     obtain rfl := hres _ rfl
     exact ⟨rfl, _, σ44, fr_join ⟨rfl, rfl, trivial⟩, rfl, H.sel' [0] rfl rfl, hn19⟩
  ·clear hj
   have h := h'
   clear h' H
   rintro e a w ⟨rfl, ρ, σ76, rfl, rfl, H, hn77⟩
   refine q_then (c_seq (rg (sm (Sl a13 o16 c14) rfl (sm (I Fx) rfl (sm (Sl a13 o16 c14) rfl (st (v := (I (o16.length : Int))) (rv_len Tryz.underlying36 rfl) (st (v := (I (min Fx (o16.length : Int)))) (rv_min rfl rfl) ?_)))))))
   revert h; refine br fun xs78 hx79 h => ?_
   obtain ⟨a80, c81, hs82, hR83, hb84⟩ := (H.own 0 rfl).slice hx79
   replace H := (H.front (i := 0) rfl).turn (d := Ch.own n0 n0 (Sl a80 xs78 c81) xs78) (fun _ => hR83) hb84; clear hR83 hb84
   refine st (v := (Sl a80 xs78 c81)) (rv_slice_h Tryz.underlying36 ti47 hs82 rfl rfl) (sa (Sl a80 xs78 c81) rfl (w_end (q_then (c_ret ?_))))
   obtain rfl := sj h
   exact fin_ret (v := (Sl a80 xs78 c81)) (results_ok Tryz.results66 (res_tmp (v := (Sl a80 xs78 c81)) rfl res_nil) rfl) ⟨a80, c81, rfl, rfl⟩ (H.sel' [0] rfl rfl)

theorem c_spec_links {Ao : List (Int × (List Int) × Int)} {As : Int} {Au : Int} {Ap : Option Addr} {Aq : Nat} {r : (List (List Int))} (h : M.spec_links Ao As Au = some r) :
    Cal2 Tryz.prog 36 [(Sl Ap Ao Aq), (I As), (I Au)] [Ch.ro 0 (Sl Ap Ao Aq) Ao] (fun n0 v L => ∃ (az1 : Option Addr), ∃ (cz2 : Nat), v = (Sl az1 r cz2) ∧ L = [Ch.own n0 n0 (Sl az1 r cz2) r]) := by
 refine cal2 (n := 64) Tryz.func36 rfl rfl rfl rfl ?_
 intro S0 σ0 n0 hn0 H
 unfold M.spec_links at h
 refine c_seq (rg (sa (.slice none 0 0) rfl (w_end (q_then (c_seq (rg ?_))))))
 refine st_ex (ex_buildSlice (el := n0) (xs := ([] : List (List Int))) (ps := []) (cs := []) H hn0 Tryz.underlying26 ti31 rfl rfl (by kernel_rfl) (.nil) rfl) wn ?_
 rintro _ σ2 ⟨b1, rfl, H, -⟩
 refine sa (Sl (some ⟨b1, 0, none⟩) ([] : List (List Int)) 0) rfl (w_end (q_then (c_seq (c_seq (rg (sa (I 0) rfl (w_end (q_then ?_))))))))
 obtain ⟨o3, hj, h'⟩ := bind_some h
 clear h
 refine c_cut (fun e a w => e = .normal ∧ ∃ (ρ : Nat → Value) (σ : St) (aj1 : Option Addr) (cj2 : Nat), a = fr 64 (updL ρ [(7, (Sl aj1 o3 cj2))]) ∧ w = σ.w ∧ Hp S0 σ0 σ [Ch.own n0 n0 (Sl aj1 o3 cj2) o3]) ?_ ?_
 ·clear h'
  rename _ = some o3 => h
  refine c_blk (wp_loopM _ h (fun s4 a w => ∃ (ρ : Nat → Value) (σ : St) (aj1 : Option Addr) (cj2 : Nat), a = fr 64 (updL ρ [(0, (Sl Ap Ao Aq)), (1, (I As)), (2, (I Au)), (7, (Sl aj1 s4.1 cj2)), (8, (I s4.2))]) ∧ w = σ.w ∧ Hp S0 σ0 σ [Ch.ro 0 (Sl Ap Ao Aq) Ao, Ch.own n0 n0 (Sl aj1 s4.1 cj2) s4.1]) ⟨_, σ2, (some ⟨b1, 0, none⟩), 0, fr_join ⟨rfl, rfl, rfl, rfl, rfl, trivial⟩, rfl, H.sel' [1, 0] rfl rfl⟩ ?_)
  clear h H
  rintro s4 a w o ⟨ρ, σ5, a6, c7, rfl, rfl, H⟩ h hres
  refine c_seq (c_seq (rg (sm (I s4.2) rfl (sm (Sl Ap Ao Aq) rfl (st (v := (I (Ao.length : Int))) (rv_len Tryz.underlying23 rfl) (st (v := (B (decide (s4.2 < (Ao.length : Int))))) (rv_lss (a := s4.2) (b := (Ao.length : Int)) rfl rfl) (w_end (q_then ?_))))))))
  refine cd_cond (decide (s4.2 < (Ao.length : Int))) rfl (fun hb8 => ?_) (fun hb8 => ?_)
  ·replace h := bif_t hb8 h
   refine c_skip (q_then (c_seq (c_blk (c_seq (rg ?_)))))
   refine st_ex (ex_buildSlice (el := n0) (xs := ([] : List (Int × Int))) (ps := []) (cs := []) H hn0 Tryz.underlying36 ti47 rfl rfl (by kernel_rfl) (.nil) rfl) wn ?_
   rintro _ σ10 ⟨b9, rfl, H, -⟩
   refine sa (Sl (some ⟨b9, 0, none⟩) ([] : List (Int × Int)) 0) rfl (w_end (q_then (c_seq (c_seq (rg (sa (I 0) rfl (w_end (q_then ?_))))))))
   obtain ⟨o11, hj, h'⟩ := bind_some h
   clear h
   refine c_cut (fun e a w => e = .normal ∧ ∃ (ρ : Nat → Value) (σ : St) (aj1 : Option Addr) (cj2 : Nat), a = fr 64 (updL ρ [(0, (Sl Ap Ao Aq)), (1, (I As)), (2, (I Au)), (7, (Sl a6 s4.1 c7)), (8, (I s4.2)), (9, (Sl aj1 o11 cj2))]) ∧ w = σ.w ∧ Hp S0 σ0 σ [Ch.ro 0 (Sl Ap Ao Aq) Ao, Ch.own n0 n0 (Sl a6 s4.1 c7) s4.1, Ch.own n0 n0 (Sl aj1 o11 cj2) o11]) ?_ ?_
   ·clear h'
    rename _ = some o11 => h
    refine c_blk (wp_loopM _ h (fun s12 a w => ∃ (ρ : Nat → Value) (σ : St) (aj1 : Option Addr) (cj2 : Nat), a = fr 64 (updL ρ [(0, (Sl Ap Ao Aq)), (1, (I As)), (2, (I Au)), (7, (Sl a6 s4.1 c7)), (8, (I s4.2)), (9, (Sl aj1 s12.1 cj2)), (10, (I s12.2))]) ∧ w = σ.w ∧ Hp S0 σ0 σ [Ch.ro 0 (Sl Ap Ao Aq) Ao, Ch.own n0 n0 (Sl a6 s4.1 c7) s4.1, Ch.own n0 n0 (Sl aj1 s12.1 cj2) s12.1]) ⟨_, σ10, (some ⟨b9, 0, none⟩), 0, fr_join ⟨rfl, rfl, rfl, rfl, rfl, rfl, rfl, trivial⟩, rfl, H.sel' [1, 2, 0] rfl rfl⟩ ?_)
    clear h H
    rintro s12 a w o ⟨ρ, σ13, a14, c15, rfl, rfl, H⟩ h hres
    refine c_seq (c_seq (rg (sm (I s12.2) rfl (sm (Sl Ap Ao Aq) rfl (st (v := (I (Ao.length : Int))) (rv_len Tryz.underlying23 rfl) (st (v := (B (decide (s12.2 < (Ao.length : Int))))) (rv_lss (a := s12.2) (b := (Ao.length : Int)) rfl rfl) (w_end (q_then ?_))))))))
    refine cd_cond (decide (s12.2 < (Ao.length : Int))) rfl (fun hb16 => ?_) (fun hb16 => ?_)
    ·replace h := bif_t hb16 h
     refine c_skip (q_then (c_seq ?_))
     obtain ⟨o17, hj, h'⟩ := bind_some h
     clear h
     refine c_cut (fun e a w => e = .normal ∧ ∃ (ρ : Nat → Value) (σ : St) (aj1 : Option Addr) (cj2 : Nat), a = fr 64 (updL ρ [(0, (Sl Ap Ao Aq)), (1, (I As)), (2, (I Au)), (7, (Sl a6 s4.1 c7)), (8, (I s4.2)), (9, (Sl aj1 o17 cj2)), (10, (I s12.2))]) ∧ w = σ.w ∧ Hp S0 σ0 σ [Ch.ro 0 (Sl Ap Ao Aq) Ao, Ch.own n0 n0 (Sl a6 s4.1 c7) s4.1, Ch.own n0 n0 (Sl aj1 o17 cj2) o17]) ?_ ?_
     ·clear h'
      rename _ = some o17 => h
      refine c_blk (c_seq (rg (sm (I s12.2) rfl (sm (I s4.2) rfl (st (v := (B (s12.2 != s4.2))) (rv_neq (a := s12.2) (b := s4.2) rfl rfl) (w_end (q_then ?_)))))))
      refine cd_cond (s12.2 != s4.2) rfl (fun hb18 => ?_) (fun hb18 => ?_)
      ·replace h := bif_t hb18 h
       revert h; refine br fun x19 hx20 h => ?_
       obtain ⟨b22, o23, hi21, -⟩ := (H.ro 0 rfl).ix hx20
       obtain ⟨_, ⟨_, _, rfl, rfl, ⟨_, _, rfl, ⟨_, rfl, hR28⟩, rfl⟩⟩, hl24, hc25⟩ := ((H.ro 0 rfl).at hx20 hi21).cells
       obtain ⟨a26, c27, rfl⟩ := hR28.isSl
       replace H := H.add (d := Ch.ro 0 (Sl a26 x19.2.1 c27) x19.2.1) hR28 (fun _ h => h)
       clear hR28
       revert h; refine br fun x29 hx30 h => ?_
       obtain ⟨b32, o33, hi31, -⟩ := (H.ro 1 rfl).ix hx30
       obtain ⟨v37, hc38, hR36⟩ := ((H.ro 1 rfl).at hx30 hi31).snd.fst.slice
       obtain ⟨a34, c35, rfl⟩ := hR36.isSl
       replace H := H.add (d := Ch.ro 0 (Sl a34 x29.2.1 c35) x29.2.1) hR36 (fun _ h => h)
       clear hR36
       revert h; refine br fun r39 hx40 h => ?_
       have hc41 := c_spec_hit (Ak := a26) (Am := c27) (Br := a34) (Bs := c35) hx40
       have Hs := H
       refine rg2 (σ := σ13) (Nm := Unit) 13 [11] [[false], [true]] [[(0, 0), (1, 1)], [(0, 0)], [(0, 0)], [(0, 0)], [(0, 0)], [(0, 0)], [(0, 0)], [(0, 0)], [(0, 0)], [(0, 0)], [(0, 0)], [(0, 1)], [(0, 0), (1, 1)]] 1 [fun _ => fun σm => Hp S0 σ0 σm [Ch.ro 0 (Sl a34 x29.2.1 c35) x29.2.1, Ch.ro 0 (Sl a26 x19.2.1 c27) x19.2.1, Ch.ro 0 (Sl Ap Ao Aq) Ao, Ch.own n0 n0 (Sl a6 s4.1 c7) s4.1, Ch.own n0 n0 (Sl a14 s12.1 c15) s12.1] ∧ Md (cov []) σ13 σm, fun _ => fun σm => Hp S0 σ0 σm [Ch.ro 0 (Sl a34 x29.2.1 c35) x29.2.1, Ch.ro 0 (Sl a26 x19.2.1 c27) x19.2.1, Ch.ro 0 (Sl Ap Ao Aq) Ao, Ch.own n0 n0 (Sl a6 s4.1 c7) s4.1, Ch.own n0 n0 (Sl a14 s12.1 c15) s12.1] ∧ Md (cov []) σ13 σm] [fun _ => (Sl a14 s12.1 c15), fun _ => (Sl Ap Ao Aq), fun _ => (I s12.2), fun _ => (pt b22 o23), fun _ => (.agg #[(I x19.1), (Sl a26 x19.2.1 c27), (I x19.2.2)]), fun _ => (I As), fun _ => (Sl Ap Ao Aq), fun _ => (I s4.2), fun _ => (pt b32 o33), fun _ => (pt b32 (o33 + 1)), fun _ => (Sl a34 x29.2.1 c35), fun _ => (.agg #[(I r39.1), (I r39.2)]), fun _ => (I Au)] () (by kernel_rfl) (by kernel_rfl) ?_ ?_ ?_
       ·intro σm m0
        exact ⟨H.grow (m0.mono fun _ h => h.elim), m0⟩
       ·refine ac rfl (by
          intro k _nm ρ σm hJ hoff hdep
          have e9 := look_off (N := 64) (hoff 9 rfl) rfl
          exact dp_v (v := (Sl a14 s12.1 c15)) wn (rv_move e9) rfl hJ) ?_
        refine ac rfl (by
          intro k _nm ρ σm hJ hoff hdep
          have e0 := look_off (N := 64) (hoff 0 rfl) rfl
          exact dp_v (v := (Sl Ap Ao Aq)) wn (rv_move e0) rfl hJ) ?_
        refine ac rfl (by
          intro k _nm ρ σm hJ hoff hdep
          have e10 := look_off (N := 64) (hoff 10 rfl) rfl
          exact dp_v (v := (I s12.2)) wn (rv_move e10) rfl hJ) ?_
        refine ac rfl (by
          intro k _nm ρ σm hJ hoff hdep
          have e31 := hdep 1 rfl rfl 31 rfl
          have e32 := hdep 2 rfl rfl 32 rfl
          exact dp_v (v := (pt b22 o23)) wn (rv_ix Tryz.underlying23 ti33 e31 e32 hi21) rfl hJ) ?_
        refine all_cons (by
          refine ⟨?_, ?_⟩
          ·intro _nm ρ σm hJ hoff hdep
           have e33 := hdep 3 rfl rfl 33 rfl
           obtain ⟨H, m⟩ := id hJ
           replace hc25 := fun j hj => (Hs.ro 2 rfl).hmd hx20 hi21 (k := j) (Nat.lt_of_lt_of_eq hj hl24) (hc25 j hj) m
           exact dp_v (v := (.agg #[(I x19.1), (Sl a26 x19.2.1 c27), (I x19.2.2)])) wn (rv_load Tryz.underlying33 rfl ti33 e33 hl24 hc25) rfl hJ
          trivial) ?_
        refine ac rfl (by
          intro k _nm ρ σm hJ hoff hdep
          have e1 := look_off (N := 64) (hoff 1 rfl) rfl
          exact dp_v (v := (I As)) wn (rv_move e1) rfl hJ) ?_
        refine ac rfl (by
          intro k _nm ρ σm hJ hoff hdep
          have e0 := look_off (N := 64) (hoff 0 rfl) rfl
          exact dp_v (v := (Sl Ap Ao Aq)) wn (rv_move e0) rfl hJ) ?_
        refine ac rfl (by
          intro k _nm ρ σm hJ hoff hdep
          have e8 := look_off (N := 64) (hoff 8 rfl) rfl
          exact dp_v (v := (I s4.2)) wn (rv_move e8) rfl hJ) ?_
        refine ac rfl (by
          intro k _nm ρ σm hJ hoff hdep
          have e36 := hdep 6 rfl rfl 36 rfl
          have e37 := hdep 7 rfl rfl 37 rfl
          exact dp_v (v := (pt b32 o33)) wn (rv_ix Tryz.underlying23 ti33 e36 e37 hi31) rfl hJ) ?_
        refine ac rfl (by
          intro k _nm ρ σm hJ hoff hdep
          have e38 := hdep 8 rfl rfl 38 rfl
          exact dp_v (v := (pt b32 (o33 + 1))) wn (rv_fieldAddr (off := 1) (ft := 31) Tryz.underlying33 rfl ti31 rfl e38) rfl hJ) ?_
        refine all_cons (by
          refine ⟨?_, ?_⟩
          ·intro _nm ρ σm hJ hoff hdep
           have e39 := hdep 9 rfl rfl 39 rfl
           obtain ⟨H, m⟩ := id hJ
           replace hc38 := (Hs.ro 2 rfl).hmd hx30 hi31 (k := 1) (by decide) hc38 m
           exact dp_v (v := (Sl a34 x29.2.1 c35)) wn (rv_load1 Tryz.underlying31 rfl e39 hc38) rfl hJ
          trivial) ?_
        refine all_cons (by
          refine ⟨?_, ?_⟩
          ·intro _nm ρ σm hJ hoff hdep
           have e34 : look 64 ρ 34 = (.agg #[(I x19.1), (Sl a26 x19.2.1 c27), (I x19.2.2)]) := hdep 4 rfl rfl 34 rfl
           have e35 : look 64 ρ 35 = (I As) := hdep 5 rfl rfl 35 rfl
           have e40 : look 64 ρ 40 = (Sl a34 x29.2.1 c35) := hdep 10 rfl rfl 40 rfl
           obtain ⟨H, m⟩ := id hJ
           refine dp_cx wn (cx_call hc41 (ent_f hc41.fn (by show [look 64 ρ 34, look 64 ρ 35, look 64 ρ 40] = _; rw [e34, e35, e40])) hn0 (H.sel' [1, 0, 0, 1, 2, 3, 4] rfl rfl : Hp S0 σ0 _ ([_, _] ++ _))) ?_
           rintro _ σq ⟨_, ⟨rfl, rfl⟩, H2, m2⟩
           exact ⟨_, (), rfl, rfl, ⟨H2.sel' [0, 1, 2, 3, 4] rfl rfl, m.comp0 (m2.mono (fun i h => by simp [cov, Ch.ro] at h))⟩, stab [0, 1, 2, 3, 4, 5, 6, 7, 8, 9, 10, 12] (by kernel_rfl) ⟨rfl, rfl, rfl, rfl, rfl, rfl, rfl, rfl, rfl, rfl, rfl, rfl, trivial⟩⟩
          trivial) ?_
        refine ac rfl (by
          intro k _nm ρ σm hJ hoff hdep
          have e2 := look_off (N := 64) (hoff 2 rfl) rfl
          exact dp_v (v := (I Au)) wn (rv_move e2) rfl hJ) ?_
        exact all_nil
       ·intro _nm ρ σ42 hJ hoff hrel
        have e0 := look_off (N := 64) (hoff 0 rfl) rfl
        have e1 := look_off (N := 64) (hoff 1 rfl) rfl
        have e2 := look_off (N := 64) (hoff 2 rfl) rfl
        have e7 := look_off (N := 64) (hoff 7 rfl) rfl
        have e8 := look_off (N := 64) (hoff 8 rfl) rfl
        have e10 := look_off (N := 64) (hoff 10 rfl) rfl
        have e30 := hrel 0 rfl 30 rfl
        have e41 := hrel 11 rfl 41 rfl
        have e42 := hrel 12 rfl 42 rfl
        obtain ⟨H, -⟩ := (show Hp S0 σ0 σ42 [Ch.ro 0 (Sl a34 x29.2.1 c35) x29.2.1, Ch.ro 0 (Sl a26 x19.2.1 c27) x19.2.1, Ch.ro 0 (Sl Ap Ao Aq) Ao, Ch.own n0 n0 (Sl a6 s4.1 c7) s4.1, Ch.own n0 n0 (Sl a14 s12.1 c15) s12.1] ∧ Md (cov []) σ13 σ42 from hJ)
        clear hJ Hs
        rw [fr_lookL (L := [(0, (Sl Ap Ao Aq)), (1, (I As)), (2, (I Au)), (7, (Sl a6 s4.1 c7)), (8, (I s4.2)), (10, (I s12.2)), (30, (Sl a14 s12.1 c15)), (41, (.agg #[(I r39.1), (I r39.2)])), (42, (I Au))]) ⟨e0, e1, e2, e7, e8, e10, e30, e41, e42, trivial⟩]
        clear hoff hrel e0 e1 e2 e7 e8 e10 e30 e41 e42
        obtain ⟨σ43, hw44, H, -⟩ := H.pub 4 rfl (Nat.le_refl _)
        rw [← hw44]; clear hw44
        replace H := H.roLow 0 0 rfl (Nat.zero_le _)
        revert h; refine br fun r45 hx46 h => ?_
        have hc47 := c_spec_addHit (Ap := a14) (Aq := c15) hx46
        refine st_call (cx_call hc47 (ent_f hc47.fn rfl) hn0 (H.sel' [0, 0, 1, 2, 3, 4, 5] rfl rfl : Hp S0 σ0 _ ([_] ++ _))) wn ?_
        rintro _ σ50 ⟨_, ⟨a48, c49, rfl, rfl⟩, H, -⟩
        replace H : Hp _ _ _ [_, _, _, _, _, _, _] := H
        refine sa (Sl a48 r45 c49) rfl (w_end (q_blk ?_))
        obtain rfl := sj h
        exact ⟨rfl, _, σ50, a48, c49, fr_join ⟨rfl, rfl, rfl, rfl, rfl, rfl, rfl, trivial⟩, rfl, H.sel' [5, 6, 0] rfl rfl⟩
      ·replace h := bif_f hb18 h
       refine c_skip (q_blk ?_)
       obtain rfl := sj h
       exact ⟨rfl, _, σ13, a14, c15, fr_join ⟨rfl, rfl, rfl, rfl, rfl, rfl, rfl, trivial⟩, rfl, H.sel' [0, 1, 2] rfl rfl⟩
     ·clear hj
      have h := h'
      clear h' H
      rintro e a w ⟨rfl, ρ, σ51, a52, c53, rfl, rfl, H⟩
      refine q_then (rg (sm (I s12.2) rfl (st (v := (I (w64 (s12.2 + 1)))) (rv_add (a := s12.2) (b := 1) rfl rfl) (sa (I (w64 (s12.2 + 1))) rfl (w_end (q_then ?_))))))
      obtain rfl := sj h
      exact ⟨_, rfl, _, σ51, a52, c53, fr_join ⟨rfl, rfl, rfl, rfl, rfl, rfl, rfl, trivial⟩, rfl, H.sel' [0, 1, 2] rfl rfl⟩
    ·replace h := bif_f hb16 h
     refine c_exit (q_then_x (q_then_x (q_blk_hit ?_)))
     obtain rfl := sj h
     obtain rfl := hres _ rfl
     exact ⟨rfl, _, σ13, a14, c15, fr_join ⟨rfl, rfl, rfl, rfl, rfl, rfl, trivial⟩, rfl, H.sel' [0, 1, 2] rfl rfl⟩
   ·clear hj
    have h := h'
    clear h' H
    rintro e a w ⟨rfl, ρ, σ54, a55, c56, rfl, rfl, H⟩
    refine q_then (c_seq (rg ?_))
    refine st_ex (ex_buildSlice (el := n0) (xs := ([] : List Int)) (ps := []) (cs := []) H hn0 Tryz.underlying31 ti3 rfl rfl (by kernel_rfl) (.nil) rfl) wn ?_
    rintro _ σ58 ⟨b57, rfl, H, -⟩
    refine sa (Sl (some ⟨b57, 0, none⟩) ([] : List Int) 0) rfl (w_end (q_then (c_seq (c_seq (rg (sa (I 0) rfl (w_end (q_then ?_))))))))
    obtain ⟨o59, hj, h'⟩ := bind_some h
    clear h
    refine c_cut (fun e a w => e = .normal ∧ ∃ (ρ : Nat → Value) (σ : St) (aj1 : Option Addr) (cj2 : Nat), a = fr 64 (updL ρ [(0, (Sl Ap Ao Aq)), (1, (I As)), (2, (I Au)), (7, (Sl a6 s4.1 c7)), (8, (I s4.2)), (11, (Sl aj1 o59 cj2))]) ∧ w = σ.w ∧ Hp S0 σ0 σ [Ch.ro 0 (Sl Ap Ao Aq) Ao, Ch.own n0 n0 (Sl a6 s4.1 c7) s4.1, Ch.own n0 n0 (Sl aj1 o59 cj2) o59]) ?_ ?_
    ·clear h'
     rename _ = some o59 => h
     refine c_blk (wp_loopM _ h (fun s60 a w => ∃ (ρ : Nat → Value) (σ : St) (aj1 : Option Addr) (cj2 : Nat), a = fr 64 (updL ρ [(0, (Sl Ap Ao Aq)), (1, (I As)), (2, (I Au)), (7, (Sl a6 s4.1 c7)), (8, (I s4.2)), (9, (Sl a55 o11 c56)), (11, (Sl aj1 s60.1 cj2)), (12, (I s60.2))]) ∧ w = σ.w ∧ Hp S0 σ0 σ [Ch.ro 0 (Sl Ap Ao Aq) Ao, Ch.own n0 n0 (Sl a6 s4.1 c7) s4.1, Ch.own n0 n0 (Sl a55 o11 c56) o11, Ch.own n0 n0 (Sl aj1 s60.1 cj2) s60.1]) ⟨_, σ58, (some ⟨b57, 0, none⟩), 0, fr_join ⟨rfl, rfl, rfl, rfl, rfl, rfl, rfl, rfl, trivial⟩, rfl, H.sel' [1, 2, 3, 0] rfl rfl⟩ ?_)
     clear h H
     rintro s60 a w o ⟨ρ, σ61, a62, c63, rfl, rfl, H⟩ h hres
     refine c_seq (c_seq (rg (sm (I s60.2) rfl (sm (Sl a55 o11 c56) rfl (st (v := (I (o11.length : Int))) (rv_len Tryz.underlying36 rfl) (st (v := (B (decide (s60.2 < (o11.length : Int))))) (rv_lss (a := s60.2) (b := (o11.length : Int)) rfl rfl) (w_end (q_then ?_))))))))
     refine cd_cond (decide (s60.2 < (o11.length : Int))) rfl (fun hb64 => ?_) (fun hb64 => ?_)
     ·replace h := bif_t hb64 h
      refine c_skip (q_then (c_seq (c_blk (rg (sm (Sl a62 s60.1 c63) rfl (sm (Sl a55 o11 c56) rfl (sm (I s60.2) rfl ?_)))))))
      revert h; refine br fun x65 hx66 h => ?_
      obtain ⟨b68, o69, hi67, -⟩ := (H.own 2 rfl).ix hx66
      refine st (v := (pt b68 o69)) (rv_ix Tryz.underlying36 ti47 rfl rfl hi67) (st (v := (pt b68 (o69 + 0))) (rv_fieldAddr (off := 0) (ft := 3) Tryz.underlying47 rfl ti3 rfl rfl) ?_)
      have hc70 := ((H.own 2 rfl).at hx66 hi67).fst.int
      refine st (v := (I x65.1)) (rv_load1 Tryz.underlying3 rfl rfl hc70) ?_
      refine st_ex (ex_buildSlice (el := n0) (xs := ([x65.1] : List Int)) (ps := [(0, (I x65.1))]) (cs := [(I x65.1)]) H hn0 Tryz.underlying31 ti3 rfl rfl (by kernel_rfl) (.cons (c := [(I x65.1)]) rfl (.nil)) rfl) wn ?_
      rintro _ σ72 ⟨b71, rfl, H, -⟩
      revert h; refine br fun xs73 hx74 h => ?_
      refine st_ex (ex_append H (i := 4) rfl Tryz.underlying31 Tryz.underlying31 ti3 rfl rfl (by decide) (H.own 0 rfl).rd hx74 hn0 rfl rfl) wn ?_
      rintro _ σ77 ⟨a75, c76, rfl, H, -⟩
      refine sa (Sl a75 xs73 c76) rfl (w_end (q_blk (q_then (rg (sm (I s60.2) rfl (st (v := (I (w64 (s60.2 + 1)))) (rv_add (a := s60.2) (b := 1) rfl rfl) (sa (I (w64 (s60.2 + 1))) rfl (w_end (q_then ?_)))))))))
      obtain rfl := sj h
      exact ⟨_, rfl, _, σ77, a75, c76, fr_join ⟨rfl, rfl, rfl, rfl, rfl, rfl, rfl, rfl, trivial⟩, rfl, H.sel' [2, 3, 4, 0] rfl rfl⟩
     ·replace h := bif_f hb64 h
      refine c_exit (q_then_x (q_then_x (q_blk_hit ?_)))
      obtain rfl := sj h
      obtain rfl := hres _ rfl
      exact ⟨rfl, _, σ61, a62, c63, fr_join ⟨rfl, rfl, rfl, rfl, rfl, rfl, trivial⟩, rfl, H.sel' [0, 1, 3] rfl rfl⟩
    ·clear hj
     have h := h'
     clear h' H
     rintro e a w ⟨rfl, ρ, σ78, a79, c80, rfl, rfl, H⟩
     refine q_then (rg (sm (Sl a6 s4.1 c7) rfl (sm (Sl a79 o59 c80) rfl ?_)))
     obtain ⟨σ81, hw82, H, -⟩ := H.pub 2 rfl (Nat.le_refl _)
     rw [← hw82]; clear hw82
     refine st_ex (ex_buildSlice (el := n0) (xs := ([o59] : List (List Int))) (ps := [(0, (Sl a79 o59 c80))]) (cs := [(Sl a79 o59 c80)]) H hn0 Tryz.underlying26 ti31 rfl rfl (by kernel_rfl) (.cons (c := [(Sl a79 o59 c80)]) ⟨_, rfl, (H.ro 0 rfl)⟩ (.nil)) rfl) wn ?_
     rintro _ σ84 ⟨b83, rfl, H, -⟩
     revert h; refine br fun xs85 hx86 h => ?_
     refine st_ex (ex_append H (i := 3) rfl Tryz.underlying26 Tryz.underlying26 ti31 rfl rfl (by decide) (H.own 0 rfl).rd hx86 hn0 rfl rfl) wn ?_
     rintro _ σ89 ⟨a87, c88, rfl, H, -⟩
     refine sa (Sl a87 xs85 c88) rfl (w_end (q_blk (q_then (rg (sm (I s4.2) rfl (st (v := (I (w64 (s4.2 + 1)))) (rv_add (a := s4.2) (b := 1) rfl rfl) (sa (I (w64 (s4.2 + 1))) rfl (w_end (q_then ?_)))))))))
     obtain rfl := sj h
     exact ⟨_, rfl, _, σ89, a87, c88, fr_join ⟨rfl, rfl, rfl, rfl, rfl, trivial⟩, rfl, H.sel' [3, 0] rfl rfl⟩
  ·replace h := bif_f hb8 h
   refine c_exit (q_then_x (q_then_x (q_blk_hit ?_)))
   obtain rfl := sj h
   obtain rfl := hres _ rfl
   exact ⟨rfl, _, σ5, a6, c7, fr_join ⟨rfl, trivial⟩, rfl, H.sel' [1] rfl rfl⟩
 ·clear hj
  have h := h'
  clear h' H
  rintro e a w ⟨rfl, ρ, σ90, a91, c92, rfl, rfl, H⟩
  refine q_then (c_seq (rg (sm (Sl a91 o3 c92) rfl (sa (Sl a91 o3 c92) rfl (w_end (q_then (c_ret ?_)))))))
  obtain rfl := sj h
  exact fin_ret (v := (Sl a91 o3 c92)) (results_ok Tryz.results36 (res_tmp (v := (Sl a91 o3 c92)) rfl res_nil) rfl) ⟨a91, c92, rfl, rfl⟩ (H.sel' [0] rfl rfl)

theorem c_spec_keyAt {Ao : List (Int × (List Int) × Int)} {Ea : Int} {Ap : Option Addr} {Aq : Nat} {r : Int} (h : M.spec_keyAt Ao Ea = some r) :
    Cal2 Tryz.prog 49 [(Sl Ap Ao Aq), (I Ea)] [Ch.ro 0 (Sl Ap Ao Aq) Ao] (fun n0 v L => v = (I r) ∧ L = []) := by
 refine cal2 (n := 20) Tryz.func49 rfl rfl rfl rfl ?_
 intro S0 σ0 n0 hn0 H
 unfold M.spec_keyAt at h
 refine c_seq (rg (sa (I 0) rfl (w_end (q_then (c_seq (c_seq (rg (sa (I 0) rfl (w_end (q_then ?_))))))))))
 obtain ⟨o1, hj, h'⟩ := bind_some h
 clear h
 refine c_cut (fun e a w => (∃ t, o1 = (.inl t) ∧ e = .normal ∧ ∃ (ρ : Nat → Value) (σ : St), a = fr 20 (updL ρ []) ∧ w = σ.w ∧ Hp S0 σ0 σ []) ∨ (∃ t, o1 = (.inr t) ∧ e = .ret ∧ ∃ (ρ : Nat → Value) (σ : St), a = fr 20 (updL ρ [(4, (I t))]) ∧ w = σ.w ∧ Hp S0 σ0 σ [])) ?_ ?_
 ·clear h'
  rename _ = some o1 => h
  refine c_blk (wp_loopM _ h (fun s2 a w => ∃ (ρ : Nat → Value) (σ : St), a = fr 20 (updL ρ [(0, (Sl Ap Ao Aq)), (1, (I Ea)), (5, (I s2))]) ∧ w = σ.w ∧ Hp S0 σ0 σ [Ch.ro 0 (Sl Ap Ao Aq) Ao]) ⟨_, σ0, fr_join ⟨rfl, rfl, rfl, trivial⟩, rfl, H.sel' [0] rfl rfl⟩ ?_)
  clear h H
  rintro s2 a w o ⟨ρ, σ3, rfl, rfl, H⟩ h hres
  refine c_seq (c_seq (rg (sm (I s2) rfl (sm (Sl Ap Ao Aq) rfl (st (v := (I (Ao.length : Int))) (rv_len Tryz.underlying23 rfl) (st (v := (B (decide (s2 < (Ao.length : Int))))) (rv_lss (a := s2) (b := (Ao.length : Int)) rfl rfl) (w_end (q_then ?_))))))))
  refine cd_cond (decide (s2 < (Ao.length : Int))) rfl (fun hb4 => ?_) (fun hb4 => ?_)
  ·replace h := bif_t hb4 h
   refine c_skip (q_then (c_seq (c_blk (c_seq (rg (sm (Sl Ap Ao Aq) rfl (sm (I s2) rfl ?_)))))))
   revert h; refine br fun x5 hx6 h => ?_
   obtain ⟨b8, o9, hi7, -⟩ := (H.ro 0 rfl).ix hx6
   refine st (v := (pt b8 o9)) (rv_ix Tryz.underlying23 ti33 rfl rfl hi7) (st (v := (pt b8 (o9 + 0))) (rv_fieldAddr (off := 0) (ft := 3) Tryz.underlying33 rfl ti3 rfl rfl) ?_)
   have hc10 := ((H.ro 0 rfl).at hx6 hi7).fst.int
   refine st (v := (I x5.1)) (rv_load1 Tryz.underlying3 rfl rfl hc10) (sm (I Ea) rfl (st (v := (B (x5.1 == Ea))) (rv_eql (a := x5.1) (b := Ea) rfl rfl) (w_end (q_then ?_))))
   refine cd_cond (x5.1 == Ea) rfl (fun hb11 => ?_) (fun hb11 => ?_)
   ·replace h := bif_t hb11 h
    refine c_seq (rg (sm (I s2) rfl (sa (I s2) rfl (w_end (q_then (c_ret (q_blk_r (q_then_r (q_then_r (q_blk_r ?_))))))))))
    obtain rfl := sj h
    obtain rfl := hres _ rfl
    exact .inr (⟨_, rfl, rfl, _, σ3, fr_join ⟨rfl, trivial⟩, rfl, H.sel' [] rfl rfl⟩)
   ·replace h := bif_f hb11 h
    refine c_skip (q_blk (q_then (rg (sm (I s2) rfl (st (v := (I (w64 (s2 + 1)))) (rv_add (a := s2) (b := 1) rfl rfl) (sa (I (w64 (s2 + 1))) rfl (w_end (q_then ?_))))))))
    obtain rfl := sj h
    exact ⟨_, rfl, _, σ3, fr_join ⟨rfl, rfl, rfl, trivial⟩, rfl, H.sel' [0] rfl rfl⟩
  ·replace h := bif_f hb4 h
   refine c_exit (q_then_x (q_then_x (q_blk_hit ?_)))
   obtain rfl := sj h
   obtain rfl := hres _ rfl
   exact .inl ⟨_, rfl, rfl, _, σ3, fr_join trivial, rfl, H.sel' [] rfl rfl⟩
 ·clear hj
  have h := h'
  clear h' H
  rintro e a w (⟨t12, rfl, rfl, ρ, σ13, rfl, rfl, H⟩ | ⟨t14, rfl, rfl, ρ, σ15, rfl, rfl, H⟩)
  ·replace h := selim_l h
   refine q_then (c_seq (rg (sa (I (-1)) rfl (w_end (q_then (c_ret ?_))))))
   obtain rfl := sj h
   exact fin_ret (v := (I (-1))) (results_ok Tryz.results49 (res_tmp (v := (I (-1))) rfl res_nil) rfl) ⟨rfl, rfl⟩ (H.sel' [] rfl rfl)
  ·replace h := selim_r h
   refine q_then_r ?_
   obtain rfl := sj h
   exact fin_ret (v := (I t14)) (results_ok Tryz.results49 (res_tmp (v := (I t14)) rfl res_nil) rfl) ⟨rfl, rfl⟩ (H.sel' [] rfl rfl)

theorem c_spec_isIn {Ao : List Int} {Dz : Int} {Ap : Option Addr} {Aq : Nat} {r : Bool} (h : M.spec_isIn Ao Dz = some r) :
    Cal2 Tryz.prog 56 [(Sl Ap Ao Aq), (I Dz)] [Ch.ro 0 (Sl Ap Ao Aq) Ao] (fun n0 v L => v = (B r) ∧ L = []) := by
 refine cal2 (n := 18) Tryz.func56 rfl rfl rfl rfl ?_
 intro S0 σ0 n0 hn0 H
 unfold M.spec_isIn at h
 refine c_seq (rg (sa (B false) rfl (w_end (q_then (c_seq (c_seq (rg (sa (I 0) rfl (w_end (q_then ?_))))))))))
 obtain ⟨o1, hj, h'⟩ := bind_some h
 clear h
 refine c_cut (fun e a w => (∃ t, o1 = (.inl t) ∧ e = .normal ∧ ∃ (ρ : Nat → Value) (σ : St), a = fr 18 (updL ρ []) ∧ w = σ.w ∧ Hp S0 σ0 σ []) ∨ (∃ t, o1 = (.inr t) ∧ e = .ret ∧ ∃ (ρ : Nat → Value) (σ : St), a = fr 18 (updL ρ [(4, (B t))]) ∧ w = σ.w ∧ Hp S0 σ0 σ [])) ?_ ?_
 ·clear h'
  rename _ = some o1 => h
  refine c_blk (wp_loopM _ h (fun s2 a w => ∃ (ρ : Nat → Value) (σ : St), a = fr 18 (updL ρ [(0, (Sl Ap Ao Aq)), (1, (I Dz)), (5, (I s2))]) ∧ w = σ.w ∧ Hp S0 σ0 σ [Ch.ro 0 (Sl Ap Ao Aq) Ao]) ⟨_, σ0, fr_join ⟨rfl, rfl, rfl, trivial⟩, rfl, H.sel' [0] rfl rfl⟩ ?_)
  clear h H
  rintro s2 a w o ⟨ρ, σ3, rfl, rfl, H⟩ h hres
  refine c_seq (c_seq (rg (sm (I s2) rfl (sm (Sl Ap Ao Aq) rfl (st (v := (I (Ao.length : Int))) (rv_len Tryz.underlying31 rfl) (st (v := (B (decide (s2 < (Ao.length : Int))))) (rv_lss (a := s2) (b := (Ao.length : Int)) rfl rfl) (w_end (q_then ?_))))))))
  refine cd_cond (decide (s2 < (Ao.length : Int))) rfl (fun hb4 => ?_) (fun hb4 => ?_)
  ·replace h := bif_t hb4 h
   refine c_skip (q_then (c_seq (c_blk (c_seq (rg (sm (Sl Ap Ao Aq) rfl (sm (I s2) rfl ?_)))))))
   revert h; refine br fun x5 hx6 h => ?_
   obtain ⟨b8, o9, hi7, -⟩ := (H.ro 0 rfl).ix hx6
   refine st (v := (pt b8 o9)) (rv_ix Tryz.underlying31 ti3 rfl rfl hi7) ?_
   have hc10 := ((H.ro 0 rfl).at hx6 hi7).int
   refine st (v := (I x5)) (rv_load1 Tryz.underlying3 rfl rfl hc10) (sm (I Dz) rfl (st (v := (B (x5 == Dz))) (rv_eql (a := x5) (b := Dz) rfl rfl) (w_end (q_then ?_))))
   refine cd_cond (x5 == Dz) rfl (fun hb11 => ?_) (fun hb11 => ?_)
   ·replace h := bif_t hb11 h
    refine c_seq (rg (sa (B true) rfl (w_end (q_then (c_ret (q_blk_r (q_then_r (q_then_r (q_blk_r ?_)))))))))
    obtain rfl := sj h
    obtain rfl := hres _ rfl
    exact .inr (⟨_, rfl, rfl, _, σ3, fr_join ⟨rfl, trivial⟩, rfl, H.sel' [] rfl rfl⟩)
   ·replace h := bif_f hb11 h
    refine c_skip (q_blk (q_then (rg (sm (I s2) rfl (st (v := (I (w64 (s2 + 1)))) (rv_add (a := s2) (b := 1) rfl rfl) (sa (I (w64 (s2 + 1))) rfl (w_end (q_then ?_))))))))
    obtain rfl := sj h
    exact ⟨_, rfl, _, σ3, fr_join ⟨rfl, rfl, rfl, trivial⟩, rfl, H.sel' [0] rfl rfl⟩
  ·replace h := bif_f hb4 h
   refine c_exit (q_then_x (q_then_x (q_blk_hit ?_)))
   obtain rfl := sj h
   obtain rfl := hres _ rfl
   exact .inl ⟨_, rfl, rfl, _, σ3, fr_join trivial, rfl, H.sel' [] rfl rfl⟩
 ·clear hj
  have h := h'
  clear h' H
  rintro e a w (⟨t12, rfl, rfl, ρ, σ13, rfl, rfl, H⟩ | ⟨t14, rfl, rfl, ρ, σ15, rfl, rfl, H⟩)
  ·replace h := selim_l h
   refine q_then (c_seq (rg (sa (B false) rfl (w_end (q_then (c_ret ?_))))))
   obtain rfl := sj h
   exact fin_ret (v := (B false)) (results_ok Tryz.results56 (res_tmp (v := (B false)) rfl res_nil) rfl) ⟨rfl, rfl⟩ (H.sel' [] rfl rfl)
  ·replace h := selim_r h
   refine q_then_r ?_
   obtain rfl := sj h
   exact fin_ret (v := (B t14)) (results_ok Tryz.results56 (res_tmp (v := (B t14)) rfl res_nil) rfl) ⟨rfl, rfl⟩ (H.sel' [] rfl rfl)

theorem c_spec_ReachedFrom {Ao : List (Int × (List Int) × Int)} {As : Int} {Au : Int} {Ff : Int} {Ap : Option Addr} {Aq : Nat} {r : (List Int)} (h : M.spec_ReachedFrom Ao As Au Ff = some r) :
    Cal2 Tryz.prog 25 [(Sl Ap Ao Aq), (I As), (I Au), (I Ff)] [Ch.ro 0 (Sl Ap Ao Aq) Ao] (fun n0 v L => ∃ (az1 : Option Addr), ∃ (cz2 : Nat), v = (Sl az1 r cz2) ∧ L = [Ch.own n0 n0 (Sl az1 r cz2) r]) := by
 refine cal2 (n := 99) Tryz.func25 rfl rfl rfl rfl ?_
 intro S0 σ0 n0 hn0 H
 unfold M.spec_ReachedFrom at h
 refine c_seq (rg (sa (.slice none 0 0) rfl (w_end (q_then (c_seq (c_seq ?_))))))
 obtain ⟨o1, hj, h'⟩ := bind_some h
 clear h
 refine c_cut (fun e a w => e = .normal ∧ ∃ (ρ : Nat → Value) (σ : St), a = fr 99 (updL ρ [(0, (Sl Ap Ao Aq)), (1, (I As)), (2, (I Au)), (3, (I Ff)), (34, (B o1))]) ∧ w = σ.w ∧ Hp S0 σ0 σ [Ch.ro 0 (Sl Ap Ao Aq) Ao]) ?_ ?_
 ·clear h'
  rename _ = some o1 => h
  refine rg (sm (Sl Ap Ao Aq) rfl ?_)
  revert h; refine br fun r2 hx3 h => ?_
  have hc4 := c_spec_validStore (Ap := Ap) (Aq := Aq) hx3
  refine st_call (cx_call hc4 (ent_f hc4.fn rfl) hn0 (H.sel' [0, 0] rfl rfl : Hp S0 σ0 _ ([_] ++ _))) wn ?_
  rintro _ σ5 ⟨_, ⟨rfl, rfl⟩, H, -⟩
  replace H : Hp _ _ _ [_] := H
  refine st (v := (B (!r2))) (rv_not rfl) (sm (B (!r2)) rfl ?_)
  rcases Bool.eq_false_or_eq_true (!r2) with hb6 | hb6
  ·replace h := bif_t hb6 h
   refine st_skip (congrArg some hb6) (st_skip (congrArg some hb6) (st_skip (congrArg some hb6) (st (v := (B true)) (rv_pick_t (congrArg B hb6) rfl) (sm (B true) rfl (st_skip rfl (st_skip rfl (st_skip rfl (st (v := (B true)) (rv_pick_t rfl rfl) (sm (B true) rfl (st_skip rfl (st_skip rfl ?_)))))))))))
   refine st_skip rfl (st_skip rfl (st (v := (B true)) (rv_pick_t rfl rfl) (w_end ?_)))
   obtain rfl := sj h
   exact ⟨rfl, _, σ5, fr_join ⟨rfl, rfl, rfl, rfl, rfl, trivial⟩, rfl, H.sel' [0] rfl rfl⟩
  ·replace h := bif_f hb6 h
   refine st_g (v := (I As)) (congrArg some hb6) (rv_move rfl) ?_
   revert h; refine br fun r7 hx8 h => ?_
   have hc9 := c_spec_validKind hx8
   refine st_call (cx_call hc9 (ent_f hc9.fn rfl) hn0 (H.sel' [0] rfl rfl : Hp S0 σ0 _ ([] ++ _))) (wanted_yes rfl (by exact (congrArg some hb6))) ?_
   rintro _ σ10 ⟨_, ⟨rfl, rfl⟩, H, -⟩
   replace H : Hp _ _ _ [_] := H
   refine st_g (v := (B (!r7))) (congrArg some hb6) (rv_not rfl) (st (v := (B (!r7))) (rv_pick_f (congrArg B hb6) rfl) (sm (B (!r7)) rfl ?_))
   rcases Bool.eq_false_or_eq_true (!r7) with hb11 | hb11
   ·replace h := bif_t hb11 h
    refine st_skip (congrArg some hb11) (st_skip (congrArg some hb11) (st_skip (congrArg some hb11) (st (v := (B true)) (rv_pick_t (congrArg B hb11) rfl) (sm (B true) rfl (st_skip rfl (st_skip rfl (st_skip rfl (st_skip rfl (st (v := (B true)) (rv_pick_t rfl rfl) (w_end ?_))))))))))
    obtain rfl := sj h
    exact ⟨rfl, _, σ10, fr_join ⟨rfl, rfl, rfl, rfl, rfl, trivial⟩, rfl, H.sel' [0] rfl rfl⟩
   ·replace h := bif_f hb11 h
    refine st_g (v := (I Au)) (congrArg some hb11) (rv_move rfl) ?_
    revert h; refine br fun r12 hx13 h => ?_
    have hc14 := c_spec_inRange hx13
    refine st_call (cx_call hc14 (ent_f hc14.fn rfl) hn0 (H.sel' [0] rfl rfl : Hp S0 σ0 _ ([] ++ _))) (wanted_yes rfl (by exact (congrArg some hb11))) ?_
    rintro _ σ15 ⟨_, ⟨rfl, rfl⟩, H, -⟩
    replace H : Hp _ _ _ [_] := H
    refine st_g (v := (B (!r12))) (congrArg some hb11) (rv_not rfl) (st (v := (B (!r12))) (rv_pick_f (congrArg B hb11) rfl) (sm (B (!r12)) rfl ?_))
    rcases Bool.eq_false_or_eq_true (!r12) with hb16 | hb16
    ·replace h := bif_t hb16 h
     refine st_skip (congrArg some hb16) (st_skip (congrArg some hb16) (st_skip (congrArg some hb16) (st_skip (congrArg some hb16) (st (v := (B true)) (rv_pick_t (congrArg B hb16) rfl) (w_end ?_)))))
     obtain rfl := sj h
     exact ⟨rfl, _, σ15, fr_join ⟨rfl, rfl, rfl, rfl, rfl, trivial⟩, rfl, H.sel' [0] rfl rfl⟩
    ·replace h := bif_f hb16 h
     refine st_g (v := (Sl Ap Ao Aq)) (congrArg some hb16) (rv_move rfl) (st_g (v := (I Ff)) (congrArg some hb16) (rv_move rfl) ?_)
     revert h; refine br fun r17 hx18 h => ?_
     have hc19 := c_spec_keyAt (Ap := Ap) (Aq := Aq) hx18
     refine st_call (cx_call hc19 (ent_f hc19.fn rfl) hn0 (H.sel' [0, 0] rfl rfl : Hp S0 σ0 _ ([_] ++ _))) (wanted_yes rfl (by exact (congrArg some hb16))) ?_
     rintro _ σ20 ⟨_, ⟨rfl, rfl⟩, H, -⟩
     replace H : Hp _ _ _ [_] := H
     refine st_g (v := (B (decide (r17 < 0)))) (congrArg some hb16) (rv_lss (a := r17) (b := 0) rfl rfl) (st (v := (B (decide (r17 < 0)))) (rv_pick_f (congrArg B hb16) rfl) (w_end ?_))
     obtain rfl := sj h
     exact ⟨rfl, _, σ20, fr_join ⟨rfl, rfl, rfl, rfl, rfl, trivial⟩, rfl, H.sel' [0] rfl rfl⟩
 ·clear hj
  have h := h'
  clear h' H
  rintro e a w ⟨rfl, ρ, σ21, rfl, rfl, H⟩
  refine q_then ?_
  refine cd_cond o1 rfl (fun hb22 => ?_) (fun hb22 => ?_)
  ·replace h := bif_t hb22 h
   refine c_seq (rg (sa (.slice none 0 0) rfl (w_end (q_then (c_ret (q_then_r ?_))))))
   replace H := H.nilOwn Int n0 n0
   obtain rfl := sj h
   exact fin_ret (v := (.slice none 0 0)) (results_ok Tryz.results25 (res_tmp (v := (.slice none 0 0)) rfl res_nil) rfl) ⟨none, 0, rfl, rfl⟩ (H.sel' [0] rfl rfl)
  ·replace h := bif_f hb22 h
   refine c_skip (q_then (c_seq (rg (sm (Sl Ap Ao Aq) rfl (sm (I As) rfl (sm (I Au) rfl ?_))))))
   revert h; refine br fun r23 hx24 h => ?_
   have hc25 := c_spec_links (Ap := Ap) (Aq := Aq) hx24
   refine st_call (cx_call hc25 (ent_f hc25.fn rfl) hn0 (H.sel' [0, 0] rfl rfl : Hp S0 σ0 _ ([_] ++ _))) wn ?_
   rintro _ σ28 ⟨_, ⟨a26, c27, rfl, rfl⟩, H, -⟩
   replace H : Hp _ _ _ [_, _] := H
   refine sa (Sl a26 r23 c27) rfl (w_end (q_then (c_seq (rg (sm (I Ff) rfl ?_)))))
   refine st_ex (ex_buildSlice (el := n0) (xs := ([Ff] : List Int)) (ps := [(0, (I Ff))]) (cs := [(I Ff)]) H hn0 Tryz.underlying31 ti3 rfl rfl (by kernel_rfl) (.cons (c := [(I Ff)]) rfl (.nil)) rfl) wn ?_
   rintro _ σ30 ⟨b29, rfl, H, -⟩
   refine sa (Sl (some ⟨b29, 0, none⟩) ([Ff] : List Int) 1) rfl (w_end (q_then (c_seq (c_seq (rg (sa (I 0) rfl (w_end (q_then ?_))))))))
   obtain ⟨o31, hj, h'⟩ := bind_some h
   clear h
   refine c_cut (fun e a w => e = .normal ∧ ∃ (ρ : Nat → Value) (σ : St) (aj1 : Option Addr) (cj2 : Nat), a = fr 99 (updL ρ [(0, (Sl Ap Ao Aq)), (10, (Sl aj1 o31 cj2))]) ∧ w = σ.w ∧ Hp S0 σ0 σ [Ch.ro 0 (Sl Ap Ao Aq) Ao, Ch.own n0 n0 (Sl aj1 o31 cj2) o31]) ?_ ?_
   ·clear h'
    rename _ = some o31 => h
    refine c_blk (wp_loopM _ h (fun s32 a w => ∃ (ρ : Nat → Value) (σ : St) (aj1 : Option Addr) (cj2 : Nat), a = fr 99 (updL ρ [(0, (Sl Ap Ao Aq)), (9, (Sl a26 r23 c27)), (10, (Sl aj1 s32.1 cj2)), (11, (I s32.2))]) ∧ w = σ.w ∧ Hp S0 σ0 σ [Ch.ro 0 (Sl Ap Ao Aq) Ao, Ch.own n0 n0 (Sl a26 r23 c27) r23, Ch.own n0 n0 (Sl aj1 s32.1 cj2) s32.1]) ⟨_, σ30, (some ⟨b29, 0, none⟩), 1, fr_join ⟨rfl, rfl, rfl, rfl, trivial⟩, rfl, H.sel' [2, 1, 0] rfl rfl⟩ ?_)
    clear h H
    rintro s32 a w o ⟨ρ, σ33, a34, c35, rfl, rfl, H⟩ h hres
    refine c_seq (c_seq (rg (sm (I s32.2) rfl (sm (Sl a34 s32.1 c35) rfl (st (v := (I (s32.1.length : Int))) (rv_len Tryz.underlying31 rfl) (st (v := (B (decide (s32.2 < (s32.1.length : Int))))) (rv_lss (a := s32.2) (b := (s32.1.length : Int)) rfl rfl) (w_end (q_then ?_))))))))
    refine cd_cond (decide (s32.2 < (s32.1.length : Int))) rfl (fun hb36 => ?_) (fun hb36 => ?_)
    ·replace h := bif_t hb36 h
     refine c_skip (q_then (c_seq (c_blk (c_seq (rg (sm (Sl a26 r23 c27) rfl (sm (Sl Ap Ao Aq) rfl (sm (Sl a34 s32.1 c35) rfl (sm (I s32.2) rfl ?_)))))))))
     revert h; refine br fun x37 hx38 h => ?_
     obtain ⟨b40, o41, hi39, -⟩ := (H.own 2 rfl).ix hx38
     refine st (v := (pt b40 o41)) (rv_ix Tryz.underlying31 ti3 rfl rfl hi39) ?_
     have hc42 := ((H.own 2 rfl).at hx38 hi39).int
     refine st (v := (I x37)) (rv_load1 Tryz.underlying3 rfl rfl hc42) ?_
     revert h; refine br fun r43 hx44 h => ?_
     have hc45 := c_spec_keyAt (Ap := Ap) (Aq := Aq) hx44
     refine st_call (cx_call hc45 (ent_f hc45.fn rfl) hn0 (H.sel' [0, 0, 1, 2] rfl rfl : Hp S0 σ0 _ ([_] ++ _))) wn ?_
     rintro _ σ46 ⟨_, ⟨rfl, rfl⟩, H, -⟩
     replace H : Hp _ _ _ [_, _, _] := H
     revert h; refine br fun x47 hx48 h => ?_
     obtain ⟨b50, o51, hi49, -⟩ := (H.own 1 rfl).ix hx48
     refine st (v := (pt b50 o51)) (rv_ix Tryz.underlying26 ti31 rfl rfl hi49) ?_
     obtain ⟨v55, hc56, hR54⟩ := ((H.own 1 rfl).at hx48 hi49).slice
     obtain ⟨a52, c53, rfl⟩ := hR54.isSl
     replace H := H.add (d := Ch.ro n0 (Sl a52 x47 c53) x47) hR54 (fun _ h => h)
     clear hR54
     refine st (v := (Sl a52 x47 c53)) (rv_load1 Tryz.underlying31 rfl rfl hc56) (sa (Sl a52 x47 c53) rfl (w_end (q_then (c_seq (rg (sa (I 0) rfl (w_end (q_then ?_))))))))
     obtain ⟨o57, hj, h'⟩ := bind_some h
     clear h
     refine c_cut (fun e a w => e = .normal ∧ ∃ (ρ : Nat → Value) (σ : St) (aj1 : Option Addr) (cj2 : Nat), a = fr 99 (updL ρ [(0, (Sl Ap Ao Aq)), (9, (Sl a26 r23 c27)), (10, (Sl aj1 o57 cj2)), (11, (I s32.2))]) ∧ w = σ.w ∧ Hp S0 σ0 σ [Ch.ro 0 (Sl Ap Ao Aq) Ao, Ch.own n0 n0 (Sl a26 r23 c27) r23, Ch.own n0 n0 (Sl aj1 o57 cj2) o57]) ?_ ?_
     ·clear h'
      rename _ = some o57 => h
      refine c_blk (wp_loopM _ h (fun s58 a w => ∃ (ρ : Nat → Value) (σ : St) (aj1 : Option Addr) (cj2 : Nat), a = fr 99 (updL ρ [(0, (Sl Ap Ao Aq)), (9, (Sl a26 r23 c27)), (10, (Sl aj1 s58.1 cj2)), (11, (I s32.2)), (12, (Sl a52 x47 c53)), (13, (I s58.2))]) ∧ w = σ.w ∧ Hp S0 σ0 σ [Ch.ro 0 (Sl Ap Ao Aq) Ao, Ch.own n0 n0 (Sl a26 r23 c27) r23, Ch.own n0 n0 (Sl aj1 s58.1 cj2) s58.1, Ch.ro n0 (Sl a52 x47 c53) x47]) ⟨_, σ46, a34, c35, fr_join ⟨rfl, rfl, rfl, rfl, rfl, rfl, trivial⟩, rfl, H.sel' [1, 2, 3, 0] rfl rfl⟩ ?_)
      clear h H
      rintro s58 a w o ⟨ρ, σ59, a60, c61, rfl, rfl, H⟩ h hres
      refine c_seq (c_seq (rg (sm (I s58.2) rfl (sm (Sl a52 x47 c53) rfl (st (v := (I (x47.length : Int))) (rv_len Tryz.underlying31 rfl) (st (v := (B (decide (s58.2 < (x47.length : Int))))) (rv_lss (a := s58.2) (b := (x47.length : Int)) rfl rfl) (w_end (q_then ?_))))))))
      refine cd_cond (decide (s58.2 < (x47.length : Int))) rfl (fun hb62 => ?_) (fun hb62 => ?_)
      ·replace h := bif_t hb62 h
       refine c_skip (q_then (c_seq ?_))
       obtain ⟨o63, hj, h'⟩ := bind_some h
       clear h
       refine c_cut (fun e a w => e = .normal ∧ ∃ (ρ : Nat → Value) (σ : St) (aj1 : Option Addr) (cj2 : Nat), a = fr 99 (updL ρ [(0, (Sl Ap Ao Aq)), (9, (Sl a26 r23 c27)), (10, (Sl aj1 o63 cj2)), (11, (I s32.2)), (12, (Sl a52 x47 c53)), (13, (I s58.2))]) ∧ w = σ.w ∧ Hp S0 σ0 σ [Ch.ro 0 (Sl Ap Ao Aq) Ao, Ch.own n0 n0 (Sl a26 r23 c27) r23, Ch.own n0 n0 (Sl aj1 o63 cj2) o63, Ch.ro n0 (Sl a52 x47 c53) x47]) ?_ ?_
       ·clear h'
        rename _ = some o63 => h
        refine c_blk (c_seq (rg (sm (Sl a60 s58.1 c61) rfl (sm (Sl a52 x47 c53) rfl (sm (I s58.2) rfl ?_)))))
        revert h; refine br fun x64 hx65 h => ?_
        obtain ⟨b67, o68, hi66, -⟩ := (H.ro 3 rfl).ix hx65
        refine st (v := (pt b67 o68)) (rv_ix Tryz.underlying31 ti3 rfl rfl hi66) ?_
        have hc69 := ((H.ro 3 rfl).at hx65 hi66).int
        refine st (v := (I x64)) (rv_load1 Tryz.underlying3 rfl rfl hc69) ?_
        revert h; refine br fun r70 hx71 h => ?_
        have hc72 := c_spec_isIn (Ap := a60) (Aq := c61) hx71
        have hle := Nat.le_trans hn0 H.size
        refine st_call (cx_lend (Loan.lend Loan.nil) hc72 (ent_f hc72.fn rfl) (show Hp S0 σ0 _ ([Ch.own n0 n0 (Sl a60 s58.1 c61) s58.1] ++ ([] ++ [Ch.ro 0 (Sl Ap Ao Aq) Ao, Ch.own n0 n0 (Sl a26 r23 c27) r23, Ch.ro n0 (Sl a52 x47 c53) x47])) from (H.sel' [2, 0, 1, 3] rfl rfl)) (by rintro _ _ _ ⟨rfl, rfl⟩; exact trivial)) wn ?_
        rintro _ σ73 ⟨_, ⟨rfl, rfl⟩, H, -, -⟩
        replace H : Hp _ _ _ [_, _, _, _] := H
        clear hle
        replace H : Hp _ _ _ [_, _, _, _] := H
        refine st (v := (B (!r70))) (rv_not rfl) (w_end (q_then ?_))
        refine cd_cond (!r70) rfl (fun hb74 => ?_) (fun hb74 => ?_)
        ·replace h := bif_t hb74 h
         refine rg (sm (Sl a60 s58.1 c61) rfl (sm (Sl a52 x47 c53) rfl (sm (I s58.2) rfl ?_)))
         revert h; refine br fun x75 hx76 h => ?_
         obtain ⟨b78, o79, hi77, -⟩ := (H.ro 3 rfl).ix hx76
         refine st (v := (pt b78 o79)) (rv_ix Tryz.underlying31 ti3 rfl rfl hi77) ?_
         have hc80 := ((H.ro 3 rfl).at hx76 hi77).int
         refine st (v := (I x75)) (rv_load1 Tryz.underlying3 rfl rfl hc80) ?_
         refine st_ex (ex_buildSlice (el := n0) (xs := ([x75] : List Int)) (ps := [(0, (I x75))]) (cs := [(I x75)]) H hn0 Tryz.underlying31 ti3 rfl rfl (by kernel_rfl) (.cons (c := [(I x75)]) rfl (.nil)) rfl) wn ?_
         rintro _ σ82 ⟨b81, rfl, H, -⟩
         revert h; refine br fun xs83 hx84 h => ?_
         refine st_ex (ex_append H (i := 1) rfl Tryz.underlying31 Tryz.underlying31 ti3 rfl rfl (by decide) (H.own 0 rfl).rd hx84 hn0 rfl rfl) wn ?_
         rintro _ σ87 ⟨a85, c86, rfl, H, -⟩
         refine sa (Sl a85 xs83 c86) rfl (w_end (q_blk ?_))
         obtain rfl := sj h
         exact ⟨rfl, _, σ87, a85, c86, fr_join ⟨rfl, rfl, rfl, rfl, rfl, rfl, trivial⟩, rfl, H.sel' [2, 3, 0, 4] rfl rfl⟩
        ·replace h := bif_f hb74 h
         refine c_skip (q_blk ?_)
         obtain rfl := sj h
         exact ⟨rfl, _, σ73, a60, c61, fr_join ⟨rfl, rfl, rfl, rfl, rfl, rfl, trivial⟩, rfl, H.sel' [1, 2, 0, 3] rfl rfl⟩
       ·clear hj
        have h := h'
        clear h' H
        rintro e a w ⟨rfl, ρ, σ88, a89, c90, rfl, rfl, H⟩
        refine q_then (rg (sm (I s58.2) rfl (st (v := (I (w64 (s58.2 + 1)))) (rv_add (a := s58.2) (b := 1) rfl rfl) (sa (I (w64 (s58.2 + 1))) rfl (w_end (q_then ?_))))))
        obtain rfl := sj h
        exact ⟨_, rfl, _, σ88, a89, c90, fr_join ⟨rfl, rfl, rfl, rfl, rfl, rfl, trivial⟩, rfl, H.sel' [0, 1, 2, 3] rfl rfl⟩
      ·replace h := bif_f hb62 h
       refine c_exit (q_then_x (q_then_x (q_blk_hit ?_)))
       obtain rfl := sj h
       obtain rfl := hres _ rfl
       exact ⟨rfl, _, σ59, a60, c61, fr_join ⟨rfl, rfl, rfl, rfl, trivial⟩, rfl, H.sel' [0, 1, 2] rfl rfl⟩
     ·clear hj
      have h := h'
      clear h' H
      rintro e a w ⟨rfl, ρ, σ91, a92, c93, rfl, rfl, H⟩
      refine q_blk (q_then (rg (sm (I s32.2) rfl (st (v := (I (w64 (s32.2 + 1)))) (rv_add (a := s32.2) (b := 1) rfl rfl) (sa (I (w64 (s32.2 + 1))) rfl (w_end (q_then ?_)))))))
      obtain rfl := sj h
      exact ⟨_, rfl, _, σ91, a92, c93, fr_join ⟨rfl, rfl, rfl, rfl, trivial⟩, rfl, H.sel' [0, 1, 2] rfl rfl⟩
    ·replace h := bif_f hb36 h
     refine c_exit (q_then_x (q_then_x (q_blk_hit ?_)))
     obtain rfl := sj h
     obtain rfl := hres _ rfl
     exact ⟨rfl, _, σ33, a34, c35, fr_join ⟨rfl, rfl, trivial⟩, rfl, H.sel' [0, 2] rfl rfl⟩
   ·clear hj
    have h := h'
    clear h' H
    rintro e a w ⟨rfl, ρ, σ94, a95, c96, rfl, rfl, H⟩
    refine q_then (c_seq (rg ?_))
    refine st_ex (ex_buildSlice (el := n0) (xs := ([] : List Int)) (ps := []) (cs := []) H hn0 Tryz.underlying31 ti3 rfl rfl (by kernel_rfl) (.nil) rfl) wn ?_
    rintro _ σ98 ⟨b97, rfl, H, -⟩
    refine sa (Sl (some ⟨b97, 0, none⟩) ([] : List Int) 0) rfl (w_end (q_then (c_seq (c_seq (rg (sa (I 0) rfl (w_end (q_then ?_))))))))
    obtain ⟨o99, hj, h'⟩ := bind_some h
    clear h
    refine c_cut (fun e a w => e = .normal ∧ ∃ (ρ : Nat → Value) (σ : St) (aj1 : Option Addr) (cj2 : Nat), a = fr 99 (updL ρ [(14, (Sl aj1 o99 cj2))]) ∧ w = σ.w ∧ Hp S0 σ0 σ [Ch.own n0 n0 (Sl aj1 o99 cj2) o99]) ?_ ?_
    ·clear h'
     rename _ = some o99 => h
     refine c_blk (wp_loopM _ h (fun s100 a w => ∃ (ρ : Nat → Value) (σ : St) (aj1 : Option Addr) (cj2 : Nat), a = fr 99 (updL ρ [(0, (Sl Ap Ao Aq)), (10, (Sl a95 o31 c96)), (14, (Sl aj1 s100.1 cj2)), (15, (I s100.2))]) ∧ w = σ.w ∧ Hp S0 σ0 σ [Ch.ro 0 (Sl Ap Ao Aq) Ao, Ch.own n0 n0 (Sl a95 o31 c96) o31, Ch.own n0 n0 (Sl aj1 s100.1 cj2) s100.1]) ⟨_, σ98, (some ⟨b97, 0, none⟩), 0, fr_join ⟨rfl, rfl, rfl, rfl, trivial⟩, rfl, H.sel' [1, 2, 0] rfl rfl⟩ ?_)
     clear h H
     rintro s100 a w o ⟨ρ, σ101, a102, c103, rfl, rfl, H⟩ h hres
     refine c_seq (c_seq (rg (sm (I s100.2) rfl (sm (Sl Ap Ao Aq) rfl (st (v := (I (Ao.length : Int))) (rv_len Tryz.underlying23 rfl) (st (v := (B (decide (s100.2 < (Ao.length : Int))))) (rv_lss (a := s100.2) (b := (Ao.length : Int)) rfl rfl) (w_end (q_then ?_))))))))
     refine cd_cond (decide (s100.2 < (Ao.length : Int))) rfl (fun hb104 => ?_) (fun hb104 => ?_)
     ·replace h := bif_t hb104 h
      refine c_skip (q_then (c_seq ?_))
      obtain ⟨o105, hj, h'⟩ := bind_some h
      clear h
      refine c_cut (fun e a w => e = .normal ∧ ∃ (ρ : Nat → Value) (σ : St) (aj1 : Option Addr) (cj2 : Nat), a = fr 99 (updL ρ [(0, (Sl Ap Ao Aq)), (10, (Sl a95 o31 c96)), (14, (Sl aj1 o105 cj2)), (15, (I s100.2))]) ∧ w = σ.w ∧ Hp S0 σ0 σ [Ch.ro 0 (Sl Ap Ao Aq) Ao, Ch.own n0 n0 (Sl a95 o31 c96) o31, Ch.own n0 n0 (Sl aj1 o105 cj2) o105]) ?_ ?_
      ·clear h'
       rename _ = some o105 => h
       refine c_blk (c_seq (rg (sm (Sl a95 o31 c96) rfl (sm (Sl Ap Ao Aq) rfl (sm (I s100.2) rfl ?_)))))
       revert h; refine br fun x106 hx107 h => ?_
       obtain ⟨b109, o110, hi108, -⟩ := (H.ro 0 rfl).ix hx107
       refine st (v := (pt b109 o110)) (rv_ix Tryz.underlying23 ti33 rfl rfl hi108) (st (v := (pt b109 (o110 + 0))) (rv_fieldAddr (off := 0) (ft := 3) Tryz.underlying33 rfl ti3 rfl rfl) ?_)
       have hc111 := ((H.ro 0 rfl).at hx107 hi108).fst.int
       refine st (v := (I x106.1)) (rv_load1 Tryz.underlying3 rfl rfl hc111) ?_
       revert h; refine br fun r112 hx113 h => ?_
       have hc114 := c_spec_isIn (Ap := a95) (Aq := c96) hx113
       have hle := Nat.le_trans hn0 H.size
       refine st_call (cx_lend (Loan.lend Loan.nil) hc114 (ent_f hc114.fn rfl) (show Hp S0 σ0 _ ([Ch.own n0 n0 (Sl a95 o31 c96) o31] ++ ([] ++ [Ch.ro 0 (Sl Ap Ao Aq) Ao, Ch.own n0 n0 (Sl a102 s100.1 c103) s100.1])) from (H.sel' [1, 0, 2] rfl rfl)) (by rintro _ _ _ ⟨rfl, rfl⟩; exact trivial)) wn ?_
       rintro _ σ115 ⟨_, ⟨rfl, rfl⟩, H, -, -⟩
       replace H : Hp _ _ _ [_, _, _] := H
       clear hle
       replace H : Hp _ _ _ [_, _, _] := H
       refine w_end (q_then ?_)
       refine cd_cond r112 rfl (fun hb116 => ?_) (fun hb116 => ?_)
       ·replace h := bif_t hb116 h
        refine rg (sm (Sl a102 s100.1 c103) rfl (sm (Sl Ap Ao Aq) rfl (sm (I s100.2) rfl ?_)))
        revert h; refine br fun x117 hx118 h => ?_
        obtain ⟨b120, o121, hi119, -⟩ := (H.ro 1 rfl).ix hx118
        refine st (v := (pt b120 o121)) (rv_ix Tryz.underlying23 ti33 rfl rfl hi119) (st (v := (pt b120 (o121 + 0))) (rv_fieldAddr (off := 0) (ft := 3) Tryz.underlying33 rfl ti3 rfl rfl) ?_)
        have hc122 := ((H.ro 1 rfl).at hx118 hi119).fst.int
        refine st (v := (I x117.1)) (rv_load1 Tryz.underlying3 rfl rfl hc122) ?_
        refine st_ex (ex_buildSlice (el := n0) (xs := ([x117.1] : List Int)) (ps := [(0, (I x117.1))]) (cs := [(I x117.1)]) H hn0 Tryz.underlying31 ti3 rfl rfl (by kernel_rfl) (.cons (c := [(I x117.1)]) rfl (.nil)) rfl) wn ?_
        rintro _ σ124 ⟨b123, rfl, H, -⟩
        revert h; refine br fun xs125 hx126 h => ?_
        refine st_ex (ex_append H (i := 3) rfl Tryz.underlying31 Tryz.underlying31 ti3 rfl rfl (by decide) (H.own 0 rfl).rd hx126 hn0 rfl rfl) wn ?_
        rintro _ σ129 ⟨a127, c128, rfl, H, -⟩
        refine sa (Sl a127 xs125 c128) rfl (w_end (q_blk ?_))
        obtain rfl := sj h
        exact ⟨rfl, _, σ129, a127, c128, fr_join ⟨rfl, rfl, rfl, rfl, trivial⟩, rfl, H.sel' [3, 2, 0] rfl rfl⟩
       ·replace h := bif_f hb116 h
        refine c_skip (q_blk ?_)
        obtain rfl := sj h
        exact ⟨rfl, _, σ115, a102, c103, fr_join ⟨rfl, rfl, rfl, rfl, trivial⟩, rfl, H.sel' [1, 0, 2] rfl rfl⟩
      ·clear hj
       have h := h'
       clear h' H
       rintro e a w ⟨rfl, ρ, σ130, a131, c132, rfl, rfl, H⟩
       refine q_then (rg (sm (I s100.2) rfl (st (v := (I (w64 (s100.2 + 1)))) (rv_add (a := s100.2) (b := 1) rfl rfl) (sa (I (w64 (s100.2 + 1))) rfl (w_end (q_then ?_))))))
       obtain rfl := sj h
       exact ⟨_, rfl, _, σ130, a131, c132, fr_join ⟨rfl, rfl, rfl, rfl, trivial⟩, rfl, H.sel' [0, 1, 2] rfl rfl⟩
     ·replace h := bif_f hb104 h
      refine c_exit (q_then_x (q_then_x (q_blk_hit ?_)))
      obtain rfl := sj h
      obtain rfl := hres _ rfl
      exact ⟨rfl, _, σ101, a102, c103, fr_join ⟨rfl, trivial⟩, rfl, H.sel' [2] rfl rfl⟩
    ·clear hj
     have h := h'
     clear h' H
     rintro e a w ⟨rfl, ρ, σ133, a134, c135, rfl, rfl, H⟩
     refine q_then (c_seq (rg (sm (Sl a134 o99 c135) rfl (sa (Sl a134 o99 c135) rfl (w_end (q_then (c_ret ?_)))))))
     obtain rfl := sj h
     exact fin_ret (v := (Sl a134 o99 c135)) (results_ok Tryz.results25 (res_tmp (v := (Sl a134 o99 c135)) rfl res_nil) rfl) ⟨a134, c135, rfl, rfl⟩ (H.sel' [0] rfl rfl)

theorem c_laws_FnReachedFromClosed {Fg : List UInt8} {Fh : Option Addr} {Fi : Nat} {r : Bool} (h : M.laws_FnReachedFromClosed Fg = some r) :
    Cal2 Tryz.prog 8 [(Sl Fh Fg Fi)] [Ch.ro 0 (Sl Fh Fg Fi) Fg] (fun n0 v L => v = (B r) ∧ L = []) := by
 refine cal2 (n := 103) Tryz.func8 rfl rfl rfl rfl ?_
 intro S0 σ0 n0 hn0 H
 unfold M.laws_FnReachedFromClosed at h
 refine c_seq (rg (sa (B false) rfl (w_end (q_then (c_seq (c_seq (rg (sm (Sl Fh Fg Fi) rfl (st (v := (I (Fg.length : Int))) (rv_len Tryz.underlying22 rfl) (st (v := (B (decide (1048576 < (Fg.length : Int))))) (rv_gtr (a := (Fg.length : Int)) (b := 1048576) rfl rfl) (w_end ?_)))))))))))
 refine q_then ?_
 refine cd_cond (decide (1048576 < (Fg.length : Int))) rfl (fun hb1 => ?_) (fun hb1 => ?_)
 ·replace h := bif_t hb1 h
  refine c_seq (rg (sa (B true) rfl (w_end (q_then (c_ret (q_then_r ?_))))))
  obtain rfl := sj h
  exact fin_ret (v := (B true)) (results_ok Tryz.results8 (res_tmp (v := (B true)) rfl res_nil) rfl) ⟨rfl, rfl⟩ (H.sel' [] rfl rfl)
 ·replace h := bif_f hb1 h
  refine c_skip (q_then (c_seq (rg (sm (Sl Fh Fg Fi) rfl ?_))))
  revert h; refine br fun r2 hx3 h => ?_
  have hc4 := c_spec_DrawReachedFrom (Fh := Fh) (Fi := Fi) hx3
  refine st_call (cx_call hc4 (ent_f hc4.fn rfl) hn0 (H.sel' [0, 0] rfl rfl : Hp S0 σ0 _ ([_] ++ _))) wn ?_
  rintro _ σ7 ⟨_, ⟨a5, c6, rfl, rfl⟩, H, -⟩
  replace H : Hp _ _ _ [_, _] := H
  refine sm (.tuple #[(Sl a5 r2.1 c6), (I r2.2.1), (I r2.2.2.1), (I r2.2.2.2)]) rfl (st (v := (Sl a5 r2.1 c6)) (rv_extract rfl rfl) (st (v := (I r2.2.1)) (rv_extract rfl rfl) (st (v := (I r2.2.2.1)) (rv_extract rfl rfl) (st (v := (I r2.2.2.2)) (rv_extract rfl rfl) (sa (Sl a5 r2.1 c6) rfl (sa (I r2.2.1) rfl (sa (I r2.2.2.1) rfl (sa (I r2.2.2.2) rfl (w_end (q_then (c_seq ?_)))))))))))
  refine rg (sm (Sl a5 r2.1 c6) rfl (sm (I r2.2.1) rfl (sm (I r2.2.2.1) rfl (sm (I r2.2.2.2) rfl ?_))))
  replace H := H.roLow 0 0 rfl (Nat.zero_le _)
  revert h; refine br fun r8 hx9 h => ?_
  have hc10 := c_impl_ReachedFrom (Ap := a5) (Aq := c6) hx9
  refine st_call (cx_call hc10 (ent_f hc10.fn rfl) hn0 (H.sel' [0, 0, 1, 2] rfl rfl : Hp S0 σ0 _ ([_] ++ _))) wn ?_
  rintro _ σ13 ⟨_, ⟨a11, c12, rfl, rfl⟩, H, -⟩
  replace H : Hp _ _ _ [_, _, _, _] := H
  refine sa (Sl a11 r8 c12) rfl (w_end (q_then (c_seq (c_seq ?_))))
  obtain ⟨o14, hj, h'⟩ := bind_some h
  clear h
  refine c_cut (fun e a w => e = .normal ∧ ∃ (ρ : Nat → Value) (σ : St), a = fr 103 (updL ρ [(3, (Sl a5 r2.1 c6)), (4, (I r2.2.1)), (5, (I r2.2.2.1)), (6, (I r2.2.2.2)), (7, (Sl a11 r8 c12)), (38, (B o14))]) ∧ w = σ.w ∧ Hp S0 σ0 σ [Ch.ro n0 (Sl a5 r2.1 c6) r2.1, Ch.own 0 n0 (Sl a11 r8 c12) r8]) ?_ ?_
  ·clear h'
   rename _ = some o14 => h
   refine rg (sm (Sl a11 r8 c12) rfl (sm (Sl a5 r2.1 c6) rfl (sm (I r2.2.1) rfl (sm (I r2.2.2.1) rfl (sm (I r2.2.2.2) rfl ?_)))))
   replace H := H.roLow 2 0 rfl (Nat.zero_le _)
   revert h; refine br fun r15 hx16 h => ?_
   have hc17 := c_spec_ReachedFrom (Ap := a5) (Aq := c6) hx16
   refine st_call (cx_call hc17 (ent_f hc17.fn rfl) hn0 (H.sel' [0, 0, 1, 2, 3, 4] rfl rfl : Hp S0 σ0 _ ([_] ++ _))) wn ?_
   rintro _ σ20 ⟨_, ⟨a18, c19, rfl, rfl⟩, H, -⟩
   replace H : Hp _ _ _ [_, _, _, _, _, _] := H
   obtain ⟨σ21, hw22, H, -⟩ := H.pub 0 rfl (Nat.le_refl _)
   rw [← hw22]; clear hw22
   replace H := H.roLow 0 0 rfl (Nat.zero_le _)
   revert h; refine br fun r23 hx24 h => ?_
   have hc25 := c_laws_equalInts (Dv := a11) (Dw := c12) (Dx := a18) (Dy := c19) hx24
   have hle := Nat.le_trans hn0 H.size
   refine st_call (cx_lend (Loan.lend (Loan.same Loan.nil)) hc25 (ent_f hc25.fn rfl) (show Hp S0 σ0 _ ([Ch.own 0 n0 (Sl a11 r8 c12) r8] ++ ([Ch.ro 0 (Sl a18 r15 c19) r15] ++ [Ch.ro 0 (Sl a18 r15 c19) r15, Ch.ro n0 (Sl a18 r15 c19) r15, Ch.ro 0 (Sl a5 r2.1 c6) r2.1, Ch.ro 0 (Sl a5 r2.1 c6) r2.1, Ch.ro n0 (Sl a5 r2.1 c6) r2.1, Ch.ro 0 (Sl Fh Fg Fi) Fg])) from (H.sel' [3, 0, 0, 1, 2, 4, 5, 6] rfl rfl)) (by rintro _ _ _ ⟨rfl, rfl⟩; exact trivial)) wn ?_
   rintro _ σ26 ⟨_, ⟨rfl, rfl⟩, H, -, -⟩
   replace H : Hp _ _ _ [_, _, _, _, _, _, _] := H
   clear hle
   replace H : Hp _ _ _ [_, _, _, _, _, _, _] := H
   refine st (v := (B (!r23))) (rv_not rfl) (sm (B (!r23)) rfl ?_)
   rcases Bool.eq_false_or_eq_true (!r23) with hb27 | hb27
   ·replace h := bif_t hb27 h
    refine st_skip (congrArg some hb27) (st_skip (congrArg some hb27) (st_skip (congrArg some hb27) (st (v := (B true)) (rv_pick_t (congrArg B hb27) rfl) (w_end ?_))))
    obtain rfl := sj h
    exact ⟨rfl, _, σ26, fr_join ⟨rfl, rfl, rfl, rfl, rfl, rfl, trivial⟩, rfl, H.sel' [5, 0] rfl rfl⟩
   ·replace h := bif_f hb27 h
    refine st_g (v := (Sl a11 r8 c12)) (congrArg some hb27) (rv_move rfl) (st_g (v := (I (r8.length : Int))) (congrArg some hb27) (rv_len Tryz.underlying31 rfl) (st_g (v := (B ((r8.length : Int) == 0))) (congrArg some hb27) (rv_eql (a := (r8.length : Int)) (b := 0) rfl rfl) (st (v := (B ((r8.length : Int) == 0))) (rv_pick_f (congrArg B hb27) rfl) (w_end ?_))))
    obtain rfl := sj h
    exact ⟨rfl, _, σ26, fr_join ⟨rfl, rfl, rfl, rfl, rfl, rfl, trivial⟩, rfl, H.sel' [5, 0] rfl rfl⟩
  ·clear hj
   have h := h'
   clear h' H
   rintro e a w ⟨rfl, ρ, σ28, rfl, rfl, H⟩
   refine q_then ?_
   refine cd_cond o14 rfl (fun hb29 => ?_) (fun hb29 => ?_)
   ·replace h := bif_t hb29 h
    refine c_seq (rg (sm (Sl a11 r8 c12) rfl (sm (Sl a5 r2.1 c6) rfl (sm (I r2.2.1) rfl (sm (I r2.2.2.1) rfl (sm (I r2.2.2.2) rfl ?_))))))
    replace H := H.roLow 0 0 rfl (Nat.zero_le _)
    revert h; refine br fun r30 hx31 h => ?_
    have hc32 := c_spec_ReachedFrom (Ap := a5) (Aq := c6) hx31
    refine st_call (cx_call hc32 (ent_f hc32.fn rfl) hn0 (H.sel' [0, 0, 1, 2] rfl rfl : Hp S0 σ0 _ ([_] ++ _))) wn ?_
    rintro _ σ35 ⟨_, ⟨a33, c34, rfl, rfl⟩, H, -⟩
    replace H : Hp _ _ _ [_, _, _, _] := H
    replace H := H.ownLow 3 0 0 rfl (Nat.le_refl _) (Nat.zero_le _)
    obtain ⟨σ36, hw37, H, -⟩ := H.pub 0 rfl (Nat.le_refl _)
    rw [← hw37]; clear hw37
    obtain ⟨σ38, hw39, H, -⟩ := H.pub 1 rfl (Nat.le_refl _)
    rw [← hw39]; clear hw39
    replace H := H.roLow 0 0 rfl (Nat.zero_le _)
    revert h; refine br fun r40 hx41 h => ?_
    have hc42 := c_laws_equalInts (Dv := a11) (Dw := c12) (Dx := a33) (Dy := c34) hx41
    refine st_call (cx_call hc42 (ent_f hc42.fn rfl) hn0 (H.sel' [2, 0, 0, 1, 2, 3, 4] rfl rfl : Hp S0 σ0 _ ([_, _] ++ _))) wn ?_
    rintro _ σ43 ⟨_, ⟨rfl, rfl⟩, H, -⟩
    replace H : Hp _ _ _ [_, _, _, _, _] := H
    refine sa (B r40) rfl (w_end (q_then (c_ret (q_then_r ?_))))
    obtain rfl := sj h
    exact fin_ret (v := (B r40)) (results_ok Tryz.results8 (res_tmp (v := (B r40)) rfl res_nil) rfl) ⟨rfl, rfl⟩ (H.sel' [] rfl rfl)
   ·replace h := bif_f hb29 h
    refine c_skip (q_then (c_seq (rg (sm (Sl a5 r2.1 c6) rfl (sm (I r2.2.1) rfl (sm (I r2.2.2.1) rfl ?_))))))
    replace H := H.roLow 0 0 rfl (Nat.zero_le _)
    revert h; refine br fun r44 hx45 h => ?_
    have hc46 := c_impl_LinksOf (Ap := a5) (Aq := c6) hx45
    refine st_call (cx_call hc46 (ent_f hc46.fn rfl) hn0 (H.sel' [0, 0, 1, 2] rfl rfl : Hp S0 σ0 _ ([_] ++ _))) wn ?_
    rintro _ σ50 ⟨_, ⟨a47, c48, rfl, rfl, ht49⟩, H, -⟩
    replace H : Hp _ _ _ [_, _, _, _] := H
    refine sa (Sl a47 r44 c48) rfl (w_end (q_then (c_seq (c_seq (rg (sa (I 0) rfl (w_end (q_then ?_))))))))
    obtain ⟨o51, hj, h'⟩ := bind_some h
    clear h
    refine c_cut (fun e a w => (∃ t, o51 = (.inl t) ∧ e = .normal ∧ ∃ (ρ : Nat → Value) (σ : St), a = fr 103 (updL ρ [(3, (Sl a5 r2.1 c6)), (5, (I r2.2.2.1)), (6, (I r2.2.2.2)), (7, (Sl a11 r8 c12))]) ∧ w = σ.w ∧ Hp S0 σ0 σ [Ch.ro n0 (Sl a5 r2.1 c6) r2.1, Ch.own 0 n0 (Sl a11 r8 c12) r8]) ∨ (∃ t, o51 = (.inr t) ∧ e = .ret ∧ ∃ (ρ : Nat → Value) (σ : St), a = fr 103 (updL ρ [(2, (B t))]) ∧ w = σ.w ∧ Hp S0 σ0 σ [])) ?_ ?_
    ·clear h'
     rename _ = some o51 => h
     refine c_blk (wp_loopM _ h (fun s52 a w => ∃ (ρ : Nat → Value) (σ : St), a = fr 103 (updL ρ [(3, (Sl a5 r2.1 c6)), (5, (I r2.2.2.1)), (6, (I r2.2.2.2)), (7, (Sl a11 r8 c12)), (8, (Sl a47 r44 c48)), (9, (I s52))]) ∧ w = σ.w ∧ Hp S0 σ0 σ [Ch.ro n0 (Sl a5 r2.1 c6) r2.1, Ch.own 0 n0 (Sl a11 r8 c12) r8, Ch.own n0 n0 (Sl a47 r44 c48) r44]) ⟨_, σ50, fr_join ⟨rfl, rfl, rfl, rfl, rfl, rfl, trivial⟩, rfl, H.sel' [2, 3, 0] rfl rfl⟩ ?_)
     clear h H
     rintro s52 a w o ⟨ρ, σ53, rfl, rfl, H⟩ h hres
     refine c_seq (c_seq ?_)
     obtain ⟨o54, hj, h'⟩ := bind_some h
     clear h
     refine c_cut (fun e a w => e = .normal ∧ ∃ (ρ : Nat → Value) (σ : St), a = fr 103 (updL ρ [(3, (Sl a5 r2.1 c6)), (5, (I r2.2.2.1)), (6, (I r2.2.2.2)), (7, (Sl a11 r8 c12)), (8, (Sl a47 r44 c48)), (9, (I s52)), (59, (B o54))]) ∧ w = σ.w ∧ Hp S0 σ0 σ [Ch.ro n0 (Sl a5 r2.1 c6) r2.1, Ch.own 0 n0 (Sl a11 r8 c12) r8, Ch.own n0 n0 (Sl a47 r44 c48) r44]) ?_ ?_
     ·clear h'
      rename _ = some o54 => h
      refine rg (sm (I s52) rfl (sm (Sl a5 r2.1 c6) rfl (st (v := (I (r2.1.length : Int))) (rv_len Tryz.underlying23 rfl) (st (v := (B (decide (s52 < (r2.1.length : Int))))) (rv_lss (a := s52) (b := (r2.1.length : Int)) rfl rfl) (sm (B (decide (s52 < (r2.1.length : Int)))) rfl ?_)))))
      rcases Bool.eq_false_or_eq_true (decide (s52 < (r2.1.length : Int))) with hb55 | hb55
      ·replace h := bif_t hb55 h
       refine st_g (v := (I s52)) (congrArg some hb55) (rv_move rfl) (st_g (v := (Sl a47 r44 c48)) (congrArg some hb55) (rv_move rfl) (st_g (v := (I (r44.length : Int))) (congrArg some hb55) (rv_len Tryz.underlying26 rfl) (st_g (v := (B (decide (s52 < (r44.length : Int))))) (congrArg some hb55) (rv_lss (a := s52) (b := (r44.length : Int)) rfl rfl) (st (v := (B (decide (s52 < (r44.length : Int))))) (rv_pick_t (congrArg B hb55) rfl) (w_end ?_)))))
       obtain rfl := sj h
       exact ⟨rfl, _, σ53, fr_join ⟨rfl, rfl, rfl, rfl, rfl, rfl, rfl, trivial⟩, rfl, H.sel' [0, 1, 2] rfl rfl⟩
      ·replace h := bif_f hb55 h
       refine st_skip (congrArg some hb55) (st_skip (congrArg some hb55) (st_skip (congrArg some hb55) (st_skip (congrArg some hb55) (st (v := (B false)) (rv_pick_f (congrArg B hb55) rfl) (w_end ?_)))))
       obtain rfl := sj h
       exact ⟨rfl, _, σ53, fr_join ⟨rfl, rfl, rfl, rfl, rfl, rfl, rfl, trivial⟩, rfl, H.sel' [0, 1, 2] rfl rfl⟩
     ·clear hj
      have h := h'
      clear h' H
      rintro e a w ⟨rfl, ρ, σ56, rfl, rfl, H⟩
      refine q_then ?_
      refine cd_cond o54 rfl (fun hb57 => ?_) (fun hb57 => ?_)
      ·replace h := bif_t hb57 h
       refine c_skip (q_then (c_seq (c_blk (c_seq (rg (sa (I 0) rfl (w_end (q_then ?_))))))))
       obtain ⟨o58, hj, h'⟩ := bind_some h
       clear h
       refine c_cut (fun e a w => (∃ t, o58 = (.inl t) ∧ e = .normal ∧ ∃ (ρ : Nat → Value) (σ : St), a = fr 103 (updL ρ [(3, (Sl a5 r2.1 c6)), (5, (I r2.2.2.1)), (6, (I r2.2.2.2)), (7, (Sl a11 r8 c12)), (8, (Sl a47 r44 c48)), (9, (I s52))]) ∧ w = σ.w ∧ Hp S0 σ0 σ [Ch.ro n0 (Sl a5 r2.1 c6) r2.1, Ch.own 0 n0 (Sl a11 r8 c12) r8, Ch.own n0 n0 (Sl a47 r44 c48) r44]) ∨ (∃ t, o58 = (.inr t) ∧ e = .ret ∧ ∃ (ρ : Nat → Value) (σ : St), a = fr 103 (updL ρ [(2, (B t))]) ∧ w = σ.w ∧ Hp S0 σ0 σ [])) ?_ ?_
       ·clear h'
        rename _ = some o58 => h
        refine c_blk (wp_loopM _ h (fun s59 a w => ∃ (ρ : Nat → Value) (σ : St), a = fr 103 (updL ρ [(3, (Sl a5 r2.1 c6)), (5, (I r2.2.2.1)), (6, (I r2.2.2.2)), (7, (Sl a11 r8 c12)), (8, (Sl a47 r44 c48)), (9, (I s52)), (10, (I s59))]) ∧ w = σ.w ∧ Hp S0 σ0 σ [Ch.ro n0 (Sl a5 r2.1 c6) r2.1, Ch.own 0 n0 (Sl a11 r8 c12) r8, Ch.own n0 n0 (Sl a47 r44 c48) r44]) ⟨_, σ56, fr_join ⟨rfl, rfl, rfl, rfl, rfl, rfl, rfl, trivial⟩, rfl, H.sel' [0, 1, 2] rfl rfl⟩ ?_)
        clear h H
        rintro s59 a w o ⟨ρ, σ60, rfl, rfl, H⟩ h hres
        refine c_seq (c_seq (rg (sm (I s59) rfl (sm (Sl a47 r44 c48) rfl (sm (I s52) rfl ?_)))))
        revert h; refine br fun x61 hx62 h => ?_
        obtain ⟨b64, o65, hi63, -⟩ := (H.own 2 rfl).ix hx62
        refine st (v := (pt b64 o65)) (rv_ix Tryz.underlying26 ti31 rfl rfl hi63) ?_
        obtain ⟨v69, hc70, hR68⟩ := ((H.own 2 rfl).at hx62 hi63).slice
        obtain ⟨a66, c67, rfl⟩ := hR68.isSl
        replace H := H.add (d := Ch.ro n0 (Sl a66 x61 c67) x61) hR68 (fun _ h => h)
        clear hR68
        refine st (v := (Sl a66 x61 c67)) (rv_load1 Tryz.underlying31 rfl rfl hc70) (st (v := (I (x61.length : Int))) (rv_len Tryz.underlying31 rfl) (st (v := (B (decide (s59 < (x61.length : Int))))) (rv_lss (a := s59) (b := (x61.length : Int)) rfl rfl) (w_end (q_then ?_))))
        refine cd_cond (decide (s59 < (x61.length : Int))) rfl (fun hb71 => ?_) (fun hb71 => ?_)
        ·replace h := bif_t hb71 h
         refine c_skip (q_then (c_seq (c_blk (c_seq ?_))))
         obtain ⟨o72, hj, h'⟩ := bind_some h
         clear h
         refine c_cut (fun e a w => e = .normal ∧ ∃ (ρ : Nat → Value) (σ : St), a = fr 103 (updL ρ [(3, (Sl a5 r2.1 c6)), (5, (I r2.2.2.1)), (6, (I r2.2.2.2)), (7, (Sl a11 r8 c12)), (8, (Sl a47 r44 c48)), (9, (I s52)), (10, (I s59)), (89, (B o72))]) ∧ w = σ.w ∧ Hp S0 σ0 σ [Ch.ro n0 (Sl a5 r2.1 c6) r2.1, Ch.own 0 n0 (Sl a11 r8 c12) r8, Ch.own n0 n0 (Sl a47 r44 c48) r44]) ?_ ?_
         ·clear h'
          rename _ = some o72 => h
          refine rg (sm (Sl a11 r8 c12) rfl (sm (Sl a5 r2.1 c6) rfl (sm (I s52) rfl ?_)))
          revert h; refine br fun x73 hx74 h => ?_
          obtain ⟨b76, o77, hi75, -⟩ := (H.ro 1 rfl).ix hx74
          refine st (v := (pt b76 o77)) (rv_ix Tryz.underlying23 ti33 rfl rfl hi75) (st (v := (pt b76 (o77 + 0))) (rv_fieldAddr (off := 0) (ft := 3) Tryz.underlying33 rfl ti3 rfl rfl) ?_)
          have hc78 := ((H.ro 1 rfl).at hx74 hi75).fst.int
          refine st (v := (I x73.1)) (rv_load1 Tryz.underlying3 rfl rfl hc78) ?_
          revert h; refine br fun r79 hx80 h => ?_
          have hc81 := c_laws_isIn (Ap := a11) (Aq := c12) hx80
          have hle := Nat.le_trans hn0 H.size
          refine st_call (cx_lend (Loan.lend Loan.nil) hc81 (ent_f hc81.fn rfl) (show Hp S0 σ0 _ ([Ch.own 0 n0 (Sl a11 r8 c12) r8] ++ ([] ++ [Ch.ro n0 (Sl a66 x61 c67) x61, Ch.ro n0 (Sl a5 r2.1 c6) r2.1, Ch.own n0 n0 (Sl a47 r44 c48) r44])) from (H.sel' [2, 0, 1, 3] rfl rfl)) (by rintro _ _ _ ⟨rfl, rfl⟩; exact trivial)) wn ?_
          rintro _ σ82 ⟨_, ⟨rfl, rfl⟩, H, -, -⟩
          replace H : Hp _ _ _ [_, _, _, _] := H
          clear hle
          replace H : Hp _ _ _ [_, _, _, _] := H
          refine sm (B r79) rfl ?_
          rcases Bool.eq_false_or_eq_true r79 with hb83 | hb83
          ·replace h := bif_t hb83 h
           refine st_g (v := (Sl a11 r8 c12)) (congrArg some hb83) (rv_move rfl) (st_g (v := (Sl a47 r44 c48)) (congrArg some hb83) (rv_move rfl) (st_g (v := (I s52)) (congrArg some hb83) (rv_move rfl) ?_))
           revert h; refine br fun x84 hx85 h => ?_
           obtain ⟨b87, o88, hi86, -⟩ := (H.own 3 rfl).ix hx85
           refine st_g (v := (pt b87 o88)) (congrArg some hb83) (rv_ix Tryz.underlying26 ti31 rfl rfl hi86) ?_
           obtain ⟨v92, hc93, hR91⟩ := ((H.own 3 rfl).at hx85 hi86).slice
           obtain ⟨a89, c90, rfl⟩ := hR91.isSl
           replace H := H.add (d := Ch.ro n0 (Sl a89 x84 c90) x84) hR91 (fun _ h => h)
           clear hR91
           refine st_g (v := (Sl a89 x84 c90)) (congrArg some hb83) (rv_load1 Tryz.underlying31 rfl rfl hc93) (st_g (v := (I s59)) (congrArg some hb83) (rv_move rfl) ?_)
           revert h; refine br fun x94 hx95 h => ?_
           obtain ⟨b97, o98, hi96, -⟩ := (H.ro 0 rfl).ix hx95
           refine st_g (v := (pt b97 o98)) (congrArg some hb83) (rv_ix Tryz.underlying31 ti3 rfl rfl hi96) ?_
           have hc99 := ((H.ro 0 rfl).at hx95 hi96).int
           refine st_g (v := (I x94)) (congrArg some hb83) (rv_load1 Tryz.underlying3 rfl rfl hc99) ?_
           revert h; refine br fun r100 hx101 h => ?_
           have hc102 := c_laws_isIn (Ap := a11) (Aq := c12) hx101
           have hle := Nat.le_trans hn0 H.size
           refine st_call (cx_lend (Loan.lend Loan.nil) hc102 (ent_f hc102.fn rfl) (show Hp S0 σ0 _ ([Ch.own 0 n0 (Sl a11 r8 c12) r8] ++ ([] ++ [Ch.ro n0 (Sl a89 x84 c90) x84, Ch.ro n0 (Sl a66 x61 c67) x61, Ch.ro n0 (Sl a5 r2.1 c6) r2.1, Ch.own n0 n0 (Sl a47 r44 c48) r44])) from (H.sel' [1, 0, 2, 3, 4] rfl rfl)) (by rintro _ _ _ ⟨rfl, rfl⟩; exact trivial)) (wanted_yes rfl (by exact (congrArg some hb83))) ?_
           rintro _ σ103 ⟨_, ⟨rfl, rfl⟩, H, -, -⟩
           replace H : Hp _ _ _ [_, _, _, _, _] := H
           clear hle
           replace H : Hp _ _ _ [_, _, _, _, _] := H
           refine st_g (v := (B (!r100))) (congrArg some hb83) (rv_not rfl) (st (v := (B (!r100))) (rv_pick_t (congrArg B hb83) rfl) (w_end ?_))
           obtain rfl := sj h
           exact ⟨rfl, _, σ103, fr_join ⟨rfl, rfl, rfl, rfl, rfl, rfl, rfl, rfl, trivial⟩, rfl, H.sel' [3, 0, 4] rfl rfl⟩
          ·replace h := bif_f hb83 h
           refine st_skip (congrArg some hb83) (st_skip (congrArg some hb83) (st_skip (congrArg some hb83) (st_skip (congrArg some hb83) (st_skip (congrArg some hb83) (st_skip (congrArg some hb83) (st_skip (congrArg some hb83) (st_skip (congrArg some hb83) (st_skip (congrArg some hb83) (st_skip (congrArg some hb83) (st (v := (B false)) (rv_pick_f (congrArg B hb83) rfl) (w_end ?_)))))))))))
           obtain rfl := sj h
           exact ⟨rfl, _, σ82, fr_join ⟨rfl, rfl, rfl, rfl, rfl, rfl, rfl, rfl, trivial⟩, rfl, H.sel' [2, 0, 3] rfl rfl⟩
         ·clear hj
          have h := h'
          clear h' H
          rintro e a w ⟨rfl, ρ, σ104, rfl, rfl, H⟩
          refine q_then ?_
          refine cd_cond o72 rfl (fun hb105 => ?_) (fun hb105 => ?_)
          ·replace h := bif_t hb105 h
           refine c_seq (rg (sa (B false) rfl (w_end (q_then (c_ret (q_blk_r (q_then_r (q_then_r (q_blk_r ?_)))))))))
           obtain rfl := sj h
           obtain rfl := hres _ rfl
           exact .inr (⟨_, rfl, rfl, _, σ104, fr_join ⟨rfl, trivial⟩, rfl, H.sel' [] rfl rfl⟩)
          ·replace h := bif_f hb105 h
           refine c_skip (q_blk (q_then (rg (sm (I s59) rfl (st (v := (I (w64 (s59 + 1)))) (rv_add (a := s59) (b := 1) rfl rfl) (sa (I (w64 (s59 + 1))) rfl (w_end (q_then ?_))))))))
           obtain rfl := sj h
           exact ⟨_, rfl, _, σ104, fr_join ⟨rfl, rfl, rfl, rfl, rfl, rfl, rfl, trivial⟩, rfl, H.sel' [0, 1, 2] rfl rfl⟩
        ·replace h := bif_f hb71 h
         refine c_exit (q_then_x (q_then_x (q_blk_hit ?_)))
         obtain rfl := sj h
         obtain rfl := hres _ rfl
         exact .inl ⟨_, rfl, rfl, _, σ60, fr_join ⟨rfl, rfl, rfl, rfl, rfl, rfl, trivial⟩, rfl, H.sel' [1, 2, 3] rfl rfl⟩
       ·clear hj
        have h := h'
        clear h' H
        rintro e a w (⟨t106, rfl, rfl, ρ, σ107, rfl, rfl, H⟩ | ⟨t108, rfl, rfl, ρ, σ109, rfl, rfl, H⟩)
        ·replace h := selim_l h
         refine q_blk (q_then (rg (sm (I s52) rfl (st (v := (I (w64 (s52 + 1)))) (rv_add (a := s52) (b := 1) rfl rfl) (sa (I (w64 (s52 + 1))) rfl (w_end (q_then ?_)))))))
         obtain rfl := sj h
         exact ⟨_, rfl, _, σ107, fr_join ⟨rfl, rfl, rfl, rfl, rfl, rfl, trivial⟩, rfl, H.sel' [0, 1, 2] rfl rfl⟩
        ·replace h := selim_r h
         refine q_blk_r (q_then_r (q_then_r (q_blk_r ?_)))
         obtain rfl := sj h
         obtain rfl := hres _ rfl
         exact .inr (⟨_, rfl, rfl, _, σ109, fr_join ⟨rfl, trivial⟩, rfl, H.sel' [] rfl rfl⟩)
      ·replace h := bif_f hb57 h
       refine c_exit (q_then_x (q_then_x (q_blk_hit ?_)))
       obtain rfl := sj h
       obtain rfl := hres _ rfl
       exact .inl ⟨_, rfl, rfl, _, σ56, fr_join ⟨rfl, rfl, rfl, rfl, trivial⟩, rfl, H.sel' [0, 1] rfl rfl⟩
    ·clear hj
     have h := h'
     clear h' H
     rintro e a w (⟨t110, rfl, rfl, ρ, σ111, rfl, rfl, H⟩ | ⟨t117, rfl, rfl, ρ, σ118, rfl, rfl, H⟩)
     ·replace h := selim_l h
      refine q_then (c_seq (rg (sm (Sl a11 r8 c12) rfl (sm (I r2.2.2.2) rfl ?_))))
      revert h; refine br fun r112 hx113 h => ?_
      have hc114 := c_laws_isIn (Ap := a11) (Aq := c12) hx113
      have hle := Nat.le_trans hn0 H.size
      refine st_call (cx_lend (Loan.lend Loan.nil) hc114 (ent_f hc114.fn rfl) (show Hp S0 σ0 _ ([Ch.own 0 n0 (Sl a11 r8 c12) r8] ++ ([] ++ [Ch.ro n0 (Sl a5 r2.1 c6) r2.1])) from (H.sel' [1, 0] rfl rfl)) (by rintro _ _ _ ⟨rfl, rfl⟩; exact trivial)) wn ?_
      rintro _ σ115 ⟨_, ⟨rfl, rfl⟩, H, -, -⟩
      replace H : Hp _ _ _ [_, _] := H
      clear hle
      replace H : Hp _ _ _ [_, _] := H
      refine sm (B r112) rfl ?_
      rcases Bool.eq_false_or_eq_true r112 with hb116 | hb116
      ·replace h := bif_t hb116 h
       refine st_g (v := (Sl a11 r8 c12)) (congrArg some hb116) (rv_move rfl) (st_g (v := (I (r8.length : Int))) (congrArg some hb116) (rv_len Tryz.underlying31 rfl) (st_g (v := (I r2.2.2.1)) (congrArg some hb116) (rv_move rfl) (st_g (v := (I (w64 (r2.2.2.1 + 1)))) (congrArg some hb116) (rv_add (a := r2.2.2.1) (b := 1) rfl rfl) (st_g (v := (Sl a5 r2.1 c6)) (congrArg some hb116) (rv_move rfl) (st_g (v := (I (r2.1.length : Int))) (congrArg some hb116) (rv_len Tryz.underlying23 rfl) (st_g (v := (I (min (w64 (r2.2.2.1 + 1)) (r2.1.length : Int)))) (congrArg some hb116) (rv_min rfl rfl) (st_g (v := (B (decide ((min (w64 (r2.2.2.1 + 1)) (r2.1.length : Int)) ≤ (r8.length : Int))))) (congrArg some hb116) (rv_geq (a := (r8.length : Int)) (b := (min (w64 (r2.2.2.1 + 1)) (r2.1.length : Int))) rfl rfl) (st (v := (B (decide ((min (w64 (r2.2.2.1 + 1)) (r2.1.length : Int)) ≤ (r8.length : Int))))) (rv_pick_t (congrArg B hb116) rfl) (sa (B (decide ((min (w64 (r2.2.2.1 + 1)) (r2.1.length : Int)) ≤ (r8.length : Int)))) rfl (w_end (q_then ?_)))))))))))
       refine c_ret ?_
       obtain rfl := sj h
       exact fin_ret (v := (B (decide ((min (w64 (r2.2.2.1 + 1)) (r2.1.length : Int)) ≤ (r8.length : Int))))) (results_ok Tryz.results8 (res_tmp (v := (B (decide ((min (w64 (r2.2.2.1 + 1)) (r2.1.length : Int)) ≤ (r8.length : Int))))) rfl res_nil) rfl) ⟨rfl, rfl⟩ (H.sel' [] rfl rfl)
      ·replace h := bif_f hb116 h
       refine st_skip (congrArg some hb116) (st_skip (congrArg some hb116) (st_skip (congrArg some hb116) (st_skip (congrArg some hb116) (st_skip (congrArg some hb116) (st_skip (congrArg some hb116) (st_skip (congrArg some hb116) (st_skip (congrArg some hb116) (st (v := (B false)) (rv_pick_f (congrArg B hb116) rfl) (sa (B false) rfl (w_end (q_then ?_)))))))))))
       refine c_ret ?_
       obtain rfl := sj h
       exact fin_ret (v := (B false)) (results_ok Tryz.results8 (res_tmp (v := (B false)) rfl res_nil) rfl) ⟨rfl, rfl⟩ (H.sel' [] rfl rfl)
     ·replace h := selim_r h
      refine q_then_r ?_
      obtain rfl := sj h
      exact fin_ret (v := (B t117)) (results_ok Tryz.results8 (res_tmp (v := (B t117)) rfl res_nil) rfl) ⟨rfl, rfl⟩ (H.sel' [] rfl rfl)

end Go.Vs
