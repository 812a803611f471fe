/- The functions compute what their models say. -/
import Derived.Test.YtdjjikmfkejdiacGreatKNearestPutC1
set_option linter.unusedVariables false
set_option linter.unusedSimpArgs false
set_option maxRecDepth 20000
namespace Go.Vs
open Go Go.Proofs
attribute [local irreducible] Code.wp Code.wpIn wpList wpListIn wpQuiet Calls CallsIn

theorem c_impl_nearestHits_inOrder {By : Int × (List (Int × Int))} {Ca : Option Addr} {Cb : Nat} {Cc Cd Ce : Nat} {Cf Cg : List Value} {r : (List (Int × Int))} (h : M.impl_nearestHits_inOrder By = some r) :
    Cal2 Tryz.prog 73 [(pt Cd Ce)] [Ch.bx Cc Cd Ce [(I By.1), (Sl Ca By.2 Cb)] Cf Cg, Ch.ro 0 (Sl Ca By.2 Cb) By.2] (fun n0 v L => ∃ (az1 : Option Addr), ∃ (cz2 : Nat), v = (Sl az1 r cz2) ∧ L = [Ch.own 0 n0 (Sl az1 r cz2) r, Ch.bx Cc Cd Ce [(I By.1), (Sl Ca By.2 Cb)] Cf Cg]) := by
 refine cal2 (n := 9) Tryz.func73 rfl rfl rfl rfl ?_
 intro S0 σ0 n0 hn0 H
 unfold M.impl_nearestHits_inOrder at h
 refine c_seq (rg (sa (.slice none 0 0) rfl (w_end (q_then (c_seq (rg (sm (pt Cd Ce) rfl (st (v := (pt Cd Ce)) (rv_nilCheck rfl) (st (v := (pt Cd (Ce + 1))) (rv_fieldAddr (off := 1) (ft := 85) Tryz.underlying87 rfl ti85 rfl rfl) ?_)))))))))
 have hc1 := H.cell (u := (Sl Ca By.2 Cb)) (o' := (Ce + 1)) 0 1 rfl rfl rfl
 refine st (v := (Sl Ca By.2 Cb)) (rv_load1 Tryz.underlying85 rfl rfl hc1) ?_
 revert h; refine br fun r2 hx3 h => ?_
 have hc4 := c_slices_Values_impl_hitHeap_impl_Hit (Cq := Ca) (Cr := Cb) hx3
 refine st_call (cx_call hc4 (ent_f hc4.fn rfl) hn0 (H.sel' [1, 0, 1] rfl rfl : Hp S0 σ0 _ ([_] ++ _))) wn ?_
 rintro _ σ6 ⟨_, ⟨b5, rfl, rfl⟩, H, -⟩
 replace H : Hp _ _ _ [_, _, _] := H
 revert h; refine br fun r7 hx8 h => ?_
 have hc9 := c_slices_SortedFunc_impl_Hit__slices_Values_impl_hitHeap_impl_Hit_1__impl_compareHits (De := n0) (Dg := b5) (Dh := 0) (Di := []) (Dj := []) (Dc := Ca) (Dd := Cb) hx8
 refine st_call (cx_call hc9 (ent_f hc9.fn rfl) hn0 (H.sel' [0, 2, 1, 2] rfl rfl : Hp S0 σ0 _ ([_, _] ++ _))) wn ?_
 rintro _ σ12 ⟨_, ⟨a10, c11, rfl, rfl⟩, H, -⟩
 replace H : Hp _ _ _ [_, _, _, _] := H
 refine sa (Sl a10 r7 c11) rfl (w_end (q_then (c_ret ?_)))
 obtain rfl := sj h
 exact fin_ret (v := (Sl a10 r7 c11)) (results_ok Tryz.results73 (res_tmp (v := (Sl a10 r7 c11)) rfl res_nil) rfl) ⟨a10, c11, rfl, rfl⟩ (H.sel' [0, 2] rfl rfl)

theorem c_impl_gapsOf {Aa : List Int} {Ac : List Int} (Dn : Aa.length = 4) (Do : Ac.length = 4) {r : (List Int)} (h : M.impl_gapsOf Aa Ac = some r) :
    Cal2 Tryz.prog 75 [(.agg (List.map I Aa).toArray), (.agg (List.map I Ac).toArray)] [] (fun n0 v L => v = (.agg (List.map I r).toArray) ∧ L = [] ∧ r.length = 4) := by
 refine cal2 (n := 29) Tryz.func75 rfl rfl rfl rfl ?_
 intro S0 σ0 n0 hn0 H
 unfold M.impl_gapsOf at h
 refine c_seq (rg (st_ex (ex_box (cs := (List.map I Aa)) H hn0 rfl rfl) wn ?_))
 rintro _ σ2 ⟨b1, rfl, H, -⟩
 refine st_ex (ex_box (cs := (List.map I Ac)) H hn0 rfl rfl) wn ?_
 rintro _ σ4 ⟨b3, rfl, H, -⟩
 refine st_ex (ex_alloc (cs := (List.map I (List.replicate 4 0))) H hn0 ti92 rfl) wn ?_
 rintro _ σ6 ⟨b5, rfl, H, -⟩
 refine w_end (q_then (c_seq (rg (st_ex (ex_alloc (cs := (List.map I (List.replicate 4 0))) H hn0 ti92 rfl) wn ?_))))
 rintro _ σ8 ⟨b7, rfl, H, -⟩
 refine w_end (q_then (c_seq (c_seq (rg (sm (I 0) rfl (w_end (q_then ?_)))))))
 obtain ⟨o9, hj, h'⟩ := bind_some h
 clear h
 refine c_cut (fun e a w => e = .normal ∧ ∃ (ρ : Nat → Value) (σ : St), a = fr 29 (updL ρ [(4, (pt b5 0)), (5, (pt b7 0))]) ∧ w = σ.w ∧ Hp S0 σ0 σ [Ch.bx n0 b7 0 (List.map I o9) [] [], Ch.bx n0 b5 0 (List.map I (List.replicate 4 0)) [] []] ∧ o9.length = 4) ?_ ?_
 ·clear h'
  rename _ = some o9 => h
  refine c_blk (wp_loopM _ h (fun s10 a w => ∃ (ρ : Nat → Value) (σ : St), a = fr 29 (updL ρ [(2, (pt b1 0)), (3, (pt b3 0)), (4, (pt b5 0)), (5, (pt b7 0)), (7, (I s10.2))]) ∧ w = σ.w ∧ Hp S0 σ0 σ [Ch.bx n0 b7 0 (List.map I s10.1) [] [], Ch.bx n0 b1 0 (List.map I Aa) [] [], Ch.bx n0 b3 0 (List.map I Ac) [] [], Ch.bx n0 b5 0 (List.map I (List.replicate 4 0)) [] []] ∧ s10.1.length = 4) ⟨_, σ8, fr_join ⟨rfl, rfl, rfl, rfl, rfl, trivial⟩, rfl, H.sel' [0, 3, 2, 1] rfl rfl, rfl⟩ ?_)
  clear h H
  rintro s10 a w o ⟨ρ, σ11, rfl, rfl, H, hl12⟩ h hres
  refine c_seq (rg (st (v := (B (decide (s10.2 < 4)))) (rv_lss (a := s10.2) (b := 4) rfl rfl) (w_end (q_then (c_seq ?_)))))
  refine cd_cond (decide (s10.2 < 4)) rfl (fun hb13 => ?_) (fun hb13 => ?_)
  ·replace h := bif_t hb13 h
   refine c_skip (q_then (c_seq (c_blk (c_seq (rg (sm (I s10.2) rfl (sa (I s10.2) rfl (w_end (q_then ?_)))))))))
   refine rgP (σ := σ11) 16 (by kernel_rfl) (by kernel_rfl) (by kernel_rfl) ?_
   refine sq (v := (I s10.2)) (rv_move rfl) (sq (v := (I s10.2)) (rv_move rfl) ?_)
   revert h; refine br fun x14 hx15 h => ?_
   have hl16 := gidx_lt hx15 Dn
   refine sq (v := (pt b1 (0 + s10.2.toNat * 1))) (rv_indexAddr_array Tryz.underlying92 ti3 rfl rfl hl16.1 hl16.2) ?_
   have hc17 := Hp.arrCell H 1 rfl hx15
   refine sq (v := (I x14)) (rv_load1 Tryz.underlying3 rfl rfl hc17) (sq (v := (I s10.2)) (rv_move rfl) ?_)
   revert h; refine br fun x18 hx19 h => ?_
   have hl20 := gidx_lt hx19 Do
   refine sq (v := (pt b3 (0 + s10.2.toNat * 1))) (rv_indexAddr_array Tryz.underlying92 ti3 rfl rfl hl20.1 hl20.2) ?_
   have hc21 := Hp.arrCell H 2 rfl hx19
   refine sq (v := (I x18)) (rv_load1 Tryz.underlying3 rfl rfl hc21) (sq (v := (I (w64 (x14 - x18)))) (rv_sub (a := x14) (b := x18) rfl rfl) (sq (v := (I s10.2)) (rv_move rfl) ?_))
   revert h; refine br fun x22 hx23 h => ?_
   have hl24 := gidx_lt hx23 Do
   refine sq (v := (pt b3 (0 + s10.2.toNat * 1))) (rv_indexAddr_array Tryz.underlying92 ti3 rfl rfl hl24.1 hl24.2) ?_
   have hc25 := Hp.arrCell H 2 rfl hx23
   refine sq (v := (I x22)) (rv_load1 Tryz.underlying3 rfl rfl hc25) (sq (v := (I s10.2)) (rv_move rfl) ?_)
   revert h; refine br fun x26 hx27 h => ?_
   have hl28 := gidx_lt hx27 Dn
   refine sq (v := (pt b1 (0 + s10.2.toNat * 1))) (rv_indexAddr_array Tryz.underlying92 ti3 rfl rfl hl28.1 hl28.2) ?_
   have hc29 := Hp.arrCell H 1 rfl hx27
   refine sq (v := (I x26)) (rv_load1 Tryz.underlying3 rfl rfl hc29) (sq (v := (I (w64 (x22 - x26)))) (rv_sub (a := x22) (b := x26) rfl rfl) (sq (v := (I (max (w64 (x14 - x18)) (w64 (x22 - x26))))) (rv_max rfl rfl) (sq_end ?_)))
   intro σ30 hm31
   replace H := H.grow (hm31.mono fun _ h => h); clear hm31
   revert h; refine br fun x32 hx33 h => ?_
   have hl34 := gidx_lt hx33 hl12
   refine st (v := (pt b7 (0 + s10.2.toNat * 1))) (rv_indexAddr_array Tryz.underlying92 ti3 rfl rfl hl34.1 hl34.2) ?_
   have hl35 := gidx_lt hx33 hl12
   refine st_exS (ex_store_box (k := s10.2.toNat * 1) (vs := [(I (max (w64 (x14 - x18)) (w64 (x22 - x26))))]) (cs' := (List.map I (s10.1.set s10.2.toNat (max (w64 (x14 - x18)) (w64 (x22 - x26)))))) H (i := 0) rfl ti3 rfl rfl rfl rfl rfl (by rw [List.length_map, hl12]; simp; omega) (by simp [plain]) (arr_set' _ _ _)) wn ?_
   rintro σ36 ⟨H, -⟩
   refine w_end (q_blk (q_then (rg (st (v := (I (w64 (s10.2 + 1)))) (rv_add (a := s10.2) (b := 1) rfl rfl) (sm (I (w64 (s10.2 + 1))) rfl (w_end (q_then ?_)))))))
   obtain rfl := sj h
   exact ⟨_, rfl, _, σ36, fr_join ⟨rfl, rfl, rfl, rfl, rfl, trivial⟩, rfl, H.sel' [0, 1, 2, 3] rfl rfl, (set_len hl12)⟩
  ·replace h := bif_f hb13 h
   refine c_exit (q_then_x (q_then_x (q_blk_hit ?_)))
   obtain rfl := sj h
   obtain rfl := hres _ rfl
   exact ⟨rfl, _, σ11, fr_join ⟨rfl, rfl, trivial⟩, rfl, H.sel' [0, 3] rfl rfl, hl12⟩
 ·clear hj
  have h := h'
  clear h' H
  rintro e a w ⟨rfl, ρ, σ37, rfl, rfl, H, hl38⟩
  refine q_then (c_seq (rg ?_))
  have hc39 := H.cells 0 rfl
  refine st (v := (.agg (List.map I o9).toArray)) (rv_load (cs := (List.map I o9)) Tryz.underlying92 rfl ti92 rfl (by rw [List.length_map]; exact hl38) hc39) ?_
  refine st_exS (ex_store_box (k := 0) (cs := (List.map I (List.replicate 4 0))) (vs := (List.map I o9)) (cs' := (List.map I o9)) H (i := 1) rfl ti92 rfl rfl rfl rfl ((List.length_map _).trans hl38) (arr_fits (k := 4) hl38 rfl) (plain_ints _) (arr_all (k := 4) hl38 rfl)) wn ?_
  rintro σ40 ⟨H, -⟩
  refine w_end (q_then (c_ret ?_))
  obtain rfl := sj h
  exact fin_ret (v := (.agg (List.map I o9).toArray)) (results_ok Tryz.results75 (res_cell rfl (run_cellRes (cs := (List.map I o9)) Tryz.underlying92 rfl ti92 (by rw [List.length_map]; exact hl38) (H.cells 0 rfl)) res_nil) rfl) ⟨rfl, rfl, hl38⟩ (H.sel' [] rfl rfl)

theorem c_impl_distanceOf {Ay : Int} {Dq : List Int} (Dr : Dq.length = 4) {r : Int} (h : M.impl_distanceOf Ay Dq = some r) :
    Cal2 Tryz.prog 74 [(I Ay), (.agg (List.map I Dq).toArray)] [] (fun n0 v L => v = (I r) ∧ L = []) := by
 refine cal2 (n := 38) Tryz.func74 rfl rfl rfl rfl ?_
 intro S0 σ0 n0 hn0 H
 unfold M.impl_distanceOf at h
 refine c_seq (rg (st_ex (ex_box (cs := (List.map I Dq)) H hn0 rfl rfl) wn ?_))
 rintro _ σ2 ⟨b1, rfl, H, -⟩
 refine sa (I 0) rfl (w_end (q_then (c_seq (rg (sa (I 0) rfl (w_end (q_then (c_seq (c_seq (rg ?_))))))))))
 have hc3 := H.cells 0 rfl
 refine st (v := (.agg (List.map I Dq).toArray)) (rv_load (cs := (List.map I Dq)) Tryz.underlying92 rfl ti92 rfl (by rw [List.length_map]; exact Dr) hc3) ?_
 refine sm (I 0) rfl (w_end (q_then ?_))
 obtain ⟨o4, hj, h'⟩ := bind_some h
 clear h
 refine c_cut (fun e a w => (∃ t, o4 = (.inl t) ∧ e = .normal ∧ ∃ (ρ : Nat → Value) (σ : St), a = fr 38 (updL ρ [(5, (I t))]) ∧ w = σ.w ∧ Hp S0 σ0 σ []) ∨ (∃ t, o4 = (.inr t) ∧ e = .ret ∧ ∃ (ρ : Nat → Value) (σ : St), a = fr 38 (updL ρ [(4, (I t))]) ∧ w = σ.w ∧ Hp S0 σ0 σ [])) ?_ ?_
 ·clear h'
  rename _ = some o4 => h
  refine c_blk (wp_loopM _ h (fun s5 a w => ∃ (ρ : Nat → Value) (σ : St), a = fr 38 (updL ρ [(0, (I Ay)), (5, (I s5.1)), (8, (.agg (List.map I Dq).toArray)), (9, (I s5.2))]) ∧ w = σ.w ∧ Hp S0 σ0 σ []) ⟨_, σ2, fr_join ⟨rfl, rfl, rfl, rfl, trivial⟩, rfl, H.sel' [] rfl rfl⟩ ?_)
  clear h H
  rintro s5 a w o ⟨ρ, σ6, rfl, rfl, H⟩ h hres
  refine c_seq (rg (st (v := (B (decide (s5.2 < 4)))) (rv_lss (a := s5.2) (b := 4) rfl rfl) (w_end (q_then (c_seq ?_)))))
  refine cd_cond (decide (s5.2 < 4)) rfl (fun hb7 => ?_) (fun hb7 => ?_)
  ·replace h := bif_t hb7 h
   refine c_skip (q_then (c_seq ?_))
   obtain ⟨o8, hj, h'⟩ := bind_some h
   clear h
   refine c_cut (fun e a w => (∃ t, o8 = (.inl t) ∧ e = .normal ∧ ∃ (ρ : Nat → Value) (σ : St), a = fr 38 (updL ρ [(0, (I Ay)), (5, (I t)), (8, (.agg (List.map I Dq).toArray)), (9, (I s5.2))]) ∧ w = σ.w ∧ Hp S0 σ0 σ []) ∨ (∃ t, o8 = (.inr t) ∧ e = .ret ∧ ∃ (ρ : Nat → Value) (σ : St), a = fr 38 (updL ρ [(4, (I t))]) ∧ w = σ.w ∧ Hp S0 σ0 σ [])) ?_ ?_
   ·clear h'
    rename _ = some o8 => h
    refine c_blk (c_seq (rg ?_))
    revert h; refine br fun x9 hx10 h => ?_
    refine st (v := (I x9)) (rv_idx Tryz.underlying92 ti3 Tryz.underlying3 rfl rfl hx10 Dr) (sa (I x9) rfl (w_end (q_then (c_seq (rg (sm (I Ay) rfl (w_end (q_then (c_blk (c_seq (rg ?_)))))))))))
    refine st (v := (B (Ay == 1))) (rv_eql (a := Ay) (b := 1) rfl rfl) (sa (B (Ay == 1)) rfl (w_end (q_then ?_)))
    refine cd_cond (Ay == 1) rfl (fun hb11 => ?_) (fun hb11 => ?_)
    ·replace h := bif_t hb11 h
     refine rg (sm (I s5.1) rfl (sm (I x9) rfl (st (v := (I (w64 (s5.1 + x9)))) (rv_add (a := s5.1) (b := x9) rfl rfl) (sa (I (w64 (s5.1 + x9))) rfl (w_end (q_blk (q_blk ?_)))))))
     obtain rfl := sj h
     exact .inl ⟨_, rfl, rfl, _, σ6, fr_join ⟨rfl, rfl, rfl, rfl, trivial⟩, rfl, H.sel' [] rfl rfl⟩
    ·replace h := bif_f hb11 h
     refine c_seq (rg (st (v := (B (Ay == 2))) (rv_eql (a := Ay) (b := 2) rfl rfl) (sa (B (Ay == 2)) rfl (w_end (q_then ?_)))))
     refine cd_cond (Ay == 2) rfl (fun hb12 => ?_) (fun hb12 => ?_)
     ·replace h := bif_t hb12 h
      refine rg (sm (I s5.1) rfl (sm (I x9) rfl (st (v := (I (max s5.1 x9))) (rv_max rfl rfl) (sa (I (max s5.1 x9)) rfl (w_end (q_blk (q_blk ?_)))))))
      obtain rfl := sj h
      exact .inl ⟨_, rfl, rfl, _, σ6, fr_join ⟨rfl, rfl, rfl, rfl, trivial⟩, rfl, H.sel' [] rfl rfl⟩
     ·replace h := bif_f hb12 h
      refine c_seq (rg (st (v := (B (Ay == 3))) (rv_eql (a := Ay) (b := 3) rfl rfl) (sa (B (Ay == 3)) rfl (w_end (q_then ?_)))))
      refine cd_cond (Ay == 3) rfl (fun hb13 => ?_) (fun hb13 => ?_)
      ·replace h := bif_t hb13 h
       refine rg (sm (I s5.1) rfl (sm (I x9) rfl (sm (I x9) rfl (st (v := (I (w64 (x9 * x9)))) (rv_mul (a := x9) (b := x9) rfl rfl) (st (v := (I (w64 (s5.1 + (w64 (x9 * x9)))))) (rv_add (a := s5.1) (b := (w64 (x9 * x9))) rfl rfl) (sa (I (w64 (s5.1 + (w64 (x9 * x9))))) rfl (w_end (q_blk (q_blk ?_)))))))))
       obtain rfl := sj h
       exact .inl ⟨_, rfl, rfl, _, σ6, fr_join ⟨rfl, rfl, rfl, rfl, trivial⟩, rfl, H.sel' [] rfl rfl⟩
      ·replace h := bif_f hb13 h
       refine c_seq (rg (st (v := (B (Ay == 4))) (rv_eql (a := Ay) (b := 4) rfl rfl) (sa (B (Ay == 4)) rfl (w_end (q_then ?_)))))
       refine cd_cond (Ay == 4) rfl (fun hb14 => ?_) (fun hb14 => ?_)
       ·replace h := bif_t hb14 h
        refine rg (sm (I s5.1) rfl (sm (I x9) rfl (st (v := (I (min x9 1))) (rv_min rfl rfl) (st (v := (I (w64 (s5.1 + (min x9 1))))) (rv_add (a := s5.1) (b := (min x9 1)) rfl rfl) (sa (I (w64 (s5.1 + (min x9 1)))) rfl (w_end (q_blk (q_blk ?_))))))))
        obtain rfl := sj h
        exact .inl ⟨_, rfl, rfl, _, σ6, fr_join ⟨rfl, rfl, rfl, rfl, trivial⟩, rfl, H.sel' [] rfl rfl⟩
       ·replace h := bif_f hb14 h
        refine c_seq (rg (sa (I (-1)) rfl (w_end (q_then (c_ret (q_blk_r (q_blk_r ?_)))))))
        obtain rfl := sj h
        exact .inr (⟨_, rfl, rfl, _, σ6, fr_join ⟨rfl, trivial⟩, rfl, H.sel' [] rfl rfl⟩)
   ·clear hj
    have h := h'
    clear h' H
    rintro e a w (⟨t15, rfl, rfl, ρ, σ16, rfl, rfl, H⟩ | ⟨t17, rfl, rfl, ρ, σ18, rfl, rfl, H⟩)
    ·replace h := selim_l h
     refine q_then (rg (st (v := (I (w64 (s5.2 + 1)))) (rv_add (a := s5.2) (b := 1) rfl rfl) (sm (I (w64 (s5.2 + 1))) rfl (w_end (q_then ?_)))))
     obtain rfl := sj h
     exact ⟨_, rfl, _, σ16, fr_join ⟨rfl, rfl, rfl, rfl, trivial⟩, rfl, H.sel' [] rfl rfl⟩
    ·replace h := selim_r h
     refine q_then_r (q_then_r (q_blk_r ?_))
     obtain rfl := sj h
     obtain rfl := hres _ rfl
     exact .inr (⟨_, rfl, rfl, _, σ18, fr_join ⟨rfl, trivial⟩, rfl, H.sel' [] rfl rfl⟩)
  ·replace h := bif_f hb7 h
   refine c_exit (q_then_x (q_then_x (q_blk_hit ?_)))
   obtain rfl := sj h
   obtain rfl := hres _ rfl
   exact .inl ⟨_, rfl, rfl, _, σ6, fr_join ⟨rfl, trivial⟩, rfl, H.sel' [] rfl rfl⟩
 ·clear hj
  have h := h'
  clear h' H
  rintro e a w (⟨t19, rfl, rfl, ρ, σ20, rfl, rfl, H⟩ | ⟨t21, rfl, rfl, ρ, σ22, rfl, rfl, H⟩)
  ·replace h := selim_l h
   refine q_then (c_seq (rg (sm (I t19) rfl (sa (I t19) rfl (w_end (q_then (c_ret ?_)))))))
   obtain rfl := sj h
   exact fin_ret (v := (I t19)) (results_ok Tryz.results74 (res_tmp (v := (I t19)) rfl res_nil) rfl) ⟨rfl, rfl⟩ (H.sel' [] rfl rfl)
  ·replace h := selim_r h
   refine q_then_r ?_
   obtain rfl := sj h
   exact fin_ret (v := (I t21)) (results_ok Tryz.results74 (res_tmp (v := (I t21)) rfl res_nil) rfl) ⟨rfl, rfl⟩ (H.sel' [] rfl rfl)

theorem c_impl_Distance {Ay : Int} {Ds : List Int} {Dt : List Int} {Du : Option Addr} {Dv : Nat} {Dw : Option Addr} {Dx : Nat} {r : Int} (h : M.impl_Distance Ay Ds Dt = some r) :
    Cal2 Tryz.prog 52 [(I Ay), (Sl Du Ds Dv), (Sl Dw Dt Dx)] [Ch.ro 0 (Sl Du Ds Dv) Ds, Ch.ro 0 (Sl Dw Dt Dx) Dt] (fun n0 v L => v = (I r) ∧ L = []) := by
 refine cal2 (n := 24) Tryz.func52 rfl rfl rfl rfl ?_
 intro S0 σ0 n0 hn0 H
 unfold M.impl_Distance at h
 refine c_seq (rg (sa (I 0) rfl (w_end (q_then (c_seq (c_seq ?_))))))
 obtain ⟨o1, hj, h'⟩ := bind_some h
 clear h
 refine c_cut (fun e a w => e = .normal ∧ ∃ (ρ : Nat → Value) (σ : St), a = fr 24 (updL ρ [(0, (I Ay)), (1, (Sl Du Ds Dv)), (2, (Sl Dw Dt Dx)), (14, (B o1))]) ∧ w = σ.w ∧ Hp S0 σ0 σ [Ch.ro 0 (Sl Du Ds Dv) Ds, Ch.ro 0 (Sl Dw Dt Dx) Dt]) ?_ ?_
 ·clear h'
  rename _ = some o1 => h
  refine rg (sm (Sl Du Ds Dv) rfl ?_)
  revert h; refine br fun r2 hx3 h => ?_
  have hc4 := c_impl_ValidVector (Am := Du) (Ao := Dv) hx3
  refine st_call (cx_call hc4 (ent_f hc4.fn rfl) hn0 (H.sel' [0, 0, 1] rfl rfl : Hp S0 σ0 _ ([_] ++ _))) wn ?_
  rintro _ σ5 ⟨_, ⟨rfl, rfl⟩, H, -⟩
  replace H : Hp _ _ _ [_, _] := H
  refine st (v := (B (!r2))) (rv_not rfl) (sm (B (!r2)) rfl ?_)
  rcases Bool.eq_false_or_eq_true (!r2) with hb6 | hb6
  ·replace h := bif_t hb6 h
   refine st_skip (congrArg some hb6) (st_skip (congrArg some hb6) (st_skip (congrArg some hb6) (st (v := (B true)) (rv_pick_t (congrArg B hb6) rfl) (w_end ?_))))
   obtain rfl := sj h
   exact ⟨rfl, _, σ5, fr_join ⟨rfl, rfl, rfl, rfl, trivial⟩, rfl, H.sel' [0, 1] rfl rfl⟩
  ·replace h := bif_f hb6 h
   refine st_g (v := (Sl Dw Dt Dx)) (congrArg some hb6) (rv_move rfl) ?_
   revert h; refine br fun r7 hx8 h => ?_
   have hc9 := c_impl_ValidVector (Am := Dw) (Ao := Dx) hx8
   refine st_call (cx_call hc9 (ent_f hc9.fn rfl) hn0 (H.sel' [1, 0, 1] rfl rfl : Hp S0 σ0 _ ([_] ++ _))) (wanted_yes rfl (by exact (congrArg some hb6))) ?_
   rintro _ σ10 ⟨_, ⟨rfl, rfl⟩, H, -⟩
   replace H : Hp _ _ _ [_, _] := H
   refine st_g (v := (B (!r7))) (congrArg some hb6) (rv_not rfl) (st (v := (B (!r7))) (rv_pick_f (congrArg B hb6) rfl) (w_end ?_))
   obtain rfl := sj h
   exact ⟨rfl, _, σ10, fr_join ⟨rfl, rfl, rfl, rfl, trivial⟩, rfl, H.sel' [0, 1] rfl rfl⟩
 ·clear hj
  have h := h'
  clear h' H
  rintro e a w ⟨rfl, ρ, σ11, rfl, rfl, H⟩
  refine q_then ?_
  refine cd_cond o1 rfl (fun hb12 => ?_) (fun hb12 => ?_)
  ·replace h := bif_t hb12 h
   refine c_seq (rg (sa (I (-1)) rfl (w_end (q_then (c_ret (q_then_r ?_))))))
   obtain rfl := sj h
   exact fin_ret (v := (I (-1))) (results_ok Tryz.results52 (res_tmp (v := (I (-1))) rfl res_nil) rfl) ⟨rfl, rfl⟩ (H.sel' [] rfl rfl)
  ·replace h := bif_f hb12 h
   refine c_skip (q_then (c_seq ?_))
   revert h; refine br fun xs13 hx14 h => ?_
   obtain ⟨hl18, hq19⟩ := garr_some hx14
   clear hx14 hq19
   obtain ⟨b15, o16, rfl, hc17⟩ := (H.ro 0 rfl).arr (Nat.lt_of_lt_of_le (by decide) hl18)
   revert h; refine br fun xs20 hx21 h => ?_
   obtain ⟨hl25, hq26⟩ := garr_some hx21
   clear hx21 hq26
   obtain ⟨b22, o23, rfl, hc24⟩ := (H.ro 1 rfl).arr (Nat.lt_of_lt_of_le (by decide) hl25)
   revert h; refine br fun r27 hx28 h => ?_
   have hc29 := c_impl_gapsOf (by rw [List.length_take]; have := hl18; omega) (by rw [List.length_take]; have := hl25; omega) hx28
   have Hs := H
   refine rg2 (σ := σ11) (Nm := Unit) 8 [7] [[false], [true]] [[(0, 0), (1, 1)], [(0, 0)], [(0, 0)], [(0, 0)], [(0, 0)], [(0, 0)], [(0, 0)], [(0, 1)]] 1 [fun _ => fun σm => Hp S0 σ0 σm [Ch.ro 0 (Sl (some ⟨b15, o16, none⟩) Ds Dv) Ds, Ch.ro 0 (Sl (some ⟨b22, o23, none⟩) Dt Dx) Dt] ∧ Md (cov []) σ11 σm, fun _ => fun σm => Hp S0 σ0 σm [Ch.ro 0 (Sl (some ⟨b15, o16, none⟩) Ds Dv) Ds, Ch.ro 0 (Sl (some ⟨b22, o23, none⟩) Dt Dx) Dt] ∧ Md (cov []) σ11 σm ∧ r27.length = 4] [fun _ => (I Ay), fun _ => (Sl (some ⟨b15, o16, none⟩) Ds Dv), fun _ => (.pointer (some ⟨b15, o16, none⟩)), fun _ => (.agg (List.map I (List.take 4 Ds)).toArray), fun _ => (Sl (some ⟨b22, o23, none⟩) Dt Dx), fun _ => (.pointer (some ⟨b22, o23, none⟩)), fun _ => (.agg (List.map I (List.take 4 Dt)).toArray), fun _ => (.agg (List.map I r27).toArray)] () (by kernel_rfl) (by kernel_rfl) ?_ ?_ ?_
   ·intro σm m0
    exact ⟨H.grow (m0.mono fun _ h => h.elim), m0⟩
   ·refine ac rfl (by
      intro k _nm ρ σm hJ hoff hdep
      have e0 := look_off (N := 24) (hoff 0 rfl) rfl
      exact dp_v (v := (I Ay)) wn (rv_move e0) rfl hJ) ?_
    refine ac rfl (by
      intro k _nm ρ σm hJ hoff hdep
      have e1 := look_off (N := 24) (hoff 1 rfl) rfl
      exact dp_v (v := (Sl (some ⟨b15, o16, none⟩) Ds Dv)) wn (rv_move e1) rfl hJ) ?_
    refine ac rfl (by
      intro k _nm ρ σm hJ hoff hdep
      have e16 := hdep 1 rfl rfl 16 rfl
      exact dp_v (v := (.pointer (some ⟨b15, o16, none⟩))) wn (rv_arrPtr Tryz.underlying92 e16 hl18) rfl hJ) ?_
    refine all_cons (by
      refine ⟨?_, ?_⟩
      ·intro _nm ρ σm hJ hoff hdep
       have e17 := hdep 2 rfl rfl 17 rfl
       obtain ⟨H, m⟩ := id hJ
       replace hc17 := (Hs.ro 0 rfl).arr_md hc17 m
       exact dp_v (v := (.agg (List.map I (List.take 4 Ds)).toArray)) wn (rv_load (cs := List.map I (List.take 4 Ds)) Tryz.underlying92 rfl ti92 e17 (by rw [List.length_map, List.length_take]; have := hl18; omega) (arr_take hc17)) rfl hJ
      trivial) ?_
    refine ac rfl (by
      intro k _nm ρ σm hJ hoff hdep
      have e2 := look_off (N := 24) (hoff 2 rfl) rfl
      exact dp_v (v := (Sl (some ⟨b22, o23, none⟩) Dt Dx)) wn (rv_move e2) rfl hJ) ?_
    refine ac rfl (by
      intro k _nm ρ σm hJ hoff hdep
      have e19 := hdep 4 rfl rfl 19 rfl
      exact dp_v (v := (.pointer (some ⟨b22, o23, none⟩))) wn (rv_arrPtr Tryz.underlying92 e19 hl25) rfl hJ) ?_
    refine all_cons (by
      refine ⟨?_, ?_⟩
      ·intro _nm ρ σm hJ hoff hdep
       have e20 := hdep 5 rfl rfl 20 rfl
       obtain ⟨H, m⟩ := id hJ
       replace hc24 := (Hs.ro 1 rfl).arr_md hc24 m
       exact dp_v (v := (.agg (List.map I (List.take 4 Dt)).toArray)) wn (rv_load (cs := List.map I (List.take 4 Dt)) Tryz.underlying92 rfl ti92 e20 (by rw [List.length_map, List.length_take]; have := hl25; omega) (arr_take hc24)) rfl hJ
      trivial) ?_
    refine all_cons (by
      refine ⟨?_, ?_⟩
      ·intro _nm ρ σm hJ hoff hdep
       have e18 : look 24 ρ 18 = (.agg (List.map I (List.take 4 Ds)).toArray) := hdep 3 rfl rfl 18 rfl
       have e21 : look 24 ρ 21 = (.agg (List.map I (List.take 4 Dt)).toArray) := hdep 6 rfl rfl 21 rfl
       obtain ⟨H, m⟩ := id hJ
       refine dp_cx wn (cx_call hc29 (ent_f hc29.fn (by show [look 24 ρ 18, look 24 ρ 21] = _; rw [e18, e21])) hn0 (H.sel' [0, 1] rfl rfl : Hp S0 σ0 _ ([] ++ _))) ?_
       rintro _ σq ⟨_, ⟨rfl, rfl, hl30⟩, H2, m2⟩
       exact ⟨_, (), rfl, rfl, ⟨H2.sel' [0, 1] rfl rfl, m.comp0 m2, hl30⟩, stab [0, 1, 2, 3, 4, 5, 6] (by kernel_rfl) ⟨rfl, rfl, rfl, rfl, rfl, rfl, rfl, trivial⟩⟩
      trivial) ?_
    exact all_nil
   ·intro _nm ρ σ31 hJ hoff hrel
    have e15 := hrel 0 rfl 15 rfl
    have e22 := hrel 7 rfl 22 rfl
    obtain ⟨H, -, hl30⟩ := (show Hp S0 σ0 σ31 [Ch.ro 0 (Sl (some ⟨b15, o16, none⟩) Ds Dv) Ds, Ch.ro 0 (Sl (some ⟨b22, o23, none⟩) Dt Dx) Dt] ∧ Md (cov []) σ11 σ31 ∧ r27.length = 4 from hJ)
    clear hJ Hs
    rw [fr_lookL (L := [(15, (I Ay)), (22, (.agg (List.map I r27).toArray))]) ⟨e15, e22, trivial⟩]
    clear hoff hrel e15 e22
    revert h; refine br fun r32 hx33 h => ?_
    have hc34 := c_impl_distanceOf hl30 hx33
    refine st_call (cx_call hc34 (ent_f hc34.fn rfl) hn0 (H.sel' [0, 1] rfl rfl : Hp S0 σ0 _ ([] ++ _))) wn ?_
    rintro _ σ35 ⟨_, ⟨rfl, rfl⟩, H, -⟩
    replace H : Hp _ _ _ [_, _] := H
    refine sa (I r32) rfl (w_end (q_then (c_ret ?_)))
    obtain rfl := sj h
    exact fin_ret (v := (I r32)) (results_ok Tryz.results52 (res_tmp (v := (I r32)) rfl res_nil) rfl) ⟨rfl, rfl⟩ (H.sel' [] rfl rfl)

theorem c_impl_nearestAmong_1__p3__p24 {Ar : Int × (List Int) × Int} {Dy : Int} {Dz : List Int} {As : Option Addr} {Au : Nat} {Ea Eb Ec : Nat} {Ed Ee : List Value} {Ef : Option Addr} {Eg : Nat} {Eh Ei Ej : Nat} {Ek El : List Value} {r : Int} (h : M.impl_nearestAmong_1__p3__p24 Ar Dy Dz = some r) :
    Cal2 Tryz.prog 51 [(.agg #[(I Ar.1), (Sl As Ar.2.1 Au), (I Ar.2.2)]), (pt Eb Ec), (pt Ei Ej)] [Ch.ro 0 (Sl As Ar.2.1 Au) Ar.2.1, Ch.bx Ea Eb Ec [(I Dy)] Ed Ee, Ch.bx Eh Ei Ej [(Sl Ef Dz Eg)] Ek El, Ch.ro 0 (Sl Ef Dz Eg) Dz] (fun n0 v L => v = (I r) ∧ L = [Ch.bx Ea Eb Ec [(I Dy)] Ed Ee, Ch.bx Eh Ei Ej [(Sl Ef Dz Eg)] Ek El]) := by
 refine cal2 (n := 10) Tryz.func51 rfl rfl rfl rfl ?_
 intro S0 σ0 n0 hn0 H
 unfold M.impl_nearestAmong_1__p3__p24 at h
 refine c_seq (rg (st_ex (ex_box (cs := [(I Ar.1), (Sl As Ar.2.1 Au), (I Ar.2.2)]) H hn0 rfl rfl) wn ?_))
 rintro _ σ2 ⟨b1, rfl, H, -⟩
 refine sa (I 0) rfl (w_end (q_then (c_seq (rg ?_))))
 have hc3 := H.cell (u := (I Dy)) (o' := Ec) 2 0 rfl rfl rfl
 refine st (v := (I Dy)) (rv_load1 Tryz.underlying3 rfl rfl hc3) (st (v := (pt b1 1)) (rv_fieldAddr (off := 1) (ft := 25) Tryz.underlying41 rfl ti25 rfl rfl) ?_)
 have hc4 := H.cell (u := (Sl As Ar.2.1 Au)) (o' := 1) 0 1 rfl rfl rfl
 refine st (v := (Sl As Ar.2.1 Au)) (rv_load1 Tryz.underlying25 rfl rfl hc4) ?_
 have hc5 := H.cell (u := (Sl Ef Dz Eg)) (o' := Ej) 3 0 rfl rfl rfl
 refine st (v := (Sl Ef Dz Eg)) (rv_load1 Tryz.underlying25 rfl rfl hc5) ?_
 revert h; refine br fun r6 hx7 h => ?_
 have hc8 := c_impl_Distance (Du := As) (Dv := Au) (Dw := Ef) (Dx := Eg) hx7
 refine st_call (cx_call hc8 (ent_f hc8.fn rfl) hn0 (H.sel' [1, 4, 0, 1, 2, 3, 4] rfl rfl : Hp S0 σ0 _ ([_, _] ++ _))) wn ?_
 rintro _ σ9 ⟨_, ⟨rfl, rfl⟩, H, -⟩
 replace H : Hp _ _ _ [_, _, _, _, _] := H
 refine sa (I r6) rfl (w_end (q_then (c_ret ?_)))
 obtain rfl := sj h
 exact fin_ret (v := (I r6)) (results_ok Tryz.results51 (res_tmp (v := (I r6)) rfl res_nil) rfl) ⟨rfl, rfl⟩ (H.sel' [2, 3] rfl rfl)

theorem c_impl_nearestBy__impl_nearestAmong_1 {Av : List (Int × (List Int) × Int)} {Em : Int} {En : Int} {Eo : List Int} {Aw : Option Addr} {Ax : Nat} {Ep Er Es : Nat} {Et Eu : List Value} {Ev : Option Addr} {Ew : Nat} {Ey Ez Fa : Nat} {Fb Fc : List Value} {r : (List (Int × Int))} (h : M.impl_nearestBy__impl_nearestAmong_1 Av Em En Eo = some r) :
    Cal2 Tryz.prog 50 [(Sl Aw Av Ax), (I Em), (.func (.func 51) #[] #[(pt Er Es), (pt Ez Fa)])] [Ch.ro 0 (Sl Aw Av Ax) Av, Ch.bx Ep Er Es [(I En)] Et Eu, Ch.bx Ey Ez Fa [(Sl Ev Eo Ew)] Fb Fc, Ch.ro 0 (Sl Ev Eo Ew) Eo] (fun n0 v L => ∃ (az1 : Option Addr), ∃ (cz2 : Nat), v = (Sl az1 r cz2) ∧ L = [Ch.own 0 n0 (Sl az1 r cz2) r, Ch.bx Ep Er Es [(I En)] Et Eu, Ch.bx Ey Ez Fa [(Sl Ev Eo Ew)] Fb Fc]) := by
 refine cal2 (n := 27) Tryz.func50 rfl rfl rfl rfl ?_
 intro S0 σ0 n0 hn0 H
 unfold M.impl_nearestBy__impl_nearestAmong_1 at h
 refine c_seq (rg (sa (.slice none 0 0) rfl (w_end (q_then (c_seq (rg (sm (I Em) rfl ?_)))))))
 refine st (v := (.agg #[(I Em), (.slice none 0 0)])) (rv_build (ps := [(0, (I Em))]) Tryz.underlying87 ti87 (bp87 Tryz.underlying87) rfl (by kernel_rfl)) ?_
 refine st_ex (ex_alloc (cs := [(I 0), (.slice none 0 0)]) H hn0 ti87 rfl) wn ?_
 rintro _ σ2 ⟨b1, rfl, H, -⟩
 refine st_exS (ex_store_box (k := 0) (cs := [(I 0), (.slice none 0 0)]) (vs := [(I Em), (.slice none 0 0)]) (cs' := [(I Em), (.slice none 0 0)]) H (i := 0) rfl ti87 rfl rfl rfl rfl rfl (Nat.le_of_ble_eq_true rfl) (by simp [plain]) rfl) wn ?_
 rintro σ3 ⟨H, -⟩
 refine w_end (q_then (c_seq (c_seq (rg (sm (Sl Aw Av Ax) rfl (st (v := (I (Av.length : Int))) (rv_len Tryz.underlying24 rfl) (sm (I 0) rfl (w_end (q_then ?_)))))))))
 obtain ⟨o4, hj, h'⟩ := bind_some h
 clear h
 refine c_cut (fun e a w => e = .normal ∧ ∃ (ρ : Nat → Value) (σ : St) (aj1 : Option Addr) (cj2 : Nat), a = fr 27 (updL ρ [(2, (.func (.func 51) #[] #[(pt Er Es), (pt Ez Fa)])), (7, (pt b1 0))]) ∧ w = σ.w ∧ Hp S0 σ0 σ [Ch.bx n0 b1 0 [(I o4.1), (Sl aj1 o4.2 cj2)] [] [], Ch.own 0 0 (Sl aj1 o4.2 cj2) o4.2, Ch.bx Ep Er Es [(I En)] Et Eu, Ch.ro 0 (Sl Ev Eo Ew) Eo, Ch.bx Ey Ez Fa [(Sl Ev Eo Ew)] Fb Fc]) ?_ ?_
 ·clear h'
  rename _ = some o4 => h
  refine c_blk ?_
  replace H := H.nilOwn (Int × Int) 0 0
  refine wp_loopM _ h (fun s5 a w => ∃ (ρ : Nat → Value) (σ : St) (aj1 : Option Addr) (cj2 : Nat), a = fr 27 (updL ρ [(2, (.func (.func 51) #[] #[(pt Er Es), (pt Ez Fa)])), (7, (pt b1 0)), (12, (Sl Aw Av Ax)), (13, (I (Av.length : Int))), (14, (I s5.2))]) ∧ w = σ.w ∧ Hp S0 σ0 σ [Ch.bx n0 b1 0 [(I s5.1.1), (Sl aj1 s5.1.2 cj2)] [] [], Ch.own 0 0 (Sl aj1 s5.1.2 cj2) s5.1.2, Ch.bx Ep Er Es [(I En)] Et Eu, Ch.ro 0 (Sl Ev Eo Ew) Eo, Ch.bx Ey Ez Fa [(Sl Ev Eo Ew)] Fb Fc, Ch.ro 0 (Sl Aw Av Ax) Av]) ⟨_, σ3, none, 0, fr_join ⟨rfl, rfl, rfl, rfl, rfl, trivial⟩, rfl, H.sel' [1, 0, 3, 5, 4, 2] rfl rfl⟩ ?_
  clear h H
  rintro s5 a w o ⟨ρ, σ6, a7, c8, rfl, rfl, H⟩ h hres
  refine c_seq (rg (st (v := (B (decide (s5.2 < (Av.length : Int))))) (rv_lss (a := s5.2) (b := (Av.length : Int)) rfl rfl) (w_end (q_then (c_seq ?_)))))
  refine cd_cond (decide (s5.2 < (Av.length : Int))) rfl (fun hb9 => ?_) (fun hb9 => ?_)
  ·replace h := bif_t hb9 h
   refine c_skip (q_then (c_seq (c_blk (c_seq (rg ?_)))))
   revert h; refine br fun x10 hx11 h => ?_
   obtain ⟨b13, o14, hi12, -⟩ := (H.ro 5 rfl).ix hx11
   refine st (v := (pt b13 o14)) (rv_ix Tryz.underlying24 ti41 rfl rfl hi12) ?_
   obtain ⟨_, ⟨_, _, rfl, rfl, ⟨_, _, rfl, ⟨_, rfl, hR19⟩, rfl⟩⟩, hl15, hc16⟩ := ((H.ro 5 rfl).at hx11 hi12).cells
   obtain ⟨a17, c18, rfl⟩ := hR19.isSl
   replace H := H.add (d := Ch.ro 0 (Sl a17 x10.2.1 c18) x10.2.1) hR19 (fun _ h => h)
   clear hR19
   refine st (v := (.agg #[(I x10.1), (Sl a17 x10.2.1 c18), (I x10.2.2)])) (rv_load Tryz.underlying41 rfl ti41 rfl hl15 hc16) (st_ex (ex_alloc (cs := [(I 0), (.slice none 0 0), (I 0)]) H hn0 ti41 rfl) wn ?_)
   rintro _ σ21 ⟨b20, rfl, H, -⟩
   refine st_exS (ex_store_box (k := 0) (cs := [(I 0), (.slice none 0 0), (I 0)]) (vs := [(I x10.1), (Sl a17 x10.2.1 c18), (I x10.2.2)]) (cs' := [(I x10.1), (Sl a17 x10.2.1 c18), (I x10.2.2)]) H (i := 0) rfl ti41 rfl rfl rfl rfl rfl (Nat.le_of_ble_eq_true rfl) (by simp [plain]) rfl) wn ?_
   rintro σ22 ⟨H, -⟩
   refine w_end (q_then ?_)
   have hc23 := H.cell (u := (I x10.1)) (o' := 0) 0 0 rfl rfl rfl
   have hc24 := H.cells 0 rfl
   revert h; refine br fun r25 hx26 h => ?_
   have hc27 := c_impl_nearestAmong_1__p3__p24 (As := a17) (Au := c18) (Ea := Ep) (Eb := Er) (Ec := Es) (Ed := Et) (Ee := Eu) (Eh := Ey) (Ei := Ez) (Ej := Fa) (Ek := Fb) (El := Fc) (Ef := Ev) (Eg := Ew) hx26
   have Hs := H
   refine rg2 (σ := σ22) (Nm := Unit) 5 [4] [[false], [true]] [[(0, 0), (1, 1)], [(0, 0), (1, 1)], [(0, 0)], [(0, 0)], [(0, 1)]] 1 [fun _ => fun σm => Hp S0 σ0 σm [Ch.bx n0 b20 0 [(I x10.1), (Sl a17 x10.2.1 c18), (I x10.2.2)] [] [], Ch.ro 0 (Sl a17 x10.2.1 c18) x10.2.1, Ch.bx n0 b1 0 [(I s5.1.1), (Sl a7 s5.1.2 c8)] [] [], Ch.own 0 0 (Sl a7 s5.1.2 c8) s5.1.2, Ch.bx Ep Er Es [(I En)] Et Eu, Ch.ro 0 (Sl Ev Eo Ew) Eo, Ch.bx Ey Ez Fa [(Sl Ev Eo Ew)] Fb Fc, Ch.ro 0 (Sl Aw Av Ax) Av] ∧ Md (cov []) σ22 σm, fun _ => fun σm => Hp S0 σ0 σm [Ch.bx Ep Er Es [(I En)] Et Eu, Ch.bx Ey Ez Fa [(Sl Ev Eo Ew)] Fb Fc, Ch.bx n0 b20 0 [(I x10.1), (Sl a17 x10.2.1 c18), (I x10.2.2)] [] [], Ch.ro 0 (Sl a17 x10.2.1 c18) x10.2.1, Ch.bx n0 b1 0 [(I s5.1.1), (Sl a7 s5.1.2 c8)] [] [], Ch.own 0 0 (Sl a7 s5.1.2 c8) s5.1.2, Ch.ro 0 (Sl Ev Eo Ew) Eo, Ch.ro 0 (Sl Aw Av Ax) Av] ∧ Md (fun i => (cov []) i ∨ (cov [Ch.ro 0 (Sl a17 x10.2.1 c18) x10.2.1, Ch.bx Ep Er Es [(I En)] Et Eu, Ch.bx Ey Ez Fa [(Sl Ev Eo Ew)] Fb Fc, Ch.ro 0 (Sl Ev Eo Ew) Eo]) i) σ22 σm] [fun _ => (pt b20 0), fun _ => (I x10.1), fun _ => (.func (.func 51) #[] #[(pt Er Es), (pt Ez Fa)]), fun _ => (.agg #[(I x10.1), (Sl a17 x10.2.1 c18), (I x10.2.2)]), fun _ => (I r25)] () (by kernel_rfl) (by kernel_rfl) ?_ ?_ ?_
   ·intro σm m0
    exact ⟨H.grow (m0.mono fun _ h => h.elim), m0⟩
   ·refine ac rfl (by
      intro k _nm ρ σm hJ hoff hdep
      have e9 := look_off (N := 27) (hoff 9 rfl) rfl
      exact dp_v (v := (pt b20 0)) wn (rv_fieldAddr (off := 0) (ft := 3) Tryz.underlying41 rfl ti3 rfl e9) rfl hJ) ?_
    refine all_cons (by
      refine ⟨?_, ?_⟩
      ·intro _nm ρ σm hJ hoff hdep
       have e18 := hdep 0 rfl rfl 18 rfl
       obtain ⟨H, m⟩ := id hJ
       have hc23 := H.cell (u := (I x10.1)) (o' := 0) 0 0 rfl rfl rfl
       exact dp_v (v := (I x10.1)) wn (rv_load1 Tryz.underlying3 rfl e18 hc23) rfl hJ
      refine ⟨?_, ?_⟩
      ·intro _nm ρ σm hJ hoff hdep
       have e18 := hdep 0 rfl rfl 18 rfl
       obtain ⟨H, m⟩ := id hJ
       have hc23 := H.cell (u := (I x10.1)) (o' := 0) 2 0 rfl rfl rfl
       exact dp_v (v := (I x10.1)) wn (rv_load1 Tryz.underlying3 rfl e18 hc23) rfl hJ
      trivial) ?_
    refine ac rfl (by
      intro k _nm ρ σm hJ hoff hdep
      have e2 := look_off (N := 27) (hoff 2 rfl) rfl
      exact dp_v (v := (.func (.func 51) #[] #[(pt Er Es), (pt Ez Fa)])) wn (rv_move e2) rfl hJ) ?_
    refine all_cons (by
      refine ⟨?_, ?_⟩
      ·intro _nm ρ σm hJ hoff hdep
       have e9 := look_off (N := 27) (hoff 9 rfl) rfl
       obtain ⟨H, m⟩ := id hJ
       have hc24 := H.cells 0 rfl
       exact dp_v (v := (.agg #[(I x10.1), (Sl a17 x10.2.1 c18), (I x10.2.2)])) wn (rv_load (cs := [(I x10.1), (Sl a17 x10.2.1 c18), (I x10.2.2)]) Tryz.underlying41 rfl ti41 e9 rfl hc24) rfl hJ
      trivial) ?_
    refine all_cons (by
      refine ⟨?_, ?_⟩
      ·intro _nm ρ σm hJ hoff hdep
       have e21 : look 27 ρ 21 = (.agg #[(I x10.1), (Sl a17 x10.2.1 c18), (I x10.2.2)]) := hdep 3 rfl rfl 21 rfl
       have e20 := hdep 2 rfl rfl 20 rfl
       obtain ⟨H, m⟩ := id hJ
       refine dp_cx wn (cx_call hc27 (ent_v (cap := [(pt Er Es), (pt Ez Fa)]) hc27.fn e20 (by show [look 27 ρ 21] ++ [(pt Er Es), (pt Ez Fa)] = _; rw [e21]; rfl)) hn0 (H.sel' [1, 4, 6, 5, 0, 1, 2, 3, 5, 7] rfl rfl : Hp S0 σ0 _ ([_, _, _, _] ++ _))) ?_
       rintro _ σq ⟨_, ⟨rfl, rfl⟩, H2, m2⟩
       exact ⟨_, (), rfl, rfl, ⟨H2.sel' [0, 1, 2, 3, 4, 5, 6, 7] rfl rfl, m.comp m2⟩, stab [0, 1, 2, 3] (by kernel_rfl) ⟨rfl, rfl, rfl, rfl, trivial⟩⟩
      trivial) ?_
    exact all_nil
   ·intro _nm ρ σ28 hJ hoff hrel
    have e2 := look_off (N := 27) (hoff 2 rfl) rfl
    have e7 := look_off (N := 27) (hoff 7 rfl) rfl
    have e12 := look_off (N := 27) (hoff 12 rfl) rfl
    have e13 := look_off (N := 27) (hoff 13 rfl) rfl
    have e14 := look_off (N := 27) (hoff 14 rfl) rfl
    have e19 := hrel 1 rfl 19 rfl
    have e22 := hrel 4 rfl 22 rfl
    obtain ⟨H, -⟩ := (show Hp S0 σ0 σ28 [Ch.bx Ep Er Es [(I En)] Et Eu, Ch.bx Ey Ez Fa [(Sl Ev Eo Ew)] Fb Fc, Ch.bx n0 b20 0 [(I x10.1), (Sl a17 x10.2.1 c18), (I x10.2.2)] [] [], Ch.ro 0 (Sl a17 x10.2.1 c18) x10.2.1, Ch.bx n0 b1 0 [(I s5.1.1), (Sl a7 s5.1.2 c8)] [] [], Ch.own 0 0 (Sl a7 s5.1.2 c8) s5.1.2, Ch.ro 0 (Sl Ev Eo Ew) Eo, Ch.ro 0 (Sl Aw Av Ax) Av] ∧ Md (fun i => (cov []) i ∨ (cov [Ch.ro 0 (Sl a17 x10.2.1 c18) x10.2.1, Ch.bx Ep Er Es [(I En)] Et Eu, Ch.bx Ey Ez Fa [(Sl Ev Eo Ew)] Fb Fc, Ch.ro 0 (Sl Ev Eo Ew) Eo]) i) σ22 σ28 from hJ)
    clear hJ Hs
    rw [fr_lookL (L := [(2, (.func (.func 51) #[] #[(pt Er Es), (pt Ez Fa)])), (7, (pt b1 0)), (12, (Sl Aw Av Ax)), (13, (I (Av.length : Int))), (14, (I s5.2)), (19, (I x10.1)), (22, (I r25))]) ⟨e2, e7, e12, e13, e14, e19, e22, trivial⟩]
    clear hoff hrel e2 e7 e12 e13 e14 e19 e22
    refine st (v := (.agg #[(I x10.1), (I r25)])) (rv_build (ps := [(0, (I x10.1)), (1, (I r25))]) Tryz.underlying35 ti35 (bp35 Tryz.underlying35) rfl (by kernel_rfl)) ?_
    revert h; refine br fun r29 hx30 h => ?_
    have hc31 := c_impl_nearestHits_offer (Cc := n0) (Cd := b1) (Ce := 0) (Cf := []) (Cg := []) (Ca := a7) (Cb := c8) hx30
    refine st_call (cx_call hc31 (ent_f hc31.fn rfl) hn0 (H.sel' [4, 5, 0, 1, 2, 3, 6, 7] rfl rfl : Hp S0 σ0 _ ([_, _] ++ _))) wn ?_
    rintro _ σ34 ⟨_, ⟨a32, c33, rfl, rfl⟩, H, -⟩
    replace H : Hp _ _ _ [_, _, _, _, _, _, _, _] := H
    replace H : Hp S0 σ0 σ34 [Ch.bx n0 b1 0 [(I r29.1), (Sl a32 r29.2 c33)] [] [], Ch.own 0 0 (Sl a32 r29.2 c33) r29.2, Ch.bx Ep Er Es [(I En)] Et Eu, Ch.bx Ey Ez Fa [(Sl Ev Eo Ew)] Fb Fc, Ch.ro 0 (Sl Ev Eo Ew) Eo, Ch.ro 0 (Sl Aw Av Ax) Av] := H.sel' [0, 1, 2, 3, 6, 7] rfl rfl
    refine w_end (q_blk (q_then (rg (st (v := (I (w64 (s5.2 + 1)))) (rv_add (a := s5.2) (b := 1) rfl rfl) (sm (I (w64 (s5.2 + 1))) rfl (w_end (q_then ?_)))))))
    obtain rfl := sj h
    exact ⟨_, rfl, _, σ34, a32, c33, fr_join ⟨rfl, rfl, rfl, rfl, rfl, trivial⟩, rfl, H.sel' [0, 1, 2, 4, 3, 5] rfl rfl⟩
  ·replace h := bif_f hb9 h
   refine c_exit (q_then_x (q_then_x (q_blk_hit ?_)))
   obtain rfl := sj h
   obtain rfl := hres _ rfl
   exact ⟨rfl, _, σ6, a7, c8, fr_join ⟨rfl, rfl, trivial⟩, rfl, H.sel' [0, 1, 2, 3, 4] rfl rfl⟩
 ·clear hj
  have h := h'
  clear h' H
  rintro e a w ⟨rfl, ρ, σ35, a36, c37, rfl, rfl, H⟩
  refine q_then (c_seq (rg ?_))
  obtain ⟨σ38, hw39, H, -⟩ := H.pub 1 rfl (Nat.le_refl _)
  rw [← hw39]; clear hw39
  revert h; refine br fun r40 hx41 h => ?_
  have hc42 := c_impl_nearestHits_inOrder (Cc := n0) (Cd := b1) (Ce := 0) (Cf := []) (Cg := []) (Ca := a36) (Cb := c37) hx41
  refine st_call (cx_call hc42 (ent_f hc42.fn rfl) hn0 (H.sel' [1, 0, 0, 2, 3, 4] rfl rfl : Hp S0 σ0 _ ([_, _] ++ _))) wn ?_
  rintro _ σ45 ⟨_, ⟨a43, c44, rfl, rfl⟩, H, -⟩
  replace H : Hp _ _ _ [_, _, _, _, _, _] := H
  refine sa (Sl a43 r40 c44) rfl (w_end (q_then (c_ret ?_)))
  obtain rfl := sj h
  exact fin_ret (v := (Sl a43 r40 c44)) (results_ok Tryz.results50 (res_tmp (v := (Sl a43 r40 c44)) rfl res_nil) rfl) ⟨a43, c44, rfl, rfl⟩ (H.sel' [0, 3, 5] rfl rfl)

theorem c_impl_nearestAmong {Av : List (Int × (List Int) × Int)} {Ba : Int} {Bb : List Int} {Bc : Int} {Aw : Option Addr} {Ax : Nat} {Bd : Option Addr} {Be : Nat} {r : (List (Int × Int))} (h : M.impl_nearestAmong Av Ba Bb Bc = some r) :
    Cal2 Tryz.prog 23 [(Sl Aw Av Ax), (I Ba), (Sl Bd Bb Be), (I Bc)] [Ch.ro 0 (Sl Aw Av Ax) Av, Ch.ro 0 (Sl Bd Bb Be) Bb] (fun n0 v L => ∃ (az1 : Option Addr), ∃ (cz2 : Nat), v = (Sl az1 r cz2) ∧ L = [Ch.own 0 n0 (Sl az1 r cz2) r]) := by
 refine cal2 (n := 13) Tryz.func23 rfl rfl rfl rfl ?_
 intro S0 σ0 n0 hn0 H
 unfold M.impl_nearestAmong at h
 refine c_seq (rg (st_ex (ex_box (cs := [(I Ba)]) H hn0 rfl rfl) wn ?_))
 rintro _ σ2 ⟨b1, rfl, H, -⟩
 refine st_ex (ex_box (cs := [(Sl Bd Bb Be)]) H hn0 rfl rfl) wn ?_
 rintro _ σ4 ⟨b3, rfl, H, -⟩
 refine sa (.slice none 0 0) rfl (w_end (q_then (c_seq (rg (sm (Sl Aw Av Ax) rfl (sm (I Bc) rfl (st (v := (.func (.func 51) #[] #[(pt b1 0), (pt b3 0)])) (rv_makeFunc (vs := [(pt b1 0), (pt b3 0)]) rfl) ?_)))))))
 revert h; refine br fun r5 hx6 h => ?_
 have hc7 := c_impl_nearestBy__impl_nearestAmong_1 (Aw := Aw) (Ax := Ax) (Ep := n0) (Er := b1) (Es := 0) (Et := []) (Eu := []) (Ey := n0) (Ez := b3) (Fa := 0) (Fb := []) (Fc := []) (Ev := Bd) (Ew := Be) hx6
 refine st_call (cx_call hc7 (ent_f hc7.fn rfl) hn0 (H.sel' [2, 1, 0, 3, 2, 3] rfl rfl : Hp S0 σ0 _ ([_, _, _, _] ++ _))) wn ?_
 rintro _ σ10 ⟨_, ⟨a8, c9, rfl, rfl⟩, H, -⟩
 replace H : Hp _ _ _ [_, _, _, _, _] := H
 refine sa (Sl a8 r5 c9) rfl (w_end (q_then (c_ret ?_)))
 obtain rfl := sj h
 exact fin_ret (v := (Sl a8 r5 c9)) (results_ok Tryz.results23 (res_tmp (v := (Sl a8 r5 c9)) rfl res_nil) rfl) ⟨a8, c9, rfl, rfl⟩ (H.sel' [0] rfl rfl)

theorem c_impl_Nearest {Av : List (Int × (List Int) × Int)} {Ba : Int} {Bb : List Int} {Bc : Int} {Aw : Option Addr} {Ax : Nat} {Bd : Option Addr} {Be : Nat} {r : (List (Int × Int))} (h : M.impl_Nearest Av Ba Bb Bc = some r) :
    Cal2 Tryz.prog 11 [(Sl Aw Av Ax), (I Ba), (Sl Bd Bb Be), (I Bc)] [Ch.ro 0 (Sl Aw Av Ax) Av, Ch.ro 0 (Sl Bd Bb Be) Bb] (fun n0 v L => ∃ (az1 : Option Addr), ∃ (cz2 : Nat), v = (Sl az1 r cz2) ∧ L = [Ch.own 0 n0 (Sl az1 r cz2) r]) := by
 refine cal2 (n := 20) Tryz.func11 rfl rfl rfl rfl ?_
 intro S0 σ0 n0 hn0 H
 unfold M.impl_Nearest at h
 refine c_seq (rg (sa (.slice none 0 0) rfl (w_end (q_then (c_seq (c_seq (rg (sm (Sl Aw Av Ax) rfl (sm (I Ba) rfl (sm (Sl Bd Bb Be) rfl (sm (I Bc) rfl ?_)))))))))))
 revert h; refine br fun r1 hx2 h => ?_
 have hc3 := c_impl_validSearch (Aw := Aw) (Ax := Ax) (Bd := Bd) (Be := Be) hx2
 refine st_call (cx_call hc3 (ent_f hc3.fn rfl) hn0 (H.sel' [0, 1, 0, 1] rfl rfl : Hp S0 σ0 _ ([_, _] ++ _))) wn ?_
 rintro _ σ4 ⟨_, ⟨rfl, rfl⟩, H, -⟩
 replace H : Hp _ _ _ [_, _] := H
 refine st (v := (B (!r1))) (rv_not rfl) (w_end (q_then ?_))
 refine cd_cond (!r1) rfl (fun hb5 => ?_) (fun hb5 => ?_)
 ·replace h := bif_t hb5 h
  refine c_seq (rg (sa (.slice none 0 0) rfl (w_end (q_then (c_ret (q_then_r ?_))))))
  replace H := H.nilOwn (Int × Int) 0 n0
  obtain rfl := sj h
  exact fin_ret (v := (.slice none 0 0)) (results_ok Tryz.results11 (res_tmp (v := (.slice none 0 0)) rfl res_nil) rfl) ⟨none, 0, rfl, rfl⟩ (H.sel' [0] rfl rfl)
 ·replace h := bif_f hb5 h
  refine c_skip (q_then (c_seq (rg (sm (Sl Aw Av Ax) rfl (sm (I Ba) rfl (sm (Sl Bd Bb Be) rfl (sm (I Bc) rfl ?_)))))))
  revert h; refine br fun r6 hx7 h => ?_
  have hc8 := c_impl_nearestAmong (Aw := Aw) (Ax := Ax) (Bd := Bd) (Be := Be) hx7
  refine st_call (cx_call hc8 (ent_f hc8.fn rfl) hn0 (H.sel' [0, 1, 0, 1] rfl rfl : Hp S0 σ0 _ ([_, _] ++ _))) wn ?_
  rintro _ σ11 ⟨_, ⟨a9, c10, rfl, rfl⟩, H, -⟩
  replace H : Hp _ _ _ [_, _, _] := H
  refine sa (Sl a9 r6 c10) rfl (w_end (q_then (c_ret ?_)))
  obtain rfl := sj h
  exact fin_ret (v := (Sl a9 r6 c10)) (results_ok Tryz.results11 (res_tmp (v := (Sl a9 r6 c10)) rfl res_nil) rfl) ⟨a9, c10, rfl, rfl⟩ (H.sel' [0] rfl rfl)

theorem c_spec_newReader {Fd : List UInt8} {Fe : Option Addr} {Ff : Nat} {r : ((List UInt8) × Int)} (h : M.spec_newReader Fd = some r) :
    Cal2 Tryz.prog 15 [(Sl Fe Fd Ff)] [Ch.ro 0 (Sl Fe Fd Ff) Fd] (fun n0 v L => ∃ (bz1 : Nat), ∃ (az2 : Option Addr), ∃ (cz3 : Nat), v = (pt bz1 0) ∧ L = [Ch.bx n0 bz1 0 [(Sl az2 r.1 cz3), (I r.2)] [] [], Ch.ro 0 (Sl az2 r.1 cz3) r.1]) := by
 refine cal2 (n := 11) Tryz.func15 rfl rfl rfl rfl ?_
 intro S0 σ0 n0 hn0 H
 unfold M.spec_newReader at h
 refine c_seq (rg (sa (.pointer none) rfl (w_end (q_then (c_seq (c_seq (rg (sm (Sl Fe Fd Ff) rfl (st (v := (I (Fd.length : Int))) (rv_len Tryz.underlying22 rfl) (st (v := (B (decide (2000 < (Fd.length : Int))))) (rv_gtr (a := (Fd.length : Int)) (b := 2000) rfl rfl) (w_end ?_)))))))))))
 refine q_then ?_
 obtain ⟨o1, hj, h'⟩ := bind_some h
 clear h
 refine c_cut (fun e a w => e = .normal ∧ ∃ (ρ : Nat → Value) (σ : St) (aj1 : Option Addr) (cj2 : Nat), a = fr 11 (updL ρ [(0, (Sl aj1 o1 cj2))]) ∧ w = σ.w ∧ Hp S0 σ0 σ [Ch.ro 0 (Sl aj1 o1 cj2) o1]) ?_ ?_
 ·clear h'
  rename _ = some o1 => h
  refine cd_cond (decide (2000 < (Fd.length : Int))) rfl (fun hb2 => ?_) (fun hb2 => ?_)
  ·replace h := bif_t hb2 h
   refine rg (sm (Sl Fe Fd Ff) rfl ?_)
   revert h; refine br fun xs3 hx4 h => ?_
   obtain ⟨a5, c6, hs7, hR8⟩ := (H.ro 0 rfl).slice hx4
   replace H := H.add (d := Ch.ro 0 (Sl a5 xs3 c6) xs3) hR8 (fun _ h => h)
   clear hR8
   refine st (v := (Sl a5 xs3 c6)) (rv_slice_h Tryz.underlying22 ti5 hs7 rfl rfl) (sa (Sl a5 xs3 c6) rfl (w_end ?_))
   obtain rfl := sj h
   exact ⟨rfl, _, σ0, a5, c6, fr_join ⟨rfl, trivial⟩, rfl, H.sel' [0] rfl rfl⟩
  ·replace h := bif_f hb2 h
   refine c_skip ?_
   obtain rfl := sj h
   exact ⟨rfl, _, σ0, Fe, Ff, fr_join ⟨rfl, trivial⟩, rfl, H.sel' [0] rfl rfl⟩
 ·clear hj
  have h := h'
  clear h' H
  rintro e a w ⟨rfl, ρ, σ9, a10, c11, rfl, rfl, H⟩
  refine q_then (c_seq (rg (sm (Sl a10 o1 c11) rfl ?_)))
  refine st (v := (.agg #[(Sl a10 o1 c11), (I 0)])) (rv_build (ps := [(0, (Sl a10 o1 c11))]) Tryz.underlying68 ti68 (bp68 Tryz.underlying68) rfl (by kernel_rfl)) ?_
  refine st_ex (ex_box (cs := [(Sl a10 o1 c11), (I 0)]) H hn0 rfl rfl) wn ?_
  rintro _ σ13 ⟨b12, rfl, H, -⟩
  refine sa (pt b12 0) rfl (w_end (q_then (c_ret ?_)))
  obtain rfl := sj h
  exact fin_ret (v := (pt b12 0)) (results_ok Tryz.results15 (res_tmp (v := (pt b12 0)) rfl res_nil) rfl) ⟨b12, a10, c11, rfl, rfl⟩ (H.sel' [0, 1] rfl rfl)

theorem c_spec_reader_pick {Ci : (List UInt8) × Int} {Fg : Int} {Fh : Option Addr} {Fi : Nat} {Cj Ck Cl : Nat} {Cm Cn : List Value} {r : Int × ((List UInt8) × Int)} (h : M.spec_reader_pick Ci Fg = some r) :
    Cal2 Tryz.prog 34 [(pt Ck Cl), (I Fg)] [Ch.bx Cj Ck Cl [(Sl Fh Ci.1 Fi), (I Ci.2)] Cm Cn, Ch.ro 0 (Sl Fh Ci.1 Fi) Ci.1] (fun n0 v L => ∃ (az1 : Option Addr), ∃ (cz2 : Nat), v = (I r.1) ∧ L = [Ch.bx Cj Ck Cl [(Sl az1 r.2.1 cz2), (I r.2.2)] Cm Cn, Ch.ro 0 (Sl az1 r.2.1 cz2) r.2.1]) := by
 refine cal2 (n := 99) Tryz.func34 rfl rfl rfl rfl ?_
 intro S0 σ0 n0 hn0 H
 unfold M.spec_reader_pick at h
 refine c_seq (rg (sa (I 0) rfl (w_end (q_then (c_seq (rg (sm (pt Ck Cl) rfl (sm (pt Ck Cl) rfl (st (v := (pt Ck Cl)) (rv_nilCheck rfl) (st (v := (pt Ck (Cl + 1))) (rv_fieldAddr (off := 1) (ft := 3) Tryz.underlying68 rfl ti3 rfl rfl) ?_))))))))))
 have hc1 := H.cell (u := (I Ci.2)) (o' := (Cl + 1)) 0 1 rfl rfl rfl
 refine st (v := (I Ci.2)) (rv_load1 Tryz.underlying3 rfl rfl hc1) (st (v := (I (w64 (Ci.2 + 1)))) (rv_add (a := Ci.2) (b := 1) rfl rfl) (st (v := (pt Ck Cl)) (rv_nilCheck rfl) (st (v := (pt Ck (Cl + 1))) (rv_fieldAddr (off := 1) (ft := 3) Tryz.underlying68 rfl ti3 rfl rfl) ?_)))
 refine st_exS (ex_store_box (k := 1) (cs := [(Sl Fh Ci.1 Fi), (I Ci.2)]) (vs := [(I (w64 (Ci.2 + 1)))]) (cs' := [(Sl Fh Ci.1 Fi), (I (w64 (Ci.2 + 1)))]) H (i := 0) rfl ti3 rfl rfl rfl rfl rfl (Nat.le_of_ble_eq_true rfl) (by simp [plain]) rfl) wn ?_
 rintro σ2 ⟨H, -⟩
 refine w_end (q_then (c_seq (c_seq ?_)))
 obtain ⟨o3, hj, h'⟩ := bind_some h
 clear h
 refine c_cut (fun e a w => e = .normal ∧ ∃ (ρ : Nat → Value) (σ : St), a = fr 99 (updL ρ [(0, (pt Ck Cl)), (1, (I Fg)), (24, (B o3))]) ∧ w = σ.w ∧ Hp S0 σ0 σ [Ch.ro 0 (Sl Fh Ci.1 Fi) Ci.1, Ch.bx Cj Ck Cl [(Sl Fh Ci.1 Fi), (I (w64 (Ci.2 + 1)))] Cm Cn]) ?_ ?_
 ·clear h'
  rename _ = some o3 => h
  refine rg (sm (I Fg) rfl (st (v := (B (decide (Fg < 1)))) (rv_lss (a := Fg) (b := 1) rfl rfl) (sm (B (decide (Fg < 1))) rfl ?_)))
  rcases Bool.eq_false_or_eq_true (decide (Fg < 1)) with hb4 | hb4
  ·replace h := bif_t hb4 h
   refine st_skip (congrArg some hb4) (st_skip (congrArg some hb4) (st_skip (congrArg some hb4) (st_skip (congrArg some hb4) (st_skip (congrArg some hb4) (st_skip (congrArg some hb4) (st (v := (B true)) (rv_pick_t (congrArg B hb4) rfl) (w_end ?_)))))))
   obtain rfl := sj h
   exact ⟨rfl, _, σ2, fr_join ⟨rfl, rfl, rfl, trivial⟩, rfl, H.sel' [1, 0] rfl rfl⟩
  ·replace h := bif_f hb4 h
   refine st_g (v := (pt Ck Cl)) (congrArg some hb4) (rv_move rfl) (st_g (v := (pt Ck Cl)) (congrArg some hb4) (rv_nilCheck rfl) (st_g (v := (pt Ck Cl)) (congrArg some hb4) (rv_fieldAddr (off := 0) (ft := 22) Tryz.underlying68 rfl ti22 rfl rfl) ?_))
   have hc5 := H.cell (u := (Sl Fh Ci.1 Fi)) (o' := Cl) 0 0 rfl rfl rfl
   refine st_g (v := (Sl Fh Ci.1 Fi)) (congrArg some hb4) (rv_load1 Tryz.underlying22 rfl rfl hc5) (st_g (v := (I (Ci.1.length : Int))) (congrArg some hb4) (rv_len Tryz.underlying22 rfl) (st_g (v := (B ((Ci.1.length : Int) == 0))) (congrArg some hb4) (rv_eql (a := (Ci.1.length : Int)) (b := 0) rfl rfl) (st (v := (B ((Ci.1.length : Int) == 0))) (rv_pick_f (congrArg B hb4) rfl) (w_end ?_))))
   obtain rfl := sj h
   exact ⟨rfl, _, σ2, fr_join ⟨rfl, rfl, rfl, trivial⟩, rfl, H.sel' [1, 0] rfl rfl⟩
 ·clear hj
  have h := h'
  clear h' H
  rintro e a w ⟨rfl, ρ, σ6, rfl, rfl, H⟩
  refine q_then ?_
  refine cd_cond o3 rfl (fun hb7 => ?_) (fun hb7 => ?_)
  ·replace h := bif_t hb7 h
   refine c_seq (rg (sa (I 0) rfl (w_end (q_then (c_ret (q_then_r ?_))))))
   obtain rfl := sj h
   exact fin_ret (v := (I 0)) (results_ok Tryz.results34 (res_tmp (v := (I 0)) rfl res_nil) rfl) ⟨Fh, Fi, rfl, rfl⟩ (H.sel' [1, 0] rfl rfl)
  ·replace h := bif_f hb7 h
   refine c_skip (q_then (c_seq (rg (sm (pt Ck Cl) rfl (st (v := (pt Ck Cl)) (rv_nilCheck rfl) (st (v := (pt Ck (Cl + 1))) (rv_fieldAddr (off := 1) (ft := 3) Tryz.underlying68 rfl ti3 rfl rfl) ?_))))))
   have hc8 := H.cell (u := (I (w64 (Ci.2 + 1)))) (o' := (Cl + 1)) 1 1 rfl rfl rfl
   refine st (v := (I (w64 (Ci.2 + 1)))) (rv_load1 Tryz.underlying3 rfl rfl hc8) (st (v := (I (w64 ((w64 (Ci.2 + 1)) - 1)))) (rv_sub (a := (w64 (Ci.2 + 1))) (b := 1) rfl rfl) (sa (I (w64 ((w64 (Ci.2 + 1)) - 1))) rfl (w_end (q_then (c_seq (c_seq (rg (sm (I (w64 ((w64 (Ci.2 + 1)) - 1))) rfl (sm (pt Ck Cl) rfl (st (v := (pt Ck Cl)) (rv_nilCheck rfl) (st (v := (pt Ck Cl)) (rv_fieldAddr (off := 0) (ft := 22) Tryz.underlying68 rfl ti22 rfl rfl) ?_)))))))))))
   have hc9 := H.cell (u := (Sl Fh Ci.1 Fi)) (o' := Cl) 1 0 rfl rfl rfl
   refine st (v := (Sl Fh Ci.1 Fi)) (rv_load1 Tryz.underlying22 rfl rfl hc9) (st (v := (I (Ci.1.length : Int))) (rv_len Tryz.underlying22 rfl) (st (v := (B (decide ((w64 ((w64 (Ci.2 + 1)) - 1)) < (Ci.1.length : Int))))) (rv_lss (a := (w64 ((w64 (Ci.2 + 1)) - 1))) (b := (Ci.1.length : Int)) rfl rfl) (w_end (q_then ?_))))
   refine cd_cond (decide ((w64 ((w64 (Ci.2 + 1)) - 1)) < (Ci.1.length : Int))) rfl (fun hb10 => ?_) (fun hb10 => ?_)
   ·replace h := bif_t hb10 h
    refine c_seq (rg (sm (pt Ck Cl) rfl (st (v := (pt Ck Cl)) (rv_nilCheck rfl) (st (v := (pt Ck Cl)) (rv_fieldAddr (off := 0) (ft := 22) Tryz.underlying68 rfl ti22 rfl rfl) ?_))))
    have hc11 := H.cell (u := (Sl Fh Ci.1 Fi)) (o' := Cl) 1 0 rfl rfl rfl
    refine st (v := (Sl Fh Ci.1 Fi)) (rv_load1 Tryz.underlying22 rfl rfl hc11) (sm (I (w64 ((w64 (Ci.2 + 1)) - 1))) rfl ?_)
    revert h; refine br fun x12 hx13 h => ?_
    obtain ⟨b15, o16, hi14, -⟩ := (H.ro 0 rfl).ix hx13
    refine st (v := (pt b15 o16)) (rv_ix Tryz.underlying22 ti5 rfl rfl hi14) ?_
    have hc17 := ((H.ro 0 rfl).at hx13 hi14).byte
    refine st (v := (.int .u8 (x12.toNat : Int))) (rv_load1 Tryz.underlying5 rfl rfl hc17) (st (v := (I (w64 (x12.toNat : Int)))) (rv_conv Tryz.underlying5 Tryz.underlying3 rfl) (sm (I Fg) rfl ?_))
    revert h; refine br fun q18 hx19 h => ?_
    refine st (v := (I q18)) (rv_remG (a := (w64 (x12.toNat : Int))) (b := Fg) hx19 rfl rfl) (sa (I q18) rfl (w_end (q_then (c_ret (q_then_r ?_)))))
    obtain rfl := sj h
    exact fin_ret (v := (I q18)) (results_ok Tryz.results34 (res_tmp (v := (I q18)) rfl res_nil) rfl) ⟨Fh, Fi, rfl, rfl⟩ (H.sel' [1, 0] rfl rfl)
   ·replace h := bif_f hb10 h
    refine c_skip (q_then (c_seq ?_))
    refine rgP (σ := σ6) 44 (by kernel_rfl) (by kernel_rfl) (by kernel_rfl) ?_
    refine sq (v := (pt Ck Cl)) (rv_move rfl) (sq (v := (pt Ck Cl)) (rv_nilCheck rfl) (sq (v := (pt Ck Cl)) (rv_fieldAddr (off := 0) (ft := 22) Tryz.underlying68 rfl ti22 rfl rfl) ?_))
    have hc20 := H.cell (u := (Sl Fh Ci.1 Fi)) (o' := Cl) 1 0 rfl rfl rfl
    refine sq (v := (Sl Fh Ci.1 Fi)) (rv_load1 Tryz.underlying22 rfl rfl hc20) (sq (v := (I (w64 ((w64 (Ci.2 + 1)) - 1)))) (rv_move rfl) (sq (v := (pt Ck Cl)) (rv_move rfl) (sq (v := (pt Ck Cl)) (rv_nilCheck rfl) (sq (v := (pt Ck Cl)) (rv_fieldAddr (off := 0) (ft := 22) Tryz.underlying68 rfl ti22 rfl rfl) ?_))))
    have hc21 := H.cell (u := (Sl Fh Ci.1 Fi)) (o' := Cl) 1 0 rfl rfl rfl
    refine sq (v := (Sl Fh Ci.1 Fi)) (rv_load1 Tryz.underlying22 rfl rfl hc21) (sq (v := (I (Ci.1.length : Int))) (rv_len Tryz.underlying22 rfl) ?_)
    revert h; refine br fun q22 hx23 h => ?_
    refine sq (v := (I q22)) (rv_remG (a := (w64 ((w64 (Ci.2 + 1)) - 1))) (b := (Ci.1.length : Int)) hx23 rfl rfl) ?_
    revert h; refine br fun x24 hx25 h => ?_
    obtain ⟨b27, o28, hi26, -⟩ := (H.ro 0 rfl).ix hx25
    refine sq (v := (pt b27 o28)) (rv_ix Tryz.underlying22 ti5 rfl rfl hi26) ?_
    have hc29 := ((H.ro 0 rfl).at hx25 hi26).byte
    refine sq (v := (.int .u8 (x24.toNat : Int))) (rv_load1 Tryz.underlying5 rfl rfl hc29) (sq (v := (I (w64 (x24.toNat : Int)))) (rv_conv Tryz.underlying5 Tryz.underlying3 rfl) (sq (v := (I (w64 ((w64 (x24.toNat : Int)) * 131)))) (rv_mul (a := (w64 (x24.toNat : Int))) (b := 131) rfl rfl) (sq (v := (pt Ck Cl)) (rv_move rfl) (sq (v := (pt Ck Cl)) (rv_nilCheck rfl) (sq (v := (pt Ck Cl)) (rv_fieldAddr (off := 0) (ft := 22) Tryz.underlying68 rfl ti22 rfl rfl) ?_)))))
    have hc30 := H.cell (u := (Sl Fh Ci.1 Fi)) (o' := Cl) 1 0 rfl rfl rfl
    refine sq (v := (Sl Fh Ci.1 Fi)) (rv_load1 Tryz.underlying22 rfl rfl hc30) (sq (v := (I (w64 ((w64 (Ci.2 + 1)) - 1)))) (rv_move rfl) (sq (v := (I (w64 ((w64 ((w64 (Ci.2 + 1)) - 1)) * 7)))) (rv_mul (a := (w64 ((w64 (Ci.2 + 1)) - 1))) (b := 7) rfl rfl) (sq (v := (I (w64 ((w64 ((w64 ((w64 (Ci.2 + 1)) - 1)) * 7)) + 3)))) (rv_add (a := (w64 ((w64 ((w64 (Ci.2 + 1)) - 1)) * 7))) (b := 3) rfl rfl) (sq (v := (pt Ck Cl)) (rv_move rfl) (sq (v := (pt Ck Cl)) (rv_nilCheck rfl) (sq (v := (pt Ck Cl)) (rv_fieldAddr (off := 0) (ft := 22) Tryz.underlying68 rfl ti22 rfl rfl) ?_))))))
    have hc31 := H.cell (u := (Sl Fh Ci.1 Fi)) (o' := Cl) 1 0 rfl rfl rfl
    refine sq (v := (Sl Fh Ci.1 Fi)) (rv_load1 Tryz.underlying22 rfl rfl hc31) (sq (v := (I (Ci.1.length : Int))) (rv_len Tryz.underlying22 rfl) ?_)
    revert h; refine br fun q32 hx33 h => ?_
    refine sq (v := (I q32)) (rv_remG (a := (w64 ((w64 ((w64 ((w64 (Ci.2 + 1)) - 1)) * 7)) + 3))) (b := (Ci.1.length : Int)) hx33 rfl rfl) ?_
    revert h; refine br fun x34 hx35 h => ?_
    obtain ⟨b37, o38, hi36, -⟩ := (H.ro 0 rfl).ix hx35
    refine sq (v := (pt b37 o38)) (rv_ix Tryz.underlying22 ti5 rfl rfl hi36) ?_
    have hc39 := ((H.ro 0 rfl).at hx35 hi36).byte
    refine sq (v := (.int .u8 (x34.toNat : Int))) (rv_load1 Tryz.underlying5 rfl rfl hc39) (sq (v := (I (w64 (x34.toNat : Int)))) (rv_conv Tryz.underlying5 Tryz.underlying3 rfl) (sq (v := (I (w64 ((w64 (x34.toNat : Int)) * 1117)))) (rv_mul (a := (w64 (x34.toNat : Int))) (b := 1117) rfl rfl) (sq (v := (I (w64 ((w64 ((w64 (x24.toNat : Int)) * 131)) + (w64 ((w64 (x34.toNat : Int)) * 1117)))))) (rv_add (a := (w64 ((w64 (x24.toNat : Int)) * 131))) (b := (w64 ((w64 (x34.toNat : Int)) * 1117))) rfl rfl) (sq (v := (I (w64 ((w64 (Ci.2 + 1)) - 1)))) (rv_move rfl) (sq (v := (I (w64 ((w64 ((w64 (Ci.2 + 1)) - 1)) * 29)))) (rv_mul (a := (w64 ((w64 (Ci.2 + 1)) - 1))) (b := 29) rfl rfl) (sq (v := (I (w64 ((w64 ((w64 ((w64 (x24.toNat : Int)) * 131)) + (w64 ((w64 (x34.toNat : Int)) * 1117)))) + (w64 ((w64 ((w64 (Ci.2 + 1)) - 1)) * 29)))))) (rv_add (a := (w64 ((w64 ((w64 (x24.toNat : Int)) * 131)) + (w64 ((w64 (x34.toNat : Int)) * 1117))))) (b := (w64 ((w64 ((w64 (Ci.2 + 1)) - 1)) * 29))) rfl rfl) (sq (v := (I (w64 ((w64 (Ci.2 + 1)) - 1)))) (rv_move rfl) (sq (v := (pt Ck Cl)) (rv_move rfl) (sq (v := (pt Ck Cl)) (rv_nilCheck rfl) (sq (v := (pt Ck Cl)) (rv_fieldAddr (off := 0) (ft := 22) Tryz.underlying68 rfl ti22 rfl rfl) ?_))))))))))
    have hc40 := H.cell (u := (Sl Fh Ci.1 Fi)) (o' := Cl) 1 0 rfl rfl rfl
    refine sq (v := (Sl Fh Ci.1 Fi)) (rv_load1 Tryz.underlying22 rfl rfl hc40) (sq (v := (I (Ci.1.length : Int))) (rv_len Tryz.underlying22 rfl) ?_)
    revert h; refine br fun q41 hx42 h => ?_
    refine sq (v := (I q41)) (rv_quoG (a := (w64 ((w64 (Ci.2 + 1)) - 1))) (b := (Ci.1.length : Int)) hx42 rfl rfl) (sq (v := (I (w64 (q41 * 53)))) (rv_mul (a := q41) (b := 53) rfl rfl) (sq_end ?_))
    intro σ43 hm44
    replace H := H.grow (hm44.mono fun _ h => h); clear hm44
    refine st (v := (I (w64 ((w64 ((w64 ((w64 ((w64 (x24.toNat : Int)) * 131)) + (w64 ((w64 (x34.toNat : Int)) * 1117)))) + (w64 ((w64 ((w64 (Ci.2 + 1)) - 1)) * 29)))) + (w64 (q41 * 53)))))) (rv_add (a := (w64 ((w64 ((w64 ((w64 (x24.toNat : Int)) * 131)) + (w64 ((w64 (x34.toNat : Int)) * 1117)))) + (w64 ((w64 ((w64 (Ci.2 + 1)) - 1)) * 29))))) (b := (w64 (q41 * 53))) rfl rfl) (sa (I (w64 ((w64 ((w64 ((w64 ((w64 (x24.toNat : Int)) * 131)) + (w64 ((w64 (x34.toNat : Int)) * 1117)))) + (w64 ((w64 ((w64 (Ci.2 + 1)) - 1)) * 29)))) + (w64 (q41 * 53))))) rfl (w_end (q_then (c_seq (rg (sm (I (w64 ((w64 ((w64 ((w64 ((w64 (x24.toNat : Int)) * 131)) + (w64 ((w64 (x34.toNat : Int)) * 1117)))) + (w64 ((w64 ((w64 (Ci.2 + 1)) - 1)) * 29)))) + (w64 (q41 * 53))))) rfl (sm (I (w64 ((w64 ((w64 ((w64 ((w64 (x24.toNat : Int)) * 131)) + (w64 ((w64 (x34.toNat : Int)) * 1117)))) + (w64 ((w64 ((w64 (Ci.2 + 1)) - 1)) * 29)))) + (w64 (q41 * 53))))) rfl ?_)))))))
    refine st (v := (I (w64 ((w64 ((w64 ((w64 ((w64 ((w64 (x24.toNat : Int)) * 131)) + (w64 ((w64 (x34.toNat : Int)) * 1117)))) + (w64 ((w64 ((w64 (Ci.2 + 1)) - 1)) * 29)))) + (w64 (q41 * 53)))).tdiv 64)))) (rv_quo (a := (w64 ((w64 ((w64 ((w64 ((w64 (x24.toNat : Int)) * 131)) + (w64 ((w64 (x34.toNat : Int)) * 1117)))) + (w64 ((w64 ((w64 (Ci.2 + 1)) - 1)) * 29)))) + (w64 (q41 * 53))))) (b := 64) rfl rfl (by decide)) ?_
    refine st (v := (I (gxor (w64 ((w64 ((w64 ((w64 ((w64 (x24.toNat : Int)) * 131)) + (w64 ((w64 (x34.toNat : Int)) * 1117)))) + (w64 ((w64 ((w64 (Ci.2 + 1)) - 1)) * 29)))) + (w64 (q41 * 53)))) (w64 ((w64 ((w64 ((w64 ((w64 ((w64 (x24.toNat : Int)) * 131)) + (w64 ((w64 (x34.toNat : Int)) * 1117)))) + (w64 ((w64 ((w64 (Ci.2 + 1)) - 1)) * 29)))) + (w64 (q41 * 53)))).tdiv 64))))) (rv_xor (a := (w64 ((w64 ((w64 ((w64 ((w64 (x24.toNat : Int)) * 131)) + (w64 ((w64 (x34.toNat : Int)) * 1117)))) + (w64 ((w64 ((w64 (Ci.2 + 1)) - 1)) * 29)))) + (w64 (q41 * 53))))) (b := (w64 ((w64 ((w64 ((w64 ((w64 ((w64 (x24.toNat : Int)) * 131)) + (w64 ((w64 (x34.toNat : Int)) * 1117)))) + (w64 ((w64 ((w64 (Ci.2 + 1)) - 1)) * 29)))) + (w64 (q41 * 53)))).tdiv 64))) rfl rfl) (sa (I (gxor (w64 ((w64 ((w64 ((w64 ((w64 (x24.toNat : Int)) * 131)) + (w64 ((w64 (x34.toNat : Int)) * 1117)))) + (w64 ((w64 ((w64 (Ci.2 + 1)) - 1)) * 29)))) + (w64 (q41 * 53)))) (w64 ((w64 ((w64 ((w64 ((w64 ((w64 (x24.toNat : Int)) * 131)) + (w64 ((w64 (x34.toNat : Int)) * 1117)))) + (w64 ((w64 ((w64 (Ci.2 + 1)) - 1)) * 29)))) + (w64 (q41 * 53)))).tdiv 64)))) rfl (w_end (q_then (c_seq (rg (sm (I (gxor (w64 ((w64 ((w64 ((w64 ((w64 (x24.toNat : Int)) * 131)) + (w64 ((w64 (x34.toNat : Int)) * 1117)))) + (w64 ((w64 ((w64 (Ci.2 + 1)) - 1)) * 29)))) + (w64 (q41 * 53)))) (w64 ((w64 ((w64 ((w64 ((w64 ((w64 (x24.toNat : Int)) * 131)) + (w64 ((w64 (x34.toNat : Int)) * 1117)))) + (w64 ((w64 ((w64 (Ci.2 + 1)) - 1)) * 29)))) + (w64 (q41 * 53)))).tdiv 64)))) rfl (sm (I Fg) rfl ?_)))))))
    revert h; refine br fun q45 hx46 h => ?_
    refine st (v := (I q45)) (rv_remG (a := (gxor (w64 ((w64 ((w64 ((w64 ((w64 (x24.toNat : Int)) * 131)) + (w64 ((w64 (x34.toNat : Int)) * 1117)))) + (w64 ((w64 ((w64 (Ci.2 + 1)) - 1)) * 29)))) + (w64 (q41 * 53)))) (w64 ((w64 ((w64 ((w64 ((w64 ((w64 (x24.toNat : Int)) * 131)) + (w64 ((w64 (x34.toNat : Int)) * 1117)))) + (w64 ((w64 ((w64 (Ci.2 + 1)) - 1)) * 29)))) + (w64 (q41 * 53)))).tdiv 64)))) (b := Fg) hx46 rfl rfl) (sa (I q45) rfl (w_end (q_then (c_ret ?_))))
    obtain rfl := sj h
    exact fin_ret (v := (I q45)) (results_ok Tryz.results34 (res_tmp (v := (I q45)) rfl res_nil) rfl) ⟨Fh, Fi, rfl, rfl⟩ (H.sel' [1, 0] rfl rfl)

theorem c_spec_reader_one {Ci : (List UInt8) × Int} {Fj : List Int} {Fh : Option Addr} {Fi : Nat} {Cj Ck Cl : Nat} {Cm Cn : List Value} {Fk : Option Addr} {Fl : Nat} {r : Int × ((List UInt8) × Int)} (h : M.spec_reader_one Ci Fj = some r) :
    Cal2 Tryz.prog 19 [(pt Ck Cl), (Sl Fk Fj Fl)] [Ch.bx Cj Ck Cl [(Sl Fh Ci.1 Fi), (I Ci.2)] Cm Cn, Ch.ro 0 (Sl Fh Ci.1 Fi) Ci.1, Ch.ro 0 (Sl Fk Fj Fl) Fj] (fun n0 v L => ∃ (az1 : Option Addr), ∃ (cz2 : Nat), v = (I r.1) ∧ L = [Ch.bx Cj Ck Cl [(Sl az1 r.2.1 cz2), (I r.2.2)] Cm Cn, Ch.ro 0 (Sl az1 r.2.1 cz2) r.2.1]) := by
 refine cal2 (n := 12) Tryz.func19 rfl rfl rfl rfl ?_
 intro S0 σ0 n0 hn0 H
 unfold M.spec_reader_one at h
 refine c_seq (rg (sa (I 0) rfl (w_end (q_then (c_seq (rg (sm (Sl Fk Fj Fl) rfl (sm (pt Ck Cl) rfl (sm (Sl Fk Fj Fl) rfl (st (v := (I (Fj.length : Int))) (rv_len Tryz.underlying25 rfl) ?_))))))))))
 revert h; refine br fun r1 hx2 h => ?_
 have hc3 := c_spec_reader_pick (Cj := Cj) (Ck := Ck) (Cl := Cl) (Cm := Cm) (Cn := Cn) (Fh := Fh) (Fi := Fi) hx2
 refine st_call (cx_call hc3 (ent_f hc3.fn rfl) hn0 (H.sel' [0, 1, 1, 2] rfl rfl : Hp S0 σ0 _ ([_, _] ++ _))) wn ?_
 rintro _ σ6 ⟨_, ⟨a4, c5, rfl, rfl⟩, H, -⟩
 replace H : Hp _ _ _ [_, _, _, _] := H
 revert h; refine br fun x7 hx8 h => ?_
 obtain ⟨b10, o11, hi9, -⟩ := (H.ro 3 rfl).ix hx8
 refine st (v := (pt b10 o11)) (rv_ix Tryz.underlying25 ti3 rfl rfl hi9) ?_
 have hc12 := ((H.ro 3 rfl).at hx8 hi9).int
 refine st (v := (I x7)) (rv_load1 Tryz.underlying3 rfl rfl hc12) (sa (I x7) rfl (w_end (q_then (c_ret ?_))))
 obtain rfl := sj h
 exact fin_ret (v := (I x7)) (results_ok Tryz.results19 (res_tmp (v := (I x7)) rfl res_nil) rfl) ⟨a4, c5, rfl, rfl⟩ (H.sel' [0, 1] rfl rfl)

theorem c_spec_copyInts {Av : List Int} {Aw : Option Addr} {Ax : Nat} {r : (List Int)} (h : M.spec_copyInts Av = some r) :
    Cal2 Tryz.prog 35 [(Sl Aw Av Ax)] [Ch.ro 0 (Sl Aw Av Ax) Av] (fun n0 v L => ∃ (az1 : Option Addr), ∃ (cz2 : Nat), v = (Sl az1 r cz2) ∧ L = [Ch.own n0 n0 (Sl az1 r cz2) r]) := by
 refine cal2 (n := 6) Tryz.func35 rfl rfl rfl rfl ?_
 intro S0 σ0 n0 hn0 H
 unfold M.spec_copyInts at h
 refine c_seq (rg (sa (.slice none 0 0) rfl (w_end (q_then (c_seq (rg ?_))))))
 refine st_ex (ex_buildSlice (el := n0) (xs := ([] : List Int)) (ps := []) (cs := []) H hn0 Tryz.underlying25 ti3 rfl rfl (by kernel_rfl) (.nil) rfl) wn ?_
 rintro _ σ2 ⟨b1, rfl, H, -⟩
 refine sm (Sl Aw Av Ax) rfl ?_
 revert h; refine br fun xs3 hx4 h => ?_
 refine st_ex (ex_append H (i := 0) rfl Tryz.underlying25 Tryz.underlying25 ti3 rfl rfl (by decide) ((H.ro 1 rfl).rd.sc) hx4 hn0 rfl rfl) wn ?_
 rintro _ σ7 ⟨a5, c6, rfl, H, -⟩
 refine sa (Sl a5 xs3 c6) rfl (w_end (q_then (c_ret ?_)))
 obtain rfl := sj h
 exact fin_ret (v := (Sl a5 xs3 c6)) (results_ok Tryz.results35 (res_tmp (v := (Sl a5 xs3 c6)) rfl res_nil) rfl) ⟨a5, c6, rfl, rfl⟩ (H.sel' [0] rfl rfl)

theorem c_spec_reader_spoil {Ci : (List UInt8) × Int} {Fj : List Int} {Bw : Int} {Fh : Option Addr} {Fi : Nat} {Cj Ck Cl : Nat} {Cm Cn : List Value} {Fk : Option Addr} {Fl : Nat} {r : (List Int) × ((List UInt8) × Int)} (h : M.spec_reader_spoil Ci Fj Bw = some r) :
    Cal2 Tryz.prog 45 [(pt Ck Cl), (Sl Fk Fj Fl), (I Bw)] [Ch.bx Cj Ck Cl [(Sl Fh Ci.1 Fi), (I Ci.2)] Cm Cn, Ch.ro 0 (Sl Fh Ci.1 Fi) Ci.1, Ch.ro 0 (Sl Fk Fj Fl) Fj] (fun n0 v L => ∃ (az1 : Option Addr), ∃ (cz2 : Nat), ∃ (az3 : Option Addr), ∃ (cz4 : Nat), v = (Sl az1 r.1 cz2) ∧ L = [Ch.own n0 n0 (Sl az1 r.1 cz2) r.1, Ch.bx Cj Ck Cl [(Sl az3 r.2.1 cz4), (I r.2.2)] Cm Cn, Ch.ro 0 (Sl az3 r.2.1 cz4) r.2.1]) := by
 refine cal2 (n := 41) Tryz.func45 rfl rfl rfl rfl ?_
 intro S0 σ0 n0 hn0 H
 unfold M.spec_reader_spoil at h
 refine c_seq (rg (sa (.slice none 0 0) rfl (w_end (q_then (c_seq (rg (sm (Sl Fk Fj Fl) rfl ?_)))))))
 revert h; refine br fun r1 hx2 h => ?_
 have hc3 := c_spec_copyInts (Aw := Fk) (Ax := Fl) hx2
 refine st_call (cx_call hc3 (ent_f hc3.fn rfl) hn0 (H.sel' [2, 0, 1, 2] rfl rfl : Hp S0 σ0 _ ([_] ++ _))) wn ?_
 rintro _ σ6 ⟨_, ⟨a4, c5, rfl, rfl⟩, H, -⟩
 replace H : Hp _ _ _ [_, _, _, _] := H
 refine sa (Sl a4 r1 c5) rfl (w_end (q_then (c_seq (c_seq (rg (sm (pt Ck Cl) rfl ?_))))))
 revert h; refine br fun r7 hx8 h => ?_
 have hc9 := c_spec_reader_pick (Cj := Cj) (Ck := Ck) (Cl := Cl) (Cm := Cm) (Cn := Cn) (Fh := Fh) (Fi := Fi) hx8
 refine st_call (cx_call hc9 (ent_f hc9.fn rfl) hn0 (H.sel' [1, 2, 0, 2, 3] rfl rfl : Hp S0 σ0 _ ([_, _] ++ _))) wn ?_
 rintro _ σ12 ⟨_, ⟨a10, c11, rfl, rfl⟩, H, -⟩
 replace H : Hp _ _ _ [_, _, _, _, _] := H
 refine w_end (q_then ?_)
 obtain ⟨o13, hj, h'⟩ := bind_some h
 clear h
 refine c_cut (fun e a w => e = .normal ∧ ∃ (ρ : Nat → Value) (σ : St) (aj1 : Option Addr) (cj2 : Nat) (aj3 : Option Addr) (cj4 : Nat), a = fr 41 (updL ρ [(0, (pt Ck Cl)), (7, (Sl aj3 o13.2 cj4))]) ∧ w = σ.w ∧ Hp S0 σ0 σ [Ch.bx Cj Ck Cl [(Sl aj1 o13.1.1 cj2), (I o13.1.2)] Cm Cn, Ch.ro 0 (Sl aj1 o13.1.1 cj2) o13.1.1, Ch.own n0 n0 (Sl aj3 o13.2 cj4) o13.2]) ?_ ?_
 ·clear h'
  rename _ = some o13 => h
  refine c_blk (c_seq (rg (st (v := (B (r7.1 == 0))) (rv_eql (a := r7.1) (b := 0) rfl rfl) (sa (B (r7.1 == 0)) rfl (w_end (q_then ?_))))))
  refine cd_cond (r7.1 == 0) rfl (fun hb14 => ?_) (fun hb14 => ?_)
  ·replace h := bif_t hb14 h
   refine rg (sm (Sl a4 r1 c5) rfl (sm (I Bw) rfl ?_))
   refine st_ex (ex_buildSlice (el := n0) (xs := ([Bw] : List Int)) (ps := [(0, (I Bw))]) (cs := [(I Bw)]) H hn0 Tryz.underlying25 ti3 rfl rfl (by kernel_rfl) (.cons (c := [(I Bw)]) rfl (.nil)) rfl) wn ?_
   rintro _ σ16 ⟨b15, rfl, H, -⟩
   revert h; refine br fun xs17 hx18 h => ?_
   refine st_ex (ex_append H (i := 3) rfl Tryz.underlying25 Tryz.underlying25 ti3 rfl rfl (by decide) (H.own 0 rfl).rd hx18 hn0 rfl rfl) wn ?_
   rintro _ σ21 ⟨a19, c20, rfl, H, -⟩
   refine sa (Sl a19 xs17 c20) rfl (w_end (q_blk ?_))
   obtain rfl := sj h
   exact ⟨rfl, _, σ21, a10, c11, a19, c20, fr_join ⟨rfl, rfl, trivial⟩, rfl, H.sel' [2, 3, 0] rfl rfl⟩
  ·replace h := bif_f hb14 h
   refine c_seq (rg (st (v := (B (r7.1 == 1))) (rv_eql (a := r7.1) (b := 1) rfl rfl) (sa (B (r7.1 == 1)) rfl (w_end (q_then ?_)))))
   refine cd_cond (r7.1 == 1) rfl (fun hb22 => ?_) (fun hb22 => ?_)
   ·replace h := bif_t hb22 h
    refine c_seq (rg (sm (Sl a4 r1 c5) rfl (st (v := (I (r1.length : Int))) (rv_len Tryz.underlying25 rfl) (st (v := (B (decide (0 < (r1.length : Int))))) (rv_gtr (a := (r1.length : Int)) (b := 0) rfl rfl) (w_end (q_then ?_))))))
    refine cd_cond (decide (0 < (r1.length : Int))) rfl (fun hb23 => ?_) (fun hb23 => ?_)
    ·replace h := bif_t hb23 h
     refine rg (sm (Sl a4 r1 c5) rfl ?_)
     revert h; refine br fun xs24 hx25 h => ?_
     obtain ⟨a26, c27, hs28, hR29, hb30⟩ := (H.own 2 rfl).slice hx25
     replace H := (H.front (i := 2) rfl).turn (d := Ch.own n0 n0 (Sl a26 xs24 c27) xs24) (fun _ => hR29) hb30; clear hR29 hb30
     refine st (v := (Sl a26 xs24 c27)) (rv_slice_l Tryz.underlying25 ti3 hs28 rfl rfl) (sa (Sl a26 xs24 c27) rfl (w_end (q_blk ?_)))
     obtain rfl := sj h
     exact ⟨rfl, _, σ12, a10, c11, a26, c27, fr_join ⟨rfl, rfl, trivial⟩, rfl, H.sel' [1, 2, 0] rfl rfl⟩
    ·replace h := bif_f hb23 h
     refine c_skip (q_blk ?_)
     obtain rfl := sj h
     exact ⟨rfl, _, σ12, a10, c11, a4, c5, fr_join ⟨rfl, rfl, trivial⟩, rfl, H.sel' [0, 1, 2] rfl rfl⟩
   ·replace h := bif_f hb22 h
    refine c_seq (rg (st (v := (B (r7.1 == 2))) (rv_eql (a := r7.1) (b := 2) rfl rfl) (sa (B (r7.1 == 2)) rfl (w_end (q_then ?_)))))
    refine cd_cond (r7.1 == 2) rfl (fun hb31 => ?_) (fun hb31 => ?_)
    ·replace h := bif_t hb31 h
     refine c_seq (rg (sm (Sl a4 r1 c5) rfl (st (v := (I (r1.length : Int))) (rv_len Tryz.underlying25 rfl) (st (v := (B (decide (0 < (r1.length : Int))))) (rv_gtr (a := (r1.length : Int)) (b := 0) rfl rfl) (w_end (q_then ?_))))))
     refine cd_cond (decide (0 < (r1.length : Int))) rfl (fun hb32 => ?_) (fun hb32 => ?_)
     ·replace h := bif_t hb32 h
      refine rg (sm (Sl a4 r1 c5) rfl (sm (pt Ck Cl) rfl (sm (Sl a4 r1 c5) rfl (st (v := (I (r1.length : Int))) (rv_len Tryz.underlying25 rfl) ?_))))
      revert h; refine br fun r33 hx34 h => ?_
      have hc35 := c_spec_reader_pick (Cj := Cj) (Ck := Ck) (Cl := Cl) (Cm := Cm) (Cn := Cn) (Fh := a10) (Fi := c11) hx34
      refine st_call (cx_call hc35 (ent_f hc35.fn rfl) hn0 (H.sel' [0, 1, 1, 2, 3, 4] rfl rfl : Hp S0 σ0 _ ([_, _] ++ _))) wn ?_
      rintro _ σ38 ⟨_, ⟨a36, c37, rfl, rfl⟩, H, -⟩
      replace H : Hp _ _ _ [_, _, _, _, _, _] := H
      refine sm (pt Ck Cl) rfl (sm (I Bw) rfl ?_)
      refine st_ex (ex_buildSlice (el := n0) (xs := ([-1, Bw, 0, 1] : List Int)) (ps := [(0, (I (-1))), (1, (I Bw)), (2, (I 0)), (3, (I 1))]) (cs := [(I (-1)), (I Bw), (I 0), (I 1)]) H hn0 Tryz.underlying25 ti3 rfl rfl (by kernel_rfl) (.cons (c := [(I (-1))]) rfl (.cons (c := [(I Bw)]) rfl (.cons (c := [(I 0)]) rfl (.cons (c := [(I 1)]) rfl (.nil))))) rfl) wn ?_
      rintro _ σ40 ⟨b39, rfl, H, -⟩
      obtain ⟨σ41, hw42, H, -⟩ := H.pub 0 rfl (Nat.le_refl _)
      rw [← hw42]; clear hw42
      replace H := H.roLow 0 0 rfl (Nat.zero_le _)
      revert h; refine br fun r43 hx44 h => ?_
      have hc45 := c_spec_reader_one (Cj := Cj) (Ck := Ck) (Cl := Cl) (Cm := Cm) (Cn := Cn) (Fh := a36) (Fi := c37) (Fk := (some ⟨b39, 0, none⟩)) (Fl := 4) hx44
      refine st_call (cx_call hc45 (ent_f hc45.fn rfl) hn0 (H.sel' [2, 3, 0, 0, 1, 3, 4, 5, 6, 7] rfl rfl : Hp S0 σ0 _ ([_, _, _] ++ _))) wn ?_
      rintro _ σ48 ⟨_, ⟨a46, c47, rfl, rfl⟩, H, -⟩
      replace H : Hp _ _ _ [_, _, _, _, _, _, _, _, _] := H
      replace H : Hp S0 σ0 σ48 [Ch.bx Cj Ck Cl [(Sl a46 r43.2.1 c47), (I r43.2.2)] Cm Cn, Ch.ro 0 (Sl a46 r43.2.1 c47) r43.2.1, Ch.own n0 n0 (Sl a4 r1 c5) r1] := H.sel' [0, 1, 6] rfl rfl
      revert h; refine br fun x49 hx50 h => ?_
      obtain ⟨b52, o53, hi51, -⟩ := (H.own 2 rfl).ix hx50
      refine st (v := (pt b52 o53)) (rv_ix Tryz.underlying25 ti3 rfl rfl hi51) ?_
      refine st_exS (ex_store_own (e' := r43.1) (vs := [(I r43.1)]) (k := 0) H (i := 2) rfl ti3 hx50 hi51 rfl rfl rfl rfl rfl (Nat.le_of_ble_eq_true rfl) (by simp [plain]) (by rintro _ rfl; exact rfl)) wn ?_
      rintro σ54 ⟨H, -⟩
      have hsl : (Sl a4 r1 c5) = (Sl a4 (r1.set r33.1.toNat r43.1) c5) := sl_len List.length_set.symm
      rw [hsl]; rw [hsl] at H; clear hsl
      refine w_end (q_blk ?_)
      obtain rfl := sj h
      exact ⟨rfl, _, σ54, a46, c47, a4, c5, fr_join ⟨rfl, rfl, trivial⟩, rfl, H.sel' [1, 2, 0] rfl rfl⟩
     ·replace h := bif_f hb32 h
      refine c_skip (q_blk ?_)
      obtain rfl := sj h
      exact ⟨rfl, _, σ12, a10, c11, a4, c5, fr_join ⟨rfl, rfl, trivial⟩, rfl, H.sel' [0, 1, 2] rfl rfl⟩
    ·replace h := bif_f hb31 h
     refine c_skip (q_blk ?_)
     obtain rfl := sj h
     exact ⟨rfl, _, σ12, a10, c11, a4, c5, fr_join ⟨rfl, rfl, trivial⟩, rfl, H.sel' [0, 1, 2] rfl rfl⟩
 ·clear hj
  have h := h'
  clear h' H
  rintro e a w ⟨rfl, ρ, σ55, a56, c57, a58, c59, rfl, rfl, H⟩
  refine q_then (c_seq (rg (sm (Sl a58 o13.2 c59) rfl (sa (Sl a58 o13.2 c59) rfl (w_end (q_then (c_ret ?_)))))))
  obtain rfl := sj h
  exact fin_ret (v := (Sl a58 o13.2 c59)) (results_ok Tryz.results45 (res_tmp (v := (Sl a58 o13.2 c59)) rfl res_nil) rfl) ⟨a58, c59, a56, c57, rfl, rfl⟩ (H.sel' [2, 0, 1] rfl rfl)

theorem c_spec_someCoord {Ci : (List UInt8) × Int} {Fh : Option Addr} {Fi : Nat} {Cj Ck Cl : Nat} {Cm Cn : List Value} {r : Int × ((List UInt8) × Int)} (h : M.spec_someCoord Ci = some r) :
    Cal2 Tryz.prog 70 [(pt Ck Cl)] [Ch.bx Cj Ck Cl [(Sl Fh Ci.1 Fi), (I Ci.2)] Cm Cn, Ch.ro 0 (Sl Fh Ci.1 Fi) Ci.1] (fun n0 v L => ∃ (az1 : Option Addr), ∃ (cz2 : Nat), v = (I r.1) ∧ L = [Ch.bx Cj Ck Cl [(Sl az1 r.2.1 cz2), (I r.2.2)] Cm Cn, Ch.ro 0 (Sl az1 r.2.1 cz2) r.2.1]) := by
 refine cal2 (n := 12) Tryz.func70 rfl rfl rfl rfl ?_
 intro S0 σ0 n0 hn0 H
 unfold M.spec_someCoord at h
 refine c_seq (rg (sa (I 0) rfl (w_end (q_then (c_seq (rg (sm (pt Ck Cl) rfl (sm (pt Ck Cl) rfl ?_))))))))
 revert h; refine br fun r1 hx2 h => ?_
 have hc3 := c_spec_reader_pick (Cj := Cj) (Ck := Ck) (Cl := Cl) (Cm := Cm) (Cn := Cn) (Fh := Fh) (Fi := Fi) hx2
 refine st_call (cx_call hc3 (ent_f hc3.fn rfl) hn0 (H.sel' [0, 1, 1] rfl rfl : Hp S0 σ0 _ ([_, _] ++ _))) wn ?_
 rintro _ σ6 ⟨_, ⟨a4, c5, rfl, rfl⟩, H, -⟩
 replace H : Hp _ _ _ [_, _, _] := H
 refine st (v := (I (w64 (r1.1 - 100)))) (rv_sub (a := r1.1) (b := 100) rfl rfl) (sm (pt Ck Cl) rfl ?_)
 revert h; refine br fun r7 hx8 h => ?_
 have hc9 := c_spec_reader_pick (Cj := Cj) (Ck := Ck) (Cl := Cl) (Cm := Cm) (Cn := Cn) (Fh := a4) (Fi := c5) hx8
 refine st_call (cx_call hc9 (ent_f hc9.fn rfl) hn0 (H.sel' [0, 1, 1, 2] rfl rfl : Hp S0 σ0 _ ([_, _] ++ _))) wn ?_
 rintro _ σ12 ⟨_, ⟨a10, c11, rfl, rfl⟩, H, -⟩
 replace H : Hp _ _ _ [_, _, _, _] := H
 refine st (v := (I (w64 (r7.1 - 10)))) (rv_sub (a := r7.1) (b := 10) rfl rfl) ?_
 refine st_ex (ex_buildSlice (el := n0) (xs := ([0, 1, -1, 5, -7, 10, 3, 100, -100, w64 (r1.1 - 100), w64 (r7.1 - 10)] : List Int)) (ps := [(0, (I 0)), (1, (I 1)), (2, (I (-1))), (3, (I 5)), (4, (I (-7))), (5, (I 10)), (6, (I 3)), (7, (I 100)), (8, (I (-100))), (9, (I (w64 (r1.1 - 100)))), (10, (I (w64 (r7.1 - 10))))]) (cs := [(I 0), (I 1), (I (-1)), (I 5), (I (-7)), (I 10), (I 3), (I 100), (I (-100)), (I (w64 (r1.1 - 100))), (I (w64 (r7.1 - 10)))]) H hn0 Tryz.underlying25 ti3 rfl rfl (by kernel_rfl) (.cons (c := [(I 0)]) rfl (.cons (c := [(I 1)]) rfl (.cons (c := [(I (-1))]) rfl (.cons (c := [(I 5)]) rfl (.cons (c := [(I (-7))]) rfl (.cons (c := [(I 10)]) rfl (.cons (c := [(I 3)]) rfl (.cons (c := [(I 100)]) rfl (.cons (c := [(I (-100))]) rfl (.cons (c := [(I (w64 (r1.1 - 100)))]) rfl (.cons (c := [(I (w64 (r7.1 - 10)))]) rfl (.nil)))))))))))) rfl) wn ?_
 rintro _ σ14 ⟨b13, rfl, H, -⟩
 obtain ⟨σ15, hw16, H, -⟩ := H.pub 0 rfl (Nat.le_refl _)
 rw [← hw16]; clear hw16
 replace H := H.roLow 0 0 rfl (Nat.zero_le _)
 revert h; refine br fun r17 hx18 h => ?_
 have hc19 := c_spec_reader_one (Cj := Cj) (Ck := Ck) (Cl := Cl) (Cm := Cm) (Cn := Cn) (Fh := a10) (Fi := c11) (Fk := (some ⟨b13, 0, none⟩)) (Fl := 11) hx18
 refine st_call (cx_call hc19 (ent_f hc19.fn rfl) hn0 (H.sel' [2, 3, 0, 0, 1, 3, 4, 5] rfl rfl : Hp S0 σ0 _ ([_, _, _] ++ _))) wn ?_
 rintro _ σ22 ⟨_, ⟨a20, c21, rfl, rfl⟩, H, -⟩
 replace H : Hp _ _ _ [_, _, _, _, _, _, _] := H
 refine sa (I r17.1) rfl (w_end (q_then (c_ret ?_)))
 obtain rfl := sj h
 exact fin_ret (v := (I r17.1)) (results_ok Tryz.results70 (res_tmp (v := (I r17.1)) rfl res_nil) rfl) ⟨a20, c21, rfl, rfl⟩ (H.sel' [0, 1] rfl rfl)

theorem c_spec_someVector {Ci : (List UInt8) × Int} {Fh : Option Addr} {Fi : Nat} {Cj Ck Cl : Nat} {Cm Cn : List Value} {r : (List Int) × ((List UInt8) × Int)} (h : M.spec_someVector Ci = some r) :
    Cal2 Tryz.prog 46 [(pt Ck Cl)] [Ch.bx Cj Ck Cl [(Sl Fh Ci.1 Fi), (I Ci.2)] Cm Cn, Ch.ro 0 (Sl Fh Ci.1 Fi) Ci.1] (fun n0 v L => ∃ (az1 : Option Addr), ∃ (cz2 : Nat), ∃ (az3 : Option Addr), ∃ (cz4 : Nat), v = (Sl az1 r.1 cz2) ∧ L = [Ch.own n0 n0 (Sl az1 r.1 cz2) r.1, Ch.bx Cj Ck Cl [(Sl az3 r.2.1 cz4), (I r.2.2)] Cm Cn, Ch.ro 0 (Sl az3 r.2.1 cz4) r.2.1]) := by
 refine cal2 (n := 16) Tryz.func46 rfl rfl rfl rfl ?_
 intro S0 σ0 n0 hn0 H
 unfold M.spec_someVector at h
 refine c_seq (rg (sa (.slice none 0 0) rfl (w_end (q_then (c_seq (rg ?_))))))
 refine st_ex (ex_buildSlice (el := n0) (xs := ([] : List Int)) (ps := []) (cs := []) H hn0 Tryz.underlying25 ti3 rfl rfl (by kernel_rfl) (.nil) rfl) wn ?_
 rintro _ σ2 ⟨b1, rfl, H, -⟩
 refine sa (Sl (some ⟨b1, 0, none⟩) ([] : List Int) 0) rfl (w_end (q_then (c_seq (c_seq (rg (sa (I 0) rfl (w_end (q_then ?_))))))))
 obtain ⟨o3, hj, h'⟩ := bind_some h
 clear h
 refine c_cut (fun e a w => e = .normal ∧ ∃ (ρ : Nat → Value) (σ : St) (aj1 : Option Addr) (cj2 : Nat) (aj3 : Option Addr) (cj4 : Nat), a = fr 16 (updL ρ [(0, (pt Ck Cl)), (3, (Sl aj3 o3.2 cj4))]) ∧ w = σ.w ∧ Hp S0 σ0 σ [Ch.bx Cj Ck Cl [(Sl aj1 o3.1.1 cj2), (I o3.1.2)] Cm Cn, Ch.ro 0 (Sl aj1 o3.1.1 cj2) o3.1.1, Ch.own n0 n0 (Sl aj3 o3.2 cj4) o3.2]) ?_ ?_
 ·clear h'
  rename _ = some o3 => h
  refine c_blk (wp_loopM _ h (fun s4 a w => ∃ (ρ : Nat → Value) (σ : St) (aj1 : Option Addr) (cj2 : Nat) (aj3 : Option Addr) (cj4 : Nat), a = fr 16 (updL ρ [(0, (pt Ck Cl)), (3, (Sl aj3 s4.2.1 cj4)), (4, (I s4.2.2))]) ∧ w = σ.w ∧ Hp S0 σ0 σ [Ch.bx Cj Ck Cl [(Sl aj1 s4.1.1 cj2), (I s4.1.2)] Cm Cn, Ch.ro 0 (Sl aj1 s4.1.1 cj2) s4.1.1, Ch.own n0 n0 (Sl aj3 s4.2.1 cj4) s4.2.1]) ⟨_, σ2, Fh, Fi, (some ⟨b1, 0, none⟩), 0, fr_join ⟨rfl, rfl, rfl, trivial⟩, rfl, H.sel' [1, 2, 0] rfl rfl⟩ ?_)
  clear h H
  rintro s4 a w o ⟨ρ, σ5, a6, c7, a8, c9, rfl, rfl, H⟩ h hres
  refine c_seq (c_seq (rg (sm (I s4.2.2) rfl (st (v := (B (decide (s4.2.2 < 4)))) (rv_lss (a := s4.2.2) (b := 4) rfl rfl) (w_end (q_then ?_))))))
  refine cd_cond (decide (s4.2.2 < 4)) rfl (fun hb10 => ?_) (fun hb10 => ?_)
  ·replace h := bif_t hb10 h
   refine c_skip (q_then (c_seq (c_blk (rg (sm (Sl a8 s4.2.1 c9) rfl (sm (pt Ck Cl) rfl ?_))))))
   revert h; refine br fun r11 hx12 h => ?_
   have hc13 := c_spec_someCoord (Cj := Cj) (Ck := Ck) (Cl := Cl) (Cm := Cm) (Cn := Cn) (Fh := a6) (Fi := c7) hx12
   refine st_call (cx_call hc13 (ent_f hc13.fn rfl) hn0 (H.sel' [0, 1, 1, 2] rfl rfl : Hp S0 σ0 _ ([_, _] ++ _))) wn ?_
   rintro _ σ16 ⟨_, ⟨a14, c15, rfl, rfl⟩, H, -⟩
   replace H : Hp _ _ _ [_, _, _, _] := H
   refine st_ex (ex_buildSlice (el := n0) (xs := ([r11.1] : List Int)) (ps := [(0, (I r11.1))]) (cs := [(I r11.1)]) H hn0 Tryz.underlying25 ti3 rfl rfl (by kernel_rfl) (.cons (c := [(I r11.1)]) rfl (.nil)) rfl) wn ?_
   rintro _ σ18 ⟨b17, rfl, H, -⟩
   revert h; refine br fun xs19 hx20 h => ?_
   refine st_ex (ex_append H (i := 4) rfl Tryz.underlying25 Tryz.underlying25 ti3 rfl rfl (by decide) (H.own 0 rfl).rd hx20 hn0 rfl rfl) wn ?_
   rintro _ σ23 ⟨a21, c22, rfl, H, -⟩
   refine sa (Sl a21 xs19 c22) rfl (w_end (q_blk (q_then (rg (sm (I s4.2.2) rfl (st (v := (I (w64 (s4.2.2 + 1)))) (rv_add (a := s4.2.2) (b := 1) rfl rfl) (sa (I (w64 (s4.2.2 + 1))) rfl (w_end (q_then ?_)))))))))
   obtain rfl := sj h
   exact ⟨_, rfl, _, σ23, a14, c15, a21, c22, fr_join ⟨rfl, rfl, rfl, trivial⟩, rfl, H.sel' [2, 3, 0] rfl rfl⟩
  ·replace h := bif_f hb10 h
   refine c_exit (q_then_x (q_then_x (q_blk_hit ?_)))
   obtain rfl := sj h
   obtain rfl := hres _ rfl
   exact ⟨rfl, _, σ5, a6, c7, a8, c9, fr_join ⟨rfl, rfl, trivial⟩, rfl, H.sel' [0, 1, 2] rfl rfl⟩
 ·clear hj
  have h := h'
  clear h' H
  rintro e a w ⟨rfl, ρ, σ24, a25, c26, a27, c28, rfl, rfl, H⟩
  refine q_then (c_seq (rg (sm (Sl a27 o3.2 c28) rfl (sa (Sl a27 o3.2 c28) rfl (w_end (q_then (c_ret ?_)))))))
  obtain rfl := sj h
  exact fin_ret (v := (Sl a27 o3.2 c28)) (results_ok Tryz.results46 (res_tmp (v := (Sl a27 o3.2 c28)) rfl res_nil) rfl) ⟨a27, c28, a25, c26, rfl, rfl⟩ (H.sel' [2, 0, 1] rfl rfl)

theorem c_spec_anyVector {Ci : (List UInt8) × Int} {Fh : Option Addr} {Fi : Nat} {Cj Ck Cl : Nat} {Cm Cn : List Value} {r : (List Int) × ((List UInt8) × Int)} (h : M.spec_anyVector Ci = some r) :
    Cal2 Tryz.prog 18 [(pt Ck Cl)] [Ch.bx Cj Ck Cl [(Sl Fh Ci.1 Fi), (I Ci.2)] Cm Cn, Ch.ro 0 (Sl Fh Ci.1 Fi) Ci.1] (fun n0 v L => ∃ (az1 : Option Addr), ∃ (cz2 : Nat), ∃ (az3 : Option Addr), ∃ (cz4 : Nat), v = (Sl az1 r.1 cz2) ∧ L = [Ch.own n0 n0 (Sl az1 r.1 cz2) r.1, Ch.bx Cj Ck Cl [(Sl az3 r.2.1 cz4), (I r.2.2)] Cm Cn, Ch.ro 0 (Sl az3 r.2.1 cz4) r.2.1]) := by
 refine cal2 (n := 12) Tryz.func18 rfl rfl rfl rfl ?_
 intro S0 σ0 n0 hn0 H
 unfold M.spec_anyVector at h
 refine c_seq (rg (sa (.slice none 0 0) rfl (w_end (q_then (c_seq (c_seq (rg (sm (pt Ck Cl) rfl ?_))))))))
 revert h; refine br fun r1 hx2 h => ?_
 have hc3 := c_spec_reader_pick (Cj := Cj) (Ck := Ck) (Cl := Cl) (Cm := Cm) (Cn := Cn) (Fh := Fh) (Fi := Fi) hx2
 refine st_call (cx_call hc3 (ent_f hc3.fn rfl) hn0 (H.sel' [0, 1, 1] rfl rfl : Hp S0 σ0 _ ([_, _] ++ _))) wn ?_
 rintro _ σ6 ⟨_, ⟨a4, c5, rfl, rfl⟩, H, -⟩
 replace H : Hp _ _ _ [_, _, _] := H
 refine st (v := (B (r1.1 == 0))) (rv_eql (a := r1.1) (b := 0) rfl rfl) (w_end (q_then ?_))
 refine cd_cond (r1.1 == 0) rfl (fun hb7 => ?_) (fun hb7 => ?_)
 ·replace h := bif_t hb7 h
  refine c_seq (rg (sm (pt Ck Cl) rfl (sm (pt Ck Cl) rfl ?_)))
  revert h; refine br fun r8 hx9 h => ?_
  have hc10 := c_spec_someVector (Cj := Cj) (Ck := Ck) (Cl := Cl) (Cm := Cm) (Cn := Cn) (Fh := a4) (Fi := c5) hx9
  refine st_call (cx_call hc10 (ent_f hc10.fn rfl) hn0 (H.sel' [0, 1, 1, 2] rfl rfl : Hp S0 σ0 _ ([_, _] ++ _))) wn ?_
  rintro _ σ15 ⟨_, ⟨a11, c12, a13, c14, rfl, rfl⟩, H, -⟩
  replace H : Hp _ _ _ [_, _, _, _, _] := H
  obtain ⟨σ16, hw17, H, -⟩ := H.pub 0 rfl (Nat.le_refl _)
  rw [← hw17]; clear hw17
  replace H := H.roLow 0 0 rfl (Nat.zero_le _)
  revert h; refine br fun r18 hx19 h => ?_
  have hc20 := c_spec_reader_spoil (Cj := Cj) (Ck := Ck) (Cl := Cl) (Cm := Cm) (Cn := Cn) (Fh := a13) (Fi := c14) (Fk := a11) (Fl := c12) hx19
  refine st_call (cx_call hc20 (ent_f hc20.fn rfl) hn0 (H.sel' [2, 3, 0, 0, 1, 3, 4, 5] rfl rfl : Hp S0 σ0 _ ([_, _, _] ++ _))) wn ?_
  rintro _ σ25 ⟨_, ⟨a21, c22, a23, c24, rfl, rfl⟩, H, -⟩
  replace H : Hp _ _ _ [_, _, _, _, _, _, _, _] := H
  replace H : Hp S0 σ0 σ25 [Ch.own n0 n0 (Sl a21 r18.1 c22) r18.1, Ch.bx Cj Ck Cl [(Sl a23 r18.2.1 c24), (I r18.2.2)] Cm Cn, Ch.ro 0 (Sl a23 r18.2.1 c24) r18.2.1] := H.sel' [0, 1, 2] rfl rfl
  refine sa (Sl a21 r18.1 c22) rfl (w_end (q_then (c_ret (q_then_r ?_))))
  obtain rfl := sj h
  exact fin_ret (v := (Sl a21 r18.1 c22)) (results_ok Tryz.results18 (res_tmp (v := (Sl a21 r18.1 c22)) rfl res_nil) rfl) ⟨a21, c22, a23, c24, rfl, rfl⟩ (H.sel' [0, 1, 2] rfl rfl)
 ·replace h := bif_f hb7 h
  refine c_skip (q_then (c_seq (rg (sm (pt Ck Cl) rfl ?_))))
  revert h; refine br fun r26 hx27 h => ?_
  have hc28 := c_spec_someVector (Cj := Cj) (Ck := Ck) (Cl := Cl) (Cm := Cm) (Cn := Cn) (Fh := a4) (Fi := c5) hx27
  refine st_call (cx_call hc28 (ent_f hc28.fn rfl) hn0 (H.sel' [0, 1, 1, 2] rfl rfl : Hp S0 σ0 _ ([_, _] ++ _))) wn ?_
  rintro _ σ33 ⟨_, ⟨a29, c30, a31, c32, rfl, rfl⟩, H, -⟩
  replace H : Hp _ _ _ [_, _, _, _, _] := H
  refine sa (Sl a29 r26.1 c30) rfl (w_end (q_then (c_ret ?_)))
  obtain rfl := sj h
  exact fin_ret (v := (Sl a29 r26.1 c30)) (results_ok Tryz.results18 (res_tmp (v := (Sl a29 r26.1 c30)) rfl res_nil) rfl) ⟨a29, c30, a31, c32, rfl, rfl⟩ (H.sel' [0, 1, 2] rfl rfl)

theorem c_spec_inRange {By : Int} {Fm : Int} {Fn : Int}  {r : Bool} (h : M.spec_inRange By Fm Fn = some r) :
    Cal2 Tryz.prog 27 [(I By), (I Fm), (I Fn)] [] (fun n0 v L => v = (B r) ∧ L = []) := by
 refine cal2 (n := 15) Tryz.func27 rfl rfl rfl rfl ?_
 intro S0 σ0 n0 hn0 H
 unfold M.spec_inRange at h
 refine c_seq (rg (sa (B false) rfl (w_end (q_then (c_seq (rg (sm (I Fm) rfl (sm (I By) rfl (st (v := (B (decide (Fm ≤ By)))) (rv_leq (a := Fm) (b := By) rfl rfl) (sm (B (decide (Fm ≤ By))) rfl ?_))))))))))
 rcases Bool.eq_false_or_eq_true (decide (Fm ≤ By)) with hb1 | hb1
 ·replace h := bif_t hb1 h
  refine st_g (v := (I By)) (congrArg some hb1) (rv_move rfl) (st_g (v := (I Fn)) (congrArg some hb1) (rv_move rfl) (st_g (v := (B (decide (By ≤ Fn)))) (congrArg some hb1) (rv_leq (a := By) (b := Fn) rfl rfl) (st (v := (B (decide (By ≤ Fn)))) (rv_pick_t (congrArg B hb1) rfl) (sa (B (decide (By ≤ Fn))) rfl (w_end (q_then (c_ret ?_)))))))
  obtain rfl := sj h
  exact fin_ret (v := (B (decide (By ≤ Fn)))) (results_ok Tryz.results27 (res_tmp (v := (B (decide (By ≤ Fn)))) rfl res_nil) rfl) ⟨rfl, rfl⟩ (H.sel' [] rfl rfl)
 ·replace h := bif_f hb1 h
  refine st_skip (congrArg some hb1) (st_skip (congrArg some hb1) (st_skip (congrArg some hb1) (st (v := (B false)) (rv_pick_f (congrArg B hb1) rfl) (sa (B false) rfl (w_end (q_then (c_ret ?_)))))))
  obtain rfl := sj h
  exact fin_ret (v := (B false)) (results_ok Tryz.results27 (res_tmp (v := (B false)) rfl res_nil) rfl) ⟨rfl, rfl⟩ (H.sel' [] rfl rfl)

theorem c_spec_allIn {Av : List Int} {Fm : Int} {Fn : Int} {Aw : Option Addr} {Ax : Nat} {r : Bool} (h : M.spec_allIn Av Fm Fn = some r) :
    Cal2 Tryz.prog 79 [(Sl Aw Av Ax), (I Fm), (I Fn)] [Ch.ro 0 (Sl Aw Av Ax) Av] (fun n0 v L => v = (B r) ∧ L = []) := by
 refine cal2 (n := 22) Tryz.func79 rfl rfl rfl rfl ?_
 intro S0 σ0 n0 hn0 H
 unfold M.spec_allIn at h
 refine c_seq (rg (sa (B false) rfl (w_end (q_then (c_seq (c_seq (rg (sa (I 0) rfl (w_end (q_then ?_))))))))))
 obtain ⟨o1, hj, h'⟩ := bind_some h
 clear h
 refine c_cut (fun e a w => (∃ t, o1 = (.inl t) ∧ e = .normal ∧ ∃ (ρ : Nat → Value) (σ : St), a = fr 22 (updL ρ []) ∧ w = σ.w ∧ Hp S0 σ0 σ []) ∨ (∃ t, o1 = (.inr t) ∧ e = .ret ∧ ∃ (ρ : Nat → Value) (σ : St), a = fr 22 (updL ρ [(6, (B t))]) ∧ w = σ.w ∧ Hp S0 σ0 σ [])) ?_ ?_
 ·clear h'
  rename _ = some o1 => h
  refine c_blk (wp_loopM _ h (fun s2 a w => ∃ (ρ : Nat → Value) (σ : St), a = fr 22 (updL ρ [(0, (Sl Aw Av Ax)), (1, (I Fm)), (2, (I Fn)), (7, (I s2))]) ∧ w = σ.w ∧ Hp S0 σ0 σ [Ch.ro 0 (Sl Aw Av Ax) Av]) ⟨_, σ0, fr_join ⟨rfl, rfl, rfl, rfl, trivial⟩, rfl, H.sel' [0] rfl rfl⟩ ?_)
  clear h H
  rintro s2 a w o ⟨ρ, σ3, rfl, rfl, H⟩ h hres
  refine c_seq (c_seq (rg (sm (I s2) rfl (sm (Sl Aw Av Ax) rfl (st (v := (I (Av.length : Int))) (rv_len Tryz.underlying25 rfl) (st (v := (B (decide (s2 < (Av.length : Int))))) (rv_lss (a := s2) (b := (Av.length : Int)) rfl rfl) (w_end (q_then ?_))))))))
  refine cd_cond (decide (s2 < (Av.length : Int))) rfl (fun hb4 => ?_) (fun hb4 => ?_)
  ·replace h := bif_t hb4 h
   refine c_skip (q_then (c_seq (c_blk (c_seq (rg (sm (Sl Aw Av Ax) rfl (sm (I s2) rfl ?_)))))))
   revert h; refine br fun x5 hx6 h => ?_
   obtain ⟨b8, o9, hi7, -⟩ := (H.ro 0 rfl).ix hx6
   refine st (v := (pt b8 o9)) (rv_ix Tryz.underlying25 ti3 rfl rfl hi7) ?_
   have hc10 := ((H.ro 0 rfl).at hx6 hi7).int
   refine st (v := (I x5)) (rv_load1 Tryz.underlying3 rfl rfl hc10) (sm (I Fm) rfl (sm (I Fn) rfl ?_))
   revert h; refine br fun r11 hx12 h => ?_
   have hc13 := c_spec_inRange hx12
   refine st_call (cx_call hc13 (ent_f hc13.fn rfl) hn0 (H.sel' [0] rfl rfl : Hp S0 σ0 _ ([] ++ _))) wn ?_
   rintro _ σ14 ⟨_, ⟨rfl, rfl⟩, H, -⟩
   replace H : Hp _ _ _ [_] := H
   refine st (v := (B (!r11))) (rv_not rfl) (w_end (q_then ?_))
   refine cd_cond (!r11) rfl (fun hb15 => ?_) (fun hb15 => ?_)
   ·replace h := bif_t hb15 h
    refine c_seq (rg (sa (B false) rfl (w_end (q_then (c_ret (q_blk_r (q_then_r (q_then_r (q_blk_r ?_)))))))))
    obtain rfl := sj h
    obtain rfl := hres _ rfl
    exact .inr (⟨_, rfl, rfl, _, σ14, fr_join ⟨rfl, trivial⟩, rfl, H.sel' [] rfl rfl⟩)
   ·replace h := bif_f hb15 h
    refine c_skip (q_blk (q_then (rg (sm (I s2) rfl (st (v := (I (w64 (s2 + 1)))) (rv_add (a := s2) (b := 1) rfl rfl) (sa (I (w64 (s2 + 1))) rfl (w_end (q_then ?_))))))))
    obtain rfl := sj h
    exact ⟨_, rfl, _, σ14, fr_join ⟨rfl, rfl, rfl, rfl, trivial⟩, rfl, H.sel' [0] rfl rfl⟩
  ·replace h := bif_f hb4 h
   refine c_exit (q_then_x (q_then_x (q_blk_hit ?_)))
   obtain rfl := sj h
   obtain rfl := hres _ rfl
   exact .inl ⟨_, rfl, rfl, _, σ3, fr_join trivial, rfl, H.sel' [] rfl rfl⟩
 ·clear hj
  have h := h'
  clear h' H
  rintro e a w (⟨t16, rfl, rfl, ρ, σ17, rfl, rfl, H⟩ | ⟨t18, rfl, rfl, ρ, σ19, rfl, rfl, H⟩)
  ·replace h := selim_l h
   refine q_then (c_seq (rg (sa (B true) rfl (w_end (q_then (c_ret ?_))))))
   obtain rfl := sj h
   exact fin_ret (v := (B true)) (results_ok Tryz.results79 (res_tmp (v := (B true)) rfl res_nil) rfl) ⟨rfl, rfl⟩ (H.sel' [] rfl rfl)
  ·replace h := selim_r h
   refine q_then_r ?_
   obtain rfl := sj h
   exact fin_ret (v := (B t18)) (results_ok Tryz.results79 (res_tmp (v := (B t18)) rfl res_nil) rfl) ⟨rfl, rfl⟩ (H.sel' [] rfl rfl)

theorem c_spec_isVector {Ak : List Int} {Am : Option Addr} {Ao : Nat} {r : Bool} (h : M.spec_isVector Ak = some r) :
    Cal2 Tryz.prog 55 [(Sl Am Ak Ao)] [Ch.ro 0 (Sl Am Ak Ao) Ak] (fun n0 v L => v = (B r) ∧ L = []) := by
 refine cal2 (n := 10) Tryz.func55 rfl rfl rfl rfl ?_
 intro S0 σ0 n0 hn0 H
 unfold M.spec_isVector at h
 refine c_seq (rg (sa (B false) rfl (w_end (q_then (c_seq (rg (sm (Sl Am Ak Ao) rfl (st (v := (I (Ak.length : Int))) (rv_len Tryz.underlying25 rfl) (st (v := (B ((Ak.length : Int) == 4))) (rv_eql (a := (Ak.length : Int)) (b := 4) rfl rfl) (sm (B ((Ak.length : Int) == 4)) rfl ?_))))))))))
 rcases Bool.eq_false_or_eq_true ((Ak.length : Int) == 4) with hb1 | hb1
 ·replace h := bif_t hb1 h
  refine st_g (v := (Sl Am Ak Ao)) (congrArg some hb1) (rv_move rfl) ?_
  revert h; refine br fun r2 hx3 h => ?_
  have hc4 := c_spec_allIn (Aw := Am) (Ax := Ao) hx3
  refine st_call (cx_call hc4 (ent_f hc4.fn rfl) hn0 (H.sel' [0, 0] rfl rfl : Hp S0 σ0 _ ([_] ++ _))) (wanted_yes rfl (by exact (congrArg some hb1))) ?_
  rintro _ σ5 ⟨_, ⟨rfl, rfl⟩, H, -⟩
  replace H : Hp _ _ _ [_] := H
  refine st (v := (B r2)) (rv_pick_t (congrArg B hb1) rfl) (sa (B r2) rfl (w_end (q_then (c_ret ?_))))
  obtain rfl := sj h
  exact fin_ret (v := (B r2)) (results_ok Tryz.results55 (res_tmp (v := (B r2)) rfl res_nil) rfl) ⟨rfl, rfl⟩ (H.sel' [] rfl rfl)
 ·replace h := bif_f hb1 h
  refine st_skip (congrArg some hb1) (st_skip (congrArg some hb1) (st (v := (B false)) (rv_pick_f (congrArg B hb1) rfl) (sa (B false) rfl (w_end (q_then (c_ret ?_))))))
  obtain rfl := sj h
  exact fin_ret (v := (B false)) (results_ok Tryz.results55 (res_tmp (v := (B false)) rfl res_nil) rfl) ⟨rfl, rfl⟩ (H.sel' [] rfl rfl)

theorem c_spec_validItem {Ar : Int × (List Int) × Int} {As : Option Addr} {Au : Nat} {r : Bool} (h : M.spec_validItem Ar = some r) :
    Cal2 Tryz.prog 80 [(.agg #[(I Ar.1), (Sl As Ar.2.1 Au), (I Ar.2.2)])] [Ch.ro 0 (Sl As Ar.2.1 Au) Ar.2.1] (fun n0 v L => v = (B r) ∧ L = []) := by
 refine cal2 (n := 16) Tryz.func80 rfl rfl rfl rfl ?_
 intro S0 σ0 n0 hn0 H
 unfold M.spec_validItem at h
 refine c_seq (rg (st_ex (ex_box (cs := [(I Ar.1), (Sl As Ar.2.1 Au), (I Ar.2.2)]) H hn0 rfl rfl) wn ?_))
 rintro _ σ2 ⟨b1, rfl, H, -⟩
 refine sa (B false) rfl (w_end (q_then (c_seq (rg (st (v := (pt b1 0)) (rv_fieldAddr (off := 0) (ft := 3) Tryz.underlying41 rfl ti3 rfl rfl) ?_)))))
 have hc3 := H.cell (u := (I Ar.1)) (o' := 0) 0 0 rfl rfl rfl
 refine st (v := (I Ar.1)) (rv_load1 Tryz.underlying3 rfl rfl hc3) ?_
 revert h; refine br fun r4 hx5 h => ?_
 have hc6 := c_spec_inRange hx5
 refine st_call (cx_call hc6 (ent_f hc6.fn rfl) hn0 (H.sel' [0, 1] rfl rfl : Hp S0 σ0 _ ([] ++ _))) wn ?_
 rintro _ σ7 ⟨_, ⟨rfl, rfl⟩, H, -⟩
 replace H : Hp _ _ _ [_, _] := H
 refine sm (B r4) rfl ?_
 rcases Bool.eq_false_or_eq_true r4 with hb8 | hb8
 ·replace h := bif_t hb8 h
  refine st_g (v := (pt b1 1)) (congrArg some hb8) (rv_fieldAddr (off := 1) (ft := 25) Tryz.underlying41 rfl ti25 rfl rfl) ?_
  have hc9 := H.cell (u := (Sl As Ar.2.1 Au)) (o' := 1) 0 1 rfl rfl rfl
  refine st_g (v := (Sl As Ar.2.1 Au)) (congrArg some hb8) (rv_load1 Tryz.underlying25 rfl rfl hc9) ?_
  revert h; refine br fun r10 hx11 h => ?_
  have hc12 := c_spec_isVector (Am := As) (Ao := Au) hx11
  refine st_call (cx_call hc12 (ent_f hc12.fn rfl) hn0 (H.sel' [1, 0, 1] rfl rfl : Hp S0 σ0 _ ([_] ++ _))) (wanted_yes rfl (by exact (congrArg some hb8))) ?_
  rintro _ σ13 ⟨_, ⟨rfl, rfl⟩, H, -⟩
  replace H : Hp _ _ _ [_, _] := H
  refine st (v := (B r10)) (rv_pick_t (congrArg B hb8) rfl) (sm (B r10) rfl ?_)
  rcases Bool.eq_false_or_eq_true r10 with hb14 | hb14
  ·replace h := bif_t hb14 h
   refine st_g (v := (pt b1 2)) (congrArg some hb14) (rv_fieldAddr (off := 2) (ft := 3) Tryz.underlying41 rfl ti3 rfl rfl) ?_
   have hc15 := H.cell (u := (I Ar.2.2)) (o' := 2) 0 2 rfl rfl rfl
   refine st_g (v := (I Ar.2.2)) (congrArg some hb14) (rv_load1 Tryz.underlying3 rfl rfl hc15) ?_
   revert h; refine br fun r16 hx17 h => ?_
   have hc18 := c_spec_inRange hx17
   refine st_call (cx_call hc18 (ent_f hc18.fn rfl) hn0 (H.sel' [0, 1] rfl rfl : Hp S0 σ0 _ ([] ++ _))) (wanted_yes rfl (by exact (congrArg some hb14))) ?_
   rintro _ σ19 ⟨_, ⟨rfl, rfl⟩, H, -⟩
   replace H : Hp _ _ _ [_, _] := H
   refine st (v := (B r16)) (rv_pick_t (congrArg B hb14) rfl) (sa (B r16) rfl (w_end (q_then (c_ret ?_))))
   obtain rfl := sj h
   exact fin_ret (v := (B r16)) (results_ok Tryz.results80 (res_tmp (v := (B r16)) rfl res_nil) rfl) ⟨rfl, rfl⟩ (H.sel' [] rfl rfl)
  ·replace h := bif_f hb14 h
   refine st_skip (congrArg some hb14) (st_skip (congrArg some hb14) (st_skip (congrArg some hb14) (st (v := (B false)) (rv_pick_f (congrArg B hb14) rfl) (sa (B false) rfl (w_end (q_then (c_ret ?_)))))))
   obtain rfl := sj h
   exact fin_ret (v := (B false)) (results_ok Tryz.results80 (res_tmp (v := (B false)) rfl res_nil) rfl) ⟨rfl, rfl⟩ (H.sel' [] rfl rfl)
 ·replace h := bif_f hb8 h
  refine st_skip (congrArg some hb8) (st_skip (congrArg some hb8) (st_skip (congrArg some hb8) (st (v := (B false)) (rv_pick_f (congrArg B hb8) rfl) (sm (B false) rfl (st_skip rfl (st_skip rfl (st_skip rfl (st (v := (B false)) (rv_pick_f rfl rfl) (sa (B false) rfl (w_end (q_then ?_)))))))))))
  refine c_ret ?_
  obtain rfl := sj h
  exact fin_ret (v := (B false)) (results_ok Tryz.results80 (res_tmp (v := (B false)) rfl res_nil) rfl) ⟨rfl, rfl⟩ (H.sel' [] rfl rfl)

end Go.Vs
