/- The functions compute what their models say. -/
import Derived.Test.YtbbddfckcpfoaaaGreatKCodeNearestStoreC2
set_option linter.unusedVariables false
set_option linter.unusedSimpArgs false
set_option maxRecDepth 20000
namespace Go.Vs
open Go Go.Proofs
attribute [local irreducible] Code.wp Code.wpIn wpList wpListIn wpQuiet Calls CallsIn

theorem c_impl_tableOf {Bm : List (List Int)} {Ce : List Int} {Bn : Option Addr} {Bo : Nat} {Cf : Option Addr} {Cg : Nat} {r : (List Int)} (h : M.impl_tableOf Bm Ce = some r) :
    Cal2 Tryz.prog 128 [(Sl Bn Bm Bo), (Sl Cf Ce Cg)] [Ch.ro 0 (Sl Bn Bm Bo) Bm, Ch.ro 0 (Sl Cf Ce Cg) Ce] (fun n0 v L => v = (.agg (List.map I r).toArray) ∧ L = [] ∧ r.length = 4) := by
 refine cal2 (n := 45) Tryz.func128 rfl rfl rfl rfl ?_
 intro S0 σ0 n0 hn0 H
 unfold M.impl_tableOf at h
 refine c_seq (rg (st_ex (ex_alloc (cs := (List.map I (List.replicate 4 0))) H hn0 ti90 rfl) wn ?_))
 rintro _ σ2 ⟨b1, rfl, H, -⟩
 refine w_end (q_then (c_seq (rg (st_ex (ex_alloc (cs := (List.map I (List.replicate 4 0))) H hn0 ti90 rfl) wn ?_))))
 rintro _ σ4 ⟨b3, rfl, H, -⟩
 refine w_end (q_then (c_seq (c_seq (rg (sm (Sl Bn Bm Bo) rfl (st (v := (I (Bm.length : Int))) (rv_len Tryz.underlying23 rfl) (sm (I 0) rfl (w_end (q_then ?_)))))))))
 obtain ⟨o5, hj, h'⟩ := bind_some h
 clear h
 refine c_cut (fun e a w => e = .normal ∧ ∃ (ρ : Nat → Value) (σ : St), a = fr 45 (updL ρ [(4, (pt b1 0)), (5, (pt b3 0))]) ∧ w = σ.w ∧ Hp S0 σ0 σ [Ch.bx n0 b3 0 (List.map I o5) [] [], Ch.bx n0 b1 0 (List.map I (List.replicate 4 0)) [] []] ∧ o5.length = 4) ?_ ?_
 ·clear h'
  rename _ = some o5 => h
  refine c_blk (wp_loopM _ h (fun s6 a w => ∃ (ρ : Nat → Value) (σ : St), a = fr 45 (updL ρ [(1, (Sl Cf Ce Cg)), (4, (pt b1 0)), (5, (pt b3 0)), (10, (Sl Bn Bm Bo)), (11, (I (Bm.length : Int))), (12, (I s6.2))]) ∧ w = σ.w ∧ Hp S0 σ0 σ [Ch.bx n0 b3 0 (List.map I s6.1) [] [], Ch.ro 0 (Sl Cf Ce Cg) Ce, Ch.bx n0 b1 0 (List.map I (List.replicate 4 0)) [] [], Ch.ro 0 (Sl Bn Bm Bo) Bm] ∧ s6.1.length = 4) ⟨_, σ4, fr_join ⟨rfl, rfl, rfl, rfl, rfl, rfl, trivial⟩, rfl, H.sel' [0, 3, 1, 2] rfl rfl, rfl⟩ ?_)
  clear h H
  rintro s6 a w o ⟨ρ, σ7, rfl, rfl, H, hl8⟩ h hres
  refine c_seq (rg (st (v := (B (decide (s6.2 < (Bm.length : Int))))) (rv_lss (a := s6.2) (b := (Bm.length : Int)) rfl rfl) (w_end (q_then (c_seq ?_)))))
  refine cd_cond (decide (s6.2 < (Bm.length : Int))) rfl (fun hb9 => ?_) (fun hb9 => ?_)
  ·replace h := bif_t hb9 h
   refine c_skip (q_then (c_seq (c_blk (c_seq (rg (sm (I s6.2) rfl ?_))))))
   revert h; refine br fun x10 hx11 h => ?_
   obtain ⟨b13, o14, hi12, -⟩ := (H.ro 3 rfl).ix hx11
   refine st (v := (pt b13 o14)) (rv_ix Tryz.underlying23 ti27 rfl rfl hi12) ?_
   obtain ⟨v18, hc19, hR17⟩ := ((H.ro 3 rfl).at hx11 hi12).slice
   obtain ⟨a15, c16, rfl⟩ := hR17.isSl
   replace H := H.add (d := Ch.ro 0 (Sl a15 x10 c16) x10) hR17 (fun _ h => h)
   clear hR17
   refine st (v := (Sl a15 x10 c16)) (rv_load1 Tryz.underlying27 rfl rfl hc19) (sa (I s6.2) rfl (sa (Sl a15 x10 c16) rfl (w_end (q_then (c_seq (rg (sm (Sl Cf Ce Cg) rfl (st (v := (I (Ce.length : Int))) (rv_len Tryz.underlying27 rfl) (sm (I 0) rfl (w_end (q_then ?_)))))))))))
   obtain ⟨o20, hj, h'⟩ := bind_some h
   clear h
   refine c_cut (fun e a w => e = .normal ∧ ∃ (ρ : Nat → Value) (σ : St), a = fr 45 (updL ρ [(1, (Sl Cf Ce Cg)), (4, (pt b1 0)), (5, (pt b3 0)), (10, (Sl Bn Bm Bo)), (11, (I (Bm.length : Int))), (12, (I s6.2))]) ∧ w = σ.w ∧ Hp S0 σ0 σ [Ch.bx n0 b3 0 (List.map I o20) [] [], Ch.ro 0 (Sl Cf Ce Cg) Ce, Ch.bx n0 b1 0 (List.map I (List.replicate 4 0)) [] [], Ch.ro 0 (Sl Bn Bm Bo) Bm] ∧ o20.length = 4) ?_ ?_
   ·clear h'
    rename _ = some o20 => h
    refine c_blk (wp_loopM _ h (fun s21 a w => ∃ (ρ : Nat → Value) (σ : St), a = fr 45 (updL ρ [(1, (Sl Cf Ce Cg)), (4, (pt b1 0)), (5, (pt b3 0)), (6, (I s6.2)), (7, (Sl a15 x10 c16)), (10, (Sl Bn Bm Bo)), (11, (I (Bm.length : Int))), (12, (I s6.2)), (17, (Sl Cf Ce Cg)), (18, (I (Ce.length : Int))), (19, (I s21.2))]) ∧ w = σ.w ∧ Hp S0 σ0 σ [Ch.bx n0 b3 0 (List.map I s21.1) [] [], Ch.ro 0 (Sl Cf Ce Cg) Ce, Ch.bx n0 b1 0 (List.map I (List.replicate 4 0)) [] [], Ch.ro 0 (Sl a15 x10 c16) x10, Ch.ro 0 (Sl Bn Bm Bo) Bm] ∧ s21.1.length = 4) ⟨_, σ7, fr_join ⟨rfl, rfl, rfl, rfl, rfl, rfl, rfl, rfl, rfl, rfl, rfl, trivial⟩, rfl, H.sel' [1, 2, 3, 0, 4] rfl rfl, hl8⟩ ?_)
    clear h H
    rintro s21 a w o ⟨ρ, σ22, rfl, rfl, H, hl23⟩ h hres
    refine c_seq (rg (st (v := (B (decide (s21.2 < (Ce.length : Int))))) (rv_lss (a := s21.2) (b := (Ce.length : Int)) rfl rfl) (w_end (q_then (c_seq ?_)))))
    refine cd_cond (decide (s21.2 < (Ce.length : Int))) rfl (fun hb24 => ?_) (fun hb24 => ?_)
    ·replace h := bif_t hb24 h
     refine c_skip (q_then (c_seq (c_blk (c_seq (rg (sm (I s21.2) rfl ?_))))))
     revert h; refine br fun x25 hx26 h => ?_
     obtain ⟨b28, o29, hi27, -⟩ := (H.ro 1 rfl).ix hx26
     refine st (v := (pt b28 o29)) (rv_ix Tryz.underlying27 ti3 rfl rfl hi27) ?_
     have hc30 := ((H.ro 1 rfl).at hx26 hi27).int
     refine st (v := (I x25)) (rv_load1 Tryz.underlying3 rfl rfl hc30) (sa (I s21.2) rfl (sa (I x25) rfl (w_end (q_then ?_))))
     refine rgP (σ := σ22) 16 (by kernel_rfl) (by kernel_rfl) (by kernel_rfl) ?_
     refine sq (v := (I s6.2)) (rv_move rfl) ?_
     revert h; refine br fun x31 hx32 h => ?_
     have hl33 := gidx_lt hx32 hl23
     refine sq (v := (pt b3 (0 + s6.2.toNat * 1))) (rv_indexAddr_array Tryz.underlying90 ti3 rfl rfl hl33.1 hl33.2) ?_
     have hc34 := Hp.arrCell H 0 rfl hx32
     refine sq (v := (I x31)) (rv_load1 Tryz.underlying3 rfl rfl hc34) (sq (v := (I x25)) (rv_move rfl) (sq (v := (Sl a15 x10 c16)) (rv_move rfl) (sq (v := (I s21.2)) (rv_move rfl) ?_)))
     revert h; refine br fun x35 hx36 h => ?_
     obtain ⟨b38, o39, hi37, -⟩ := (H.ro 3 rfl).ix hx36
     refine sq (v := (pt b38 o39)) (rv_ix Tryz.underlying27 ti3 rfl rfl hi37) ?_
     have hc40 := ((H.ro 3 rfl).at hx36 hi37).int
     refine sq (v := (I x35)) (rv_load1 Tryz.underlying3 rfl rfl hc40) (sq (v := (I (w64 (x25 - x35)))) (rv_sub (a := x25) (b := x35) rfl rfl) (sq (v := (I x25)) (rv_move rfl) (sq (v := (Sl a15 x10 c16)) (rv_move rfl) (sq (v := (I s21.2)) (rv_move rfl) ?_))))
     revert h; refine br fun x41 hx42 h => ?_
     obtain ⟨b44, o45, hi43, -⟩ := (H.ro 3 rfl).ix hx42
     refine sq (v := (pt b44 o45)) (rv_ix Tryz.underlying27 ti3 rfl rfl hi43) ?_
     have hc46 := ((H.ro 3 rfl).at hx42 hi43).int
     refine sq (v := (I x41)) (rv_load1 Tryz.underlying3 rfl rfl hc46) (sq (v := (I (w64 (x25 - x41)))) (rv_sub (a := x25) (b := x41) rfl rfl) (sq (v := (I (w64 ((w64 (x25 - x35)) * (w64 (x25 - x41)))))) (rv_mul (a := (w64 (x25 - x35))) (b := (w64 (x25 - x41))) rfl rfl) (sq_end ?_)))
     intro σ47 hm48
     replace H := H.grow (hm48.mono fun _ h => h); clear hm48
     refine st (v := (I (w64 (x31 + (w64 ((w64 (x25 - x35)) * (w64 (x25 - x41)))))))) (rv_add (a := x31) (b := (w64 ((w64 (x25 - x35)) * (w64 (x25 - x41))))) rfl rfl) ?_
     revert h; refine br fun x49 hx50 h => ?_
     have hl51 := gidx_lt hx50 hl23
     refine st (v := (pt b3 (0 + s6.2.toNat * 1))) (rv_indexAddr_array Tryz.underlying90 ti3 rfl rfl hl51.1 hl51.2) ?_
     have hl52 := gidx_lt hx50 hl23
     refine st_exS (ex_store_box (k := s6.2.toNat * 1) (vs := [(I (w64 (x31 + (w64 ((w64 (x25 - x35)) * (w64 (x25 - x41)))))))]) (cs' := (List.map I (s21.1.set s6.2.toNat (w64 (x31 + (w64 ((w64 (x25 - x35)) * (w64 (x25 - x41))))))))) H (i := 0) rfl ti3 rfl rfl rfl rfl rfl (by rw [List.length_map, hl23]; simp; omega) (by simp [plain]) (arr_set' _ _ _)) wn ?_
     rintro σ53 ⟨H, -⟩
     refine w_end (q_blk (q_then (rg (st (v := (I (w64 (s21.2 + 1)))) (rv_add (a := s21.2) (b := 1) rfl rfl) (sm (I (w64 (s21.2 + 1))) rfl (w_end (q_then ?_)))))))
     obtain rfl := sj h
     exact ⟨_, rfl, _, σ53, fr_join ⟨rfl, rfl, rfl, rfl, rfl, rfl, rfl, rfl, rfl, rfl, rfl, trivial⟩, rfl, H.sel' [0, 1, 2, 3, 4] rfl rfl, (set_len hl23)⟩
    ·replace h := bif_f hb24 h
     refine c_exit (q_then_x (q_then_x (q_blk_hit ?_)))
     obtain rfl := sj h
     obtain rfl := hres _ rfl
     exact ⟨rfl, _, σ22, fr_join ⟨rfl, rfl, rfl, rfl, rfl, rfl, trivial⟩, rfl, H.sel' [0, 1, 2, 4] rfl rfl, hl23⟩
   ·clear hj
    have h := h'
    clear h' H
    rintro e a w ⟨rfl, ρ, σ54, rfl, rfl, H, hl55⟩
    refine q_blk (q_then (rg (st (v := (I (w64 (s6.2 + 1)))) (rv_add (a := s6.2) (b := 1) rfl rfl) (sm (I (w64 (s6.2 + 1))) rfl (w_end (q_then ?_))))))
    obtain rfl := sj h
    exact ⟨_, rfl, _, σ54, fr_join ⟨rfl, rfl, rfl, rfl, rfl, rfl, trivial⟩, rfl, H.sel' [0, 1, 2, 3] rfl rfl, hl55⟩
  ·replace h := bif_f hb9 h
   refine c_exit (q_then_x (q_then_x (q_blk_hit ?_)))
   obtain rfl := sj h
   obtain rfl := hres _ rfl
   exact ⟨rfl, _, σ7, fr_join ⟨rfl, rfl, trivial⟩, rfl, H.sel' [0, 2] rfl rfl, hl8⟩
 ·clear hj
  have h := h'
  clear h' H
  rintro e a w ⟨rfl, ρ, σ56, rfl, rfl, H, hl57⟩
  refine q_then (c_seq (rg ?_))
  have hc58 := H.cells 0 rfl
  refine st (v := (.agg (List.map I o5).toArray)) (rv_load (cs := (List.map I o5)) Tryz.underlying90 rfl ti90 rfl (by rw [List.length_map]; exact hl57) hc58) ?_
  refine st_exS (ex_store_box (k := 0) (cs := (List.map I (List.replicate 4 0))) (vs := (List.map I o5)) (cs' := (List.map I o5)) H (i := 1) rfl ti90 rfl rfl rfl rfl ((List.length_map _).trans hl57) (arr_fits (k := 4) hl57 rfl) (plain_ints _) (arr_all (k := 4) hl57 rfl)) wn ?_
  rintro σ59 ⟨H, -⟩
  refine w_end (q_then (c_ret ?_))
  obtain rfl := sj h
  exact fin_ret (v := (.agg (List.map I o5).toArray)) (results_ok Tryz.results128 (res_cell rfl (run_cellRes (cs := (List.map I o5)) Tryz.underlying90 rfl ti90 (by rw [List.length_map]; exact hl57) (H.cells 0 rfl)) res_nil) rfl) ⟨rfl, rfl, hl57⟩ (H.sel' [] rfl rfl)

theorem c_impl_tablesOf {Bp : (List (List Int)) × (List (List Int))} {Ci : List Int} {Bq : Option Addr} {Br : Nat} {Bs : Option Addr} {Bt : Nat} {Cj : Option Addr} {Ck : Nat} {r : (List Int) × (List Int)} (h : M.impl_tablesOf Bp Ci = some r) :
    Cal2 Tryz.prog 67 [(.agg #[(Sl Bq Bp.1 Br), (Sl Bs Bp.2 Bt)]), (Sl Cj Ci Ck)] [Ch.ro 0 (Sl Bq Bp.1 Br) Bp.1, Ch.ro 0 (Sl Bs Bp.2 Bt) Bp.2, Ch.ro 0 (Sl Cj Ci Ck) Ci] (fun n0 v L => v = (.tuple #[(.agg (List.map I r.1).toArray), (.agg (List.map I r.2).toArray)]) ∧ L = [] ∧ r.1.length = 4 ∧ r.2.length = 4) := by
 refine cal2 (n := 16) Tryz.func67 rfl rfl rfl rfl ?_
 intro S0 σ0 n0 hn0 H
 unfold M.impl_tablesOf at h
 refine c_seq (rg (st_ex (ex_box (cs := [(Sl Bq Bp.1 Br), (Sl Bs Bp.2 Bt)]) H hn0 rfl rfl) wn ?_))
 rintro _ σ2 ⟨b1, rfl, H, -⟩
 refine st_ex (ex_alloc (cs := (List.map I (List.replicate 4 0))) H hn0 ti90 rfl) wn ?_
 rintro _ σ4 ⟨b3, rfl, H, -⟩
 refine st_ex (ex_alloc (cs := (List.map I (List.replicate 4 0))) H hn0 ti90 rfl) wn ?_
 rintro _ σ6 ⟨b5, rfl, H, -⟩
 refine w_end (q_then (c_seq ?_))
 have hc7 := H.cell (u := (Sl Bq Bp.1 Br)) (o' := 0) 2 0 rfl rfl rfl
 revert h; refine br fun xs8 hx9 h => ?_
 obtain ⟨a10, c11, hs12, hR13⟩ := (H.ro 5 rfl).slice hx9
 replace H := H.add (d := Ch.ro 0 (Sl a10 xs8 c11) xs8) hR13 (fun _ h => h)
 clear hR13
 revert h; refine br fun r14 hx15 h => ?_
 have hc16 := c_impl_tableOf (Bn := Bq) (Bo := Br) (Cf := a10) (Cg := c11) hx15
 have hc18 := H.cell (u := (Sl Bs Bp.2 Bt)) (o' := 1) 3 1 rfl rfl rfl
 revert h; refine br fun xs19 hx20 h => ?_
 obtain ⟨a21, c22, hs23, hR24⟩ := (H.ro 6 rfl).slice hx20
 replace H := H.add (d := Ch.ro 0 (Sl a21 xs19 c22) xs19) hR24 (fun _ h => h)
 clear hR24
 have Hs := H
 refine rg2 (σ := σ6) (Nm := Unit) 9 [4] [[false], [true]] [[(0, 0)], [(0, 0)], [(0, 0)], [(0, 0)], [(0, 1)], [(0, 0), (1, 1)], [(0, 0), (1, 1)], [(0, 0), (1, 1)], [(0, 0), (1, 1)]] 1 [fun _ => fun σm => Hp S0 σ0 σm [Ch.ro 0 (Sl a21 xs19 c22) xs19, Ch.ro 0 (Sl a10 xs8 c11) xs8, Ch.bx n0 b5 0 (List.map I (List.replicate 4 0)) [] [], Ch.bx n0 b3 0 (List.map I (List.replicate 4 0)) [] [], Ch.bx n0 b1 0 [(Sl Bq Bp.1 Br), (Sl Bs Bp.2 Bt)] [] [], Ch.ro 0 (Sl Bq Bp.1 Br) Bp.1, Ch.ro 0 (Sl Bs Bp.2 Bt) Bp.2, Ch.ro 0 (Sl Cj Ci Ck) Ci] ∧ Md (cov []) σ6 σm, fun _ => fun σm => Hp S0 σ0 σm [Ch.ro 0 (Sl a21 xs19 c22) xs19, Ch.ro 0 (Sl a10 xs8 c11) xs8, Ch.bx n0 b5 0 (List.map I (List.replicate 4 0)) [] [], Ch.bx n0 b3 0 (List.map I (List.replicate 4 0)) [] [], Ch.bx n0 b1 0 [(Sl Bq Bp.1 Br), (Sl Bs Bp.2 Bt)] [] [], Ch.ro 0 (Sl Bq Bp.1 Br) Bp.1, Ch.ro 0 (Sl Bs Bp.2 Bt) Bp.2, Ch.ro 0 (Sl Cj Ci Ck) Ci] ∧ Md (cov []) σ6 σm ∧ r14.length = 4] [fun _ => (pt b1 0), fun _ => (Sl Bq Bp.1 Br), fun _ => (Sl Cj Ci Ck), fun _ => (Sl a10 xs8 c11), fun _ => (.agg (List.map I r14).toArray), fun _ => (pt b1 1), fun _ => (Sl Bs Bp.2 Bt), fun _ => (Sl Cj Ci Ck), fun _ => (Sl a21 xs19 c22)] () (by kernel_rfl) (by kernel_rfl) ?_ ?_ ?_
 ·intro σm m0
  exact ⟨H.grow (m0.mono fun _ h => h.elim), m0⟩
 ·refine ac rfl (by
    intro k _nm ρ σm hJ hoff hdep
    have e2 := look_off (N := 16) (hoff 2 rfl) rfl
    exact dp_v (v := (pt b1 0)) wn (rv_fieldAddr (off := 0) (ft := 23) Tryz.underlying25 rfl ti23 rfl e2) rfl hJ) ?_
  refine all_cons (by
    refine ⟨?_, ?_⟩
    ·intro _nm ρ σm hJ hoff hdep
     have e6 := hdep 0 rfl rfl 6 rfl
     obtain ⟨H, m⟩ := id hJ
     have hc7 := H.cell (u := (Sl Bq Bp.1 Br)) (o' := 0) 4 0 rfl rfl rfl
     exact dp_v (v := (Sl Bq Bp.1 Br)) wn (rv_load1 Tryz.underlying23 rfl e6 hc7) rfl hJ
    trivial) ?_
  refine ac rfl (by
    intro k _nm ρ σm hJ hoff hdep
    have e1 := look_off (N := 16) (hoff 1 rfl) rfl
    exact dp_v (v := (Sl Cj Ci Ck)) wn (rv_move e1) rfl hJ) ?_
  refine ac rfl (by
    intro k _nm ρ σm hJ hoff hdep
    have e8 := hdep 2 rfl rfl 8 rfl
    exact dp_v (v := (Sl a10 xs8 c11)) wn (rv_slice_h Tryz.underlying27 ti3 hs12 e8 rfl) rfl hJ) ?_
  refine all_cons (by
    refine ⟨?_, ?_⟩
    ·intro _nm ρ σm hJ hoff hdep
     have e7 : look 16 ρ 7 = (Sl Bq Bp.1 Br) := hdep 1 rfl rfl 7 rfl
     have e9 : look 16 ρ 9 = (Sl a10 xs8 c11) := hdep 3 rfl rfl 9 rfl
     obtain ⟨H, m⟩ := id hJ
     refine dp_cx wn (cx_call hc16 (ent_f hc16.fn (by show [look 16 ρ 7, look 16 ρ 9] = _; rw [e7, e9])) hn0 (H.sel' [5, 1, 0, 1, 2, 3, 4, 5, 6, 7] rfl rfl : Hp S0 σ0 _ ([_, _] ++ _))) ?_
     rintro _ σq ⟨_, ⟨rfl, rfl, hl17⟩, H2, m2⟩
     exact ⟨_, (), rfl, rfl, ⟨H2.sel' [0, 1, 2, 3, 4, 5, 6, 7] rfl rfl, m.comp0 (m2.mono (fun i h => by simp [cov, Ch.ro] at h)), hl17⟩, stab [0, 1, 2, 3, 5, 6, 7, 8] (by kernel_rfl) ⟨rfl, rfl, rfl, rfl, rfl, rfl, rfl, rfl, trivial⟩⟩
    trivial) ?_
  refine ac rfl (by
    intro k _nm ρ σm hJ hoff hdep
    have e2 := look_off (N := 16) (hoff 2 rfl) rfl
    exact dp_v (v := (pt b1 1)) wn (rv_fieldAddr (off := 1) (ft := 23) Tryz.underlying25 rfl ti23 rfl e2) rfl hJ) ?_
  refine all_cons (by
    refine ⟨?_, ?_⟩
    ·intro _nm ρ σm hJ hoff hdep
     have e11 := hdep 5 rfl rfl 11 rfl
     obtain ⟨H, m⟩ := id hJ
     have hc18 := H.cell (u := (Sl Bs Bp.2 Bt)) (o' := 1) 4 1 rfl rfl rfl
     exact dp_v (v := (Sl Bs Bp.2 Bt)) wn (rv_load1 Tryz.underlying23 rfl e11 hc18) rfl hJ
    refine ⟨?_, ?_⟩
    ·intro _nm ρ σm hJ hoff hdep
     have e11 := hdep 5 rfl rfl 11 rfl
     obtain ⟨H, m, hl17⟩ := id hJ
     have hc18 := H.cell (u := (Sl Bs Bp.2 Bt)) (o' := 1) 4 1 rfl rfl rfl
     exact dp_v (v := (Sl Bs Bp.2 Bt)) wn (rv_load1 Tryz.underlying23 rfl e11 hc18) rfl hJ
    trivial) ?_
  refine ac rfl (by
    intro k _nm ρ σm hJ hoff hdep
    have e1 := look_off (N := 16) (hoff 1 rfl) rfl
    exact dp_v (v := (Sl Cj Ci Ck)) wn (rv_move e1) rfl hJ) ?_
  refine ac rfl (by
    intro k _nm ρ σm hJ hoff hdep
    have e13 := hdep 7 rfl rfl 13 rfl
    exact dp_v (v := (Sl a21 xs19 c22)) wn (rv_slice_l Tryz.underlying27 ti3 hs23 e13 rfl) rfl hJ) ?_
  exact all_nil
 ·intro _nm ρ σ25 hJ hoff hrel
  have e4 := look_off (N := 16) (hoff 4 rfl) rfl
  have e5 := look_off (N := 16) (hoff 5 rfl) rfl
  have e10 := hrel 4 rfl 10 rfl
  have e12 := hrel 6 rfl 12 rfl
  have e14 := hrel 8 rfl 14 rfl
  obtain ⟨H, -, hl17⟩ := (show Hp S0 σ0 σ25 [Ch.ro 0 (Sl a21 xs19 c22) xs19, Ch.ro 0 (Sl a10 xs8 c11) xs8, Ch.bx n0 b5 0 (List.map I (List.replicate 4 0)) [] [], Ch.bx n0 b3 0 (List.map I (List.replicate 4 0)) [] [], Ch.bx n0 b1 0 [(Sl Bq Bp.1 Br), (Sl Bs Bp.2 Bt)] [] [], Ch.ro 0 (Sl Bq Bp.1 Br) Bp.1, Ch.ro 0 (Sl Bs Bp.2 Bt) Bp.2, Ch.ro 0 (Sl Cj Ci Ck) Ci] ∧ Md (cov []) σ6 σ25 ∧ r14.length = 4 from hJ)
  clear hJ Hs
  rw [fr_lookL (L := [(4, (pt b3 0)), (5, (pt b5 0)), (10, (.agg (List.map I r14).toArray)), (12, (Sl Bs Bp.2 Bt)), (14, (Sl a21 xs19 c22))]) ⟨e4, e5, e10, e12, e14, trivial⟩]
  clear hoff hrel e4 e5 e10 e12 e14
  revert h; refine br fun r26 hx27 h => ?_
  have hc28 := c_impl_tableOf (Bn := Bs) (Bo := Bt) (Cf := a21) (Cg := c22) hx27
  refine st_call (cx_call hc28 (ent_f hc28.fn rfl) hn0 (H.sel' [6, 0, 0, 1, 2, 3, 4, 5, 6, 7] rfl rfl : Hp S0 σ0 _ ([_, _] ++ _))) wn ?_
  rintro _ σ30 ⟨_, ⟨rfl, rfl, hl29⟩, H, -⟩
  replace H : Hp _ _ _ [_, _, _, _, _, _, _, _] := H
  replace H : Hp S0 σ0 σ30 [Ch.bx n0 b5 0 (List.map I (List.replicate 4 0)) [] [], Ch.bx n0 b3 0 (List.map I (List.replicate 4 0)) [] []] := H.sel' [2, 3] rfl rfl
  refine st_exS (ex_store_box (k := 0) (cs := (List.map I (List.replicate 4 0))) (vs := (List.map I r14)) (cs' := (List.map I r14)) H (i := 1) rfl ti90 rfl rfl rfl rfl ((List.length_map _).trans hl17) (arr_fits (k := 4) hl17 rfl) (plain_ints _) (arr_all (k := 4) hl17 rfl)) wn ?_
  rintro σ31 ⟨H, -⟩
  refine st_exS (ex_store_box (k := 0) (cs := (List.map I (List.replicate 4 0))) (vs := (List.map I r26)) (cs' := (List.map I r26)) H (i := 1) rfl ti90 rfl rfl rfl rfl ((List.length_map _).trans hl29) (arr_fits (k := 4) hl29 rfl) (plain_ints _) (arr_all (k := 4) hl29 rfl)) wn ?_
  rintro σ32 ⟨H, -⟩
  refine w_end (q_then (c_ret ?_))
  obtain rfl := sj h
  exact fin_ret (v := (.tuple #[(.agg (List.map I r14).toArray), (.agg (List.map I r26).toArray)])) (results_ok Tryz.results67 (res_cell rfl (run_cellRes (cs := (List.map I r14)) Tryz.underlying90 rfl ti90 (by rw [List.length_map]; exact hl17) (H.cells 1 rfl)) (res_cell rfl (run_cellRes (cs := (List.map I r26)) Tryz.underlying90 rfl ti90 (by rw [List.length_map]; exact hl29) (H.cells 0 rfl)) res_nil)) rfl) ⟨rfl, rfl, hl17, hl29⟩ (H.sel' [] rfl rfl)

theorem c_impl_CodeDistances {Bp : (List (List Int)) × (List (List Int))} {Ci : List Int} {Bq : Option Addr} {Br : Nat} {Bs : Option Addr} {Bt : Nat} {Cj : Option Addr} {Ck : Nat} {r : (List Int)} (h : M.impl_CodeDistances Bp Ci = some r) :
    Cal2 Tryz.prog 55 [(.agg #[(Sl Bq Bp.1 Br), (Sl Bs Bp.2 Bt)]), (Sl Cj Ci Ck)] [Ch.ro 0 (Sl Bq Bp.1 Br) Bp.1, Ch.ro 0 (Sl Bs Bp.2 Bt) Bp.2, Ch.ro 0 (Sl Cj Ci Ck) Ci] (fun n0 v L => ∃ (az1 : Option Addr), ∃ (cz2 : Nat), v = (Sl az1 r cz2) ∧ L = [Ch.own n0 n0 (Sl az1 r cz2) r]) := by
 refine cal2 (n := 44) Tryz.func55 rfl rfl rfl rfl ?_
 intro S0 σ0 n0 hn0 H
 unfold M.impl_CodeDistances at h
 refine c_seq (rg (st_ex (ex_box (cs := [(Sl Bq Bp.1 Br), (Sl Bs Bp.2 Bt)]) H hn0 rfl rfl) wn ?_))
 rintro _ σ2 ⟨b1, rfl, H, -⟩
 refine sa (.slice none 0 0) rfl (w_end (q_then (c_seq (c_seq ?_))))
 obtain ⟨o3, hj, h'⟩ := bind_some h
 clear h
 refine c_cut (fun e a w => e = .normal ∧ ∃ (ρ : Nat → Value) (σ : St), a = fr 44 (updL ρ [(1, (Sl Cj Ci Ck)), (2, (pt b1 0)), (19, (B o3))]) ∧ w = σ.w ∧ Hp S0 σ0 σ [Ch.ro 0 (Sl Cj Ci Ck) Ci, Ch.ro 0 (Sl Bq Bp.1 Br) Bp.1, Ch.ro 0 (Sl Bs Bp.2 Bt) Bp.2, Ch.bx n0 b1 0 [(Sl Bq Bp.1 Br), (Sl Bs Bp.2 Bt)] [] []]) ?_ ?_
 ·clear h'
  rename _ = some o3 => h
  refine rg ?_
  have hc4 := H.cells 0 rfl
  refine st (v := (.agg #[(Sl Bq Bp.1 Br), (Sl Bs Bp.2 Bt)])) (rv_load (cs := [(Sl Bq Bp.1 Br), (Sl Bs Bp.2 Bt)]) Tryz.underlying25 rfl ti25 rfl rfl hc4) ?_
  revert h; refine br fun r5 hx6 h => ?_
  have hc7 := c_impl_ValidBook (Bq := Bq) (Br := Br) (Bs := Bs) (Bt := Bt) hx6
  refine st_call (cx_call hc7 (ent_f hc7.fn rfl) hn0 (H.sel' [1, 2, 0, 1, 2, 3] rfl rfl : Hp S0 σ0 _ ([_, _] ++ _))) wn ?_
  rintro _ σ8 ⟨_, ⟨rfl, rfl⟩, H, -⟩
  replace H : Hp _ _ _ [_, _, _, _] := H
  refine st (v := (B (!r5))) (rv_not rfl) (sm (B (!r5)) rfl ?_)
  rcases Bool.eq_false_or_eq_true (!r5) with hb9 | hb9
  ·replace h := bif_t hb9 h
   refine st_skip (congrArg some hb9) (st_skip (congrArg some hb9) (st_skip (congrArg some hb9) (st (v := (B true)) (rv_pick_t (congrArg B hb9) rfl) (w_end ?_))))
   obtain rfl := sj h
   exact ⟨rfl, _, σ8, fr_join ⟨rfl, rfl, rfl, trivial⟩, rfl, H.sel' [3, 1, 2, 0] rfl rfl⟩
  ·replace h := bif_f hb9 h
   refine st_g (v := (Sl Cj Ci Ck)) (congrArg some hb9) (rv_move rfl) ?_
   revert h; refine br fun r10 hx11 h => ?_
   have hc12 := c_impl_ValidVector (Bb := Cj) (Bc := Ck) hx11
   refine st_call (cx_call hc12 (ent_f hc12.fn rfl) hn0 (H.sel' [3, 0, 1, 2, 3] rfl rfl : Hp S0 σ0 _ ([_] ++ _))) (wanted_yes rfl (by exact (congrArg some hb9))) ?_
   rintro _ σ13 ⟨_, ⟨rfl, rfl⟩, H, -⟩
   replace H : Hp _ _ _ [_, _, _, _] := H
   refine st_g (v := (B (!r10))) (congrArg some hb9) (rv_not rfl) (st (v := (B (!r10))) (rv_pick_f (congrArg B hb9) rfl) (w_end ?_))
   obtain rfl := sj h
   exact ⟨rfl, _, σ13, fr_join ⟨rfl, rfl, rfl, trivial⟩, rfl, H.sel' [3, 1, 2, 0] rfl rfl⟩
 ·clear hj
  have h := h'
  clear h' H
  rintro e a w ⟨rfl, ρ, σ14, rfl, rfl, H⟩
  refine q_then ?_
  refine cd_cond o3 rfl (fun hb15 => ?_) (fun hb15 => ?_)
  ·replace h := bif_t hb15 h
   refine c_seq (rg (sa (.slice none 0 0) rfl (w_end (q_then (c_ret (q_then_r ?_))))))
   replace H := H.nilOwn Int n0 n0
   obtain rfl := sj h
   exact fin_ret (v := (.slice none 0 0)) (results_ok Tryz.results55 (res_tmp (v := (.slice none 0 0)) rfl res_nil) rfl) ⟨none, 0, rfl, rfl⟩ (H.sel' [0] rfl rfl)
  ·replace h := bif_f hb15 h
   refine c_skip (q_then (c_seq (rg ?_)))
   have hc16 := H.cells 3 rfl
   refine st (v := (.agg #[(Sl Bq Bp.1 Br), (Sl Bs Bp.2 Bt)])) (rv_load (cs := [(Sl Bq Bp.1 Br), (Sl Bs Bp.2 Bt)]) Tryz.underlying25 rfl ti25 rfl rfl hc16) (sm (Sl Cj Ci Ck) rfl ?_)
   revert h; refine br fun r17 hx18 h => ?_
   have hc19 := c_impl_tablesOf (Bq := Bq) (Br := Br) (Bs := Bs) (Bt := Bt) (Cj := Cj) (Ck := Ck) hx18
   refine st_call (cx_call hc19 (ent_f hc19.fn rfl) hn0 (H.sel' [1, 2, 0, 0, 1, 2, 3] rfl rfl : Hp S0 σ0 _ ([_, _, _] ++ _))) wn ?_
   rintro _ σ22 ⟨_, ⟨rfl, rfl, hl20, hl21⟩, H, -⟩
   replace H : Hp _ _ _ [_, _, _, _] := H
   refine sm (.tuple #[(.agg (List.map I r17.1).toArray), (.agg (List.map I r17.2).toArray)]) rfl (st (v := (.agg (List.map I r17.1).toArray)) (rv_extract rfl rfl) (st (v := (.agg (List.map I r17.2).toArray)) (rv_extract rfl rfl) (st_ex (ex_alloc (cs := (List.map I (List.replicate 4 0))) H hn0 ti90 rfl) wn ?_)))
   rintro _ σ24 ⟨b23, rfl, H, -⟩
   refine st_ex (ex_alloc (cs := (List.map I (List.replicate 4 0))) H hn0 ti90 rfl) wn ?_
   rintro _ σ26 ⟨b25, rfl, H, -⟩
   refine st_exS (ex_store_box (k := 0) (cs := (List.map I (List.replicate 4 0))) (vs := (List.map I r17.1)) (cs' := (List.map I r17.1)) H (i := 1) rfl ti90 rfl rfl rfl rfl ((List.length_map _).trans hl20) (arr_fits (k := 4) hl20 rfl) (plain_ints _) (arr_all (k := 4) hl20 rfl)) wn ?_
   rintro σ27 ⟨H, -⟩
   refine st_exS (ex_store_box (k := 0) (cs := (List.map I (List.replicate 4 0))) (vs := (List.map I r17.2)) (cs' := (List.map I r17.2)) H (i := 1) rfl ti90 rfl rfl rfl rfl ((List.length_map _).trans hl21) (arr_fits (k := 4) hl21 rfl) (plain_ints _) (arr_all (k := 4) hl21 rfl)) wn ?_
   rintro σ28 ⟨H, -⟩
   refine w_end (q_then (c_seq (rg ?_)))
   revert h; refine br fun xs29 hx30 h => ?_
   refine st_ex (ex_makeC (el := n0) (z0 := (0 : Int)) (zs := [(I 0)]) H hn0 Tryz.underlying27 ti3 rfl rfl rfl (by decide) hx30 rfl rfl) wn ?_
   rintro _ σ34 ⟨b31, c32, rfl, H, -⟩
   refine sa (Sl (some ⟨b31, 0, none⟩) xs29 c32) rfl (w_end (q_then (c_seq (c_seq (rg ?_)))))
   have hc35 := H.cells 2 rfl
   refine st (v := (.agg (List.map I r17.1).toArray)) (rv_load (cs := (List.map I r17.1)) Tryz.underlying90 rfl ti90 rfl (by rw [List.length_map]; exact hl20) hc35) ?_
   refine sm (I 0) rfl (w_end (q_then ?_))
   obtain ⟨o36, hj, h'⟩ := bind_some h
   clear h
   refine c_cut (fun e a w => e = .normal ∧ ∃ (ρ : Nat → Value) (σ : St) (aj1 : Option Addr) (cj2 : Nat), a = fr 44 (updL ρ [(7, (Sl aj1 o36 cj2))]) ∧ w = σ.w ∧ Hp S0 σ0 σ [Ch.own n0 n0 (Sl aj1 o36 cj2) o36]) ?_ ?_
   ·clear h'
    rename _ = some o36 => h
    refine c_blk (wp_loopM _ h (fun s37 a w => ∃ (ρ : Nat → Value) (σ : St) (aj1 : Option Addr) (cj2 : Nat), a = fr 44 (updL ρ [(6, (pt b25 0)), (7, (Sl aj1 s37.1 cj2)), (27, (.agg (List.map I r17.1).toArray)), (28, (I s37.2))]) ∧ w = σ.w ∧ Hp S0 σ0 σ [Ch.bx n0 b25 0 (List.map I r17.2) [] [], Ch.own n0 n0 (Sl aj1 s37.1 cj2) s37.1]) ⟨_, σ34, (some ⟨b31, 0, none⟩), c32, fr_join ⟨rfl, rfl, rfl, rfl, trivial⟩, rfl, H.sel' [1, 0] rfl rfl⟩ ?_)
    clear h H
    rintro s37 a w o ⟨ρ, σ38, a39, c40, rfl, rfl, H⟩ h hres
    refine c_seq (rg (st (v := (B (decide (s37.2 < 4)))) (rv_lss (a := s37.2) (b := 4) rfl rfl) (w_end (q_then (c_seq ?_)))))
    refine cd_cond (decide (s37.2 < 4)) rfl (fun hb41 => ?_) (fun hb41 => ?_)
    ·replace h := bif_t hb41 h
     refine c_skip (q_then (c_seq (c_blk (c_seq (rg ?_)))))
     revert h; refine br fun x42 hx43 h => ?_
     refine st (v := (I x42)) (rv_idx Tryz.underlying90 ti3 Tryz.underlying3 rfl rfl hx43 hl20) (sa (I x42) rfl (w_end (q_then (c_seq (rg ?_)))))
     have hc44 := H.cells 0 rfl
     refine st (v := (.agg (List.map I r17.2).toArray)) (rv_load (cs := (List.map I r17.2)) Tryz.underlying90 rfl ti90 rfl (by rw [List.length_map]; exact hl21) hc44) ?_
     refine sm (I 0) rfl (w_end (q_then ?_))
     obtain ⟨o45, hj, h'⟩ := bind_some h
     clear h
     refine c_cut (fun e a w => e = .normal ∧ ∃ (ρ : Nat → Value) (σ : St) (aj1 : Option Addr) (cj2 : Nat), a = fr 44 (updL ρ [(6, (pt b25 0)), (7, (Sl aj1 o45 cj2)), (27, (.agg (List.map I r17.1).toArray)), (28, (I s37.2))]) ∧ w = σ.w ∧ Hp S0 σ0 σ [Ch.bx n0 b25 0 (List.map I r17.2) [] [], Ch.own n0 n0 (Sl aj1 o45 cj2) o45]) ?_ ?_
     ·clear h'
      rename _ = some o45 => h
      refine c_blk (wp_loopM _ h (fun s46 a w => ∃ (ρ : Nat → Value) (σ : St) (aj1 : Option Addr) (cj2 : Nat), a = fr 44 (updL ρ [(6, (pt b25 0)), (7, (Sl aj1 s46.1 cj2)), (9, (I x42)), (27, (.agg (List.map I r17.1).toArray)), (28, (I s37.2)), (31, (.agg (List.map I r17.2).toArray)), (32, (I s46.2))]) ∧ w = σ.w ∧ Hp S0 σ0 σ [Ch.bx n0 b25 0 (List.map I r17.2) [] [], Ch.own n0 n0 (Sl aj1 s46.1 cj2) s46.1]) ⟨_, σ38, a39, c40, fr_join ⟨rfl, rfl, rfl, rfl, rfl, rfl, rfl, trivial⟩, rfl, H.sel' [0, 1] rfl rfl⟩ ?_)
      clear h H
      rintro s46 a w o ⟨ρ, σ47, a48, c49, rfl, rfl, H⟩ h hres
      refine c_seq (rg (st (v := (B (decide (s46.2 < 4)))) (rv_lss (a := s46.2) (b := 4) rfl rfl) (w_end (q_then (c_seq ?_)))))
      refine cd_cond (decide (s46.2 < 4)) rfl (fun hb50 => ?_) (fun hb50 => ?_)
      ·replace h := bif_t hb50 h
       refine c_skip (q_then (c_seq (c_blk (c_seq (rg ?_)))))
       revert h; refine br fun x51 hx52 h => ?_
       refine st (v := (I x51)) (rv_idx Tryz.underlying90 ti3 Tryz.underlying3 rfl rfl hx52 hl21) (sa (I x51) rfl (w_end (q_then (rg (sm (Sl a48 s46.1 c49) rfl (sm (I x42) rfl (sm (I x51) rfl (st (v := (I (w64 (x42 + x51)))) (rv_add (a := x42) (b := x51) rfl rfl) ?_))))))))
       refine st_ex (ex_buildSlice (el := n0) (xs := ([w64 (x42 + x51)] : List Int)) (ps := [(0, (I (w64 (x42 + x51))))]) (cs := [(I (w64 (x42 + x51)))]) H hn0 Tryz.underlying27 ti3 rfl rfl (by kernel_rfl) (.cons (c := [(I (w64 (x42 + x51)))]) rfl (.nil)) rfl) wn ?_
       rintro _ σ54 ⟨b53, rfl, H, -⟩
       revert h; refine br fun xs55 hx56 h => ?_
       refine st_ex (ex_append H (i := 2) rfl Tryz.underlying27 Tryz.underlying27 ti3 rfl rfl (by decide) (H.own 0 rfl).rd hx56 hn0 rfl rfl) wn ?_
       rintro _ σ59 ⟨a57, c58, rfl, H, -⟩
       refine sa (Sl a57 xs55 c58) rfl (w_end (q_blk (q_then (rg (st (v := (I (w64 (s46.2 + 1)))) (rv_add (a := s46.2) (b := 1) rfl rfl) (sm (I (w64 (s46.2 + 1))) rfl (w_end (q_then ?_))))))))
       obtain rfl := sj h
       exact ⟨_, rfl, _, σ59, a57, c58, fr_join ⟨rfl, rfl, rfl, rfl, rfl, rfl, rfl, trivial⟩, rfl, H.sel' [2, 0] rfl rfl⟩
      ·replace h := bif_f hb50 h
       refine c_exit (q_then_x (q_then_x (q_blk_hit ?_)))
       obtain rfl := sj h
       obtain rfl := hres _ rfl
       exact ⟨rfl, _, σ47, a48, c49, fr_join ⟨rfl, rfl, rfl, rfl, trivial⟩, rfl, H.sel' [0, 1] rfl rfl⟩
     ·clear hj
      have h := h'
      clear h' H
      rintro e a w ⟨rfl, ρ, σ60, a61, c62, rfl, rfl, H⟩
      refine q_blk (q_then (rg (st (v := (I (w64 (s37.2 + 1)))) (rv_add (a := s37.2) (b := 1) rfl rfl) (sm (I (w64 (s37.2 + 1))) rfl (w_end (q_then ?_))))))
      obtain rfl := sj h
      exact ⟨_, rfl, _, σ60, a61, c62, fr_join ⟨rfl, rfl, rfl, rfl, trivial⟩, rfl, H.sel' [0, 1] rfl rfl⟩
    ·replace h := bif_f hb41 h
     refine c_exit (q_then_x (q_then_x (q_blk_hit ?_)))
     obtain rfl := sj h
     obtain rfl := hres _ rfl
     exact ⟨rfl, _, σ38, a39, c40, fr_join ⟨rfl, trivial⟩, rfl, H.sel' [1] rfl rfl⟩
   ·clear hj
    have h := h'
    clear h' H
    rintro e a w ⟨rfl, ρ, σ63, a64, c65, rfl, rfl, H⟩
    refine q_then (c_seq (rg (sm (Sl a64 o36 c65) rfl (sa (Sl a64 o36 c65) rfl (w_end (q_then (c_ret ?_)))))))
    obtain rfl := sj h
    exact fin_ret (v := (Sl a64 o36 c65)) (results_ok Tryz.results55 (res_tmp (v := (Sl a64 o36 c65)) rfl res_nil) rfl) ⟨a64, c65, rfl, rfl⟩ (H.sel' [0] rfl rfl)

theorem c_impl_hitHeap_Push__impl_Hit {Cl : List (Int × Int)} {Bg : Int × Int} {Cm : Option Addr} {Cn : Nat} {Cp Cq Cr : Nat} {Cs Ct : List Value} {r : (List (Int × Int))} (h : M.impl_hitHeap_Push__impl_Hit Cl Bg = some r) :
    Cal2 Tryz.prog 251 [(pt Cq Cr), (.iface 43 (.agg #[(I Bg.1), (I Bg.2)]))] [Ch.bx Cp Cq Cr [(Sl Cm Cl Cn)] Cs Ct, Ch.own 0 0 (Sl Cm Cl Cn) Cl] (fun n0 v L => ∃ (az1 : Option Addr), ∃ (cz2 : Nat), v = (.tuple #[]) ∧ L = [Ch.bx Cp Cq Cr [(Sl az1 r cz2)] Cs Ct, Ch.own 0 0 (Sl az1 r cz2) r]) := by
 refine cal2 (n := 13) Tryz.func251 rfl rfl rfl rfl ?_
 intro S0 σ0 n0 hn0 H
 unfold M.impl_hitHeap_Push__impl_Hit at h
 have hc1 := H.cell (u := (Sl Cm Cl Cn)) (o' := Cr) 0 0 rfl rfl rfl
 revert h; refine br fun xs3 hx4 h => ?_
 have Hs := H
 refine rg2 (σ := σ0) (Nm := (Nat) × (Option Addr) × (Nat)) 8 [6, 7] [[false, false], [true, false], [true, true]] [[(0, 0), (1, 1), (2, 2)], [(0, 0), (1, 1)], [(0, 0), (1, 1)], [(0, 0), (1, 1)], [(0, 0)], [(0, 0)], [(0, 1)], [(1, 2)]] 2 [fun ((b2, a5, c6) : (Nat) × (Option Addr) × (Nat)) => fun σm => Hp S0 σ0 σm [Ch.bx Cp Cq Cr [(Sl Cm Cl Cn)] Cs Ct, Ch.own 0 0 (Sl Cm Cl Cn) Cl] ∧ Md (cov []) σ0 σm, fun ((b2, a5, c6) : (Nat) × (Option Addr) × (Nat)) => fun σm => Hp S0 σ0 σm [Ch.own n0 n0 (Sl (some ⟨b2, 0, none⟩) ([(Bg.1, Bg.2)] : List (Int × Int)) 1) ([(Bg.1, Bg.2)] : List (Int × Int)), Ch.bx Cp Cq Cr [(Sl Cm Cl Cn)] Cs Ct, Ch.own 0 0 (Sl Cm Cl Cn) Cl] ∧ Md (cov []) σ0 σm, fun ((b2, a5, c6) : (Nat) × (Option Addr) × (Nat)) => fun σm => Hp S0 σ0 σm [Ch.own 0 0 (Sl a5 xs3 c6) xs3, Ch.own n0 n0 (Sl (some ⟨b2, 0, none⟩) ([(Bg.1, Bg.2)] : List (Int × Int)) 1) ([(Bg.1, Bg.2)] : List (Int × Int)), Ch.bx Cp Cq Cr [(Sl Cm Cl Cn)] Cs Ct] ∧ Md (fun i => (cov []) i ∨ (fun b => blk (Sl Cm Cl Cn) = some b) i) σ0 σm] [fun ((b2, a5, c6) : (Nat) × (Option Addr) × (Nat)) => (pt Cq Cr), fun ((b2, a5, c6) : (Nat) × (Option Addr) × (Nat)) => (pt Cq Cr), fun ((b2, a5, c6) : (Nat) × (Option Addr) × (Nat)) => (pt Cq Cr), fun ((b2, a5, c6) : (Nat) × (Option Addr) × (Nat)) => (Sl Cm Cl Cn), fun ((b2, a5, c6) : (Nat) × (Option Addr) × (Nat)) => (.iface 43 (.agg #[(I Bg.1), (I Bg.2)])), fun ((b2, a5, c6) : (Nat) × (Option Addr) × (Nat)) => (.agg #[(I Bg.1), (I Bg.2)]), fun ((b2, a5, c6) : (Nat) × (Option Addr) × (Nat)) => (Sl (some ⟨b2, 0, none⟩) ([(Bg.1, Bg.2)] : List (Int × Int)) 1), fun ((b2, a5, c6) : (Nat) × (Option Addr) × (Nat)) => (Sl a5 xs3 c6)] (0, none, 0) (by kernel_rfl) (by kernel_rfl) ?_ ?_ ?_
 ·intro σm m0
  exact ⟨H.grow (m0.mono fun _ h => h.elim), m0⟩
 ·refine ac rfl (by
    intro k; rintro ⟨b2, a5, c6⟩ ρ σm hJ hoff hdep
    have e0 := look_off (N := 13) (hoff 0 rfl) rfl
    exact dp_v (v := (pt Cq Cr)) wn (rv_move e0) rfl hJ) ?_
  refine ac rfl (by
    intro k; rintro ⟨b2, a5, c6⟩ ρ σm hJ hoff hdep
    have e0 := look_off (N := 13) (hoff 0 rfl) rfl
    exact dp_v (v := (pt Cq Cr)) wn (rv_move e0) rfl hJ) ?_
  refine ac rfl (by
    intro k; rintro ⟨b2, a5, c6⟩ ρ σm hJ hoff hdep
    have e5 := hdep 1 rfl rfl 5 rfl
    exact dp_v (v := (pt Cq Cr)) wn (rv_nilCheck e5) rfl hJ) ?_
  refine all_cons (by
    refine ⟨?_, ?_⟩
    ·rintro ⟨b2, a5, c6⟩ ρ σm hJ hoff hdep
     have e6 := hdep 2 rfl rfl 6 rfl
     obtain ⟨H, m⟩ := id hJ
     have hc1 := H.cell (u := (Sl Cm Cl Cn)) (o' := Cr) 0 0 rfl rfl rfl
     exact dp_v (v := (Sl Cm Cl Cn)) wn (rv_load1 Tryz.underlying132 rfl e6 hc1) rfl hJ
    refine ⟨?_, ?_⟩
    ·rintro ⟨b2, a5, c6⟩ ρ σm hJ hoff hdep
     have e6 := hdep 2 rfl rfl 6 rfl
     obtain ⟨H, m⟩ := id hJ
     have hc1 := H.cell (u := (Sl Cm Cl Cn)) (o' := Cr) 1 0 rfl rfl rfl
     exact dp_v (v := (Sl Cm Cl Cn)) wn (rv_load1 Tryz.underlying132 rfl e6 hc1) rfl hJ
    trivial) ?_
  refine ac rfl (by
    intro k; rintro ⟨b2, a5, c6⟩ ρ σm hJ hoff hdep
    have e1 := look_off (N := 13) (hoff 1 rfl) rfl
    exact dp_v (v := (.iface 43 (.agg #[(I Bg.1), (I Bg.2)]))) wn (rv_move e1) rfl hJ) ?_
  refine ac rfl (by
    intro k; rintro ⟨b2, a5, c6⟩ ρ σm hJ hoff hdep
    have e8 := hdep 4 rfl rfl 8 rfl
    exact dp_v (v := (.agg #[(I Bg.1), (I Bg.2)])) wn (rv_typeAssert Tryz.underlying43 rfl e8) rfl hJ) ?_
  refine all_cons (by
    refine ⟨?_, ?_⟩
    ·rintro ⟨b2, a5, c6⟩ ρ σm hJ hoff hdep
     have e9 : look 13 ρ 9 = (.agg #[(I Bg.1), (I Bg.2)]) := hdep 5 rfl rfl 9 rfl
     obtain ⟨H, m⟩ := id hJ
     refine dp_ex wn (ex_buildSlice (el := n0) (xs := ([(Bg.1, Bg.2)] : List (Int × Int))) (ps := [(0, (.agg #[(I Bg.1), (I Bg.2)]))]) (cs := [(I Bg.1), (I Bg.2)]) H hn0 Tryz.underlying132 ti43 rfl (by show [(0, look 13 ρ 9)] = _; rw [e9]) (by kernel_rfl) (.cons (c := [(I Bg.1), (I Bg.2)]) ⟨[(I Bg.1)], [(I Bg.2)], rfl, rfl, rfl⟩ (.nil)) rfl) ?_
     rintro _ σq ⟨b2x, rfl, H2, m2⟩
     exact ⟨_, (b2x, a5, c6), rfl, rfl, ⟨H2.sel' [0, 1, 2] rfl rfl, m.comp0 m2⟩, stab [0, 1, 2, 3, 4, 5] (by kernel_rfl) ⟨rfl, rfl, rfl, rfl, rfl, rfl, trivial⟩⟩
    trivial) ?_
  refine all_cons (by
    refine ⟨?_, ?_⟩
    ·rintro ⟨b2, a5, c6⟩ ρ σm hJ hoff hdep
     have e7 := hdep 3 rfl rfl 7 rfl
     have e10 := hdep 6 rfl rfl 10 rfl
     obtain ⟨H, m⟩ := id hJ
     refine dp_ex wn (ex_append H (i := 2) rfl Tryz.underlying132 Tryz.underlying132 ti43 rfl rfl (by decide) ((H.own 0 rfl).rd.sc) hx4 (Nat.zero_le _) e7 e10) ?_
     rintro _ σq ⟨a5x, c6x, rfl, H2, m2⟩
     exact ⟨_, (b2, a5x, c6x), rfl, rfl, ⟨H2.sel' [0, 1, 2] rfl rfl, m.comp m2⟩, stab [0, 1, 2, 3, 4, 5, 6] (by kernel_rfl) ⟨rfl, rfl, rfl, rfl, rfl, rfl, rfl, trivial⟩⟩
    trivial) ?_
  exact all_nil
 ·rintro ⟨b2, a5, c6⟩ ρ σ7 hJ hoff hrel
  have e0 := look_off (N := 13) (hoff 0 rfl) rfl
  have e4 := hrel 0 rfl 4 rfl
  have e11 := hrel 7 rfl 11 rfl
  obtain ⟨H, -⟩ := (show Hp S0 σ0 σ7 [Ch.own 0 0 (Sl a5 xs3 c6) xs3, Ch.own n0 n0 (Sl (some ⟨b2, 0, none⟩) ([(Bg.1, Bg.2)] : List (Int × Int)) 1) ([(Bg.1, Bg.2)] : List (Int × Int)), Ch.bx Cp Cq Cr [(Sl Cm Cl Cn)] Cs Ct] ∧ Md (fun i => (cov []) i ∨ (fun b => blk (Sl Cm Cl Cn) = some b) i) σ0 σ7 from hJ)
  clear hJ Hs
  rw [fr_lookL (L := [(0, (pt Cq Cr)), (4, (pt Cq Cr)), (11, (Sl a5 xs3 c6))]) ⟨e0, e4, e11, trivial⟩]
  clear hoff hrel e0 e4 e11
  refine st (v := (pt Cq Cr)) (rv_nilCheck rfl) ?_
  refine st_exS (ex_store_box (k := 0) (cs := [(Sl Cm Cl Cn)]) (vs := [(Sl a5 xs3 c6)]) (cs' := [(Sl a5 xs3 c6)]) H (i := 2) rfl ti132 rfl rfl rfl rfl rfl (Nat.le_of_ble_eq_true rfl) (by simp [plain]) rfl) wn ?_
  rintro σ8 ⟨H, -⟩
  refine w_end ?_
  obtain rfl := sj h
  exact fin_end (v := (.tuple #[])) (results_ok Tryz.results251 res_nil rfl) ⟨a5, c6, rfl, rfl⟩ (H.sel' [0, 1] rfl rfl)

theorem c_impl_hitHeap_Len {Cl : List (Int × Int)} {Cm : Option Addr} {Cn : Nat} {r : Int} (h : M.impl_hitHeap_Len Cl = some r) :
    Cal2 Tryz.prog 246 [(Sl Cm Cl Cn)] [Ch.ro 0 (Sl Cm Cl Cn) Cl] (fun n0 v L => v = (I r) ∧ L = []) := by
 refine cal2 (n := 5) Tryz.func246 rfl rfl rfl rfl ?_
 intro S0 σ0 n0 hn0 H
 unfold M.impl_hitHeap_Len at h
 refine c_seq (rg (sa (I 0) rfl (w_end (q_then (c_seq (rg (sm (Sl Cm Cl Cn) rfl (st (v := (I (Cl.length : Int))) (rv_len Tryz.underlying132 rfl) (sa (I (Cl.length : Int)) rfl (w_end (q_then ?_)))))))))))
 refine c_ret ?_
 obtain rfl := sj h
 exact fin_ret (v := (I (Cl.length : Int))) (results_ok Tryz.results246 (res_tmp (v := (I (Cl.length : Int))) rfl res_nil) rfl) ⟨rfl, rfl⟩ (H.sel' [] rfl rfl)

theorem c_cmp_isNaN_int {Bd : Int}  {r : Bool} (h : M.cmp_isNaN_int Bd = some r) :
    Cal2 Tryz.prog 175 [(I Bd)] [] (fun n0 v L => v = (B r) ∧ L = []) := by
 refine cal2 (n := 6) Tryz.func175 rfl rfl rfl rfl ?_
 intro S0 σ0 n0 hn0 H
 unfold M.cmp_isNaN_int at h
 refine c_seq (rg (sa (B false) rfl (w_end (q_then (c_seq (rg (sm (I Bd) rfl (sm (I Bd) rfl (st (v := (B (Bd != Bd))) (rv_neq (a := Bd) (b := Bd) rfl rfl) (sa (B (Bd != Bd)) rfl (w_end ?_)))))))))))
 refine q_then (c_ret ?_)
 obtain rfl := sj h
 exact fin_ret (v := (B (Bd != Bd))) (results_ok Tryz.results175 (res_tmp (v := (B (Bd != Bd))) rfl res_nil) rfl) ⟨rfl, rfl⟩ (H.sel' [] rfl rfl)

theorem c_cmp_Compare_int {Bd : Int} {Cu : Int}  {r : Int} (h : M.cmp_Compare_int Bd Cu = some r) :
    Cal2 Tryz.prog 145 [(I Bd), (I Cu)] [] (fun n0 v L => v = (I r) ∧ L = []) := by
 refine cal2 (n := 20) Tryz.func145 rfl rfl rfl rfl ?_
 intro S0 σ0 n0 hn0 H
 unfold M.cmp_Compare_int at h
 refine c_seq (rg (sa (I 0) rfl (w_end (q_then (c_seq (rg (sm (I Bd) rfl ?_)))))))
 revert h; refine br fun r1 hx2 h => ?_
 have hc3 := c_cmp_isNaN_int hx2
 refine st_call (cx_call hc3 (ent_f hc3.fn rfl) hn0 (H.sel' [] rfl rfl : Hp S0 σ0 _ ([] ++ _))) wn ?_
 rintro _ σ4 ⟨_, ⟨rfl, rfl⟩, H, -⟩
 replace H : Hp _ _ _ [] := H
 refine sa (B r1) rfl (w_end (q_then (c_seq (rg (sm (I Cu) rfl ?_)))))
 revert h; refine br fun r5 hx6 h => ?_
 have hc7 := c_cmp_isNaN_int hx6
 refine st_call (cx_call hc7 (ent_f hc7.fn rfl) hn0 (H.sel' [] rfl rfl : Hp S0 σ0 _ ([] ++ _))) wn ?_
 rintro _ σ8 ⟨_, ⟨rfl, rfl⟩, H, -⟩
 replace H : Hp _ _ _ [] := H
 refine sa (B r5) rfl (w_end (q_then (c_seq (c_seq (rg (sm (B r1) rfl (w_end (q_then ?_))))))))
 refine cd_cond r1 rfl (fun hb9 => ?_) (fun hb9 => ?_)
 ·replace h := bif_t hb9 h
  refine c_seq (c_seq (rg (sm (B r5) rfl (w_end (q_then ?_)))))
  refine cd_cond r5 rfl (fun hb10 => ?_) (fun hb10 => ?_)
  ·replace h := bif_t hb10 h
   refine c_seq (rg (sa (I 0) rfl (w_end (q_then (c_ret (q_then_r (q_then_r ?_)))))))
   obtain rfl := sj h
   exact fin_ret (v := (I 0)) (results_ok Tryz.results145 (res_tmp (v := (I 0)) rfl res_nil) rfl) ⟨rfl, rfl⟩ (H.sel' [] rfl rfl)
  ·replace h := bif_f hb10 h
   refine c_skip (q_then (c_seq (rg (sa (I (-1)) rfl (w_end (q_then (c_ret (q_then_r ?_))))))))
   obtain rfl := sj h
   exact fin_ret (v := (I (-1))) (results_ok Tryz.results145 (res_tmp (v := (I (-1))) rfl res_nil) rfl) ⟨rfl, rfl⟩ (H.sel' [] rfl rfl)
 ·replace h := bif_f hb9 h
  refine c_skip (q_then (c_seq (c_seq (rg (sm (B r5) rfl (w_end (q_then ?_)))))))
  refine cd_cond r5 rfl (fun hb11 => ?_) (fun hb11 => ?_)
  ·replace h := bif_t hb11 h
   refine c_seq (rg (sa (I 1) rfl (w_end (q_then (c_ret (q_then_r ?_))))))
   obtain rfl := sj h
   exact fin_ret (v := (I 1)) (results_ok Tryz.results145 (res_tmp (v := (I 1)) rfl res_nil) rfl) ⟨rfl, rfl⟩ (H.sel' [] rfl rfl)
  ·replace h := bif_f hb11 h
   refine c_skip (q_then (c_seq (c_seq (rg (sm (I Bd) rfl (sm (I Cu) rfl (st (v := (B (decide (Bd < Cu)))) (rv_lss (a := Bd) (b := Cu) rfl rfl) (w_end (q_then ?_)))))))))
   refine cd_cond (decide (Bd < Cu)) rfl (fun hb12 => ?_) (fun hb12 => ?_)
   ·replace h := bif_t hb12 h
    refine c_seq (rg (sa (I (-1)) rfl (w_end (q_then (c_ret (q_then_r ?_))))))
    obtain rfl := sj h
    exact fin_ret (v := (I (-1))) (results_ok Tryz.results145 (res_tmp (v := (I (-1))) rfl res_nil) rfl) ⟨rfl, rfl⟩ (H.sel' [] rfl rfl)
   ·replace h := bif_f hb12 h
    refine c_skip (q_then (c_seq (c_seq (rg (sm (I Bd) rfl (sm (I Cu) rfl (st (v := (B (decide (Cu < Bd)))) (rv_gtr (a := Bd) (b := Cu) rfl rfl) (w_end (q_then ?_)))))))))
    refine cd_cond (decide (Cu < Bd)) rfl (fun hb13 => ?_) (fun hb13 => ?_)
    ·replace h := bif_t hb13 h
     refine c_seq (rg (sa (I 1) rfl (w_end (q_then (c_ret (q_then_r ?_))))))
     obtain rfl := sj h
     exact fin_ret (v := (I 1)) (results_ok Tryz.results145 (res_tmp (v := (I 1)) rfl res_nil) rfl) ⟨rfl, rfl⟩ (H.sel' [] rfl rfl)
    ·replace h := bif_f hb13 h
     refine c_skip (q_then (c_seq (rg (sa (I 0) rfl (w_end (q_then (c_ret ?_)))))))
     obtain rfl := sj h
     exact fin_ret (v := (I 0)) (results_ok Tryz.results145 (res_tmp (v := (I 0)) rfl res_nil) rfl) ⟨rfl, rfl⟩ (H.sel' [] rfl rfl)

theorem c_cmp_Or_int {Cv : List Int} {Cw : Option Addr} {Cy : Nat} {r : Int} (h : M.cmp_Or_int Cv = some r) :
    Cal2 Tryz.prog 147 [(Sl Cw Cv Cy)] [Ch.ro 0 (Sl Cw Cv Cy) Cv] (fun n0 v L => v = (I r) ∧ L = []) := by
 refine cal2 (n := 18) Tryz.func147 rfl rfl rfl rfl ?_
 intro S0 σ0 n0 hn0 H
 unfold M.cmp_Or_int at h
 refine c_seq (rg (sa (I 0) rfl (w_end (q_then (c_seq (rg (sa (I 0) rfl (w_end (q_then (c_seq (c_seq ?_)))))))))))
 refine rg (sm (Sl Cw Cv Cy) rfl (st (v := (I (Cv.length : Int))) (rv_len Tryz.underlying27 rfl) (sm (I 0) rfl (w_end (q_then ?_)))))
 obtain ⟨o1, hj, h'⟩ := bind_some h
 clear h
 refine c_cut (fun e a w => (∃ t, o1 = (.inl t) ∧ e = .normal ∧ ∃ (ρ : Nat → Value) (σ : St), a = fr 18 (updL ρ [(3, (I 0))]) ∧ w = σ.w ∧ Hp S0 σ0 σ []) ∨ (∃ t, o1 = (.inr t) ∧ e = .ret ∧ ∃ (ρ : Nat → Value) (σ : St), a = fr 18 (updL ρ [(2, (I t))]) ∧ w = σ.w ∧ Hp S0 σ0 σ [])) ?_ ?_
 ·clear h'
  rename _ = some o1 => h
  refine c_blk (wp_loopM _ h (fun s2 a w => ∃ (ρ : Nat → Value) (σ : St), a = fr 18 (updL ρ [(3, (I 0)), (6, (Sl Cw Cv Cy)), (7, (I (Cv.length : Int))), (8, (I s2))]) ∧ w = σ.w ∧ Hp S0 σ0 σ [Ch.ro 0 (Sl Cw Cv Cy) Cv]) ⟨_, σ0, fr_join ⟨rfl, rfl, rfl, rfl, trivial⟩, rfl, H.sel' [0] rfl rfl⟩ ?_)
  clear h H
  rintro s2 a w o ⟨ρ, σ3, rfl, rfl, H⟩ h hres
  refine c_seq (rg (st (v := (B (decide (s2 < (Cv.length : Int))))) (rv_lss (a := s2) (b := (Cv.length : Int)) rfl rfl) (w_end (q_then (c_seq ?_)))))
  refine cd_cond (decide (s2 < (Cv.length : Int))) rfl (fun hb4 => ?_) (fun hb4 => ?_)
  ·replace h := bif_t hb4 h
   refine c_skip (q_then (c_seq (c_blk (c_seq (rg ?_)))))
   revert h; refine br fun x5 hx6 h => ?_
   obtain ⟨b8, o9, hi7, -⟩ := (H.ro 0 rfl).ix hx6
   refine st (v := (pt b8 o9)) (rv_ix Tryz.underlying27 ti3 rfl rfl hi7) ?_
   have hc10 := ((H.ro 0 rfl).at hx6 hi7).int
   refine st (v := (I x5)) (rv_load1 Tryz.underlying3 rfl rfl hc10) (sa (I x5) rfl (w_end (q_then (c_seq (rg (sm (I x5) rfl (sm (I 0) rfl (st (v := (B (x5 != 0))) (rv_neq (a := x5) (b := 0) rfl rfl) (w_end (q_then ?_))))))))))
   refine cd_cond (x5 != 0) rfl (fun hb11 => ?_) (fun hb11 => ?_)
   ·replace h := bif_t hb11 h
    refine c_seq (rg (sm (I x5) rfl (sa (I x5) rfl (w_end (q_then (c_ret (q_blk_r (q_then_r (q_then_r (q_blk_r ?_))))))))))
    obtain rfl := sj h
    obtain rfl := hres _ rfl
    exact .inr (⟨_, rfl, rfl, _, σ3, fr_join ⟨rfl, trivial⟩, rfl, H.sel' [] rfl rfl⟩)
   ·replace h := bif_f hb11 h
    refine c_skip (q_blk (q_then (rg (st (v := (I (w64 (s2 + 1)))) (rv_add (a := s2) (b := 1) rfl rfl) (sm (I (w64 (s2 + 1))) rfl (w_end (q_then ?_)))))))
    obtain rfl := sj h
    exact ⟨_, rfl, _, σ3, fr_join ⟨rfl, rfl, rfl, rfl, trivial⟩, rfl, H.sel' [0] rfl rfl⟩
  ·replace h := bif_f hb4 h
   refine c_exit (q_then_x (q_then_x (q_blk_hit ?_)))
   obtain rfl := sj h
   obtain rfl := hres _ rfl
   exact .inl ⟨_, rfl, rfl, _, σ3, fr_join ⟨rfl, trivial⟩, rfl, H.sel' [] rfl rfl⟩
 ·clear hj
  have h := h'
  clear h' H
  rintro e a w (⟨t12, rfl, rfl, ρ, σ13, rfl, rfl, H⟩ | ⟨t14, rfl, rfl, ρ, σ15, rfl, rfl, H⟩)
  ·replace h := selim_l h
   refine q_then (c_seq (rg (sm (I 0) rfl (sa (I 0) rfl (w_end (q_then (c_ret ?_)))))))
   obtain rfl := sj h
   exact fin_ret (v := (I 0)) (results_ok Tryz.results147 (res_tmp (v := (I 0)) rfl res_nil) rfl) ⟨rfl, rfl⟩ (H.sel' [] rfl rfl)
  ·replace h := selim_r h
   refine q_then_r ?_
   obtain rfl := sj h
   exact fin_ret (v := (I t14)) (results_ok Tryz.results147 (res_tmp (v := (I t14)) rfl res_nil) rfl) ⟨rfl, rfl⟩ (H.sel' [] rfl rfl)

theorem c_impl_compareHits {Cz : Int × Int} {Da : Int × Int}  {r : Int} (h : M.impl_compareHits Cz Da = some r) :
    Cal2 Tryz.prog 98 [(.agg #[(I Cz.1), (I Cz.2)]), (.agg #[(I Da.1), (I Da.2)])] [] (fun n0 v L => v = (I r) ∧ L = []) := by
 refine cal2 (n := 17) Tryz.func98 rfl rfl rfl rfl ?_
 intro S0 σ0 n0 hn0 H
 unfold M.impl_compareHits at h
 refine c_seq (rg (st_ex (ex_box (cs := [(I Cz.1), (I Cz.2)]) H hn0 rfl rfl) wn ?_))
 rintro _ σ2 ⟨b1, rfl, H, -⟩
 refine st_ex (ex_box (cs := [(I Da.1), (I Da.2)]) H hn0 rfl rfl) wn ?_
 rintro _ σ4 ⟨b3, rfl, H, -⟩
 refine sa (I 0) rfl (w_end (q_then (c_seq ?_)))
 have hc5 := H.cell (u := (I Cz.2)) (o' := 1) 1 1 rfl rfl rfl
 have hc6 := H.cell (u := (I Da.2)) (o' := 1) 0 1 rfl rfl rfl
 revert h; refine br fun r7 hx8 h => ?_
 have hc9 := c_cmp_Compare_int hx8
 have hc10 := H.cell (u := (I Cz.1)) (o' := 0) 1 0 rfl rfl rfl
 have hc11 := H.cell (u := (I Da.1)) (o' := 0) 0 0 rfl rfl rfl
 have Hs := H
 refine rg2 (σ := σ4) (Nm := Unit) 9 [4] [[false], [true]] [[(0, 0)], [(0, 0)], [(0, 0)], [(0, 0)], [(0, 1)], [(0, 0), (1, 1)], [(0, 0), (1, 1)], [(0, 0), (1, 1)], [(0, 0), (1, 1)]] 1 [fun _ => fun σm => Hp S0 σ0 σm [Ch.bx n0 b3 0 [(I Da.1), (I Da.2)] [] [], Ch.bx n0 b1 0 [(I Cz.1), (I Cz.2)] [] []] ∧ Md (cov []) σ4 σm, fun _ => fun σm => Hp S0 σ0 σm [Ch.bx n0 b3 0 [(I Da.1), (I Da.2)] [] [], Ch.bx n0 b1 0 [(I Cz.1), (I Cz.2)] [] []] ∧ Md (cov []) σ4 σm] [fun _ => (pt b1 1), fun _ => (I Cz.2), fun _ => (pt b3 1), fun _ => (I Da.2), fun _ => (I r7), fun _ => (pt b1 0), fun _ => (I Cz.1), fun _ => (pt b3 0), fun _ => (I Da.1)] () (by kernel_rfl) (by kernel_rfl) ?_ ?_ ?_
 ·intro σm m0
  exact ⟨H.grow (m0.mono fun _ h => h.elim), m0⟩
 ·refine ac rfl (by
    intro k _nm ρ σm hJ hoff hdep
    have e2 := look_off (N := 17) (hoff 2 rfl) rfl
    exact dp_v (v := (pt b1 1)) wn (rv_fieldAddr (off := 1) (ft := 3) Tryz.underlying43 rfl ti3 rfl e2) rfl hJ) ?_
  refine all_cons (by
    refine ⟨?_, ?_⟩
    ·intro _nm ρ σm hJ hoff hdep
     have e5 := hdep 0 rfl rfl 5 rfl
     obtain ⟨H, m⟩ := id hJ
     have hc5 := H.cell (u := (I Cz.2)) (o' := 1) 1 1 rfl rfl rfl
     exact dp_v (v := (I Cz.2)) wn (rv_load1 Tryz.underlying3 rfl e5 hc5) rfl hJ
    trivial) ?_
  refine ac rfl (by
    intro k _nm ρ σm hJ hoff hdep
    have e3 := look_off (N := 17) (hoff 3 rfl) rfl
    exact dp_v (v := (pt b3 1)) wn (rv_fieldAddr (off := 1) (ft := 3) Tryz.underlying43 rfl ti3 rfl e3) rfl hJ) ?_
  refine all_cons (by
    refine ⟨?_, ?_⟩
    ·intro _nm ρ σm hJ hoff hdep
     have e7 := hdep 2 rfl rfl 7 rfl
     obtain ⟨H, m⟩ := id hJ
     have hc6 := H.cell (u := (I Da.2)) (o' := 1) 0 1 rfl rfl rfl
     exact dp_v (v := (I Da.2)) wn (rv_load1 Tryz.underlying3 rfl e7 hc6) rfl hJ
    trivial) ?_
  refine all_cons (by
    refine ⟨?_, ?_⟩
    ·intro _nm ρ σm hJ hoff hdep
     have e6 : look 17 ρ 6 = (I Cz.2) := hdep 1 rfl rfl 6 rfl
     have e8 : look 17 ρ 8 = (I Da.2) := hdep 3 rfl rfl 8 rfl
     obtain ⟨H, m⟩ := id hJ
     refine dp_cx wn (cx_call hc9 (ent_f hc9.fn (by show [look 17 ρ 6, look 17 ρ 8] = _; rw [e6, e8])) hn0 (H.sel' [0, 1] rfl rfl : Hp S0 σ0 _ ([] ++ _))) ?_
     rintro _ σq ⟨_, ⟨rfl, rfl⟩, H2, m2⟩
     exact ⟨_, (), rfl, rfl, ⟨H2.sel' [0, 1] rfl rfl, m.comp0 m2⟩, stab [0, 1, 2, 3, 5, 6, 7, 8] (by kernel_rfl) ⟨rfl, rfl, rfl, rfl, rfl, rfl, rfl, rfl, trivial⟩⟩
    trivial) ?_
  refine ac rfl (by
    intro k _nm ρ σm hJ hoff hdep
    have e2 := look_off (N := 17) (hoff 2 rfl) rfl
    exact dp_v (v := (pt b1 0)) wn (rv_fieldAddr (off := 0) (ft := 3) Tryz.underlying43 rfl ti3 rfl e2) rfl hJ) ?_
  refine all_cons (by
    refine ⟨?_, ?_⟩
    ·intro _nm ρ σm hJ hoff hdep
     have e10 := hdep 5 rfl rfl 10 rfl
     obtain ⟨H, m⟩ := id hJ
     have hc10 := H.cell (u := (I Cz.1)) (o' := 0) 1 0 rfl rfl rfl
     exact dp_v (v := (I Cz.1)) wn (rv_load1 Tryz.underlying3 rfl e10 hc10) rfl hJ
    refine ⟨?_, ?_⟩
    ·intro _nm ρ σm hJ hoff hdep
     have e10 := hdep 5 rfl rfl 10 rfl
     obtain ⟨H, m⟩ := id hJ
     have hc10 := H.cell (u := (I Cz.1)) (o' := 0) 1 0 rfl rfl rfl
     exact dp_v (v := (I Cz.1)) wn (rv_load1 Tryz.underlying3 rfl e10 hc10) rfl hJ
    trivial) ?_
  refine ac rfl (by
    intro k _nm ρ σm hJ hoff hdep
    have e3 := look_off (N := 17) (hoff 3 rfl) rfl
    exact dp_v (v := (pt b3 0)) wn (rv_fieldAddr (off := 0) (ft := 3) Tryz.underlying43 rfl ti3 rfl e3) rfl hJ) ?_
  refine all_cons (by
    refine ⟨?_, ?_⟩
    ·intro _nm ρ σm hJ hoff hdep
     have e12 := hdep 7 rfl rfl 12 rfl
     obtain ⟨H, m⟩ := id hJ
     have hc11 := H.cell (u := (I Da.1)) (o' := 0) 0 0 rfl rfl rfl
     exact dp_v (v := (I Da.1)) wn (rv_load1 Tryz.underlying3 rfl e12 hc11) rfl hJ
    refine ⟨?_, ?_⟩
    ·intro _nm ρ σm hJ hoff hdep
     have e12 := hdep 7 rfl rfl 12 rfl
     obtain ⟨H, m⟩ := id hJ
     have hc11 := H.cell (u := (I Da.1)) (o' := 0) 0 0 rfl rfl rfl
     exact dp_v (v := (I Da.1)) wn (rv_load1 Tryz.underlying3 rfl e12 hc11) rfl hJ
    trivial) ?_
  exact all_nil
 ·intro _nm ρ σ12 hJ hoff hrel
  have e9 := hrel 4 rfl 9 rfl
  have e11 := hrel 6 rfl 11 rfl
  have e13 := hrel 8 rfl 13 rfl
  obtain ⟨H, -⟩ := (show Hp S0 σ0 σ12 [Ch.bx n0 b3 0 [(I Da.1), (I Da.2)] [] [], Ch.bx n0 b1 0 [(I Cz.1), (I Cz.2)] [] []] ∧ Md (cov []) σ4 σ12 from hJ)
  clear hJ Hs
  rw [fr_lookL (L := [(9, (I r7)), (11, (I Cz.1)), (13, (I Da.1))]) ⟨e9, e11, e13, trivial⟩]
  clear hoff hrel e9 e11 e13
  revert h; refine br fun r13 hx14 h => ?_
  have hc15 := c_cmp_Compare_int hx14
  refine st_call (cx_call hc15 (ent_f hc15.fn rfl) hn0 (H.sel' [0, 1] rfl rfl : Hp S0 σ0 _ ([] ++ _))) wn ?_
  rintro _ σ16 ⟨_, ⟨rfl, rfl⟩, H, -⟩
  replace H : Hp _ _ _ [_, _] := H
  refine st_ex (ex_buildSlice (el := n0) (xs := ([r7, r13] : List Int)) (ps := [(0, (I r7)), (1, (I r13))]) (cs := [(I r7), (I r13)]) H hn0 Tryz.underlying27 ti3 rfl rfl (by kernel_rfl) (.cons (c := [(I r7)]) rfl (.cons (c := [(I r13)]) rfl (.nil))) rfl) wn ?_
  rintro _ σ18 ⟨b17, rfl, H, -⟩
  obtain ⟨σ19, hw20, H, -⟩ := H.pub 0 rfl (Nat.le_refl _)
  rw [← hw20]; clear hw20
  replace H := H.roLow 0 0 rfl (Nat.zero_le _)
  revert h; refine br fun r21 hx22 h => ?_
  have hc23 := c_cmp_Or_int (Cw := (some ⟨b17, 0, none⟩)) (Cy := 2) hx22
  refine st_call (cx_call hc23 (ent_f hc23.fn rfl) hn0 (H.sel' [0, 0, 1, 2, 3] rfl rfl : Hp S0 σ0 _ ([_] ++ _))) wn ?_
  rintro _ σ24 ⟨_, ⟨rfl, rfl⟩, H, -⟩
  replace H : Hp _ _ _ [_, _, _, _] := H
  refine sa (I r21) rfl (w_end (q_then (c_ret ?_)))
  obtain rfl := sj h
  exact fin_ret (v := (I r21)) (results_ok Tryz.results98 (res_tmp (v := (I r21)) rfl res_nil) rfl) ⟨rfl, rfl⟩ (H.sel' [] rfl rfl)

theorem c_impl_hitHeap_Less {Cl : List (Int × Int)} {Db : Int} {Dc : Int} {Cm : Option Addr} {Cn : Nat} {r : Bool} (h : M.impl_hitHeap_Less Cl Db Dc = some r) :
    Cal2 Tryz.prog 247 [(Sl Cm Cl Cn), (I Db), (I Dc)] [Ch.ro 0 (Sl Cm Cl Cn) Cl] (fun n0 v L => v = (B r) ∧ L = []) := by
 refine cal2 (n := 17) Tryz.func247 rfl rfl rfl rfl ?_
 intro S0 σ0 n0 hn0 H
 unfold M.impl_hitHeap_Less at h
 refine c_seq (rg (sa (B false) rfl (w_end (q_then (c_seq ?_)))))
 refine rgP (σ := σ0) 8 (by kernel_rfl) (by kernel_rfl) (by kernel_rfl) ?_
 refine sq (v := (Sl Cm Cl Cn)) (rv_move rfl) (sq (v := (I Db)) (rv_move rfl) ?_)
 revert h; refine br fun x1 hx2 h => ?_
 obtain ⟨b4, o5, hi3, -⟩ := (H.ro 0 rfl).ix hx2
 refine sq (v := (pt b4 o5)) (rv_ix Tryz.underlying132 ti43 rfl rfl hi3) ?_
 obtain ⟨_, ⟨_, _, rfl, rfl, rfl⟩, hl6, hc7⟩ := ((H.ro 0 rfl).at hx2 hi3).cells
 refine sq (v := (.agg #[(I x1.1), (I x1.2)])) (rv_load Tryz.underlying43 rfl ti43 rfl hl6 hc7) (sq (v := (Sl Cm Cl Cn)) (rv_move rfl) (sq (v := (I Dc)) (rv_move rfl) ?_))
 revert h; refine br fun x8 hx9 h => ?_
 obtain ⟨b11, o12, hi10, -⟩ := (H.ro 0 rfl).ix hx9
 refine sq (v := (pt b11 o12)) (rv_ix Tryz.underlying132 ti43 rfl rfl hi10) ?_
 obtain ⟨_, ⟨_, _, rfl, rfl, rfl⟩, hl13, hc14⟩ := ((H.ro 0 rfl).at hx9 hi10).cells
 refine sq (v := (.agg #[(I x8.1), (I x8.2)])) (rv_load Tryz.underlying43 rfl ti43 rfl hl13 hc14) (sq_end ?_)
 intro σ15 hm16
 replace H := H.grow (hm16.mono fun _ h => h); clear hm16
 revert h; refine br fun r17 hx18 h => ?_
 have hc19 := c_impl_compareHits hx18
 refine st_call (cx_call hc19 (ent_f hc19.fn rfl) hn0 (H.sel' [0] rfl rfl : Hp S0 σ0 _ ([] ++ _))) wn ?_
 rintro _ σ20 ⟨_, ⟨rfl, rfl⟩, H, -⟩
 replace H : Hp _ _ _ [_] := H
 refine st (v := (B (decide (0 < r17)))) (rv_gtr (a := r17) (b := 0) rfl rfl) (sa (B (decide (0 < r17))) rfl (w_end (q_then (c_ret ?_))))
 obtain rfl := sj h
 exact fin_ret (v := (B (decide (0 < r17)))) (results_ok Tryz.results247 (res_tmp (v := (B (decide (0 < r17)))) rfl res_nil) rfl) ⟨rfl, rfl⟩ (H.sel' [] rfl rfl)

theorem c_impl_hitHeap_Swap {Cl : List (Int × Int)} {Db : Int} {Dc : Int} {Cm : Option Addr} {Cn : Nat} {r : (List (Int × Int))} (h : M.impl_hitHeap_Swap Cl Db Dc = some r) :
    Cal2 Tryz.prog 248 [(Sl Cm Cl Cn), (I Db), (I Dc)] [Ch.own 0 0 (Sl Cm Cl Cn) Cl] (fun n0 v L => v = (.tuple #[]) ∧ L = [Ch.own 0 0 (Sl Cm r Cn) r] ∧ r.length = Cl.length) := by
 refine cal2 (n := 20) Tryz.func248 rfl rfl rfl rfl ?_
 intro S0 σ0 n0 hn0 H
 unfold M.impl_hitHeap_Swap at h
 revert h; refine br fun x1 hx2 h => ?_
 obtain ⟨b4, o5, hi3, -⟩ := (H.own 0 rfl).ix hx2
 obtain ⟨_, ⟨_, _, rfl, rfl, rfl⟩, hl6, hc7⟩ := ((H.own 0 rfl).at hx2 hi3).cells
 revert h; refine br fun x8 hx9 h => ?_
 obtain ⟨b11, o12, hi10, -⟩ := (H.own 0 rfl).ix hx9
 obtain ⟨_, ⟨_, _, rfl, rfl, rfl⟩, hl13, hc14⟩ := ((H.own 0 rfl).at hx9 hi10).cells
 revert h; refine br fun x15 hx16 h => ?_
 obtain ⟨b18, o19, hi17, -⟩ := (H.own 0 rfl).ix hx16
 have Hs := H
 refine rg2 (σ := σ0) (Nm := Unit) 14 [13] [[false], [true]] [[(0, 0)], [(0, 0)], [(0, 0), (1, 1)], [(0, 0), (1, 1)], [(0, 0)], [(0, 0)], [(0, 0)], [(0, 0)], [(0, 0)], [(0, 0)], [(0, 0)], [(0, 0)], [(0, 0)], [(0, 1)]] 1 [fun _ => fun σm => Hp S0 σ0 σm [Ch.own 0 0 (Sl Cm Cl Cn) Cl] ∧ Md (cov []) σ0 σm, fun _ => fun σm => Hp S0 σ0 σm [Ch.own 0 0 (Sl Cm Cl Cn) (Cl.set Db.toNat (x1.1, x1.2))] ∧ Md (fun i => (cov []) i ∨ (fun b => blk (Sl Cm Cl Cn) = some b) i) σ0 σm] [fun _ => (Sl Cm Cl Cn), fun _ => (I Db), fun _ => (Sl Cm Cl Cn), fun _ => (I Dc), fun _ => (Sl Cm Cl Cn), fun _ => (I Dc), fun _ => (pt b4 o5), fun _ => (.agg #[(I x1.1), (I x1.2)]), fun _ => (Sl Cm Cl Cn), fun _ => (I Db), fun _ => (pt b11 o12), fun _ => (.agg #[(I x8.1), (I x8.2)]), fun _ => (pt b18 o19), fun _ => undef] () (by kernel_rfl) (by kernel_rfl) ?_ ?_ ?_
 ·intro σm m0
  exact ⟨H.grow (m0.mono fun _ h => h.elim), m0⟩
 ·refine ac rfl (by
    intro k _nm ρ σm hJ hoff hdep
    have e0 := look_off (N := 20) (hoff 0 rfl) rfl
    exact dp_v (v := (Sl Cm Cl Cn)) wn (rv_move e0) rfl hJ) ?_
  refine ac rfl (by
    intro k _nm ρ σm hJ hoff hdep
    have e1 := look_off (N := 20) (hoff 1 rfl) rfl
    exact dp_v (v := (I Db)) wn (rv_move e1) rfl hJ) ?_
  refine ac rfl (by
    intro k _nm ρ σm hJ hoff hdep
    have e0 := look_off (N := 20) (hoff 0 rfl) rfl
    exact dp_v (v := (Sl Cm Cl Cn)) wn (rv_move e0) rfl hJ) ?_
  refine ac rfl (by
    intro k _nm ρ σm hJ hoff hdep
    have e2 := look_off (N := 20) (hoff 2 rfl) rfl
    exact dp_v (v := (I Dc)) wn (rv_move e2) rfl hJ) ?_
  refine ac rfl (by
    intro k _nm ρ σm hJ hoff hdep
    have e0 := look_off (N := 20) (hoff 0 rfl) rfl
    exact dp_v (v := (Sl Cm Cl Cn)) wn (rv_move e0) rfl hJ) ?_
  refine ac rfl (by
    intro k _nm ρ σm hJ hoff hdep
    have e2 := look_off (N := 20) (hoff 2 rfl) rfl
    exact dp_v (v := (I Dc)) wn (rv_move e2) rfl hJ) ?_
  refine ac rfl (by
    intro k _nm ρ σm hJ hoff hdep
    have e10 := hdep 4 rfl rfl 10 rfl
    have e11 := hdep 5 rfl rfl 11 rfl
    exact dp_v (v := (pt b4 o5)) wn (rv_ix Tryz.underlying132 ti43 e10 e11 hi3) rfl hJ) ?_
  refine all_cons (by
    refine ⟨?_, ?_⟩
    ·intro _nm ρ σm hJ hoff hdep
     have e12 := hdep 6 rfl rfl 12 rfl
     obtain ⟨H, m⟩ := id hJ
     obtain ⟨_, ⟨_, _, rfl, rfl, rfl⟩, hl6, hc7⟩ := ((H.own 0 rfl).at hx2 hi3).cells
     exact dp_v (v := (.agg #[(I x1.1), (I x1.2)])) wn (rv_load Tryz.underlying43 rfl ti43 e12 hl6 hc7) rfl hJ
    trivial) ?_
  refine ac rfl (by
    intro k _nm ρ σm hJ hoff hdep
    have e0 := look_off (N := 20) (hoff 0 rfl) rfl
    exact dp_v (v := (Sl Cm Cl Cn)) wn (rv_move e0) rfl hJ) ?_
  refine ac rfl (by
    intro k _nm ρ σm hJ hoff hdep
    have e1 := look_off (N := 20) (hoff 1 rfl) rfl
    exact dp_v (v := (I Db)) wn (rv_move e1) rfl hJ) ?_
  refine ac rfl (by
    intro k _nm ρ σm hJ hoff hdep
    have e14 := hdep 8 rfl rfl 14 rfl
    have e15 := hdep 9 rfl rfl 15 rfl
    exact dp_v (v := (pt b11 o12)) wn (rv_ix Tryz.underlying132 ti43 e14 e15 hi10) rfl hJ) ?_
  refine all_cons (by
    refine ⟨?_, ?_⟩
    ·intro _nm ρ σm hJ hoff hdep
     have e16 := hdep 10 rfl rfl 16 rfl
     obtain ⟨H, m⟩ := id hJ
     obtain ⟨_, ⟨_, _, rfl, rfl, rfl⟩, hl13, hc14⟩ := ((H.own 0 rfl).at hx9 hi10).cells
     exact dp_v (v := (.agg #[(I x8.1), (I x8.2)])) wn (rv_load Tryz.underlying43 rfl ti43 e16 hl13 hc14) rfl hJ
    trivial) ?_
  refine ac rfl (by
    intro k _nm ρ σm hJ hoff hdep
    have e6 := hdep 0 rfl rfl 6 rfl
    have e7 := hdep 1 rfl rfl 7 rfl
    exact dp_v (v := (pt b18 o19)) wn (rv_ix Tryz.underlying132 ti43 e6 e7 hi17) rfl hJ) ?_
  refine all_cons (by
    refine ⟨?_, ?_⟩
    ·intro _nm ρ σm hJ hoff hdep
     have e18 := hdep 12 rfl rfl 18 rfl
     have e13 := hdep 7 rfl rfl 13 rfl
     obtain ⟨H, m⟩ := id hJ
     refine dp_exS wn rfl (ex_store_own (e' := (x1.1, x1.2)) (vs := [(I x1.1), (I x1.2)]) (k := 0) H (i := 0) rfl ti43 hx16 hi17 e18 rfl e13 rfl rfl (Nat.le_of_ble_eq_true rfl) (by simp [plain]) (by rintro _ ⟨_, _, rfl, rfl, rfl⟩; exact ⟨[(I x1.1)], [(I x1.2)], rfl, rfl, rfl⟩)) ?_
     rintro σq ⟨H2, m2⟩
     exact ⟨_, (), rfl, ⟨H2.sel' [0] rfl rfl, m.comp m2⟩, stab [0, 1, 2, 3, 4, 5, 6, 7, 8, 9, 10, 11, 12] (by kernel_rfl) ⟨rfl, rfl, rfl, rfl, rfl, rfl, rfl, rfl, rfl, rfl, rfl, rfl, rfl, trivial⟩⟩
    trivial) ?_
  exact all_nil
 ·intro _nm ρ σ20 hJ hoff hrel
  have e0 := look_off (N := 20) (hoff 0 rfl) rfl
  have e8 := hrel 2 rfl 8 rfl
  have e9 := hrel 3 rfl 9 rfl
  have e17 := hrel 11 rfl 17 rfl
  obtain ⟨H, -⟩ := (show Hp S0 σ0 σ20 [Ch.own 0 0 (Sl Cm Cl Cn) (Cl.set Db.toNat (x1.1, x1.2))] ∧ Md (fun i => (cov []) i ∨ (fun b => blk (Sl Cm Cl Cn) = some b) i) σ0 σ20 from hJ)
  clear hJ Hs
  rw [fr_lookL (L := [(0, (Sl Cm Cl Cn)), (8, (Sl Cm Cl Cn)), (9, (I Dc)), (17, (.agg #[(I x8.1), (I x8.2)]))]) ⟨e0, e8, e9, e17, trivial⟩]
  clear hoff hrel e0 e8 e9 e17
  have hsl : (Sl Cm Cl Cn) = (Sl Cm (Cl.set Db.toNat (x1.1, x1.2)) Cn) := sl_len (by simp)
  rw [hsl]; rw [hsl] at H; clear hsl
  revert h; refine br fun x21 hx22 h => ?_
  obtain ⟨b24, o25, hi23, -⟩ := (H.own 0 rfl).ix hx22
  refine st (v := (pt b24 o25)) (rv_ix Tryz.underlying132 ti43 rfl rfl hi23) ?_
  refine st_exS (ex_store_own (e' := (x8.1, x8.2)) (vs := [(I x8.1), (I x8.2)]) (k := 0) H (i := 0) rfl ti43 hx22 hi23 rfl rfl rfl rfl rfl (Nat.le_of_ble_eq_true rfl) (by simp [plain]) (by rintro _ ⟨_, _, rfl, rfl, rfl⟩; exact ⟨[(I x8.1)], [(I x8.2)], rfl, rfl, rfl⟩)) wn ?_
  rintro σ26 ⟨H, -⟩
  have hsl : (Sl Cm (Cl.set Db.toNat (x1.1, x1.2)) Cn) = (Sl Cm ((Cl.set Db.toNat (x1.1, x1.2)).set Dc.toNat (x8.1, x8.2)) Cn) := sl_len List.length_set.symm
  rw [hsl]; rw [hsl] at H; clear hsl
  refine w_end ?_
  obtain rfl := sj h
  exact fin_end (v := (.tuple #[])) (results_ok Tryz.results248 res_nil rfl) ⟨rfl, rfl, (List.length_set.trans List.length_set)⟩ (H.sel' [0] rfl rfl)

theorem c_container_heap_up__impl_hitHeap {Cl : List (Int × Int)} {Dd : Int} {Cm : Option Addr} {Cn : Nat} {Cp Cq Cr : Nat} {Cs Ct : List Value} {r : (List (Int × Int))} (h : M.container_heap_up__impl_hitHeap Cl Dd = some r) :
    Cal2 Tryz.prog 189 [(.iface 155 (pt Cq Cr)), (I Dd)] [Ch.bx Cp Cq Cr [(Sl Cm Cl Cn)] Cs Ct, Ch.own 0 0 (Sl Cm Cl Cn) Cl] (fun n0 v L => ∃ (az1 : Option Addr), ∃ (cz2 : Nat), v = (.tuple #[]) ∧ L = [Ch.bx Cp Cq Cr [(Sl az1 r cz2)] Cs Ct, Ch.own 0 0 (Sl az1 r cz2) r]) := by
 refine cal2 (n := 23) Tryz.func189 rfl rfl rfl rfl ?_
 intro S0 σ0 n0 hn0 H
 unfold M.container_heap_up__impl_hitHeap at h
 obtain ⟨o1, hj, h'⟩ := bind_some h
 clear h
 refine c_cut (fun e a w => e = .normal ∧ ∃ (ρ : Nat → Value) (σ : St) (aj1 : Option Addr) (cj2 : Nat), a = fr 23 (updL ρ [(0, (.iface 155 (pt Cq Cr)))]) ∧ w = σ.w ∧ Hp S0 σ0 σ [Ch.bx Cp Cq Cr [(Sl aj1 o1 cj2)] Cs Ct, Ch.own 0 0 (Sl aj1 o1 cj2) o1]) ?_ ?_
 ·clear h'
  rename _ = some o1 => h
  refine c_blk (wp_loopM _ h (fun s2 a w => ∃ (ρ : Nat → Value) (σ : St) (aj1 : Option Addr) (cj2 : Nat), a = fr 23 (updL ρ [(0, (.iface 155 (pt Cq Cr))), (1, (I s2.2))]) ∧ w = σ.w ∧ Hp S0 σ0 σ [Ch.bx Cp Cq Cr [(Sl aj1 s2.1 cj2)] Cs Ct, Ch.own 0 0 (Sl aj1 s2.1 cj2) s2.1]) ⟨_, σ0, Cm, Cn, fr_join ⟨rfl, rfl, trivial⟩, rfl, H.sel' [0, 1] rfl rfl⟩ ?_)
  clear h H
  rintro s2 a w o ⟨ρ, σ3, a4, c5, rfl, rfl, H⟩ h hres
  refine c_blk (c_seq (rg (sm (I s2.2) rfl (st (v := (I (w64 (s2.2 - 1)))) (rv_sub (a := s2.2) (b := 1) rfl rfl) ?_))))
  refine st (v := (I (w64 ((w64 (s2.2 - 1)).tdiv 2)))) (rv_quo (a := (w64 (s2.2 - 1))) (b := 2) rfl rfl (by decide)) ?_
  refine sa (I (w64 ((w64 (s2.2 - 1)).tdiv 2))) rfl (w_end (q_then (c_seq (c_seq ?_))))
  obtain ⟨o6, hj, h'⟩ := bind_some h
  clear h
  refine c_cut (fun e a w => e = .normal ∧ ∃ (ρ : Nat → Value) (σ : St), a = fr 23 (updL ρ [(0, (.iface 155 (pt Cq Cr))), (1, (I s2.2)), (4, (I (w64 ((w64 (s2.2 - 1)).tdiv 2)))), (17, (B o6))]) ∧ w = σ.w ∧ Hp S0 σ0 σ [Ch.own 0 0 (Sl a4 s2.1 c5) s2.1, Ch.bx Cp Cq Cr [(Sl a4 s2.1 c5)] Cs Ct]) ?_ ?_
  ·clear h'
   rename _ = some o6 => h
   refine rg (sm (I (w64 ((w64 (s2.2 - 1)).tdiv 2))) rfl (sm (I s2.2) rfl (st (v := (B ((w64 ((w64 (s2.2 - 1)).tdiv 2)) == s2.2))) (rv_eql (a := (w64 ((w64 (s2.2 - 1)).tdiv 2))) (b := s2.2) rfl rfl) (sm (B ((w64 ((w64 (s2.2 - 1)).tdiv 2)) == s2.2)) rfl ?_))))
   rcases Bool.eq_false_or_eq_true ((w64 ((w64 (s2.2 - 1)).tdiv 2)) == s2.2) with hb7 | hb7
   ·replace h := bif_t hb7 h
    refine st_skip (congrArg some hb7) (st_skip (congrArg some hb7) (st_skip (congrArg some hb7) (st_skip (congrArg some hb7) (st_skip (congrArg some hb7) (st (v := (B true)) (rv_pick_t (congrArg B hb7) rfl) (w_end ?_))))))
    obtain rfl := sj h
    exact ⟨rfl, _, σ3, fr_join ⟨rfl, rfl, rfl, rfl, trivial⟩, rfl, H.sel' [1, 0] rfl rfl⟩
   ·replace h := bif_f hb7 h
    refine st_g (v := (.iface 155 (pt Cq Cr))) (congrArg some hb7) (rv_move rfl) (st_g (v := (I s2.2)) (congrArg some hb7) (rv_move rfl) (st_g (v := (I (w64 ((w64 (s2.2 - 1)).tdiv 2)))) (congrArg some hb7) (rv_move rfl) ?_))
    revert h; refine br fun r8 hx9 h => ?_
    have hc10 := c_impl_hitHeap_Less (Cm := a4) (Cn := c5) hx9
    have hle := Nat.le_trans hn0 H.size
    refine st_call (cx_lend (Loan.lend Loan.nil) hc10 (ent_iv hc10.fn (by kernel_rfl) Tryz.underlying155 Tryz.underlying132 rfl rfl (H.cell (u := (Sl a4 s2.1 c5)) (o' := Cr) 0 0 rfl rfl rfl) rfl) (show Hp S0 σ0 _ ([Ch.own 0 0 (Sl a4 s2.1 c5) s2.1] ++ ([] ++ [Ch.bx Cp Cq Cr [(Sl a4 s2.1 c5)] Cs Ct])) from (H.sel' [1, 0] rfl rfl)) (by rintro _ _ _ ⟨rfl, rfl⟩; exact trivial)) (wanted_yes rfl (by exact (congrArg some hb7))) ?_
    rintro _ σ11 ⟨_, ⟨rfl, rfl⟩, H, -, -⟩
    replace H : Hp _ _ _ [_, _] := H
    clear hle
    replace H : Hp _ _ _ [_, _] := H
    refine st_g (v := (B (!r8))) (congrArg some hb7) (rv_not rfl) (st (v := (B (!r8))) (rv_pick_f (congrArg B hb7) rfl) (w_end ?_))
    obtain rfl := sj h
    exact ⟨rfl, _, σ11, fr_join ⟨rfl, rfl, rfl, rfl, trivial⟩, rfl, H.sel' [0, 1] rfl rfl⟩
  ·clear hj
   have h := h'
   clear h' H
   rintro e a w ⟨rfl, ρ, σ12, rfl, rfl, H⟩
   refine q_then ?_
   refine cd_cond o6 rfl (fun hb13 => ?_) (fun hb13 => ?_)
   ·replace h := bif_t hb13 h
    refine c_exit (q_then_x ?_)
    refine q_blk_x (by decide) ?_
    refine q_then_x (q_blk_hit ?_)
    obtain rfl := sj h
    obtain rfl := hres _ rfl
    exact ⟨rfl, _, σ12, a4, c5, fr_join ⟨rfl, trivial⟩, rfl, H.sel' [1, 0] rfl rfl⟩
   ·replace h := bif_f hb13 h
    refine c_skip (q_then (c_seq (rg (sm (.iface 155 (pt Cq Cr)) rfl (sm (I (w64 ((w64 (s2.2 - 1)).tdiv 2))) rfl (sm (I s2.2) rfl ?_))))))
    revert h; refine br fun r14 hx15 h => ?_
    have hc16 := c_impl_hitHeap_Swap (Cm := a4) (Cn := c5) hx15
    refine st_call (cx_call hc16 (ent_iv hc16.fn (by kernel_rfl) Tryz.underlying155 Tryz.underlying132 rfl rfl (H.cell (u := (Sl a4 s2.1 c5)) (o' := Cr) 1 0 rfl rfl rfl) rfl) hn0 (H.sel' [0, 1] rfl rfl : Hp S0 σ0 _ ([_] ++ _))) wn ?_
    rintro _ σ18 ⟨_, ⟨rfl, rfl, hn17⟩, H, -⟩
    replace H : Hp _ _ _ [_, _] := H
    have hsl : (Sl a4 s2.1 c5) = (Sl a4 r14 c5) := sl_len hn17.symm
    try rw [hsl]
    try rw [hsl] at H
    clear hsl
    refine w_end (q_then (rg (sm (I (w64 ((w64 (s2.2 - 1)).tdiv 2))) rfl (sa (I (w64 ((w64 (s2.2 - 1)).tdiv 2))) rfl (w_end (q_blk (q_then ?_)))))))
    obtain rfl := sj h
    exact ⟨_, rfl, _, σ18, a4, c5, fr_join ⟨rfl, rfl, trivial⟩, rfl, H.sel' [1, 0] rfl rfl⟩
 ·clear hj
  have h := h'
  clear h' H
  rintro e a w ⟨rfl, ρ, σ19, a20, c21, rfl, rfl, H⟩
  obtain rfl := sj h
  exact fin_end (v := (.tuple #[])) (results_ok Tryz.results189 res_nil rfl) ⟨a20, c21, rfl, rfl⟩ (H.sel' [0, 1] rfl rfl)

theorem c_container_heap_Push__impl_hitHeap__impl_Hit {Cl : List (Int × Int)} {Bg : Int × Int} {Cm : Option Addr} {Cn : Nat} {Cp Cq Cr : Nat} {Cs Ct : List Value} {r : (List (Int × Int))} (h : M.container_heap_Push__impl_hitHeap__impl_Hit Cl Bg = some r) :
    Cal2 Tryz.prog 160 [(.iface 155 (pt Cq Cr)), (.iface 43 (.agg #[(I Bg.1), (I Bg.2)]))] [Ch.bx Cp Cq Cr [(Sl Cm Cl Cn)] Cs Ct, Ch.own 0 0 (Sl Cm Cl Cn) Cl] (fun n0 v L => ∃ (az1 : Option Addr), ∃ (cz2 : Nat), v = (.tuple #[]) ∧ L = [Ch.bx Cp Cq Cr [(Sl az1 r cz2)] Cs Ct, Ch.own 0 0 (Sl az1 r cz2) r]) := by
 refine cal2 (n := 12) Tryz.func160 rfl rfl rfl rfl ?_
 intro S0 σ0 n0 hn0 H
 unfold M.container_heap_Push__impl_hitHeap__impl_Hit at h
 refine c_seq (rg (sm (.iface 155 (pt Cq Cr)) rfl (sm (.iface 43 (.agg #[(I Bg.1), (I Bg.2)])) rfl ?_)))
 revert h; refine br fun r1 hx2 h => ?_
 have hc3 := c_impl_hitHeap_Push__impl_Hit (Cp := Cp) (Cq := Cq) (Cr := Cr) (Cs := Cs) (Ct := Ct) (Cm := Cm) (Cn := Cn) hx2
 refine st_call (cx_call hc3 (ent_ip hc3.fn (by kernel_rfl) Tryz.underlying155 rfl rfl) hn0 (H.sel' [0, 1] rfl rfl : Hp S0 σ0 _ ([_, _] ++ _))) wn ?_
 rintro _ σ6 ⟨_, ⟨a4, c5, rfl, rfl⟩, H, -⟩
 replace H : Hp _ _ _ [_, _] := H
 refine w_end (q_then (rg (sm (.iface 155 (pt Cq Cr)) rfl (sm (.iface 155 (pt Cq Cr)) rfl ?_))))
 revert h; refine br fun r7 hx8 h => ?_
 have hc9 := c_impl_hitHeap_Len (Cm := a4) (Cn := c5) hx8
 have hle := Nat.le_trans hn0 H.size
 refine st_call (cx_lend (Loan.lend Loan.nil) hc9 (ent_iv hc9.fn (by kernel_rfl) Tryz.underlying155 Tryz.underlying132 rfl rfl (H.cell (u := (Sl a4 r1 c5)) (o' := Cr) 0 0 rfl rfl rfl) rfl) (show Hp S0 σ0 _ ([Ch.own 0 0 (Sl a4 r1 c5) r1] ++ ([] ++ [Ch.bx Cp Cq Cr [(Sl a4 r1 c5)] Cs Ct])) from (H.sel' [1, 0] rfl rfl)) (by rintro _ _ _ ⟨rfl, rfl⟩; exact trivial)) wn ?_
 rintro _ σ10 ⟨_, ⟨rfl, rfl⟩, H, -, -⟩
 replace H : Hp _ _ _ [_, _] := H
 clear hle
 replace H : Hp _ _ _ [_, _] := H
 refine st (v := (I (w64 (r7 - 1)))) (rv_sub (a := r7) (b := 1) rfl rfl) ?_
 revert h; refine br fun r11 hx12 h => ?_
 have hc13 := c_container_heap_up__impl_hitHeap (Cp := Cp) (Cq := Cq) (Cr := Cr) (Cs := Cs) (Ct := Ct) (Cm := a4) (Cn := c5) hx12
 refine st_call (cx_call hc13 (ent_f hc13.fn rfl) hn0 (H.sel' [1, 0] rfl rfl : Hp S0 σ0 _ ([_, _] ++ _))) wn ?_
 rintro _ σ16 ⟨_, ⟨a14, c15, rfl, rfl⟩, H, -⟩
 replace H : Hp _ _ _ [_, _] := H
 refine w_end ?_
 obtain rfl := sj h
 exact fin_end (v := (.tuple #[])) (results_ok Tryz.results160 res_nil rfl) ⟨a14, c15, rfl, rfl⟩ (H.sel' [0, 1] rfl rfl)

theorem c_container_heap_down__impl_hitHeap {Cl : List (Int × Int)} {De : Int} {Aw : Int} {Cm : Option Addr} {Cn : Nat} {Cp Cq Cr : Nat} {Cs Ct : List Value} {r : Bool × (List (Int × Int))} (h : M.container_heap_down__impl_hitHeap Cl De Aw = some r) :
    Cal2 Tryz.prog 190 [(.iface 155 (pt Cq Cr)), (I De), (I Aw)] [Ch.bx Cp Cq Cr [(Sl Cm Cl Cn)] Cs Ct, Ch.own 0 0 (Sl Cm Cl Cn) Cl] (fun n0 v L => ∃ (az1 : Option Addr), ∃ (cz2 : Nat), v = (B r.1) ∧ L = [Ch.bx Cp Cq Cr [(Sl az1 r.2 cz2)] Cs Ct, Ch.own 0 0 (Sl az1 r.2 cz2) r.2]) := by
 refine cal2 (n := 48) Tryz.func190 rfl rfl rfl rfl ?_
 intro S0 σ0 n0 hn0 H
 unfold M.container_heap_down__impl_hitHeap at h
 refine c_seq (rg (sa (B false) rfl (w_end (q_then (c_seq (rg (sm (I De) rfl (sa (I De) rfl (w_end (q_then (c_seq ?_)))))))))))
 obtain ⟨o1, hj, h'⟩ := bind_some h
 clear h
 refine c_cut (fun e a w => e = .normal ∧ ∃ (ρ : Nat → Value) (σ : St) (aj1 : Option Addr) (cj2 : Nat), a = fr 48 (updL ρ [(0, (.iface 155 (pt Cq Cr))), (1, (I De)), (7, (I o1.2))]) ∧ w = σ.w ∧ Hp S0 σ0 σ [Ch.bx Cp Cq Cr [(Sl aj1 o1.1 cj2)] Cs Ct, Ch.own 0 0 (Sl aj1 o1.1 cj2) o1.1]) ?_ ?_
 ·clear h'
  rename _ = some o1 => h
  refine c_blk (wp_loopM _ h (fun s2 a w => ∃ (ρ : Nat → Value) (σ : St) (aj1 : Option Addr) (cj2 : Nat), a = fr 48 (updL ρ [(0, (.iface 155 (pt Cq Cr))), (1, (I De)), (2, (I Aw)), (7, (I s2.2))]) ∧ w = σ.w ∧ Hp S0 σ0 σ [Ch.bx Cp Cq Cr [(Sl aj1 s2.1 cj2)] Cs Ct, Ch.own 0 0 (Sl aj1 s2.1 cj2) s2.1]) ⟨_, σ0, Cm, Cn, fr_join ⟨rfl, rfl, rfl, rfl, trivial⟩, rfl, H.sel' [0, 1] rfl rfl⟩ ?_)
  clear h H
  rintro s2 a w o ⟨ρ, σ3, a4, c5, rfl, rfl, H⟩ h hres
  refine c_blk (c_seq (rg (sm (I s2.2) rfl (st (v := (I (w64 (2 * s2.2)))) (rv_mul (a := 2) (b := s2.2) rfl rfl) (st (v := (I (w64 ((w64 (2 * s2.2)) + 1)))) (rv_add (a := (w64 (2 * s2.2))) (b := 1) rfl rfl) (sa (I (w64 ((w64 (2 * s2.2)) + 1))) rfl (w_end (q_then (c_seq (c_seq ?_))))))))))
  obtain ⟨o6, hj, h'⟩ := bind_some h
  clear h
  refine c_cut (fun e a w => e = .normal ∧ ∃ (ρ : Nat → Value) (σ : St), a = fr 48 (updL ρ [(0, (.iface 155 (pt Cq Cr))), (1, (I De)), (2, (I Aw)), (7, (I s2.2)), (8, (I (w64 ((w64 (2 * s2.2)) + 1)))), (21, (B o6))]) ∧ w = σ.w ∧ Hp S0 σ0 σ [Ch.own 0 0 (Sl a4 s2.1 c5) s2.1, Ch.bx Cp Cq Cr [(Sl a4 s2.1 c5)] Cs Ct]) ?_ ?_
  ·clear h'
   rename _ = some o6 => h
   refine rg (sm (I (w64 ((w64 (2 * s2.2)) + 1))) rfl (sm (I Aw) rfl (st (v := (B (decide (Aw ≤ (w64 ((w64 (2 * s2.2)) + 1)))))) (rv_geq (a := (w64 ((w64 (2 * s2.2)) + 1))) (b := Aw) rfl rfl) (sm (B (decide (Aw ≤ (w64 ((w64 (2 * s2.2)) + 1))))) rfl ?_))))
   rcases Bool.eq_false_or_eq_true (decide (Aw ≤ (w64 ((w64 (2 * s2.2)) + 1)))) with hb7 | hb7
   ·replace h := bif_t hb7 h
    refine st_skip (congrArg some hb7) (st_skip (congrArg some hb7) (st (v := (B true)) (rv_pick_t (congrArg B hb7) rfl) (w_end ?_)))
    obtain rfl := sj h
    exact ⟨rfl, _, σ3, fr_join ⟨rfl, rfl, rfl, rfl, rfl, rfl, trivial⟩, rfl, H.sel' [1, 0] rfl rfl⟩
   ·replace h := bif_f hb7 h
    refine st_g (v := (I (w64 ((w64 (2 * s2.2)) + 1)))) (congrArg some hb7) (rv_move rfl) (st_g (v := (B (decide ((w64 ((w64 (2 * s2.2)) + 1)) < 0)))) (congrArg some hb7) (rv_lss (a := (w64 ((w64 (2 * s2.2)) + 1))) (b := 0) rfl rfl) (st (v := (B (decide ((w64 ((w64 (2 * s2.2)) + 1)) < 0)))) (rv_pick_f (congrArg B hb7) rfl) (w_end ?_)))
    obtain rfl := sj h
    exact ⟨rfl, _, σ3, fr_join ⟨rfl, rfl, rfl, rfl, rfl, rfl, trivial⟩, rfl, H.sel' [1, 0] rfl rfl⟩
  ·clear hj
   have h := h'
   clear h' H
   rintro e a w ⟨rfl, ρ, σ8, rfl, rfl, H⟩
   refine q_then ?_
   refine cd_cond o6 rfl (fun hb9 => ?_) (fun hb9 => ?_)
   ·replace h := bif_t hb9 h
    refine c_exit (q_then_x ?_)
    refine q_blk_x (by decide) ?_
    refine q_then_x (q_blk_hit ?_)
    obtain rfl := sj h
    obtain rfl := hres _ rfl
    exact ⟨rfl, _, σ8, a4, c5, fr_join ⟨rfl, rfl, rfl, trivial⟩, rfl, H.sel' [1, 0] rfl rfl⟩
   ·replace h := bif_f hb9 h
    refine c_skip (q_then (c_seq (rg (sm (I (w64 ((w64 (2 * s2.2)) + 1))) rfl (sa (I (w64 ((w64 (2 * s2.2)) + 1))) rfl (w_end (q_then (c_seq (c_seq (rg (sm (I (w64 ((w64 (2 * s2.2)) + 1))) rfl ?_)))))))))))
    refine st (v := (I (w64 ((w64 ((w64 (2 * s2.2)) + 1)) + 1)))) (rv_add (a := (w64 ((w64 (2 * s2.2)) + 1))) (b := 1) rfl rfl) (sa (I (w64 ((w64 ((w64 (2 * s2.2)) + 1)) + 1))) rfl (w_end (q_then (c_seq ?_))))
    obtain ⟨o10, hj, h'⟩ := bind_some h
    clear h
    refine c_cut (fun e a w => e = .normal ∧ ∃ (ρ : Nat → Value) (σ : St), a = fr 48 (updL ρ [(0, (.iface 155 (pt Cq Cr))), (1, (I De)), (2, (I Aw)), (7, (I s2.2)), (9, (I (w64 ((w64 (2 * s2.2)) + 1)))), (10, (I (w64 ((w64 ((w64 (2 * s2.2)) + 1)) + 1)))), (33, (B o10))]) ∧ w = σ.w ∧ Hp S0 σ0 σ [Ch.own 0 0 (Sl a4 s2.1 c5) s2.1, Ch.bx Cp Cq Cr [(Sl a4 s2.1 c5)] Cs Ct]) ?_ ?_
    ·clear h'
     rename _ = some o10 => h
     refine rg (sm (I (w64 ((w64 ((w64 (2 * s2.2)) + 1)) + 1))) rfl (sm (I Aw) rfl (st (v := (B (decide ((w64 ((w64 ((w64 (2 * s2.2)) + 1)) + 1)) < Aw)))) (rv_lss (a := (w64 ((w64 ((w64 (2 * s2.2)) + 1)) + 1))) (b := Aw) rfl rfl) (sm (B (decide ((w64 ((w64 ((w64 (2 * s2.2)) + 1)) + 1)) < Aw))) rfl ?_))))
     rcases Bool.eq_false_or_eq_true (decide ((w64 ((w64 ((w64 (2 * s2.2)) + 1)) + 1)) < Aw)) with hb11 | hb11
     ·replace h := bif_t hb11 h
      refine st_g (v := (.iface 155 (pt Cq Cr))) (congrArg some hb11) (rv_move rfl) (st_g (v := (I (w64 ((w64 ((w64 (2 * s2.2)) + 1)) + 1)))) (congrArg some hb11) (rv_move rfl) (st_g (v := (I (w64 ((w64 (2 * s2.2)) + 1)))) (congrArg some hb11) (rv_move rfl) ?_))
      revert h; refine br fun r12 hx13 h => ?_
      have hc14 := c_impl_hitHeap_Less (Cm := a4) (Cn := c5) hx13
      have hle := Nat.le_trans hn0 H.size
      refine st_call (cx_lend (Loan.lend Loan.nil) hc14 (ent_iv hc14.fn (by kernel_rfl) Tryz.underlying155 Tryz.underlying132 rfl rfl (H.cell (u := (Sl a4 s2.1 c5)) (o' := Cr) 1 0 rfl rfl rfl) rfl) (show Hp S0 σ0 _ ([Ch.own 0 0 (Sl a4 s2.1 c5) s2.1] ++ ([] ++ [Ch.bx Cp Cq Cr [(Sl a4 s2.1 c5)] Cs Ct])) from (H.sel' [0, 1] rfl rfl)) (by rintro _ _ _ ⟨rfl, rfl⟩; exact trivial)) (wanted_yes rfl (by exact (congrArg some hb11))) ?_
      rintro _ σ15 ⟨_, ⟨rfl, rfl⟩, H, -, -⟩
      replace H : Hp _ _ _ [_, _] := H
      clear hle
      replace H : Hp _ _ _ [_, _] := H
      refine st (v := (B r12)) (rv_pick_t (congrArg B hb11) rfl) (w_end ?_)
      obtain rfl := sj h
      exact ⟨rfl, _, σ15, fr_join ⟨rfl, rfl, rfl, rfl, rfl, rfl, rfl, trivial⟩, rfl, H.sel' [0, 1] rfl rfl⟩
     ·replace h := bif_f hb11 h
      refine st_skip (congrArg some hb11) (st_skip (congrArg some hb11) (st_skip (congrArg some hb11) (st_skip (congrArg some hb11) (st (v := (B false)) (rv_pick_f (congrArg B hb11) rfl) (w_end ?_)))))
      obtain rfl := sj h
      exact ⟨rfl, _, σ8, fr_join ⟨rfl, rfl, rfl, rfl, rfl, rfl, rfl, trivial⟩, rfl, H.sel' [0, 1] rfl rfl⟩
    ·clear hj
     have h := h'
     clear h' H
     rintro e a w ⟨rfl, ρ, σ16, rfl, rfl, H⟩
     refine q_then ?_
     obtain ⟨o17, hj, h'⟩ := bind_some h
     clear h
     refine c_cut (fun e a w => e = .normal ∧ ∃ (ρ : Nat → Value) (σ : St), a = fr 48 (updL ρ [(0, (.iface 155 (pt Cq Cr))), (1, (I De)), (2, (I Aw)), (7, (I s2.2)), (9, (I o17))]) ∧ w = σ.w ∧ Hp S0 σ0 σ [Ch.own 0 0 (Sl a4 s2.1 c5) s2.1, Ch.bx Cp Cq Cr [(Sl a4 s2.1 c5)] Cs Ct]) ?_ ?_
     ·clear h'
      rename _ = some o17 => h
      refine cd_cond o10 rfl (fun hb18 => ?_) (fun hb18 => ?_)
      ·replace h := bif_t hb18 h
       refine rg (sm (I (w64 ((w64 ((w64 (2 * s2.2)) + 1)) + 1))) rfl (sa (I (w64 ((w64 ((w64 (2 * s2.2)) + 1)) + 1))) rfl (w_end ?_)))
       obtain rfl := sj h
       exact ⟨rfl, _, σ16, fr_join ⟨rfl, rfl, rfl, rfl, rfl, trivial⟩, rfl, H.sel' [0, 1] rfl rfl⟩
      ·replace h := bif_f hb18 h
       refine c_skip ?_
       obtain rfl := sj h
       exact ⟨rfl, _, σ16, fr_join ⟨rfl, rfl, rfl, rfl, rfl, trivial⟩, rfl, H.sel' [0, 1] rfl rfl⟩
     ·clear hj
      have h := h'
      clear h' H
      rintro e a w ⟨rfl, ρ, σ19, rfl, rfl, H⟩
      refine q_then (c_seq (c_seq (rg (sm (.iface 155 (pt Cq Cr)) rfl (sm (I o17) rfl (sm (I s2.2) rfl ?_))))))
      revert h; refine br fun r20 hx21 h => ?_
      have hc22 := c_impl_hitHeap_Less (Cm := a4) (Cn := c5) hx21
      have hle := Nat.le_trans hn0 H.size
      refine st_call (cx_lend (Loan.lend Loan.nil) hc22 (ent_iv hc22.fn (by kernel_rfl) Tryz.underlying155 Tryz.underlying132 rfl rfl (H.cell (u := (Sl a4 s2.1 c5)) (o' := Cr) 1 0 rfl rfl rfl) rfl) (show Hp S0 σ0 _ ([Ch.own 0 0 (Sl a4 s2.1 c5) s2.1] ++ ([] ++ [Ch.bx Cp Cq Cr [(Sl a4 s2.1 c5)] Cs Ct])) from (H.sel' [0, 1] rfl rfl)) (by rintro _ _ _ ⟨rfl, rfl⟩; exact trivial)) wn ?_
      rintro _ σ23 ⟨_, ⟨rfl, rfl⟩, H, -, -⟩
      replace H : Hp _ _ _ [_, _] := H
      clear hle
      replace H : Hp _ _ _ [_, _] := H
      refine st (v := (B (!r20))) (rv_not rfl) (w_end (q_then ?_))
      refine cd_cond (!r20) rfl (fun hb24 => ?_) (fun hb24 => ?_)
      ·replace h := bif_t hb24 h
       refine c_exit (q_then_x ?_)
       refine q_blk_x (by decide) ?_
       refine q_then_x (q_blk_hit ?_)
       obtain rfl := sj h
       obtain rfl := hres _ rfl
       exact ⟨rfl, _, σ23, a4, c5, fr_join ⟨rfl, rfl, rfl, trivial⟩, rfl, H.sel' [1, 0] rfl rfl⟩
      ·replace h := bif_f hb24 h
       refine c_skip (q_then (c_seq (rg (sm (.iface 155 (pt Cq Cr)) rfl (sm (I s2.2) rfl (sm (I o17) rfl ?_))))))
       revert h; refine br fun r25 hx26 h => ?_
       have hc27 := c_impl_hitHeap_Swap (Cm := a4) (Cn := c5) hx26
       refine st_call (cx_call hc27 (ent_iv hc27.fn (by kernel_rfl) Tryz.underlying155 Tryz.underlying132 rfl rfl (H.cell (u := (Sl a4 s2.1 c5)) (o' := Cr) 1 0 rfl rfl rfl) rfl) hn0 (H.sel' [0, 1] rfl rfl : Hp S0 σ0 _ ([_] ++ _))) wn ?_
       rintro _ σ29 ⟨_, ⟨rfl, rfl, hn28⟩, H, -⟩
       replace H : Hp _ _ _ [_, _] := H
       have hsl : (Sl a4 s2.1 c5) = (Sl a4 r25 c5) := sl_len hn28.symm
       try rw [hsl]
       try rw [hsl] at H
       clear hsl
       refine w_end (q_then (rg (sm (I o17) rfl (sa (I o17) rfl (w_end (q_blk (q_then ?_)))))))
       obtain rfl := sj h
       exact ⟨_, rfl, _, σ29, a4, c5, fr_join ⟨rfl, rfl, rfl, rfl, trivial⟩, rfl, H.sel' [1, 0] rfl rfl⟩
 ·clear hj
  have h := h'
  clear h' H
  rintro e a w ⟨rfl, ρ, σ30, a31, c32, rfl, rfl, H⟩
  refine q_then (c_seq (rg (sm (I o1.2) rfl (sm (I De) rfl (st (v := (B (decide (De < o1.2)))) (rv_gtr (a := o1.2) (b := De) rfl rfl) (sa (B (decide (De < o1.2))) rfl (w_end (q_then (c_ret ?_)))))))))
  obtain rfl := sj h
  exact fin_ret (v := (B (decide (De < o1.2)))) (results_ok Tryz.results190 (res_tmp (v := (B (decide (De < o1.2)))) rfl res_nil) rfl) ⟨a31, c32, rfl, rfl⟩ (H.sel' [0, 1] rfl rfl)

theorem c_impl_hitHeap_Pop {Cl : List (Int × Int)} {Cm : Option Addr} {Cn : Nat} {Cp Cq Cr : Nat} {Cs Ct : List Value} {r : ((Int) × (Int)) × (List (Int × Int))} (h : M.impl_hitHeap_Pop Cl = some r) :
    Cal2 Tryz.prog 250 [(pt Cq Cr)] [Ch.bx Cp Cq Cr [(Sl Cm Cl Cn)] Cs Ct, Ch.own 0 0 (Sl Cm Cl Cn) Cl] (fun n0 v L => ∃ (az1 : Option Addr), ∃ (cz2 : Nat), v = (.iface 43 (.agg #[(I r.1.1), (I r.1.2)])) ∧ L = [Ch.bx Cp Cq Cr [(Sl az1 r.2 cz2)] Cs Ct, Ch.own 0 0 (Sl az1 r.2 cz2) r.2]) := by
 refine cal2 (n := 25) Tryz.func250 rfl rfl rfl rfl ?_
 intro S0 σ0 n0 hn0 H
 unfold M.impl_hitHeap_Pop at h
 refine c_seq (rg (sa (.nilIface) rfl (w_end (q_then (c_seq (rg (sm (pt Cq Cr) rfl (st (v := (pt Cq Cr)) (rv_nilCheck rfl) ?_))))))))
 have hc1 := H.cell (u := (Sl Cm Cl Cn)) (o' := Cr) 0 0 rfl rfl rfl
 refine st (v := (Sl Cm Cl Cn)) (rv_load1 Tryz.underlying132 rfl rfl hc1) (st (v := (I (Cl.length : Int))) (rv_len Tryz.underlying132 rfl) (st (v := (I (w64 ((Cl.length : Int) - 1)))) (rv_sub (a := (Cl.length : Int)) (b := 1) rfl rfl) (sa (I (w64 ((Cl.length : Int) - 1))) rfl (w_end (q_then (c_seq (rg (sm (pt Cq Cr) rfl (st (v := (pt Cq Cr)) (rv_nilCheck rfl) ?_)))))))))
 have hc2 := H.cell (u := (Sl Cm Cl Cn)) (o' := Cr) 0 0 rfl rfl rfl
 refine st (v := (Sl Cm Cl Cn)) (rv_load1 Tryz.underlying132 rfl rfl hc2) (sm (I (w64 ((Cl.length : Int) - 1))) rfl ?_)
 revert h; refine br fun x3 hx4 h => ?_
 obtain ⟨b6, o7, hi5, -⟩ := (H.own 1 rfl).ix hx4
 refine st (v := (pt b6 o7)) (rv_ix Tryz.underlying132 ti43 rfl rfl hi5) ?_
 obtain ⟨_, ⟨_, _, rfl, rfl, rfl⟩, hl8, hc9⟩ := ((H.own 1 rfl).at hx4 hi5).cells
 refine st (v := (.agg #[(I x3.1), (I x3.2)])) (rv_load Tryz.underlying43 rfl ti43 rfl hl8 hc9) (st_ex (ex_alloc (cs := [(I 0), (I 0)]) H hn0 ti43 rfl) wn ?_)
 rintro _ σ11 ⟨b10, rfl, H, -⟩
 refine st_exS (ex_store_box (k := 0) (cs := [(I 0), (I 0)]) (vs := [(I x3.1), (I x3.2)]) (cs' := [(I x3.1), (I x3.2)]) H (i := 0) rfl ti43 rfl rfl rfl rfl rfl (Nat.le_of_ble_eq_true rfl) (by simp [plain]) rfl) wn ?_
 rintro σ12 ⟨H, -⟩
 refine w_end (q_then (c_seq (rg (sm (pt Cq Cr) rfl (sm (pt Cq Cr) rfl (st (v := (pt Cq Cr)) (rv_nilCheck rfl) ?_))))))
 have hc13 := H.cell (u := (Sl Cm Cl Cn)) (o' := Cr) 1 0 rfl rfl rfl
 refine st (v := (Sl Cm Cl Cn)) (rv_load1 Tryz.underlying132 rfl rfl hc13) (sm (I (w64 ((Cl.length : Int) - 1))) rfl ?_)
 revert h; refine br fun xs14 hx15 h => ?_
 obtain ⟨a16, c17, hs18, -⟩ := (H.own 2 rfl).slice hx15
 refine st (v := (Sl a16 xs14 c17)) (rv_slice_h Tryz.underlying132 ti43 hs18 rfl rfl) (st (v := (pt Cq Cr)) (rv_nilCheck rfl) ?_)
 have hv20 := (H.own 2 rfl).view hx15 hs18
 replace H := (H.front (i := 2) rfl).turn (d := Ch.own 0 0 (Sl a16 xs14 c17) xs14) (fun _ => hv20.1) hv20.2; clear hv20
 refine st_exS (ex_store_box (k := 0) (cs := [(Sl Cm Cl Cn)]) (vs := [(Sl a16 xs14 c17)]) (cs' := [(Sl a16 xs14 c17)]) H (i := 2) rfl ti132 rfl rfl rfl rfl rfl (Nat.le_of_ble_eq_true rfl) (by simp [plain]) rfl) wn ?_
 rintro σ21 ⟨H, -⟩
 refine w_end (q_then (c_seq (rg ?_)))
 have hc22 := H.cells 2 rfl
 refine st (v := (.agg #[(I x3.1), (I x3.2)])) (rv_load (cs := [(I x3.1), (I x3.2)]) Tryz.underlying43 rfl ti43 rfl rfl hc22) (st (v := (.iface 43 (.agg #[(I x3.1), (I x3.2)]))) (rv_makeInterface Tryz.underlying43 rfl rfl) (sa (.iface 43 (.agg #[(I x3.1), (I x3.2)])) rfl (w_end (q_then (c_ret ?_)))))
 obtain rfl := sj h
 exact fin_ret (v := (.iface 43 (.agg #[(I x3.1), (I x3.2)]))) (results_ok Tryz.results250 (res_tmp (v := (.iface 43 (.agg #[(I x3.1), (I x3.2)]))) rfl res_nil) rfl) ⟨a16, c17, rfl, rfl⟩ (H.sel' [0, 1] rfl rfl)

theorem c_container_heap_Pop__impl_hitHeap {Cl : List (Int × Int)} {Cm : Option Addr} {Cn : Nat} {Cp Cq Cr : Nat} {Cs Ct : List Value} {r : ((Int) × (Int)) × (List (Int × Int))} (h : M.container_heap_Pop__impl_hitHeap Cl = some r) :
    Cal2 Tryz.prog 161 [(.iface 155 (pt Cq Cr))] [Ch.bx Cp Cq Cr [(Sl Cm Cl Cn)] Cs Ct, Ch.own 0 0 (Sl Cm Cl Cn) Cl] (fun n0 v L => ∃ (az1 : Option Addr), ∃ (cz2 : Nat), v = (.iface 43 (.agg #[(I r.1.1), (I r.1.2)])) ∧ L = [Ch.bx Cp Cq Cr [(Sl az1 r.2 cz2)] Cs Ct, Ch.own 0 0 (Sl az1 r.2 cz2) r.2]) := by
 refine cal2 (n := 15) Tryz.func161 rfl rfl rfl rfl ?_
 intro S0 σ0 n0 hn0 H
 unfold M.container_heap_Pop__impl_hitHeap at h
 refine c_seq (rg (sa (.nilIface) rfl (w_end (q_then (c_seq (rg (sm (.iface 155 (pt Cq Cr)) rfl ?_)))))))
 revert h; refine br fun r1 hx2 h => ?_
 have hc3 := c_impl_hitHeap_Len (Cm := Cm) (Cn := Cn) hx2
 have hle := Nat.le_trans hn0 H.size
 refine st_call (cx_lend (Loan.lend Loan.nil) hc3 (ent_iv hc3.fn (by kernel_rfl) Tryz.underlying155 Tryz.underlying132 rfl rfl (H.cell (u := (Sl Cm Cl Cn)) (o' := Cr) 0 0 rfl rfl rfl) rfl) (show Hp S0 σ0 _ ([Ch.own 0 0 (Sl Cm Cl Cn) Cl] ++ ([] ++ [Ch.bx Cp Cq Cr [(Sl Cm Cl Cn)] Cs Ct])) from (H.sel' [1, 0] rfl rfl)) (by rintro _ _ _ ⟨rfl, rfl⟩; exact trivial)) wn ?_
 rintro _ σ4 ⟨_, ⟨rfl, rfl⟩, H, -, -⟩
 replace H : Hp _ _ _ [_, _] := H
 clear hle
 replace H : Hp _ _ _ [_, _] := H
 refine st (v := (I (w64 (r1 - 1)))) (rv_sub (a := r1) (b := 1) rfl rfl) (sa (I (w64 (r1 - 1))) rfl (w_end (q_then (c_seq (rg (sm (.iface 155 (pt Cq Cr)) rfl (sm (I (w64 (r1 - 1))) rfl ?_)))))))
 revert h; refine br fun r5 hx6 h => ?_
 have hc7 := c_impl_hitHeap_Swap (Cm := Cm) (Cn := Cn) hx6
 refine st_call (cx_call hc7 (ent_iv hc7.fn (by kernel_rfl) Tryz.underlying155 Tryz.underlying132 rfl rfl (H.cell (u := (Sl Cm Cl Cn)) (o' := Cr) 1 0 rfl rfl rfl) rfl) hn0 (H.sel' [0, 1] rfl rfl : Hp S0 σ0 _ ([_] ++ _))) wn ?_
 rintro _ σ9 ⟨_, ⟨rfl, rfl, hn8⟩, H, -⟩
 replace H : Hp _ _ _ [_, _] := H
 have hsl : (Sl Cm Cl Cn) = (Sl Cm r5 Cn) := sl_len hn8.symm
 try rw [hsl]
 try rw [hsl] at H
 clear hsl
 refine w_end (q_then (c_seq (rg (sm (.iface 155 (pt Cq Cr)) rfl (sm (I (w64 (r1 - 1))) rfl ?_)))))
 revert h; refine br fun r10 hx11 h => ?_
 have hc12 := c_container_heap_down__impl_hitHeap (Cp := Cp) (Cq := Cq) (Cr := Cr) (Cs := Cs) (Ct := Ct) (Cm := Cm) (Cn := Cn) hx11
 refine st_call (cx_call hc12 (ent_f hc12.fn rfl) hn0 (H.sel' [1, 0] rfl rfl : Hp S0 σ0 _ ([_, _] ++ _))) wn ?_
 rintro _ σ15 ⟨_, ⟨a13, c14, rfl, rfl⟩, H, -⟩
 replace H : Hp _ _ _ [_, _] := H
 refine w_end (q_then (c_seq (rg (sm (.iface 155 (pt Cq Cr)) rfl ?_))))
 revert h; refine br fun r16 hx17 h => ?_
 have hc18 := c_impl_hitHeap_Pop (Cp := Cp) (Cq := Cq) (Cr := Cr) (Cs := Cs) (Ct := Ct) (Cm := a13) (Cn := c14) hx17
 refine st_call (cx_call hc18 (ent_ip hc18.fn (by kernel_rfl) Tryz.underlying155 rfl rfl) hn0 (H.sel' [0, 1] rfl rfl : Hp S0 σ0 _ ([_, _] ++ _))) wn ?_
 rintro _ σ21 ⟨_, ⟨a19, c20, rfl, rfl⟩, H, -⟩
 replace H : Hp _ _ _ [_, _] := H
 refine sa (.iface 43 (.agg #[(I r16.1.1), (I r16.1.2)])) rfl (w_end (q_then (c_ret ?_)))
 obtain rfl := sj h
 exact fin_ret (v := (.iface 43 (.agg #[(I r16.1.1), (I r16.1.2)]))) (results_ok Tryz.results161 (res_tmp (v := (.iface 43 (.agg #[(I r16.1.1), (I r16.1.2)]))) rfl res_nil) rfl) ⟨a19, c20, rfl, rfl⟩ (H.sel' [0, 1] rfl rfl)

theorem c_impl_nearestHits_offer {Ax : Int × (List (Int × Int))} {Dg : Int × Int} {Dh : Option Addr} {Di : Nat} {Dj Dk Dm : Nat} {Dn Do : List Value} {r : (Int × (List (Int × Int)))} (h : M.impl_nearestHits_offer Ax Dg = some r) :
    Cal2 Tryz.prog 119 [(pt Dk Dm), (.agg #[(I Dg.1), (I Dg.2)])] [Ch.bx Dj Dk Dm [(I Ax.1), (Sl Dh Ax.2 Di)] Dn Do, Ch.own 0 0 (Sl Dh Ax.2 Di) Ax.2] (fun n0 v L => ∃ (az1 : Option Addr), ∃ (cz2 : Nat), v = (.tuple #[]) ∧ L = [Ch.bx Dj Dk Dm [(I r.1), (Sl az1 r.2 cz2)] Dn Do, Ch.own 0 0 (Sl az1 r.2 cz2) r.2]) := by
 refine cal2 (n := 26) Tryz.func119 rfl rfl rfl rfl ?_
 intro S0 σ0 n0 hn0 H
 unfold M.impl_nearestHits_offer at h
 refine c_seq (rg (st_ex (ex_box (cs := [(I Dg.1), (I Dg.2)]) H hn0 rfl rfl) wn ?_))
 rintro _ σ2 ⟨b1, rfl, H, -⟩
 refine w_end (q_then (c_seq ?_))
 refine rgP (σ := σ2) 6 (by kernel_rfl) (by kernel_rfl) (by kernel_rfl) ?_
 refine sq (v := (pt Dk Dm)) (rv_move rfl) (sq (v := (pt Dk Dm)) (rv_nilCheck rfl) (sq (v := (pt Dk (Dm + 1))) (rv_fieldAddr (off := 1) (ft := 132) Tryz.underlying134 rfl ti132 rfl rfl) (sq (v := (.iface 155 (pt Dk (Dm + 1)))) (rv_makeInterface Tryz.underlying155 rfl rfl) ?_)))
 have hc3 := H.cells 0 rfl
 refine sq (v := (.agg #[(I Dg.1), (I Dg.2)])) (rv_load (cs := [(I Dg.1), (I Dg.2)]) Tryz.underlying43 rfl ti43 rfl rfl hc3) (sq (v := (.iface 43 (.agg #[(I Dg.1), (I Dg.2)]))) (rv_makeInterface Tryz.underlying43 rfl rfl) (sq_end ?_))
 intro σ4 hm5
 replace H := H.grow (hm5.mono fun _ h => h); clear hm5
 replace H := Hp.focus (c1 := [(I Ax.1)]) (c2 := [(Sl Dh Ax.2 Di)]) (c3 := []) (o' := (Dm + 1)) H 1 rfl rfl
 revert h; refine br fun r6 hx7 h => ?_
 have hc8 := c_container_heap_Push__impl_hitHeap__impl_Hit (Cp := Dj) (Cq := Dk) (Cr := (Dm + 1)) (Cs := (Dn ++ [(I Ax.1)])) (Ct := ([] ++ Do)) (Cm := Dh) (Cn := Di) hx7
 refine st_call (cx_call hc8 (ent_f hc8.fn rfl) hn0 (H.sel' [0, 2, 1] rfl rfl : Hp S0 σ0 _ ([_, _] ++ _))) wn ?_
 rintro _ σ11 ⟨_, ⟨a9, c10, rfl, rfl⟩, H, -⟩
 replace H : Hp _ _ _ [_, _, _] := H
 replace H : Hp S0 σ0 σ11 [Ch.bx Dj Dk Dm [(I Ax.1), (Sl a9 r6 c10)] Dn Do, Ch.own 0 0 (Sl a9 r6 c10) r6, Ch.bx n0 b1 0 [(I Dg.1), (I Dg.2)] [] []] := Hp.unfocus (o := Dm) (c1 := [(I Ax.1)]) (c2 := [(Sl a9 r6 c10)]) (c3 := []) (pre := Dn) (suf := Do) H 0 rfl rfl
 refine w_end (q_then (c_seq ?_))
 refine rgP (σ := σ11) 9 (by kernel_rfl) (by kernel_rfl) (by kernel_rfl) ?_
 refine sq (v := (pt Dk Dm)) (rv_move rfl) (sq (v := (pt Dk Dm)) (rv_nilCheck rfl) (sq (v := (pt Dk (Dm + 1))) (rv_fieldAddr (off := 1) (ft := 132) Tryz.underlying134 rfl ti132 rfl rfl) ?_))
 have hc12 := H.cell (u := (Sl a9 r6 c10)) (o' := (Dm + 1)) 0 1 rfl rfl rfl
 refine sq (v := (Sl a9 r6 c10)) (rv_load1 Tryz.underlying132 rfl rfl hc12) (sq (v := (I (r6.length : Int))) (rv_len Tryz.underlying132 rfl) (sq (v := (pt Dk Dm)) (rv_move rfl) (sq (v := (pt Dk Dm)) (rv_nilCheck rfl) (sq (v := (pt Dk Dm)) (rv_fieldAddr (off := 0) (ft := 3) Tryz.underlying134 rfl ti3 rfl rfl) ?_))))
 have hc13 := H.cell (u := (I Ax.1)) (o' := Dm) 0 0 rfl rfl rfl
 refine sq (v := (I Ax.1)) (rv_load1 Tryz.underlying3 rfl rfl hc13) (sq_end ?_)
 intro σ14 hm15
 replace H := H.grow (hm15.mono fun _ h => h); clear hm15
 refine st (v := (B (decide (Ax.1 < (r6.length : Int))))) (rv_gtr (a := (r6.length : Int)) (b := Ax.1) rfl rfl) (w_end (q_then ?_))
 refine cd_cond (decide (Ax.1 < (r6.length : Int))) rfl (fun hb16 => ?_) (fun hb16 => ?_)
 ·replace h := bif_t hb16 h
  refine rg (sm (pt Dk Dm) rfl (st (v := (pt Dk Dm)) (rv_nilCheck rfl) (st (v := (pt Dk (Dm + 1))) (rv_fieldAddr (off := 1) (ft := 132) Tryz.underlying134 rfl ti132 rfl rfl) (st (v := (.iface 155 (pt Dk (Dm + 1)))) (rv_makeInterface Tryz.underlying155 rfl rfl) ?_))))
  replace H := Hp.focus (c1 := [(I Ax.1)]) (c2 := [(Sl a9 r6 c10)]) (c3 := []) (o' := (Dm + 1)) H 0 rfl rfl
  revert h; refine br fun r17 hx18 h => ?_
  have hc19 := c_container_heap_Pop__impl_hitHeap (Cp := Dj) (Cq := Dk) (Cr := (Dm + 1)) (Cs := (Dn ++ [(I Ax.1)])) (Ct := ([] ++ Do)) (Cm := a9) (Cn := c10) hx18
  refine st_call (cx_call hc19 (ent_f hc19.fn rfl) hn0 (H.sel' [0, 1, 2] rfl rfl : Hp S0 σ0 _ ([_, _] ++ _))) wn ?_
  rintro _ σ22 ⟨_, ⟨a20, c21, rfl, rfl⟩, H, -⟩
  replace H : Hp _ _ _ [_, _, _] := H
  replace H : Hp S0 σ0 σ22 [Ch.bx Dj Dk Dm [(I Ax.1), (Sl a20 r17.2 c21)] Dn Do, Ch.own 0 0 (Sl a20 r17.2 c21) r17.2, Ch.bx n0 b1 0 [(I Dg.1), (I Dg.2)] [] []] := Hp.unfocus (o := Dm) (c1 := [(I Ax.1)]) (c2 := [(Sl a20 r17.2 c21)]) (c3 := []) (pre := Dn) (suf := Do) H 0 rfl rfl
  refine w_end ?_
  obtain rfl := sj h
  exact fin_end (v := (.tuple #[])) (results_ok Tryz.results119 res_nil rfl) ⟨a20, c21, rfl, rfl⟩ (H.sel' [0, 1] rfl rfl)
 ·replace h := bif_f hb16 h
  refine c_skip ?_
  obtain rfl := sj h
  exact fin_end (v := (.tuple #[])) (results_ok Tryz.results119 res_nil rfl) ⟨a9, c10, rfl, rfl⟩ (H.sel' [0, 1] rfl rfl)

theorem c_slices_xorshift_Next {Ae : Int} {Ai Aj Ak : Nat} {Am Ao : List Value} {r : Int × Int} (h : M.slices_xorshift_Next Ae = some r) :
    Cal2 Tryz.prog 199 [(pt Aj Ak)] [Ch.bx Ai Aj Ak [(.int .u64 Ae)] Am Ao] (fun n0 v L => v = (.int .u64 r.1) ∧ L = [Ch.bx Ai Aj Ak [(.int .u64 r.2)] Am Ao]) := by
 refine cal2 (n := 33) Tryz.func199 rfl rfl rfl rfl ?_
 intro S0 σ0 n0 hn0 H
 unfold M.slices_xorshift_Next at h
 refine c_seq (rg (sa (.int .u64 0) rfl (w_end (q_then (c_seq ?_)))))
 refine rgP (σ := σ0) 7 (by kernel_rfl) (by kernel_rfl) (by kernel_rfl) ?_
 refine sq (v := (pt Aj Ak)) (rv_move rfl) (sq (v := (pt Aj Ak)) (rv_nilCheck rfl) ?_)
 have hc1 := H.cell (u := (.int .u64 Ae)) (o' := Ak) 0 0 rfl rfl rfl
 refine sq (v := (.int .u64 Ae)) (rv_load1 Tryz.underlying190 rfl rfl hc1) (sq (v := (pt Aj Ak)) (rv_move rfl) (sq (v := (pt Aj Ak)) (rv_nilCheck rfl) ?_))
 have hc2 := H.cell (u := (.int .u64 Ae)) (o' := Ak) 0 0 rfl rfl rfl
 refine sq (v := (.int .u64 Ae)) (rv_load1 Tryz.underlying190 rfl rfl hc2) ?_
 refine sq (v := (.int .u64 (gshl .u64 Ae 13))) (rvk_shl (k := .u64) (k' := .u64) (a := Ae) (b := 13) rfl rfl (by decide)) ?_
 refine sq_end ?_
 intro σ3 hm4
 replace H := H.grow (hm4.mono fun _ h => h); clear hm4
 refine st (v := (.int .u64 (gxork .u64 Ae (gshl .u64 Ae 13)))) (rvk_xor (k := .u64) (a := Ae) (b := (gshl .u64 Ae 13)) rfl rfl) (st (v := (pt Aj Ak)) (rv_nilCheck rfl) ?_)
 refine st_exS (ex_store_box (k := 0) (cs := [(.int .u64 Ae)]) (vs := [(.int .u64 (gxork .u64 Ae (gshl .u64 Ae 13)))]) (cs' := [(.int .u64 (gxork .u64 Ae (gshl .u64 Ae 13)))]) H (i := 0) rfl ti190 rfl rfl rfl rfl rfl (Nat.le_of_ble_eq_true rfl) (by simp [plain]) rfl) wn ?_
 rintro σ5 ⟨H, -⟩
 refine w_end (q_then (c_seq ?_))
 refine rgP (σ := σ5) 7 (by kernel_rfl) (by kernel_rfl) (by kernel_rfl) ?_
 refine sq (v := (pt Aj Ak)) (rv_move rfl) (sq (v := (pt Aj Ak)) (rv_nilCheck rfl) ?_)
 have hc6 := H.cell (u := (.int .u64 (gxork .u64 Ae (gshl .u64 Ae 13)))) (o' := Ak) 0 0 rfl rfl rfl
 refine sq (v := (.int .u64 (gxork .u64 Ae (gshl .u64 Ae 13)))) (rv_load1 Tryz.underlying190 rfl rfl hc6) (sq (v := (pt Aj Ak)) (rv_move rfl) (sq (v := (pt Aj Ak)) (rv_nilCheck rfl) ?_))
 have hc7 := H.cell (u := (.int .u64 (gxork .u64 Ae (gshl .u64 Ae 13)))) (o' := Ak) 0 0 rfl rfl rfl
 refine sq (v := (.int .u64 (gxork .u64 Ae (gshl .u64 Ae 13)))) (rv_load1 Tryz.underlying190 rfl rfl hc7) ?_
 refine sq (v := (.int .u64 (gshr .u64 (gxork .u64 Ae (gshl .u64 Ae 13)) 7))) (rvk_shr (k := .u64) (k' := .u64) (a := (gxork .u64 Ae (gshl .u64 Ae 13))) (b := 7) rfl rfl (by decide)) ?_
 refine sq_end ?_
 intro σ8 hm9
 replace H := H.grow (hm9.mono fun _ h => h); clear hm9
 refine st (v := (.int .u64 (gxork .u64 (gxork .u64 Ae (gshl .u64 Ae 13)) (gshr .u64 (gxork .u64 Ae (gshl .u64 Ae 13)) 7)))) (rvk_xor (k := .u64) (a := (gxork .u64 Ae (gshl .u64 Ae 13))) (b := (gshr .u64 (gxork .u64 Ae (gshl .u64 Ae 13)) 7)) rfl rfl) (st (v := (pt Aj Ak)) (rv_nilCheck rfl) ?_)
 refine st_exS (ex_store_box (k := 0) (cs := [(.int .u64 (gxork .u64 Ae (gshl .u64 Ae 13)))]) (vs := [(.int .u64 (gxork .u64 (gxork .u64 Ae (gshl .u64 Ae 13)) (gshr .u64 (gxork .u64 Ae (gshl .u64 Ae 13)) 7)))]) (cs' := [(.int .u64 (gxork .u64 (gxork .u64 Ae (gshl .u64 Ae 13)) (gshr .u64 (gxork .u64 Ae (gshl .u64 Ae 13)) 7)))]) H (i := 0) rfl ti190 rfl rfl rfl rfl rfl (Nat.le_of_ble_eq_true rfl) (by simp [plain]) rfl) wn ?_
 rintro σ10 ⟨H, -⟩
 refine w_end (q_then (c_seq ?_))
 refine rgP (σ := σ10) 7 (by kernel_rfl) (by kernel_rfl) (by kernel_rfl) ?_
 refine sq (v := (pt Aj Ak)) (rv_move rfl) (sq (v := (pt Aj Ak)) (rv_nilCheck rfl) ?_)
 have hc11 := H.cell (u := (.int .u64 (gxork .u64 (gxork .u64 Ae (gshl .u64 Ae 13)) (gshr .u64 (gxork .u64 Ae (gshl .u64 Ae 13)) 7)))) (o' := Ak) 0 0 rfl rfl rfl
 refine sq (v := (.int .u64 (gxork .u64 (gxork .u64 Ae (gshl .u64 Ae 13)) (gshr .u64 (gxork .u64 Ae (gshl .u64 Ae 13)) 7)))) (rv_load1 Tryz.underlying190 rfl rfl hc11) (sq (v := (pt Aj Ak)) (rv_move rfl) (sq (v := (pt Aj Ak)) (rv_nilCheck rfl) ?_))
 have hc12 := H.cell (u := (.int .u64 (gxork .u64 (gxork .u64 Ae (gshl .u64 Ae 13)) (gshr .u64 (gxork .u64 Ae (gshl .u64 Ae 13)) 7)))) (o' := Ak) 0 0 rfl rfl rfl
 refine sq (v := (.int .u64 (gxork .u64 (gxork .u64 Ae (gshl .u64 Ae 13)) (gshr .u64 (gxork .u64 Ae (gshl .u64 Ae 13)) 7)))) (rv_load1 Tryz.underlying190 rfl rfl hc12) ?_
 refine sq (v := (.int .u64 (gshl .u64 (gxork .u64 (gxork .u64 Ae (gshl .u64 Ae 13)) (gshr .u64 (gxork .u64 Ae (gshl .u64 Ae 13)) 7)) 17))) (rvk_shl (k := .u64) (k' := .u64) (a := (gxork .u64 (gxork .u64 Ae (gshl .u64 Ae 13)) (gshr .u64 (gxork .u64 Ae (gshl .u64 Ae 13)) 7))) (b := 17) rfl rfl (by decide)) ?_
 refine sq_end ?_
 intro σ13 hm14
 replace H := H.grow (hm14.mono fun _ h => h); clear hm14
 refine st (v := (.int .u64 (gxork .u64 (gxork .u64 (gxork .u64 Ae (gshl .u64 Ae 13)) (gshr .u64 (gxork .u64 Ae (gshl .u64 Ae 13)) 7)) (gshl .u64 (gxork .u64 (gxork .u64 Ae (gshl .u64 Ae 13)) (gshr .u64 (gxork .u64 Ae (gshl .u64 Ae 13)) 7)) 17)))) (rvk_xor (k := .u64) (a := (gxork .u64 (gxork .u64 Ae (gshl .u64 Ae 13)) (gshr .u64 (gxork .u64 Ae (gshl .u64 Ae 13)) 7))) (b := (gshl .u64 (gxork .u64 (gxork .u64 Ae (gshl .u64 Ae 13)) (gshr .u64 (gxork .u64 Ae (gshl .u64 Ae 13)) 7)) 17)) rfl rfl) (st (v := (pt Aj Ak)) (rv_nilCheck rfl) ?_)
 refine st_exS (ex_store_box (k := 0) (cs := [(.int .u64 (gxork .u64 (gxork .u64 Ae (gshl .u64 Ae 13)) (gshr .u64 (gxork .u64 Ae (gshl .u64 Ae 13)) 7)))]) (vs := [(.int .u64 (gxork .u64 (gxork .u64 (gxork .u64 Ae (gshl .u64 Ae 13)) (gshr .u64 (gxork .u64 Ae (gshl .u64 Ae 13)) 7)) (gshl .u64 (gxork .u64 (gxork .u64 Ae (gshl .u64 Ae 13)) (gshr .u64 (gxork .u64 Ae (gshl .u64 Ae 13)) 7)) 17)))]) (cs' := [(.int .u64 (gxork .u64 (gxork .u64 (gxork .u64 Ae (gshl .u64 Ae 13)) (gshr .u64 (gxork .u64 Ae (gshl .u64 Ae 13)) 7)) (gshl .u64 (gxork .u64 (gxork .u64 Ae (gshl .u64 Ae 13)) (gshr .u64 (gxork .u64 Ae (gshl .u64 Ae 13)) 7)) 17)))]) H (i := 0) rfl ti190 rfl rfl rfl rfl rfl (Nat.le_of_ble_eq_true rfl) (by simp [plain]) rfl) wn ?_
 rintro σ15 ⟨H, -⟩
 refine w_end (q_then (c_seq (rg (sm (pt Aj Ak) rfl (st (v := (pt Aj Ak)) (rv_nilCheck rfl) ?_)))))
 have hc16 := H.cell (u := (.int .u64 (gxork .u64 (gxork .u64 (gxork .u64 Ae (gshl .u64 Ae 13)) (gshr .u64 (gxork .u64 Ae (gshl .u64 Ae 13)) 7)) (gshl .u64 (gxork .u64 (gxork .u64 Ae (gshl .u64 Ae 13)) (gshr .u64 (gxork .u64 Ae (gshl .u64 Ae 13)) 7)) 17)))) (o' := Ak) 0 0 rfl rfl rfl
 refine st (v := (.int .u64 (gxork .u64 (gxork .u64 (gxork .u64 Ae (gshl .u64 Ae 13)) (gshr .u64 (gxork .u64 Ae (gshl .u64 Ae 13)) 7)) (gshl .u64 (gxork .u64 (gxork .u64 Ae (gshl .u64 Ae 13)) (gshr .u64 (gxork .u64 Ae (gshl .u64 Ae 13)) 7)) 17)))) (rv_load1 Tryz.underlying190 rfl rfl hc16) (sa (.int .u64 (gxork .u64 (gxork .u64 (gxork .u64 Ae (gshl .u64 Ae 13)) (gshr .u64 (gxork .u64 Ae (gshl .u64 Ae 13)) 7)) (gshl .u64 (gxork .u64 (gxork .u64 Ae (gshl .u64 Ae 13)) (gshr .u64 (gxork .u64 Ae (gshl .u64 Ae 13)) 7)) 17))) rfl (w_end (q_then (c_ret ?_))))
 obtain rfl := sj h
 exact fin_ret (v := (.int .u64 (gxork .u64 (gxork .u64 (gxork .u64 Ae (gshl .u64 Ae 13)) (gshr .u64 (gxork .u64 Ae (gshl .u64 Ae 13)) 7)) (gshl .u64 (gxork .u64 (gxork .u64 Ae (gshl .u64 Ae 13)) (gshr .u64 (gxork .u64 Ae (gshl .u64 Ae 13)) 7)) 17)))) (results_ok Tryz.results199 (res_tmp (v := (.int .u64 (gxork .u64 (gxork .u64 (gxork .u64 Ae (gshl .u64 Ae 13)) (gshr .u64 (gxork .u64 Ae (gshl .u64 Ae 13)) 7)) (gshl .u64 (gxork .u64 (gxork .u64 Ae (gshl .u64 Ae 13)) (gshr .u64 (gxork .u64 Ae (gshl .u64 Ae 13)) 7)) 17)))) rfl res_nil) rfl) ⟨rfl, rfl⟩ (H.sel' [0] rfl rfl)

theorem c_slices_Values_impl_hitHeap_impl_Hit {Dq : List (Int × Int)} {Dr : Option Addr} {Ds : Nat} {r : Unit} (h : M.slices_Values_impl_hitHeap_impl_Hit Dq = some r) :
    Cal2 Tryz.prog 163 [(Sl Dr Dq Ds)] [Ch.ro 0 (Sl Dr Dq Ds) Dq] (fun n0 v L => ∃ (bz1 : Nat), v = (.func (.func 193) #[] #[(pt bz1 0)]) ∧ L = [Ch.bx n0 bz1 0 [(Sl Dr Dq Ds)] [] []]) := by
 refine cal2 (n := 4) Tryz.func163 rfl rfl rfl rfl ?_
 intro S0 σ0 n0 hn0 H
 unfold M.slices_Values_impl_hitHeap_impl_Hit at h
 refine c_seq (rg (st_ex (ex_box (cs := [(Sl Dr Dq Ds)]) H hn0 rfl rfl) wn ?_))
 rintro _ σ2 ⟨b1, rfl, H, -⟩
 refine sa (.nilFunc) rfl (w_end (q_then (c_seq (rg (st (v := (.func (.func 193) #[] #[(pt b1 0)])) (rv_makeFunc (vs := [(pt b1 0)]) rfl) (sa (.func (.func 193) #[] #[(pt b1 0)]) rfl (w_end (q_then (c_ret ?_)))))))))
 obtain rfl := sj h
 exact fin_ret (v := (.func (.func 193) #[] #[(pt b1 0)])) (results_ok Tryz.results163 (res_tmp (v := (.func (.func 193) #[] #[(pt b1 0)])) rfl res_nil) rfl) ⟨b1, rfl, rfl⟩ (H.sel' [0] rfl rfl)

theorem it_slices_AppendSeq_impl_Hit_impl_Hit__slices_Values_impl_hitHeap_impl_Hit_1 {b o c l : Nat} {a : Option Addr} {xs : List (Int × Int)} {J : Nat → St → Prop} (hst : ∀ {i σ σ'}, J i σ → Md (fun _ => False) σ σ' → J i σ')
    (hbx : ∀ {i σ}, J i σ → HCell σ.w.heap b o = some (Sl a xs c) ∧ Rd 0 σ (Sl a xs c) xs) (hn : xs.length ≤ 2147483648)
    (hy : ∀ i, (h : i < xs.length) → ∀ σ, J i σ → YieldAt Fence.wide 0 Tryz.prog l [(.agg #[(I (xs[i]).1), (I (xs[i]).2)])].toArray σ.w fun e W' => e = .returned (.bool true) ∧ ∃ σ', W' = σ'.w ∧ J (i + 1) σ')
    (σ : St) (h0 : J 0 σ) : CallsIn Fence.wide 0 Tryz.prog 193 [.func (.yield l) #[] #[], (pt b o)].toArray σ.w fun e W' => (∃ v, e = .returned v) ∧ ∃ σ', W' = σ'.w ∧ J xs.length σ' := by
  refine enterI (n := 16) Tryz.func193 rfl rfl rfl ?_
  refine wpIn_seq ?_
  obtain ⟨hc, -⟩ := hbx h0
  refine rgI ?_
  refine stI nofun (v := (Sl a xs c)) (rv_load1 Tryz.underlying132 rfl rfl hc) ?_
  refine stI nofun (v := (I (xs.length : Int))) (rv_len Tryz.underlying132 rfl) ?_
  refine stI nofun (v := (I 0)) (rv_move rfl) ?_
  refine endI ?_
  refine q_then (wpIn_block ?_)
  refine wpIn_loop_ghost (fun k a' w' => ∃ i ρ σ, i + k = xs.length ∧ a' = fr 16 (updL ρ [(0, .func (.yield l) #[] #[]), (1, pt b o), (5, Sl a xs c), (6, I (xs.length : Int)), (7, I (i : Int))]) ∧ w' = σ.w ∧ J i σ) xs.length ⟨0, _, σ, by omega, fr_join ⟨rfl, rfl, rfl, rfl, rfl, trivial⟩, rfl, h0⟩ ?_
  clear hc h0
  rintro k _ _ ⟨i, ρ, σ, hik, rfl, rfl, hJ⟩
  refine wpIn_seq ?_
  refine rgI ?_
  refine stI nofun (v := (B (decide ((i : Int) < (xs.length : Int))))) (rv_lss (a := (i : Int)) (b := (xs.length : Int)) rfl rfl) ?_
  refine endI ?_
  refine q_then (wpIn_seq ?_)
  refine cdI_cond (decide ((i : Int) < (xs.length : Int))) rfl (fun hb => ?_) (fun hb => ?_)
  · have hlt : i < xs.length := by have := of_decide_eq_true hb; omega
    refine wpIn_skip ?_
    refine q_then (wpIn_seq ?_)
    refine wpIn_block ?_
    refine wpIn_seq ?_
    refine rgI ?_
    have hg : gidx xs (i : Int) = some xs[i] := gidx_at hlt
    obtain ⟨-, hR⟩ := hbx hJ
    obtain ⟨bx, ox, hi, hat⟩ := hR.ix hg
    obtain ⟨_, ⟨_, _, rfl, rfl, rfl⟩, hl, hcx⟩ := hat.cells
    refine stI nofun (v := (pt bx ox)) (rv_ix Tryz.underlying132 ti43 rfl rfl hi) ?_
    refine stI nofun (v := (.agg #[(I (xs[i]).1), (I (xs[i]).2)])) (rv_load (cs := [(I (xs[i]).1), (I (xs[i]).2)]) Tryz.underlying43 rfl ti43 rfl hl hcx) ?_
    have H : Hp (cov []) σ σ [] := Hp.begin trivial trivial
    refine stI_ex nofun (ex_alloc (lo := 0) H (Nat.zero_le _) ti43 rfl) ?_
    rintro _ σ2 ⟨b4, rfl, H, -⟩
    refine stI_exS nofun (ex_store_box (vs := [(I (xs[i]).1), (I (xs[i]).2)]) (k := 0) H (i := 0) rfl ti43 rfl rfl rfl rfl rfl (Nat.le_of_ble_eq_true rfl) (by simp [plain]) rfl) ?_
    rintro σ3 ⟨H, -⟩
    refine endI ?_
    refine q_then (wpIn_seq ?_)
    refine rgI ?_
    refine stI nofun (v := (.func (.yield l) #[] #[])) (rv_move rfl) ?_
    have hc4 := H.cells 0 rfl
    refine stI nofun (v := (.agg #[(I (xs[i]).1), (I (xs[i]).2)])) (rv_load (cs := [(I (xs[i]).1), (I (xs[i]).2)]) Tryz.underlying43 rfl ti43 rfl rfl hc4) ?_
    refine stI_yield (args := [(.agg #[(I (xs[i]).1), (I (xs[i]).2)])]) rfl rfl (hy i hlt σ3 (hst hJ H.md)) ?_
    rintro e w' ⟨rfl, σ4, rfl, hJ4⟩
    refine ⟨_, rfl, ?_⟩
    refine stI nofun (v := (B (!true))) (rv_not rfl) ?_
    refine endI ?_
    refine q_then ?_
    refine cdI_cond false rfl (fun hb => by cases hb) (fun _ => ?_)
    refine wpIn_skip ?_
    refine q_blk (q_then (rgI ?_))
    refine stI nofun (v := (I (w64 ((i : Int) + 1)))) (rv_add (a := (i : Int)) (b := 1) rfl rfl) ?_
    refine stI nofun (v := (I (w64 ((i : Int) + 1)))) (rv_move rfl) ?_
    refine endI ?_
    have e1 : w64 ((i : Int) + 1) = ((i + 1 : Nat) : Int) := w64_id (by omega) (by omega)
    rw [e1]
    refine q_then ?_
    exact ⟨k - 1, by omega, i + 1, _, σ4, by omega, fr_join ⟨rfl, rfl, rfl, rfl, rfl, trivial⟩, rfl, hJ4⟩
  · have hlt : ¬ i < xs.length := by have := of_decide_eq_false hb; omega
    have : i = xs.length := by omega
    subst this
    refine wpIn_exit ?_
    refine q_then_x (q_then_x (q_blk_hit ?_))
    exact fin_plain' (v := .tuple #[]) (results_ok Tryz.results193 res_nil rfl) ⟨⟨_, rfl⟩, σ, rfl, hJ⟩
theorem c_slices_AppendSeq_impl_Hit_impl_Hit__slices_Values_impl_hitHeap_impl_Hit_1 {Dt : List (Int × Int)} {Du : Option Addr} {Dv : Nat} {Dw Dx Dy : Nat} {Dz Ea : List Value} {r : List (Int × Int)} (h : M.slices_AppendSeq_impl_Hit_impl_Hit__slices_Values_impl_hitHeap_impl_Hit_1 Dt = some r) :
    Cal2 Tryz.prog 202 [.slice none 0 0, (.func (.func 193) #[] #[(pt Dx Dy)])] [Ch.bx Dw Dx Dy [(Sl Du Dt Dv)] Dz Ea, Ch.ro 0 (Sl Du Dt Dv) Dt] (fun n0 v L => ∃ (az1 : Option Addr), ∃ (cz2 : Nat), v = (Sl az1 r cz2) ∧ L = [Ch.own n0 n0 (Sl az1 r cz2) r, Ch.bx Dw Dx Dy [(Sl Du Dt Dv)] Dz Ea]) := by
  obtain ⟨hn, rfl⟩ := coll_some (show M.coll Dt = some r from h)
  refine ⟨⟨_, _, Tryz.func202, rfl, rfl⟩, fun σ0 n0 hn0 H => ?_⟩
  refine callsIn_wide.1 (enterI (n := 13) Tryz.func202 rfl rfl rfl ?_)
  refine wpIn_seq ?_
  refine rgI ?_
  refine stI_ex nofun (ex_box (cs := [.slice none 0 0]) H hn0 rfl rfl) ?_
  rintro _ σ1 ⟨b1, rfl, H, -⟩
  refine stI nofun (v := (.slice none 0 0)) (rv_assign rfl) ?_
  refine endI ?_
  refine q_then (wpIn_seq ?_)
  refine wpIn_seq ?_
  refine rgI ?_
  refine stI nofun (v := (.func (.func 193) #[] #[(pt Dx Dy)])) (rv_move rfl) ?_
  refine endI ?_
  refine q_then (wpIn_block ?_)
  replace H := H.nilOwn (Int × Int) n0 n0
  refine wp_rangeF (gf := 193) (lb := #[(pt Dx Dy)]) (N := r.length) (encs := fun i => [(.agg #[(I (r.getD i (0, 0)).1), (I (r.getD i (0, 0)).2)])].toArray) (by rw [fr_eval]; rfl) (eg_of ⟨_, _, Tryz.func193, rfl, rfl⟩) (fun _ _ => rfl)
    (fun i L => ∃ a' c', L = [Ch.own n0 n0 (Sl a' (r.take i) c') (r.take i), Ch.bx n0 b1 0 [(Sl a' (r.take i) c')] [] [], Ch.bx Dw Dx Dy [(Sl Du r Dv)] Dz Ea, Ch.ro 0 (Sl Du r Dv) r]) ⟨none, 0, rfl⟩ H ?_ ?_ ?_
  · intro l J hst hJ hy σ h0
    refine it_slices_AppendSeq_impl_Hit_impl_Hit__slices_Values_impl_hitHeap_impl_Hit_1 (J := J) (a := Du) (c := Dv) hst (fun {i σ} h => ?_) hn (fun i hi σ h => ?_) σ h0
    · obtain ⟨L, R, ⟨a', c', rfl⟩, H⟩ := hJ h
      have H2 := H.drop R
      exact ⟨H2.cells 2 rfl 0 (by simp), (H2.ro 3 rfl).rd⟩
    · have := hy i hi σ h
      simpa [List.getD, hi] using this
  · rintro l D i rc rc' hi σ _ ⟨a', c', rfl⟩ H
    have hgd : r.getD i (0, 0) = r[i] := by simp [List.getD, hi]
    simp only [hgd]
    rw [round_fr]
    refine rgI ?_
    refine stI_ex nofun (ex_alloc (lo := n0) H hn0 ti43 rfl) ?_
    rintro _ σ2 ⟨b5, rfl, H, -⟩
    refine stI_exS nofun (ex_store_box (vs := [(I (r[i]).1), (I (r[i]).2)]) (cs' := [(I (r[i]).1), (I (r[i]).2)]) (k := 0) H (i := 0) rfl ti43 rfl rfl rfl rfl rfl (Nat.le_of_ble_eq_true rfl) (by simp [plain]) rfl) ?_
    rintro σ3 ⟨H, -⟩
    refine endI ?_
    refine q_then ?_
    refine ⟨σ3, _, rfl, H.sel' [1, 2, 0, 3, 4, 5, 6] rfl rfl, ?_⟩
    clear H
    intro σ4 H
    refine wpIn_block ?_
    refine rgI ?_
    have hc1 := H.cells 4 rfl
    refine stI nofun (v := (Sl a' (r.take i) c')) (rv_load1 Tryz.underlying30 rfl rfl (hc1 0 (by simp))) ?_
    have hc5 := H.cells 2 rfl
    refine stI nofun (v := (.agg #[(I (r[i]).1), (I (r[i]).2)])) (rv_load (cs := [(I (r[i]).1), (I (r[i]).2)]) Tryz.underlying43 rfl ti43 rfl rfl hc5) ?_
    refine stI_ex nofun (ex_buildSlice (lo := n0) (el := n0) (xs := ([((r[i]).1, (r[i]).2)] : List (Int × Int))) (ps := [(0, (.agg #[(I (r[i]).1), (I (r[i]).2)]))]) (cs := [(I (r[i]).1), (I (r[i]).2)]) H hn0 Tryz.underlying30 ti43 rfl rfl (by kernel_rfl) (.cons (c := [(I (r[i]).1), (I (r[i]).2)]) ⟨_, _, rfl, rfl, rfl⟩ .nil) rfl) ?_
    rintro _ σ5 ⟨b10, rfl, H, -⟩
    refine stI_ex nofun (ex_append H (i := 4) rfl Tryz.underlying30 Tryz.underlying30 ti43 rfl rfl (by decide) (H.own 0 rfl).rd (take_gapp hi hn) hn0 rfl rfl) ?_
    rintro _ σ6 ⟨a2, c2, rfl, H, -⟩
    refine stI_exS nofun (ex_store_box (vs := [(Sl a2 (r.take (i + 1)) c2)]) (cs' := [(Sl a2 (r.take (i + 1)) c2)]) (k := 0) H (i := 5) rfl ti30 rfl rfl rfl rfl rfl (Nat.le_of_ble_eq_true rfl) (by simp [plain, Sl]) rfl) ?_
    rintro σ7 ⟨H, -⟩
    refine endI ?_
    refine q_blk ?_
    exact ⟨rfl, σ7, _, rfl, ⟨a2, c2, rfl⟩, H.sel' [3, 4, 1, 0, 6, 7] rfl rfl⟩
  · rintro D σ _ ⟨a', c', rfl⟩ H
    rw [List.take_length] at H
    refine q_blk (q_then (wpIn_seq ?_))
    refine rgD (ds := [{ target := .collected D, args := #[] }]) ?_
    have hc1 := H.cells 2 rfl
    refine stD nofun (v := (Sl a' r c')) (rv_load1 Tryz.underlying30 rfl rfl (hc1 0 (by simp))) ?_
    refine stD nofun (v := (Sl a' r c')) (rv_assign rfl) ?_
    refine endD ?_
    refine q_then (wpIn_ret ?_)
    exact fin_mark (v := Sl a' r c') H (results_ok Tryz.results202 (res_tmp (v := Sl a' r c') rfl res_nil) rfl) ⟨_, _, _, rfl, rfl, ⟨a', c', rfl, rfl⟩, (H.putDf _).sel' [0, 2] rfl rfl⟩

theorem c_slices_Collect_impl_Hit__slices_Values_impl_hitHeap_impl_Hit_1 {Eb : List (Int × Int)} {Ec : Option Addr} {Ed : Nat} {Ee Ef Eg : Nat} {Eh Ei : List Value} {r : (List (Int × Int))} (h : M.slices_Collect_impl_Hit__slices_Values_impl_hitHeap_impl_Hit_1 Eb = some r) :
    Cal2 Tryz.prog 191 [(.func (.func 193) #[] #[(pt Ef Eg)])] [Ch.bx Ee Ef Eg [(Sl Ec Eb Ed)] Eh Ei, Ch.ro 0 (Sl Ec Eb Ed) Eb] (fun n0 v L => ∃ (az1 : Option Addr), ∃ (cz2 : Nat), v = (Sl az1 r cz2) ∧ L = [Ch.own n0 n0 (Sl az1 r cz2) r, Ch.bx Ee Ef Eg [(Sl Ec Eb Ed)] Eh Ei]) := by
 refine cal2 (n := 5) Tryz.func191 rfl rfl rfl rfl ?_
 intro S0 σ0 n0 hn0 H
 unfold M.slices_Collect_impl_Hit__slices_Values_impl_hitHeap_impl_Hit_1 at h
 refine c_seq (rg (sa (.slice none 0 0) rfl (w_end (q_then (c_seq (rg (sm (.func (.func 193) #[] #[(pt Ef Eg)]) rfl ?_)))))))
 revert h; refine br fun r1 hx2 h => ?_
 have hc3 := c_slices_AppendSeq_impl_Hit_impl_Hit__slices_Values_impl_hitHeap_impl_Hit_1 (Dw := Ee) (Dx := Ef) (Dy := Eg) (Dz := Eh) (Ea := Ei) (Du := Ec) (Dv := Ed) hx2
 refine st_call (cx_call hc3 (ent_f hc3.fn rfl) hn0 (H.sel' [0, 1, 1] rfl rfl : Hp S0 σ0 _ ([_, _] ++ _))) wn ?_
 rintro _ σ6 ⟨_, ⟨a4, c5, rfl, rfl⟩, H, -⟩
 replace H : Hp _ _ _ [_, _, _] := H
 refine sa (Sl a4 r1 c5) rfl (w_end (q_then (c_ret ?_)))
 obtain rfl := sj h
 exact fin_ret (v := (Sl a4 r1 c5)) (results_ok Tryz.results191 (res_tmp (v := (Sl a4 r1 c5)) rfl res_nil) rfl) ⟨a4, c5, rfl, rfl⟩ (H.sel' [0, 1] rfl rfl)

def sort192_ren : Go.Shelf.Ren := ⟨fun | 6 => 192 | 15 => 149 | 14 => 203 | 28 => 186 | 29 => 187 | 20 => 213 | 21 => 214 | 22 => 215 | 23 => 216 | 24 => 217 | 25 => 218 | 26 => 219 | 27 => 220 | 46 => 224 | 47 => 198 | 48 => 199 | 49 => 225 | 50 => 226 | 57 => 228 | n => n, fun | 22 => 30 | 24 => 43 | 25 => 119 | 3 => 3 | 39 => 150 | 0 => 0 | 53 => 176 | 55 => 178 | 4 => 4 | 46 => 170 | 45 => 169 | 50 => 113 | 5 => 5 | 9 => 9 | 66 => 190 | 70 => 194 | 76 => 203 | 77 => 204 | n => n, fun | n => n⟩
theorem sort192 : Go.Proofs.SlLaysF0.n6 Tryz.prog sort192_ren := {
  mixed := by kernel_rfl
  f6 := ⟨Tryz.f192.name, by decide, Tryz.func192.trans (congrArg some (by kernel_rfl))⟩
  f14 := ⟨Tryz.f203.name, by decide, Tryz.func203.trans (congrArg some (by kernel_rfl))⟩
  f15 := Tryz.func149.trans (congrArg some (by kernel_rfl))
  f20 := ⟨Tryz.f213.name, by decide, Tryz.func213.trans (congrArg some (by kernel_rfl))⟩
  f21 := ⟨Tryz.f214.name, by decide, Tryz.func214.trans (congrArg some (by kernel_rfl))⟩
  f22 := ⟨Tryz.f215.name, by decide, Tryz.func215.trans (congrArg some (by kernel_rfl))⟩
  f23 := ⟨Tryz.f216.name, by decide, Tryz.func216.trans (congrArg some (by kernel_rfl))⟩
  f24 := ⟨Tryz.f217.name, by decide, Tryz.func217.trans (congrArg some (by kernel_rfl))⟩
  f25 := ⟨Tryz.f218.name, by decide, Tryz.func218.trans (congrArg some (by kernel_rfl))⟩
  f26 := ⟨Tryz.f219.name, by decide, Tryz.func219.trans (congrArg some (by kernel_rfl))⟩
  f27 := ⟨Tryz.f220.name, by decide, Tryz.func220.trans (congrArg some (by kernel_rfl))⟩
  f28 := Tryz.func186.trans (congrArg some (by kernel_rfl))
  f29 := Tryz.func187.trans (congrArg some (by kernel_rfl))
  f46 := ⟨Tryz.f224.name, by decide, Tryz.func224.trans (congrArg some (by kernel_rfl))⟩
  f47 := Tryz.func198.trans (congrArg some (by kernel_rfl))
  f48 := Tryz.func199.trans (congrArg some (by kernel_rfl))
  f49 := ⟨Tryz.f225.name, by decide, Tryz.func225.trans (congrArg some (by kernel_rfl))⟩
  f50 := ⟨Tryz.f226.name, by decide, Tryz.func226.trans (congrArg some (by kernel_rfl))⟩
  f57 := ⟨Tryz.f228.name, by decide, Tryz.func228.trans (congrArg some (by kernel_rfl))⟩
  t0 := Tryz.underlying0
  a0 := Tryz.isAgg0
  z0 := Tryz.sizeOf0
  v0 := Tryz.zeroValue0
  t3 := Tryz.underlying3
  a3 := Tryz.isAgg3
  z3 := Tryz.sizeOf3
  v3 := Tryz.zeroValue3
  t4 := Tryz.underlying4
  a4 := Tryz.isAgg4
  z4 := Tryz.sizeOf4
  v4 := Tryz.zeroValue4
  t5 := Tryz.underlying5
  a5 := Tryz.isAgg5
  z5 := Tryz.sizeOf5
  v5 := Tryz.zeroValue5
  t9 := Tryz.underlying9
  a9 := Tryz.isAgg9
  z9 := Tryz.sizeOf9
  v9 := Tryz.zeroValue9
  t22 := Tryz.underlying30
  a22 := Tryz.isAgg30
  z22 := Tryz.sizeOf30
  v22 := Tryz.zeroValue30
  t25 := Tryz.underlying119
  a25 := Tryz.isAgg119
  z25 := Tryz.sizeOf119
  v25 := Tryz.zeroValue119
  t39 := Tryz.underlying150
  a39 := Tryz.isAgg150
  z39 := Tryz.sizeOf150
  v39 := Tryz.zeroValue150
  t45 := Tryz.underlying169
  a45 := Tryz.isAgg169
  z45 := Tryz.sizeOf169
  v45 := Tryz.zeroValue169
  t46 := Tryz.underlying170
  a46 := Tryz.isAgg170
  z46 := Tryz.sizeOf170
  v46 := Tryz.zeroValue170
  t50 := Tryz.underlying113
  a50 := Tryz.isAgg113
  z50 := Tryz.sizeOf113
  v50 := Tryz.zeroValue113
  t53 := Tryz.underlying176
  a53 := Tryz.isAgg176
  z53 := Tryz.sizeOf176
  v53 := Tryz.zeroValue176
  t55 := Tryz.underlying178
  a55 := Tryz.isAgg178
  z55 := Tryz.sizeOf178
  v55 := Tryz.zeroValue178
  t66 := Tryz.underlying190
  a66 := Tryz.isAgg190
  z66 := Tryz.sizeOf190
  v66 := Tryz.zeroValue190
  t70 := Tryz.underlying194
  a70 := Tryz.isAgg194
  z70 := Tryz.sizeOf194
  v70 := Tryz.zeroValue194
  t76 := Tryz.underlying203
  a76 := Tryz.isAgg203
  z76 := Tryz.sizeOf203
  v76 := Tryz.zeroValue203
  t77 := Tryz.underlying204
  a77 := Tryz.isAgg204
  z77 := Tryz.sizeOf204
  v77 := Tryz.zeroValue204 }

theorem c_slices_SortFunc_impl_Hit_impl_Hit__impl_compareHits {Bd : List (Int × Int)} {Ej : Option Addr} {Ek : Nat} {r : List (Int × Int)} (h : M.slices_SortFunc_impl_Hit_impl_Hit__impl_compareHits Bd = some r) :
    Cal2 Tryz.prog 192 [(Sl Ej Bd Ek), (.func (.func 98) #[] #[])] [Ch.own 0 0 (Sl Ej Bd Ek) Bd] (fun n0 v L => v = (.tuple #[]) ∧ L = [Ch.own 0 0 (Sl Ej r Ek) r] ∧ r.length = Bd.length) := by
 obtain ⟨hn, hs, hL, rfl⟩ := sortD_some h
 have hE : ∀ σ σ' : St, Ext σ σ' → (True) → (True) := fun _ _ _ hp => hp
 have hB : ∀ σ : St, allAs σ [] → apart [] → ∃ σp, Pb (cov []) σ σp ∧ True := fun σ _ _ => ⟨σ, ⟨rfl, fun _ _ => rfl, fun _ => Nat.le_refl _⟩, trivial⟩
 have hC : ∀ σ : St, (True) → ∀ x ∈ Bd, ∀ y ∈ Bd, ∀ cx cy, Rp.rp 0 σ cx x → Rp.rp 0 σ cy y → Calls Tryz.prog 98 ([Value.agg cx.toArray, Value.agg cy.toArray] ++ []).toArray σ.w fun e w' => e = .returned (I ((M.impl_compareHits (x.1, x.2) (y.1, y.2)).getD 0)) ∧ ∃ q os, w' = Go.Sort.grow (σ.w.drewN q) os := by
     intro σ hp x hx y hy cx cy rx ry
     obtain ⟨r, hr⟩ := hs x hx y hy
     obtain ⟨_, _, rfl, rfl, rfl⟩ := rx
     obtain ⟨_, _, rfl, rfl, rfl⟩ := ry
     have hc := c_impl_compareHits  hr
     refine (hc.runs σ 0 (Nat.zero_le _) (Hp.begin trivial trivial)).mono ?_
     rintro e w' ⟨v, σ', L', rfl, rfl, ⟨rfl, -⟩, H⟩
     exact ⟨by rw [hr]; rfl, (H.md.mono fun i => fun h => h).grown⟩
 refine (sort_cal2 (α := (Int × Int)) sort192 Tryz.isAgg43 Tryz.sizeOf43 (xs := Bd) (a := Ej) (c := Ek) (g := 98) (cb := []) (B := []) (fun x y => (M.impl_compareHits (x.1, x.2) (y.1, y.2)).getD 0) hL hn ⟨_, _, Tryz.func98, rfl, rfl⟩ _ hE hB hC).conv ?_
 rintro m v L ⟨rfl, rfl⟩
 exact ⟨_, ⟨rfl, rfl, sortL_len⟩, fun H => H.sel' [0] rfl rfl⟩

theorem c_slices_SortedFunc_impl_Hit__slices_Values_impl_hitHeap_impl_Hit_1__impl_compareHits {Eb : List (Int × Int)} {Ec : Option Addr} {Ed : Nat} {Ee Ef Eg : Nat} {Eh Ei : List Value} {r : (List (Int × Int))} (h : M.slices_SortedFunc_impl_Hit__slices_Values_impl_hitHeap_impl_Hit_1__impl_compareHits Eb = some r) :
    Cal2 Tryz.prog 162 [(.func (.func 193) #[] #[(pt Ef Eg)]), (.func (.func 98) #[] #[])] [Ch.bx Ee Ef Eg [(Sl Ec Eb Ed)] Eh Ei, Ch.ro 0 (Sl Ec Eb Ed) Eb] (fun n0 v L => ∃ (az1 : Option Addr), ∃ (cz2 : Nat), v = (Sl az1 r cz2) ∧ L = [Ch.own 0 n0 (Sl az1 r cz2) r, Ch.bx Ee Ef Eg [(Sl Ec Eb Ed)] Eh Ei]) := by
 refine cal2 (n := 12) Tryz.func162 rfl rfl rfl rfl ?_
 intro S0 σ0 n0 hn0 H
 unfold M.slices_SortedFunc_impl_Hit__slices_Values_impl_hitHeap_impl_Hit_1__impl_compareHits at h
 refine c_seq (rg (sa (.slice none 0 0) rfl (w_end (q_then (c_seq (rg (sm (.func (.func 193) #[] #[(pt Ef Eg)]) rfl ?_)))))))
 revert h; refine br fun r1 hx2 h => ?_
 have hc3 := c_slices_Collect_impl_Hit__slices_Values_impl_hitHeap_impl_Hit_1 (Ee := Ee) (Ef := Ef) (Eg := Eg) (Eh := Eh) (Ei := Ei) (Ec := Ec) (Ed := Ed) hx2
 refine st_call (cx_call hc3 (ent_f hc3.fn rfl) hn0 (H.sel' [0, 1, 1] rfl rfl : Hp S0 σ0 _ ([_, _] ++ _))) wn ?_
 rintro _ σ6 ⟨_, ⟨a4, c5, rfl, rfl⟩, H, -⟩
 replace H : Hp _ _ _ [_, _, _] := H
 refine sa (Sl a4 r1 c5) rfl (w_end (q_then (c_seq (rg (sm (Sl a4 r1 c5) rfl (sm (.func (.func 98) #[] #[]) rfl ?_))))))
 replace H := H.ownLow 0 0 0 rfl (Nat.zero_le _) (Nat.zero_le _)
 revert h; refine br fun r7 hx8 h => ?_
 have hc9 := c_slices_SortFunc_impl_Hit_impl_Hit__impl_compareHits (Ej := a4) (Ek := c5) hx8
 refine st_call (cx_call hc9 (ent_f hc9.fn rfl) hn0 (H.sel' [0, 1, 2] rfl rfl : Hp S0 σ0 _ ([_] ++ _))) wn ?_
 rintro _ σ11 ⟨_, ⟨rfl, rfl, hn10⟩, H, -⟩
 replace H : Hp _ _ _ [_, _, _] := H
 have hsl : (Sl a4 r1 c5) = (Sl a4 r7 c5) := sl_len hn10.symm
 try rw [hsl]
 try rw [hsl] at H
 clear hsl
 refine w_end (q_then (c_seq (rg (sm (Sl a4 r7 c5) rfl (sa (Sl a4 r7 c5) rfl (w_end (q_then (c_ret ?_))))))))
 replace H := H.ownSc 0 0 n0 rfl (Nat.le_refl _)
 obtain rfl := sj h
 exact fin_ret (v := (Sl a4 r7 c5)) (results_ok Tryz.results162 (res_tmp (v := (Sl a4 r7 c5)) rfl res_nil) rfl) ⟨a4, c5, rfl, rfl⟩ (H.sel' [0, 1] rfl rfl)

theorem c_impl_nearestHits_inOrder {Ax : Int × (List (Int × Int))} {Dh : Option Addr} {Di : Nat} {Dj Dk Dm : Nat} {Dn Do : List Value} {r : (List (Int × Int))} (h : M.impl_nearestHits_inOrder Ax = some r) :
    Cal2 Tryz.prog 120 [(pt Dk Dm)] [Ch.bx Dj Dk Dm [(I Ax.1), (Sl Dh Ax.2 Di)] Dn Do, Ch.ro 0 (Sl Dh Ax.2 Di) Ax.2] (fun n0 v L => ∃ (az1 : Option Addr), ∃ (cz2 : Nat), v = (Sl az1 r cz2) ∧ L = [Ch.own 0 n0 (Sl az1 r cz2) r, Ch.bx Dj Dk Dm [(I Ax.1), (Sl Dh Ax.2 Di)] Dn Do]) := by
 refine cal2 (n := 9) Tryz.func120 rfl rfl rfl rfl ?_
 intro S0 σ0 n0 hn0 H
 unfold M.impl_nearestHits_inOrder at h
 refine c_seq (rg (sa (.slice none 0 0) rfl (w_end (q_then (c_seq (rg (sm (pt Dk Dm) rfl (st (v := (pt Dk Dm)) (rv_nilCheck rfl) (st (v := (pt Dk (Dm + 1))) (rv_fieldAddr (off := 1) (ft := 132) Tryz.underlying134 rfl ti132 rfl rfl) ?_)))))))))
 have hc1 := H.cell (u := (Sl Dh Ax.2 Di)) (o' := (Dm + 1)) 0 1 rfl rfl rfl
 refine st (v := (Sl Dh Ax.2 Di)) (rv_load1 Tryz.underlying132 rfl rfl hc1) ?_
 revert h; refine br fun r2 hx3 h => ?_
 have hc4 := c_slices_Values_impl_hitHeap_impl_Hit (Dr := Dh) (Ds := Di) hx3
 refine st_call (cx_call hc4 (ent_f hc4.fn rfl) hn0 (H.sel' [1, 0, 1] rfl rfl : Hp S0 σ0 _ ([_] ++ _))) wn ?_
 rintro _ σ6 ⟨_, ⟨b5, rfl, rfl⟩, H, -⟩
 replace H : Hp _ _ _ [_, _, _] := H
 revert h; refine br fun r7 hx8 h => ?_
 have hc9 := c_slices_SortedFunc_impl_Hit__slices_Values_impl_hitHeap_impl_Hit_1__impl_compareHits (Ee := n0) (Ef := b5) (Eg := 0) (Eh := []) (Ei := []) (Ec := Dh) (Ed := Di) hx8
 refine st_call (cx_call hc9 (ent_f hc9.fn rfl) hn0 (H.sel' [0, 2, 1, 2] rfl rfl : Hp S0 σ0 _ ([_, _] ++ _))) wn ?_
 rintro _ σ12 ⟨_, ⟨a10, c11, rfl, rfl⟩, H, -⟩
 replace H : Hp _ _ _ [_, _, _, _] := H
 refine sa (Sl a10 r7 c11) rfl (w_end (q_then (c_ret ?_)))
 obtain rfl := sj h
 exact fin_ret (v := (Sl a10 r7 c11)) (results_ok Tryz.results120 (res_tmp (v := (Sl a10 r7 c11)) rfl res_nil) rfl) ⟨a10, c11, rfl, rfl⟩ (H.sel' [0, 2] rfl rfl)

end Go.Vs
