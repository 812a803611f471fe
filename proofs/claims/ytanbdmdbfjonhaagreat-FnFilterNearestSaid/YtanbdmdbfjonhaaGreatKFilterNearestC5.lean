/- The functions compute what their models say. -/
import Derived.Test.YtanbdmdbfjonhaaGreatKFilterNearestC4
set_option linter.unusedVariables false
set_option linter.unusedSimpArgs false
set_option maxRecDepth 20000
namespace Go.Vs
open Go Go.Proofs
attribute [local irreducible] Code.wp Code.wpIn wpList wpListIn wpQuiet Calls CallsIn

theorem c_laws_FnFilterNearest {Aa : List UInt8} {Ac : Option Addr} {Ad : Nat} {r : Bool} (h : M.laws_FnFilterNearest Aa = some r) :
    Cal2 Tryz.prog 3 [(Sl Ac Aa Ad)] [Ch.ro 0 (Sl Ac Aa Ad) Aa] (fun n0 v L => v = (B r) ∧ L = []) := by
 refine cal2 (n := 72) Tryz.func3 rfl rfl rfl rfl ?_
 intro S0 σ0 n0 hn0 H
 unfold M.laws_FnFilterNearest at h
 refine c_seq (rg (sa (B false) rfl (w_end (q_then (c_seq (c_seq (rg (sm (Sl Ac Aa Ad) rfl (st (v := (I (Aa.length : Int))) (rv_len Tryz.underlying22 rfl) (st (v := (B (decide (1048576 < (Aa.length : Int))))) (rv_gtr (a := (Aa.length : Int)) (b := 1048576) rfl rfl) (w_end ?_)))))))))))
 refine q_then ?_
 refine cd_cond (decide (1048576 < (Aa.length : Int))) rfl (fun hb1 => ?_) (fun hb1 => ?_)
 ·replace h := bif_t hb1 h
  refine c_seq (rg (sa (B true) rfl (w_end (q_then (c_ret (q_then_r ?_))))))
  obtain rfl := sj h
  exact fin_ret (v := (B true)) (results_ok Tryz.results3 (res_tmp (v := (B true)) rfl res_nil) rfl) ⟨rfl, rfl⟩ (H.sel' [] rfl rfl)
 ·replace h := bif_f hb1 h
  refine c_skip (q_then (c_seq (rg (sm (Sl Ac Aa Ad) rfl ?_))))
  revert h; refine br fun r2 hx3 h => ?_
  have hc4 := c_spec_DrawFilterNearest (Ac := Ac) (Ad := Ad) hx3
  refine st_call (cx_call hc4 (ent_f hc4.fn rfl) hn0 (H.sel' [0, 0] rfl rfl : Hp S0 σ0 _ ([_] ++ _))) wn ?_
  rintro _ σ9 ⟨_, ⟨a5, c6, a7, c8, rfl, rfl⟩, H, -⟩
  replace H : Hp _ _ _ [_, _, _] := H
  refine sm (.tuple #[(Sl a5 r2.1 c6), (.agg #[(I r2.2.1.1), (I r2.2.1.2.1), (I r2.2.1.2.2)]), (I r2.2.2.1), (Sl a7 r2.2.2.2.1 c8), (I r2.2.2.2.2)]) rfl (st (v := (Sl a5 r2.1 c6)) (rv_extract rfl rfl) (st (v := (.agg #[(I r2.2.1.1), (I r2.2.1.2.1), (I r2.2.1.2.2)])) (rv_extract rfl rfl) (st (v := (I r2.2.2.1)) (rv_extract rfl rfl) (st (v := (Sl a7 r2.2.2.2.1 c8)) (rv_extract rfl rfl) (st (v := (I r2.2.2.2.2)) (rv_extract rfl rfl) (st_ex (ex_alloc (cs := [(I 0), (I 0), (I 0)]) H hn0 ti25 rfl) wn ?_))))))
  rintro _ σ11 ⟨b10, rfl, H, -⟩
  refine sa (Sl a5 r2.1 c6) rfl ?_
  refine st_exS (ex_store_box (k := 0) (cs := [(I 0), (I 0), (I 0)]) (vs := [(I r2.2.1.1), (I r2.2.1.2.1), (I r2.2.1.2.2)]) (cs' := [(I r2.2.1.1), (I r2.2.1.2.1), (I r2.2.1.2.2)]) H (i := 0) rfl ti25 rfl rfl rfl rfl rfl (Nat.le_of_ble_eq_true rfl) (by simp [plain]) rfl) wn ?_
  rintro σ12 ⟨H, -⟩
  refine sa (I r2.2.2.1) rfl (sa (Sl a7 r2.2.2.2.1 c8) rfl (sa (I r2.2.2.2.2) rfl (w_end (q_then (c_seq (rg (sm (Sl a5 r2.1 c6) rfl ?_)))))))
  have hc13 := H.cells 0 rfl
  refine st (v := (.agg #[(I r2.2.1.1), (I r2.2.1.2.1), (I r2.2.1.2.2)])) (rv_load (cs := [(I r2.2.1.1), (I r2.2.1.2.1), (I r2.2.1.2.2)]) Tryz.underlying25 rfl ti25 rfl rfl hc13) (sm (I r2.2.2.1) rfl (sm (Sl a7 r2.2.2.2.1 c8) rfl (sm (I r2.2.2.2.2) rfl ?_)))
  revert h; refine br fun r14 hx15 h => ?_
  have hc16 := c_impl_FilterNearest (Au := a5) (Av := c6) (Gb := a7) (Gc := c8) hx15
  have hle := Nat.le_trans hn0 H.size
  refine st_call (cx_lend (Loan.lend (Loan.lend Loan.nil)) hc16 (ent_f hc16.fn rfl) (show Hp S0 σ0 _ ([Ch.own n0 n0 (Sl a5 r2.1 c6) r2.1, Ch.own n0 n0 (Sl a7 r2.2.2.2.1 c8) r2.2.2.2.1] ++ ([] ++ [Ch.bx n0 b10 0 [(I r2.2.1.1), (I r2.2.1.2.1), (I r2.2.1.2.2)] [] [], Ch.ro 0 (Sl Ac Aa Ad) Aa])) from (H.sel' [1, 2, 0, 3] rfl rfl)) (by rintro _ _ _ ⟨_, _, rfl, rfl⟩; exact ⟨Ab.ownSc, trivial⟩)) wn ?_
  rintro _ σ19 ⟨_, ⟨a17, c18, rfl, rfl⟩, H, -, -⟩
  replace H : Hp _ _ _ [_, _, _, _, _] := H
  replace H := H.ownLow 0 0 n0 rfl (Nat.le_refl _) hle
  clear hle
  replace H : Hp _ _ _ [_, _, _, _, _] := H
  refine sa (Sl a17 r14 c18) rfl (w_end (q_then (c_seq (c_seq (rg (sm (Sl a17 r14 c18) rfl (sm (Sl a5 r2.1 c6) rfl ?_)))))))
  have hc20 := H.cells 3 rfl
  refine st (v := (.agg #[(I r2.2.1.1), (I r2.2.1.2.1), (I r2.2.1.2.2)])) (rv_load (cs := [(I r2.2.1.1), (I r2.2.1.2.1), (I r2.2.1.2.2)]) Tryz.underlying25 rfl ti25 rfl rfl hc20) (sm (I r2.2.2.1) rfl (sm (Sl a7 r2.2.2.2.1 c8) rfl (sm (I r2.2.2.2.2) rfl ?_)))
  revert h; refine br fun r21 hx22 h => ?_
  have hc23 := c_spec_FilterNearest (Au := a5) (Av := c6) (Gb := a7) (Gc := c8) hx22
  have hle := Nat.le_trans hn0 H.size
  refine st_call (cx_lend (Loan.lend (Loan.lend Loan.nil)) hc23 (ent_f hc23.fn rfl) (show Hp S0 σ0 _ ([Ch.own n0 n0 (Sl a5 r2.1 c6) r2.1, Ch.own n0 n0 (Sl a7 r2.2.2.2.1 c8) r2.2.2.2.1] ++ ([] ++ [Ch.own 0 n0 (Sl a17 r14 c18) r14, Ch.bx n0 b10 0 [(I r2.2.1.1), (I r2.2.1.2.1), (I r2.2.1.2.2)] [] [], Ch.ro 0 (Sl Ac Aa Ad) Aa])) from (H.sel' [1, 2, 0, 3, 4] rfl rfl)) (by rintro _ _ _ ⟨_, _, rfl, rfl⟩; exact ⟨Ab.ownSc, trivial⟩)) wn ?_
  rintro _ σ26 ⟨_, ⟨a24, c25, rfl, rfl⟩, H, -, -⟩
  replace H : Hp _ _ _ [_, _, _, _, _, _] := H
  replace H := H.ownLow 0 n0 n0 rfl hle hle
  clear hle
  replace H : Hp _ _ _ [_, _, _, _, _, _] := H
  obtain ⟨σ27, hw28, H, -⟩ := H.pub 0 rfl (Nat.le_refl _)
  rw [← hw28]; clear hw28
  replace H := H.roLow 0 0 rfl (Nat.zero_le _)
  revert h; refine br fun r29 hx30 h => ?_
  have hc31 := c_laws_equalHits (Gd := a17) (Ge := c18) (Gf := a24) (Gg := c25) hx30
  have hle := Nat.le_trans hn0 H.size
  refine st_call (cx_lend (Loan.lend (Loan.same Loan.nil)) hc31 (ent_f hc31.fn rfl) (show Hp S0 σ0 _ ([Ch.own 0 n0 (Sl a17 r14 c18) r14] ++ ([Ch.ro 0 (Sl a24 r21 c25) r21] ++ [Ch.ro 0 (Sl a24 r21 c25) r21, Ch.ro n0 (Sl a24 r21 c25) r21, Ch.own n0 n0 (Sl a5 r2.1 c6) r2.1, Ch.own n0 n0 (Sl a7 r2.2.2.2.1 c8) r2.2.2.2.1, Ch.bx n0 b10 0 [(I r2.2.1.1), (I r2.2.1.2.1), (I r2.2.1.2.2)] [] [], Ch.ro 0 (Sl Ac Aa Ad) Aa])) from (H.sel' [4, 0, 0, 1, 2, 3, 5, 6] rfl rfl)) (by rintro _ _ _ ⟨rfl, rfl⟩; exact trivial)) wn ?_
  rintro _ σ32 ⟨_, ⟨rfl, rfl⟩, H, -, -⟩
  replace H : Hp _ _ _ [_, _, _, _, _, _, _] := H
  clear hle
  replace H : Hp _ _ _ [_, _, _, _, _, _, _] := H
  refine st (v := (B (!r29))) (rv_not rfl) (w_end (q_then ?_))
  refine cd_cond (!r29) rfl (fun hb33 => ?_) (fun hb33 => ?_)
  ·replace h := bif_t hb33 h
   refine c_seq (rg (sa (B false) rfl (w_end (q_then (c_ret (q_then_r ?_))))))
   obtain rfl := sj h
   exact fin_ret (v := (B false)) (results_ok Tryz.results3 (res_tmp (v := (B false)) rfl res_nil) rfl) ⟨rfl, rfl⟩ (H.sel' [] rfl rfl)
  ·replace h := bif_f hb33 h
   refine c_skip (q_then (c_seq (c_seq (rg (sa (I 0) rfl (w_end (q_then ?_)))))))
   obtain ⟨o34, hj, h'⟩ := bind_some h
   clear h
   refine c_cut (fun e a w => (∃ t, o34 = (.inl t) ∧ e = .normal ∧ ∃ (ρ : Nat → Value) (σ : St), a = fr 72 (updL ρ [(3, (Sl a5 r2.1 c6)), (4, (pt b10 0)), (5, (I r2.2.2.1)), (6, (Sl a7 r2.2.2.2.1 c8)), (7, (I r2.2.2.2.2)), (8, (Sl a17 r14 c18))]) ∧ w = σ.w ∧ Hp S0 σ0 σ [Ch.ro n0 (Sl a5 r2.1 c6) r2.1, Ch.bx n0 b10 0 [(I r2.2.1.1), (I r2.2.1.2.1), (I r2.2.1.2.2)] [] [], Ch.own n0 n0 (Sl a7 r2.2.2.2.1 c8) r2.2.2.2.1, Ch.own 0 n0 (Sl a17 r14 c18) r14]) ∨ (∃ t, o34 = (.inr t) ∧ e = .ret ∧ ∃ (ρ : Nat → Value) (σ : St), a = fr 72 (updL ρ [(2, (B t))]) ∧ w = σ.w ∧ Hp S0 σ0 σ [])) ?_ ?_
   ·clear h'
    rename _ = some o34 => h
    refine c_blk ?_
    obtain ⟨σ36, hw37, H, -⟩ := H.pub 3 rfl (Nat.le_refl _)
    rw [← hw37]; clear hw37
    refine wp_loopM _ h (fun s35 a w => ∃ (ρ : Nat → Value) (σ : St), a = fr 72 (updL ρ [(3, (Sl a5 r2.1 c6)), (4, (pt b10 0)), (5, (I r2.2.2.1)), (6, (Sl a7 r2.2.2.2.1 c8)), (7, (I r2.2.2.2.2)), (8, (Sl a17 r14 c18)), (9, (I s35))]) ∧ w = σ.w ∧ Hp S0 σ0 σ [Ch.ro n0 (Sl a5 r2.1 c6) r2.1, Ch.bx n0 b10 0 [(I r2.2.1.1), (I r2.2.1.2.1), (I r2.2.1.2.2)] [] [], Ch.own n0 n0 (Sl a7 r2.2.2.2.1 c8) r2.2.2.2.1, Ch.own 0 n0 (Sl a17 r14 c18) r14]) ⟨_, σ36, fr_join ⟨rfl, rfl, rfl, rfl, rfl, rfl, rfl, trivial⟩, rfl, H.sel' [0, 5, 4, 1] rfl rfl⟩ ?_
    clear h H
    rintro s35 a w o ⟨ρ, σ38, rfl, rfl, H⟩ h hres
    refine c_seq (c_seq (rg (sm (I s35) rfl (sm (Sl a17 r14 c18) rfl (st (v := (I (r14.length : Int))) (rv_len Tryz.underlying29 rfl) (st (v := (B (decide (s35 < (r14.length : Int))))) (rv_lss (a := s35) (b := (r14.length : Int)) rfl rfl) (w_end (q_then ?_))))))))
    refine cd_cond (decide (s35 < (r14.length : Int))) rfl (fun hb39 => ?_) (fun hb39 => ?_)
    ·replace h := bif_t hb39 h
     refine c_skip (q_then (c_seq (c_blk (c_seq ?_))))
     have hc40 := H.cells 1 rfl
     revert h; refine br fun x41 hx42 h => ?_
     obtain ⟨b44, o45, hi43, -⟩ := (H.own 3 rfl).ix hx42
     have hc46 := ((H.own 3 rfl).at hx42 hi43).fst.int
     replace H := H.roLow 0 0 rfl (Nat.zero_le _)
     revert h; refine br fun r47 hx48 h => ?_
     have hc49 := c_laws_itemOf (Au := a5) (Av := c6) hx48
     have Hs := H
     refine rg2 (σ := σ38) (Nm := (Option Addr) × (Nat)) 9 [7] [[false], [true]] [[(0, 0), (1, 1)], [(0, 0)], [(0, 0)], [(0, 0)], [(0, 0)], [(0, 0)], [(0, 0)], [(0, 1)], [(1, 1)]] 1 [fun ((a50, c51) : (Option Addr) × (Nat)) => fun σm => Hp S0 σ0 σm [Ch.ro 0 (Sl a5 r2.1 c6) r2.1, Ch.ro n0 (Sl a5 r2.1 c6) r2.1, Ch.bx n0 b10 0 [(I r2.2.1.1), (I r2.2.1.2.1), (I r2.2.1.2.2)] [] [], Ch.own n0 n0 (Sl a7 r2.2.2.2.1 c8) r2.2.2.2.1, Ch.own 0 n0 (Sl a17 r14 c18) r14] ∧ Md (cov []) σ38 σm, fun ((a50, c51) : (Option Addr) × (Nat)) => fun σm => Hp S0 σ0 σm [Ch.ro 0 (Sl a50 r47.2.1 c51) r47.2.1, Ch.ro 0 (Sl a5 r2.1 c6) r2.1, Ch.ro n0 (Sl a5 r2.1 c6) r2.1, Ch.bx n0 b10 0 [(I r2.2.1.1), (I r2.2.1.2.1), (I r2.2.1.2.2)] [] [], Ch.own n0 n0 (Sl a7 r2.2.2.2.1 c8) r2.2.2.2.1, Ch.own 0 n0 (Sl a17 r14 c18) r14] ∧ Md (cov []) σ38 σm] [fun ((a50, c51) : (Option Addr) × (Nat)) => (.agg #[(I r2.2.1.1), (I r2.2.1.2.1), (I r2.2.1.2.2)]), fun ((a50, c51) : (Option Addr) × (Nat)) => (Sl a5 r2.1 c6), fun ((a50, c51) : (Option Addr) × (Nat)) => (Sl a17 r14 c18), fun ((a50, c51) : (Option Addr) × (Nat)) => (I s35), fun ((a50, c51) : (Option Addr) × (Nat)) => (pt b44 o45), fun ((a50, c51) : (Option Addr) × (Nat)) => (pt b44 (o45 + 0)), fun ((a50, c51) : (Option Addr) × (Nat)) => (I x41.1), fun ((a50, c51) : (Option Addr) × (Nat)) => (.agg #[(I r47.1), (Sl a50 r47.2.1 c51), (I r47.2.2)]), fun ((a50, c51) : (Option Addr) × (Nat)) => (I r47.2.2)] (none, 0) (by kernel_rfl) (by kernel_rfl) ?_ ?_ ?_
     ·intro σm m0
      exact ⟨H.grow (m0.mono fun _ h => h.elim), m0⟩
     ·refine all_cons (by
        refine ⟨?_, ?_⟩
        ·rintro ⟨a50, c51⟩ ρ σm hJ hoff hdep
         have e4 := look_off (N := 72) (hoff 4 rfl) rfl
         obtain ⟨H, m⟩ := id hJ
         have hc40 := H.cells 2 rfl
         exact dp_v (v := (.agg #[(I r2.2.1.1), (I r2.2.1.2.1), (I r2.2.1.2.2)])) wn (rv_load (cs := [(I r2.2.1.1), (I r2.2.1.2.1), (I r2.2.1.2.2)]) Tryz.underlying25 rfl ti25 e4 rfl hc40) rfl hJ
        refine ⟨?_, ?_⟩
        ·rintro ⟨a50, c51⟩ ρ σm hJ hoff hdep
         have e4 := look_off (N := 72) (hoff 4 rfl) rfl
         obtain ⟨H, m⟩ := id hJ
         have hc40 := H.cells 3 rfl
         exact dp_v (v := (.agg #[(I r2.2.1.1), (I r2.2.1.2.1), (I r2.2.1.2.2)])) wn (rv_load (cs := [(I r2.2.1.1), (I r2.2.1.2.1), (I r2.2.1.2.2)]) Tryz.underlying25 rfl ti25 e4 rfl hc40) rfl hJ
        trivial) ?_
      refine ac rfl (by
        intro k; rintro ⟨a50, c51⟩ ρ σm hJ hoff hdep
        have e3 := look_off (N := 72) (hoff 3 rfl) rfl
        exact dp_v (v := (Sl a5 r2.1 c6)) wn (rv_move e3) rfl hJ) ?_
      refine ac rfl (by
        intro k; rintro ⟨a50, c51⟩ ρ σm hJ hoff hdep
        have e8 := look_off (N := 72) (hoff 8 rfl) rfl
        exact dp_v (v := (Sl a17 r14 c18)) wn (rv_move e8) rfl hJ) ?_
      refine ac rfl (by
        intro k; rintro ⟨a50, c51⟩ ρ σm hJ hoff hdep
        have e9 := look_off (N := 72) (hoff 9 rfl) rfl
        exact dp_v (v := (I s35)) wn (rv_move e9) rfl hJ) ?_
      refine ac rfl (by
        intro k; rintro ⟨a50, c51⟩ ρ σm hJ hoff hdep
        have e44 := hdep 2 rfl rfl 44 rfl
        have e45 := hdep 3 rfl rfl 45 rfl
        exact dp_v (v := (pt b44 o45)) wn (rv_ix Tryz.underlying29 ti37 e44 e45 hi43) rfl hJ) ?_
      refine ac rfl (by
        intro k; rintro ⟨a50, c51⟩ ρ σm hJ hoff hdep
        have e46 := hdep 4 rfl rfl 46 rfl
        exact dp_v (v := (pt b44 (o45 + 0))) wn (rv_fieldAddr (off := 0) (ft := 3) Tryz.underlying37 rfl ti3 rfl e46) rfl hJ) ?_
      refine all_cons (by
        refine ⟨?_, ?_⟩
        ·rintro ⟨a50, c51⟩ ρ σm hJ hoff hdep
         have e47 := hdep 5 rfl rfl 47 rfl
         obtain ⟨H, m⟩ := id hJ
         have hc46 := ((H.own 4 rfl).at hx42 hi43).fst.int
         exact dp_v (v := (I x41.1)) wn (rv_load1 Tryz.underlying3 rfl e47 hc46) rfl hJ
        trivial) ?_
      refine all_cons (by
        refine ⟨?_, ?_⟩
        ·rintro ⟨a50, c51⟩ ρ σm hJ hoff hdep
         have e43 : look 72 ρ 43 = (Sl a5 r2.1 c6) := hdep 1 rfl rfl 43 rfl
         have e48 : look 72 ρ 48 = (I x41.1) := hdep 6 rfl rfl 48 rfl
         obtain ⟨H, m⟩ := id hJ
         refine dp_cx wn (cx_call hc49 (ent_f hc49.fn (by show [look 72 ρ 43, look 72 ρ 48] = _; rw [e43, e48])) hn0 (H.sel' [0, 0, 1, 2, 3, 4] rfl rfl : Hp S0 σ0 _ ([_] ++ _))) ?_
         rintro _ σq ⟨_, ⟨a50x, c51x, rfl, rfl⟩, H2, m2⟩
         exact ⟨_, (a50x, c51x), rfl, rfl, ⟨H2.sel' [0, 1, 2, 3, 4, 5] rfl rfl, m.comp0 (m2.mono (fun i h => by simp [cov, Ch.ro] at h))⟩, stab [0, 1, 2, 3, 4, 5, 6] (by kernel_rfl) ⟨rfl, rfl, rfl, rfl, rfl, rfl, rfl, trivial⟩⟩
        trivial) ?_
      refine ac rfl (by
        intro k; rintro ⟨a50, c51⟩ ρ σm hJ hoff hdep
        have e49 := hdep 7 rfl rfl 49 rfl
        exact dp_v (v := (I r47.2.2)) wn (rv_field (off := 2) (ft := 3) Tryz.underlying34 rfl Tryz.underlying3 rfl e49 rfl) rfl hJ) ?_
      exact all_nil
     ·rintro ⟨a50, c51⟩ ρ σ52 hJ hoff hrel
      have e3 := look_off (N := 72) (hoff 3 rfl) rfl
      have e4 := look_off (N := 72) (hoff 4 rfl) rfl
      have e5 := look_off (N := 72) (hoff 5 rfl) rfl
      have e6 := look_off (N := 72) (hoff 6 rfl) rfl
      have e7 := look_off (N := 72) (hoff 7 rfl) rfl
      have e8 := look_off (N := 72) (hoff 8 rfl) rfl
      have e9 := look_off (N := 72) (hoff 9 rfl) rfl
      have e42 := hrel 0 rfl 42 rfl
      have e50 := hrel 8 rfl 50 rfl
      obtain ⟨H, -⟩ := (show Hp S0 σ0 σ52 [Ch.ro 0 (Sl a50 r47.2.1 c51) r47.2.1, Ch.ro 0 (Sl a5 r2.1 c6) r2.1, Ch.ro n0 (Sl a5 r2.1 c6) r2.1, Ch.bx n0 b10 0 [(I r2.2.1.1), (I r2.2.1.2.1), (I r2.2.1.2.2)] [] [], Ch.own n0 n0 (Sl a7 r2.2.2.2.1 c8) r2.2.2.2.1, Ch.own 0 n0 (Sl a17 r14 c18) r14] ∧ Md (cov []) σ38 σ52 from hJ)
      clear hJ Hs
      rw [fr_lookL (L := [(3, (Sl a5 r2.1 c6)), (4, (pt b10 0)), (5, (I r2.2.2.1)), (6, (Sl a7 r2.2.2.2.1 c8)), (7, (I r2.2.2.2.2)), (8, (Sl a17 r14 c18)), (9, (I s35)), (42, (.agg #[(I r2.2.1.1), (I r2.2.1.2.1), (I r2.2.1.2.2)])), (50, (I r47.2.2))]) ⟨e3, e4, e5, e6, e7, e8, e9, e42, e50, trivial⟩]
      clear hoff hrel e3 e4 e5 e6 e7 e8 e9 e42 e50
      revert h; refine br fun r53 hx54 h => ?_
      have hc55 := c_impl_Passes hx54
      refine st_call (cx_call hc55 (ent_f hc55.fn rfl) hn0 (H.sel' [0, 1, 2, 3, 4, 5] rfl rfl : Hp S0 σ0 _ ([] ++ _))) wn ?_
      rintro _ σ56 ⟨_, ⟨rfl, rfl⟩, H, -⟩
      replace H : Hp _ _ _ [_, _, _, _, _, _] := H
      refine st (v := (B (!r53))) (rv_not rfl) (w_end (q_then ?_))
      refine cd_cond (!r53) rfl (fun hb57 => ?_) (fun hb57 => ?_)
      ·replace h := bif_t hb57 h
       refine c_seq (rg (sa (B false) rfl (w_end (q_then (c_ret (q_blk_r (q_then_r (q_then_r (q_blk_r ?_)))))))))
       obtain rfl := sj h
       obtain rfl := hres _ rfl
       exact .inr (⟨_, rfl, rfl, _, σ56, fr_join ⟨rfl, trivial⟩, rfl, H.sel' [] rfl rfl⟩)
      ·replace h := bif_f hb57 h
       refine c_skip (q_blk (q_then (rg (sm (I s35) rfl (st (v := (I (w64 (s35 + 1)))) (rv_add (a := s35) (b := 1) rfl rfl) (sa (I (w64 (s35 + 1))) rfl (w_end (q_then ?_))))))))
       obtain rfl := sj h
       exact ⟨_, rfl, _, σ56, fr_join ⟨rfl, rfl, rfl, rfl, rfl, rfl, rfl, trivial⟩, rfl, H.sel' [2, 3, 4, 5] rfl rfl⟩
    ·replace h := bif_f hb39 h
     refine c_exit (q_then_x (q_then_x (q_blk_hit ?_)))
     obtain rfl := sj h
     obtain rfl := hres _ rfl
     exact .inl ⟨_, rfl, rfl, _, σ38, fr_join ⟨rfl, rfl, rfl, rfl, rfl, rfl, trivial⟩, rfl, H.sel' [0, 1, 2, 3] rfl rfl⟩
   ·clear hj
    have h := h'
    clear h' H
    rintro e a w (⟨t58, rfl, rfl, ρ, σ59, rfl, rfl, H⟩ | ⟨t97, rfl, rfl, ρ, σ98, rfl, rfl, H⟩)
    ·replace h := selim_l h
     refine q_then (c_seq (rg ?_))
     have hc60 := H.cells 1 rfl
     refine st (v := (.agg #[(I r2.2.1.1), (I r2.2.1.2.1), (I r2.2.1.2.2)])) (rv_load (cs := [(I r2.2.1.1), (I r2.2.1.2.1), (I r2.2.1.2.2)]) Tryz.underlying25 rfl ti25 rfl rfl hc60) ?_
     revert h; refine br fun r61 hx62 h => ?_
     have hc63 := c_impl_ValidFilter hx62
     refine st_call (cx_call hc63 (ent_f hc63.fn rfl) hn0 (H.sel' [0, 1, 2, 3] rfl rfl : Hp S0 σ0 _ ([] ++ _))) wn ?_
     rintro _ σ64 ⟨_, ⟨rfl, rfl⟩, H, -⟩
     replace H : Hp _ _ _ [_, _, _, _] := H
     refine st (v := (B (!r61))) (rv_not rfl) (sm (B (!r61)) rfl ?_)
     rcases Bool.eq_false_or_eq_true (!r61) with hb65 | hb65
     ·replace h := bif_t hb65 h
      refine st_skip (congrArg some hb65) (st_skip (congrArg some hb65) (st_skip (congrArg some hb65) (st (v := (B true)) (rv_pick_t (congrArg B hb65) rfl) (sm (B true) rfl (st_skip rfl (st_skip rfl (st_skip rfl (st_skip rfl (st_skip rfl (st_skip rfl (st_skip rfl ?_)))))))))))
      refine st_skip rfl (st_skip rfl (st (v := (B true)) (rv_pick_t rfl rfl) (sa (B true) rfl (w_end (q_then (c_ret ?_))))))
      obtain rfl := sj h
      exact fin_ret (v := (B true)) (results_ok Tryz.results3 (res_tmp (v := (B true)) rfl res_nil) rfl) ⟨rfl, rfl⟩ (H.sel' [] rfl rfl)
     ·replace h := bif_f hb65 h
      refine st_g (v := (Sl a5 r2.1 c6)) (congrArg some hb65) (rv_move rfl) ?_
      replace H := H.roLow 0 0 rfl (Nat.zero_le _)
      revert h; refine br fun r66 hx67 h => ?_
      have hc68 := c_impl_ValidStore (Au := a5) (Av := c6) hx67
      refine st_call (cx_call hc68 (ent_f hc68.fn rfl) hn0 (H.sel' [0, 0, 1, 2, 3, 4] rfl rfl : Hp S0 σ0 _ ([_] ++ _))) (wanted_yes rfl (by exact (congrArg some hb65))) ?_
      rintro _ σ69 ⟨_, ⟨rfl, rfl⟩, H, -⟩
      replace H : Hp _ _ _ [_, _, _, _, _] := H
      refine st_g (v := (B (!r66))) (congrArg some hb65) (rv_not rfl) (st (v := (B (!r66))) (rv_pick_f (congrArg B hb65) rfl) (sm (B (!r66)) rfl ?_))
      rcases Bool.eq_false_or_eq_true (!r66) with hb70 | hb70
      ·replace h := bif_t hb70 h
       refine st_skip (congrArg some hb70) (st_skip (congrArg some hb70) (st_skip (congrArg some hb70) (st_skip (congrArg some hb70) (st_skip (congrArg some hb70) (st_skip (congrArg some hb70) (st_skip (congrArg some hb70) (st_skip (congrArg some hb70) (st_skip (congrArg some hb70) (st (v := (B true)) (rv_pick_t (congrArg B hb70) rfl) (sa (B true) rfl (w_end ?_)))))))))))
       refine q_then (c_ret ?_)
       obtain rfl := sj h
       exact fin_ret (v := (B true)) (results_ok Tryz.results3 (res_tmp (v := (B true)) rfl res_nil) rfl) ⟨rfl, rfl⟩ (H.sel' [] rfl rfl)
      ·replace h := bif_f hb70 h
       refine st_g (v := (Sl a5 r2.1 c6)) (congrArg some hb70) (rv_move rfl) ?_
       have hc71 := H.cells 2 rfl
       refine st_g (v := (.agg #[(I r2.2.1.1), (I r2.2.1.2.1), (I r2.2.1.2.2)])) (congrArg some hb70) (rv_load (cs := [(I r2.2.1.1), (I r2.2.1.2.1), (I r2.2.1.2.2)]) Tryz.underlying25 rfl ti25 rfl rfl hc71) ?_
       replace H := H.roLow 1 0 rfl (Nat.zero_le _)
       revert h; refine br fun r72 hx73 h => ?_
       have hc74 := c_impl_FilterStore (Au := a5) (Av := c6) hx73
       refine st_call (cx_call hc74 (ent_f hc74.fn rfl) hn0 (H.sel' [0, 0, 1, 2, 3, 4, 5] rfl rfl : Hp S0 σ0 _ ([_] ++ _))) (wanted_yes rfl (by exact (congrArg some hb70))) ?_
       rintro _ σ78 ⟨_, ⟨a75, c76, rfl, rfl, ht77⟩, H, -⟩
       replace H : Hp _ _ _ [_, _, _, _, _, _, _] := H
       refine st_g (v := (I r2.2.2.1)) (congrArg some hb70) (rv_move rfl) (st_g (v := (Sl a7 r2.2.2.2.1 c8)) (congrArg some hb70) (rv_move rfl) (st_g (v := (I r2.2.2.2.2)) (congrArg some hb70) (rv_move rfl) ?_))
       obtain ⟨σ79, hw80, H, -⟩ := H.pub 0 rfl (Nat.le_refl _)
       rw [← hw80]; clear hw80
       obtain ⟨σ81, hw82, H, -⟩ := H.pub 5 rfl (Nat.le_refl _)
       rw [← hw82]; clear hw82
       replace H := H.roLow 1 0 rfl (Nat.zero_le _)
       replace H := H.roLow 1 0 rfl (Nat.zero_le _)
       revert h; refine br fun r83 hx84 h => ?_
       have hc85 := c_impl_Nearest (Au := a75) (Av := c76) (Bu := a7) (Bv := c8) hx84
       refine st_call (cx_call hc85 (ent_f hc85.fn rfl) hn0 (H.sel' [1, 0, 0, 1, 2, 3, 4, 5, 6, 7, 8] rfl rfl : Hp S0 σ0 _ ([_, _] ++ _))) (wanted_yes rfl (by exact (congrArg some hb70))) ?_
       rintro _ σ88 ⟨_, ⟨a86, c87, rfl, rfl⟩, H, -⟩
       replace H : Hp _ _ _ [_, _, _, _, _, _, _, _, _, _] := H
       replace H : Hp S0 σ0 σ88 [Ch.own 0 n0 (Sl a86 r83 c87) r83, Ch.own 0 n0 (Sl a17 r14 c18) r14] := H.sel' [0, 9] rfl rfl
       refine st_g (v := (Sl a17 r14 c18)) (congrArg some hb70) (rv_move rfl) ?_
       replace H := H.ownLow 0 0 0 rfl (Nat.le_refl _) (Nat.zero_le _)
       obtain ⟨σ89, hw90, H, -⟩ := H.pub 0 rfl (Nat.le_refl _)
       rw [← hw90]; clear hw90
       replace H := H.ownLow 1 0 0 rfl (Nat.le_refl _) (Nat.zero_le _)
       obtain ⟨σ91, hw92, H, -⟩ := H.pub 0 rfl (Nat.le_refl _)
       rw [← hw92]; clear hw92
       revert h; refine br fun r93 hx94 h => ?_
       have hc95 := c_laws_equalHits (Gd := a86) (Ge := c87) (Gf := a17) (Gg := c18) hx94
       refine st_call (cx_call hc95 (ent_f hc95.fn rfl) hn0 (H.sel' [1, 0, 0, 1] rfl rfl : Hp S0 σ0 _ ([_, _] ++ _))) (wanted_yes rfl (by exact (congrArg some hb70))) ?_
       rintro _ σ96 ⟨_, ⟨rfl, rfl⟩, H, -⟩
       replace H : Hp _ _ _ [_, _] := H
       refine st (v := (B r93)) (rv_pick_f (congrArg B hb70) rfl) (sa (B r93) rfl (w_end (q_then (c_ret ?_))))
       obtain rfl := sj h
       exact fin_ret (v := (B r93)) (results_ok Tryz.results3 (res_tmp (v := (B r93)) rfl res_nil) rfl) ⟨rfl, rfl⟩ (H.sel' [] rfl rfl)
    ·replace h := selim_r h
     refine q_then_r ?_
     obtain rfl := sj h
     exact fin_ret (v := (B t97)) (results_ok Tryz.results3 (res_tmp (v := (B t97)) rfl res_nil) rfl) ⟨rfl, rfl⟩ (H.sel' [] rfl rfl)

end Go.Vs
