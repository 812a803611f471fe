/- The functions compute what their models say. -/
import Derived.Test.YtanbdmdbfjonhaaGreatKFilterNearestCountC4
set_option linter.unusedVariables false
set_option linter.unusedSimpArgs false
set_option maxRecDepth 20000
namespace Go.Vs
open Go Go.Proofs
attribute [local irreducible] Code.wp Code.wpIn wpList wpListIn wpQuiet Calls CallsIn

theorem c_impl_ValidHits {As : List (Int × Int)} {Au : Option Addr} {Av : Nat} {r : Bool} (h : M.impl_ValidHits As = some r) :
    Cal2 Tryz.prog 16 [(Sl Au As Av)] [Ch.ro 0 (Sl Au As Av) As] (fun n0 v L => v = (B r) ∧ L = []) := by
 refine cal2 (n := 40) Tryz.func16 rfl rfl rfl rfl ?_
 intro S0 σ0 n0 hn0 H
 unfold M.impl_ValidHits at h
 refine c_seq (rg (sa (B false) rfl (w_end (q_then (c_seq (c_seq (rg (sm (Sl Au As Av) rfl (st (v := (I (As.length : Int))) (rv_len Tryz.underlying29 rfl) (st (v := (B (decide (16 < (As.length : Int))))) (rv_gtr (a := (As.length : Int)) (b := 16) rfl rfl) (w_end ?_)))))))))))
 refine q_then ?_
 refine cd_cond (decide (16 < (As.length : Int))) rfl (fun hb1 => ?_) (fun hb1 => ?_)
 ·replace h := bif_t hb1 h
  refine c_seq (rg (sa (B false) rfl (w_end (q_then (c_ret (q_then_r ?_))))))
  obtain rfl := sj h
  exact fin_ret (v := (B false)) (results_ok Tryz.results16 (res_tmp (v := (B false)) rfl res_nil) rfl) ⟨rfl, rfl⟩ (H.sel' [] rfl rfl)
 ·replace h := bif_f hb1 h
  refine c_skip (q_then (c_seq (c_seq (rg (sm (Sl Au As Av) rfl (st (v := (I (As.length : Int))) (rv_len Tryz.underlying29 rfl) (sm (I 0) rfl (w_end (q_then ?_)))))))))
  obtain ⟨o2, hj, h'⟩ := bind_some h
  clear h
  refine c_cut (fun e a w => (∃ t, o2 = (.inl t) ∧ e = .normal ∧ ∃ (ρ : Nat → Value) (σ : St), a = fr 40 (updL ρ []) ∧ w = σ.w ∧ Hp S0 σ0 σ []) ∨ (∃ t, o2 = (.inr t) ∧ e = .ret ∧ ∃ (ρ : Nat → Value) (σ : St), a = fr 40 (updL ρ [(2, (B t))]) ∧ w = σ.w ∧ Hp S0 σ0 σ [])) ?_ ?_
  ·clear h'
   rename _ = some o2 => h
   refine c_blk (wp_loopM _ h (fun s3 a w => ∃ (ρ : Nat → Value) (σ : St), a = fr 40 (updL ρ [(0, (Sl Au As Av)), (8, (Sl Au As Av)), (9, (I (As.length : Int))), (10, (I s3))]) ∧ w = σ.w ∧ Hp S0 σ0 σ [Ch.ro 0 (Sl Au As Av) As]) ⟨_, σ0, fr_join ⟨rfl, rfl, rfl, rfl, trivial⟩, rfl, H.sel' [0] rfl rfl⟩ ?_)
   clear h H
   rintro s3 a w o ⟨ρ, σ4, rfl, rfl, H⟩ h hres
   refine c_seq (rg (st (v := (B (decide (s3 < (As.length : Int))))) (rv_lss (a := s3) (b := (As.length : Int)) rfl rfl) (w_end (q_then (c_seq ?_)))))
   refine cd_cond (decide (s3 < (As.length : Int))) rfl (fun hb5 => ?_) (fun hb5 => ?_)
   ·replace h := bif_t hb5 h
    refine c_skip (q_then (c_seq (c_blk (c_seq (rg (sm (I s3) rfl ?_))))))
    revert h; refine br fun x6 hx7 h => ?_
    obtain ⟨b9, o10, hi8, -⟩ := (H.ro 0 rfl).ix hx7
    refine st (v := (pt b9 o10)) (rv_ix Tryz.underlying29 ti37 rfl rfl hi8) ?_
    obtain ⟨_, ⟨_, _, rfl, rfl, rfl⟩, hl11, hc12⟩ := ((H.ro 0 rfl).at hx7 hi8).cells
    refine st (v := (.agg #[(I x6.1), (I x6.2)])) (rv_load Tryz.underlying37 rfl ti37 rfl hl11 hc12) (st_ex (ex_alloc (cs := [(I 0), (I 0)]) H hn0 ti37 rfl) wn ?_)
    rintro _ σ14 ⟨b13, rfl, H, -⟩
    refine sa (I s3) rfl ?_
    refine st_exS (ex_store_box (k := 0) (cs := [(I 0), (I 0)]) (vs := [(I x6.1), (I x6.2)]) (cs' := [(I x6.1), (I x6.2)]) H (i := 0) rfl ti37 rfl rfl rfl rfl rfl (Nat.le_of_ble_eq_true rfl) (by simp [plain]) rfl) wn ?_
    rintro σ15 ⟨H, -⟩
    refine w_end (q_then (c_seq (c_seq ?_)))
    obtain ⟨o16, hj, h'⟩ := bind_some h
    clear h
    refine c_cut (fun e a w => e = .normal ∧ ∃ (ρ : Nat → Value) (σ : St), a = fr 40 (updL ρ [(0, (Sl Au As Av)), (3, (I s3)), (4, (pt b13 0)), (8, (Sl Au As Av)), (9, (I (As.length : Int))), (10, (I s3)), (31, (B o16))]) ∧ w = σ.w ∧ Hp S0 σ0 σ [Ch.ro 0 (Sl Au As Av) As, Ch.bx n0 b13 0 [(I x6.1), (I x6.2)] [] []]) ?_ ?_
    ·clear h'
     rename _ = some o16 => h
     have hc17 := H.cells 0 rfl
     revert h; refine br fun r18 hx19 h => ?_
     have hc20 := c_impl_validHit hx19
     rcases Bool.eq_false_or_eq_true (!r18) with hb21 | hb21
     ·replace h := bif_t hb21 h
      have Hs := H
      refine rg2 (σ := σ15) (Nm := Unit) 13 [1] [[false], [true]] [[(0, 0)], [(0, 1)], [(1, 1)], [(1, 1)], [(1, 1)], [(1, 1)], [(1, 1)], [(1, 1)], [(1, 1)], [(1, 1)], [(1, 1)], [(1, 1)], [(1, 1)]] 1 [fun _ => fun σm => Hp S0 σ0 σm [Ch.bx n0 b13 0 [(I x6.1), (I x6.2)] [] [], Ch.ro 0 (Sl Au As Av) As] ∧ Md (cov []) σ15 σm, fun _ => fun σm => Hp S0 σ0 σm [Ch.bx n0 b13 0 [(I x6.1), (I x6.2)] [] [], Ch.ro 0 (Sl Au As Av) As] ∧ Md (cov []) σ15 σm] [fun _ => (.agg #[(I x6.1), (I x6.2)]), fun _ => (B r18), fun _ => (B (!r18)), fun _ => (B (!r18)), fun _ => undef, fun _ => undef, fun _ => undef, fun _ => undef, fun _ => undef, fun _ => undef, fun _ => undef, fun _ => undef, fun _ => undef] () (by kernel_rfl) (by kernel_rfl) ?_ ?_ ?_
      ·intro σm m0
       exact ⟨H.grow (m0.mono fun _ h => h.elim), m0⟩
      ·refine all_cons (by
         refine ⟨?_, ?_⟩
         ·intro _nm ρ σm hJ hoff hdep
          have e4 := look_off (N := 40) (hoff 4 rfl) rfl
          obtain ⟨H, m⟩ := id hJ
          have hc17 := H.cells 0 rfl
          exact dp_v (v := (.agg #[(I x6.1), (I x6.2)])) wn (rv_load (cs := [(I x6.1), (I x6.2)]) Tryz.underlying37 rfl ti37 e4 rfl hc17) rfl hJ
         trivial) ?_
       refine all_cons (by
         refine ⟨?_, ?_⟩
         ·intro _nm ρ σm hJ hoff hdep
          have e15 : look 40 ρ 15 = (.agg #[(I x6.1), (I x6.2)]) := hdep 0 rfl rfl 15 rfl
          obtain ⟨H, m⟩ := id hJ
          refine dp_cx wn (cx_call hc20 (ent_f hc20.fn (by show [look 40 ρ 15] = _; rw [e15])) hn0 (H.sel' [0, 1] rfl rfl : Hp S0 σ0 _ ([] ++ _))) ?_
          rintro _ σq ⟨_, ⟨rfl, rfl⟩, H2, m2⟩
          exact ⟨_, (), rfl, rfl, ⟨H2.sel' [0, 1] rfl rfl, m.comp0 m2⟩, stab [0] (by kernel_rfl) ⟨rfl, trivial⟩⟩
         trivial) ?_
       refine ac rfl (by
         intro k _nm ρ σm hJ hoff hdep
         have e16 := hdep 1 rfl rfl 16 rfl
         exact dp_v (v := (B (!r18))) wn (rv_not e16) rfl hJ) ?_
       refine ac rfl (by
         intro k _nm ρ σm hJ hoff hdep
         have e17 := hdep 2 rfl rfl 17 rfl
         exact dp_v (v := (B (!r18))) wn (rv_move e17) rfl hJ) ?_
       refine ac rfl (by
         intro k _nm ρ σm hJ hoff hdep
         have e18 := hdep 3 rfl rfl 18 rfl
         exact dp_skip (wanted_no rfl (yv_of rfl (e18.trans (congrArg B hb21)))) rfl hJ) ?_
       refine ac rfl (by
         intro k _nm ρ σm hJ hoff hdep
         have e18 := hdep 3 rfl rfl 18 rfl
         exact dp_skip (wanted_no rfl (yv_of rfl (e18.trans (congrArg B hb21)))) rfl hJ) ?_
       refine ac rfl (by
         intro k _nm ρ σm hJ hoff hdep
         have e18 := hdep 3 rfl rfl 18 rfl
         exact dp_skip (wanted_no rfl (yv_of rfl (e18.trans (congrArg B hb21)))) rfl hJ) ?_
       refine ac rfl (by
         intro k _nm ρ σm hJ hoff hdep
         have e21 := hdep 6 rfl rfl 21 rfl
         exact dp_skip (wanted_u rfl (yv_undef rfl e21)) rfl hJ) ?_
       refine ac rfl (by
         intro k _nm ρ σm hJ hoff hdep
         have e21 := hdep 6 rfl rfl 21 rfl
         exact dp_skip (wanted_u rfl (yv_undef rfl e21)) rfl hJ) ?_
       refine ac rfl (by
         intro k _nm ρ σm hJ hoff hdep
         have e21 := hdep 6 rfl rfl 21 rfl
         exact dp_skip (wanted_u rfl (yv_undef rfl e21)) rfl hJ) ?_
       refine ac rfl (by
         intro k _nm ρ σm hJ hoff hdep
         have e21 := hdep 6 rfl rfl 21 rfl
         exact dp_skip (wanted_u rfl (yv_undef rfl e21)) rfl hJ) ?_
       refine ac rfl (by
         intro k _nm ρ σm hJ hoff hdep
         have e21 := hdep 6 rfl rfl 21 rfl
         exact dp_skip (wanted_u rfl (yv_undef rfl e21)) rfl hJ) ?_
       refine ac rfl (by
         intro k _nm ρ σm hJ hoff hdep
         have e21 := hdep 6 rfl rfl 21 rfl
         exact dp_skip (wanted_u rfl (yv_undef rfl e21)) rfl hJ) ?_
       exact all_nil
      ·intro _nm ρ σ22 hJ hoff hrel
       have e0 := look_off (N := 40) (hoff 0 rfl) rfl
       have e3 := look_off (N := 40) (hoff 3 rfl) rfl
       have e4 := look_off (N := 40) (hoff 4 rfl) rfl
       have e8 := look_off (N := 40) (hoff 8 rfl) rfl
       have e9 := look_off (N := 40) (hoff 9 rfl) rfl
       have e10 := look_off (N := 40) (hoff 10 rfl) rfl
       have e18 := hrel 3 rfl 18 rfl
       have e21 := hrel 6 rfl 21 rfl
       have e26 := hrel 11 rfl 26 rfl
       have e27 := hrel 12 rfl 27 rfl
       obtain ⟨H, -⟩ := (show Hp S0 σ0 σ22 [Ch.bx n0 b13 0 [(I x6.1), (I x6.2)] [] [], Ch.ro 0 (Sl Au As Av) As] ∧ Md (cov []) σ15 σ22 from hJ)
       clear hJ Hs
       rw [fr_lookL (L := [(0, (Sl Au As Av)), (3, (I s3)), (4, (pt b13 0)), (8, (Sl Au As Av)), (9, (I (As.length : Int))), (10, (I s3)), (18, (B (!r18))), (21, undef), (26, undef), (27, undef)]) ⟨e0, e3, e4, e8, e9, e10, e18, e21, e26, e27, trivial⟩]
       clear hoff hrel e0 e3 e4 e8 e9 e10 e18 e21 e26 e27
       refine st_skip_u rfl (st_skip_u rfl (st_skip (congrArg some hb21) (st (v := (B true)) (rv_pick_t (congrArg B hb21) rfl) (w_end ?_))))
       obtain rfl := sj h
       exact ⟨rfl, _, σ22, fr_join ⟨rfl, rfl, rfl, rfl, rfl, rfl, rfl, trivial⟩, rfl, H.sel' [1, 0] rfl rfl⟩
     ·replace h := bif_f hb21 h
      rcases Bool.eq_false_or_eq_true (decide (0 < s3)) with hb23 | hb23
      ·replace h := bif_t hb23 h
       revert h; refine br fun x24 hx25 h => ?_
       obtain ⟨b27, o28, hi26, -⟩ := (H.ro 1 rfl).ix hx25
       obtain ⟨_, ⟨_, _, rfl, rfl, rfl⟩, hl29, hc30⟩ := ((H.ro 1 rfl).at hx25 hi26).cells
       have hc31 := H.cells 0 rfl
       have Hs := H
       refine rg2 (σ := σ15) (Nm := Unit) 13 [1] [[false], [true]] [[(0, 0)], [(0, 1)], [(1, 1)], [(1, 1)], [(1, 1)], [(1, 1)], [(1, 1)], [(1, 1)], [(1, 1)], [(1, 1)], [(1, 1)], [(1, 1)], [(1, 1)]] 1 [fun _ => fun σm => Hp S0 σ0 σm [Ch.bx n0 b13 0 [(I x6.1), (I x6.2)] [] [], Ch.ro 0 (Sl Au As Av) As] ∧ Md (cov []) σ15 σm, fun _ => fun σm => Hp S0 σ0 σm [Ch.bx n0 b13 0 [(I x6.1), (I x6.2)] [] [], Ch.ro 0 (Sl Au As Av) As] ∧ Md (cov []) σ15 σm] [fun _ => (.agg #[(I x6.1), (I x6.2)]), fun _ => (B r18), fun _ => (B (!r18)), fun _ => (B (!r18)), fun _ => (I s3), fun _ => (B (decide (0 < s3))), fun _ => (B (decide (0 < s3))), fun _ => (Sl Au As Av), fun _ => (I s3), fun _ => (I (w64 (s3 - 1))), fun _ => (pt b27 o28), fun _ => (.agg #[(I x24.1), (I x24.2)]), fun _ => (.agg #[(I x6.1), (I x6.2)])] () (by kernel_rfl) (by kernel_rfl) ?_ ?_ ?_
       ·intro σm m0
        exact ⟨H.grow (m0.mono fun _ h => h.elim), m0⟩
       ·refine all_cons (by
          refine ⟨?_, ?_⟩
          ·intro _nm ρ σm hJ hoff hdep
           have e4 := look_off (N := 40) (hoff 4 rfl) rfl
           obtain ⟨H, m⟩ := id hJ
           have hc17 := H.cells 0 rfl
           exact dp_v (v := (.agg #[(I x6.1), (I x6.2)])) wn (rv_load (cs := [(I x6.1), (I x6.2)]) Tryz.underlying37 rfl ti37 e4 rfl hc17) rfl hJ
          trivial) ?_
        refine all_cons (by
          refine ⟨?_, ?_⟩
          ·intro _nm ρ σm hJ hoff hdep
           have e15 : look 40 ρ 15 = (.agg #[(I x6.1), (I x6.2)]) := hdep 0 rfl rfl 15 rfl
           obtain ⟨H, m⟩ := id hJ
           refine dp_cx wn (cx_call hc20 (ent_f hc20.fn (by show [look 40 ρ 15] = _; rw [e15])) hn0 (H.sel' [0, 1] rfl rfl : Hp S0 σ0 _ ([] ++ _))) ?_
           rintro _ σq ⟨_, ⟨rfl, rfl⟩, H2, m2⟩
           exact ⟨_, (), rfl, rfl, ⟨H2.sel' [0, 1] rfl rfl, m.comp0 m2⟩, stab [0] (by kernel_rfl) ⟨rfl, trivial⟩⟩
          trivial) ?_
        refine ac rfl (by
          intro k _nm ρ σm hJ hoff hdep
          have e16 := hdep 1 rfl rfl 16 rfl
          exact dp_v (v := (B (!r18))) wn (rv_not e16) rfl hJ) ?_
        refine ac rfl (by
          intro k _nm ρ σm hJ hoff hdep
          have e17 := hdep 2 rfl rfl 17 rfl
          exact dp_v (v := (B (!r18))) wn (rv_move e17) rfl hJ) ?_
        refine ac rfl (by
          intro k _nm ρ σm hJ hoff hdep
          have e3 := look_off (N := 40) (hoff 3 rfl) rfl
          have e18 := hdep 3 rfl rfl 18 rfl
          exact dp_v (v := (I s3)) (wanted_yes rfl (yv_of rfl (e18.trans (congrArg B hb21)))) (rv_move e3) rfl hJ) ?_
        refine ac rfl (by
          intro k _nm ρ σm hJ hoff hdep
          have e19 := hdep 4 rfl rfl 19 rfl
          have e18 := hdep 3 rfl rfl 18 rfl
          exact dp_v (v := (B (decide (0 < s3)))) (wanted_yes rfl (yv_of rfl (e18.trans (congrArg B hb21)))) (rv_gtr (a := s3) (b := 0) e19 rfl) rfl hJ) ?_
        refine ac rfl (by
          intro k _nm ρ σm hJ hoff hdep
          have e20 := hdep 5 rfl rfl 20 rfl
          have e18 := hdep 3 rfl rfl 18 rfl
          exact dp_v (v := (B (decide (0 < s3)))) (wanted_yes rfl (yv_of rfl (e18.trans (congrArg B hb21)))) (rv_move e20) rfl hJ) ?_
        refine ac rfl (by
          intro k _nm ρ σm hJ hoff hdep
          have e0 := look_off (N := 40) (hoff 0 rfl) rfl
          have e21 := hdep 6 rfl rfl 21 rfl
          exact dp_v (v := (Sl Au As Av)) (wanted_yes rfl (yv_of rfl (e21.trans (congrArg B hb23)))) (rv_move e0) rfl hJ) ?_
        refine ac rfl (by
          intro k _nm ρ σm hJ hoff hdep
          have e3 := look_off (N := 40) (hoff 3 rfl) rfl
          have e21 := hdep 6 rfl rfl 21 rfl
          exact dp_v (v := (I s3)) (wanted_yes rfl (yv_of rfl (e21.trans (congrArg B hb23)))) (rv_move e3) rfl hJ) ?_
        refine ac rfl (by
          intro k _nm ρ σm hJ hoff hdep
          have e23 := hdep 8 rfl rfl 23 rfl
          have e21 := hdep 6 rfl rfl 21 rfl
          exact dp_v (v := (I (w64 (s3 - 1)))) (wanted_yes rfl (yv_of rfl (e21.trans (congrArg B hb23)))) (rv_sub (a := s3) (b := 1) e23 rfl) rfl hJ) ?_
        refine ac rfl (by
          intro k _nm ρ σm hJ hoff hdep
          have e22 := hdep 7 rfl rfl 22 rfl
          have e24 := hdep 9 rfl rfl 24 rfl
          have e21 := hdep 6 rfl rfl 21 rfl
          exact dp_v (v := (pt b27 o28)) (wanted_yes rfl (yv_of rfl (e21.trans (congrArg B hb23)))) (rv_ix Tryz.underlying29 ti37 e22 e24 hi26) rfl hJ) ?_
        refine all_cons (by
          refine ⟨?_, ?_⟩
          ·intro _nm ρ σm hJ hoff hdep
           have e25 := hdep 10 rfl rfl 25 rfl
           have e21 := hdep 6 rfl rfl 21 rfl
           obtain ⟨H, m⟩ := id hJ
           replace hc30 := fun j hj => (Hs.ro 1 rfl).hmd hx25 hi26 (k := j) (Nat.lt_of_lt_of_eq hj hl29) (hc30 j hj) m
           exact dp_v (v := (.agg #[(I x24.1), (I x24.2)])) (wanted_yes rfl (yv_of rfl (e21.trans (congrArg B hb23)))) (rv_load Tryz.underlying37 rfl ti37 e25 hl29 hc30) rfl hJ
          trivial) ?_
        refine all_cons (by
          refine ⟨?_, ?_⟩
          ·intro _nm ρ σm hJ hoff hdep
           have e4 := look_off (N := 40) (hoff 4 rfl) rfl
           have e21 := hdep 6 rfl rfl 21 rfl
           obtain ⟨H, m⟩ := id hJ
           have hc31 := H.cells 0 rfl
           exact dp_v (v := (.agg #[(I x6.1), (I x6.2)])) (wanted_yes rfl (yv_of rfl (e21.trans (congrArg B hb23)))) (rv_load (cs := [(I x6.1), (I x6.2)]) Tryz.underlying37 rfl ti37 e4 rfl hc31) rfl hJ
          trivial) ?_
        exact all_nil
       ·intro _nm ρ σ32 hJ hoff hrel
        have e0 := look_off (N := 40) (hoff 0 rfl) rfl
        have e3 := look_off (N := 40) (hoff 3 rfl) rfl
        have e4 := look_off (N := 40) (hoff 4 rfl) rfl
        have e8 := look_off (N := 40) (hoff 8 rfl) rfl
        have e9 := look_off (N := 40) (hoff 9 rfl) rfl
        have e10 := look_off (N := 40) (hoff 10 rfl) rfl
        have e18 := hrel 3 rfl 18 rfl
        have e21 := hrel 6 rfl 21 rfl
        have e26 := hrel 11 rfl 26 rfl
        have e27 := hrel 12 rfl 27 rfl
        obtain ⟨H, -⟩ := (show Hp S0 σ0 σ32 [Ch.bx n0 b13 0 [(I x6.1), (I x6.2)] [] [], Ch.ro 0 (Sl Au As Av) As] ∧ Md (cov []) σ15 σ32 from hJ)
        clear hJ Hs
        rw [fr_lookL (L := [(0, (Sl Au As Av)), (3, (I s3)), (4, (pt b13 0)), (8, (Sl Au As Av)), (9, (I (As.length : Int))), (10, (I s3)), (18, (B (!r18))), (21, (B (decide (0 < s3)))), (26, (.agg #[(I x24.1), (I x24.2)])), (27, (.agg #[(I x6.1), (I x6.2)]))]) ⟨e0, e3, e4, e8, e9, e10, e18, e21, e26, e27, trivial⟩]
        clear hoff hrel e0 e3 e4 e8 e9 e10 e18 e21 e26 e27
        revert h; refine br fun r33 hx34 h => ?_
        have hc35 := c_impl_compareHits hx34
        refine st_call (cx_call hc35 (ent_f hc35.fn rfl) hn0 (H.sel' [0, 1] rfl rfl : Hp S0 σ0 _ ([] ++ _))) (wanted_yes rfl (by exact (congrArg some hb23))) ?_
        rintro _ σ36 ⟨_, ⟨rfl, rfl⟩, H, -⟩
        replace H : Hp _ _ _ [_, _] := H
        refine st_g (v := (B (decide (0 ≤ r33)))) (congrArg some hb23) (rv_geq (a := r33) (b := 0) rfl rfl) (st_g (v := (B (decide (0 ≤ r33)))) (congrArg some hb21) (rv_pick_t (congrArg B hb23) rfl) (st (v := (B (decide (0 ≤ r33)))) (rv_pick_f (congrArg B hb21) rfl) (w_end ?_)))
        obtain rfl := sj h
        exact ⟨rfl, _, σ36, fr_join ⟨rfl, rfl, rfl, rfl, rfl, rfl, rfl, trivial⟩, rfl, H.sel' [1, 0] rfl rfl⟩
      ·replace h := bif_f hb23 h
       have Hs := H
       refine rg2 (σ := σ15) (Nm := Unit) 13 [1] [[false], [true]] [[(0, 0)], [(0, 1)], [(1, 1)], [(1, 1)], [(1, 1)], [(1, 1)], [(1, 1)], [(1, 1)], [(1, 1)], [(1, 1)], [(1, 1)], [(1, 1)], [(1, 1)]] 1 [fun _ => fun σm => Hp S0 σ0 σm [Ch.bx n0 b13 0 [(I x6.1), (I x6.2)] [] [], Ch.ro 0 (Sl Au As Av) As] ∧ Md (cov []) σ15 σm, fun _ => fun σm => Hp S0 σ0 σm [Ch.bx n0 b13 0 [(I x6.1), (I x6.2)] [] [], Ch.ro 0 (Sl Au As Av) As] ∧ Md (cov []) σ15 σm] [fun _ => (.agg #[(I x6.1), (I x6.2)]), fun _ => (B r18), fun _ => (B (!r18)), fun _ => (B (!r18)), fun _ => (I s3), fun _ => (B (decide (0 < s3))), fun _ => (B (decide (0 < s3))), fun _ => undef, fun _ => undef, fun _ => undef, fun _ => undef, fun _ => undef, fun _ => undef] () (by kernel_rfl) (by kernel_rfl) ?_ ?_ ?_
       ·intro σm m0
        exact ⟨H.grow (m0.mono fun _ h => h.elim), m0⟩
       ·refine all_cons (by
          refine ⟨?_, ?_⟩
          ·intro _nm ρ σm hJ hoff hdep
           have e4 := look_off (N := 40) (hoff 4 rfl) rfl
           obtain ⟨H, m⟩ := id hJ
           have hc17 := H.cells 0 rfl
           exact dp_v (v := (.agg #[(I x6.1), (I x6.2)])) wn (rv_load (cs := [(I x6.1), (I x6.2)]) Tryz.underlying37 rfl ti37 e4 rfl hc17) rfl hJ
          trivial) ?_
        refine all_cons (by
          refine ⟨?_, ?_⟩
          ·intro _nm ρ σm hJ hoff hdep
           have e15 : look 40 ρ 15 = (.agg #[(I x6.1), (I x6.2)]) := hdep 0 rfl rfl 15 rfl
           obtain ⟨H, m⟩ := id hJ
           refine dp_cx wn (cx_call hc20 (ent_f hc20.fn (by show [look 40 ρ 15] = _; rw [e15])) hn0 (H.sel' [0, 1] rfl rfl : Hp S0 σ0 _ ([] ++ _))) ?_
           rintro _ σq ⟨_, ⟨rfl, rfl⟩, H2, m2⟩
           exact ⟨_, (), rfl, rfl, ⟨H2.sel' [0, 1] rfl rfl, m.comp0 m2⟩, stab [0] (by kernel_rfl) ⟨rfl, trivial⟩⟩
          trivial) ?_
        refine ac rfl (by
          intro k _nm ρ σm hJ hoff hdep
          have e16 := hdep 1 rfl rfl 16 rfl
          exact dp_v (v := (B (!r18))) wn (rv_not e16) rfl hJ) ?_
        refine ac rfl (by
          intro k _nm ρ σm hJ hoff hdep
          have e17 := hdep 2 rfl rfl 17 rfl
          exact dp_v (v := (B (!r18))) wn (rv_move e17) rfl hJ) ?_
        refine ac rfl (by
          intro k _nm ρ σm hJ hoff hdep
          have e3 := look_off (N := 40) (hoff 3 rfl) rfl
          have e18 := hdep 3 rfl rfl 18 rfl
          exact dp_v (v := (I s3)) (wanted_yes rfl (yv_of rfl (e18.trans (congrArg B hb21)))) (rv_move e3) rfl hJ) ?_
        refine ac rfl (by
          intro k _nm ρ σm hJ hoff hdep
          have e19 := hdep 4 rfl rfl 19 rfl
          have e18 := hdep 3 rfl rfl 18 rfl
          exact dp_v (v := (B (decide (0 < s3)))) (wanted_yes rfl (yv_of rfl (e18.trans (congrArg B hb21)))) (rv_gtr (a := s3) (b := 0) e19 rfl) rfl hJ) ?_
        refine ac rfl (by
          intro k _nm ρ σm hJ hoff hdep
          have e20 := hdep 5 rfl rfl 20 rfl
          have e18 := hdep 3 rfl rfl 18 rfl
          exact dp_v (v := (B (decide (0 < s3)))) (wanted_yes rfl (yv_of rfl (e18.trans (congrArg B hb21)))) (rv_move e20) rfl hJ) ?_
        refine ac rfl (by
          intro k _nm ρ σm hJ hoff hdep
          have e21 := hdep 6 rfl rfl 21 rfl
          exact dp_skip (wanted_no rfl (yv_of rfl (e21.trans (congrArg B hb23)))) rfl hJ) ?_
        refine ac rfl (by
          intro k _nm ρ σm hJ hoff hdep
          have e21 := hdep 6 rfl rfl 21 rfl
          exact dp_skip (wanted_no rfl (yv_of rfl (e21.trans (congrArg B hb23)))) rfl hJ) ?_
        refine ac rfl (by
          intro k _nm ρ σm hJ hoff hdep
          have e21 := hdep 6 rfl rfl 21 rfl
          exact dp_skip (wanted_no rfl (yv_of rfl (e21.trans (congrArg B hb23)))) rfl hJ) ?_
        refine ac rfl (by
          intro k _nm ρ σm hJ hoff hdep
          have e21 := hdep 6 rfl rfl 21 rfl
          exact dp_skip (wanted_no rfl (yv_of rfl (e21.trans (congrArg B hb23)))) rfl hJ) ?_
        refine ac rfl (by
          intro k _nm ρ σm hJ hoff hdep
          have e21 := hdep 6 rfl rfl 21 rfl
          exact dp_skip (wanted_no rfl (yv_of rfl (e21.trans (congrArg B hb23)))) rfl hJ) ?_
        refine ac rfl (by
          intro k _nm ρ σm hJ hoff hdep
          have e21 := hdep 6 rfl rfl 21 rfl
          exact dp_skip (wanted_no rfl (yv_of rfl (e21.trans (congrArg B hb23)))) rfl hJ) ?_
        exact all_nil
       ·intro _nm ρ σ37 hJ hoff hrel
        have e0 := look_off (N := 40) (hoff 0 rfl) rfl
        have e3 := look_off (N := 40) (hoff 3 rfl) rfl
        have e4 := look_off (N := 40) (hoff 4 rfl) rfl
        have e8 := look_off (N := 40) (hoff 8 rfl) rfl
        have e9 := look_off (N := 40) (hoff 9 rfl) rfl
        have e10 := look_off (N := 40) (hoff 10 rfl) rfl
        have e18 := hrel 3 rfl 18 rfl
        have e21 := hrel 6 rfl 21 rfl
        have e26 := hrel 11 rfl 26 rfl
        have e27 := hrel 12 rfl 27 rfl
        obtain ⟨H, -⟩ := (show Hp S0 σ0 σ37 [Ch.bx n0 b13 0 [(I x6.1), (I x6.2)] [] [], Ch.ro 0 (Sl Au As Av) As] ∧ Md (cov []) σ15 σ37 from hJ)
        clear hJ Hs
        rw [fr_lookL (L := [(0, (Sl Au As Av)), (3, (I s3)), (4, (pt b13 0)), (8, (Sl Au As Av)), (9, (I (As.length : Int))), (10, (I s3)), (18, (B (!r18))), (21, (B (decide (0 < s3)))), (26, undef), (27, undef)]) ⟨e0, e3, e4, e8, e9, e10, e18, e21, e26, e27, trivial⟩]
        clear hoff hrel e0 e3 e4 e8 e9 e10 e18 e21 e26 e27
        refine st_skip (congrArg some hb23) (st_skip (congrArg some hb23) (st_g (v := (B false)) (congrArg some hb21) (rv_pick_f (congrArg B hb23) rfl) (st (v := (B false)) (rv_pick_f (congrArg B hb21) rfl) (w_end ?_))))
        obtain rfl := sj h
        exact ⟨rfl, _, σ37, fr_join ⟨rfl, rfl, rfl, rfl, rfl, rfl, rfl, trivial⟩, rfl, H.sel' [1, 0] rfl rfl⟩
    ·clear hj
     have h := h'
     clear h' H
     rintro e a w ⟨rfl, ρ, σ38, rfl, rfl, H⟩
     refine q_then ?_
     refine cd_cond o16 rfl (fun hb39 => ?_) (fun hb39 => ?_)
     ·replace h := bif_t hb39 h
      refine c_seq (rg (sa (B false) rfl (w_end (q_then (c_ret (q_then_r (q_blk_r (q_then_r (q_then_r (q_blk_r ?_))))))))))
      obtain rfl := sj h
      obtain rfl := hres _ rfl
      exact .inr (⟨_, rfl, rfl, _, σ38, fr_join ⟨rfl, trivial⟩, rfl, H.sel' [] rfl rfl⟩)
     ·replace h := bif_f hb39 h
      refine c_skip (q_then (c_seq ?_))
      refine rgP (σ := σ38) 5 (by kernel_rfl) (by kernel_rfl) (by kernel_rfl) ?_
      refine sq (v := (Sl Au As Av)) (rv_move rfl) (sq (v := (I s3)) (rv_move rfl) ?_)
      revert h; refine br fun xs40 hx41 h => ?_
      obtain ⟨a42, c43, hs44, hR45⟩ := (H.ro 0 rfl).slice hx41
      replace H := H.add (d := Ch.ro 0 (Sl a42 xs40 c43) xs40) hR45 (fun _ h => h)
      clear hR45
      refine sq (v := (Sl a42 xs40 c43)) (rv_slice_h Tryz.underlying29 ti37 hs44 rfl rfl) (sq (v := (pt b13 0)) (rv_fieldAddr (off := 0) (ft := 3) Tryz.underlying37 rfl ti3 rfl rfl) ?_)
      have hc46 := H.cell (u := (I x6.1)) (o' := 0) 2 0 rfl rfl rfl
      refine sq (v := (I x6.1)) (rv_load1 Tryz.underlying3 rfl rfl hc46) (sq_end ?_)
      intro σ47 hm48
      replace H := H.grow (hm48.mono fun _ h => h); clear hm48
      revert h; refine br fun r49 hx50 h => ?_
      have hc51 := c_impl_placeIn (Au := a42) (Av := c43) hx50
      refine st_call (cx_call hc51 (ent_f hc51.fn rfl) hn0 (H.sel' [0, 0, 1, 2] rfl rfl : Hp S0 σ0 _ ([_] ++ _))) wn ?_
      rintro _ σ52 ⟨_, ⟨rfl, rfl⟩, H, -⟩
      replace H : Hp _ _ _ [_, _, _] := H
      refine st (v := (B (decide (0 ≤ r49)))) (rv_geq (a := r49) (b := 0) rfl rfl) (w_end (q_then ?_))
      refine cd_cond (decide (0 ≤ r49)) rfl (fun hb53 => ?_) (fun hb53 => ?_)
      ·replace h := bif_t hb53 h
       refine c_seq (rg (sa (B false) rfl (w_end (q_then (c_ret (q_blk_r (q_then_r (q_then_r (q_blk_r ?_)))))))))
       obtain rfl := sj h
       obtain rfl := hres _ rfl
       exact .inr (⟨_, rfl, rfl, _, σ52, fr_join ⟨rfl, trivial⟩, rfl, H.sel' [] rfl rfl⟩)
      ·replace h := bif_f hb53 h
       refine c_skip (q_blk (q_then (rg (st (v := (I (w64 (s3 + 1)))) (rv_add (a := s3) (b := 1) rfl rfl) (sm (I (w64 (s3 + 1))) rfl (w_end (q_then ?_)))))))
       obtain rfl := sj h
       exact ⟨_, rfl, _, σ52, fr_join ⟨rfl, rfl, rfl, rfl, trivial⟩, rfl, H.sel' [1] rfl rfl⟩
   ·replace h := bif_f hb5 h
    refine c_exit (q_then_x (q_then_x (q_blk_hit ?_)))
    obtain rfl := sj h
    obtain rfl := hres _ rfl
    exact .inl ⟨_, rfl, rfl, _, σ4, fr_join trivial, rfl, H.sel' [] rfl rfl⟩
  ·clear hj
   have h := h'
   clear h' H
   rintro e a w (⟨t54, rfl, rfl, ρ, σ55, rfl, rfl, H⟩ | ⟨t56, rfl, rfl, ρ, σ57, rfl, rfl, H⟩)
   ·replace h := selim_l h
    refine q_then (c_seq (rg (sa (B true) rfl (w_end (q_then (c_ret ?_))))))
    obtain rfl := sj h
    exact fin_ret (v := (B true)) (results_ok Tryz.results16 (res_tmp (v := (B true)) rfl res_nil) rfl) ⟨rfl, rfl⟩ (H.sel' [] rfl rfl)
   ·replace h := selim_r h
    refine q_then_r ?_
    obtain rfl := sj h
    exact fin_ret (v := (B t56)) (results_ok Tryz.results16 (res_tmp (v := (B t56)) rfl res_nil) rfl) ⟨rfl, rfl⟩ (H.sel' [] rfl rfl)

theorem c_laws_FnFilterNearestCount {Aa : List UInt8} {Ac : Option Addr} {Ad : Nat} {r : Bool} (h : M.laws_FnFilterNearestCount Aa = some r) :
    Cal2 Tryz.prog 5 [(Sl Ac Aa Ad)] [Ch.ro 0 (Sl Ac Aa Ad) Aa] (fun n0 v L => v = (B r) ∧ L = []) := by
 refine cal2 (n := 61) Tryz.func5 rfl rfl rfl rfl ?_
 intro S0 σ0 n0 hn0 H
 unfold M.laws_FnFilterNearestCount at h
 refine c_seq (rg (sa (B false) rfl (w_end (q_then (c_seq (c_seq (rg (sm (Sl Ac Aa Ad) rfl (st (v := (I (Aa.length : Int))) (rv_len Tryz.underlying22 rfl) (st (v := (B (decide (1048576 < (Aa.length : Int))))) (rv_gtr (a := (Aa.length : Int)) (b := 1048576) rfl rfl) (w_end ?_)))))))))))
 refine q_then ?_
 refine cd_cond (decide (1048576 < (Aa.length : Int))) rfl (fun hb1 => ?_) (fun hb1 => ?_)
 ·replace h := bif_t hb1 h
  refine c_seq (rg (sa (B true) rfl (w_end (q_then (c_ret (q_then_r ?_))))))
  obtain rfl := sj h
  exact fin_ret (v := (B true)) (results_ok Tryz.results5 (res_tmp (v := (B true)) rfl res_nil) rfl) ⟨rfl, rfl⟩ (H.sel' [] rfl rfl)
 ·replace h := bif_f hb1 h
  refine c_skip (q_then (c_seq (rg (sm (Sl Ac Aa Ad) rfl ?_))))
  revert h; refine br fun r2 hx3 h => ?_
  have hc4 := c_spec_DrawFilterNearest (Ac := Ac) (Ad := Ad) hx3
  refine st_call (cx_call hc4 (ent_f hc4.fn rfl) hn0 (H.sel' [0, 0] rfl rfl : Hp S0 σ0 _ ([_] ++ _))) wn ?_
  rintro _ σ9 ⟨_, ⟨a5, c6, a7, c8, rfl, rfl⟩, H, -⟩
  replace H : Hp _ _ _ [_, _, _] := H
  refine sm (.tuple #[(Sl a5 r2.1 c6), (.agg #[(I r2.2.1.1), (I r2.2.1.2.1), (I r2.2.1.2.2)]), (I r2.2.2.1), (Sl a7 r2.2.2.2.1 c8), (I r2.2.2.2.2)]) rfl (st (v := (Sl a5 r2.1 c6)) (rv_extract rfl rfl) (st (v := (.agg #[(I r2.2.1.1), (I r2.2.1.2.1), (I r2.2.1.2.2)])) (rv_extract rfl rfl) (st (v := (I r2.2.2.1)) (rv_extract rfl rfl) (st (v := (Sl a7 r2.2.2.2.1 c8)) (rv_extract rfl rfl) (st (v := (I r2.2.2.2.2)) (rv_extract rfl rfl) (st_ex (ex_alloc (cs := [(I 0), (I 0), (I 0)]) H hn0 ti25 rfl) wn ?_))))))
  rintro _ σ11 ⟨b10, rfl, H, -⟩
  refine sa (Sl a5 r2.1 c6) rfl ?_
  refine st_exS (ex_store_box (k := 0) (cs := [(I 0), (I 0), (I 0)]) (vs := [(I r2.2.1.1), (I r2.2.1.2.1), (I r2.2.1.2.2)]) (cs' := [(I r2.2.1.1), (I r2.2.1.2.1), (I r2.2.1.2.2)]) H (i := 0) rfl ti25 rfl rfl rfl rfl rfl (Nat.le_of_ble_eq_true rfl) (by simp [plain]) rfl) wn ?_
  rintro σ12 ⟨H, -⟩
  refine sa (I r2.2.2.1) rfl (sa (Sl a7 r2.2.2.2.1 c8) rfl (sa (I r2.2.2.2.2) rfl (w_end (q_then (c_seq (rg (sm (Sl a5 r2.1 c6) rfl ?_)))))))
  have hc13 := H.cells 0 rfl
  refine st (v := (.agg #[(I r2.2.1.1), (I r2.2.1.2.1), (I r2.2.1.2.2)])) (rv_load (cs := [(I r2.2.1.1), (I r2.2.1.2.1), (I r2.2.1.2.2)]) Tryz.underlying25 rfl ti25 rfl rfl hc13) (sm (I r2.2.2.1) rfl (sm (Sl a7 r2.2.2.2.1 c8) rfl (sm (I r2.2.2.2.2) rfl ?_)))
  revert h; refine br fun r14 hx15 h => ?_
  have hc16 := c_impl_FilterNearest (Au := a5) (Av := c6) (Gb := a7) (Gc := c8) hx15
  have hle := Nat.le_trans hn0 H.size
  refine st_call (cx_lend (Loan.lend (Loan.lend Loan.nil)) hc16 (ent_f hc16.fn rfl) (show Hp S0 σ0 _ ([Ch.own n0 n0 (Sl a5 r2.1 c6) r2.1, Ch.own n0 n0 (Sl a7 r2.2.2.2.1 c8) r2.2.2.2.1] ++ ([] ++ [Ch.bx n0 b10 0 [(I r2.2.1.1), (I r2.2.1.2.1), (I r2.2.1.2.2)] [] [], Ch.ro 0 (Sl Ac Aa Ad) Aa])) from (H.sel' [1, 2, 0, 3] rfl rfl)) (by rintro _ _ _ ⟨_, _, rfl, rfl⟩; exact ⟨Ab.ownSc, trivial⟩)) wn ?_
  rintro _ σ19 ⟨_, ⟨a17, c18, rfl, rfl⟩, H, -, -⟩
  replace H : Hp _ _ _ [_, _, _, _, _] := H
  replace H := H.ownLow 0 0 n0 rfl (Nat.le_refl _) hle
  clear hle
  replace H : Hp _ _ _ [_, _, _, _, _] := H
  refine sa (Sl a17 r14 c18) rfl (w_end (q_then (c_seq (c_seq ?_))))
  obtain ⟨o20, hj, h'⟩ := bind_some h
  clear h
  refine c_cut (fun e a w => e = .normal ∧ ∃ (ρ : Nat → Value) (σ : St), a = fr 61 (updL ρ [(3, (Sl a5 r2.1 c6)), (4, (pt b10 0)), (5, (I r2.2.2.1)), (6, (Sl a7 r2.2.2.2.1 c8)), (7, (I r2.2.2.2.2)), (8, (Sl a17 r14 c18)), (39, (B o20))]) ∧ w = σ.w ∧ Hp S0 σ0 σ [Ch.own n0 n0 (Sl a5 r2.1 c6) r2.1, Ch.bx n0 b10 0 [(I r2.2.1.1), (I r2.2.1.2.1), (I r2.2.1.2.2)] [] [], Ch.own n0 n0 (Sl a7 r2.2.2.2.1 c8) r2.2.2.2.1, Ch.own 0 n0 (Sl a17 r14 c18) r14]) ?_ ?_
  ·clear h'
   rename _ = some o20 => h
   refine rg (sm (Sl a17 r14 c18) rfl (sm (Sl a5 r2.1 c6) rfl ?_))
   have hc21 := H.cells 3 rfl
   refine st (v := (.agg #[(I r2.2.1.1), (I r2.2.1.2.1), (I r2.2.1.2.2)])) (rv_load (cs := [(I r2.2.1.1), (I r2.2.1.2.1), (I r2.2.1.2.2)]) Tryz.underlying25 rfl ti25 rfl rfl hc21) (sm (I r2.2.2.1) rfl (sm (Sl a7 r2.2.2.2.1 c8) rfl (sm (I r2.2.2.2.2) rfl ?_)))
   revert h; refine br fun r22 hx23 h => ?_
   have hc24 := c_spec_FilterNearest (Au := a5) (Av := c6) (Gb := a7) (Gc := c8) hx23
   have hle := Nat.le_trans hn0 H.size
   refine st_call (cx_lend (Loan.lend (Loan.lend Loan.nil)) hc24 (ent_f hc24.fn rfl) (show Hp S0 σ0 _ ([Ch.own n0 n0 (Sl a5 r2.1 c6) r2.1, Ch.own n0 n0 (Sl a7 r2.2.2.2.1 c8) r2.2.2.2.1] ++ ([] ++ [Ch.own 0 n0 (Sl a17 r14 c18) r14, Ch.bx n0 b10 0 [(I r2.2.1.1), (I r2.2.1.2.1), (I r2.2.1.2.2)] [] [], Ch.ro 0 (Sl Ac Aa Ad) Aa])) from (H.sel' [1, 2, 0, 3, 4] rfl rfl)) (by rintro _ _ _ ⟨_, _, rfl, rfl⟩; exact ⟨Ab.ownSc, trivial⟩)) wn ?_
   rintro _ σ27 ⟨_, ⟨a25, c26, rfl, rfl⟩, H, -, -⟩
   replace H : Hp _ _ _ [_, _, _, _, _, _] := H
   replace H := H.ownLow 0 n0 n0 rfl hle hle
   clear hle
   replace H : Hp _ _ _ [_, _, _, _, _, _] := H
   obtain ⟨σ28, hw29, H, -⟩ := H.pub 0 rfl (Nat.le_refl _)
   rw [← hw29]; clear hw29
   replace H := H.roLow 0 0 rfl (Nat.zero_le _)
   revert h; refine br fun r30 hx31 h => ?_
   have hc32 := c_laws_equalHits (Gd := a17) (Ge := c18) (Gf := a25) (Gg := c26) hx31
   have hle := Nat.le_trans hn0 H.size
   refine st_call (cx_lend (Loan.lend (Loan.same Loan.nil)) hc32 (ent_f hc32.fn rfl) (show Hp S0 σ0 _ ([Ch.own 0 n0 (Sl a17 r14 c18) r14] ++ ([Ch.ro 0 (Sl a25 r22 c26) r22] ++ [Ch.ro 0 (Sl a25 r22 c26) r22, Ch.ro n0 (Sl a25 r22 c26) r22, Ch.own n0 n0 (Sl a5 r2.1 c6) r2.1, Ch.own n0 n0 (Sl a7 r2.2.2.2.1 c8) r2.2.2.2.1, Ch.bx n0 b10 0 [(I r2.2.1.1), (I r2.2.1.2.1), (I r2.2.1.2.2)] [] [], Ch.ro 0 (Sl Ac Aa Ad) Aa])) from (H.sel' [4, 0, 0, 1, 2, 3, 5, 6] rfl rfl)) (by rintro _ _ _ ⟨rfl, rfl⟩; exact trivial)) wn ?_
   rintro _ σ33 ⟨_, ⟨rfl, rfl⟩, H, -, -⟩
   replace H : Hp _ _ _ [_, _, _, _, _, _, _] := H
   clear hle
   replace H : Hp _ _ _ [_, _, _, _, _, _, _] := H
   refine st (v := (B (!r30))) (rv_not rfl) (sm (B (!r30)) rfl ?_)
   rcases Bool.eq_false_or_eq_true (!r30) with hb34 | hb34
   ·replace h := bif_t hb34 h
    refine st_skip (congrArg some hb34) (st_skip (congrArg some hb34) (st_skip (congrArg some hb34) (st (v := (B true)) (rv_pick_t (congrArg B hb34) rfl) (w_end ?_))))
    obtain rfl := sj h
    exact ⟨rfl, _, σ33, fr_join ⟨rfl, rfl, rfl, rfl, rfl, rfl, rfl, trivial⟩, rfl, H.sel' [3, 5, 4, 0] rfl rfl⟩
   ·replace h := bif_f hb34 h
    refine st_g (v := (Sl a17 r14 c18)) (congrArg some hb34) (rv_move rfl) (st_g (v := (I (r14.length : Int))) (congrArg some hb34) (rv_len Tryz.underlying29 rfl) (st_g (v := (B ((r14.length : Int) == 0))) (congrArg some hb34) (rv_eql (a := (r14.length : Int)) (b := 0) rfl rfl) (st (v := (B ((r14.length : Int) == 0))) (rv_pick_f (congrArg B hb34) rfl) (w_end ?_))))
    obtain rfl := sj h
    exact ⟨rfl, _, σ33, fr_join ⟨rfl, rfl, rfl, rfl, rfl, rfl, rfl, trivial⟩, rfl, H.sel' [3, 5, 4, 0] rfl rfl⟩
  ·clear hj
   have h := h'
   clear h' H
   rintro e a w ⟨rfl, ρ, σ35, rfl, rfl, H⟩
   refine q_then ?_
   refine cd_cond o20 rfl (fun hb36 => ?_) (fun hb36 => ?_)
   ·replace h := bif_t hb36 h
    refine c_seq (rg (sm (Sl a17 r14 c18) rfl (sm (Sl a5 r2.1 c6) rfl ?_)))
    have hc37 := H.cells 1 rfl
    refine st (v := (.agg #[(I r2.2.1.1), (I r2.2.1.2.1), (I r2.2.1.2.2)])) (rv_load (cs := [(I r2.2.1.1), (I r2.2.1.2.1), (I r2.2.1.2.2)]) Tryz.underlying25 rfl ti25 rfl rfl hc37) (sm (I r2.2.2.1) rfl (sm (Sl a7 r2.2.2.2.1 c8) rfl (sm (I r2.2.2.2.2) rfl ?_)))
    obtain ⟨σ38, hw39, H, -⟩ := H.pub 0 rfl (Nat.le_refl _)
    rw [← hw39]; clear hw39
    obtain ⟨σ40, hw41, H, -⟩ := H.pub 2 rfl (Nat.le_refl _)
    rw [← hw41]; clear hw41
    replace H := H.roLow 1 0 rfl (Nat.zero_le _)
    replace H := H.roLow 1 0 rfl (Nat.zero_le _)
    revert h; refine br fun r42 hx43 h => ?_
    have hc44 := c_spec_FilterNearest (Au := a5) (Av := c6) (Gb := a7) (Gc := c8) hx43
    refine st_call (cx_call hc44 (ent_f hc44.fn rfl) hn0 (H.sel' [1, 0, 0, 1, 2, 3, 4, 5] rfl rfl : Hp S0 σ0 _ ([_, _] ++ _))) wn ?_
    rintro _ σ47 ⟨_, ⟨a45, c46, rfl, rfl⟩, H, -⟩
    replace H : Hp _ _ _ [_, _, _, _, _, _, _] := H
    replace H := H.ownLow 6 0 0 rfl (Nat.le_refl _) (Nat.zero_le _)
    obtain ⟨σ48, hw49, H, -⟩ := H.pub 0 rfl (Nat.le_refl _)
    rw [← hw49]; clear hw49
    obtain ⟨σ50, hw51, H, -⟩ := H.pub 1 rfl (Nat.le_refl _)
    rw [← hw51]; clear hw51
    replace H := H.roLow 0 0 rfl (Nat.zero_le _)
    revert h; refine br fun r52 hx53 h => ?_
    have hc54 := c_laws_equalHits (Gd := a17) (Ge := c18) (Gf := a45) (Gg := c46) hx53
    refine st_call (cx_call hc54 (ent_f hc54.fn rfl) hn0 (H.sel' [2, 0, 0, 1, 2, 3, 4, 5, 6, 7] rfl rfl : Hp S0 σ0 _ ([_, _] ++ _))) wn ?_
    rintro _ σ55 ⟨_, ⟨rfl, rfl⟩, H, -⟩
    replace H : Hp _ _ _ [_, _, _, _, _, _, _, _] := H
    replace H : Hp S0 σ0 σ55 [] := H.sel' [] rfl rfl
    refine sa (B r52) rfl (w_end (q_then (c_ret (q_then_r ?_))))
    obtain rfl := sj h
    exact fin_ret (v := (B r52)) (results_ok Tryz.results5 (res_tmp (v := (B r52)) rfl res_nil) rfl) ⟨rfl, rfl⟩ (H.sel' [] rfl rfl)
   ·replace h := bif_f hb36 h
    refine c_skip (q_then (c_seq (rg (sm (Sl a17 r14 c18) rfl (st (v := (I (r14.length : Int))) (rv_len Tryz.underlying29 rfl) (sm (I r2.2.2.2.2) rfl (sm (Sl a5 r2.1 c6) rfl ?_)))))))
    have hc56 := H.cells 1 rfl
    refine st (v := (.agg #[(I r2.2.1.1), (I r2.2.1.2.1), (I r2.2.1.2.2)])) (rv_load (cs := [(I r2.2.1.1), (I r2.2.1.2.1), (I r2.2.1.2.2)]) Tryz.underlying25 rfl ti25 rfl rfl hc56) ?_
    obtain ⟨σ57, hw58, H, -⟩ := H.pub 0 rfl (Nat.le_refl _)
    rw [← hw58]; clear hw58
    replace H := H.roLow 0 0 rfl (Nat.zero_le _)
    revert h; refine br fun r59 hx60 h => ?_
    have hc61 := c_impl_FilterStore (Au := a5) (Av := c6) hx60
    refine st_call (cx_call hc61 (ent_f hc61.fn rfl) hn0 (H.sel' [0, 0, 1, 2, 3, 4] rfl rfl : Hp S0 σ0 _ ([_] ++ _))) wn ?_
    rintro _ σ65 ⟨_, ⟨a62, c63, rfl, rfl, ht64⟩, H, -⟩
    replace H : Hp _ _ _ [_, _, _, _, _, _] := H
    refine st (v := (I (r59.length : Int))) (rv_len Tryz.underlying23 rfl) (st (v := (I (min r2.2.2.2.2 (r59.length : Int)))) (rv_min rfl rfl) (st (v := (B ((r14.length : Int) == (min r2.2.2.2.2 (r59.length : Int))))) (rv_eql (a := (r14.length : Int)) (b := (min r2.2.2.2.2 (r59.length : Int))) rfl rfl) (sm (B ((r14.length : Int) == (min r2.2.2.2.2 (r59.length : Int)))) rfl ?_)))
    rcases Bool.eq_false_or_eq_true ((r14.length : Int) == (min r2.2.2.2.2 (r59.length : Int))) with hb66 | hb66
    ·replace h := bif_t hb66 h
     refine st_g (v := (Sl a17 r14 c18)) (congrArg some hb66) (rv_move rfl) ?_
     replace H := H.ownLow 5 0 0 rfl (Nat.le_refl _) (Nat.zero_le _)
     obtain ⟨σ67, hw68, H, -⟩ := H.pub 0 rfl (Nat.le_refl _)
     rw [← hw68]; clear hw68
     revert h; refine br fun r69 hx70 h => ?_
     have hc71 := c_impl_ValidHits (Au := a17) (Av := c18) hx70
     refine st_call (cx_call hc71 (ent_f hc71.fn rfl) hn0 (H.sel' [0, 0, 1, 2, 3, 4, 5] rfl rfl : Hp S0 σ0 _ ([_] ++ _))) (wanted_yes rfl (by exact (congrArg some hb66))) ?_
     rintro _ σ72 ⟨_, ⟨rfl, rfl⟩, H, -⟩
     replace H : Hp _ _ _ [_, _, _, _, _, _] := H
     refine st (v := (B r69)) (rv_pick_t (congrArg B hb66) rfl) (sa (B r69) rfl (w_end (q_then (c_ret ?_))))
     obtain rfl := sj h
     exact fin_ret (v := (B r69)) (results_ok Tryz.results5 (res_tmp (v := (B r69)) rfl res_nil) rfl) ⟨rfl, rfl⟩ (H.sel' [] rfl rfl)
    ·replace h := bif_f hb66 h
     refine st_skip (congrArg some hb66) (st_skip (congrArg some hb66) (st (v := (B false)) (rv_pick_f (congrArg B hb66) rfl) (sa (B false) rfl (w_end (q_then (c_ret ?_))))))
     obtain rfl := sj h
     exact fin_ret (v := (B false)) (results_ok Tryz.results5 (res_tmp (v := (B false)) rfl res_nil) rfl) ⟨rfl, rfl⟩ (H.sel' [] rfl rfl)

end Go.Vs
