/- The functions compute what their models say. -/
import Derived.Test.YtcgkbgidfilodaaKExactClosestPairM
import Derived.Test.YtcgkbgidfilodaaVtMan
import Derived.Test.YtcgkbgidfilodaaProg
set_option linter.unusedVariables false
set_option linter.unusedSimpArgs false
set_option maxRecDepth 20000
namespace Go.Vs
open Go Go.Proofs
attribute [local irreducible] Code.wp wpList wpQuiet Calls

theorem ti3 : TI Try.prog 3 (.int .i64 0) 1 8 := TI.mk' (by kernel_rfl)
theorem ti24 : TI Try.prog 24 (.slice none 0 0) 1 24 := TI.mk' (by kernel_rfl)
theorem ti31 : TI Try.prog 31 (.agg #[(.int .i64 0), (.slice none 0 0), (.int .i64 0)]) 3 40 := TI.mk' (by kernel_rfl)
theorem ti62 : TI Try.prog 62 (.agg #[(.int .i64 0), (.slice none 0 0), (.int .i64 0)]) 3 40 := TI.mk' (by kernel_rfl)
theorem ti98 : TI Try.prog 98 (.agg #[(.int .i64 0), (.int .i64 0), (.int .i64 0), (.int .i64 0)]) 4 32 := TI.mk' (by kernel_rfl)

theorem c_impl_ValidVector {v_0 : List Int} {av_0 : Option Addr} {cv_0 : Nat} {r : Bool} (h : M.impl_ValidVector v_0 = some r) :
    Cal2 Try.prog 26 [(Sl av_0 v_0 cv_0)] [Ch.ro 0 (Sl av_0 v_0 cv_0) v_0] (fun n0 v L => v = (B r) ∧ L = []) := by
  refine cal2 (n := 21) Try.func26 rfl rfl rfl rfl ?_
  intro S0 σ0 n0 hn0 H
  unfold M.impl_ValidVector at h
  refine c_seq ?_
  refine rg ?_
  refine st (v := (B false)) (rv_assign rfl) ?_
  refine w_end ?_
  refine q_then ?_
  refine c_seq ?_
  refine c_seq ?_
  refine rg ?_
  refine st (v := (Sl av_0 v_0 cv_0)) (rv_move rfl) ?_
  refine st (v := (I (v_0.length : Int))) (rv_len Try.underlying24 rfl) ?_
  refine st (v := (B ((v_0.length : Int) != 4))) (rv_neq (a := (v_0.length : Int)) (b := 4) rfl rfl) ?_
  refine w_end ?_
  refine q_then ?_
  refine cd_cond ((v_0.length : Int) != 4) rfl (fun hb1 => ?_) (fun hb1 => ?_)
  · replace h := bif_t hb1 h
    refine c_seq ?_
    refine rg ?_
    refine st (v := (B false)) (rv_assign rfl) ?_
    refine w_end ?_
    refine q_then ?_
    refine c_ret ?_
    refine q_then_r ?_
    obtain rfl := Option.some.inj h
    exact fin_ret (v := (B false)) (results_ok Try.results26 (res_tmp (v := (B false)) rfl res_nil) rfl) ⟨rfl, rfl⟩ (H.sel' [] rfl rfl)
  · replace h := bif_f hb1 h
    refine c_skip ?_
    refine q_then ?_
    refine c_seq ?_
    refine c_seq ?_
    refine rg ?_
    refine st (v := (Sl av_0 v_0 cv_0)) (rv_move rfl) ?_
    refine st (v := (I (v_0.length : Int))) (rv_len Try.underlying24 rfl) ?_
    refine st (v := (I 0)) (rv_move rfl) ?_
    refine w_end ?_
    refine q_then ?_
    obtain ⟨o2, hj, h'⟩ := bind_some h
    clear h
    refine c_cut (fun e a w => (∃ t, o2 = (.inl t) ∧ e = .normal ∧ ∃ (ρ : Nat → Value) (σ : St), a = fr 21 (updL ρ []) ∧ w = σ.w ∧ Hp S0 σ0 σ []) ∨ (∃ t, o2 = (.inr t) ∧ e = .ret ∧ ∃ (ρ : Nat → Value) (σ : St), a = fr 21 (updL ρ [(2, (B t))]) ∧ w = σ.w ∧ Hp S0 σ0 σ [])) ?_ ?_
    · clear h'
      rename _ = some o2 => h
      refine c_blk ?_
      refine wp_loopM _ h (fun s3 a w => ∃ (ρ : Nat → Value) (σ : St), a = fr 21 (updL ρ [(8, (Sl av_0 v_0 cv_0)), (9, (I (v_0.length : Int))), (10, (I s3))]) ∧ w = σ.w ∧ Hp S0 σ0 σ [Ch.ro 0 (Sl av_0 v_0 cv_0) v_0]) ⟨_, σ0, fr_join ⟨rfl, rfl, rfl, trivial⟩, rfl, H.sel' [0] rfl rfl⟩ ?_
      clear h H
      rintro s3 a w o ⟨ρ, σ4, rfl, rfl, H⟩ h hres
      refine c_seq ?_
      refine rg ?_
      refine st (v := (B (decide (s3 < (v_0.length : Int))))) (rv_lss (a := s3) (b := (v_0.length : Int)) rfl rfl) ?_
      refine w_end ?_
      refine q_then ?_
      refine c_seq ?_
      refine cd_cond (decide (s3 < (v_0.length : Int))) rfl (fun hb5 => ?_) (fun hb5 => ?_)
      · replace h := bif_t hb5 h
        refine c_skip ?_
        refine q_then ?_
        refine c_seq ?_
        refine c_blk ?_
        refine c_seq ?_
        refine rg ?_
        obtain ⟨x6, hx7, h'⟩ := bind_some h
        clear h
        have h := h'; clear h'
        obtain ⟨b9, o10, hi8, -⟩ := (H.ro 0 rfl).ix hx7
        refine st (v := (pt b9 o10)) (rv_ix Try.underlying24 ti3 rfl rfl hi8) ?_
        have hc11 := ((H.ro 0 rfl).at hx7 hi8).int
        refine st (v := (I x6)) (rv_load1 Try.underlying3 rfl rfl hc11) ?_
        refine st (v := (I x6)) (rv_assign rfl) ?_
        refine w_end ?_
        refine q_then ?_
        refine c_seq ?_
        obtain ⟨o12, hj, h'⟩ := bind_some h
        clear h
        refine c_cut (fun e a w => e = .normal ∧ ∃ (ρ : Nat → Value) (σ : St), a = fr 21 (updL ρ [(8, (Sl av_0 v_0 cv_0)), (9, (I (v_0.length : Int))), (10, (I s3)), (19, (B o12))]) ∧ w = σ.w ∧ Hp S0 σ0 σ [Ch.ro 0 (Sl av_0 v_0 cv_0) v_0]) ?_ ?_
        · clear h'
          rename _ = some o12 => h
          refine rg ?_
          refine st (v := (I x6)) (rv_move rfl) ?_
          refine st (v := (B (decide (x6 < (-100))))) (rv_lss (a := x6) (b := (-100)) rfl rfl) ?_
          refine st (v := (B (decide (x6 < (-100))))) (rv_move rfl) ?_
          rcases Bool.eq_false_or_eq_true (decide (x6 < (-100))) with hb13 | hb13
          · replace h := bif_t hb13 h
            refine st_skip (congrArg some hb13) ?_
            refine st_skip (congrArg some hb13) ?_
            refine st (v := (B true)) (rv_pick_t (congrArg B hb13) rfl) ?_
            refine w_end ?_
            obtain rfl := Option.some.inj h
            exact ⟨rfl, _, σ4, fr_join ⟨rfl, rfl, rfl, rfl, trivial⟩, rfl, H.sel' [0] rfl rfl⟩
          · replace h := bif_f hb13 h
            refine st_g (v := (I x6)) (congrArg some hb13) (rv_move rfl) ?_
            refine st_g (v := (B (decide (100 < x6)))) (congrArg some hb13) (rv_gtr (a := x6) (b := 100) rfl rfl) ?_
            refine st (v := (B (decide (100 < x6)))) (rv_pick_f (congrArg B hb13) rfl) ?_
            refine w_end ?_
            obtain rfl := Option.some.inj h
            exact ⟨rfl, _, σ4, fr_join ⟨rfl, rfl, rfl, rfl, trivial⟩, rfl, H.sel' [0] rfl rfl⟩
        · clear hj
          have h := h'
          clear h' H
          rintro e a w ⟨rfl, ρ, σ14, rfl, rfl, H⟩
          refine q_then ?_
          refine cd_cond o12 rfl (fun hb15 => ?_) (fun hb15 => ?_)
          · replace h := bif_t hb15 h
            refine c_seq ?_
            refine rg ?_
            refine st (v := (B false)) (rv_assign rfl) ?_
            refine w_end ?_
            refine q_then ?_
            refine c_ret ?_
            refine q_blk_r ?_
            refine q_then_r ?_
            refine q_then_r ?_
            refine q_blk_r ?_
            obtain rfl := Option.some.inj h
            obtain rfl := hres _ rfl
            exact .inr (⟨_, rfl, rfl, _, σ14, fr_join ⟨rfl, trivial⟩, rfl, H.sel' [] rfl rfl⟩)
          · replace h := bif_f hb15 h
            refine c_skip ?_
            refine q_blk ?_
            refine q_then ?_
            refine rg ?_
            refine st (v := (I (w64 (s3 + 1)))) (rv_add (a := s3) (b := 1) rfl rfl) ?_
            refine st (v := (I (w64 (s3 + 1)))) (rv_move rfl) ?_
            refine w_end ?_
            refine q_then ?_
            obtain rfl := Option.some.inj h
            exact ⟨_, rfl, _, σ14, fr_join ⟨rfl, rfl, rfl, trivial⟩, rfl, H.sel' [0] rfl rfl⟩
      · replace h := bif_f hb5 h
        refine c_exit ?_
        refine q_then_x ?_
        refine q_then_x ?_
        refine q_blk_hit ?_
        obtain rfl := Option.some.inj h
        obtain rfl := hres _ rfl
        exact .inl ⟨_, rfl, rfl, _, σ4, fr_join trivial, rfl, H.sel' [] rfl rfl⟩
    · clear hj
      have h := h'
      clear h' H
      rintro e a w (⟨t16, rfl, rfl, ρ, σ17, rfl, rfl, H⟩ | ⟨t18, rfl, rfl, ρ, σ19, rfl, rfl, H⟩)
      · replace h := selim_l h
        refine q_then ?_
        refine c_seq ?_
        refine rg ?_
        refine st (v := (B true)) (rv_assign rfl) ?_
        refine w_end ?_
        refine q_then ?_
        refine c_ret ?_
        obtain rfl := Option.some.inj h
        exact fin_ret (v := (B true)) (results_ok Try.results26 (res_tmp (v := (B true)) rfl res_nil) rfl) ⟨rfl, rfl⟩ (H.sel' [] rfl rfl)
      · replace h := selim_r h
        refine q_then_r ?_
        obtain rfl := Option.some.inj h
        exact fin_ret (v := (B t18)) (results_ok Try.results26 (res_tmp (v := (B t18)) rfl res_nil) rfl) ⟨rfl, rfl⟩ (H.sel' [] rfl rfl)

theorem c_impl_distanceOf {kind_0 : Int} {gaps_1 : List Int} (hlgaps_1 : gaps_1.length = 4) {r : Int} (h : M.impl_distanceOf kind_0 gaps_1 = some r) :
    Cal2 Try.prog 77 [(I kind_0), (.agg (List.map I gaps_1).toArray)] [] (fun n0 v L => v = (I r) ∧ L = []) := by
  refine cal2 (n := 38) Try.func77 rfl rfl rfl rfl ?_
  intro S0 σ0 n0 hn0 H
  unfold M.impl_distanceOf at h
  refine c_seq ?_
  refine rg ?_
  refine st_ex (ex_box (cs := (List.map I gaps_1)) H hn0 rfl rfl) (wanted_none _ rfl _) ?_
  rintro _ σ2 ⟨b1, rfl, H, -⟩
  refine st (v := (I 0)) (rv_assign rfl) ?_
  refine w_end ?_
  refine q_then ?_
  refine c_seq ?_
  refine rg ?_
  refine st (v := (I 0)) (rv_assign rfl) ?_
  refine w_end ?_
  refine q_then ?_
  refine c_seq ?_
  refine c_seq ?_
  refine rg ?_
  have hc3 := H.cells 0 rfl
  refine st (v := (.agg (List.map I gaps_1).toArray)) (rv_load (cs := (List.map I gaps_1)) Try.underlying98 rfl ti98 rfl (by rw [List.length_map]; exact hlgaps_1) hc3) ?_
  refine st (v := (I 0)) (rv_move rfl) ?_
  refine w_end ?_
  refine q_then ?_
  obtain ⟨o4, hj, h'⟩ := bind_some h
  clear h
  refine c_cut (fun e a w => (∃ t, o4 = (.inl t) ∧ e = .normal ∧ ∃ (ρ : Nat → Value) (σ : St), a = fr 38 (updL ρ [(5, (I t))]) ∧ w = σ.w ∧ Hp S0 σ0 σ []) ∨ (∃ t, o4 = (.inr t) ∧ e = .ret ∧ ∃ (ρ : Nat → Value) (σ : St), a = fr 38 (updL ρ [(4, (I t))]) ∧ w = σ.w ∧ Hp S0 σ0 σ [])) ?_ ?_
  · clear h'
    rename _ = some o4 => h
    refine c_blk ?_
    refine wp_loopM _ h (fun s5 a w => ∃ (ρ : Nat → Value) (σ : St), a = fr 38 (updL ρ [(0, (I kind_0)), (5, (I s5.1)), (8, (.agg (List.map I gaps_1).toArray)), (9, (I s5.2))]) ∧ w = σ.w ∧ Hp S0 σ0 σ []) ⟨_, σ2, fr_join ⟨rfl, rfl, rfl, rfl, trivial⟩, rfl, H.sel' [] rfl rfl⟩ ?_
    clear h H
    rintro s5 a w o ⟨ρ, σ6, rfl, rfl, H⟩ h hres
    refine c_seq ?_
    refine rg ?_
    refine st (v := (B (decide (s5.2 < 4)))) (rv_lss (a := s5.2) (b := 4) rfl rfl) ?_
    refine w_end ?_
    refine q_then ?_
    refine c_seq ?_
    refine cd_cond (decide (s5.2 < 4)) rfl (fun hb7 => ?_) (fun hb7 => ?_)
    · replace h := bif_t hb7 h
      refine c_skip ?_
      refine q_then ?_
      refine c_seq ?_
      obtain ⟨o8, hj, h'⟩ := bind_some h
      clear h
      refine c_cut (fun e a w => (∃ t, o8 = (.inl t) ∧ e = .normal ∧ ∃ (ρ : Nat → Value) (σ : St), a = fr 38 (updL ρ [(0, (I kind_0)), (5, (I t)), (8, (.agg (List.map I gaps_1).toArray)), (9, (I s5.2))]) ∧ w = σ.w ∧ Hp S0 σ0 σ []) ∨ (∃ t, o8 = (.inr t) ∧ e = .ret ∧ ∃ (ρ : Nat → Value) (σ : St), a = fr 38 (updL ρ [(4, (I t))]) ∧ w = σ.w ∧ Hp S0 σ0 σ [])) ?_ ?_
      · clear h'
        rename _ = some o8 => h
        refine c_blk ?_
        refine c_seq ?_
        refine rg ?_
        obtain ⟨x9, hx10, h'⟩ := bind_some h
        clear h
        have h := h'; clear h'
        refine st (v := (I x9)) (rv_idx Try.underlying98 ti3 Try.underlying3 rfl rfl hx10 hlgaps_1) ?_
        refine st (v := (I x9)) (rv_assign rfl) ?_
        refine w_end ?_
        refine q_then ?_
        refine c_seq ?_
        refine rg ?_
        refine st (v := (I kind_0)) (rv_move rfl) ?_
        refine w_end ?_
        refine q_then ?_
        refine c_blk ?_
        refine c_seq ?_
        refine rg ?_
        refine st (v := (B (kind_0 == 1))) (rv_eql (a := kind_0) (b := 1) rfl rfl) ?_
        refine st (v := (B (kind_0 == 1))) (rv_assign rfl) ?_
        refine w_end ?_
        refine q_then ?_
        refine cd_cond (kind_0 == 1) rfl (fun hb11 => ?_) (fun hb11 => ?_)
        · replace h := bif_t hb11 h
          refine rg ?_
          refine st (v := (I s5.1)) (rv_move rfl) ?_
          refine st (v := (I x9)) (rv_move rfl) ?_
          refine st (v := (I (w64 (s5.1 + x9)))) (rv_add (a := s5.1) (b := x9) rfl rfl) ?_
          refine st (v := (I (w64 (s5.1 + x9)))) (rv_assign rfl) ?_
          refine w_end ?_
          refine q_blk ?_
          refine q_blk ?_
          obtain rfl := Option.some.inj h
          exact .inl ⟨_, rfl, rfl, _, σ6, fr_join ⟨rfl, rfl, rfl, rfl, trivial⟩, rfl, H.sel' [] rfl rfl⟩
        · replace h := bif_f hb11 h
          refine c_seq ?_
          refine rg ?_
          refine st (v := (B (kind_0 == 2))) (rv_eql (a := kind_0) (b := 2) rfl rfl) ?_
          refine st (v := (B (kind_0 == 2))) (rv_assign rfl) ?_
          refine w_end ?_
          refine q_then ?_
          refine cd_cond (kind_0 == 2) rfl (fun hb12 => ?_) (fun hb12 => ?_)
          · replace h := bif_t hb12 h
            refine rg ?_
            refine st (v := (I s5.1)) (rv_move rfl) ?_
            refine st (v := (I x9)) (rv_move rfl) ?_
            refine st (v := (I (max s5.1 x9))) (rv_max rfl rfl) ?_
            refine st (v := (I (max s5.1 x9))) (rv_assign rfl) ?_
            refine w_end ?_
            refine q_blk ?_
            refine q_blk ?_
            obtain rfl := Option.some.inj h
            exact .inl ⟨_, rfl, rfl, _, σ6, fr_join ⟨rfl, rfl, rfl, rfl, trivial⟩, rfl, H.sel' [] rfl rfl⟩
          · replace h := bif_f hb12 h
            refine c_seq ?_
            refine rg ?_
            refine st (v := (B (kind_0 == 3))) (rv_eql (a := kind_0) (b := 3) rfl rfl) ?_
            refine st (v := (B (kind_0 == 3))) (rv_assign rfl) ?_
            refine w_end ?_
            refine q_then ?_
            refine cd_cond (kind_0 == 3) rfl (fun hb13 => ?_) (fun hb13 => ?_)
            · replace h := bif_t hb13 h
              refine rg ?_
              refine st (v := (I s5.1)) (rv_move rfl) ?_
              refine st (v := (I x9)) (rv_move rfl) ?_
              refine st (v := (I x9)) (rv_move rfl) ?_
              refine st (v := (I (w64 (x9 * x9)))) (rv_mul (a := x9) (b := x9) rfl rfl) ?_
              refine st (v := (I (w64 (s5.1 + (w64 (x9 * x9)))))) (rv_add (a := s5.1) (b := (w64 (x9 * x9))) rfl rfl) ?_
              refine st (v := (I (w64 (s5.1 + (w64 (x9 * x9)))))) (rv_assign rfl) ?_
              refine w_end ?_
              refine q_blk ?_
              refine q_blk ?_
              obtain rfl := Option.some.inj h
              exact .inl ⟨_, rfl, rfl, _, σ6, fr_join ⟨rfl, rfl, rfl, rfl, trivial⟩, rfl, H.sel' [] rfl rfl⟩
            · replace h := bif_f hb13 h
              refine c_seq ?_
              refine rg ?_
              refine st (v := (B (kind_0 == 4))) (rv_eql (a := kind_0) (b := 4) rfl rfl) ?_
              refine st (v := (B (kind_0 == 4))) (rv_assign rfl) ?_
              refine w_end ?_
              refine q_then ?_
              refine cd_cond (kind_0 == 4) rfl (fun hb14 => ?_) (fun hb14 => ?_)
              · replace h := bif_t hb14 h
                refine rg ?_
                refine st (v := (I s5.1)) (rv_move rfl) ?_
                refine st (v := (I x9)) (rv_move rfl) ?_
                refine st (v := (I (min x9 1))) (rv_min rfl rfl) ?_
                refine st (v := (I (w64 (s5.1 + (min x9 1))))) (rv_add (a := s5.1) (b := (min x9 1)) rfl rfl) ?_
                refine st (v := (I (w64 (s5.1 + (min x9 1))))) (rv_assign rfl) ?_
                refine w_end ?_
                refine q_blk ?_
                refine q_blk ?_
                obtain rfl := Option.some.inj h
                exact .inl ⟨_, rfl, rfl, _, σ6, fr_join ⟨rfl, rfl, rfl, rfl, trivial⟩, rfl, H.sel' [] rfl rfl⟩
              · replace h := bif_f hb14 h
                refine c_seq ?_
                refine rg ?_
                refine st (v := (I (-1))) (rv_assign rfl) ?_
                refine w_end ?_
                refine q_then ?_
                refine c_ret ?_
                refine q_blk_r ?_
                refine q_blk_r ?_
                obtain rfl := Option.some.inj h
                exact .inr (⟨_, rfl, rfl, _, σ6, fr_join ⟨rfl, trivial⟩, rfl, H.sel' [] rfl rfl⟩)
      · clear hj
        have h := h'
        clear h' H
        rintro e a w (⟨t15, rfl, rfl, ρ, σ16, rfl, rfl, H⟩ | ⟨t17, rfl, rfl, ρ, σ18, rfl, rfl, H⟩)
        · replace h := selim_l h
          refine q_then ?_
          refine rg ?_
          refine st (v := (I (w64 (s5.2 + 1)))) (rv_add (a := s5.2) (b := 1) rfl rfl) ?_
          refine st (v := (I (w64 (s5.2 + 1)))) (rv_move rfl) ?_
          refine w_end ?_
          refine q_then ?_
          obtain rfl := Option.some.inj h
          exact ⟨_, rfl, _, σ16, fr_join ⟨rfl, rfl, rfl, rfl, trivial⟩, rfl, H.sel' [] rfl rfl⟩
        · replace h := selim_r h
          refine q_then_r ?_
          refine q_then_r ?_
          refine q_blk_r ?_
          obtain rfl := Option.some.inj h
          obtain rfl := hres _ rfl
          exact .inr (⟨_, rfl, rfl, _, σ18, fr_join ⟨rfl, trivial⟩, rfl, H.sel' [] rfl rfl⟩)
    · replace h := bif_f hb7 h
      refine c_exit ?_
      refine q_then_x ?_
      refine q_then_x ?_
      refine q_blk_hit ?_
      obtain rfl := Option.some.inj h
      obtain rfl := hres _ rfl
      exact .inl ⟨_, rfl, rfl, _, σ6, fr_join ⟨rfl, trivial⟩, rfl, H.sel' [] rfl rfl⟩
  · clear hj
    have h := h'
    clear h' H
    rintro e a w (⟨t19, rfl, rfl, ρ, σ20, rfl, rfl, H⟩ | ⟨t21, rfl, rfl, ρ, σ22, rfl, rfl, H⟩)
    · replace h := selim_l h
      refine q_then ?_
      refine c_seq ?_
      refine rg ?_
      refine st (v := (I t19)) (rv_move rfl) ?_
      refine st (v := (I t19)) (rv_assign rfl) ?_
      refine w_end ?_
      refine q_then ?_
      refine c_ret ?_
      obtain rfl := Option.some.inj h
      exact fin_ret (v := (I t19)) (results_ok Try.results77 (res_tmp (v := (I t19)) rfl res_nil) rfl) ⟨rfl, rfl⟩ (H.sel' [] rfl rfl)
    · replace h := selim_r h
      refine q_then_r ?_
      obtain rfl := Option.some.inj h
      exact fin_ret (v := (I t21)) (results_ok Try.results77 (res_tmp (v := (I t21)) rfl res_nil) rfl) ⟨rfl, rfl⟩ (H.sel' [] rfl rfl)

theorem c_impl_gapsOf {a_0 : List Int} {b_1 : List Int} (hla_0 : a_0.length = 4) (hlb_1 : b_1.length = 4) {r : (List Int)} (h : M.impl_gapsOf a_0 b_1 = some r) :
    Cal2 Try.prog 78 [(.agg (List.map I a_0).toArray), (.agg (List.map I b_1).toArray)] [] (fun n0 v L => v = (.agg (List.map I r).toArray) ∧ L = [] ∧ r.length = 4) := by
  refine cal2 (n := 29) Try.func78 rfl rfl rfl rfl ?_
  intro S0 σ0 n0 hn0 H
  unfold M.impl_gapsOf at h
  refine c_seq ?_
  refine rg ?_
  refine st_ex (ex_box (cs := (List.map I a_0)) H hn0 rfl rfl) (wanted_none _ rfl _) ?_
  rintro _ σ2 ⟨b1, rfl, H, -⟩
  refine st_ex (ex_box (cs := (List.map I b_1)) H hn0 rfl rfl) (wanted_none _ rfl _) ?_
  rintro _ σ4 ⟨b3, rfl, H, -⟩
  refine st_ex (ex_alloc (cs := (List.map I (List.replicate 4 0))) H hn0 ti98 rfl) (wanted_none _ rfl _) ?_
  rintro _ σ6 ⟨b5, rfl, H, -⟩
  refine w_end ?_
  refine q_then ?_
  refine c_seq ?_
  refine rg ?_
  refine st_ex (ex_alloc (cs := (List.map I (List.replicate 4 0))) H hn0 ti98 rfl) (wanted_none _ rfl _) ?_
  rintro _ σ8 ⟨b7, rfl, H, -⟩
  refine w_end ?_
  refine q_then ?_
  refine c_seq ?_
  refine c_seq ?_
  refine rg ?_
  refine st (v := (I 0)) (rv_move rfl) ?_
  refine w_end ?_
  refine q_then ?_
  obtain ⟨o9, hj, h'⟩ := bind_some h
  clear h
  refine c_cut (fun e a w => e = .normal ∧ ∃ (ρ : Nat → Value) (σ : St), a = fr 29 (updL ρ [(4, (pt b5 0)), (5, (pt b7 0))]) ∧ w = σ.w ∧ Hp S0 σ0 σ [Ch.bx n0 b7 0 (List.map I o9) [] [], Ch.bx n0 b5 0 (List.map I (List.replicate 4 0)) [] []] ∧ o9.length = 4) ?_ ?_
  · clear h'
    rename _ = some o9 => h
    refine c_blk ?_
    refine wp_loopM _ h (fun s10 a w => ∃ (ρ : Nat → Value) (σ : St), a = fr 29 (updL ρ [(2, (pt b1 0)), (3, (pt b3 0)), (4, (pt b5 0)), (5, (pt b7 0)), (7, (I s10.2))]) ∧ w = σ.w ∧ Hp S0 σ0 σ [Ch.bx n0 b7 0 (List.map I s10.1) [] [], Ch.bx n0 b1 0 (List.map I a_0) [] [], Ch.bx n0 b3 0 (List.map I b_1) [] [], Ch.bx n0 b5 0 (List.map I (List.replicate 4 0)) [] []] ∧ s10.1.length = 4) ⟨_, σ8, fr_join ⟨rfl, rfl, rfl, rfl, rfl, trivial⟩, rfl, H.sel' [0, 3, 2, 1] rfl rfl, rfl⟩ ?_
    clear h H
    rintro s10 a w o ⟨ρ, σ11, rfl, rfl, H, hl12⟩ h hres
    refine c_seq ?_
    refine rg ?_
    refine st (v := (B (decide (s10.2 < 4)))) (rv_lss (a := s10.2) (b := 4) rfl rfl) ?_
    refine w_end ?_
    refine q_then ?_
    refine c_seq ?_
    refine cd_cond (decide (s10.2 < 4)) rfl (fun hb13 => ?_) (fun hb13 => ?_)
    · replace h := bif_t hb13 h
      refine c_skip ?_
      refine q_then ?_
      refine c_seq ?_
      refine c_blk ?_
      refine c_seq ?_
      refine rg ?_
      refine st (v := (I s10.2)) (rv_move rfl) ?_
      refine st (v := (I s10.2)) (rv_assign rfl) ?_
      refine w_end ?_
      refine q_then ?_
      obtain ⟨x14, hx15, h'⟩ := bind_some h
      clear h
      have h := h'; clear h'
      have hl16 := gidx_lt hx15 hla_0
      have hc17 := Hp.arrCell H 1 rfl hx15
      obtain ⟨x18, hx19, h'⟩ := bind_some h
      clear h
      have h := h'; clear h'
      have hl20 := gidx_lt hx19 hlb_1
      have hc21 := Hp.arrCell H 2 rfl hx19
      obtain ⟨x22, hx23, h'⟩ := bind_some h
      clear h
      have h := h'; clear h'
      have hl24 := gidx_lt hx23 hlb_1
      have hc25 := Hp.arrCell H 2 rfl hx23
      obtain ⟨x26, hx27, h'⟩ := bind_some h
      clear h
      have h := h'; clear h'
      have hl28 := gidx_lt hx27 hla_0
      have hc29 := Hp.arrCell H 1 rfl hx27
      have Hs := H
      refine rg2 (σ := σ11) (Nm := Unit) 16 [] [[]] [[(0, 0)], [(0, 0)], [(0, 0)], [(0, 0)], [(0, 0)], [(0, 0)], [(0, 0)], [(0, 0)], [(0, 0)], [(0, 0)], [(0, 0)], [(0, 0)], [(0, 0)], [(0, 0)], [(0, 0)], [(0, 0)]] 0 [fun (_nm : Unit) => fun σm => Hp S0 σ0 σm [Ch.bx n0 b7 0 (List.map I s10.1) [] [], Ch.bx n0 b1 0 (List.map I a_0) [] [], Ch.bx n0 b3 0 (List.map I b_1) [] [], Ch.bx n0 b5 0 (List.map I (List.replicate 4 0)) [] []] ∧ Md (cov []) σ11 σm] [fun (_nm : Unit) => (I s10.2), fun (_nm : Unit) => (I s10.2), fun (_nm : Unit) => (pt b1 (0 + s10.2.toNat * 1)), fun (_nm : Unit) => (I x14), fun (_nm : Unit) => (I s10.2), fun (_nm : Unit) => (pt b3 (0 + s10.2.toNat * 1)), fun (_nm : Unit) => (I x18), fun (_nm : Unit) => (I (w64 (x14 - x18))), fun (_nm : Unit) => (I s10.2), fun (_nm : Unit) => (pt b3 (0 + s10.2.toNat * 1)), fun (_nm : Unit) => (I x22), fun (_nm : Unit) => (I s10.2), fun (_nm : Unit) => (pt b1 (0 + s10.2.toNat * 1)), fun (_nm : Unit) => (I x26), fun (_nm : Unit) => (I (w64 (x22 - x26))), fun (_nm : Unit) => (I (max (w64 (x14 - x18)) (w64 (x22 - x26))))] () (by kernel_rfl) (by kernel_rfl) ?_ ?_ ?_
      · intro σm m0
        exact ⟨H.grow (m0.mono fun _ h => h.elim), m0⟩
      · refine all_cons (obs_v rfl (by
            intro k; intro _nm ρ σm hJ hoff hdep
            have e6 : look 29 ρ 6 = (I s10.2) := look_off (hoff 6 rfl) rfl
            exact dp_v (v := (I s10.2)) (wanted_none _ rfl _) (rv_move e6) rfl hJ)) ?_
        refine all_cons (obs_v rfl (by
            intro k; intro _nm ρ σm hJ hoff hdep
            have e6 : look 29 ρ 6 = (I s10.2) := look_off (hoff 6 rfl) rfl
            exact dp_v (v := (I s10.2)) (wanted_none _ rfl _) (rv_move e6) rfl hJ)) ?_
        refine all_cons (obs_v rfl (by
            intro k; intro _nm ρ σm hJ hoff hdep
            have e2 : look 29 ρ 2 = (pt b1 0) := look_off (hoff 2 rfl) rfl
            have e11 : look 29 ρ 11 = (I s10.2) := hdep 1 rfl rfl 11 rfl
            exact dp_v (v := (pt b1 (0 + s10.2.toNat * 1))) (wanted_none _ rfl _) (rv_indexAddr_array Try.underlying98 ti3 e2 e11 hl16.1 hl16.2) rfl hJ)) ?_
        refine all_cons (by
            refine ⟨?_, ?_⟩
            · intro _nm ρ σm hJ hoff hdep
              have e12 : look 29 ρ 12 = (pt b1 (0 + s10.2.toNat * 1)) := hdep 2 rfl rfl 12 rfl
              obtain ⟨H, m⟩ := (show Hp S0 σ0 σm [Ch.bx n0 b7 0 (List.map I s10.1) [] [], Ch.bx n0 b1 0 (List.map I a_0) [] [], Ch.bx n0 b3 0 (List.map I b_1) [] [], Ch.bx n0 b5 0 (List.map I (List.replicate 4 0)) [] []] ∧ Md (cov []) σ11 σm from hJ)
              have hc17 := Hp.arrCell H 1 rfl hx15
              exact dp_v (v := (I x14)) (wanted_none _ rfl _) (rv_load1 Try.underlying3 rfl e12 hc17) rfl hJ
            trivial) ?_
        refine all_cons (obs_v rfl (by
            intro k; intro _nm ρ σm hJ hoff hdep
            have e6 : look 29 ρ 6 = (I s10.2) := look_off (hoff 6 rfl) rfl
            exact dp_v (v := (I s10.2)) (wanted_none _ rfl _) (rv_move e6) rfl hJ)) ?_
        refine all_cons (obs_v rfl (by
            intro k; intro _nm ρ σm hJ hoff hdep
            have e3 : look 29 ρ 3 = (pt b3 0) := look_off (hoff 3 rfl) rfl
            have e14 : look 29 ρ 14 = (I s10.2) := hdep 4 rfl rfl 14 rfl
            exact dp_v (v := (pt b3 (0 + s10.2.toNat * 1))) (wanted_none _ rfl _) (rv_indexAddr_array Try.underlying98 ti3 e3 e14 hl20.1 hl20.2) rfl hJ)) ?_
        refine all_cons (by
            refine ⟨?_, ?_⟩
            · intro _nm ρ σm hJ hoff hdep
              have e15 : look 29 ρ 15 = (pt b3 (0 + s10.2.toNat * 1)) := hdep 5 rfl rfl 15 rfl
              obtain ⟨H, m⟩ := (show Hp S0 σ0 σm [Ch.bx n0 b7 0 (List.map I s10.1) [] [], Ch.bx n0 b1 0 (List.map I a_0) [] [], Ch.bx n0 b3 0 (List.map I b_1) [] [], Ch.bx n0 b5 0 (List.map I (List.replicate 4 0)) [] []] ∧ Md (cov []) σ11 σm from hJ)
              have hc21 := Hp.arrCell H 2 rfl hx19
              exact dp_v (v := (I x18)) (wanted_none _ rfl _) (rv_load1 Try.underlying3 rfl e15 hc21) rfl hJ
            trivial) ?_
        refine all_cons (obs_v rfl (by
            intro k; intro _nm ρ σm hJ hoff hdep
            have e13 : look 29 ρ 13 = (I x14) := hdep 3 rfl rfl 13 rfl
            have e16 : look 29 ρ 16 = (I x18) := hdep 6 rfl rfl 16 rfl
            exact dp_v (v := (I (w64 (x14 - x18)))) (wanted_none _ rfl _) (rv_sub (a := x14) (b := x18) e13 e16) rfl hJ)) ?_
        refine all_cons (obs_v rfl (by
            intro k; intro _nm ρ σm hJ hoff hdep
            have e6 : look 29 ρ 6 = (I s10.2) := look_off (hoff 6 rfl) rfl
            exact dp_v (v := (I s10.2)) (wanted_none _ rfl _) (rv_move e6) rfl hJ)) ?_
        refine all_cons (obs_v rfl (by
            intro k; intro _nm ρ σm hJ hoff hdep
            have e3 : look 29 ρ 3 = (pt b3 0) := look_off (hoff 3 rfl) rfl
            have e18 : look 29 ρ 18 = (I s10.2) := hdep 8 rfl rfl 18 rfl
            exact dp_v (v := (pt b3 (0 + s10.2.toNat * 1))) (wanted_none _ rfl _) (rv_indexAddr_array Try.underlying98 ti3 e3 e18 hl24.1 hl24.2) rfl hJ)) ?_
        refine all_cons (by
            refine ⟨?_, ?_⟩
            · intro _nm ρ σm hJ hoff hdep
              have e19 : look 29 ρ 19 = (pt b3 (0 + s10.2.toNat * 1)) := hdep 9 rfl rfl 19 rfl
              obtain ⟨H, m⟩ := (show Hp S0 σ0 σm [Ch.bx n0 b7 0 (List.map I s10.1) [] [], Ch.bx n0 b1 0 (List.map I a_0) [] [], Ch.bx n0 b3 0 (List.map I b_1) [] [], Ch.bx n0 b5 0 (List.map I (List.replicate 4 0)) [] []] ∧ Md (cov []) σ11 σm from hJ)
              have hc25 := Hp.arrCell H 2 rfl hx23
              exact dp_v (v := (I x22)) (wanted_none _ rfl _) (rv_load1 Try.underlying3 rfl e19 hc25) rfl hJ
            trivial) ?_
        refine all_cons (obs_v rfl (by
            intro k; intro _nm ρ σm hJ hoff hdep
            have e6 : look 29 ρ 6 = (I s10.2) := look_off (hoff 6 rfl) rfl
            exact dp_v (v := (I s10.2)) (wanted_none _ rfl _) (rv_move e6) rfl hJ)) ?_
        refine all_cons (obs_v rfl (by
            intro k; intro _nm ρ σm hJ hoff hdep
            have e2 : look 29 ρ 2 = (pt b1 0) := look_off (hoff 2 rfl) rfl
            have e21 : look 29 ρ 21 = (I s10.2) := hdep 11 rfl rfl 21 rfl
            exact dp_v (v := (pt b1 (0 + s10.2.toNat * 1))) (wanted_none _ rfl _) (rv_indexAddr_array Try.underlying98 ti3 e2 e21 hl28.1 hl28.2) rfl hJ)) ?_
        refine all_cons (by
            refine ⟨?_, ?_⟩
            · intro _nm ρ σm hJ hoff hdep
              have e22 : look 29 ρ 22 = (pt b1 (0 + s10.2.toNat * 1)) := hdep 12 rfl rfl 22 rfl
              obtain ⟨H, m⟩ := (show Hp S0 σ0 σm [Ch.bx n0 b7 0 (List.map I s10.1) [] [], Ch.bx n0 b1 0 (List.map I a_0) [] [], Ch.bx n0 b3 0 (List.map I b_1) [] [], Ch.bx n0 b5 0 (List.map I (List.replicate 4 0)) [] []] ∧ Md (cov []) σ11 σm from hJ)
              have hc29 := Hp.arrCell H 1 rfl hx27
              exact dp_v (v := (I x26)) (wanted_none _ rfl _) (rv_load1 Try.underlying3 rfl e22 hc29) rfl hJ
            trivial) ?_
        refine all_cons (obs_v rfl (by
            intro k; intro _nm ρ σm hJ hoff hdep
            have e20 : look 29 ρ 20 = (I x22) := hdep 10 rfl rfl 20 rfl
            have e23 : look 29 ρ 23 = (I x26) := hdep 13 rfl rfl 23 rfl
            exact dp_v (v := (I (w64 (x22 - x26)))) (wanted_none _ rfl _) (rv_sub (a := x22) (b := x26) e20 e23) rfl hJ)) ?_
        refine all_cons (obs_v rfl (by
            intro k; intro _nm ρ σm hJ hoff hdep
            have e17 : look 29 ρ 17 = (I (w64 (x14 - x18))) := hdep 7 rfl rfl 17 rfl
            have e24 : look 29 ρ 24 = (I (w64 (x22 - x26))) := hdep 14 rfl rfl 24 rfl
            exact dp_v (v := (I (max (w64 (x14 - x18)) (w64 (x22 - x26))))) (wanted_none _ rfl _) (rv_max e17 e24) rfl hJ)) ?_
        exact all_nil
      · intro _nm ρ σ30 hJ hoff hrel
        have e2 : look 29 ρ 2 = (pt b1 0) := look_off (hoff 2 rfl) rfl
        have e3 : look 29 ρ 3 = (pt b3 0) := look_off (hoff 3 rfl) rfl
        have e4 : look 29 ρ 4 = (pt b5 0) := look_off (hoff 4 rfl) rfl
        have e5 : look 29 ρ 5 = (pt b7 0) := look_off (hoff 5 rfl) rfl
        have e7 : look 29 ρ 7 = (I s10.2) := look_off (hoff 7 rfl) rfl
        have e10 : look 29 ρ 10 = (I s10.2) := hrel 0 rfl 10 rfl
        have e25 : look 29 ρ 25 = (I (max (w64 (x14 - x18)) (w64 (x22 - x26)))) := hrel 15 rfl 25 rfl
        obtain ⟨H, -⟩ := (show Hp S0 σ0 σ30 [Ch.bx n0 b7 0 (List.map I s10.1) [] [], Ch.bx n0 b1 0 (List.map I a_0) [] [], Ch.bx n0 b3 0 (List.map I b_1) [] [], Ch.bx n0 b5 0 (List.map I (List.replicate 4 0)) [] []] ∧ Md (cov []) σ11 σ30 from hJ)
        clear hJ Hs
        rw [fr_lookL (L := [(2, (pt b1 0)), (3, (pt b3 0)), (4, (pt b5 0)), (5, (pt b7 0)), (7, (I s10.2)), (10, (I s10.2)), (25, (I (max (w64 (x14 - x18)) (w64 (x22 - x26)))))]) ⟨e2, e3, e4, e5, e7, e10, e25, trivial⟩]
        clear hoff hrel e2 e3 e4 e5 e7 e10 e25
        obtain ⟨x31, hx32, h'⟩ := bind_some h
        clear h
        have h := h'; clear h'
        have hl33 := gidx_lt hx32 hl12
        refine st (v := (pt b7 (0 + s10.2.toNat * 1))) (rv_indexAddr_array Try.underlying98 ti3 rfl rfl hl33.1 hl33.2) ?_
        have hl34 := gidx_lt hx32 hl12
        refine st_exS (ex_store_box (k := s10.2.toNat * 1) (vs := [(I (max (w64 (x14 - x18)) (w64 (x22 - x26))))]) (cs' := (List.map I (s10.1.set s10.2.toNat (max (w64 (x14 - x18)) (w64 (x22 - x26)))))) H (i := 0) rfl ti3 rfl rfl rfl rfl rfl (by rw [List.length_map, hl12]; simp; omega) (by simp [plain]) (arr_set' _ _ _)) (wanted_none _ rfl _) ?_
        rintro σ35 ⟨H, -⟩
        refine w_end ?_
        refine q_blk ?_
        refine q_then ?_
        refine rg ?_
        refine st (v := (I (w64 (s10.2 + 1)))) (rv_add (a := s10.2) (b := 1) rfl rfl) ?_
        refine st (v := (I (w64 (s10.2 + 1)))) (rv_move rfl) ?_
        refine w_end ?_
        refine q_then ?_
        obtain rfl := Option.some.inj h
        exact ⟨_, rfl, _, σ35, fr_join ⟨rfl, rfl, rfl, rfl, rfl, trivial⟩, rfl, H.sel' [0, 1, 2, 3] rfl rfl, (set_len hl12)⟩
    · replace h := bif_f hb13 h
      refine c_exit ?_
      refine q_then_x ?_
      refine q_then_x ?_
      refine q_blk_hit ?_
      obtain rfl := Option.some.inj h
      obtain rfl := hres _ rfl
      exact ⟨rfl, _, σ11, fr_join ⟨rfl, rfl, trivial⟩, rfl, H.sel' [0, 3] rfl rfl, hl12⟩
  · clear hj
    have h := h'
    clear h' H
    rintro e a w ⟨rfl, ρ, σ36, rfl, rfl, H, hl37⟩
    refine q_then ?_
    refine c_seq ?_
    refine rg ?_
    have hc38 := H.cells 0 rfl
    refine st (v := (.agg (List.map I o9).toArray)) (rv_load (cs := (List.map I o9)) Try.underlying98 rfl ti98 rfl (by rw [List.length_map]; exact hl37) hc38) ?_
    refine st_exS (ex_store_box (k := 0) (cs := (List.map I (List.replicate 4 0))) (vs := (List.map I o9)) (cs' := (List.map I o9)) H (i := 1) rfl ti98 rfl rfl rfl rfl ((List.length_map _).trans hl37) (arr_fits (k := 4) hl37 rfl) (plain_ints _) (arr_all (k := 4) hl37 rfl)) (wanted_none _ rfl _) ?_
    rintro σ39 ⟨H, -⟩
    refine w_end ?_
    refine q_then ?_
    refine c_ret ?_
    obtain rfl := Option.some.inj h
    exact fin_ret (v := (.agg (List.map I o9).toArray)) (results_ok Try.results78 (res_cell rfl (run_cellRes (cs := (List.map I o9)) Try.underlying98 rfl ti98 (by rw [List.length_map]; exact hl37) (H.cells 0 rfl)) res_nil) rfl) ⟨rfl, rfl, hl37⟩ (H.sel' [] rfl rfl)

theorem c_impl_Distance {kind_0 : Int} {a_1 : List Int} {b_2 : List Int} {aa_1 : Option Addr} {ca_1 : Nat} {ab_2 : Option Addr} {cb_2 : Nat} {r : Int} (h : M.impl_Distance kind_0 a_1 b_2 = some r) :
    Cal2 Try.prog 20 [(I kind_0), (Sl aa_1 a_1 ca_1), (Sl ab_2 b_2 cb_2)] [Ch.ro 0 (Sl aa_1 a_1 ca_1) a_1, Ch.ro 0 (Sl ab_2 b_2 cb_2) b_2] (fun n0 v L => v = (I r) ∧ L = []) := by
  refine cal2 (n := 24) Try.func20 rfl rfl rfl rfl ?_
  intro S0 σ0 n0 hn0 H
  unfold M.impl_Distance at h
  refine c_seq ?_
  refine rg ?_
  refine st (v := (I 0)) (rv_assign rfl) ?_
  refine w_end ?_
  refine q_then ?_
  refine c_seq ?_
  refine c_seq ?_
  obtain ⟨o1, hj, h'⟩ := bind_some h
  clear h
  refine c_cut (fun e a w => e = .normal ∧ ∃ (ρ : Nat → Value) (σ : St), a = fr 24 (updL ρ [(0, (I kind_0)), (1, (Sl aa_1 a_1 ca_1)), (2, (Sl ab_2 b_2 cb_2)), (14, (B o1))]) ∧ w = σ.w ∧ Hp S0 σ0 σ [Ch.ro 0 (Sl aa_1 a_1 ca_1) a_1, Ch.ro 0 (Sl ab_2 b_2 cb_2) b_2]) ?_ ?_
  · clear h'
    rename _ = some o1 => h
    refine rg ?_
    refine st (v := (Sl aa_1 a_1 ca_1)) (rv_move rfl) ?_
    obtain ⟨r2, hx3, h'⟩ := bind_some h
    clear h
    have h := h'; clear h'
    have hc4 := c_impl_ValidVector (av_0 := aa_1) (cv_0 := ca_1) hx3
    refine st_call (cx_call hc4 (ent_f hc4.fn rfl) hn0 (show Hp S0 σ0 _ ([Ch.ro 0 (Sl aa_1 a_1 ca_1) a_1] ++ [Ch.ro 0 (Sl aa_1 a_1 ca_1) a_1, Ch.ro 0 (Sl ab_2 b_2 cb_2) b_2]) from (H.sel' [0, 0, 1] rfl rfl))) (wanted_none _ rfl _) ?_
    rintro _ σ5 ⟨_, ⟨rfl, rfl⟩, H, -⟩
    replace H : Hp S0 σ0 σ5 [Ch.ro 0 (Sl aa_1 a_1 ca_1) a_1, Ch.ro 0 (Sl ab_2 b_2 cb_2) b_2] := H
    refine st (v := (B (!r2))) (rv_not rfl) ?_
    refine st (v := (B (!r2))) (rv_move rfl) ?_
    rcases Bool.eq_false_or_eq_true (!r2) with hb6 | hb6
    · replace h := bif_t hb6 h
      refine st_skip (congrArg some hb6) ?_
      refine st_skip (congrArg some hb6) ?_
      refine st_skip (congrArg some hb6) ?_
      refine st (v := (B true)) (rv_pick_t (congrArg B hb6) rfl) ?_
      refine w_end ?_
      obtain rfl := Option.some.inj h
      exact ⟨rfl, _, σ5, fr_join ⟨rfl, rfl, rfl, rfl, trivial⟩, rfl, H.sel' [0, 1] rfl rfl⟩
    · replace h := bif_f hb6 h
      refine st_g (v := (Sl ab_2 b_2 cb_2)) (congrArg some hb6) (rv_move rfl) ?_
      obtain ⟨r7, hx8, h'⟩ := bind_some h
      clear h
      have h := h'; clear h'
      have hc9 := c_impl_ValidVector (av_0 := ab_2) (cv_0 := cb_2) hx8
      refine st_call (cx_call hc9 (ent_f hc9.fn rfl) hn0 (show Hp S0 σ0 _ ([Ch.ro 0 (Sl ab_2 b_2 cb_2) b_2] ++ [Ch.ro 0 (Sl aa_1 a_1 ca_1) a_1, Ch.ro 0 (Sl ab_2 b_2 cb_2) b_2]) from (H.sel' [1, 0, 1] rfl rfl))) (wanted_yes rfl (by exact (congrArg some hb6))) ?_
      rintro _ σ10 ⟨_, ⟨rfl, rfl⟩, H, -⟩
      replace H : Hp S0 σ0 σ10 [Ch.ro 0 (Sl aa_1 a_1 ca_1) a_1, Ch.ro 0 (Sl ab_2 b_2 cb_2) b_2] := H
      refine st_g (v := (B (!r7))) (congrArg some hb6) (rv_not rfl) ?_
      refine st (v := (B (!r7))) (rv_pick_f (congrArg B hb6) rfl) ?_
      refine w_end ?_
      obtain rfl := Option.some.inj h
      exact ⟨rfl, _, σ10, fr_join ⟨rfl, rfl, rfl, rfl, trivial⟩, rfl, H.sel' [0, 1] rfl rfl⟩
  · clear hj
    have h := h'
    clear h' H
    rintro e a w ⟨rfl, ρ, σ11, rfl, rfl, H⟩
    refine q_then ?_
    refine cd_cond o1 rfl (fun hb12 => ?_) (fun hb12 => ?_)
    · replace h := bif_t hb12 h
      refine c_seq ?_
      refine rg ?_
      refine st (v := (I (-1))) (rv_assign rfl) ?_
      refine w_end ?_
      refine q_then ?_
      refine c_ret ?_
      refine q_then_r ?_
      obtain rfl := Option.some.inj h
      exact fin_ret (v := (I (-1))) (results_ok Try.results20 (res_tmp (v := (I (-1))) rfl res_nil) rfl) ⟨rfl, rfl⟩ (H.sel' [] rfl rfl)
    · replace h := bif_f hb12 h
      refine c_skip ?_
      refine q_then ?_
      refine c_seq ?_
      obtain ⟨xs13, hx14, h'⟩ := bind_some h
      clear h
      have h := h'; clear h'
      obtain ⟨hl18, hq19⟩ := garr_some hx14
      clear hx14 hq19
      obtain ⟨b15, o16, rfl, hc17⟩ := (H.ro 0 rfl).arr (Nat.lt_of_lt_of_le (by decide) hl18)
      obtain ⟨xs20, hx21, h'⟩ := bind_some h
      clear h
      have h := h'; clear h'
      obtain ⟨hl25, hq26⟩ := garr_some hx21
      clear hx21 hq26
      obtain ⟨b22, o23, rfl, hc24⟩ := (H.ro 1 rfl).arr (Nat.lt_of_lt_of_le (by decide) hl25)
      obtain ⟨r27, hx28, h'⟩ := bind_some h
      clear h
      have h := h'; clear h'
      have hc29 := c_impl_gapsOf (by rw [List.length_take]; have := hl18; omega) (by rw [List.length_take]; have := hl25; omega) hx28
      have Hs := H
      refine rg2 (σ := σ11) (Nm := Unit) 8 [7] [[false], [true]] [[(0, 0), (1, 1)], [(0, 0)], [(0, 0)], [(0, 0)], [(0, 0)], [(0, 0)], [(0, 0)], [(0, 1)]] 1 [fun (_nm : Unit) => fun σm => Hp S0 σ0 σm [Ch.ro 0 (Sl (some ⟨b15, o16, none⟩) a_1 ca_1) a_1, Ch.ro 0 (Sl (some ⟨b22, o23, none⟩) b_2 cb_2) b_2] ∧ Md (cov []) σ11 σm, fun (_nm : Unit) => fun σm => Hp S0 σ0 σm [Ch.ro 0 (Sl (some ⟨b15, o16, none⟩) a_1 ca_1) a_1, Ch.ro 0 (Sl (some ⟨b22, o23, none⟩) b_2 cb_2) b_2] ∧ Md (cov []) σ11 σm ∧ r27.length = 4] [fun (_nm : Unit) => (I kind_0), fun (_nm : Unit) => (Sl (some ⟨b15, o16, none⟩) a_1 ca_1), fun (_nm : Unit) => (.pointer (some ⟨b15, o16, none⟩)), fun (_nm : Unit) => (.agg (List.map I (List.take 4 a_1)).toArray), fun (_nm : Unit) => (Sl (some ⟨b22, o23, none⟩) b_2 cb_2), fun (_nm : Unit) => (.pointer (some ⟨b22, o23, none⟩)), fun (_nm : Unit) => (.agg (List.map I (List.take 4 b_2)).toArray), fun (_nm : Unit) => (.agg (List.map I r27).toArray)] () (by kernel_rfl) (by kernel_rfl) ?_ ?_ ?_
      · intro σm m0
        exact ⟨H.grow (m0.mono fun _ h => h.elim), m0⟩
      · refine all_cons (obs_v rfl (by
            intro k; intro _nm ρ σm hJ hoff hdep
            have e0 : look 24 ρ 0 = (I kind_0) := look_off (hoff 0 rfl) rfl
            exact dp_v (v := (I kind_0)) (wanted_none _ rfl _) (rv_move e0) rfl hJ)) ?_
        refine all_cons (obs_v rfl (by
            intro k; intro _nm ρ σm hJ hoff hdep
            have e1 : look 24 ρ 1 = (Sl (some ⟨b15, o16, none⟩) a_1 ca_1) := look_off (hoff 1 rfl) rfl
            exact dp_v (v := (Sl (some ⟨b15, o16, none⟩) a_1 ca_1)) (wanted_none _ rfl _) (rv_move e1) rfl hJ)) ?_
        refine all_cons (obs_v rfl (by
            intro k; intro _nm ρ σm hJ hoff hdep
            have e16 : look 24 ρ 16 = (Sl (some ⟨b15, o16, none⟩) a_1 ca_1) := hdep 1 rfl rfl 16 rfl
            exact dp_v (v := (.pointer (some ⟨b15, o16, none⟩))) (wanted_none _ rfl _) (rv_arrPtr Try.underlying98 e16 hl18) rfl hJ)) ?_
        refine all_cons (by
            refine ⟨?_, ?_⟩
            · intro _nm ρ σm hJ hoff hdep
              have e17 : look 24 ρ 17 = (.pointer (some ⟨b15, o16, none⟩)) := hdep 2 rfl rfl 17 rfl
              obtain ⟨H, m⟩ := (show Hp S0 σ0 σm [Ch.ro 0 (Sl (some ⟨b15, o16, none⟩) a_1 ca_1) a_1, Ch.ro 0 (Sl (some ⟨b22, o23, none⟩) b_2 cb_2) b_2] ∧ Md (cov []) σ11 σm from hJ)
              replace hc17 := (Hs.ro 0 rfl).arr_md hc17 m
              exact dp_v (v := (.agg (List.map I (List.take 4 a_1)).toArray)) (wanted_none _ rfl _) (rv_load (cs := List.map I (List.take 4 a_1)) Try.underlying98 rfl ti98 e17 (by rw [List.length_map, List.length_take]; have := hl18; omega) (arr_take hc17)) rfl hJ
            trivial) ?_
        refine all_cons (obs_v rfl (by
            intro k; intro _nm ρ σm hJ hoff hdep
            have e2 : look 24 ρ 2 = (Sl (some ⟨b22, o23, none⟩) b_2 cb_2) := look_off (hoff 2 rfl) rfl
            exact dp_v (v := (Sl (some ⟨b22, o23, none⟩) b_2 cb_2)) (wanted_none _ rfl _) (rv_move e2) rfl hJ)) ?_
        refine all_cons (obs_v rfl (by
            intro k; intro _nm ρ σm hJ hoff hdep
            have e19 : look 24 ρ 19 = (Sl (some ⟨b22, o23, none⟩) b_2 cb_2) := hdep 4 rfl rfl 19 rfl
            exact dp_v (v := (.pointer (some ⟨b22, o23, none⟩))) (wanted_none _ rfl _) (rv_arrPtr Try.underlying98 e19 hl25) rfl hJ)) ?_
        refine all_cons (by
            refine ⟨?_, ?_⟩
            · intro _nm ρ σm hJ hoff hdep
              have e20 : look 24 ρ 20 = (.pointer (some ⟨b22, o23, none⟩)) := hdep 5 rfl rfl 20 rfl
              obtain ⟨H, m⟩ := (show Hp S0 σ0 σm [Ch.ro 0 (Sl (some ⟨b15, o16, none⟩) a_1 ca_1) a_1, Ch.ro 0 (Sl (some ⟨b22, o23, none⟩) b_2 cb_2) b_2] ∧ Md (cov []) σ11 σm from hJ)
              replace hc24 := (Hs.ro 1 rfl).arr_md hc24 m
              exact dp_v (v := (.agg (List.map I (List.take 4 b_2)).toArray)) (wanted_none _ rfl _) (rv_load (cs := List.map I (List.take 4 b_2)) Try.underlying98 rfl ti98 e20 (by rw [List.length_map, List.length_take]; have := hl25; omega) (arr_take hc24)) rfl hJ
            trivial) ?_
        refine all_cons (by
            refine ⟨?_, ?_⟩
            · intro _nm ρ σm hJ hoff hdep
              have e18 : look 24 ρ 18 = (.agg (List.map I (List.take 4 a_1)).toArray) := hdep 3 rfl rfl 18 rfl
              have e21 : look 24 ρ 21 = (.agg (List.map I (List.take 4 b_2)).toArray) := hdep 6 rfl rfl 21 rfl
              obtain ⟨H, m⟩ := (show Hp S0 σ0 σm [Ch.ro 0 (Sl (some ⟨b15, o16, none⟩) a_1 ca_1) a_1, Ch.ro 0 (Sl (some ⟨b22, o23, none⟩) b_2 cb_2) b_2] ∧ Md (cov []) σ11 σm from hJ)
              refine dp_cx (wanted_none _ rfl _) (cx_call hc29 (ent_f hc29.fn (by show [look 24 ρ 18, look 24 ρ 21] = _; rw [e18, e21])) hn0 (show Hp S0 σ0 _ ([] ++ [Ch.ro 0 (Sl (some ⟨b15, o16, none⟩) a_1 ca_1) a_1, Ch.ro 0 (Sl (some ⟨b22, o23, none⟩) b_2 cb_2) b_2]) from (H.sel' [0, 1] rfl rfl))) ?_
              rintro _ σq ⟨_, ⟨rfl, rfl, hl30⟩, H2, m2⟩
              exact ⟨_, (), rfl, rfl, ⟨H2.sel' [0, 1] rfl rfl, m.comp0 m2, hl30⟩, stab [0, 1, 2, 3, 4, 5, 6] (by kernel_rfl) ⟨rfl, rfl, rfl, rfl, rfl, rfl, rfl, trivial⟩⟩
            trivial) ?_
        exact all_nil
      · intro _nm ρ σ31 hJ hoff hrel
        have e15 : look 24 ρ 15 = (I kind_0) := hrel 0 rfl 15 rfl
        have e22 : look 24 ρ 22 = (.agg (List.map I r27).toArray) := hrel 7 rfl 22 rfl
        obtain ⟨H, -, hl30⟩ := (show Hp S0 σ0 σ31 [Ch.ro 0 (Sl (some ⟨b15, o16, none⟩) a_1 ca_1) a_1, Ch.ro 0 (Sl (some ⟨b22, o23, none⟩) b_2 cb_2) b_2] ∧ Md (cov []) σ11 σ31 ∧ r27.length = 4 from hJ)
        clear hJ Hs
        rw [fr_lookL (L := [(15, (I kind_0)), (22, (.agg (List.map I r27).toArray))]) ⟨e15, e22, trivial⟩]
        clear hoff hrel e15 e22
        obtain ⟨r32, hx33, h'⟩ := bind_some h
        clear h
        have h := h'; clear h'
        have hc34 := c_impl_distanceOf hl30 hx33
        refine st_call (cx_call hc34 (ent_f hc34.fn rfl) hn0 (show Hp S0 σ0 _ ([] ++ [Ch.ro 0 (Sl (some ⟨b15, o16, none⟩) a_1 ca_1) a_1, Ch.ro 0 (Sl (some ⟨b22, o23, none⟩) b_2 cb_2) b_2]) from (H.sel' [0, 1] rfl rfl))) (wanted_none _ rfl _) ?_
        rintro _ σ35 ⟨_, ⟨rfl, rfl⟩, H, -⟩
        replace H : Hp S0 σ0 σ35 [Ch.ro 0 (Sl (some ⟨b15, o16, none⟩) a_1 ca_1) a_1, Ch.ro 0 (Sl (some ⟨b22, o23, none⟩) b_2 cb_2) b_2] := H
        refine st (v := (I r32)) (rv_assign rfl) ?_
        refine w_end ?_
        refine q_then ?_
        refine c_ret ?_
        obtain rfl := Option.some.inj h
        exact fin_ret (v := (I r32)) (results_ok Try.results20 (res_tmp (v := (I r32)) rfl res_nil) rfl) ⟨rfl, rfl⟩ (H.sel' [] rfl rfl)

theorem c_impl_validKey {key_0 : Int}  {r : Bool} (h : M.impl_validKey key_0 = some r) :
    Cal2 Try.prog 115 [(I key_0)] [] (fun n0 v L => v = (B r) ∧ L = []) := by
  refine cal2 (n := 9) Try.func115 rfl rfl rfl rfl ?_
  intro S0 σ0 n0 hn0 H
  unfold M.impl_validKey at h
  refine c_seq ?_
  refine rg ?_
  refine st (v := (B false)) (rv_assign rfl) ?_
  refine w_end ?_
  refine q_then ?_
  refine c_seq ?_
  refine rg ?_
  refine st (v := (I key_0)) (rv_move rfl) ?_
  refine st (v := (B (decide (1 ≤ key_0)))) (rv_geq (a := key_0) (b := 1) rfl rfl) ?_
  refine st (v := (B (decide (1 ≤ key_0)))) (rv_move rfl) ?_
  rcases Bool.eq_false_or_eq_true (decide (1 ≤ key_0)) with hb1 | hb1
  · replace h := bif_t hb1 h
    refine st_g (v := (I key_0)) (congrArg some hb1) (rv_move rfl) ?_
    refine st_g (v := (B (decide (key_0 ≤ 99)))) (congrArg some hb1) (rv_leq (a := key_0) (b := 99) rfl rfl) ?_
    refine st (v := (B (decide (key_0 ≤ 99)))) (rv_pick_t (congrArg B hb1) rfl) ?_
    refine st (v := (B (decide (key_0 ≤ 99)))) (rv_assign rfl) ?_
    refine w_end ?_
    refine q_then ?_
    refine c_ret ?_
    obtain rfl := Option.some.inj h
    exact fin_ret (v := (B (decide (key_0 ≤ 99)))) (results_ok Try.results115 (res_tmp (v := (B (decide (key_0 ≤ 99)))) rfl res_nil) rfl) ⟨rfl, rfl⟩ (H.sel' [] rfl rfl)
  · replace h := bif_f hb1 h
    refine st_skip (congrArg some hb1) ?_
    refine st_skip (congrArg some hb1) ?_
    refine st (v := (B false)) (rv_pick_f (congrArg B hb1) rfl) ?_
    refine st (v := (B false)) (rv_assign rfl) ?_
    refine w_end ?_
    refine q_then ?_
    refine c_ret ?_
    obtain rfl := Option.some.inj h
    exact fin_ret (v := (B false)) (results_ok Try.results115 (res_tmp (v := (B false)) rfl res_nil) rfl) ⟨rfl, rfl⟩ (H.sel' [] rfl rfl)

theorem c_impl_validItem {x_0 : Int × (List Int) × Int} {ax_0_1 : Option Addr} {cx_0_1 : Nat} {r : Bool} (h : M.impl_validItem x_0 = some r) :
    Cal2 Try.prog 82 [(.agg #[(I x_0.1), (Sl ax_0_1 x_0.2.1 cx_0_1), (I x_0.2.2)])] [Ch.ro 0 (Sl ax_0_1 x_0.2.1 cx_0_1) x_0.2.1] (fun n0 v L => v = (B r) ∧ L = []) := by
  refine cal2 (n := 21) Try.func82 rfl rfl rfl rfl ?_
  intro S0 σ0 n0 hn0 H
  unfold M.impl_validItem at h
  refine c_seq ?_
  refine rg ?_
  refine st_ex (ex_box (cs := [(I x_0.1), (Sl ax_0_1 x_0.2.1 cx_0_1), (I x_0.2.2)]) H hn0 rfl rfl) (wanted_none _ rfl _) ?_
  rintro _ σ2 ⟨b1, rfl, H, -⟩
  refine st (v := (B false)) (rv_assign rfl) ?_
  refine w_end ?_
  refine q_then ?_
  refine c_seq ?_
  refine rg ?_
  refine st (v := (pt b1 0)) (rv_fieldAddr (off := 0) (ft := 3) Try.underlying31 rfl ti3 rfl rfl) ?_
  have hc3 := H.cell (u := (I x_0.1)) (o' := 0) 0 0 rfl rfl rfl
  refine st (v := (I x_0.1)) (rv_load1 Try.underlying3 rfl rfl hc3) ?_
  obtain ⟨r4, hx5, h'⟩ := bind_some h
  clear h
  have h := h'; clear h'
  have hc6 := c_impl_validKey hx5
  refine st_call (cx_call hc6 (ent_f hc6.fn rfl) hn0 (show Hp S0 σ0 _ ([] ++ [Ch.bx n0 b1 0 [(I x_0.1), (Sl ax_0_1 x_0.2.1 cx_0_1), (I x_0.2.2)] [] [], Ch.ro 0 (Sl ax_0_1 x_0.2.1 cx_0_1) x_0.2.1]) from (H.sel' [0, 1] rfl rfl))) (wanted_none _ rfl _) ?_
  rintro _ σ7 ⟨_, ⟨rfl, rfl⟩, H, -⟩
  replace H : Hp S0 σ0 σ7 [Ch.bx n0 b1 0 [(I x_0.1), (Sl ax_0_1 x_0.2.1 cx_0_1), (I x_0.2.2)] [] [], Ch.ro 0 (Sl ax_0_1 x_0.2.1 cx_0_1) x_0.2.1] := H
  refine st (v := (B r4)) (rv_move rfl) ?_
  rcases Bool.eq_false_or_eq_true r4 with hb8 | hb8
  · replace h := bif_t hb8 h
    refine st_g (v := (pt b1 1)) (congrArg some hb8) (rv_fieldAddr (off := 1) (ft := 24) Try.underlying31 rfl ti24 rfl rfl) ?_
    have hc9 := H.cell (u := (Sl ax_0_1 x_0.2.1 cx_0_1)) (o' := 1) 0 1 rfl rfl rfl
    refine st_g (v := (Sl ax_0_1 x_0.2.1 cx_0_1)) (congrArg some hb8) (rv_load1 Try.underlying24 rfl rfl hc9) ?_
    obtain ⟨r10, hx11, h'⟩ := bind_some h
    clear h
    have h := h'; clear h'
    have hc12 := c_impl_ValidVector (av_0 := ax_0_1) (cv_0 := cx_0_1) hx11
    refine st_call (cx_call hc12 (ent_f hc12.fn rfl) hn0 (show Hp S0 σ0 _ ([Ch.ro 0 (Sl ax_0_1 x_0.2.1 cx_0_1) x_0.2.1] ++ [Ch.bx n0 b1 0 [(I x_0.1), (Sl ax_0_1 x_0.2.1 cx_0_1), (I x_0.2.2)] [] [], Ch.ro 0 (Sl ax_0_1 x_0.2.1 cx_0_1) x_0.2.1]) from (H.sel' [1, 0, 1] rfl rfl))) (wanted_yes rfl (by exact (congrArg some hb8))) ?_
    rintro _ σ13 ⟨_, ⟨rfl, rfl⟩, H, -⟩
    replace H : Hp S0 σ0 σ13 [Ch.bx n0 b1 0 [(I x_0.1), (Sl ax_0_1 x_0.2.1 cx_0_1), (I x_0.2.2)] [] [], Ch.ro 0 (Sl ax_0_1 x_0.2.1 cx_0_1) x_0.2.1] := H
    refine st (v := (B r10)) (rv_pick_t (congrArg B hb8) rfl) ?_
    refine st (v := (B r10)) (rv_move rfl) ?_
    rcases Bool.eq_false_or_eq_true r10 with hb14 | hb14
    · replace h := bif_t hb14 h
      refine st_g (v := (pt b1 2)) (congrArg some hb14) (rv_fieldAddr (off := 2) (ft := 3) Try.underlying31 rfl ti3 rfl rfl) ?_
      have hc15 := H.cell (u := (I x_0.2.2)) (o' := 2) 0 2 rfl rfl rfl
      refine st_g (v := (I x_0.2.2)) (congrArg some hb14) (rv_load1 Try.underlying3 rfl rfl hc15) ?_
      refine st_g (v := (B (decide (0 ≤ x_0.2.2)))) (congrArg some hb14) (rv_geq (a := x_0.2.2) (b := 0) rfl rfl) ?_
      refine st (v := (B (decide (0 ≤ x_0.2.2)))) (rv_pick_t (congrArg B hb14) rfl) ?_
      refine st (v := (B (decide (0 ≤ x_0.2.2)))) (rv_move rfl) ?_
      rcases Bool.eq_false_or_eq_true (decide (0 ≤ x_0.2.2)) with hb16 | hb16
      · replace h := bif_t hb16 h
        refine st_g (v := (pt b1 2)) (congrArg some hb16) (rv_fieldAddr (off := 2) (ft := 3) Try.underlying31 rfl ti3 rfl rfl) ?_
        have hc17 := H.cell (u := (I x_0.2.2)) (o' := 2) 0 2 rfl rfl rfl
        refine st_g (v := (I x_0.2.2)) (congrArg some hb16) (rv_load1 Try.underlying3 rfl rfl hc17) ?_
        refine st_g (v := (B (decide (x_0.2.2 ≤ 15)))) (congrArg some hb16) (rv_leq (a := x_0.2.2) (b := 15) rfl rfl) ?_
        refine st (v := (B (decide (x_0.2.2 ≤ 15)))) (rv_pick_t (congrArg B hb16) rfl) ?_
        refine st (v := (B (decide (x_0.2.2 ≤ 15)))) (rv_assign rfl) ?_
        refine w_end ?_
        refine q_then ?_
        refine c_ret ?_
        obtain rfl := Option.some.inj h
        exact fin_ret (v := (B (decide (x_0.2.2 ≤ 15)))) (results_ok Try.results82 (res_tmp (v := (B (decide (x_0.2.2 ≤ 15)))) rfl res_nil) rfl) ⟨rfl, rfl⟩ (H.sel' [] rfl rfl)
      · replace h := bif_f hb16 h
        refine st_skip (congrArg some hb16) ?_
        refine st_skip (congrArg some hb16) ?_
        refine st_skip (congrArg some hb16) ?_
        refine st (v := (B false)) (rv_pick_f (congrArg B hb16) rfl) ?_
        refine st (v := (B false)) (rv_assign rfl) ?_
        refine w_end ?_
        refine q_then ?_
        refine c_ret ?_
        obtain rfl := Option.some.inj h
        exact fin_ret (v := (B false)) (results_ok Try.results82 (res_tmp (v := (B false)) rfl res_nil) rfl) ⟨rfl, rfl⟩ (H.sel' [] rfl rfl)
    · replace h := bif_f hb14 h
      refine st_skip (congrArg some hb14) ?_
      refine st_skip (congrArg some hb14) ?_
      refine st_skip (congrArg some hb14) ?_
      refine st (v := (B false)) (rv_pick_f (congrArg B hb14) rfl) ?_
      refine st (v := (B false)) (rv_move rfl) ?_
      refine st_skip rfl ?_
      refine st_skip rfl ?_
      refine st_skip rfl ?_
      refine st (v := (B false)) (rv_pick_f rfl rfl) ?_
      refine st (v := (B false)) (rv_assign rfl) ?_
      refine w_end ?_
      refine q_then ?_
      refine c_ret ?_
      obtain rfl := Option.some.inj h
      exact fin_ret (v := (B false)) (results_ok Try.results82 (res_tmp (v := (B false)) rfl res_nil) rfl) ⟨rfl, rfl⟩ (H.sel' [] rfl rfl)
  · replace h := bif_f hb8 h
    refine st_skip (congrArg some hb8) ?_
    refine st_skip (congrArg some hb8) ?_
    refine st_skip (congrArg some hb8) ?_
    refine st (v := (B false)) (rv_pick_f (congrArg B hb8) rfl) ?_
    refine st (v := (B false)) (rv_move rfl) ?_
    refine st_skip rfl ?_
    refine st_skip rfl ?_
    refine st_skip rfl ?_
    refine st (v := (B false)) (rv_pick_f rfl rfl) ?_
    refine st (v := (B false)) (rv_move rfl) ?_
    refine st_skip rfl ?_
    refine st_skip rfl ?_
    refine st_skip rfl ?_
    refine st (v := (B false)) (rv_pick_f rfl rfl) ?_
    refine st (v := (B false)) (rv_assign rfl) ?_
    refine w_end ?_
    refine q_then ?_
    refine c_ret ?_
    obtain rfl := Option.some.inj h
    exact fin_ret (v := (B false)) (results_ok Try.results82 (res_tmp (v := (B false)) rfl res_nil) rfl) ⟨rfl, rfl⟩ (H.sel' [] rfl rfl)

theorem c_impl_ValidStore {list_0 : List (Int × (List Int) × Int)} {alist_0 : Option Addr} {clist_0 : Nat} {r : Bool} (h : M.impl_ValidStore list_0 = some r) :
    Cal2 Try.prog 25 [(Sl alist_0 list_0 clist_0)] [Ch.ro 0 (Sl alist_0 list_0 clist_0) list_0] (fun n0 v L => v = (B r) ∧ L = []) := by
  refine cal2 (n := 27) Try.func25 rfl rfl rfl rfl ?_
  intro S0 σ0 n0 hn0 H
  unfold M.impl_ValidStore at h
  refine c_seq ?_
  refine rg ?_
  refine st (v := (B false)) (rv_assign rfl) ?_
  refine w_end ?_
  refine q_then ?_
  refine c_seq ?_
  refine c_seq ?_
  refine rg ?_
  refine st (v := (Sl alist_0 list_0 clist_0)) (rv_move rfl) ?_
  refine st (v := (I (list_0.length : Int))) (rv_len Try.underlying23 rfl) ?_
  refine st (v := (B (decide (16 < (list_0.length : Int))))) (rv_gtr (a := (list_0.length : Int)) (b := 16) rfl rfl) ?_
  refine w_end ?_
  refine q_then ?_
  refine cd_cond (decide (16 < (list_0.length : Int))) rfl (fun hb1 => ?_) (fun hb1 => ?_)
  · replace h := bif_t hb1 h
    refine c_seq ?_
    refine rg ?_
    refine st (v := (B false)) (rv_assign rfl) ?_
    refine w_end ?_
    refine q_then ?_
    refine c_ret ?_
    refine q_then_r ?_
    obtain rfl := Option.some.inj h
    exact fin_ret (v := (B false)) (results_ok Try.results25 (res_tmp (v := (B false)) rfl res_nil) rfl) ⟨rfl, rfl⟩ (H.sel' [] rfl rfl)
  · replace h := bif_f hb1 h
    refine c_skip ?_
    refine q_then ?_
    refine c_seq ?_
    refine rg ?_
    refine st (v := (I 0)) (rv_assign rfl) ?_
    refine w_end ?_
    refine q_then ?_
    refine c_seq ?_
    refine c_seq ?_
    refine rg ?_
    refine st (v := (Sl alist_0 list_0 clist_0)) (rv_move rfl) ?_
    refine st (v := (I (list_0.length : Int))) (rv_len Try.underlying23 rfl) ?_
    refine st (v := (I 0)) (rv_move rfl) ?_
    refine w_end ?_
    refine q_then ?_
    obtain ⟨o2, hj, h'⟩ := bind_some h
    clear h
    refine c_cut (fun e a w => (∃ t, o2 = (.inl t) ∧ e = .normal ∧ ∃ (ρ : Nat → Value) (σ : St), a = fr 27 (updL ρ []) ∧ w = σ.w ∧ Hp S0 σ0 σ []) ∨ (∃ t, o2 = (.inr t) ∧ e = .ret ∧ ∃ (ρ : Nat → Value) (σ : St), a = fr 27 (updL ρ [(2, (B t))]) ∧ w = σ.w ∧ Hp S0 σ0 σ [])) ?_ ?_
    · clear h'
      rename _ = some o2 => h
      refine c_blk ?_
      refine wp_loopM _ h (fun s3 a w => ∃ (ρ : Nat → Value) (σ : St), a = fr 27 (updL ρ [(3, (I s3.1)), (9, (Sl alist_0 list_0 clist_0)), (10, (I (list_0.length : Int))), (11, (I s3.2))]) ∧ w = σ.w ∧ Hp S0 σ0 σ [Ch.ro 0 (Sl alist_0 list_0 clist_0) list_0]) ⟨_, σ0, fr_join ⟨rfl, rfl, rfl, rfl, trivial⟩, rfl, H.sel' [0] rfl rfl⟩ ?_
      clear h H
      rintro s3 a w o ⟨ρ, σ4, rfl, rfl, H⟩ h hres
      refine c_seq ?_
      refine rg ?_
      refine st (v := (B (decide (s3.2 < (list_0.length : Int))))) (rv_lss (a := s3.2) (b := (list_0.length : Int)) rfl rfl) ?_
      refine w_end ?_
      refine q_then ?_
      refine c_seq ?_
      refine cd_cond (decide (s3.2 < (list_0.length : Int))) rfl (fun hb5 => ?_) (fun hb5 => ?_)
      · replace h := bif_t hb5 h
        refine c_skip ?_
        refine q_then ?_
        refine c_seq ?_
        refine c_blk ?_
        refine c_seq ?_
        refine rg ?_
        obtain ⟨x6, hx7, h'⟩ := bind_some h
        clear h
        have h := h'; clear h'
        obtain ⟨b9, o10, hi8, -⟩ := (H.ro 0 rfl).ix hx7
        refine st (v := (pt b9 o10)) (rv_ix Try.underlying23 ti31 rfl rfl hi8) ?_
        obtain ⟨_, ⟨_, _, rfl, rfl, ⟨_, _, rfl, ⟨_, rfl, hR15⟩, rfl⟩⟩, hl11, hc12⟩ := ((H.ro 0 rfl).at hx7 hi8).cells
        obtain ⟨a13, c14, rfl⟩ := hR15.isSl
        replace H := H.add (d := Ch.ro 0 (Sl a13 x6.2.1 c14) x6.2.1) hR15 (fun _ h => h)
        clear hR15
        refine st (v := (.agg #[(I x6.1), (Sl a13 x6.2.1 c14), (I x6.2.2)])) (rv_load Try.underlying31 rfl ti31 rfl hl11 hc12) ?_
        refine st_ex (ex_alloc (cs := [(I 0), (.slice none 0 0), (I 0)]) H hn0 ti31 rfl) (wanted_none _ rfl _) ?_
        rintro _ σ17 ⟨b16, rfl, H, -⟩
        refine st_exS (ex_store_box (k := 0) (cs := [(I 0), (.slice none 0 0), (I 0)]) (vs := [(I x6.1), (Sl a13 x6.2.1 c14), (I x6.2.2)]) (cs' := [(I x6.1), (Sl a13 x6.2.1 c14), (I x6.2.2)]) H (i := 0) rfl ti31 rfl rfl rfl rfl rfl (Nat.le_of_ble_eq_true rfl) (by simp [plain]) rfl) (wanted_none _ rfl _) ?_
        rintro σ18 ⟨H, -⟩
        refine w_end ?_
        refine q_then ?_
        refine c_seq ?_
        refine c_seq ?_
        obtain ⟨o19, hj, h'⟩ := bind_some h
        clear h
        refine c_cut (fun e a w => e = .normal ∧ ∃ (ρ : Nat → Value) (σ : St), a = fr 27 (updL ρ [(5, (pt b16 0)), (9, (Sl alist_0 list_0 clist_0)), (10, (I (list_0.length : Int))), (11, (I s3.2)), (23, (B o19))]) ∧ w = σ.w ∧ Hp S0 σ0 σ [Ch.ro 0 (Sl a13 x6.2.1 c14) x6.2.1, Ch.bx n0 b16 0 [(I x6.1), (Sl a13 x6.2.1 c14), (I x6.2.2)] [] [], Ch.ro 0 (Sl alist_0 list_0 clist_0) list_0]) ?_ ?_
        · clear h'
          rename _ = some o19 => h
          refine rg ?_
          have hc20 := H.cells 0 rfl
          refine st (v := (.agg #[(I x6.1), (Sl a13 x6.2.1 c14), (I x6.2.2)])) (rv_load (cs := [(I x6.1), (Sl a13 x6.2.1 c14), (I x6.2.2)]) Try.underlying31 rfl ti31 rfl rfl hc20) ?_
          obtain ⟨r21, hx22, h'⟩ := bind_some h
          clear h
          have h := h'; clear h'
          have hc23 := c_impl_validItem (ax_0_1 := a13) (cx_0_1 := c14) hx22
          refine st_call (cx_call hc23 (ent_f hc23.fn rfl) hn0 (show Hp S0 σ0 _ ([Ch.ro 0 (Sl a13 x6.2.1 c14) x6.2.1] ++ [Ch.bx n0 b16 0 [(I x6.1), (Sl a13 x6.2.1 c14), (I x6.2.2)] [] [], Ch.ro 0 (Sl a13 x6.2.1 c14) x6.2.1, Ch.ro 0 (Sl alist_0 list_0 clist_0) list_0]) from (H.sel' [1, 0, 1, 2] rfl rfl))) (wanted_none _ rfl _) ?_
          rintro _ σ24 ⟨_, ⟨rfl, rfl⟩, H, -⟩
          replace H : Hp S0 σ0 σ24 [Ch.bx n0 b16 0 [(I x6.1), (Sl a13 x6.2.1 c14), (I x6.2.2)] [] [], Ch.ro 0 (Sl a13 x6.2.1 c14) x6.2.1, Ch.ro 0 (Sl alist_0 list_0 clist_0) list_0] := H
          refine st (v := (B (!r21))) (rv_not rfl) ?_
          refine st (v := (B (!r21))) (rv_move rfl) ?_
          rcases Bool.eq_false_or_eq_true (!r21) with hb25 | hb25
          · replace h := bif_t hb25 h
            refine st_skip (congrArg some hb25) ?_
            refine st_skip (congrArg some hb25) ?_
            refine st_skip (congrArg some hb25) ?_
            refine st_skip (congrArg some hb25) ?_
            refine st (v := (B true)) (rv_pick_t (congrArg B hb25) rfl) ?_
            refine w_end ?_
            obtain rfl := Option.some.inj h
            exact ⟨rfl, _, σ24, fr_join ⟨rfl, rfl, rfl, rfl, rfl, trivial⟩, rfl, H.sel' [1, 0, 2] rfl rfl⟩
          · replace h := bif_f hb25 h
            refine st_g (v := (pt b16 0)) (congrArg some hb25) (rv_fieldAddr (off := 0) (ft := 3) Try.underlying31 rfl ti3 rfl rfl) ?_
            have hc26 := H.cell (u := (I x6.1)) (o' := 0) 0 0 rfl rfl rfl
            refine st_g (v := (I x6.1)) (congrArg some hb25) (rv_load1 Try.underlying3 rfl rfl hc26) ?_
            refine st_g (v := (I s3.1)) (congrArg some hb25) (rv_move rfl) ?_
            refine st_g (v := (B (decide (x6.1 ≤ s3.1)))) (congrArg some hb25) (rv_leq (a := x6.1) (b := s3.1) rfl rfl) ?_
            refine st (v := (B (decide (x6.1 ≤ s3.1)))) (rv_pick_f (congrArg B hb25) rfl) ?_
            refine w_end ?_
            obtain rfl := Option.some.inj h
            exact ⟨rfl, _, σ24, fr_join ⟨rfl, rfl, rfl, rfl, rfl, trivial⟩, rfl, H.sel' [1, 0, 2] rfl rfl⟩
        · clear hj
          have h := h'
          clear h' H
          rintro e a w ⟨rfl, ρ, σ27, rfl, rfl, H⟩
          refine q_then ?_
          refine cd_cond o19 rfl (fun hb28 => ?_) (fun hb28 => ?_)
          · replace h := bif_t hb28 h
            refine c_seq ?_
            refine rg ?_
            refine st (v := (B false)) (rv_assign rfl) ?_
            refine w_end ?_
            refine q_then ?_
            refine c_ret ?_
            refine q_then_r ?_
            refine q_blk_r ?_
            refine q_then_r ?_
            refine q_then_r ?_
            refine q_blk_r ?_
            obtain rfl := Option.some.inj h
            obtain rfl := hres _ rfl
            exact .inr (⟨_, rfl, rfl, _, σ27, fr_join ⟨rfl, trivial⟩, rfl, H.sel' [] rfl rfl⟩)
          · replace h := bif_f hb28 h
            refine c_skip ?_
            refine q_then ?_
            refine rg ?_
            refine st (v := (pt b16 0)) (rv_fieldAddr (off := 0) (ft := 3) Try.underlying31 rfl ti3 rfl rfl) ?_
            have hc29 := H.cell (u := (I x6.1)) (o' := 0) 1 0 rfl rfl rfl
            refine st (v := (I x6.1)) (rv_load1 Try.underlying3 rfl rfl hc29) ?_
            refine st (v := (I x6.1)) (rv_assign rfl) ?_
            refine w_end ?_
            refine q_blk ?_
            refine q_then ?_
            refine rg ?_
            refine st (v := (I (w64 (s3.2 + 1)))) (rv_add (a := s3.2) (b := 1) rfl rfl) ?_
            refine st (v := (I (w64 (s3.2 + 1)))) (rv_move rfl) ?_
            refine w_end ?_
            refine q_then ?_
            obtain rfl := Option.some.inj h
            exact ⟨_, rfl, _, σ27, fr_join ⟨rfl, rfl, rfl, rfl, trivial⟩, rfl, H.sel' [2] rfl rfl⟩
      · replace h := bif_f hb5 h
        refine c_exit ?_
        refine q_then_x ?_
        refine q_then_x ?_
        refine q_blk_hit ?_
        obtain rfl := Option.some.inj h
        obtain rfl := hres _ rfl
        exact .inl ⟨_, rfl, rfl, _, σ4, fr_join trivial, rfl, H.sel' [] rfl rfl⟩
    · clear hj
      have h := h'
      clear h' H
      rintro e a w (⟨t30, rfl, rfl, ρ, σ31, rfl, rfl, H⟩ | ⟨t32, rfl, rfl, ρ, σ33, rfl, rfl, H⟩)
      · replace h := selim_l h
        refine q_then ?_
        refine c_seq ?_
        refine rg ?_
        refine st (v := (B true)) (rv_assign rfl) ?_
        refine w_end ?_
        refine q_then ?_
        refine c_ret ?_
        obtain rfl := Option.some.inj h
        exact fin_ret (v := (B true)) (results_ok Try.results25 (res_tmp (v := (B true)) rfl res_nil) rfl) ⟨rfl, rfl⟩ (H.sel' [] rfl rfl)
      · replace h := selim_r h
        refine q_then_r ?_
        obtain rfl := Option.some.inj h
        exact fin_ret (v := (B t32)) (results_ok Try.results25 (res_tmp (v := (B t32)) rfl res_nil) rfl) ⟨rfl, rfl⟩ (H.sel' [] rfl rfl)

theorem c_impl_validKind {kind_0 : Int}  {r : Bool} (h : M.impl_validKind kind_0 = some r) :
    Cal2 Try.prog 85 [(I kind_0)] [] (fun n0 v L => v = (B r) ∧ L = []) := by
  refine cal2 (n := 9) Try.func85 rfl rfl rfl rfl ?_
  intro S0 σ0 n0 hn0 H
  unfold M.impl_validKind at h
  refine c_seq ?_
  refine rg ?_
  refine st (v := (B false)) (rv_assign rfl) ?_
  refine w_end ?_
  refine q_then ?_
  refine c_seq ?_
  refine rg ?_
  refine st (v := (I kind_0)) (rv_move rfl) ?_
  refine st (v := (B (decide (1 ≤ kind_0)))) (rv_geq (a := kind_0) (b := 1) rfl rfl) ?_
  refine st (v := (B (decide (1 ≤ kind_0)))) (rv_move rfl) ?_
  rcases Bool.eq_false_or_eq_true (decide (1 ≤ kind_0)) with hb1 | hb1
  · replace h := bif_t hb1 h
    refine st_g (v := (I kind_0)) (congrArg some hb1) (rv_move rfl) ?_
    refine st_g (v := (B (decide (kind_0 ≤ 4)))) (congrArg some hb1) (rv_leq (a := kind_0) (b := 4) rfl rfl) ?_
    refine st (v := (B (decide (kind_0 ≤ 4)))) (rv_pick_t (congrArg B hb1) rfl) ?_
    refine st (v := (B (decide (kind_0 ≤ 4)))) (rv_assign rfl) ?_
    refine w_end ?_
    refine q_then ?_
    refine c_ret ?_
    obtain rfl := Option.some.inj h
    exact fin_ret (v := (B (decide (kind_0 ≤ 4)))) (results_ok Try.results85 (res_tmp (v := (B (decide (kind_0 ≤ 4)))) rfl res_nil) rfl) ⟨rfl, rfl⟩ (H.sel' [] rfl rfl)
  · replace h := bif_f hb1 h
    refine st_skip (congrArg some hb1) ?_
    refine st_skip (congrArg some hb1) ?_
    refine st (v := (B false)) (rv_pick_f (congrArg B hb1) rfl) ?_
    refine st (v := (B false)) (rv_assign rfl) ?_
    refine w_end ?_
    refine q_then ?_
    refine c_ret ?_
    obtain rfl := Option.some.inj h
    exact fin_ret (v := (B false)) (results_ok Try.results85 (res_tmp (v := (B false)) rfl res_nil) rfl) ⟨rfl, rfl⟩ (H.sel' [] rfl rfl)

theorem c_impl_ClosestPair {list_0 : List (Int × (List Int) × Int)} {kind_1 : Int} {alist_0 : Option Addr} {clist_0 : Nat} {r : Int × Int × Bool} (h : M.impl_ClosestPair list_0 kind_1 = some r) :
    Cal2 Try.prog 30 [(Sl alist_0 list_0 clist_0), (I kind_1)] [Ch.ro 0 (Sl alist_0 list_0 clist_0) list_0] (fun n0 v L => v = (.tuple #[(I r.1), (I r.2.1), (B r.2.2)]) ∧ L = []) := by
  refine cal2 (n := 62) Try.func30 rfl rfl rfl rfl ?_
  intro S0 σ0 n0 hn0 H
  unfold M.impl_ClosestPair at h
  refine c_seq ?_
  refine rg ?_
  refine st (v := (I 0)) (rv_assign rfl) ?_
  refine st (v := (I 0)) (rv_assign rfl) ?_
  refine st (v := (B false)) (rv_assign rfl) ?_
  refine w_end ?_
  refine q_then ?_
  refine c_seq ?_
  refine c_seq ?_
  obtain ⟨o1, hj, h'⟩ := bind_some h
  clear h
  refine c_cut (fun e a w => e = .normal ∧ ∃ (ρ : Nat → Value) (σ : St), a = fr 62 (updL ρ [(0, (Sl alist_0 list_0 clist_0)), (1, (I kind_1)), (27, (B o1))]) ∧ w = σ.w ∧ Hp S0 σ0 σ [Ch.ro 0 (Sl alist_0 list_0 clist_0) list_0]) ?_ ?_
  · clear h'
    rename _ = some o1 => h
    refine rg ?_
    refine st (v := (Sl alist_0 list_0 clist_0)) (rv_move rfl) ?_
    obtain ⟨r2, hx3, h'⟩ := bind_some h
    clear h
    have h := h'; clear h'
    have hc4 := c_impl_ValidStore (alist_0 := alist_0) (clist_0 := clist_0) hx3
    refine st_call (cx_call hc4 (ent_f hc4.fn rfl) hn0 (show Hp S0 σ0 _ ([Ch.ro 0 (Sl alist_0 list_0 clist_0) list_0] ++ [Ch.ro 0 (Sl alist_0 list_0 clist_0) list_0]) from (H.sel' [0, 0] rfl rfl))) (wanted_none _ rfl _) ?_
    rintro _ σ5 ⟨_, ⟨rfl, rfl⟩, H, -⟩
    replace H : Hp S0 σ0 σ5 [Ch.ro 0 (Sl alist_0 list_0 clist_0) list_0] := H
    refine st (v := (B (!r2))) (rv_not rfl) ?_
    refine st (v := (B (!r2))) (rv_move rfl) ?_
    rcases Bool.eq_false_or_eq_true (!r2) with hb6 | hb6
    · replace h := bif_t hb6 h
      refine st_skip (congrArg some hb6) ?_
      refine st_skip (congrArg some hb6) ?_
      refine st_skip (congrArg some hb6) ?_
      refine st (v := (B true)) (rv_pick_t (congrArg B hb6) rfl) ?_
      refine st (v := (B true)) (rv_move rfl) ?_
      refine st_skip rfl ?_
      refine st_skip rfl ?_
      refine st_skip rfl ?_
      refine st (v := (B true)) (rv_pick_t rfl rfl) ?_
      refine w_end ?_
      obtain rfl := Option.some.inj h
      exact ⟨rfl, _, σ5, fr_join ⟨rfl, rfl, rfl, trivial⟩, rfl, H.sel' [0] rfl rfl⟩
    · replace h := bif_f hb6 h
      refine st_g (v := (I kind_1)) (congrArg some hb6) (rv_move rfl) ?_
      obtain ⟨r7, hx8, h'⟩ := bind_some h
      clear h
      have h := h'; clear h'
      have hc9 := c_impl_validKind hx8
      refine st_call (cx_call hc9 (ent_f hc9.fn rfl) hn0 (show Hp S0 σ0 _ ([] ++ [Ch.ro 0 (Sl alist_0 list_0 clist_0) list_0]) from (H.sel' [0] rfl rfl))) (wanted_yes rfl (by exact (congrArg some hb6))) ?_
      rintro _ σ10 ⟨_, ⟨rfl, rfl⟩, H, -⟩
      replace H : Hp S0 σ0 σ10 [Ch.ro 0 (Sl alist_0 list_0 clist_0) list_0] := H
      refine st_g (v := (B (!r7))) (congrArg some hb6) (rv_not rfl) ?_
      refine st (v := (B (!r7))) (rv_pick_f (congrArg B hb6) rfl) ?_
      refine st (v := (B (!r7))) (rv_move rfl) ?_
      rcases Bool.eq_false_or_eq_true (!r7) with hb11 | hb11
      · replace h := bif_t hb11 h
        refine st_skip (congrArg some hb11) ?_
        refine st_skip (congrArg some hb11) ?_
        refine st_skip (congrArg some hb11) ?_
        refine st (v := (B true)) (rv_pick_t (congrArg B hb11) rfl) ?_
        refine w_end ?_
        obtain rfl := Option.some.inj h
        exact ⟨rfl, _, σ10, fr_join ⟨rfl, rfl, rfl, trivial⟩, rfl, H.sel' [0] rfl rfl⟩
      · replace h := bif_f hb11 h
        refine st_g (v := (Sl alist_0 list_0 clist_0)) (congrArg some hb11) (rv_move rfl) ?_
        refine st_g (v := (I (list_0.length : Int))) (congrArg some hb11) (rv_len Try.underlying23 rfl) ?_
        refine st_g (v := (B (decide ((list_0.length : Int) < 2)))) (congrArg some hb11) (rv_lss (a := (list_0.length : Int)) (b := 2) rfl rfl) ?_
        refine st (v := (B (decide ((list_0.length : Int) < 2)))) (rv_pick_f (congrArg B hb11) rfl) ?_
        refine w_end ?_
        obtain rfl := Option.some.inj h
        exact ⟨rfl, _, σ10, fr_join ⟨rfl, rfl, rfl, trivial⟩, rfl, H.sel' [0] rfl rfl⟩
  · clear hj
    have h := h'
    clear h' H
    rintro e a w ⟨rfl, ρ, σ12, rfl, rfl, H⟩
    refine q_then ?_
    refine cd_cond o1 rfl (fun hb13 => ?_) (fun hb13 => ?_)
    · replace h := bif_t hb13 h
      refine c_seq ?_
      refine rg ?_
      refine st (v := (I 0)) (rv_assign rfl) ?_
      refine st (v := (I 0)) (rv_assign rfl) ?_
      refine st (v := (B false)) (rv_assign rfl) ?_
      refine w_end ?_
      refine q_then ?_
      refine c_ret ?_
      refine q_then_r ?_
      obtain rfl := Option.some.inj h
      exact fin_ret (v := (.tuple #[(I 0), (I 0), (B false)])) (results_ok Try.results30 (res_tmp (v := (I 0)) rfl (res_tmp (v := (I 0)) rfl (res_tmp (v := (B false)) rfl res_nil))) rfl) ⟨rfl, rfl⟩ (H.sel' [] rfl rfl)
    · replace h := bif_f hb13 h
      refine c_skip ?_
      refine q_then ?_
      refine c_seq ?_
      refine rg ?_
      refine st (v := (I 0)) (rv_assign rfl) ?_
      refine st (v := (I 0)) (rv_assign rfl) ?_
      refine st (v := (I 1000000)) (rv_assign rfl) ?_
      refine w_end ?_
      refine q_then ?_
      refine c_seq ?_
      refine c_seq ?_
      refine rg ?_
      refine st (v := (Sl alist_0 list_0 clist_0)) (rv_move rfl) ?_
      refine st (v := (I (list_0.length : Int))) (rv_len Try.underlying23 rfl) ?_
      refine st (v := (I 0)) (rv_move rfl) ?_
      refine w_end ?_
      refine q_then ?_
      obtain ⟨o14, hj, h'⟩ := bind_some h
      clear h
      refine c_cut (fun e a w => e = .normal ∧ ∃ (ρ : Nat → Value) (σ : St), a = fr 62 (updL ρ [(7, (I o14.1)), (8, (I o14.2))]) ∧ w = σ.w ∧ Hp S0 σ0 σ []) ?_ ?_
      · clear h'
        rename _ = some o14 => h
        refine c_blk ?_
        refine wp_loopM _ h (fun s15 a w => ∃ (ρ : Nat → Value) (σ : St), a = fr 62 (updL ρ [(0, (Sl alist_0 list_0 clist_0)), (1, (I kind_1)), (7, (I s15.1)), (8, (I s15.2.1)), (9, (I s15.2.2.1)), (28, (Sl alist_0 list_0 clist_0)), (29, (I (list_0.length : Int))), (30, (I s15.2.2.2))]) ∧ w = σ.w ∧ Hp S0 σ0 σ [Ch.ro 0 (Sl alist_0 list_0 clist_0) list_0]) ⟨_, σ12, fr_join ⟨rfl, rfl, rfl, rfl, rfl, rfl, rfl, rfl, trivial⟩, rfl, H.sel' [0] rfl rfl⟩ ?_
        clear h H
        rintro s15 a w o ⟨ρ, σ16, rfl, rfl, H⟩ h hres
        refine c_seq ?_
        refine rg ?_
        refine st (v := (B (decide (s15.2.2.2 < (list_0.length : Int))))) (rv_lss (a := s15.2.2.2) (b := (list_0.length : Int)) rfl rfl) ?_
        refine w_end ?_
        refine q_then ?_
        refine c_seq ?_
        refine cd_cond (decide (s15.2.2.2 < (list_0.length : Int))) rfl (fun hb17 => ?_) (fun hb17 => ?_)
        · replace h := bif_t hb17 h
          refine c_skip ?_
          refine q_then ?_
          refine c_seq ?_
          refine c_blk ?_
          refine c_seq ?_
          refine rg ?_
          refine st (v := (I s15.2.2.2)) (rv_move rfl) ?_
          obtain ⟨x18, hx19, h'⟩ := bind_some h
          clear h
          have h := h'; clear h'
          obtain ⟨b21, o22, hi20, -⟩ := (H.ro 0 rfl).ix hx19
          refine st (v := (pt b21 o22)) (rv_ix Try.underlying23 ti31 rfl rfl hi20) ?_
          obtain ⟨_, ⟨_, _, rfl, rfl, ⟨_, _, rfl, ⟨_, rfl, hR27⟩, rfl⟩⟩, hl23, hc24⟩ := ((H.ro 0 rfl).at hx19 hi20).cells
          obtain ⟨a25, c26, rfl⟩ := hR27.isSl
          replace H := H.add (d := Ch.ro 0 (Sl a25 x18.2.1 c26) x18.2.1) hR27 (fun _ h => h)
          clear hR27
          refine st (v := (.agg #[(I x18.1), (Sl a25 x18.2.1 c26), (I x18.2.2)])) (rv_load Try.underlying31 rfl ti31 rfl hl23 hc24) ?_
          refine st_ex (ex_alloc (cs := [(I 0), (.slice none 0 0), (I 0)]) H hn0 ti31 rfl) (wanted_none _ rfl _) ?_
          rintro _ σ29 ⟨b28, rfl, H, -⟩
          refine st (v := (I s15.2.2.2)) (rv_assign rfl) ?_
          refine st_exS (ex_store_box (k := 0) (cs := [(I 0), (.slice none 0 0), (I 0)]) (vs := [(I x18.1), (Sl a25 x18.2.1 c26), (I x18.2.2)]) (cs' := [(I x18.1), (Sl a25 x18.2.1 c26), (I x18.2.2)]) H (i := 0) rfl ti31 rfl rfl rfl rfl rfl (Nat.le_of_ble_eq_true rfl) (by simp [plain]) rfl) (wanted_none _ rfl _) ?_
          rintro σ30 ⟨H, -⟩
          refine w_end ?_
          refine q_then ?_
          refine c_seq ?_
          refine rg ?_
          refine st (v := (Sl alist_0 list_0 clist_0)) (rv_move rfl) ?_
          refine st (v := (I s15.2.2.2)) (rv_move rfl) ?_
          refine st (v := (I (w64 (s15.2.2.2 + 1)))) (rv_add (a := s15.2.2.2) (b := 1) rfl rfl) ?_
          obtain ⟨xs31, hx32, h'⟩ := bind_some h
          clear h
          have h := h'; clear h'
          obtain ⟨a33, c34, hs35, hR36⟩ := (H.ro 2 rfl).slice hx32
          replace H := H.add (d := Ch.ro 0 (Sl a33 xs31 c34) xs31) hR36 (fun _ h => h)
          clear hR36
          refine st (v := (Sl a33 xs31 c34)) (rv_slice_l Try.underlying23 ti31 hs35 rfl rfl) ?_
          refine st (v := (I (xs31.length : Int))) (rv_len Try.underlying23 rfl) ?_
          refine st (v := (I 0)) (rv_move rfl) ?_
          refine w_end ?_
          refine q_then ?_
          obtain ⟨o37, hj, h'⟩ := bind_some h
          clear h
          refine c_cut (fun e a w => e = .normal ∧ ∃ (ρ : Nat → Value) (σ : St), a = fr 62 (updL ρ [(0, (Sl alist_0 list_0 clist_0)), (1, (I kind_1)), (7, (I o37.1)), (8, (I o37.2.1)), (9, (I o37.2.2)), (28, (Sl alist_0 list_0 clist_0)), (29, (I (list_0.length : Int))), (30, (I s15.2.2.2))]) ∧ w = σ.w ∧ Hp S0 σ0 σ [Ch.ro 0 (Sl alist_0 list_0 clist_0) list_0]) ?_ ?_
          · clear h'
            rename _ = some o37 => h
            refine c_blk ?_
            refine wp_loopM _ h (fun s38 a w => ∃ (ρ : Nat → Value) (σ : St), a = fr 62 (updL ρ [(0, (Sl alist_0 list_0 clist_0)), (1, (I kind_1)), (7, (I s38.1)), (8, (I s38.2.1)), (9, (I s38.2.2.1)), (11, (pt b28 0)), (28, (Sl alist_0 list_0 clist_0)), (29, (I (list_0.length : Int))), (30, (I s15.2.2.2)), (38, (Sl a33 xs31 c34)), (39, (I (xs31.length : Int))), (40, (I s38.2.2.2))]) ∧ w = σ.w ∧ Hp S0 σ0 σ [Ch.ro 0 (Sl alist_0 list_0 clist_0) list_0, Ch.ro 0 (Sl a25 x18.2.1 c26) x18.2.1, Ch.bx n0 b28 0 [(I x18.1), (Sl a25 x18.2.1 c26), (I x18.2.2)] [] [], Ch.ro 0 (Sl a33 xs31 c34) xs31]) ⟨_, σ30, fr_join ⟨rfl, rfl, rfl, rfl, rfl, rfl, rfl, rfl, rfl, rfl, rfl, rfl, trivial⟩, rfl, H.sel' [3, 2, 1, 0] rfl rfl⟩ ?_
            clear h H
            rintro s38 a w o ⟨ρ, σ39, rfl, rfl, H⟩ h hres
            refine c_seq ?_
            refine rg ?_
            refine st (v := (B (decide (s38.2.2.2 < (xs31.length : Int))))) (rv_lss (a := s38.2.2.2) (b := (xs31.length : Int)) rfl rfl) ?_
            refine w_end ?_
            refine q_then ?_
            refine c_seq ?_
            refine cd_cond (decide (s38.2.2.2 < (xs31.length : Int))) rfl (fun hb40 => ?_) (fun hb40 => ?_)
            · replace h := bif_t hb40 h
              refine c_skip ?_
              refine q_then ?_
              refine c_seq ?_
              obtain ⟨o41, hj, h'⟩ := bind_some h
              clear h
              refine c_cut (fun e a w => e = .normal ∧ ∃ (ρ : Nat → Value) (σ : St), a = fr 62 (updL ρ [(0, (Sl alist_0 list_0 clist_0)), (1, (I kind_1)), (7, (I o41.1)), (8, (I o41.2.1)), (9, (I o41.2.2)), (11, (pt b28 0)), (28, (Sl alist_0 list_0 clist_0)), (29, (I (list_0.length : Int))), (30, (I s15.2.2.2)), (38, (Sl a33 xs31 c34)), (39, (I (xs31.length : Int))), (40, (I s38.2.2.2))]) ∧ w = σ.w ∧ Hp S0 σ0 σ [Ch.ro 0 (Sl alist_0 list_0 clist_0) list_0, Ch.ro 0 (Sl a25 x18.2.1 c26) x18.2.1, Ch.bx n0 b28 0 [(I x18.1), (Sl a25 x18.2.1 c26), (I x18.2.2)] [] [], Ch.ro 0 (Sl a33 xs31 c34) xs31]) ?_ ?_
              · clear h'
                rename _ = some o41 => h
                refine c_blk ?_
                refine c_seq ?_
                refine rg ?_
                obtain ⟨x42, hx43, h'⟩ := bind_some h
                clear h
                have h := h'; clear h'
                obtain ⟨b45, o46, hi44, -⟩ := (H.ro 3 rfl).ix hx43
                refine st (v := (pt b45 o46)) (rv_ix Try.underlying23 ti31 rfl rfl hi44) ?_
                obtain ⟨_, ⟨_, _, rfl, rfl, ⟨_, _, rfl, ⟨_, rfl, hR51⟩, rfl⟩⟩, hl47, hc48⟩ := ((H.ro 3 rfl).at hx43 hi44).cells
                obtain ⟨a49, c50, rfl⟩ := hR51.isSl
                replace H := H.add (d := Ch.ro 0 (Sl a49 x42.2.1 c50) x42.2.1) hR51 (fun _ h => h)
                clear hR51
                refine st (v := (.agg #[(I x42.1), (Sl a49 x42.2.1 c50), (I x42.2.2)])) (rv_load Try.underlying31 rfl ti31 rfl hl47 hc48) ?_
                refine st_ex (ex_alloc (cs := [(I 0), (.slice none 0 0), (I 0)]) H hn0 ti31 rfl) (wanted_none _ rfl _) ?_
                rintro _ σ53 ⟨b52, rfl, H, -⟩
                refine st_exS (ex_store_box (k := 0) (cs := [(I 0), (.slice none 0 0), (I 0)]) (vs := [(I x42.1), (Sl a49 x42.2.1 c50), (I x42.2.2)]) (cs' := [(I x42.1), (Sl a49 x42.2.1 c50), (I x42.2.2)]) H (i := 0) rfl ti31 rfl rfl rfl rfl rfl (Nat.le_of_ble_eq_true rfl) (by simp [plain]) rfl) (wanted_none _ rfl _) ?_
                rintro σ54 ⟨H, -⟩
                refine w_end ?_
                refine q_then ?_
                refine c_seq ?_
                refine rg ?_
                refine st (v := (I kind_1)) (rv_move rfl) ?_
                refine st (v := (pt b28 1)) (rv_fieldAddr (off := 1) (ft := 24) Try.underlying31 rfl ti24 rfl rfl) ?_
                have hc55 := H.cell (u := (Sl a25 x18.2.1 c26)) (o' := 1) 4 1 rfl rfl rfl
                refine st (v := (Sl a25 x18.2.1 c26)) (rv_load1 Try.underlying24 rfl rfl hc55) ?_
                refine st (v := (pt b52 1)) (rv_fieldAddr (off := 1) (ft := 24) Try.underlying31 rfl ti24 rfl rfl) ?_
                have hc56 := H.cell (u := (Sl a49 x42.2.1 c50)) (o' := 1) 0 1 rfl rfl rfl
                refine st (v := (Sl a49 x42.2.1 c50)) (rv_load1 Try.underlying24 rfl rfl hc56) ?_
                obtain ⟨r57, hx58, h'⟩ := bind_some h
                clear h
                have h := h'; clear h'
                have hc59 := c_impl_Distance (aa_1 := a25) (ca_1 := c26) (ab_2 := a49) (cb_2 := c50) hx58
                refine st_call (cx_call hc59 (ent_f hc59.fn rfl) hn0 (show Hp S0 σ0 _ ([Ch.ro 0 (Sl a25 x18.2.1 c26) x18.2.1, Ch.ro 0 (Sl a49 x42.2.1 c50) x42.2.1] ++ [Ch.bx n0 b52 0 [(I x42.1), (Sl a49 x42.2.1 c50), (I x42.2.2)] [] [], Ch.ro 0 (Sl a49 x42.2.1 c50) x42.2.1, Ch.ro 0 (Sl alist_0 list_0 clist_0) list_0, Ch.ro 0 (Sl a25 x18.2.1 c26) x18.2.1, Ch.bx n0 b28 0 [(I x18.1), (Sl a25 x18.2.1 c26), (I x18.2.2)] [] [], Ch.ro 0 (Sl a33 xs31 c34) xs31]) from (H.sel' [3, 1, 0, 1, 2, 3, 4, 5] rfl rfl))) (wanted_none _ rfl _) ?_
                rintro _ σ60 ⟨_, ⟨rfl, rfl⟩, H, -⟩
                replace H : Hp S0 σ0 σ60 [Ch.bx n0 b52 0 [(I x42.1), (Sl a49 x42.2.1 c50), (I x42.2.2)] [] [], Ch.ro 0 (Sl a49 x42.2.1 c50) x42.2.1, Ch.ro 0 (Sl alist_0 list_0 clist_0) list_0, Ch.ro 0 (Sl a25 x18.2.1 c26) x18.2.1, Ch.bx n0 b28 0 [(I x18.1), (Sl a25 x18.2.1 c26), (I x18.2.2)] [] [], Ch.ro 0 (Sl a33 xs31 c34) xs31] := H
                refine st (v := (I r57)) (rv_assign rfl) ?_
                refine w_end ?_
                refine q_then ?_
                refine c_seq ?_
                refine rg ?_
                refine st (v := (I r57)) (rv_move rfl) ?_
                refine st (v := (I s38.2.2.1)) (rv_move rfl) ?_
                refine st (v := (B (decide (r57 < s38.2.2.1)))) (rv_lss (a := r57) (b := s38.2.2.1) rfl rfl) ?_
                refine w_end ?_
                refine q_then ?_
                refine cd_cond (decide (r57 < s38.2.2.1)) rfl (fun hb61 => ?_) (fun hb61 => ?_)
                · replace h := bif_t hb61 h
                  have hc62 := H.cell (u := (I x18.1)) (o' := 0) 4 0 rfl rfl rfl
                  have hc63 := H.cell (u := (I x42.1)) (o' := 0) 0 0 rfl rfl rfl
                  have Hs := H
                  refine rg2 (σ := σ60) (Nm := Unit) 7 [] [[]] [[(0, 0)], [(0, 0)], [(0, 0)], [(0, 0)], [(0, 0)], [(0, 0)], [(0, 0)]] 0 [fun (_nm : Unit) => fun σm => Hp S0 σ0 σm [Ch.bx n0 b52 0 [(I x42.1), (Sl a49 x42.2.1 c50), (I x42.2.2)] [] [], Ch.ro 0 (Sl a49 x42.2.1 c50) x42.2.1, Ch.ro 0 (Sl alist_0 list_0 clist_0) list_0, Ch.ro 0 (Sl a25 x18.2.1 c26) x18.2.1, Ch.bx n0 b28 0 [(I x18.1), (Sl a25 x18.2.1 c26), (I x18.2.2)] [] [], Ch.ro 0 (Sl a33 xs31 c34) xs31] ∧ Md (cov []) σ60 σm] [fun (_nm : Unit) => (pt b28 0), fun (_nm : Unit) => (I x18.1), fun (_nm : Unit) => (pt b52 0), fun (_nm : Unit) => (I x42.1), fun (_nm : Unit) => (I r57), fun (_nm : Unit) => (I x18.1), fun (_nm : Unit) => (I x42.1)] () (by kernel_rfl) (by kernel_rfl) ?_ ?_ ?_
                  · intro σm m0
                    exact ⟨H.grow (m0.mono fun _ h => h.elim), m0⟩
                  · refine all_cons (obs_v rfl (by
                        intro k; intro _nm ρ σm hJ hoff hdep
                        have e11 : look 62 ρ 11 = (pt b28 0) := look_off (hoff 11 rfl) rfl
                        exact dp_v (v := (pt b28 0)) (wanted_none _ rfl _) (rv_fieldAddr (off := 0) (ft := 3) Try.underlying31 rfl ti3 rfl e11) rfl hJ)) ?_
                    refine all_cons (by
                        refine ⟨?_, ?_⟩
                        · intro _nm ρ σm hJ hoff hdep
                          have e53 : look 62 ρ 53 = (pt b28 0) := hdep 0 rfl rfl 53 rfl
                          obtain ⟨H, m⟩ := (show Hp S0 σ0 σm [Ch.bx n0 b52 0 [(I x42.1), (Sl a49 x42.2.1 c50), (I x42.2.2)] [] [], Ch.ro 0 (Sl a49 x42.2.1 c50) x42.2.1, Ch.ro 0 (Sl alist_0 list_0 clist_0) list_0, Ch.ro 0 (Sl a25 x18.2.1 c26) x18.2.1, Ch.bx n0 b28 0 [(I x18.1), (Sl a25 x18.2.1 c26), (I x18.2.2)] [] [], Ch.ro 0 (Sl a33 xs31 c34) xs31] ∧ Md (cov []) σ60 σm from hJ)
                          have hc62 := H.cell (u := (I x18.1)) (o' := 0) 4 0 rfl rfl rfl
                          exact dp_v (v := (I x18.1)) (wanted_none _ rfl _) (rv_load1 Try.underlying3 rfl e53 hc62) rfl hJ
                        trivial) ?_
                    refine all_cons (obs_v rfl (by
                        intro k; intro _nm ρ σm hJ hoff hdep
                        have e13 : look 62 ρ 13 = (pt b52 0) := look_off (hoff 13 rfl) rfl
                        exact dp_v (v := (pt b52 0)) (wanted_none _ rfl _) (rv_fieldAddr (off := 0) (ft := 3) Try.underlying31 rfl ti3 rfl e13) rfl hJ)) ?_
                    refine all_cons (by
                        refine ⟨?_, ?_⟩
                        · intro _nm ρ σm hJ hoff hdep
                          have e55 : look 62 ρ 55 = (pt b52 0) := hdep 2 rfl rfl 55 rfl
                          obtain ⟨H, m⟩ := (show Hp S0 σ0 σm [Ch.bx n0 b52 0 [(I x42.1), (Sl a49 x42.2.1 c50), (I x42.2.2)] [] [], Ch.ro 0 (Sl a49 x42.2.1 c50) x42.2.1, Ch.ro 0 (Sl alist_0 list_0 clist_0) list_0, Ch.ro 0 (Sl a25 x18.2.1 c26) x18.2.1, Ch.bx n0 b28 0 [(I x18.1), (Sl a25 x18.2.1 c26), (I x18.2.2)] [] [], Ch.ro 0 (Sl a33 xs31 c34) xs31] ∧ Md (cov []) σ60 σm from hJ)
                          have hc63 := H.cell (u := (I x42.1)) (o' := 0) 0 0 rfl rfl rfl
                          exact dp_v (v := (I x42.1)) (wanted_none _ rfl _) (rv_load1 Try.underlying3 rfl e55 hc63) rfl hJ
                        trivial) ?_
                    refine all_cons (obs_v rfl (by
                        intro k; intro _nm ρ σm hJ hoff hdep
                        have e14 : look 62 ρ 14 = (I r57) := look_off (hoff 14 rfl) rfl
                        exact dp_v (v := (I r57)) (wanted_none _ rfl _) (rv_move e14) rfl hJ)) ?_
                    refine all_cons (obs_v rfl (by
                        intro k; intro _nm ρ σm hJ hoff hdep
                        have e54 : look 62 ρ 54 = (I x18.1) := hdep 1 rfl rfl 54 rfl
                        exact dp_v (v := (I x18.1)) (wanted_none _ rfl _) (rv_assign e54) rfl hJ)) ?_
                    refine all_cons (obs_v rfl (by
                        intro k; intro _nm ρ σm hJ hoff hdep
                        have e56 : look 62 ρ 56 = (I x42.1) := hdep 3 rfl rfl 56 rfl
                        exact dp_v (v := (I x42.1)) (wanted_none _ rfl _) (rv_assign e56) rfl hJ)) ?_
                    exact all_nil
                  · intro _nm ρ σ64 hJ hoff hrel
                    have e0 : look 62 ρ 0 = (Sl alist_0 list_0 clist_0) := look_off (hoff 0 rfl) rfl
                    have e1 : look 62 ρ 1 = (I kind_1) := look_off (hoff 1 rfl) rfl
                    have e7 : look 62 ρ 7 = (I x18.1) := hrel 5 rfl 7 rfl
                    have e8 : look 62 ρ 8 = (I x42.1) := hrel 6 rfl 8 rfl
                    have e11 : look 62 ρ 11 = (pt b28 0) := look_off (hoff 11 rfl) rfl
                    have e28 : look 62 ρ 28 = (Sl alist_0 list_0 clist_0) := look_off (hoff 28 rfl) rfl
                    have e29 : look 62 ρ 29 = (I (list_0.length : Int)) := look_off (hoff 29 rfl) rfl
                    have e30 : look 62 ρ 30 = (I s15.2.2.2) := look_off (hoff 30 rfl) rfl
                    have e38 : look 62 ρ 38 = (Sl a33 xs31 c34) := look_off (hoff 38 rfl) rfl
                    have e39 : look 62 ρ 39 = (I (xs31.length : Int)) := look_off (hoff 39 rfl) rfl
                    have e40 : look 62 ρ 40 = (I s38.2.2.2) := look_off (hoff 40 rfl) rfl
                    have e57 : look 62 ρ 57 = (I r57) := hrel 4 rfl 57 rfl
                    obtain ⟨H, -⟩ := (show Hp S0 σ0 σ64 [Ch.bx n0 b52 0 [(I x42.1), (Sl a49 x42.2.1 c50), (I x42.2.2)] [] [], Ch.ro 0 (Sl a49 x42.2.1 c50) x42.2.1, Ch.ro 0 (Sl alist_0 list_0 clist_0) list_0, Ch.ro 0 (Sl a25 x18.2.1 c26) x18.2.1, Ch.bx n0 b28 0 [(I x18.1), (Sl a25 x18.2.1 c26), (I x18.2.2)] [] [], Ch.ro 0 (Sl a33 xs31 c34) xs31] ∧ Md (cov []) σ60 σ64 from hJ)
                    clear hJ Hs
                    rw [fr_lookL (L := [(0, (Sl alist_0 list_0 clist_0)), (1, (I kind_1)), (7, (I x18.1)), (8, (I x42.1)), (11, (pt b28 0)), (28, (Sl alist_0 list_0 clist_0)), (29, (I (list_0.length : Int))), (30, (I s15.2.2.2)), (38, (Sl a33 xs31 c34)), (39, (I (xs31.length : Int))), (40, (I s38.2.2.2)), (57, (I r57))]) ⟨e0, e1, e7, e8, e11, e28, e29, e30, e38, e39, e40, e57, trivial⟩]
                    clear hoff hrel e0 e1 e7 e8 e11 e28 e29 e30 e38 e39 e40 e57
                    refine st (v := (I r57)) (rv_assign rfl) ?_
                    refine w_end ?_
                    refine q_blk ?_
                    obtain rfl := Option.some.inj h
                    exact ⟨rfl, _, σ64, fr_join ⟨rfl, rfl, rfl, rfl, rfl, rfl, rfl, rfl, rfl, rfl, rfl, rfl, trivial⟩, rfl, H.sel' [2, 3, 4, 5] rfl rfl⟩
                · replace h := bif_f hb61 h
                  refine c_skip ?_
                  refine q_blk ?_
                  obtain rfl := Option.some.inj h
                  exact ⟨rfl, _, σ60, fr_join ⟨rfl, rfl, rfl, rfl, rfl, rfl, rfl, rfl, rfl, rfl, rfl, rfl, trivial⟩, rfl, H.sel' [2, 3, 4, 5] rfl rfl⟩
              · clear hj
                have h := h'
                clear h' H
                rintro e a w ⟨rfl, ρ, σ65, rfl, rfl, H⟩
                refine q_then ?_
                refine rg ?_
                refine st (v := (I (w64 (s38.2.2.2 + 1)))) (rv_add (a := s38.2.2.2) (b := 1) rfl rfl) ?_
                refine st (v := (I (w64 (s38.2.2.2 + 1)))) (rv_move rfl) ?_
                refine w_end ?_
                refine q_then ?_
                obtain rfl := Option.some.inj h
                exact ⟨_, rfl, _, σ65, fr_join ⟨rfl, rfl, rfl, rfl, rfl, rfl, rfl, rfl, rfl, rfl, rfl, rfl, trivial⟩, rfl, H.sel' [0, 1, 2, 3] rfl rfl⟩
            · replace h := bif_f hb40 h
              refine c_exit ?_
              refine q_then_x ?_
              refine q_then_x ?_
              refine q_blk_hit ?_
              obtain rfl := Option.some.inj h
              obtain rfl := hres _ rfl
              exact ⟨rfl, _, σ39, fr_join ⟨rfl, rfl, rfl, rfl, rfl, rfl, rfl, rfl, trivial⟩, rfl, H.sel' [0] rfl rfl⟩
          · clear hj
            have h := h'
            clear h' H
            rintro e a w ⟨rfl, ρ, σ66, rfl, rfl, H⟩
            refine q_blk ?_
            refine q_then ?_
            refine rg ?_
            refine st (v := (I (w64 (s15.2.2.2 + 1)))) (rv_add (a := s15.2.2.2) (b := 1) rfl rfl) ?_
            refine st (v := (I (w64 (s15.2.2.2 + 1)))) (rv_move rfl) ?_
            refine w_end ?_
            refine q_then ?_
            obtain rfl := Option.some.inj h
            exact ⟨_, rfl, _, σ66, fr_join ⟨rfl, rfl, rfl, rfl, rfl, rfl, rfl, rfl, trivial⟩, rfl, H.sel' [0] rfl rfl⟩
        · replace h := bif_f hb17 h
          refine c_exit ?_
          refine q_then_x ?_
          refine q_then_x ?_
          refine q_blk_hit ?_
          obtain rfl := Option.some.inj h
          obtain rfl := hres _ rfl
          exact ⟨rfl, _, σ16, fr_join ⟨rfl, rfl, trivial⟩, rfl, H.sel' [] rfl rfl⟩
      · clear hj
        have h := h'
        clear h' H
        rintro e a w ⟨rfl, ρ, σ67, rfl, rfl, H⟩
        refine q_then ?_
        refine c_seq ?_
        refine rg ?_
        refine st (v := (I o14.1)) (rv_move rfl) ?_
        refine st (v := (I o14.2)) (rv_move rfl) ?_
        refine st (v := (I o14.1)) (rv_assign rfl) ?_
        refine st (v := (I o14.2)) (rv_assign rfl) ?_
        refine st (v := (B true)) (rv_assign rfl) ?_
        refine w_end ?_
        refine q_then ?_
        refine c_ret ?_
        obtain rfl := Option.some.inj h
        exact fin_ret (v := (.tuple #[(I o14.1), (I o14.2), (B true)])) (results_ok Try.results30 (res_tmp (v := (I o14.1)) rfl (res_tmp (v := (I o14.2)) rfl (res_tmp (v := (B true)) rfl res_nil))) rfl) ⟨rfl, rfl⟩ (H.sel' [] rfl rfl)

theorem c_spec_inRange {n_0 : Int} {low_1 : Int} {high_2 : Int}  {r : Bool} (h : M.spec_inRange n_0 low_1 high_2 = some r) :
    Cal2 Try.prog 73 [(I n_0), (I low_1), (I high_2)] [] (fun n0 v L => v = (B r) ∧ L = []) := by
  refine cal2 (n := 15) Try.func73 rfl rfl rfl rfl ?_
  intro S0 σ0 n0 hn0 H
  unfold M.spec_inRange at h
  refine c_seq ?_
  refine rg ?_
  refine st (v := (B false)) (rv_assign rfl) ?_
  refine w_end ?_
  refine q_then ?_
  refine c_seq ?_
  refine rg ?_
  refine st (v := (I low_1)) (rv_move rfl) ?_
  refine st (v := (I n_0)) (rv_move rfl) ?_
  refine st (v := (B (decide (low_1 ≤ n_0)))) (rv_leq (a := low_1) (b := n_0) rfl rfl) ?_
  refine st (v := (B (decide (low_1 ≤ n_0)))) (rv_move rfl) ?_
  rcases Bool.eq_false_or_eq_true (decide (low_1 ≤ n_0)) with hb1 | hb1
  · replace h := bif_t hb1 h
    refine st_g (v := (I n_0)) (congrArg some hb1) (rv_move rfl) ?_
    refine st_g (v := (I high_2)) (congrArg some hb1) (rv_move rfl) ?_
    refine st_g (v := (B (decide (n_0 ≤ high_2)))) (congrArg some hb1) (rv_leq (a := n_0) (b := high_2) rfl rfl) ?_
    refine st (v := (B (decide (n_0 ≤ high_2)))) (rv_pick_t (congrArg B hb1) rfl) ?_
    refine st (v := (B (decide (n_0 ≤ high_2)))) (rv_assign rfl) ?_
    refine w_end ?_
    refine q_then ?_
    refine c_ret ?_
    obtain rfl := Option.some.inj h
    exact fin_ret (v := (B (decide (n_0 ≤ high_2)))) (results_ok Try.results73 (res_tmp (v := (B (decide (n_0 ≤ high_2)))) rfl res_nil) rfl) ⟨rfl, rfl⟩ (H.sel' [] rfl rfl)
  · replace h := bif_f hb1 h
    refine st_skip (congrArg some hb1) ?_
    refine st_skip (congrArg some hb1) ?_
    refine st_skip (congrArg some hb1) ?_
    refine st (v := (B false)) (rv_pick_f (congrArg B hb1) rfl) ?_
    refine st (v := (B false)) (rv_assign rfl) ?_
    refine w_end ?_
    refine q_then ?_
    refine c_ret ?_
    obtain rfl := Option.some.inj h
    exact fin_ret (v := (B false)) (results_ok Try.results73 (res_tmp (v := (B false)) rfl res_nil) rfl) ⟨rfl, rfl⟩ (H.sel' [] rfl rfl)

theorem c_spec_allIn {list_0 : List Int} {low_1 : Int} {high_2 : Int} {alist_0 : Option Addr} {clist_0 : Nat} {r : Bool} (h : M.spec_allIn list_0 low_1 high_2 = some r) :
    Cal2 Try.prog 114 [(Sl alist_0 list_0 clist_0), (I low_1), (I high_2)] [Ch.ro 0 (Sl alist_0 list_0 clist_0) list_0] (fun n0 v L => v = (B r) ∧ L = []) := by
  refine cal2 (n := 22) Try.func114 rfl rfl rfl rfl ?_
  intro S0 σ0 n0 hn0 H
  unfold M.spec_allIn at h
  refine c_seq ?_
  refine rg ?_
  refine st (v := (B false)) (rv_assign rfl) ?_
  refine w_end ?_
  refine q_then ?_
  refine c_seq ?_
  refine c_seq ?_
  refine rg ?_
  refine st (v := (I 0)) (rv_assign rfl) ?_
  refine w_end ?_
  refine q_then ?_
  obtain ⟨o1, hj, h'⟩ := bind_some h
  clear h
  refine c_cut (fun e a w => (∃ t, o1 = (.inl t) ∧ e = .normal ∧ ∃ (ρ : Nat → Value) (σ : St), a = fr 22 (updL ρ []) ∧ w = σ.w ∧ Hp S0 σ0 σ []) ∨ (∃ t, o1 = (.inr t) ∧ e = .ret ∧ ∃ (ρ : Nat → Value) (σ : St), a = fr 22 (updL ρ [(6, (B t))]) ∧ w = σ.w ∧ Hp S0 σ0 σ [])) ?_ ?_
  · clear h'
    rename _ = some o1 => h
    refine c_blk ?_
    refine wp_loopM _ h (fun s2 a w => ∃ (ρ : Nat → Value) (σ : St), a = fr 22 (updL ρ [(0, (Sl alist_0 list_0 clist_0)), (1, (I low_1)), (2, (I high_2)), (7, (I s2))]) ∧ w = σ.w ∧ Hp S0 σ0 σ [Ch.ro 0 (Sl alist_0 list_0 clist_0) list_0]) ⟨_, σ0, fr_join ⟨rfl, rfl, rfl, rfl, trivial⟩, rfl, H.sel' [0] rfl rfl⟩ ?_
    clear h H
    rintro s2 a w o ⟨ρ, σ3, rfl, rfl, H⟩ h hres
    refine c_seq ?_
    refine c_seq ?_
    refine rg ?_
    refine st (v := (I s2)) (rv_move rfl) ?_
    refine st (v := (Sl alist_0 list_0 clist_0)) (rv_move rfl) ?_
    refine st (v := (I (list_0.length : Int))) (rv_len Try.underlying24 rfl) ?_
    refine st (v := (B (decide (s2 < (list_0.length : Int))))) (rv_lss (a := s2) (b := (list_0.length : Int)) rfl rfl) ?_
    refine w_end ?_
    refine q_then ?_
    refine cd_cond (decide (s2 < (list_0.length : Int))) rfl (fun hb4 => ?_) (fun hb4 => ?_)
    · replace h := bif_t hb4 h
      refine c_skip ?_
      refine q_then ?_
      refine c_seq ?_
      refine c_blk ?_
      refine c_seq ?_
      refine rg ?_
      refine st (v := (Sl alist_0 list_0 clist_0)) (rv_move rfl) ?_
      refine st (v := (I s2)) (rv_move rfl) ?_
      obtain ⟨x5, hx6, h'⟩ := bind_some h
      clear h
      have h := h'; clear h'
      obtain ⟨b8, o9, hi7, -⟩ := (H.ro 0 rfl).ix hx6
      refine st (v := (pt b8 o9)) (rv_ix Try.underlying24 ti3 rfl rfl hi7) ?_
      have hc10 := ((H.ro 0 rfl).at hx6 hi7).int
      refine st (v := (I x5)) (rv_load1 Try.underlying3 rfl rfl hc10) ?_
      refine st (v := (I low_1)) (rv_move rfl) ?_
      refine st (v := (I high_2)) (rv_move rfl) ?_
      obtain ⟨r11, hx12, h'⟩ := bind_some h
      clear h
      have h := h'; clear h'
      have hc13 := c_spec_inRange hx12
      refine st_call (cx_call hc13 (ent_f hc13.fn rfl) hn0 (show Hp S0 σ0 _ ([] ++ [Ch.ro 0 (Sl alist_0 list_0 clist_0) list_0]) from (H.sel' [0] rfl rfl))) (wanted_none _ rfl _) ?_
      rintro _ σ14 ⟨_, ⟨rfl, rfl⟩, H, -⟩
      replace H : Hp S0 σ0 σ14 [Ch.ro 0 (Sl alist_0 list_0 clist_0) list_0] := H
      refine st (v := (B (!r11))) (rv_not rfl) ?_
      refine w_end ?_
      refine q_then ?_
      refine cd_cond (!r11) rfl (fun hb15 => ?_) (fun hb15 => ?_)
      · replace h := bif_t hb15 h
        refine c_seq ?_
        refine rg ?_
        refine st (v := (B false)) (rv_assign rfl) ?_
        refine w_end ?_
        refine q_then ?_
        refine c_ret ?_
        refine q_blk_r ?_
        refine q_then_r ?_
        refine q_then_r ?_
        refine q_blk_r ?_
        obtain rfl := Option.some.inj h
        obtain rfl := hres _ rfl
        exact .inr (⟨_, rfl, rfl, _, σ14, fr_join ⟨rfl, trivial⟩, rfl, H.sel' [] rfl rfl⟩)
      · replace h := bif_f hb15 h
        refine c_skip ?_
        refine q_blk ?_
        refine q_then ?_
        refine rg ?_
        refine st (v := (I s2)) (rv_move rfl) ?_
        refine st (v := (I (w64 (s2 + 1)))) (rv_add (a := s2) (b := 1) rfl rfl) ?_
        refine st (v := (I (w64 (s2 + 1)))) (rv_assign rfl) ?_
        refine w_end ?_
        refine q_then ?_
        obtain rfl := Option.some.inj h
        exact ⟨_, rfl, _, σ14, fr_join ⟨rfl, rfl, rfl, rfl, trivial⟩, rfl, H.sel' [0] rfl rfl⟩
    · replace h := bif_f hb4 h
      refine c_exit ?_
      refine q_then_x ?_
      refine q_then_x ?_
      refine q_blk_hit ?_
      obtain rfl := Option.some.inj h
      obtain rfl := hres _ rfl
      exact .inl ⟨_, rfl, rfl, _, σ3, fr_join trivial, rfl, H.sel' [] rfl rfl⟩
  · clear hj
    have h := h'
    clear h' H
    rintro e a w (⟨t16, rfl, rfl, ρ, σ17, rfl, rfl, H⟩ | ⟨t18, rfl, rfl, ρ, σ19, rfl, rfl, H⟩)
    · replace h := selim_l h
      refine q_then ?_
      refine c_seq ?_
      refine rg ?_
      refine st (v := (B true)) (rv_assign rfl) ?_
      refine w_end ?_
      refine q_then ?_
      refine c_ret ?_
      obtain rfl := Option.some.inj h
      exact fin_ret (v := (B true)) (results_ok Try.results114 (res_tmp (v := (B true)) rfl res_nil) rfl) ⟨rfl, rfl⟩ (H.sel' [] rfl rfl)
    · replace h := selim_r h
      refine q_then_r ?_
      obtain rfl := Option.some.inj h
      exact fin_ret (v := (B t18)) (results_ok Try.results114 (res_tmp (v := (B t18)) rfl res_nil) rfl) ⟨rfl, rfl⟩ (H.sel' [] rfl rfl)

theorem c_spec_isVector {v_0 : List Int} {av_0 : Option Addr} {cv_0 : Nat} {r : Bool} (h : M.spec_isVector v_0 = some r) :
    Cal2 Try.prog 81 [(Sl av_0 v_0 cv_0)] [Ch.ro 0 (Sl av_0 v_0 cv_0) v_0] (fun n0 v L => v = (B r) ∧ L = []) := by
  refine cal2 (n := 10) Try.func81 rfl rfl rfl rfl ?_
  intro S0 σ0 n0 hn0 H
  unfold M.spec_isVector at h
  refine c_seq ?_
  refine rg ?_
  refine st (v := (B false)) (rv_assign rfl) ?_
  refine w_end ?_
  refine q_then ?_
  refine c_seq ?_
  refine rg ?_
  refine st (v := (Sl av_0 v_0 cv_0)) (rv_move rfl) ?_
  refine st (v := (I (v_0.length : Int))) (rv_len Try.underlying24 rfl) ?_
  refine st (v := (B ((v_0.length : Int) == 4))) (rv_eql (a := (v_0.length : Int)) (b := 4) rfl rfl) ?_
  refine st (v := (B ((v_0.length : Int) == 4))) (rv_move rfl) ?_
  rcases Bool.eq_false_or_eq_true ((v_0.length : Int) == 4) with hb1 | hb1
  · replace h := bif_t hb1 h
    refine st_g (v := (Sl av_0 v_0 cv_0)) (congrArg some hb1) (rv_move rfl) ?_
    obtain ⟨r2, hx3, h'⟩ := bind_some h
    clear h
    have h := h'; clear h'
    have hc4 := c_spec_allIn (alist_0 := av_0) (clist_0 := cv_0) hx3
    refine st_call (cx_call hc4 (ent_f hc4.fn rfl) hn0 (show Hp S0 σ0 _ ([Ch.ro 0 (Sl av_0 v_0 cv_0) v_0] ++ [Ch.ro 0 (Sl av_0 v_0 cv_0) v_0]) from (H.sel' [0, 0] rfl rfl))) (wanted_yes rfl (by exact (congrArg some hb1))) ?_
    rintro _ σ5 ⟨_, ⟨rfl, rfl⟩, H, -⟩
    replace H : Hp S0 σ0 σ5 [Ch.ro 0 (Sl av_0 v_0 cv_0) v_0] := H
    refine st (v := (B r2)) (rv_pick_t (congrArg B hb1) rfl) ?_
    refine st (v := (B r2)) (rv_assign rfl) ?_
    refine w_end ?_
    refine q_then ?_
    refine c_ret ?_
    obtain rfl := Option.some.inj h
    exact fin_ret (v := (B r2)) (results_ok Try.results81 (res_tmp (v := (B r2)) rfl res_nil) rfl) ⟨rfl, rfl⟩ (H.sel' [] rfl rfl)
  · replace h := bif_f hb1 h
    refine st_skip (congrArg some hb1) ?_
    refine st_skip (congrArg some hb1) ?_
    refine st (v := (B false)) (rv_pick_f (congrArg B hb1) rfl) ?_
    refine st (v := (B false)) (rv_assign rfl) ?_
    refine w_end ?_
    refine q_then ?_
    refine c_ret ?_
    obtain rfl := Option.some.inj h
    exact fin_ret (v := (B false)) (results_ok Try.results81 (res_tmp (v := (B false)) rfl res_nil) rfl) ⟨rfl, rfl⟩ (H.sel' [] rfl rfl)

theorem c_spec_validItem {x_0 : Int × (List Int) × Int} {ax_0_1 : Option Addr} {cx_0_1 : Nat} {r : Bool} (h : M.spec_validItem x_0 = some r) :
    Cal2 Try.prog 94 [(.agg #[(I x_0.1), (Sl ax_0_1 x_0.2.1 cx_0_1), (I x_0.2.2)])] [Ch.ro 0 (Sl ax_0_1 x_0.2.1 cx_0_1) x_0.2.1] (fun n0 v L => v = (B r) ∧ L = []) := by
  refine cal2 (n := 16) Try.func94 rfl rfl rfl rfl ?_
  intro S0 σ0 n0 hn0 H
  unfold M.spec_validItem at h
  refine c_seq ?_
  refine rg ?_
  refine st_ex (ex_box (cs := [(I x_0.1), (Sl ax_0_1 x_0.2.1 cx_0_1), (I x_0.2.2)]) H hn0 rfl rfl) (wanted_none _ rfl _) ?_
  rintro _ σ2 ⟨b1, rfl, H, -⟩
  refine st (v := (B false)) (rv_assign rfl) ?_
  refine w_end ?_
  refine q_then ?_
  refine c_seq ?_
  refine rg ?_
  refine st (v := (pt b1 0)) (rv_fieldAddr (off := 0) (ft := 3) Try.underlying31 rfl ti3 rfl rfl) ?_
  have hc3 := H.cell (u := (I x_0.1)) (o' := 0) 0 0 rfl rfl rfl
  refine st (v := (I x_0.1)) (rv_load1 Try.underlying3 rfl rfl hc3) ?_
  obtain ⟨r4, hx5, h'⟩ := bind_some h
  clear h
  have h := h'; clear h'
  have hc6 := c_spec_inRange hx5
  refine st_call (cx_call hc6 (ent_f hc6.fn rfl) hn0 (show Hp S0 σ0 _ ([] ++ [Ch.bx n0 b1 0 [(I x_0.1), (Sl ax_0_1 x_0.2.1 cx_0_1), (I x_0.2.2)] [] [], Ch.ro 0 (Sl ax_0_1 x_0.2.1 cx_0_1) x_0.2.1]) from (H.sel' [0, 1] rfl rfl))) (wanted_none _ rfl _) ?_
  rintro _ σ7 ⟨_, ⟨rfl, rfl⟩, H, -⟩
  replace H : Hp S0 σ0 σ7 [Ch.bx n0 b1 0 [(I x_0.1), (Sl ax_0_1 x_0.2.1 cx_0_1), (I x_0.2.2)] [] [], Ch.ro 0 (Sl ax_0_1 x_0.2.1 cx_0_1) x_0.2.1] := H
  refine st (v := (B r4)) (rv_move rfl) ?_
  rcases Bool.eq_false_or_eq_true r4 with hb8 | hb8
  · replace h := bif_t hb8 h
    refine st_g (v := (pt b1 1)) (congrArg some hb8) (rv_fieldAddr (off := 1) (ft := 24) Try.underlying31 rfl ti24 rfl rfl) ?_
    have hc9 := H.cell (u := (Sl ax_0_1 x_0.2.1 cx_0_1)) (o' := 1) 0 1 rfl rfl rfl
    refine st_g (v := (Sl ax_0_1 x_0.2.1 cx_0_1)) (congrArg some hb8) (rv_load1 Try.underlying24 rfl rfl hc9) ?_
    obtain ⟨r10, hx11, h'⟩ := bind_some h
    clear h
    have h := h'; clear h'
    have hc12 := c_spec_isVector (av_0 := ax_0_1) (cv_0 := cx_0_1) hx11
    refine st_call (cx_call hc12 (ent_f hc12.fn rfl) hn0 (show Hp S0 σ0 _ ([Ch.ro 0 (Sl ax_0_1 x_0.2.1 cx_0_1) x_0.2.1] ++ [Ch.bx n0 b1 0 [(I x_0.1), (Sl ax_0_1 x_0.2.1 cx_0_1), (I x_0.2.2)] [] [], Ch.ro 0 (Sl ax_0_1 x_0.2.1 cx_0_1) x_0.2.1]) from (H.sel' [1, 0, 1] rfl rfl))) (wanted_yes rfl (by exact (congrArg some hb8))) ?_
    rintro _ σ13 ⟨_, ⟨rfl, rfl⟩, H, -⟩
    replace H : Hp S0 σ0 σ13 [Ch.bx n0 b1 0 [(I x_0.1), (Sl ax_0_1 x_0.2.1 cx_0_1), (I x_0.2.2)] [] [], Ch.ro 0 (Sl ax_0_1 x_0.2.1 cx_0_1) x_0.2.1] := H
    refine st (v := (B r10)) (rv_pick_t (congrArg B hb8) rfl) ?_
    refine st (v := (B r10)) (rv_move rfl) ?_
    rcases Bool.eq_false_or_eq_true r10 with hb14 | hb14
    · replace h := bif_t hb14 h
      refine st_g (v := (pt b1 2)) (congrArg some hb14) (rv_fieldAddr (off := 2) (ft := 3) Try.underlying31 rfl ti3 rfl rfl) ?_
      have hc15 := H.cell (u := (I x_0.2.2)) (o' := 2) 0 2 rfl rfl rfl
      refine st_g (v := (I x_0.2.2)) (congrArg some hb14) (rv_load1 Try.underlying3 rfl rfl hc15) ?_
      obtain ⟨r16, hx17, h'⟩ := bind_some h
      clear h
      have h := h'; clear h'
      have hc18 := c_spec_inRange hx17
      refine st_call (cx_call hc18 (ent_f hc18.fn rfl) hn0 (show Hp S0 σ0 _ ([] ++ [Ch.bx n0 b1 0 [(I x_0.1), (Sl ax_0_1 x_0.2.1 cx_0_1), (I x_0.2.2)] [] [], Ch.ro 0 (Sl ax_0_1 x_0.2.1 cx_0_1) x_0.2.1]) from (H.sel' [0, 1] rfl rfl))) (wanted_yes rfl (by exact (congrArg some hb14))) ?_
      rintro _ σ19 ⟨_, ⟨rfl, rfl⟩, H, -⟩
      replace H : Hp S0 σ0 σ19 [Ch.bx n0 b1 0 [(I x_0.1), (Sl ax_0_1 x_0.2.1 cx_0_1), (I x_0.2.2)] [] [], Ch.ro 0 (Sl ax_0_1 x_0.2.1 cx_0_1) x_0.2.1] := H
      refine st (v := (B r16)) (rv_pick_t (congrArg B hb14) rfl) ?_
      refine st (v := (B r16)) (rv_assign rfl) ?_
      refine w_end ?_
      refine q_then ?_
      refine c_ret ?_
      obtain rfl := Option.some.inj h
      exact fin_ret (v := (B r16)) (results_ok Try.results94 (res_tmp (v := (B r16)) rfl res_nil) rfl) ⟨rfl, rfl⟩ (H.sel' [] rfl rfl)
    · replace h := bif_f hb14 h
      refine st_skip (congrArg some hb14) ?_
      refine st_skip (congrArg some hb14) ?_
      refine st_skip (congrArg some hb14) ?_
      refine st (v := (B false)) (rv_pick_f (congrArg B hb14) rfl) ?_
      refine st (v := (B false)) (rv_assign rfl) ?_
      refine w_end ?_
      refine q_then ?_
      refine c_ret ?_
      obtain rfl := Option.some.inj h
      exact fin_ret (v := (B false)) (results_ok Try.results94 (res_tmp (v := (B false)) rfl res_nil) rfl) ⟨rfl, rfl⟩ (H.sel' [] rfl rfl)
  · replace h := bif_f hb8 h
    refine st_skip (congrArg some hb8) ?_
    refine st_skip (congrArg some hb8) ?_
    refine st_skip (congrArg some hb8) ?_
    refine st (v := (B false)) (rv_pick_f (congrArg B hb8) rfl) ?_
    refine st (v := (B false)) (rv_move rfl) ?_
    refine st_skip rfl ?_
    refine st_skip rfl ?_
    refine st_skip rfl ?_
    refine st (v := (B false)) (rv_pick_f rfl rfl) ?_
    refine st (v := (B false)) (rv_assign rfl) ?_
    refine w_end ?_
    refine q_then ?_
    refine c_ret ?_
    obtain rfl := Option.some.inj h
    exact fin_ret (v := (B false)) (results_ok Try.results94 (res_tmp (v := (B false)) rfl res_nil) rfl) ⟨rfl, rfl⟩ (H.sel' [] rfl rfl)

theorem c_spec_validStore {list_0 : List (Int × (List Int) × Int)} {alist_0 : Option Addr} {clist_0 : Nat} {r : Bool} (h : M.spec_validStore list_0 = some r) :
    Cal2 Try.prog 80 [(Sl alist_0 list_0 clist_0)] [Ch.ro 0 (Sl alist_0 list_0 clist_0) list_0] (fun n0 v L => v = (B r) ∧ L = []) := by
  refine cal2 (n := 37) Try.func80 rfl rfl rfl rfl ?_
  intro S0 σ0 n0 hn0 H
  unfold M.spec_validStore at h
  refine c_seq ?_
  refine rg ?_
  refine st (v := (B false)) (rv_assign rfl) ?_
  refine w_end ?_
  refine q_then ?_
  refine c_seq ?_
  refine c_seq ?_
  refine rg ?_
  refine st (v := (I 0)) (rv_assign rfl) ?_
  refine w_end ?_
  refine q_then ?_
  obtain ⟨o1, hj, h'⟩ := bind_some h
  clear h
  refine c_cut (fun e a w => (∃ t, o1 = (.inl t) ∧ e = .normal ∧ ∃ (ρ : Nat → Value) (σ : St), a = fr 37 (updL ρ [(0, (Sl alist_0 list_0 clist_0))]) ∧ w = σ.w ∧ Hp S0 σ0 σ [Ch.ro 0 (Sl alist_0 list_0 clist_0) list_0]) ∨ (∃ t, o1 = (.inr t) ∧ e = .ret ∧ ∃ (ρ : Nat → Value) (σ : St), a = fr 37 (updL ρ [(2, (B t))]) ∧ w = σ.w ∧ Hp S0 σ0 σ [])) ?_ ?_
  · clear h'
    rename _ = some o1 => h
    refine c_blk ?_
    refine wp_loopM _ h (fun s2 a w => ∃ (ρ : Nat → Value) (σ : St), a = fr 37 (updL ρ [(0, (Sl alist_0 list_0 clist_0)), (3, (I s2))]) ∧ w = σ.w ∧ Hp S0 σ0 σ [Ch.ro 0 (Sl alist_0 list_0 clist_0) list_0]) ⟨_, σ0, fr_join ⟨rfl, rfl, trivial⟩, rfl, H.sel' [0] rfl rfl⟩ ?_
    clear h H
    rintro s2 a w o ⟨ρ, σ3, rfl, rfl, H⟩ h hres
    refine c_seq ?_
    refine c_seq ?_
    refine rg ?_
    refine st (v := (I s2)) (rv_move rfl) ?_
    refine st (v := (Sl alist_0 list_0 clist_0)) (rv_move rfl) ?_
    refine st (v := (I (list_0.length : Int))) (rv_len Try.underlying23 rfl) ?_
    refine st (v := (B (decide (s2 < (list_0.length : Int))))) (rv_lss (a := s2) (b := (list_0.length : Int)) rfl rfl) ?_
    refine w_end ?_
    refine q_then ?_
    refine cd_cond (decide (s2 < (list_0.length : Int))) rfl (fun hb4 => ?_) (fun hb4 => ?_)
    · replace h := bif_t hb4 h
      refine c_skip ?_
      refine q_then ?_
      refine c_seq ?_
      refine c_blk ?_
      refine c_seq ?_
      obtain ⟨o5, hj, h'⟩ := bind_some h
      clear h
      refine c_cut (fun e a w => e = .normal ∧ ∃ (ρ : Nat → Value) (σ : St), a = fr 37 (updL ρ [(0, (Sl alist_0 list_0 clist_0)), (3, (I s2)), (33, (B o5))]) ∧ w = σ.w ∧ Hp S0 σ0 σ [Ch.ro 0 (Sl alist_0 list_0 clist_0) list_0]) ?_ ?_
      · clear h'
        rename _ = some o5 => h
        obtain ⟨x6, hx7, h'⟩ := bind_some h
        clear h
        have h := h'; clear h'
        obtain ⟨b9, o10, hi8, -⟩ := (H.ro 0 rfl).ix hx7
        obtain ⟨_, ⟨_, _, rfl, rfl, ⟨_, _, rfl, ⟨_, rfl, hR15⟩, rfl⟩⟩, hl11, hc12⟩ := ((H.ro 0 rfl).at hx7 hi8).cells
        obtain ⟨a13, c14, rfl⟩ := hR15.isSl
        replace H := H.add (d := Ch.ro 0 (Sl a13 x6.2.1 c14) x6.2.1) hR15 (fun _ h => h)
        clear hR15
        obtain ⟨r16, hx17, h'⟩ := bind_some h
        clear h
        have h := h'; clear h'
        have hc18 := c_spec_validItem (ax_0_1 := a13) (cx_0_1 := c14) hx17
        rcases Bool.eq_false_or_eq_true (!r16) with hb19 | hb19
        · replace h := bif_t hb19 h
          have Hs := H
          refine rg2 (σ := σ3) (Nm := Unit) 21 [4] [[false], [true]] [[(0, 0)], [(0, 0)], [(0, 0)], [(0, 0)], [(0, 1)], [(1, 1)], [(1, 1)], [(1, 1)], [(1, 1)], [(1, 1)], [(1, 1)], [(1, 1)], [(1, 1)], [(1, 1)], [(1, 1)], [(1, 1)], [(1, 1)], [(1, 1)], [(1, 1)], [(1, 1)], [(1, 1)]] 1 [fun (_nm : Unit) => fun σm => Hp S0 σ0 σm [Ch.ro 0 (Sl a13 x6.2.1 c14) x6.2.1, Ch.ro 0 (Sl alist_0 list_0 clist_0) list_0] ∧ Md (cov []) σ3 σm, fun (_nm : Unit) => fun σm => Hp S0 σ0 σm [Ch.ro 0 (Sl a13 x6.2.1 c14) x6.2.1, Ch.ro 0 (Sl alist_0 list_0 clist_0) list_0] ∧ Md (cov []) σ3 σm] [fun (_nm : Unit) => (Sl alist_0 list_0 clist_0), fun (_nm : Unit) => (I s2), fun (_nm : Unit) => (pt b9 o10), fun (_nm : Unit) => (.agg #[(I x6.1), (Sl a13 x6.2.1 c14), (I x6.2.2)]), fun (_nm : Unit) => (B r16), fun (_nm : Unit) => (B (!r16)), fun (_nm : Unit) => (B (!r16)), fun (_nm : Unit) => undef, fun (_nm : Unit) => undef, fun (_nm : Unit) => undef, fun (_nm : Unit) => undef, fun (_nm : Unit) => undef, fun (_nm : Unit) => undef, fun (_nm : Unit) => undef, fun (_nm : Unit) => undef, fun (_nm : Unit) => undef, fun (_nm : Unit) => undef, fun (_nm : Unit) => undef, fun (_nm : Unit) => undef, fun (_nm : Unit) => undef, fun (_nm : Unit) => undef] () (by kernel_rfl) (by kernel_rfl) ?_ ?_ ?_
          · intro σm m0
            exact ⟨H.grow (m0.mono fun _ h => h.elim), m0⟩
          · refine all_cons (obs_v rfl (by
                intro k; intro _nm ρ σm hJ hoff hdep
                have e0 : look 37 ρ 0 = (Sl alist_0 list_0 clist_0) := look_off (hoff 0 rfl) rfl
                exact dp_v (v := (Sl alist_0 list_0 clist_0)) (wanted_none _ rfl _) (rv_move e0) rfl hJ)) ?_
            refine all_cons (obs_v rfl (by
                intro k; intro _nm ρ σm hJ hoff hdep
                have e3 : look 37 ρ 3 = (I s2) := look_off (hoff 3 rfl) rfl
                exact dp_v (v := (I s2)) (wanted_none _ rfl _) (rv_move e3) rfl hJ)) ?_
            refine all_cons (obs_v rfl (by
                intro k; intro _nm ρ σm hJ hoff hdep
                have e10 : look 37 ρ 10 = (Sl alist_0 list_0 clist_0) := hdep 0 rfl rfl 10 rfl
                have e11 : look 37 ρ 11 = (I s2) := hdep 1 rfl rfl 11 rfl
                exact dp_v (v := (pt b9 o10)) (wanted_none _ rfl _) (rv_ix Try.underlying23 ti31 e10 e11 hi8) rfl hJ)) ?_
            refine all_cons (by
                refine ⟨?_, ?_⟩
                · intro _nm ρ σm hJ hoff hdep
                  have e12 : look 37 ρ 12 = (pt b9 o10) := hdep 2 rfl rfl 12 rfl
                  obtain ⟨H, m⟩ := (show Hp S0 σ0 σm [Ch.ro 0 (Sl a13 x6.2.1 c14) x6.2.1, Ch.ro 0 (Sl alist_0 list_0 clist_0) list_0] ∧ Md (cov []) σ3 σm from hJ)
                  replace hc12 := fun j hj => (Hs.ro 1 rfl).hmd hx7 hi8 (k := j) (Nat.lt_of_lt_of_eq hj hl11) (hc12 j hj) m
                  exact dp_v (v := (.agg #[(I x6.1), (Sl a13 x6.2.1 c14), (I x6.2.2)])) (wanted_none _ rfl _) (rv_load Try.underlying31 rfl ti31 e12 hl11 hc12) rfl hJ
                trivial) ?_
            refine all_cons (by
                refine ⟨?_, ?_⟩
                · intro _nm ρ σm hJ hoff hdep
                  have e13 : look 37 ρ 13 = (.agg #[(I x6.1), (Sl a13 x6.2.1 c14), (I x6.2.2)]) := hdep 3 rfl rfl 13 rfl
                  obtain ⟨H, m⟩ := (show Hp S0 σ0 σm [Ch.ro 0 (Sl a13 x6.2.1 c14) x6.2.1, Ch.ro 0 (Sl alist_0 list_0 clist_0) list_0] ∧ Md (cov []) σ3 σm from hJ)
                  refine dp_cx (wanted_none _ rfl _) (cx_call hc18 (ent_f hc18.fn (by show [look 37 ρ 13] = _; rw [e13])) hn0 (show Hp S0 σ0 _ ([Ch.ro 0 (Sl a13 x6.2.1 c14) x6.2.1] ++ [Ch.ro 0 (Sl a13 x6.2.1 c14) x6.2.1, Ch.ro 0 (Sl alist_0 list_0 clist_0) list_0]) from (H.sel' [0, 0, 1] rfl rfl))) ?_
                  rintro _ σq ⟨_, ⟨rfl, rfl⟩, H2, m2⟩
                  exact ⟨_, (), rfl, rfl, ⟨H2.sel' [0, 1] rfl rfl, m.comp0 (m2.mono (fun i h => by simp [cov, Ch.ro] at h))⟩, stab [0, 1, 2, 3] (by kernel_rfl) ⟨rfl, rfl, rfl, rfl, trivial⟩⟩
                trivial) ?_
            refine all_cons (obs_v rfl (by
                intro k; intro _nm ρ σm hJ hoff hdep
                have e14 : look 37 ρ 14 = (B r16) := hdep 4 rfl rfl 14 rfl
                exact dp_v (v := (B (!r16))) (wanted_none _ rfl _) (rv_not e14) rfl hJ)) ?_
            refine all_cons (obs_v rfl (by
                intro k; intro _nm ρ σm hJ hoff hdep
                have e15 : look 37 ρ 15 = (B (!r16)) := hdep 5 rfl rfl 15 rfl
                exact dp_v (v := (B (!r16))) (wanted_none _ rfl _) (rv_move e15) rfl hJ)) ?_
            refine all_cons (obs_v rfl (by
                intro k; intro _nm ρ σm hJ hoff hdep
                have e16 : look 37 ρ 16 = (B (!r16)) := hdep 6 rfl rfl 16 rfl
                exact dp_skip (wanted_no rfl (yv_of rfl (e16.trans (congrArg B hb19)))) rfl hJ)) ?_
            refine all_cons (obs_v rfl (by
                intro k; intro _nm ρ σm hJ hoff hdep
                have e16 : look 37 ρ 16 = (B (!r16)) := hdep 6 rfl rfl 16 rfl
                exact dp_skip (wanted_no rfl (yv_of rfl (e16.trans (congrArg B hb19)))) rfl hJ)) ?_
            refine all_cons (obs_v rfl (by
                intro k; intro _nm ρ σm hJ hoff hdep
                have e16 : look 37 ρ 16 = (B (!r16)) := hdep 6 rfl rfl 16 rfl
                exact dp_skip (wanted_no rfl (yv_of rfl (e16.trans (congrArg B hb19)))) rfl hJ)) ?_
            refine all_cons (obs_v rfl (by
                intro k; intro _nm ρ σm hJ hoff hdep
                have e19 : look 37 ρ 19 = undef := hdep 9 rfl rfl 19 rfl
                exact dp_skip (wanted_u rfl (yv_undef rfl e19)) rfl hJ)) ?_
            refine all_cons (obs_v rfl (by
                intro k; intro _nm ρ σm hJ hoff hdep
                have e19 : look 37 ρ 19 = undef := hdep 9 rfl rfl 19 rfl
                exact dp_skip (wanted_u rfl (yv_undef rfl e19)) rfl hJ)) ?_
            refine all_cons (obs_v rfl (by
                intro k; intro _nm ρ σm hJ hoff hdep
                have e19 : look 37 ρ 19 = undef := hdep 9 rfl rfl 19 rfl
                exact dp_skip (wanted_u rfl (yv_undef rfl e19)) rfl hJ)) ?_
            refine all_cons (obs_v rfl (by
                intro k; intro _nm ρ σm hJ hoff hdep
                have e19 : look 37 ρ 19 = undef := hdep 9 rfl rfl 19 rfl
                exact dp_skip (wanted_u rfl (yv_undef rfl e19)) rfl hJ)) ?_
            refine all_cons (obs_v rfl (by
                intro k; intro _nm ρ σm hJ hoff hdep
                have e19 : look 37 ρ 19 = undef := hdep 9 rfl rfl 19 rfl
                exact dp_skip (wanted_u rfl (yv_undef rfl e19)) rfl hJ)) ?_
            refine all_cons (obs_v rfl (by
                intro k; intro _nm ρ σm hJ hoff hdep
                have e19 : look 37 ρ 19 = undef := hdep 9 rfl rfl 19 rfl
                exact dp_skip (wanted_u rfl (yv_undef rfl e19)) rfl hJ)) ?_
            refine all_cons (obs_v rfl (by
                intro k; intro _nm ρ σm hJ hoff hdep
                have e19 : look 37 ρ 19 = undef := hdep 9 rfl rfl 19 rfl
                exact dp_skip (wanted_u rfl (yv_undef rfl e19)) rfl hJ)) ?_
            refine all_cons (obs_v rfl (by
                intro k; intro _nm ρ σm hJ hoff hdep
                have e19 : look 37 ρ 19 = undef := hdep 9 rfl rfl 19 rfl
                exact dp_skip (wanted_u rfl (yv_undef rfl e19)) rfl hJ)) ?_
            refine all_cons (obs_v rfl (by
                intro k; intro _nm ρ σm hJ hoff hdep
                have e19 : look 37 ρ 19 = undef := hdep 9 rfl rfl 19 rfl
                exact dp_skip (wanted_u rfl (yv_undef rfl e19)) rfl hJ)) ?_
            refine all_cons (obs_v rfl (by
                intro k; intro _nm ρ σm hJ hoff hdep
                have e19 : look 37 ρ 19 = undef := hdep 9 rfl rfl 19 rfl
                exact dp_skip (wanted_u rfl (yv_undef rfl e19)) rfl hJ)) ?_
            refine all_cons (obs_v rfl (by
                intro k; intro _nm ρ σm hJ hoff hdep
                have e19 : look 37 ρ 19 = undef := hdep 9 rfl rfl 19 rfl
                exact dp_skip (wanted_u rfl (yv_undef rfl e19)) rfl hJ)) ?_
            exact all_nil
          · intro _nm ρ σ20 hJ hoff hrel
            have e0 : look 37 ρ 0 = (Sl alist_0 list_0 clist_0) := look_off (hoff 0 rfl) rfl
            have e3 : look 37 ρ 3 = (I s2) := look_off (hoff 3 rfl) rfl
            have e16 : look 37 ρ 16 = (B (!r16)) := hrel 6 rfl 16 rfl
            have e19 : look 37 ρ 19 = undef := hrel 9 rfl 19 rfl
            have e24 : look 37 ρ 24 = undef := hrel 14 rfl 24 rfl
            have e30 : look 37 ρ 30 = undef := hrel 20 rfl 30 rfl
            obtain ⟨H, -⟩ := (show Hp S0 σ0 σ20 [Ch.ro 0 (Sl a13 x6.2.1 c14) x6.2.1, Ch.ro 0 (Sl alist_0 list_0 clist_0) list_0] ∧ Md (cov []) σ3 σ20 from hJ)
            clear hJ Hs
            rw [fr_lookL (L := [(0, (Sl alist_0 list_0 clist_0)), (3, (I s2)), (16, (B (!r16))), (19, undef), (24, undef), (30, undef)]) ⟨e0, e3, e16, e19, e24, e30, trivial⟩]
            clear hoff hrel e0 e3 e16 e19 e24 e30
            refine st_skip_u rfl ?_
            refine st_skip (congrArg some hb19) ?_
            refine st (v := (B true)) (rv_pick_t (congrArg B hb19) rfl) ?_
            refine w_end ?_
            obtain rfl := Option.some.inj h
            exact ⟨rfl, _, σ20, fr_join ⟨rfl, rfl, rfl, trivial⟩, rfl, H.sel' [1] rfl rfl⟩
        · replace h := bif_f hb19 h
          rcases Bool.eq_false_or_eq_true (decide (0 < s2)) with hb21 | hb21
          · replace h := bif_t hb21 h
            obtain ⟨x22, hx23, h'⟩ := bind_some h
            clear h
            have h := h'; clear h'
            obtain ⟨b25, o26, hi24, -⟩ := (H.ro 1 rfl).ix hx23
            have hc27 := ((H.ro 1 rfl).at hx23 hi24).fst.int
            obtain ⟨x28, hx29, h'⟩ := bind_some h
            clear h
            have h := h'; clear h'
            obtain ⟨b31, o32, hi30, -⟩ := (H.ro 1 rfl).ix hx29
            have hc33 := ((H.ro 1 rfl).at hx29 hi30).fst.int
            have Hs := H
            refine rg2 (σ := σ3) (Nm := Unit) 21 [4] [[false], [true]] [[(0, 0)], [(0, 0)], [(0, 0)], [(0, 0)], [(0, 1)], [(1, 1)], [(1, 1)], [(1, 1)], [(1, 1)], [(1, 1)], [(1, 1)], [(1, 1)], [(1, 1)], [(1, 1)], [(1, 1)], [(1, 1)], [(1, 1)], [(1, 1)], [(1, 1)], [(1, 1)], [(1, 1)]] 1 [fun (_nm : Unit) => fun σm => Hp S0 σ0 σm [Ch.ro 0 (Sl a13 x6.2.1 c14) x6.2.1, Ch.ro 0 (Sl alist_0 list_0 clist_0) list_0] ∧ Md (cov []) σ3 σm, fun (_nm : Unit) => fun σm => Hp S0 σ0 σm [Ch.ro 0 (Sl a13 x6.2.1 c14) x6.2.1, Ch.ro 0 (Sl alist_0 list_0 clist_0) list_0] ∧ Md (cov []) σ3 σm] [fun (_nm : Unit) => (Sl alist_0 list_0 clist_0), fun (_nm : Unit) => (I s2), fun (_nm : Unit) => (pt b9 o10), fun (_nm : Unit) => (.agg #[(I x6.1), (Sl a13 x6.2.1 c14), (I x6.2.2)]), fun (_nm : Unit) => (B r16), fun (_nm : Unit) => (B (!r16)), fun (_nm : Unit) => (B (!r16)), fun (_nm : Unit) => (I s2), fun (_nm : Unit) => (B (decide (0 < s2))), fun (_nm : Unit) => (B (decide (0 < s2))), fun (_nm : Unit) => (Sl alist_0 list_0 clist_0), fun (_nm : Unit) => (I s2), fun (_nm : Unit) => (pt b25 o26), fun (_nm : Unit) => (pt b25 (o26 + 0)), fun (_nm : Unit) => (I x22.1), fun (_nm : Unit) => (Sl alist_0 list_0 clist_0), fun (_nm : Unit) => (I s2), fun (_nm : Unit) => (I (w64 (s2 - 1))), fun (_nm : Unit) => (pt b31 o32), fun (_nm : Unit) => (pt b31 (o32 + 0)), fun (_nm : Unit) => (I x28.1)] () (by kernel_rfl) (by kernel_rfl) ?_ ?_ ?_
            · intro σm m0
              exact ⟨H.grow (m0.mono fun _ h => h.elim), m0⟩
            · refine all_cons (obs_v rfl (by
                  intro k; intro _nm ρ σm hJ hoff hdep
                  have e0 : look 37 ρ 0 = (Sl alist_0 list_0 clist_0) := look_off (hoff 0 rfl) rfl
                  exact dp_v (v := (Sl alist_0 list_0 clist_0)) (wanted_none _ rfl _) (rv_move e0) rfl hJ)) ?_
              refine all_cons (obs_v rfl (by
                  intro k; intro _nm ρ σm hJ hoff hdep
                  have e3 : look 37 ρ 3 = (I s2) := look_off (hoff 3 rfl) rfl
                  exact dp_v (v := (I s2)) (wanted_none _ rfl _) (rv_move e3) rfl hJ)) ?_
              refine all_cons (obs_v rfl (by
                  intro k; intro _nm ρ σm hJ hoff hdep
                  have e10 : look 37 ρ 10 = (Sl alist_0 list_0 clist_0) := hdep 0 rfl rfl 10 rfl
                  have e11 : look 37 ρ 11 = (I s2) := hdep 1 rfl rfl 11 rfl
                  exact dp_v (v := (pt b9 o10)) (wanted_none _ rfl _) (rv_ix Try.underlying23 ti31 e10 e11 hi8) rfl hJ)) ?_
              refine all_cons (by
                  refine ⟨?_, ?_⟩
                  · intro _nm ρ σm hJ hoff hdep
                    have e12 : look 37 ρ 12 = (pt b9 o10) := hdep 2 rfl rfl 12 rfl
                    obtain ⟨H, m⟩ := (show Hp S0 σ0 σm [Ch.ro 0 (Sl a13 x6.2.1 c14) x6.2.1, Ch.ro 0 (Sl alist_0 list_0 clist_0) list_0] ∧ Md (cov []) σ3 σm from hJ)
                    replace hc12 := fun j hj => (Hs.ro 1 rfl).hmd hx7 hi8 (k := j) (Nat.lt_of_lt_of_eq hj hl11) (hc12 j hj) m
                    exact dp_v (v := (.agg #[(I x6.1), (Sl a13 x6.2.1 c14), (I x6.2.2)])) (wanted_none _ rfl _) (rv_load Try.underlying31 rfl ti31 e12 hl11 hc12) rfl hJ
                  trivial) ?_
              refine all_cons (by
                  refine ⟨?_, ?_⟩
                  · intro _nm ρ σm hJ hoff hdep
                    have e13 : look 37 ρ 13 = (.agg #[(I x6.1), (Sl a13 x6.2.1 c14), (I x6.2.2)]) := hdep 3 rfl rfl 13 rfl
                    obtain ⟨H, m⟩ := (show Hp S0 σ0 σm [Ch.ro 0 (Sl a13 x6.2.1 c14) x6.2.1, Ch.ro 0 (Sl alist_0 list_0 clist_0) list_0] ∧ Md (cov []) σ3 σm from hJ)
                    refine dp_cx (wanted_none _ rfl _) (cx_call hc18 (ent_f hc18.fn (by show [look 37 ρ 13] = _; rw [e13])) hn0 (show Hp S0 σ0 _ ([Ch.ro 0 (Sl a13 x6.2.1 c14) x6.2.1] ++ [Ch.ro 0 (Sl a13 x6.2.1 c14) x6.2.1, Ch.ro 0 (Sl alist_0 list_0 clist_0) list_0]) from (H.sel' [0, 0, 1] rfl rfl))) ?_
                    rintro _ σq ⟨_, ⟨rfl, rfl⟩, H2, m2⟩
                    exact ⟨_, (), rfl, rfl, ⟨H2.sel' [0, 1] rfl rfl, m.comp0 (m2.mono (fun i h => by simp [cov, Ch.ro] at h))⟩, stab [0, 1, 2, 3] (by kernel_rfl) ⟨rfl, rfl, rfl, rfl, trivial⟩⟩
                  trivial) ?_
              refine all_cons (obs_v rfl (by
                  intro k; intro _nm ρ σm hJ hoff hdep
                  have e14 : look 37 ρ 14 = (B r16) := hdep 4 rfl rfl 14 rfl
                  exact dp_v (v := (B (!r16))) (wanted_none _ rfl _) (rv_not e14) rfl hJ)) ?_
              refine all_cons (obs_v rfl (by
                  intro k; intro _nm ρ σm hJ hoff hdep
                  have e15 : look 37 ρ 15 = (B (!r16)) := hdep 5 rfl rfl 15 rfl
                  exact dp_v (v := (B (!r16))) (wanted_none _ rfl _) (rv_move e15) rfl hJ)) ?_
              refine all_cons (obs_v rfl (by
                  intro k; intro _nm ρ σm hJ hoff hdep
                  have e3 : look 37 ρ 3 = (I s2) := look_off (hoff 3 rfl) rfl
                  have e16 : look 37 ρ 16 = (B (!r16)) := hdep 6 rfl rfl 16 rfl
                  exact dp_v (v := (I s2)) (wanted_yes rfl (yv_of rfl (e16.trans (congrArg B hb19)))) (rv_move e3) rfl hJ)) ?_
              refine all_cons (obs_v rfl (by
                  intro k; intro _nm ρ σm hJ hoff hdep
                  have e17 : look 37 ρ 17 = (I s2) := hdep 7 rfl rfl 17 rfl
                  have e16 : look 37 ρ 16 = (B (!r16)) := hdep 6 rfl rfl 16 rfl
                  exact dp_v (v := (B (decide (0 < s2)))) (wanted_yes rfl (yv_of rfl (e16.trans (congrArg B hb19)))) (rv_gtr (a := s2) (b := 0) e17 rfl) rfl hJ)) ?_
              refine all_cons (obs_v rfl (by
                  intro k; intro _nm ρ σm hJ hoff hdep
                  have e18 : look 37 ρ 18 = (B (decide (0 < s2))) := hdep 8 rfl rfl 18 rfl
                  have e16 : look 37 ρ 16 = (B (!r16)) := hdep 6 rfl rfl 16 rfl
                  exact dp_v (v := (B (decide (0 < s2)))) (wanted_yes rfl (yv_of rfl (e16.trans (congrArg B hb19)))) (rv_move e18) rfl hJ)) ?_
              refine all_cons (obs_v rfl (by
                  intro k; intro _nm ρ σm hJ hoff hdep
                  have e0 : look 37 ρ 0 = (Sl alist_0 list_0 clist_0) := look_off (hoff 0 rfl) rfl
                  have e19 : look 37 ρ 19 = (B (decide (0 < s2))) := hdep 9 rfl rfl 19 rfl
                  exact dp_v (v := (Sl alist_0 list_0 clist_0)) (wanted_yes rfl (yv_of rfl (e19.trans (congrArg B hb21)))) (rv_move e0) rfl hJ)) ?_
              refine all_cons (obs_v rfl (by
                  intro k; intro _nm ρ σm hJ hoff hdep
                  have e3 : look 37 ρ 3 = (I s2) := look_off (hoff 3 rfl) rfl
                  have e19 : look 37 ρ 19 = (B (decide (0 < s2))) := hdep 9 rfl rfl 19 rfl
                  exact dp_v (v := (I s2)) (wanted_yes rfl (yv_of rfl (e19.trans (congrArg B hb21)))) (rv_move e3) rfl hJ)) ?_
              refine all_cons (obs_v rfl (by
                  intro k; intro _nm ρ σm hJ hoff hdep
                  have e20 : look 37 ρ 20 = (Sl alist_0 list_0 clist_0) := hdep 10 rfl rfl 20 rfl
                  have e21 : look 37 ρ 21 = (I s2) := hdep 11 rfl rfl 21 rfl
                  have e19 : look 37 ρ 19 = (B (decide (0 < s2))) := hdep 9 rfl rfl 19 rfl
                  exact dp_v (v := (pt b25 o26)) (wanted_yes rfl (yv_of rfl (e19.trans (congrArg B hb21)))) (rv_ix Try.underlying23 ti31 e20 e21 hi24) rfl hJ)) ?_
              refine all_cons (obs_v rfl (by
                  intro k; intro _nm ρ σm hJ hoff hdep
                  have e22 : look 37 ρ 22 = (pt b25 o26) := hdep 12 rfl rfl 22 rfl
                  have e19 : look 37 ρ 19 = (B (decide (0 < s2))) := hdep 9 rfl rfl 19 rfl
                  exact dp_v (v := (pt b25 (o26 + 0))) (wanted_yes rfl (yv_of rfl (e19.trans (congrArg B hb21)))) (rv_fieldAddr (off := 0) (ft := 3) Try.underlying31 rfl ti3 rfl e22) rfl hJ)) ?_
              refine all_cons (by
                  refine ⟨?_, ?_⟩
                  · intro _nm ρ σm hJ hoff hdep
                    have e23 : look 37 ρ 23 = (pt b25 (o26 + 0)) := hdep 13 rfl rfl 23 rfl
                    have e19 : look 37 ρ 19 = (B (decide (0 < s2))) := hdep 9 rfl rfl 19 rfl
                    obtain ⟨H, m⟩ := (show Hp S0 σ0 σm [Ch.ro 0 (Sl a13 x6.2.1 c14) x6.2.1, Ch.ro 0 (Sl alist_0 list_0 clist_0) list_0] ∧ Md (cov []) σ3 σm from hJ)
                    replace hc27 := (Hs.ro 1 rfl).hmd hx23 hi24 (k := 0) (by decide) hc27 m
                    exact dp_v (v := (I x22.1)) (wanted_yes rfl (yv_of rfl (e19.trans (congrArg B hb21)))) (rv_load1 Try.underlying3 rfl e23 hc27) rfl hJ
                  trivial) ?_
              refine all_cons (obs_v rfl (by
                  intro k; intro _nm ρ σm hJ hoff hdep
                  have e0 : look 37 ρ 0 = (Sl alist_0 list_0 clist_0) := look_off (hoff 0 rfl) rfl
                  have e19 : look 37 ρ 19 = (B (decide (0 < s2))) := hdep 9 rfl rfl 19 rfl
                  exact dp_v (v := (Sl alist_0 list_0 clist_0)) (wanted_yes rfl (yv_of rfl (e19.trans (congrArg B hb21)))) (rv_move e0) rfl hJ)) ?_
              refine all_cons (obs_v rfl (by
                  intro k; intro _nm ρ σm hJ hoff hdep
                  have e3 : look 37 ρ 3 = (I s2) := look_off (hoff 3 rfl) rfl
                  have e19 : look 37 ρ 19 = (B (decide (0 < s2))) := hdep 9 rfl rfl 19 rfl
                  exact dp_v (v := (I s2)) (wanted_yes rfl (yv_of rfl (e19.trans (congrArg B hb21)))) (rv_move e3) rfl hJ)) ?_
              refine all_cons (obs_v rfl (by
                  intro k; intro _nm ρ σm hJ hoff hdep
                  have e26 : look 37 ρ 26 = (I s2) := hdep 16 rfl rfl 26 rfl
                  have e19 : look 37 ρ 19 = (B (decide (0 < s2))) := hdep 9 rfl rfl 19 rfl
                  exact dp_v (v := (I (w64 (s2 - 1)))) (wanted_yes rfl (yv_of rfl (e19.trans (congrArg B hb21)))) (rv_sub (a := s2) (b := 1) e26 rfl) rfl hJ)) ?_
              refine all_cons (obs_v rfl (by
                  intro k; intro _nm ρ σm hJ hoff hdep
                  have e25 : look 37 ρ 25 = (Sl alist_0 list_0 clist_0) := hdep 15 rfl rfl 25 rfl
                  have e27 : look 37 ρ 27 = (I (w64 (s2 - 1))) := hdep 17 rfl rfl 27 rfl
                  have e19 : look 37 ρ 19 = (B (decide (0 < s2))) := hdep 9 rfl rfl 19 rfl
                  exact dp_v (v := (pt b31 o32)) (wanted_yes rfl (yv_of rfl (e19.trans (congrArg B hb21)))) (rv_ix Try.underlying23 ti31 e25 e27 hi30) rfl hJ)) ?_
              refine all_cons (obs_v rfl (by
                  intro k; intro _nm ρ σm hJ hoff hdep
                  have e28 : look 37 ρ 28 = (pt b31 o32) := hdep 18 rfl rfl 28 rfl
                  have e19 : look 37 ρ 19 = (B (decide (0 < s2))) := hdep 9 rfl rfl 19 rfl
                  exact dp_v (v := (pt b31 (o32 + 0))) (wanted_yes rfl (yv_of rfl (e19.trans (congrArg B hb21)))) (rv_fieldAddr (off := 0) (ft := 3) Try.underlying31 rfl ti3 rfl e28) rfl hJ)) ?_
              refine all_cons (by
                  refine ⟨?_, ?_⟩
                  · intro _nm ρ σm hJ hoff hdep
                    have e29 : look 37 ρ 29 = (pt b31 (o32 + 0)) := hdep 19 rfl rfl 29 rfl
                    have e19 : look 37 ρ 19 = (B (decide (0 < s2))) := hdep 9 rfl rfl 19 rfl
                    obtain ⟨H, m⟩ := (show Hp S0 σ0 σm [Ch.ro 0 (Sl a13 x6.2.1 c14) x6.2.1, Ch.ro 0 (Sl alist_0 list_0 clist_0) list_0] ∧ Md (cov []) σ3 σm from hJ)
                    replace hc33 := (Hs.ro 1 rfl).hmd hx29 hi30 (k := 0) (by decide) hc33 m
                    exact dp_v (v := (I x28.1)) (wanted_yes rfl (yv_of rfl (e19.trans (congrArg B hb21)))) (rv_load1 Try.underlying3 rfl e29 hc33) rfl hJ
                  trivial) ?_
              exact all_nil
            · intro _nm ρ σ34 hJ hoff hrel
              have e0 : look 37 ρ 0 = (Sl alist_0 list_0 clist_0) := look_off (hoff 0 rfl) rfl
              have e3 : look 37 ρ 3 = (I s2) := look_off (hoff 3 rfl) rfl
              have e16 : look 37 ρ 16 = (B (!r16)) := hrel 6 rfl 16 rfl
              have e19 : look 37 ρ 19 = (B (decide (0 < s2))) := hrel 9 rfl 19 rfl
              have e24 : look 37 ρ 24 = (I x22.1) := hrel 14 rfl 24 rfl
              have e30 : look 37 ρ 30 = (I x28.1) := hrel 20 rfl 30 rfl
              obtain ⟨H, -⟩ := (show Hp S0 σ0 σ34 [Ch.ro 0 (Sl a13 x6.2.1 c14) x6.2.1, Ch.ro 0 (Sl alist_0 list_0 clist_0) list_0] ∧ Md (cov []) σ3 σ34 from hJ)
              clear hJ Hs
              rw [fr_lookL (L := [(0, (Sl alist_0 list_0 clist_0)), (3, (I s2)), (16, (B (!r16))), (19, (B (decide (0 < s2)))), (24, (I x22.1)), (30, (I x28.1))]) ⟨e0, e3, e16, e19, e24, e30, trivial⟩]
              clear hoff hrel e0 e3 e16 e19 e24 e30
              refine st_g (v := (B (decide (x22.1 ≤ x28.1)))) (congrArg some hb21) (rv_leq (a := x22.1) (b := x28.1) rfl rfl) ?_
              refine st_g (v := (B (decide (x22.1 ≤ x28.1)))) (congrArg some hb19) (rv_pick_t (congrArg B hb21) rfl) ?_
              refine st (v := (B (decide (x22.1 ≤ x28.1)))) (rv_pick_f (congrArg B hb19) rfl) ?_
              refine w_end ?_
              obtain rfl := Option.some.inj h
              exact ⟨rfl, _, σ34, fr_join ⟨rfl, rfl, rfl, trivial⟩, rfl, H.sel' [1] rfl rfl⟩
          · replace h := bif_f hb21 h
            have Hs := H
            refine rg2 (σ := σ3) (Nm := Unit) 21 [4] [[false], [true]] [[(0, 0)], [(0, 0)], [(0, 0)], [(0, 0)], [(0, 1)], [(1, 1)], [(1, 1)], [(1, 1)], [(1, 1)], [(1, 1)], [(1, 1)], [(1, 1)], [(1, 1)], [(1, 1)], [(1, 1)], [(1, 1)], [(1, 1)], [(1, 1)], [(1, 1)], [(1, 1)], [(1, 1)]] 1 [fun (_nm : Unit) => fun σm => Hp S0 σ0 σm [Ch.ro 0 (Sl a13 x6.2.1 c14) x6.2.1, Ch.ro 0 (Sl alist_0 list_0 clist_0) list_0] ∧ Md (cov []) σ3 σm, fun (_nm : Unit) => fun σm => Hp S0 σ0 σm [Ch.ro 0 (Sl a13 x6.2.1 c14) x6.2.1, Ch.ro 0 (Sl alist_0 list_0 clist_0) list_0] ∧ Md (cov []) σ3 σm] [fun (_nm : Unit) => (Sl alist_0 list_0 clist_0), fun (_nm : Unit) => (I s2), fun (_nm : Unit) => (pt b9 o10), fun (_nm : Unit) => (.agg #[(I x6.1), (Sl a13 x6.2.1 c14), (I x6.2.2)]), fun (_nm : Unit) => (B r16), fun (_nm : Unit) => (B (!r16)), fun (_nm : Unit) => (B (!r16)), fun (_nm : Unit) => (I s2), fun (_nm : Unit) => (B (decide (0 < s2))), fun (_nm : Unit) => (B (decide (0 < s2))), fun (_nm : Unit) => undef, fun (_nm : Unit) => undef, fun (_nm : Unit) => undef, fun (_nm : Unit) => undef, fun (_nm : Unit) => undef, fun (_nm : Unit) => undef, fun (_nm : Unit) => undef, fun (_nm : Unit) => undef, fun (_nm : Unit) => undef, fun (_nm : Unit) => undef, fun (_nm : Unit) => undef] () (by kernel_rfl) (by kernel_rfl) ?_ ?_ ?_
            · intro σm m0
              exact ⟨H.grow (m0.mono fun _ h => h.elim), m0⟩
            · refine all_cons (obs_v rfl (by
                  intro k; intro _nm ρ σm hJ hoff hdep
                  have e0 : look 37 ρ 0 = (Sl alist_0 list_0 clist_0) := look_off (hoff 0 rfl) rfl
                  exact dp_v (v := (Sl alist_0 list_0 clist_0)) (wanted_none _ rfl _) (rv_move e0) rfl hJ)) ?_
              refine all_cons (obs_v rfl (by
                  intro k; intro _nm ρ σm hJ hoff hdep
                  have e3 : look 37 ρ 3 = (I s2) := look_off (hoff 3 rfl) rfl
                  exact dp_v (v := (I s2)) (wanted_none _ rfl _) (rv_move e3) rfl hJ)) ?_
              refine all_cons (obs_v rfl (by
                  intro k; intro _nm ρ σm hJ hoff hdep
                  have e10 : look 37 ρ 10 = (Sl alist_0 list_0 clist_0) := hdep 0 rfl rfl 10 rfl
                  have e11 : look 37 ρ 11 = (I s2) := hdep 1 rfl rfl 11 rfl
                  exact dp_v (v := (pt b9 o10)) (wanted_none _ rfl _) (rv_ix Try.underlying23 ti31 e10 e11 hi8) rfl hJ)) ?_
              refine all_cons (by
                  refine ⟨?_, ?_⟩
                  · intro _nm ρ σm hJ hoff hdep
                    have e12 : look 37 ρ 12 = (pt b9 o10) := hdep 2 rfl rfl 12 rfl
                    obtain ⟨H, m⟩ := (show Hp S0 σ0 σm [Ch.ro 0 (Sl a13 x6.2.1 c14) x6.2.1, Ch.ro 0 (Sl alist_0 list_0 clist_0) list_0] ∧ Md (cov []) σ3 σm from hJ)
                    replace hc12 := fun j hj => (Hs.ro 1 rfl).hmd hx7 hi8 (k := j) (Nat.lt_of_lt_of_eq hj hl11) (hc12 j hj) m
                    exact dp_v (v := (.agg #[(I x6.1), (Sl a13 x6.2.1 c14), (I x6.2.2)])) (wanted_none _ rfl _) (rv_load Try.underlying31 rfl ti31 e12 hl11 hc12) rfl hJ
                  trivial) ?_
              refine all_cons (by
                  refine ⟨?_, ?_⟩
                  · intro _nm ρ σm hJ hoff hdep
                    have e13 : look 37 ρ 13 = (.agg #[(I x6.1), (Sl a13 x6.2.1 c14), (I x6.2.2)]) := hdep 3 rfl rfl 13 rfl
                    obtain ⟨H, m⟩ := (show Hp S0 σ0 σm [Ch.ro 0 (Sl a13 x6.2.1 c14) x6.2.1, Ch.ro 0 (Sl alist_0 list_0 clist_0) list_0] ∧ Md (cov []) σ3 σm from hJ)
                    refine dp_cx (wanted_none _ rfl _) (cx_call hc18 (ent_f hc18.fn (by show [look 37 ρ 13] = _; rw [e13])) hn0 (show Hp S0 σ0 _ ([Ch.ro 0 (Sl a13 x6.2.1 c14) x6.2.1] ++ [Ch.ro 0 (Sl a13 x6.2.1 c14) x6.2.1, Ch.ro 0 (Sl alist_0 list_0 clist_0) list_0]) from (H.sel' [0, 0, 1] rfl rfl))) ?_
                    rintro _ σq ⟨_, ⟨rfl, rfl⟩, H2, m2⟩
                    exact ⟨_, (), rfl, rfl, ⟨H2.sel' [0, 1] rfl rfl, m.comp0 (m2.mono (fun i h => by simp [cov, Ch.ro] at h))⟩, stab [0, 1, 2, 3] (by kernel_rfl) ⟨rfl, rfl, rfl, rfl, trivial⟩⟩
                  trivial) ?_
              refine all_cons (obs_v rfl (by
                  intro k; intro _nm ρ σm hJ hoff hdep
                  have e14 : look 37 ρ 14 = (B r16) := hdep 4 rfl rfl 14 rfl
                  exact dp_v (v := (B (!r16))) (wanted_none _ rfl _) (rv_not e14) rfl hJ)) ?_
              refine all_cons (obs_v rfl (by
                  intro k; intro _nm ρ σm hJ hoff hdep
                  have e15 : look 37 ρ 15 = (B (!r16)) := hdep 5 rfl rfl 15 rfl
                  exact dp_v (v := (B (!r16))) (wanted_none _ rfl _) (rv_move e15) rfl hJ)) ?_
              refine all_cons (obs_v rfl (by
                  intro k; intro _nm ρ σm hJ hoff hdep
                  have e3 : look 37 ρ 3 = (I s2) := look_off (hoff 3 rfl) rfl
                  have e16 : look 37 ρ 16 = (B (!r16)) := hdep 6 rfl rfl 16 rfl
                  exact dp_v (v := (I s2)) (wanted_yes rfl (yv_of rfl (e16.trans (congrArg B hb19)))) (rv_move e3) rfl hJ)) ?_
              refine all_cons (obs_v rfl (by
                  intro k; intro _nm ρ σm hJ hoff hdep
                  have e17 : look 37 ρ 17 = (I s2) := hdep 7 rfl rfl 17 rfl
                  have e16 : look 37 ρ 16 = (B (!r16)) := hdep 6 rfl rfl 16 rfl
                  exact dp_v (v := (B (decide (0 < s2)))) (wanted_yes rfl (yv_of rfl (e16.trans (congrArg B hb19)))) (rv_gtr (a := s2) (b := 0) e17 rfl) rfl hJ)) ?_
              refine all_cons (obs_v rfl (by
                  intro k; intro _nm ρ σm hJ hoff hdep
                  have e18 : look 37 ρ 18 = (B (decide (0 < s2))) := hdep 8 rfl rfl 18 rfl
                  have e16 : look 37 ρ 16 = (B (!r16)) := hdep 6 rfl rfl 16 rfl
                  exact dp_v (v := (B (decide (0 < s2)))) (wanted_yes rfl (yv_of rfl (e16.trans (congrArg B hb19)))) (rv_move e18) rfl hJ)) ?_
              refine all_cons (obs_v rfl (by
                  intro k; intro _nm ρ σm hJ hoff hdep
                  have e19 : look 37 ρ 19 = (B (decide (0 < s2))) := hdep 9 rfl rfl 19 rfl
                  exact dp_skip (wanted_no rfl (yv_of rfl (e19.trans (congrArg B hb21)))) rfl hJ)) ?_
              refine all_cons (obs_v rfl (by
                  intro k; intro _nm ρ σm hJ hoff hdep
                  have e19 : look 37 ρ 19 = (B (decide (0 < s2))) := hdep 9 rfl rfl 19 rfl
                  exact dp_skip (wanted_no rfl (yv_of rfl (e19.trans (congrArg B hb21)))) rfl hJ)) ?_
              refine all_cons (obs_v rfl (by
                  intro k; intro _nm ρ σm hJ hoff hdep
                  have e19 : look 37 ρ 19 = (B (decide (0 < s2))) := hdep 9 rfl rfl 19 rfl
                  exact dp_skip (wanted_no rfl (yv_of rfl (e19.trans (congrArg B hb21)))) rfl hJ)) ?_
              refine all_cons (obs_v rfl (by
                  intro k; intro _nm ρ σm hJ hoff hdep
                  have e19 : look 37 ρ 19 = (B (decide (0 < s2))) := hdep 9 rfl rfl 19 rfl
                  exact dp_skip (wanted_no rfl (yv_of rfl (e19.trans (congrArg B hb21)))) rfl hJ)) ?_
              refine all_cons (obs_v rfl (by
                  intro k; intro _nm ρ σm hJ hoff hdep
                  have e19 : look 37 ρ 19 = (B (decide (0 < s2))) := hdep 9 rfl rfl 19 rfl
                  exact dp_skip (wanted_no rfl (yv_of rfl (e19.trans (congrArg B hb21)))) rfl hJ)) ?_
              refine all_cons (obs_v rfl (by
                  intro k; intro _nm ρ σm hJ hoff hdep
                  have e19 : look 37 ρ 19 = (B (decide (0 < s2))) := hdep 9 rfl rfl 19 rfl
                  exact dp_skip (wanted_no rfl (yv_of rfl (e19.trans (congrArg B hb21)))) rfl hJ)) ?_
              refine all_cons (obs_v rfl (by
                  intro k; intro _nm ρ σm hJ hoff hdep
                  have e19 : look 37 ρ 19 = (B (decide (0 < s2))) := hdep 9 rfl rfl 19 rfl
                  exact dp_skip (wanted_no rfl (yv_of rfl (e19.trans (congrArg B hb21)))) rfl hJ)) ?_
              refine all_cons (obs_v rfl (by
                  intro k; intro _nm ρ σm hJ hoff hdep
                  have e19 : look 37 ρ 19 = (B (decide (0 < s2))) := hdep 9 rfl rfl 19 rfl
                  exact dp_skip (wanted_no rfl (yv_of rfl (e19.trans (congrArg B hb21)))) rfl hJ)) ?_
              refine all_cons (obs_v rfl (by
                  intro k; intro _nm ρ σm hJ hoff hdep
                  have e19 : look 37 ρ 19 = (B (decide (0 < s2))) := hdep 9 rfl rfl 19 rfl
                  exact dp_skip (wanted_no rfl (yv_of rfl (e19.trans (congrArg B hb21)))) rfl hJ)) ?_
              refine all_cons (obs_v rfl (by
                  intro k; intro _nm ρ σm hJ hoff hdep
                  have e19 : look 37 ρ 19 = (B (decide (0 < s2))) := hdep 9 rfl rfl 19 rfl
                  exact dp_skip (wanted_no rfl (yv_of rfl (e19.trans (congrArg B hb21)))) rfl hJ)) ?_
              refine all_cons (obs_v rfl (by
                  intro k; intro _nm ρ σm hJ hoff hdep
                  have e19 : look 37 ρ 19 = (B (decide (0 < s2))) := hdep 9 rfl rfl 19 rfl
                  exact dp_skip (wanted_no rfl (yv_of rfl (e19.trans (congrArg B hb21)))) rfl hJ)) ?_
              exact all_nil
            · intro _nm ρ σ35 hJ hoff hrel
              have e0 : look 37 ρ 0 = (Sl alist_0 list_0 clist_0) := look_off (hoff 0 rfl) rfl
              have e3 : look 37 ρ 3 = (I s2) := look_off (hoff 3 rfl) rfl
              have e16 : look 37 ρ 16 = (B (!r16)) := hrel 6 rfl 16 rfl
              have e19 : look 37 ρ 19 = (B (decide (0 < s2))) := hrel 9 rfl 19 rfl
              have e24 : look 37 ρ 24 = undef := hrel 14 rfl 24 rfl
              have e30 : look 37 ρ 30 = undef := hrel 20 rfl 30 rfl
              obtain ⟨H, -⟩ := (show Hp S0 σ0 σ35 [Ch.ro 0 (Sl a13 x6.2.1 c14) x6.2.1, Ch.ro 0 (Sl alist_0 list_0 clist_0) list_0] ∧ Md (cov []) σ3 σ35 from hJ)
              clear hJ Hs
              rw [fr_lookL (L := [(0, (Sl alist_0 list_0 clist_0)), (3, (I s2)), (16, (B (!r16))), (19, (B (decide (0 < s2)))), (24, undef), (30, undef)]) ⟨e0, e3, e16, e19, e24, e30, trivial⟩]
              clear hoff hrel e0 e3 e16 e19 e24 e30
              refine st_skip (congrArg some hb21) ?_
              refine st_g (v := (B false)) (congrArg some hb19) (rv_pick_f (congrArg B hb21) rfl) ?_
              refine st (v := (B false)) (rv_pick_f (congrArg B hb19) rfl) ?_
              refine w_end ?_
              obtain rfl := Option.some.inj h
              exact ⟨rfl, _, σ35, fr_join ⟨rfl, rfl, rfl, trivial⟩, rfl, H.sel' [1] rfl rfl⟩
      · clear hj
        have h := h'
        clear h' H
        rintro e a w ⟨rfl, ρ, σ36, rfl, rfl, H⟩
        refine q_then ?_
        refine cd_cond o5 rfl (fun hb37 => ?_) (fun hb37 => ?_)
        · replace h := bif_t hb37 h
          refine c_seq ?_
          refine rg ?_
          refine st (v := (B false)) (rv_assign rfl) ?_
          refine w_end ?_
          refine q_then ?_
          refine c_ret ?_
          refine q_blk_r ?_
          refine q_then_r ?_
          refine q_then_r ?_
          refine q_blk_r ?_
          obtain rfl := Option.some.inj h
          obtain rfl := hres _ rfl
          exact .inr (⟨_, rfl, rfl, _, σ36, fr_join ⟨rfl, trivial⟩, rfl, H.sel' [] rfl rfl⟩)
        · replace h := bif_f hb37 h
          refine c_skip ?_
          refine q_blk ?_
          refine q_then ?_
          refine rg ?_
          refine st (v := (I s2)) (rv_move rfl) ?_
          refine st (v := (I (w64 (s2 + 1)))) (rv_add (a := s2) (b := 1) rfl rfl) ?_
          refine st (v := (I (w64 (s2 + 1)))) (rv_assign rfl) ?_
          refine w_end ?_
          refine q_then ?_
          obtain rfl := Option.some.inj h
          exact ⟨_, rfl, _, σ36, fr_join ⟨rfl, rfl, trivial⟩, rfl, H.sel' [0] rfl rfl⟩
    · replace h := bif_f hb4 h
      refine c_exit ?_
      refine q_then_x ?_
      refine q_then_x ?_
      refine q_blk_hit ?_
      obtain rfl := Option.some.inj h
      obtain rfl := hres _ rfl
      exact .inl ⟨_, rfl, rfl, _, σ3, fr_join ⟨rfl, trivial⟩, rfl, H.sel' [0] rfl rfl⟩
  · clear hj
    have h := h'
    clear h' H
    rintro e a w (⟨t38, rfl, rfl, ρ, σ39, rfl, rfl, H⟩ | ⟨t40, rfl, rfl, ρ, σ41, rfl, rfl, H⟩)
    · replace h := selim_l h
      refine q_then ?_
      refine c_seq ?_
      refine rg ?_
      refine st (v := (Sl alist_0 list_0 clist_0)) (rv_move rfl) ?_
      refine st (v := (I (list_0.length : Int))) (rv_len Try.underlying23 rfl) ?_
      refine st (v := (B (decide ((list_0.length : Int) ≤ 16)))) (rv_leq (a := (list_0.length : Int)) (b := 16) rfl rfl) ?_
      refine st (v := (B (decide ((list_0.length : Int) ≤ 16)))) (rv_assign rfl) ?_
      refine w_end ?_
      refine q_then ?_
      refine c_ret ?_
      obtain rfl := Option.some.inj h
      exact fin_ret (v := (B (decide ((list_0.length : Int) ≤ 16)))) (results_ok Try.results80 (res_tmp (v := (B (decide ((list_0.length : Int) ≤ 16)))) rfl res_nil) rfl) ⟨rfl, rfl⟩ (H.sel' [] rfl rfl)
    · replace h := selim_r h
      refine q_then_r ?_
      obtain rfl := Option.some.inj h
      exact fin_ret (v := (B t40)) (results_ok Try.results80 (res_tmp (v := (B t40)) rfl res_nil) rfl) ⟨rfl, rfl⟩ (H.sel' [] rfl rfl)

theorem c_spec_validKind {kind_0 : Int}  {r : Bool} (h : M.spec_validKind kind_0 = some r) :
    Cal2 Try.prog 86 [(I kind_0)] [] (fun n0 v L => v = (B r) ∧ L = []) := by
  refine cal2 (n := 5) Try.func86 rfl rfl rfl rfl ?_
  intro S0 σ0 n0 hn0 H
  unfold M.spec_validKind at h
  refine c_seq ?_
  refine rg ?_
  refine st (v := (B false)) (rv_assign rfl) ?_
  refine w_end ?_
  refine q_then ?_
  refine c_seq ?_
  refine rg ?_
  refine st (v := (I kind_0)) (rv_move rfl) ?_
  obtain ⟨r1, hx2, h'⟩ := bind_some h
  clear h
  have h := h'; clear h'
  have hc3 := c_spec_inRange hx2
  refine st_call (cx_call hc3 (ent_f hc3.fn rfl) hn0 (show Hp S0 σ0 _ ([] ++ []) from (H.sel' [] rfl rfl))) (wanted_none _ rfl _) ?_
  rintro _ σ4 ⟨_, ⟨rfl, rfl⟩, H, -⟩
  replace H : Hp S0 σ0 σ4 [] := H
  refine st (v := (B r1)) (rv_assign rfl) ?_
  refine w_end ?_
  refine q_then ?_
  refine c_ret ?_
  obtain rfl := Option.some.inj h
  exact fin_ret (v := (B r1)) (results_ok Try.results86 (res_tmp (v := (B r1)) rfl res_nil) rfl) ⟨rfl, rfl⟩ (H.sel' [] rfl rfl)

theorem c_spec_size {n_0 : Int}  {r : Int} (h : M.spec_size n_0 = some r) :
    Cal2 Try.prog 117 [(I n_0)] [] (fun n0 v L => v = (I r) ∧ L = []) := by
  refine cal2 (n := 7) Try.func117 rfl rfl rfl rfl ?_
  intro S0 σ0 n0 hn0 H
  unfold M.spec_size at h
  refine c_seq ?_
  refine rg ?_
  refine st (v := (I 0)) (rv_assign rfl) ?_
  refine w_end ?_
  refine q_then ?_
  refine c_seq ?_
  refine rg ?_
  refine st (v := (I n_0)) (rv_move rfl) ?_
  refine st (v := (I n_0)) (rv_move rfl) ?_
  refine st (v := (I (w64 (0 - n_0)))) (rv_neg (a := n_0) rfl) ?_
  refine st (v := (I (max n_0 (w64 (0 - n_0))))) (rv_max rfl rfl) ?_
  refine st (v := (I (max n_0 (w64 (0 - n_0))))) (rv_assign rfl) ?_
  refine w_end ?_
  refine q_then ?_
  refine c_ret ?_
  obtain rfl := Option.some.inj h
  exact fin_ret (v := (I (max n_0 (w64 (0 - n_0))))) (results_ok Try.results117 (res_tmp (v := (I (max n_0 (w64 (0 - n_0))))) rfl res_nil) rfl) ⟨rfl, rfl⟩ (H.sel' [] rfl rfl)

theorem c_spec_toInt {b_0 : Bool}  {r : Int} (h : M.spec_toInt b_0 = some r) :
    Cal2 Try.prog 118 [(B b_0)] [] (fun n0 v L => v = (I r) ∧ L = []) := by
  refine cal2 (n := 4) Try.func118 rfl rfl rfl rfl ?_
  intro S0 σ0 n0 hn0 H
  unfold M.spec_toInt at h
  refine c_seq ?_
  refine rg ?_
  refine st (v := (I 0)) (rv_assign rfl) ?_
  refine w_end ?_
  refine q_then ?_
  refine c_seq ?_
  refine c_seq ?_
  refine rg ?_
  refine st (v := (B b_0)) (rv_move rfl) ?_
  refine w_end ?_
  refine q_then ?_
  refine cd_cond b_0 rfl (fun hb1 => ?_) (fun hb1 => ?_)
  · replace h := bif_t hb1 h
    refine c_seq ?_
    refine rg ?_
    refine st (v := (I 1)) (rv_assign rfl) ?_
    refine w_end ?_
    refine q_then ?_
    refine c_ret ?_
    refine q_then_r ?_
    obtain rfl := Option.some.inj h
    exact fin_ret (v := (I 1)) (results_ok Try.results118 (res_tmp (v := (I 1)) rfl res_nil) rfl) ⟨rfl, rfl⟩ (H.sel' [] rfl rfl)
  · replace h := bif_f hb1 h
    refine c_skip ?_
    refine q_then ?_
    refine c_seq ?_
    refine rg ?_
    refine st (v := (I 0)) (rv_assign rfl) ?_
    refine w_end ?_
    refine q_then ?_
    refine c_ret ?_
    obtain rfl := Option.some.inj h
    exact fin_ret (v := (I 0)) (results_ok Try.results118 (res_tmp (v := (I 0)) rfl res_nil) rfl) ⟨rfl, rfl⟩ (H.sel' [] rfl rfl)

end Go.Vs
