/- The functions compute what their models say. -/
import Derived.Test.YtcgkbgidfilodaaKExactInBoxM
import Derived.Test.YtcgkbgidfilodaaEng1
import Derived.Test.YtcgkbgidfilodaaProg
set_option linter.unusedVariables false
set_option linter.unusedSimpArgs false
set_option maxRecDepth 20000
namespace Go.Vs
open Go Go.Proofs
attribute [local irreducible] Code.wp Code.wpIn wpList wpListIn wpQuiet Calls CallsIn

theorem ti3 : TI Try.prog 3 (.int .i64 0) 1 8 := TI.mk' (by kernel_rfl)
theorem ti23 : TI Try.prog 23 (.slice none 0 0) 1 24 := TI.mk' (by kernel_rfl)
theorem ti24 : TI Try.prog 24 (.slice none 0 0) 1 24 := TI.mk' (by kernel_rfl)
theorem ti31 : TI Try.prog 31 (.agg #[(.int .i64 0), (.slice none 0 0), (.int .i64 0)]) 3 40 := TI.mk' (by kernel_rfl)
theorem ti61 : TI Try.prog 61 (.slice none 0 0) 1 24 := TI.mk' (by kernel_rfl)
theorem ti62 : TI Try.prog 62 (.agg #[(.int .i64 0), (.slice none 0 0), (.int .i64 0)]) 3 40 := TI.mk' (by kernel_rfl)

theorem c_impl_ValidVector {v_0 : List Int} {av_0 : Option Addr} {cv_0 : Nat} {r : Bool} (h : M.impl_ValidVector v_0 = some r) :
    Cal2 Try.prog 26 [(Sl av_0 v_0 cv_0)] [Ch.ro 0 (Sl av_0 v_0 cv_0) v_0] (fun n0 v L => v = (B r) ∧ L = []) := by
 refine cal2 (n := 21) Try.func26 rfl rfl rfl rfl ?_
 intro S0 σ0 n0 hn0 H
 unfold M.impl_ValidVector at h
 refine c_seq ?_
 refine rg ?_
 refine st (v := (B false)) (rv_assign rfl) ?_
 refine w_end ?_
 refine q_then ?_
 refine c_seq ?_
 refine c_seq ?_
 refine rg ?_
 refine st (v := (Sl av_0 v_0 cv_0)) (rv_move rfl) ?_
 refine st (v := (I (v_0.length : Int))) (rv_len Try.underlying24 rfl) ?_
 refine st (v := (B ((v_0.length : Int) != 4))) (rv_neq (a := (v_0.length : Int)) (b := 4) rfl rfl) ?_
 refine w_end ?_
 refine q_then ?_
 refine cd_cond ((v_0.length : Int) != 4) rfl (fun hb1 => ?_) (fun hb1 => ?_)
 ·replace h := bif_t hb1 h
  refine c_seq ?_
  refine rg ?_
  refine st (v := (B false)) (rv_assign rfl) ?_
  refine w_end ?_
  refine q_then ?_
  refine c_ret ?_
  refine q_then_r ?_
  obtain rfl := Option.some.inj h
  exact fin_ret (v := (B false)) (results_ok Try.results26 (res_tmp (v := (B false)) rfl res_nil) rfl) ⟨rfl, rfl⟩ (H.sel' [] rfl rfl)
 ·replace h := bif_f hb1 h
  refine c_skip ?_
  refine q_then ?_
  refine c_seq ?_
  refine c_seq ?_
  refine rg ?_
  refine st (v := (Sl av_0 v_0 cv_0)) (rv_move rfl) ?_
  refine st (v := (I (v_0.length : Int))) (rv_len Try.underlying24 rfl) ?_
  refine st (v := (I 0)) (rv_move rfl) ?_
  refine w_end ?_
  refine q_then ?_
  obtain ⟨o2, hj, h'⟩ := bind_some h
  clear h
  refine c_cut (fun e a w => (∃ t, o2 = (.inl t) ∧ e = .normal ∧ ∃ (ρ : Nat → Value) (σ : St), a = fr 21 (updL ρ []) ∧ w = σ.w ∧ Hp S0 σ0 σ []) ∨ (∃ t, o2 = (.inr t) ∧ e = .ret ∧ ∃ (ρ : Nat → Value) (σ : St), a = fr 21 (updL ρ [(2, (B t))]) ∧ w = σ.w ∧ Hp S0 σ0 σ [])) ?_ ?_
  ·clear h'
   rename _ = some o2 => h
   refine c_blk ?_
   refine wp_loopM _ h (fun s3 a w => ∃ (ρ : Nat → Value) (σ : St), a = fr 21 (updL ρ [(8, (Sl av_0 v_0 cv_0)), (9, (I (v_0.length : Int))), (10, (I s3))]) ∧ w = σ.w ∧ Hp S0 σ0 σ [Ch.ro 0 (Sl av_0 v_0 cv_0) v_0]) ⟨_, σ0, fr_join ⟨rfl, rfl, rfl, trivial⟩, rfl, H.sel' [0] rfl rfl⟩ ?_
   clear h H
   rintro s3 a w o ⟨ρ, σ4, rfl, rfl, H⟩ h hres
   refine c_seq ?_
   refine rg ?_
   refine st (v := (B (decide (s3 < (v_0.length : Int))))) (rv_lss (a := s3) (b := (v_0.length : Int)) rfl rfl) ?_
   refine w_end ?_
   refine q_then ?_
   refine c_seq ?_
   refine cd_cond (decide (s3 < (v_0.length : Int))) rfl (fun hb5 => ?_) (fun hb5 => ?_)
   ·replace h := bif_t hb5 h
    refine c_skip ?_
    refine q_then ?_
    refine c_seq ?_
    refine c_blk ?_
    refine c_seq ?_
    refine rg ?_
    obtain ⟨x6, hx7, h'⟩ := bind_some h
    clear h
    have h := h'; clear h'
    obtain ⟨b9, o10, hi8, -⟩ := (H.ro 0 rfl).ix hx7
    refine st (v := (pt b9 o10)) (rv_ix Try.underlying24 ti3 rfl rfl hi8) ?_
    have hc11 := ((H.ro 0 rfl).at hx7 hi8).int
    refine st (v := (I x6)) (rv_load1 Try.underlying3 rfl rfl hc11) ?_
    refine st (v := (I x6)) (rv_assign rfl) ?_
    refine w_end ?_
    refine q_then ?_
    refine c_seq ?_
    obtain ⟨o12, hj, h'⟩ := bind_some h
    clear h
    refine c_cut (fun e a w => e = .normal ∧ ∃ (ρ : Nat → Value) (σ : St), a = fr 21 (updL ρ [(8, (Sl av_0 v_0 cv_0)), (9, (I (v_0.length : Int))), (10, (I s3)), (19, (B o12))]) ∧ w = σ.w ∧ Hp S0 σ0 σ [Ch.ro 0 (Sl av_0 v_0 cv_0) v_0]) ?_ ?_
    ·clear h'
     rename _ = some o12 => h
     refine rg ?_
     refine st (v := (I x6)) (rv_move rfl) ?_
     refine st (v := (B (decide (x6 < (-100))))) (rv_lss (a := x6) (b := (-100)) rfl rfl) ?_
     refine st (v := (B (decide (x6 < (-100))))) (rv_move rfl) ?_
     rcases Bool.eq_false_or_eq_true (decide (x6 < (-100))) with hb13 | hb13
     ·replace h := bif_t hb13 h
      refine st_skip (congrArg some hb13) ?_
      refine st_skip (congrArg some hb13) ?_
      refine st (v := (B true)) (rv_pick_t (congrArg B hb13) rfl) ?_
      refine w_end ?_
      obtain rfl := Option.some.inj h
      exact ⟨rfl, _, σ4, fr_join ⟨rfl, rfl, rfl, rfl, trivial⟩, rfl, H.sel' [0] rfl rfl⟩
     ·replace h := bif_f hb13 h
      refine st_g (v := (I x6)) (congrArg some hb13) (rv_move rfl) ?_
      refine st_g (v := (B (decide (100 < x6)))) (congrArg some hb13) (rv_gtr (a := x6) (b := 100) rfl rfl) ?_
      refine st (v := (B (decide (100 < x6)))) (rv_pick_f (congrArg B hb13) rfl) ?_
      refine w_end ?_
      obtain rfl := Option.some.inj h
      exact ⟨rfl, _, σ4, fr_join ⟨rfl, rfl, rfl, rfl, trivial⟩, rfl, H.sel' [0] rfl rfl⟩
    ·clear hj
     have h := h'
     clear h' H
     rintro e a w ⟨rfl, ρ, σ14, rfl, rfl, H⟩
     refine q_then ?_
     refine cd_cond o12 rfl (fun hb15 => ?_) (fun hb15 => ?_)
     ·replace h := bif_t hb15 h
      refine c_seq ?_
      refine rg ?_
      refine st (v := (B false)) (rv_assign rfl) ?_
      refine w_end ?_
      refine q_then ?_
      refine c_ret ?_
      refine q_blk_r ?_
      refine q_then_r ?_
      refine q_then_r ?_
      refine q_blk_r ?_
      obtain rfl := Option.some.inj h
      obtain rfl := hres _ rfl
      exact .inr (⟨_, rfl, rfl, _, σ14, fr_join ⟨rfl, trivial⟩, rfl, H.sel' [] rfl rfl⟩)
     ·replace h := bif_f hb15 h
      refine c_skip ?_
      refine q_blk ?_
      refine q_then ?_
      refine rg ?_
      refine st (v := (I (w64 (s3 + 1)))) (rv_add (a := s3) (b := 1) rfl rfl) ?_
      refine st (v := (I (w64 (s3 + 1)))) (rv_move rfl) ?_
      refine w_end ?_
      refine q_then ?_
      obtain rfl := Option.some.inj h
      exact ⟨_, rfl, _, σ14, fr_join ⟨rfl, rfl, rfl, trivial⟩, rfl, H.sel' [0] rfl rfl⟩
   ·replace h := bif_f hb5 h
    refine c_exit ?_
    refine q_then_x ?_
    refine q_then_x ?_
    refine q_blk_hit ?_
    obtain rfl := Option.some.inj h
    obtain rfl := hres _ rfl
    exact .inl ⟨_, rfl, rfl, _, σ4, fr_join trivial, rfl, H.sel' [] rfl rfl⟩
  ·clear hj
   have h := h'
   clear h' H
   rintro e a w (⟨t16, rfl, rfl, ρ, σ17, rfl, rfl, H⟩ | ⟨t18, rfl, rfl, ρ, σ19, rfl, rfl, H⟩)
   ·replace h := selim_l h
    refine q_then ?_
    refine c_seq ?_
    refine rg ?_
    refine st (v := (B true)) (rv_assign rfl) ?_
    refine w_end ?_
    refine q_then ?_
    refine c_ret ?_
    obtain rfl := Option.some.inj h
    exact fin_ret (v := (B true)) (results_ok Try.results26 (res_tmp (v := (B true)) rfl res_nil) rfl) ⟨rfl, rfl⟩ (H.sel' [] rfl rfl)
   ·replace h := selim_r h
    refine q_then_r ?_
    obtain rfl := Option.some.inj h
    exact fin_ret (v := (B t18)) (results_ok Try.results26 (res_tmp (v := (B t18)) rfl res_nil) rfl) ⟨rfl, rfl⟩ (H.sel' [] rfl rfl)

theorem c_impl_validKey {key_0 : Int}  {r : Bool} (h : M.impl_validKey key_0 = some r) :
    Cal2 Try.prog 115 [(I key_0)] [] (fun n0 v L => v = (B r) ∧ L = []) := by
 refine cal2 (n := 9) Try.func115 rfl rfl rfl rfl ?_
 intro S0 σ0 n0 hn0 H
 unfold M.impl_validKey at h
 refine c_seq ?_
 refine rg ?_
 refine st (v := (B false)) (rv_assign rfl) ?_
 refine w_end ?_
 refine q_then ?_
 refine c_seq ?_
 refine rg ?_
 refine st (v := (I key_0)) (rv_move rfl) ?_
 refine st (v := (B (decide (1 ≤ key_0)))) (rv_geq (a := key_0) (b := 1) rfl rfl) ?_
 refine st (v := (B (decide (1 ≤ key_0)))) (rv_move rfl) ?_
 rcases Bool.eq_false_or_eq_true (decide (1 ≤ key_0)) with hb1 | hb1
 ·replace h := bif_t hb1 h
  refine st_g (v := (I key_0)) (congrArg some hb1) (rv_move rfl) ?_
  refine st_g (v := (B (decide (key_0 ≤ 99)))) (congrArg some hb1) (rv_leq (a := key_0) (b := 99) rfl rfl) ?_
  refine st (v := (B (decide (key_0 ≤ 99)))) (rv_pick_t (congrArg B hb1) rfl) ?_
  refine st (v := (B (decide (key_0 ≤ 99)))) (rv_assign rfl) ?_
  refine w_end ?_
  refine q_then ?_
  refine c_ret ?_
  obtain rfl := Option.some.inj h
  exact fin_ret (v := (B (decide (key_0 ≤ 99)))) (results_ok Try.results115 (res_tmp (v := (B (decide (key_0 ≤ 99)))) rfl res_nil) rfl) ⟨rfl, rfl⟩ (H.sel' [] rfl rfl)
 ·replace h := bif_f hb1 h
  refine st_skip (congrArg some hb1) ?_
  refine st_skip (congrArg some hb1) ?_
  refine st (v := (B false)) (rv_pick_f (congrArg B hb1) rfl) ?_
  refine st (v := (B false)) (rv_assign rfl) ?_
  refine w_end ?_
  refine q_then ?_
  refine c_ret ?_
  obtain rfl := Option.some.inj h
  exact fin_ret (v := (B false)) (results_ok Try.results115 (res_tmp (v := (B false)) rfl res_nil) rfl) ⟨rfl, rfl⟩ (H.sel' [] rfl rfl)

theorem c_impl_validItem {x_0 : Int × (List Int) × Int} {ax_0_1 : Option Addr} {cx_0_1 : Nat} {r : Bool} (h : M.impl_validItem x_0 = some r) :
    Cal2 Try.prog 82 [(.agg #[(I x_0.1), (Sl ax_0_1 x_0.2.1 cx_0_1), (I x_0.2.2)])] [Ch.ro 0 (Sl ax_0_1 x_0.2.1 cx_0_1) x_0.2.1] (fun n0 v L => v = (B r) ∧ L = []) := by
 refine cal2 (n := 21) Try.func82 rfl rfl rfl rfl ?_
 intro S0 σ0 n0 hn0 H
 unfold M.impl_validItem at h
 refine c_seq ?_
 refine rg ?_
 refine st_ex (ex_box (cs := [(I x_0.1), (Sl ax_0_1 x_0.2.1 cx_0_1), (I x_0.2.2)]) H hn0 rfl rfl) (wanted_none _ rfl _) ?_
 rintro _ σ2 ⟨b1, rfl, H, -⟩
 refine st (v := (B false)) (rv_assign rfl) ?_
 refine w_end ?_
 refine q_then ?_
 refine c_seq ?_
 refine rg ?_
 refine st (v := (pt b1 0)) (rv_fieldAddr (off := 0) (ft := 3) Try.underlying31 rfl ti3 rfl rfl) ?_
 have hc3 := H.cell (u := (I x_0.1)) (o' := 0) 0 0 rfl rfl rfl
 refine st (v := (I x_0.1)) (rv_load1 Try.underlying3 rfl rfl hc3) ?_
 obtain ⟨r4, hx5, h'⟩ := bind_some h
 clear h
 have h := h'; clear h'
 have hc6 := c_impl_validKey hx5
 refine st_call (cx_call hc6 (ent_f hc6.fn rfl) hn0 (show Hp S0 σ0 _ ([] ++ [Ch.bx n0 b1 0 [(I x_0.1), (Sl ax_0_1 x_0.2.1 cx_0_1), (I x_0.2.2)] [] [], Ch.ro 0 (Sl ax_0_1 x_0.2.1 cx_0_1) x_0.2.1]) from (H.sel' [0, 1] rfl rfl))) (wanted_none _ rfl _) ?_
 rintro _ σ7 ⟨_, ⟨rfl, rfl⟩, H, -⟩
 replace H : Hp S0 σ0 σ7 [Ch.bx n0 b1 0 [(I x_0.1), (Sl ax_0_1 x_0.2.1 cx_0_1), (I x_0.2.2)] [] [], Ch.ro 0 (Sl ax_0_1 x_0.2.1 cx_0_1) x_0.2.1] := H
 refine st (v := (B r4)) (rv_move rfl) ?_
 rcases Bool.eq_false_or_eq_true r4 with hb8 | hb8
 ·replace h := bif_t hb8 h
  refine st_g (v := (pt b1 1)) (congrArg some hb8) (rv_fieldAddr (off := 1) (ft := 24) Try.underlying31 rfl ti24 rfl rfl) ?_
  have hc9 := H.cell (u := (Sl ax_0_1 x_0.2.1 cx_0_1)) (o' := 1) 0 1 rfl rfl rfl
  refine st_g (v := (Sl ax_0_1 x_0.2.1 cx_0_1)) (congrArg some hb8) (rv_load1 Try.underlying24 rfl rfl hc9) ?_
  obtain ⟨r10, hx11, h'⟩ := bind_some h
  clear h
  have h := h'; clear h'
  have hc12 := c_impl_ValidVector (av_0 := ax_0_1) (cv_0 := cx_0_1) hx11
  refine st_call (cx_call hc12 (ent_f hc12.fn rfl) hn0 (show Hp S0 σ0 _ ([Ch.ro 0 (Sl ax_0_1 x_0.2.1 cx_0_1) x_0.2.1] ++ [Ch.bx n0 b1 0 [(I x_0.1), (Sl ax_0_1 x_0.2.1 cx_0_1), (I x_0.2.2)] [] [], Ch.ro 0 (Sl ax_0_1 x_0.2.1 cx_0_1) x_0.2.1]) from (H.sel' [1, 0, 1] rfl rfl))) (wanted_yes rfl (by exact (congrArg some hb8))) ?_
  rintro _ σ13 ⟨_, ⟨rfl, rfl⟩, H, -⟩
  replace H : Hp S0 σ0 σ13 [Ch.bx n0 b1 0 [(I x_0.1), (Sl ax_0_1 x_0.2.1 cx_0_1), (I x_0.2.2)] [] [], Ch.ro 0 (Sl ax_0_1 x_0.2.1 cx_0_1) x_0.2.1] := H
  refine st (v := (B r10)) (rv_pick_t (congrArg B hb8) rfl) ?_
  refine st (v := (B r10)) (rv_move rfl) ?_
  rcases Bool.eq_false_or_eq_true r10 with hb14 | hb14
  ·replace h := bif_t hb14 h
   refine st_g (v := (pt b1 2)) (congrArg some hb14) (rv_fieldAddr (off := 2) (ft := 3) Try.underlying31 rfl ti3 rfl rfl) ?_
   have hc15 := H.cell (u := (I x_0.2.2)) (o' := 2) 0 2 rfl rfl rfl
   refine st_g (v := (I x_0.2.2)) (congrArg some hb14) (rv_load1 Try.underlying3 rfl rfl hc15) ?_
   refine st_g (v := (B (decide (0 ≤ x_0.2.2)))) (congrArg some hb14) (rv_geq (a := x_0.2.2) (b := 0) rfl rfl) ?_
   refine st (v := (B (decide (0 ≤ x_0.2.2)))) (rv_pick_t (congrArg B hb14) rfl) ?_
   refine st (v := (B (decide (0 ≤ x_0.2.2)))) (rv_move rfl) ?_
   rcases Bool.eq_false_or_eq_true (decide (0 ≤ x_0.2.2)) with hb16 | hb16
   ·replace h := bif_t hb16 h
    refine st_g (v := (pt b1 2)) (congrArg some hb16) (rv_fieldAddr (off := 2) (ft := 3) Try.underlying31 rfl ti3 rfl rfl) ?_
    have hc17 := H.cell (u := (I x_0.2.2)) (o' := 2) 0 2 rfl rfl rfl
    refine st_g (v := (I x_0.2.2)) (congrArg some hb16) (rv_load1 Try.underlying3 rfl rfl hc17) ?_
    refine st_g (v := (B (decide (x_0.2.2 ≤ 15)))) (congrArg some hb16) (rv_leq (a := x_0.2.2) (b := 15) rfl rfl) ?_
    refine st (v := (B (decide (x_0.2.2 ≤ 15)))) (rv_pick_t (congrArg B hb16) rfl) ?_
    refine st (v := (B (decide (x_0.2.2 ≤ 15)))) (rv_assign rfl) ?_
    refine w_end ?_
    refine q_then ?_
    refine c_ret ?_
    obtain rfl := Option.some.inj h
    exact fin_ret (v := (B (decide (x_0.2.2 ≤ 15)))) (results_ok Try.results82 (res_tmp (v := (B (decide (x_0.2.2 ≤ 15)))) rfl res_nil) rfl) ⟨rfl, rfl⟩ (H.sel' [] rfl rfl)
   ·replace h := bif_f hb16 h
    refine st_skip (congrArg some hb16) ?_
    refine st_skip (congrArg some hb16) ?_
    refine st_skip (congrArg some hb16) ?_
    refine st (v := (B false)) (rv_pick_f (congrArg B hb16) rfl) ?_
    refine st (v := (B false)) (rv_assign rfl) ?_
    refine w_end ?_
    refine q_then ?_
    refine c_ret ?_
    obtain rfl := Option.some.inj h
    exact fin_ret (v := (B false)) (results_ok Try.results82 (res_tmp (v := (B false)) rfl res_nil) rfl) ⟨rfl, rfl⟩ (H.sel' [] rfl rfl)
  ·replace h := bif_f hb14 h
   refine st_skip (congrArg some hb14) ?_
   refine st_skip (congrArg some hb14) ?_
   refine st_skip (congrArg some hb14) ?_
   refine st (v := (B false)) (rv_pick_f (congrArg B hb14) rfl) ?_
   refine st (v := (B false)) (rv_move rfl) ?_
   refine st_skip rfl ?_
   refine st_skip rfl ?_
   refine st_skip rfl ?_
   refine st (v := (B false)) (rv_pick_f rfl rfl) ?_
   refine st (v := (B false)) (rv_assign rfl) ?_
   refine w_end ?_
   refine q_then ?_
   refine c_ret ?_
   obtain rfl := Option.some.inj h
   exact fin_ret (v := (B false)) (results_ok Try.results82 (res_tmp (v := (B false)) rfl res_nil) rfl) ⟨rfl, rfl⟩ (H.sel' [] rfl rfl)
 ·replace h := bif_f hb8 h
  refine st_skip (congrArg some hb8) ?_
  refine st_skip (congrArg some hb8) ?_
  refine st_skip (congrArg some hb8) ?_
  refine st (v := (B false)) (rv_pick_f (congrArg B hb8) rfl) ?_
  refine st (v := (B false)) (rv_move rfl) ?_
  refine st_skip rfl ?_
  refine st_skip rfl ?_
  refine st_skip rfl ?_
  refine st (v := (B false)) (rv_pick_f rfl rfl) ?_
  refine st (v := (B false)) (rv_move rfl) ?_
  refine st_skip rfl ?_
  refine st_skip rfl ?_
  refine st_skip rfl ?_
  refine st (v := (B false)) (rv_pick_f rfl rfl) ?_
  refine st (v := (B false)) (rv_assign rfl) ?_
  refine w_end ?_
  refine q_then ?_
  refine c_ret ?_
  obtain rfl := Option.some.inj h
  exact fin_ret (v := (B false)) (results_ok Try.results82 (res_tmp (v := (B false)) rfl res_nil) rfl) ⟨rfl, rfl⟩ (H.sel' [] rfl rfl)

theorem c_impl_ValidStore {list_0 : List (Int × (List Int) × Int)} {alist_0 : Option Addr} {clist_0 : Nat} {r : Bool} (h : M.impl_ValidStore list_0 = some r) :
    Cal2 Try.prog 25 [(Sl alist_0 list_0 clist_0)] [Ch.ro 0 (Sl alist_0 list_0 clist_0) list_0] (fun n0 v L => v = (B r) ∧ L = []) := by
 refine cal2 (n := 27) Try.func25 rfl rfl rfl rfl ?_
 intro S0 σ0 n0 hn0 H
 unfold M.impl_ValidStore at h
 refine c_seq ?_
 refine rg ?_
 refine st (v := (B false)) (rv_assign rfl) ?_
 refine w_end ?_
 refine q_then ?_
 refine c_seq ?_
 refine c_seq ?_
 refine rg ?_
 refine st (v := (Sl alist_0 list_0 clist_0)) (rv_move rfl) ?_
 refine st (v := (I (list_0.length : Int))) (rv_len Try.underlying23 rfl) ?_
 refine st (v := (B (decide (16 < (list_0.length : Int))))) (rv_gtr (a := (list_0.length : Int)) (b := 16) rfl rfl) ?_
 refine w_end ?_
 refine q_then ?_
 refine cd_cond (decide (16 < (list_0.length : Int))) rfl (fun hb1 => ?_) (fun hb1 => ?_)
 ·replace h := bif_t hb1 h
  refine c_seq ?_
  refine rg ?_
  refine st (v := (B false)) (rv_assign rfl) ?_
  refine w_end ?_
  refine q_then ?_
  refine c_ret ?_
  refine q_then_r ?_
  obtain rfl := Option.some.inj h
  exact fin_ret (v := (B false)) (results_ok Try.results25 (res_tmp (v := (B false)) rfl res_nil) rfl) ⟨rfl, rfl⟩ (H.sel' [] rfl rfl)
 ·replace h := bif_f hb1 h
  refine c_skip ?_
  refine q_then ?_
  refine c_seq ?_
  refine rg ?_
  refine st (v := (I 0)) (rv_assign rfl) ?_
  refine w_end ?_
  refine q_then ?_
  refine c_seq ?_
  refine c_seq ?_
  refine rg ?_
  refine st (v := (Sl alist_0 list_0 clist_0)) (rv_move rfl) ?_
  refine st (v := (I (list_0.length : Int))) (rv_len Try.underlying23 rfl) ?_
  refine st (v := (I 0)) (rv_move rfl) ?_
  refine w_end ?_
  refine q_then ?_
  obtain ⟨o2, hj, h'⟩ := bind_some h
  clear h
  refine c_cut (fun e a w => (∃ t, o2 = (.inl t) ∧ e = .normal ∧ ∃ (ρ : Nat → Value) (σ : St), a = fr 27 (updL ρ []) ∧ w = σ.w ∧ Hp S0 σ0 σ []) ∨ (∃ t, o2 = (.inr t) ∧ e = .ret ∧ ∃ (ρ : Nat → Value) (σ : St), a = fr 27 (updL ρ [(2, (B t))]) ∧ w = σ.w ∧ Hp S0 σ0 σ [])) ?_ ?_
  ·clear h'
   rename _ = some o2 => h
   refine c_blk ?_
   refine wp_loopM _ h (fun s3 a w => ∃ (ρ : Nat → Value) (σ : St), a = fr 27 (updL ρ [(3, (I s3.1)), (9, (Sl alist_0 list_0 clist_0)), (10, (I (list_0.length : Int))), (11, (I s3.2))]) ∧ w = σ.w ∧ Hp S0 σ0 σ [Ch.ro 0 (Sl alist_0 list_0 clist_0) list_0]) ⟨_, σ0, fr_join ⟨rfl, rfl, rfl, rfl, trivial⟩, rfl, H.sel' [0] rfl rfl⟩ ?_
   clear h H
   rintro s3 a w o ⟨ρ, σ4, rfl, rfl, H⟩ h hres
   refine c_seq ?_
   refine rg ?_
   refine st (v := (B (decide (s3.2 < (list_0.length : Int))))) (rv_lss (a := s3.2) (b := (list_0.length : Int)) rfl rfl) ?_
   refine w_end ?_
   refine q_then ?_
   refine c_seq ?_
   refine cd_cond (decide (s3.2 < (list_0.length : Int))) rfl (fun hb5 => ?_) (fun hb5 => ?_)
   ·replace h := bif_t hb5 h
    refine c_skip ?_
    refine q_then ?_
    refine c_seq ?_
    refine c_blk ?_
    refine c_seq ?_
    refine rg ?_
    obtain ⟨x6, hx7, h'⟩ := bind_some h
    clear h
    have h := h'; clear h'
    obtain ⟨b9, o10, hi8, -⟩ := (H.ro 0 rfl).ix hx7
    refine st (v := (pt b9 o10)) (rv_ix Try.underlying23 ti31 rfl rfl hi8) ?_
    obtain ⟨_, ⟨_, _, rfl, rfl, ⟨_, _, rfl, ⟨_, rfl, hR15⟩, rfl⟩⟩, hl11, hc12⟩ := ((H.ro 0 rfl).at hx7 hi8).cells
    obtain ⟨a13, c14, rfl⟩ := hR15.isSl
    replace H := H.add (d := Ch.ro 0 (Sl a13 x6.2.1 c14) x6.2.1) hR15 (fun _ h => h)
    clear hR15
    refine st (v := (.agg #[(I x6.1), (Sl a13 x6.2.1 c14), (I x6.2.2)])) (rv_load Try.underlying31 rfl ti31 rfl hl11 hc12) ?_
    refine st_ex (ex_alloc (cs := [(I 0), (.slice none 0 0), (I 0)]) H hn0 ti31 rfl) (wanted_none _ rfl _) ?_
    rintro _ σ17 ⟨b16, rfl, H, -⟩
    refine st_exS (ex_store_box (k := 0) (cs := [(I 0), (.slice none 0 0), (I 0)]) (vs := [(I x6.1), (Sl a13 x6.2.1 c14), (I x6.2.2)]) (cs' := [(I x6.1), (Sl a13 x6.2.1 c14), (I x6.2.2)]) H (i := 0) rfl ti31 rfl rfl rfl rfl rfl (Nat.le_of_ble_eq_true rfl) (by simp [plain]) rfl) (wanted_none _ rfl _) ?_
    rintro σ18 ⟨H, -⟩
    refine w_end ?_
    refine q_then ?_
    refine c_seq ?_
    refine c_seq ?_
    obtain ⟨o19, hj, h'⟩ := bind_some h
    clear h
    refine c_cut (fun e a w => e = .normal ∧ ∃ (ρ : Nat → Value) (σ : St), a = fr 27 (updL ρ [(5, (pt b16 0)), (9, (Sl alist_0 list_0 clist_0)), (10, (I (list_0.length : Int))), (11, (I s3.2)), (23, (B o19))]) ∧ w = σ.w ∧ Hp S0 σ0 σ [Ch.ro 0 (Sl a13 x6.2.1 c14) x6.2.1, Ch.bx n0 b16 0 [(I x6.1), (Sl a13 x6.2.1 c14), (I x6.2.2)] [] [], Ch.ro 0 (Sl alist_0 list_0 clist_0) list_0]) ?_ ?_
    ·clear h'
     rename _ = some o19 => h
     refine rg ?_
     have hc20 := H.cells 0 rfl
     refine st (v := (.agg #[(I x6.1), (Sl a13 x6.2.1 c14), (I x6.2.2)])) (rv_load (cs := [(I x6.1), (Sl a13 x6.2.1 c14), (I x6.2.2)]) Try.underlying31 rfl ti31 rfl rfl hc20) ?_
     obtain ⟨r21, hx22, h'⟩ := bind_some h
     clear h
     have h := h'; clear h'
     have hc23 := c_impl_validItem (ax_0_1 := a13) (cx_0_1 := c14) hx22
     refine st_call (cx_call hc23 (ent_f hc23.fn rfl) hn0 (show Hp S0 σ0 _ ([Ch.ro 0 (Sl a13 x6.2.1 c14) x6.2.1] ++ [Ch.bx n0 b16 0 [(I x6.1), (Sl a13 x6.2.1 c14), (I x6.2.2)] [] [], Ch.ro 0 (Sl a13 x6.2.1 c14) x6.2.1, Ch.ro 0 (Sl alist_0 list_0 clist_0) list_0]) from (H.sel' [1, 0, 1, 2] rfl rfl))) (wanted_none _ rfl _) ?_
     rintro _ σ24 ⟨_, ⟨rfl, rfl⟩, H, -⟩
     replace H : Hp S0 σ0 σ24 [Ch.bx n0 b16 0 [(I x6.1), (Sl a13 x6.2.1 c14), (I x6.2.2)] [] [], Ch.ro 0 (Sl a13 x6.2.1 c14) x6.2.1, Ch.ro 0 (Sl alist_0 list_0 clist_0) list_0] := H
     refine st (v := (B (!r21))) (rv_not rfl) ?_
     refine st (v := (B (!r21))) (rv_move rfl) ?_
     rcases Bool.eq_false_or_eq_true (!r21) with hb25 | hb25
     ·replace h := bif_t hb25 h
      refine st_skip (congrArg some hb25) ?_
      refine st_skip (congrArg some hb25) ?_
      refine st_skip (congrArg some hb25) ?_
      refine st_skip (congrArg some hb25) ?_
      refine st (v := (B true)) (rv_pick_t (congrArg B hb25) rfl) ?_
      refine w_end ?_
      obtain rfl := Option.some.inj h
      exact ⟨rfl, _, σ24, fr_join ⟨rfl, rfl, rfl, rfl, rfl, trivial⟩, rfl, H.sel' [1, 0, 2] rfl rfl⟩
     ·replace h := bif_f hb25 h
      refine st_g (v := (pt b16 0)) (congrArg some hb25) (rv_fieldAddr (off := 0) (ft := 3) Try.underlying31 rfl ti3 rfl rfl) ?_
      have hc26 := H.cell (u := (I x6.1)) (o' := 0) 0 0 rfl rfl rfl
      refine st_g (v := (I x6.1)) (congrArg some hb25) (rv_load1 Try.underlying3 rfl rfl hc26) ?_
      refine st_g (v := (I s3.1)) (congrArg some hb25) (rv_move rfl) ?_
      refine st_g (v := (B (decide (x6.1 ≤ s3.1)))) (congrArg some hb25) (rv_leq (a := x6.1) (b := s3.1) rfl rfl) ?_
      refine st (v := (B (decide (x6.1 ≤ s3.1)))) (rv_pick_f (congrArg B hb25) rfl) ?_
      refine w_end ?_
      obtain rfl := Option.some.inj h
      exact ⟨rfl, _, σ24, fr_join ⟨rfl, rfl, rfl, rfl, rfl, trivial⟩, rfl, H.sel' [1, 0, 2] rfl rfl⟩
    ·clear hj
     have h := h'
     clear h' H
     rintro e a w ⟨rfl, ρ, σ27, rfl, rfl, H⟩
     refine q_then ?_
     refine cd_cond o19 rfl (fun hb28 => ?_) (fun hb28 => ?_)
     ·replace h := bif_t hb28 h
      refine c_seq ?_
      refine rg ?_
      refine st (v := (B false)) (rv_assign rfl) ?_
      refine w_end ?_
      refine q_then ?_
      refine c_ret ?_
      refine q_then_r ?_
      refine q_blk_r ?_
      refine q_then_r ?_
      refine q_then_r ?_
      refine q_blk_r ?_
      obtain rfl := Option.some.inj h
      obtain rfl := hres _ rfl
      exact .inr (⟨_, rfl, rfl, _, σ27, fr_join ⟨rfl, trivial⟩, rfl, H.sel' [] rfl rfl⟩)
     ·replace h := bif_f hb28 h
      refine c_skip ?_
      refine q_then ?_
      refine rg ?_
      refine st (v := (pt b16 0)) (rv_fieldAddr (off := 0) (ft := 3) Try.underlying31 rfl ti3 rfl rfl) ?_
      have hc29 := H.cell (u := (I x6.1)) (o' := 0) 1 0 rfl rfl rfl
      refine st (v := (I x6.1)) (rv_load1 Try.underlying3 rfl rfl hc29) ?_
      refine st (v := (I x6.1)) (rv_assign rfl) ?_
      refine w_end ?_
      refine q_blk ?_
      refine q_then ?_
      refine rg ?_
      refine st (v := (I (w64 (s3.2 + 1)))) (rv_add (a := s3.2) (b := 1) rfl rfl) ?_
      refine st (v := (I (w64 (s3.2 + 1)))) (rv_move rfl) ?_
      refine w_end ?_
      refine q_then ?_
      obtain rfl := Option.some.inj h
      exact ⟨_, rfl, _, σ27, fr_join ⟨rfl, rfl, rfl, rfl, trivial⟩, rfl, H.sel' [2] rfl rfl⟩
   ·replace h := bif_f hb5 h
    refine c_exit ?_
    refine q_then_x ?_
    refine q_then_x ?_
    refine q_blk_hit ?_
    obtain rfl := Option.some.inj h
    obtain rfl := hres _ rfl
    exact .inl ⟨_, rfl, rfl, _, σ4, fr_join trivial, rfl, H.sel' [] rfl rfl⟩
  ·clear hj
   have h := h'
   clear h' H
   rintro e a w (⟨t30, rfl, rfl, ρ, σ31, rfl, rfl, H⟩ | ⟨t32, rfl, rfl, ρ, σ33, rfl, rfl, H⟩)
   ·replace h := selim_l h
    refine q_then ?_
    refine c_seq ?_
    refine rg ?_
    refine st (v := (B true)) (rv_assign rfl) ?_
    refine w_end ?_
    refine q_then ?_
    refine c_ret ?_
    obtain rfl := Option.some.inj h
    exact fin_ret (v := (B true)) (results_ok Try.results25 (res_tmp (v := (B true)) rfl res_nil) rfl) ⟨rfl, rfl⟩ (H.sel' [] rfl rfl)
   ·replace h := selim_r h
    refine q_then_r ?_
    obtain rfl := Option.some.inj h
    exact fin_ret (v := (B t32)) (results_ok Try.results25 (res_tmp (v := (B t32)) rfl res_nil) rfl) ⟨rfl, rfl⟩ (H.sel' [] rfl rfl)

theorem c_impl_insideBox {at_0 : List Int} {low_1 : List Int} {high_2 : List Int} {aat_0 : Option Addr} {cat_0 : Nat} {alow_1 : Option Addr} {clow_1 : Nat} {ahigh_2 : Option Addr} {chigh_2 : Nat} {r : Bool} (h : M.impl_insideBox at_0 low_1 high_2 = some r) :
    Cal2 Try.prog 79 [(Sl aat_0 at_0 cat_0), (Sl alow_1 low_1 clow_1), (Sl ahigh_2 high_2 chigh_2)] [Ch.ro 0 (Sl aat_0 at_0 cat_0) at_0, Ch.ro 0 (Sl alow_1 low_1 clow_1) low_1, Ch.ro 0 (Sl ahigh_2 high_2 chigh_2) high_2] (fun n0 v L => v = (B r) ∧ L = []) := by
 refine cal2 (n := 31) Try.func79 rfl rfl rfl rfl ?_
 intro S0 σ0 n0 hn0 H
 unfold M.impl_insideBox at h
 refine c_seq ?_
 refine rg ?_
 refine st (v := (B false)) (rv_assign rfl) ?_
 refine w_end ?_
 refine q_then ?_
 refine c_seq ?_
 refine c_seq ?_
 refine rg ?_
 refine st (v := (Sl aat_0 at_0 cat_0)) (rv_move rfl) ?_
 refine st (v := (I (at_0.length : Int))) (rv_len Try.underlying24 rfl) ?_
 refine st (v := (I 0)) (rv_move rfl) ?_
 refine w_end ?_
 refine q_then ?_
 obtain ⟨o1, hj, h'⟩ := bind_some h
 clear h
 refine c_cut (fun e a w => (∃ t, o1 = (.inl t) ∧ e = .normal ∧ ∃ (ρ : Nat → Value) (σ : St), a = fr 31 (updL ρ []) ∧ w = σ.w ∧ Hp S0 σ0 σ []) ∨ (∃ t, o1 = (.inr t) ∧ e = .ret ∧ ∃ (ρ : Nat → Value) (σ : St), a = fr 31 (updL ρ [(6, (B t))]) ∧ w = σ.w ∧ Hp S0 σ0 σ [])) ?_ ?_
 ·clear h'
  rename _ = some o1 => h
  refine c_blk ?_
  refine wp_loopM _ h (fun s2 a w => ∃ (ρ : Nat → Value) (σ : St), a = fr 31 (updL ρ [(1, (Sl alow_1 low_1 clow_1)), (2, (Sl ahigh_2 high_2 chigh_2)), (9, (Sl aat_0 at_0 cat_0)), (10, (I (at_0.length : Int))), (11, (I s2))]) ∧ w = σ.w ∧ Hp S0 σ0 σ [Ch.ro 0 (Sl alow_1 low_1 clow_1) low_1, Ch.ro 0 (Sl ahigh_2 high_2 chigh_2) high_2, Ch.ro 0 (Sl aat_0 at_0 cat_0) at_0]) ⟨_, σ0, fr_join ⟨rfl, rfl, rfl, rfl, rfl, trivial⟩, rfl, H.sel' [1, 2, 0] rfl rfl⟩ ?_
  clear h H
  rintro s2 a w o ⟨ρ, σ3, rfl, rfl, H⟩ h hres
  refine c_seq ?_
  refine rg ?_
  refine st (v := (B (decide (s2 < (at_0.length : Int))))) (rv_lss (a := s2) (b := (at_0.length : Int)) rfl rfl) ?_
  refine w_end ?_
  refine q_then ?_
  refine c_seq ?_
  refine cd_cond (decide (s2 < (at_0.length : Int))) rfl (fun hb4 => ?_) (fun hb4 => ?_)
  ·replace h := bif_t hb4 h
   refine c_skip ?_
   refine q_then ?_
   refine c_seq ?_
   refine c_blk ?_
   refine c_seq ?_
   refine rg ?_
   refine st (v := (I s2)) (rv_move rfl) ?_
   obtain ⟨x5, hx6, h'⟩ := bind_some h
   clear h
   have h := h'; clear h'
   obtain ⟨b8, o9, hi7, -⟩ := (H.ro 2 rfl).ix hx6
   refine st (v := (pt b8 o9)) (rv_ix Try.underlying24 ti3 rfl rfl hi7) ?_
   have hc10 := ((H.ro 2 rfl).at hx6 hi7).int
   refine st (v := (I x5)) (rv_load1 Try.underlying3 rfl rfl hc10) ?_
   refine st (v := (I s2)) (rv_assign rfl) ?_
   refine st (v := (I x5)) (rv_assign rfl) ?_
   refine w_end ?_
   refine q_then ?_
   refine c_seq ?_
   obtain ⟨o11, hj, h'⟩ := bind_some h
   clear h
   refine c_cut (fun e a w => e = .normal ∧ ∃ (ρ : Nat → Value) (σ : St), a = fr 31 (updL ρ [(1, (Sl alow_1 low_1 clow_1)), (2, (Sl ahigh_2 high_2 chigh_2)), (9, (Sl aat_0 at_0 cat_0)), (10, (I (at_0.length : Int))), (11, (I s2)), (29, (B o11))]) ∧ w = σ.w ∧ Hp S0 σ0 σ [Ch.ro 0 (Sl alow_1 low_1 clow_1) low_1, Ch.ro 0 (Sl ahigh_2 high_2 chigh_2) high_2, Ch.ro 0 (Sl aat_0 at_0 cat_0) at_0]) ?_ ?_
   ·clear h'
    rename _ = some o11 => h
    refine rg ?_
    refine st (v := (I x5)) (rv_move rfl) ?_
    refine st (v := (Sl alow_1 low_1 clow_1)) (rv_move rfl) ?_
    refine st (v := (I s2)) (rv_move rfl) ?_
    obtain ⟨x12, hx13, h'⟩ := bind_some h
    clear h
    have h := h'; clear h'
    obtain ⟨b15, o16, hi14, -⟩ := (H.ro 0 rfl).ix hx13
    refine st (v := (pt b15 o16)) (rv_ix Try.underlying24 ti3 rfl rfl hi14) ?_
    have hc17 := ((H.ro 0 rfl).at hx13 hi14).int
    refine st (v := (I x12)) (rv_load1 Try.underlying3 rfl rfl hc17) ?_
    refine st (v := (B (decide (x5 < x12)))) (rv_lss (a := x5) (b := x12) rfl rfl) ?_
    refine st (v := (B (decide (x5 < x12)))) (rv_move rfl) ?_
    rcases Bool.eq_false_or_eq_true (decide (x5 < x12)) with hb18 | hb18
    ·replace h := bif_t hb18 h
     refine st_skip (congrArg some hb18) ?_
     refine st_skip (congrArg some hb18) ?_
     refine st_skip (congrArg some hb18) ?_
     refine st_skip (congrArg some hb18) ?_
     refine st_skip (congrArg some hb18) ?_
     refine st_skip (congrArg some hb18) ?_
     refine st (v := (B true)) (rv_pick_t (congrArg B hb18) rfl) ?_
     refine w_end ?_
     obtain rfl := Option.some.inj h
     exact ⟨rfl, _, σ3, fr_join ⟨rfl, rfl, rfl, rfl, rfl, rfl, trivial⟩, rfl, H.sel' [0, 1, 2] rfl rfl⟩
    ·replace h := bif_f hb18 h
     refine st_g (v := (I x5)) (congrArg some hb18) (rv_move rfl) ?_
     refine st_g (v := (Sl ahigh_2 high_2 chigh_2)) (congrArg some hb18) (rv_move rfl) ?_
     refine st_g (v := (I s2)) (congrArg some hb18) (rv_move rfl) ?_
     obtain ⟨x19, hx20, h'⟩ := bind_some h
     clear h
     have h := h'; clear h'
     obtain ⟨b22, o23, hi21, -⟩ := (H.ro 1 rfl).ix hx20
     refine st_g (v := (pt b22 o23)) (congrArg some hb18) (rv_ix Try.underlying24 ti3 rfl rfl hi21) ?_
     have hc24 := ((H.ro 1 rfl).at hx20 hi21).int
     refine st_g (v := (I x19)) (congrArg some hb18) (rv_load1 Try.underlying3 rfl rfl hc24) ?_
     refine st_g (v := (B (decide (x19 < x5)))) (congrArg some hb18) (rv_gtr (a := x5) (b := x19) rfl rfl) ?_
     refine st (v := (B (decide (x19 < x5)))) (rv_pick_f (congrArg B hb18) rfl) ?_
     refine w_end ?_
     obtain rfl := Option.some.inj h
     exact ⟨rfl, _, σ3, fr_join ⟨rfl, rfl, rfl, rfl, rfl, rfl, trivial⟩, rfl, H.sel' [0, 1, 2] rfl rfl⟩
   ·clear hj
    have h := h'
    clear h' H
    rintro e a w ⟨rfl, ρ, σ25, rfl, rfl, H⟩
    refine q_then ?_
    refine cd_cond o11 rfl (fun hb26 => ?_) (fun hb26 => ?_)
    ·replace h := bif_t hb26 h
     refine c_seq ?_
     refine rg ?_
     refine st (v := (B false)) (rv_assign rfl) ?_
     refine w_end ?_
     refine q_then ?_
     refine c_ret ?_
     refine q_blk_r ?_
     refine q_then_r ?_
     refine q_then_r ?_
     refine q_blk_r ?_
     obtain rfl := Option.some.inj h
     obtain rfl := hres _ rfl
     exact .inr (⟨_, rfl, rfl, _, σ25, fr_join ⟨rfl, trivial⟩, rfl, H.sel' [] rfl rfl⟩)
    ·replace h := bif_f hb26 h
     refine c_skip ?_
     refine q_blk ?_
     refine q_then ?_
     refine rg ?_
     refine st (v := (I (w64 (s2 + 1)))) (rv_add (a := s2) (b := 1) rfl rfl) ?_
     refine st (v := (I (w64 (s2 + 1)))) (rv_move rfl) ?_
     refine w_end ?_
     refine q_then ?_
     obtain rfl := Option.some.inj h
     exact ⟨_, rfl, _, σ25, fr_join ⟨rfl, rfl, rfl, rfl, rfl, trivial⟩, rfl, H.sel' [0, 1, 2] rfl rfl⟩
  ·replace h := bif_f hb4 h
   refine c_exit ?_
   refine q_then_x ?_
   refine q_then_x ?_
   refine q_blk_hit ?_
   obtain rfl := Option.some.inj h
   obtain rfl := hres _ rfl
   exact .inl ⟨_, rfl, rfl, _, σ3, fr_join trivial, rfl, H.sel' [] rfl rfl⟩
 ·clear hj
  have h := h'
  clear h' H
  rintro e a w (⟨t27, rfl, rfl, ρ, σ28, rfl, rfl, H⟩ | ⟨t29, rfl, rfl, ρ, σ30, rfl, rfl, H⟩)
  ·replace h := selim_l h
   refine q_then ?_
   refine c_seq ?_
   refine rg ?_
   refine st (v := (B true)) (rv_assign rfl) ?_
   refine w_end ?_
   refine q_then ?_
   refine c_ret ?_
   obtain rfl := Option.some.inj h
   exact fin_ret (v := (B true)) (results_ok Try.results79 (res_tmp (v := (B true)) rfl res_nil) rfl) ⟨rfl, rfl⟩ (H.sel' [] rfl rfl)
  ·replace h := selim_r h
   refine q_then_r ?_
   obtain rfl := Option.some.inj h
   exact fin_ret (v := (B t29)) (results_ok Try.results79 (res_tmp (v := (B t29)) rfl res_nil) rfl) ⟨rfl, rfl⟩ (H.sel' [] rfl rfl)

theorem c_impl_InBox {list_0 : List (Int × (List Int) × Int)} {low_1 : List Int} {high_2 : List Int} {alist_0 : Option Addr} {clist_0 : Nat} {alow_1 : Option Addr} {clow_1 : Nat} {ahigh_2 : Option Addr} {chigh_2 : Nat} {r : (List Int)} (h : M.impl_InBox list_0 low_1 high_2 = some r) :
    Cal2 Try.prog 22 [(Sl alist_0 list_0 clist_0), (Sl alow_1 low_1 clow_1), (Sl ahigh_2 high_2 chigh_2)] [Ch.ro 0 (Sl alist_0 list_0 clist_0) list_0, Ch.ro 0 (Sl alow_1 low_1 clow_1) low_1, Ch.ro 0 (Sl ahigh_2 high_2 chigh_2) high_2] (fun n0 v L => ∃ (az1 : Option Addr), ∃ (cz2 : Nat), v = (Sl az1 r cz2) ∧ L = [Ch.own n0 n0 (Sl az1 r cz2) r]) := by
 refine cal2 (n := 41) Try.func22 rfl rfl rfl rfl ?_
 intro S0 σ0 n0 hn0 H
 unfold M.impl_InBox at h
 refine c_seq ?_
 refine rg ?_
 refine st (v := (.slice none 0 0)) (rv_assign rfl) ?_
 refine w_end ?_
 refine q_then ?_
 refine c_seq ?_
 refine c_seq ?_
 obtain ⟨o1, hj, h'⟩ := bind_some h
 clear h
 refine c_cut (fun e a w => e = .normal ∧ ∃ (ρ : Nat → Value) (σ : St), a = fr 41 (updL ρ [(0, (Sl alist_0 list_0 clist_0)), (1, (Sl alow_1 low_1 clow_1)), (2, (Sl ahigh_2 high_2 chigh_2)), (22, (B o1))]) ∧ w = σ.w ∧ Hp S0 σ0 σ [Ch.ro 0 (Sl alist_0 list_0 clist_0) list_0, Ch.ro 0 (Sl alow_1 low_1 clow_1) low_1, Ch.ro 0 (Sl ahigh_2 high_2 chigh_2) high_2]) ?_ ?_
 ·clear h'
  rename _ = some o1 => h
  refine rg ?_
  refine st (v := (Sl alist_0 list_0 clist_0)) (rv_move rfl) ?_
  obtain ⟨r2, hx3, h'⟩ := bind_some h
  clear h
  have h := h'; clear h'
  have hc4 := c_impl_ValidStore (alist_0 := alist_0) (clist_0 := clist_0) hx3
  refine st_call (cx_call hc4 (ent_f hc4.fn rfl) hn0 (show Hp S0 σ0 _ ([Ch.ro 0 (Sl alist_0 list_0 clist_0) list_0] ++ [Ch.ro 0 (Sl alist_0 list_0 clist_0) list_0, Ch.ro 0 (Sl alow_1 low_1 clow_1) low_1, Ch.ro 0 (Sl ahigh_2 high_2 chigh_2) high_2]) from (H.sel' [0, 0, 1, 2] rfl rfl))) (wanted_none _ rfl _) ?_
  rintro _ σ5 ⟨_, ⟨rfl, rfl⟩, H, -⟩
  replace H : Hp S0 σ0 σ5 [Ch.ro 0 (Sl alist_0 list_0 clist_0) list_0, Ch.ro 0 (Sl alow_1 low_1 clow_1) low_1, Ch.ro 0 (Sl ahigh_2 high_2 chigh_2) high_2] := H
  refine st (v := (B (!r2))) (rv_not rfl) ?_
  refine st (v := (B (!r2))) (rv_move rfl) ?_
  rcases Bool.eq_false_or_eq_true (!r2) with hb6 | hb6
  ·replace h := bif_t hb6 h
   refine st_skip (congrArg some hb6) ?_
   refine st_skip (congrArg some hb6) ?_
   refine st_skip (congrArg some hb6) ?_
   refine st (v := (B true)) (rv_pick_t (congrArg B hb6) rfl) ?_
   refine st (v := (B true)) (rv_move rfl) ?_
   refine st_skip rfl ?_
   refine st_skip rfl ?_
   refine st_skip rfl ?_
   refine st (v := (B true)) (rv_pick_t rfl rfl) ?_
   refine w_end ?_
   obtain rfl := Option.some.inj h
   exact ⟨rfl, _, σ5, fr_join ⟨rfl, rfl, rfl, rfl, trivial⟩, rfl, H.sel' [0, 1, 2] rfl rfl⟩
  ·replace h := bif_f hb6 h
   refine st_g (v := (Sl alow_1 low_1 clow_1)) (congrArg some hb6) (rv_move rfl) ?_
   obtain ⟨r7, hx8, h'⟩ := bind_some h
   clear h
   have h := h'; clear h'
   have hc9 := c_impl_ValidVector (av_0 := alow_1) (cv_0 := clow_1) hx8
   refine st_call (cx_call hc9 (ent_f hc9.fn rfl) hn0 (show Hp S0 σ0 _ ([Ch.ro 0 (Sl alow_1 low_1 clow_1) low_1] ++ [Ch.ro 0 (Sl alist_0 list_0 clist_0) list_0, Ch.ro 0 (Sl alow_1 low_1 clow_1) low_1, Ch.ro 0 (Sl ahigh_2 high_2 chigh_2) high_2]) from (H.sel' [1, 0, 1, 2] rfl rfl))) (wanted_yes rfl (by exact (congrArg some hb6))) ?_
   rintro _ σ10 ⟨_, ⟨rfl, rfl⟩, H, -⟩
   replace H : Hp S0 σ0 σ10 [Ch.ro 0 (Sl alist_0 list_0 clist_0) list_0, Ch.ro 0 (Sl alow_1 low_1 clow_1) low_1, Ch.ro 0 (Sl ahigh_2 high_2 chigh_2) high_2] := H
   refine st_g (v := (B (!r7))) (congrArg some hb6) (rv_not rfl) ?_
   refine st (v := (B (!r7))) (rv_pick_f (congrArg B hb6) rfl) ?_
   refine st (v := (B (!r7))) (rv_move rfl) ?_
   rcases Bool.eq_false_or_eq_true (!r7) with hb11 | hb11
   ·replace h := bif_t hb11 h
    refine st_skip (congrArg some hb11) ?_
    refine st_skip (congrArg some hb11) ?_
    refine st_skip (congrArg some hb11) ?_
    refine st (v := (B true)) (rv_pick_t (congrArg B hb11) rfl) ?_
    refine w_end ?_
    obtain rfl := Option.some.inj h
    exact ⟨rfl, _, σ10, fr_join ⟨rfl, rfl, rfl, rfl, trivial⟩, rfl, H.sel' [0, 1, 2] rfl rfl⟩
   ·replace h := bif_f hb11 h
    refine st_g (v := (Sl ahigh_2 high_2 chigh_2)) (congrArg some hb11) (rv_move rfl) ?_
    obtain ⟨r12, hx13, h'⟩ := bind_some h
    clear h
    have h := h'; clear h'
    have hc14 := c_impl_ValidVector (av_0 := ahigh_2) (cv_0 := chigh_2) hx13
    refine st_call (cx_call hc14 (ent_f hc14.fn rfl) hn0 (show Hp S0 σ0 _ ([Ch.ro 0 (Sl ahigh_2 high_2 chigh_2) high_2] ++ [Ch.ro 0 (Sl alist_0 list_0 clist_0) list_0, Ch.ro 0 (Sl alow_1 low_1 clow_1) low_1, Ch.ro 0 (Sl ahigh_2 high_2 chigh_2) high_2]) from (H.sel' [2, 0, 1, 2] rfl rfl))) (wanted_yes rfl (by exact (congrArg some hb11))) ?_
    rintro _ σ15 ⟨_, ⟨rfl, rfl⟩, H, -⟩
    replace H : Hp S0 σ0 σ15 [Ch.ro 0 (Sl alist_0 list_0 clist_0) list_0, Ch.ro 0 (Sl alow_1 low_1 clow_1) low_1, Ch.ro 0 (Sl ahigh_2 high_2 chigh_2) high_2] := H
    refine st_g (v := (B (!r12))) (congrArg some hb11) (rv_not rfl) ?_
    refine st (v := (B (!r12))) (rv_pick_f (congrArg B hb11) rfl) ?_
    refine w_end ?_
    obtain rfl := Option.some.inj h
    exact ⟨rfl, _, σ15, fr_join ⟨rfl, rfl, rfl, rfl, trivial⟩, rfl, H.sel' [0, 1, 2] rfl rfl⟩
 ·clear hj
  have h := h'
  clear h' H
  rintro e a w ⟨rfl, ρ, σ16, rfl, rfl, H⟩
  refine q_then ?_
  refine cd_cond o1 rfl (fun hb17 => ?_) (fun hb17 => ?_)
  ·replace h := bif_t hb17 h
   refine c_seq ?_
   refine rg ?_
   refine st (v := (.slice none 0 0)) (rv_assign rfl) ?_
   refine w_end ?_
   refine q_then ?_
   refine c_ret ?_
   refine q_then_r ?_
   replace H := H.nilOwn Int n0 n0
   obtain rfl := Option.some.inj h
   exact fin_ret (v := (.slice none 0 0)) (results_ok Try.results22 (res_tmp (v := (.slice none 0 0)) rfl res_nil) rfl) ⟨none, 0, rfl, rfl⟩ (H.sel' [0] rfl rfl)
  ·replace h := bif_f hb17 h
   refine c_skip ?_
   refine q_then ?_
   refine c_seq ?_
   refine rg ?_
   refine st (v := (.slice none 0 0)) (rv_assign rfl) ?_
   refine w_end ?_
   refine q_then ?_
   refine c_seq ?_
   refine c_seq ?_
   refine rg ?_
   refine st (v := (Sl alist_0 list_0 clist_0)) (rv_move rfl) ?_
   refine st (v := (I (list_0.length : Int))) (rv_len Try.underlying23 rfl) ?_
   refine st (v := (I 0)) (rv_move rfl) ?_
   refine w_end ?_
   refine q_then ?_
   obtain ⟨o18, hj, h'⟩ := bind_some h
   clear h
   refine c_cut (fun e a w => e = .normal ∧ ∃ (ρ : Nat → Value) (σ : St) (aj1 : Option Addr) (cj2 : Nat), a = fr 41 (updL ρ [(7, (Sl aj1 o18 cj2))]) ∧ w = σ.w ∧ Hp S0 σ0 σ [Ch.own n0 n0 (Sl aj1 o18 cj2) o18]) ?_ ?_
   ·clear h'
    rename _ = some o18 => h
    refine c_blk ?_
    replace H := H.nilOwn Int n0 n0
    refine wp_loopM _ h (fun s19 a w => ∃ (ρ : Nat → Value) (σ : St) (aj1 : Option Addr) (cj2 : Nat), a = fr 41 (updL ρ [(1, (Sl alow_1 low_1 clow_1)), (2, (Sl ahigh_2 high_2 chigh_2)), (7, (Sl aj1 s19.1 cj2)), (23, (Sl alist_0 list_0 clist_0)), (24, (I (list_0.length : Int))), (25, (I s19.2))]) ∧ w = σ.w ∧ Hp S0 σ0 σ [Ch.ro 0 (Sl alow_1 low_1 clow_1) low_1, Ch.ro 0 (Sl ahigh_2 high_2 chigh_2) high_2, Ch.own n0 n0 (Sl aj1 s19.1 cj2) s19.1, Ch.ro 0 (Sl alist_0 list_0 clist_0) list_0]) ⟨_, σ16, none, 0, fr_join ⟨rfl, rfl, rfl, rfl, rfl, rfl, trivial⟩, rfl, H.sel' [2, 3, 0, 1] rfl rfl⟩ ?_
    clear h H
    rintro s19 a w o ⟨ρ, σ20, a21, c22, rfl, rfl, H⟩ h hres
    refine c_seq ?_
    refine rg ?_
    refine st (v := (B (decide (s19.2 < (list_0.length : Int))))) (rv_lss (a := s19.2) (b := (list_0.length : Int)) rfl rfl) ?_
    refine w_end ?_
    refine q_then ?_
    refine c_seq ?_
    refine cd_cond (decide (s19.2 < (list_0.length : Int))) rfl (fun hb23 => ?_) (fun hb23 => ?_)
    ·replace h := bif_t hb23 h
     refine c_skip ?_
     refine q_then ?_
     refine c_seq ?_
     obtain ⟨o24, hj, h'⟩ := bind_some h
     clear h
     refine c_cut (fun e a w => e = .normal ∧ ∃ (ρ : Nat → Value) (σ : St) (aj1 : Option Addr) (cj2 : Nat), a = fr 41 (updL ρ [(1, (Sl alow_1 low_1 clow_1)), (2, (Sl ahigh_2 high_2 chigh_2)), (7, (Sl aj1 o24 cj2)), (23, (Sl alist_0 list_0 clist_0)), (24, (I (list_0.length : Int))), (25, (I s19.2))]) ∧ w = σ.w ∧ Hp S0 σ0 σ [Ch.ro 0 (Sl alow_1 low_1 clow_1) low_1, Ch.ro 0 (Sl ahigh_2 high_2 chigh_2) high_2, Ch.own n0 n0 (Sl aj1 o24 cj2) o24, Ch.ro 0 (Sl alist_0 list_0 clist_0) list_0]) ?_ ?_
     ·clear h'
      rename _ = some o24 => h
      refine c_blk ?_
      refine c_seq ?_
      refine rg ?_
      obtain ⟨x25, hx26, h'⟩ := bind_some h
      clear h
      have h := h'; clear h'
      obtain ⟨b28, o29, hi27, -⟩ := (H.ro 3 rfl).ix hx26
      refine st (v := (pt b28 o29)) (rv_ix Try.underlying23 ti31 rfl rfl hi27) ?_
      obtain ⟨_, ⟨_, _, rfl, rfl, ⟨_, _, rfl, ⟨_, rfl, hR34⟩, rfl⟩⟩, hl30, hc31⟩ := ((H.ro 3 rfl).at hx26 hi27).cells
      obtain ⟨a32, c33, rfl⟩ := hR34.isSl
      replace H := H.add (d := Ch.ro 0 (Sl a32 x25.2.1 c33) x25.2.1) hR34 (fun _ h => h)
      clear hR34
      refine st (v := (.agg #[(I x25.1), (Sl a32 x25.2.1 c33), (I x25.2.2)])) (rv_load Try.underlying31 rfl ti31 rfl hl30 hc31) ?_
      refine st_ex (ex_alloc (cs := [(I 0), (.slice none 0 0), (I 0)]) H hn0 ti31 rfl) (wanted_none _ rfl _) ?_
      rintro _ σ36 ⟨b35, rfl, H, -⟩
      refine st_exS (ex_store_box (k := 0) (cs := [(I 0), (.slice none 0 0), (I 0)]) (vs := [(I x25.1), (Sl a32 x25.2.1 c33), (I x25.2.2)]) (cs' := [(I x25.1), (Sl a32 x25.2.1 c33), (I x25.2.2)]) H (i := 0) rfl ti31 rfl rfl rfl rfl rfl (Nat.le_of_ble_eq_true rfl) (by simp [plain]) rfl) (wanted_none _ rfl _) ?_
      rintro σ37 ⟨H, -⟩
      refine w_end ?_
      refine q_then ?_
      refine c_seq ?_
      refine rg ?_
      refine st (v := (pt b35 1)) (rv_fieldAddr (off := 1) (ft := 24) Try.underlying31 rfl ti24 rfl rfl) ?_
      have hc38 := H.cell (u := (Sl a32 x25.2.1 c33)) (o' := 1) 0 1 rfl rfl rfl
      refine st (v := (Sl a32 x25.2.1 c33)) (rv_load1 Try.underlying24 rfl rfl hc38) ?_
      refine st (v := (Sl alow_1 low_1 clow_1)) (rv_move rfl) ?_
      refine st (v := (Sl ahigh_2 high_2 chigh_2)) (rv_move rfl) ?_
      obtain ⟨r39, hx40, h'⟩ := bind_some h
      clear h
      have h := h'; clear h'
      have hc41 := c_impl_insideBox (aat_0 := a32) (cat_0 := c33) (alow_1 := alow_1) (clow_1 := clow_1) (ahigh_2 := ahigh_2) (chigh_2 := chigh_2) hx40
      refine st_call (cx_call hc41 (ent_f hc41.fn rfl) hn0 (show Hp S0 σ0 _ ([Ch.ro 0 (Sl a32 x25.2.1 c33) x25.2.1, Ch.ro 0 (Sl alow_1 low_1 clow_1) low_1, Ch.ro 0 (Sl ahigh_2 high_2 chigh_2) high_2] ++ [Ch.bx n0 b35 0 [(I x25.1), (Sl a32 x25.2.1 c33), (I x25.2.2)] [] [], Ch.ro 0 (Sl a32 x25.2.1 c33) x25.2.1, Ch.ro 0 (Sl alow_1 low_1 clow_1) low_1, Ch.ro 0 (Sl ahigh_2 high_2 chigh_2) high_2, Ch.own n0 n0 (Sl a21 s19.1 c22) s19.1, Ch.ro 0 (Sl alist_0 list_0 clist_0) list_0]) from (H.sel' [1, 2, 3, 0, 1, 2, 3, 4, 5] rfl rfl))) (wanted_none _ rfl _) ?_
      rintro _ σ42 ⟨_, ⟨rfl, rfl⟩, H, -⟩
      replace H : Hp S0 σ0 σ42 [Ch.bx n0 b35 0 [(I x25.1), (Sl a32 x25.2.1 c33), (I x25.2.2)] [] [], Ch.ro 0 (Sl a32 x25.2.1 c33) x25.2.1, Ch.ro 0 (Sl alow_1 low_1 clow_1) low_1, Ch.ro 0 (Sl ahigh_2 high_2 chigh_2) high_2, Ch.own n0 n0 (Sl a21 s19.1 c22) s19.1, Ch.ro 0 (Sl alist_0 list_0 clist_0) list_0] := H
      refine w_end ?_
      refine q_then ?_
      refine cd_cond r39 rfl (fun hb43 => ?_) (fun hb43 => ?_)
      ·replace h := bif_t hb43 h
       refine rg ?_
       refine st (v := (Sl a21 s19.1 c22)) (rv_move rfl) ?_
       refine st (v := (pt b35 0)) (rv_fieldAddr (off := 0) (ft := 3) Try.underlying31 rfl ti3 rfl rfl) ?_
       have hc44 := H.cell (u := (I x25.1)) (o' := 0) 0 0 rfl rfl rfl
       refine st (v := (I x25.1)) (rv_load1 Try.underlying3 rfl rfl hc44) ?_
       refine st_ex (ex_buildSlice (el := n0) (xs := ([x25.1] : List Int)) (ps := [(0, (I x25.1))]) (cs := [(I x25.1)]) H hn0 Try.underlying24 ti3 rfl rfl (by kernel_rfl) (.cons (c := [(I x25.1)]) rfl (.nil)) rfl) (wanted_none _ rfl _) ?_
       rintro _ σ46 ⟨b45, rfl, H, -⟩
       obtain ⟨xs47, hx48, h'⟩ := bind_some h
       clear h
       have h := h'; clear h'
       refine st_ex (ex_append H (i := 5) rfl Try.underlying24 Try.underlying24 ti3 rfl rfl (by decide) (H.own 0 rfl).rd hx48 hn0 rfl rfl) (wanted_none _ rfl _) ?_
       rintro _ σ51 ⟨a49, c50, rfl, H, -⟩
       refine st (v := (Sl a49 xs47 c50)) (rv_assign rfl) ?_
       refine w_end ?_
       refine q_blk ?_
       obtain rfl := Option.some.inj h
       exact ⟨rfl, _, σ51, a49, c50, fr_join ⟨rfl, rfl, rfl, rfl, rfl, rfl, trivial⟩, rfl, H.sel' [4, 5, 0, 6] rfl rfl⟩
      ·replace h := bif_f hb43 h
       refine c_skip ?_
       refine q_blk ?_
       obtain rfl := Option.some.inj h
       exact ⟨rfl, _, σ42, a21, c22, fr_join ⟨rfl, rfl, rfl, rfl, rfl, rfl, trivial⟩, rfl, H.sel' [2, 3, 4, 5] rfl rfl⟩
     ·clear hj
      have h := h'
      clear h' H
      rintro e a w ⟨rfl, ρ, σ52, a53, c54, rfl, rfl, H⟩
      refine q_then ?_
      refine rg ?_
      refine st (v := (I (w64 (s19.2 + 1)))) (rv_add (a := s19.2) (b := 1) rfl rfl) ?_
      refine st (v := (I (w64 (s19.2 + 1)))) (rv_move rfl) ?_
      refine w_end ?_
      refine q_then ?_
      obtain rfl := Option.some.inj h
      exact ⟨_, rfl, _, σ52, a53, c54, fr_join ⟨rfl, rfl, rfl, rfl, rfl, rfl, trivial⟩, rfl, H.sel' [0, 1, 2, 3] rfl rfl⟩
    ·replace h := bif_f hb23 h
     refine c_exit ?_
     refine q_then_x ?_
     refine q_then_x ?_
     refine q_blk_hit ?_
     obtain rfl := Option.some.inj h
     obtain rfl := hres _ rfl
     exact ⟨rfl, _, σ20, a21, c22, fr_join ⟨rfl, trivial⟩, rfl, H.sel' [2] rfl rfl⟩
   ·clear hj
    have h := h'
    clear h' H
    rintro e a w ⟨rfl, ρ, σ55, a56, c57, rfl, rfl, H⟩
    refine q_then ?_
    refine c_seq ?_
    refine rg ?_
    refine st (v := (Sl a56 o18 c57)) (rv_move rfl) ?_
    refine st (v := (Sl a56 o18 c57)) (rv_assign rfl) ?_
    refine w_end ?_
    refine q_then ?_
    refine c_ret ?_
    obtain rfl := Option.some.inj h
    exact fin_ret (v := (Sl a56 o18 c57)) (results_ok Try.results22 (res_tmp (v := (Sl a56 o18 c57)) rfl res_nil) rfl) ⟨a56, c57, rfl, rfl⟩ (H.sel' [0] rfl rfl)

theorem c_spec_inRange {n_0 : Int} {low_1 : Int} {high_2 : Int}  {r : Bool} (h : M.spec_inRange n_0 low_1 high_2 = some r) :
    Cal2 Try.prog 73 [(I n_0), (I low_1), (I high_2)] [] (fun n0 v L => v = (B r) ∧ L = []) := by
 refine cal2 (n := 15) Try.func73 rfl rfl rfl rfl ?_
 intro S0 σ0 n0 hn0 H
 unfold M.spec_inRange at h
 refine c_seq ?_
 refine rg ?_
 refine st (v := (B false)) (rv_assign rfl) ?_
 refine w_end ?_
 refine q_then ?_
 refine c_seq ?_
 refine rg ?_
 refine st (v := (I low_1)) (rv_move rfl) ?_
 refine st (v := (I n_0)) (rv_move rfl) ?_
 refine st (v := (B (decide (low_1 ≤ n_0)))) (rv_leq (a := low_1) (b := n_0) rfl rfl) ?_
 refine st (v := (B (decide (low_1 ≤ n_0)))) (rv_move rfl) ?_
 rcases Bool.eq_false_or_eq_true (decide (low_1 ≤ n_0)) with hb1 | hb1
 ·replace h := bif_t hb1 h
  refine st_g (v := (I n_0)) (congrArg some hb1) (rv_move rfl) ?_
  refine st_g (v := (I high_2)) (congrArg some hb1) (rv_move rfl) ?_
  refine st_g (v := (B (decide (n_0 ≤ high_2)))) (congrArg some hb1) (rv_leq (a := n_0) (b := high_2) rfl rfl) ?_
  refine st (v := (B (decide (n_0 ≤ high_2)))) (rv_pick_t (congrArg B hb1) rfl) ?_
  refine st (v := (B (decide (n_0 ≤ high_2)))) (rv_assign rfl) ?_
  refine w_end ?_
  refine q_then ?_
  refine c_ret ?_
  obtain rfl := Option.some.inj h
  exact fin_ret (v := (B (decide (n_0 ≤ high_2)))) (results_ok Try.results73 (res_tmp (v := (B (decide (n_0 ≤ high_2)))) rfl res_nil) rfl) ⟨rfl, rfl⟩ (H.sel' [] rfl rfl)
 ·replace h := bif_f hb1 h
  refine st_skip (congrArg some hb1) ?_
  refine st_skip (congrArg some hb1) ?_
  refine st_skip (congrArg some hb1) ?_
  refine st (v := (B false)) (rv_pick_f (congrArg B hb1) rfl) ?_
  refine st (v := (B false)) (rv_assign rfl) ?_
  refine w_end ?_
  refine q_then ?_
  refine c_ret ?_
  obtain rfl := Option.some.inj h
  exact fin_ret (v := (B false)) (results_ok Try.results73 (res_tmp (v := (B false)) rfl res_nil) rfl) ⟨rfl, rfl⟩ (H.sel' [] rfl rfl)

theorem c_spec_allIn {list_0 : List Int} {low_1 : Int} {high_2 : Int} {alist_0 : Option Addr} {clist_0 : Nat} {r : Bool} (h : M.spec_allIn list_0 low_1 high_2 = some r) :
    Cal2 Try.prog 114 [(Sl alist_0 list_0 clist_0), (I low_1), (I high_2)] [Ch.ro 0 (Sl alist_0 list_0 clist_0) list_0] (fun n0 v L => v = (B r) ∧ L = []) := by
 refine cal2 (n := 22) Try.func114 rfl rfl rfl rfl ?_
 intro S0 σ0 n0 hn0 H
 unfold M.spec_allIn at h
 refine c_seq ?_
 refine rg ?_
 refine st (v := (B false)) (rv_assign rfl) ?_
 refine w_end ?_
 refine q_then ?_
 refine c_seq ?_
 refine c_seq ?_
 refine rg ?_
 refine st (v := (I 0)) (rv_assign rfl) ?_
 refine w_end ?_
 refine q_then ?_
 obtain ⟨o1, hj, h'⟩ := bind_some h
 clear h
 refine c_cut (fun e a w => (∃ t, o1 = (.inl t) ∧ e = .normal ∧ ∃ (ρ : Nat → Value) (σ : St), a = fr 22 (updL ρ []) ∧ w = σ.w ∧ Hp S0 σ0 σ []) ∨ (∃ t, o1 = (.inr t) ∧ e = .ret ∧ ∃ (ρ : Nat → Value) (σ : St), a = fr 22 (updL ρ [(6, (B t))]) ∧ w = σ.w ∧ Hp S0 σ0 σ [])) ?_ ?_
 ·clear h'
  rename _ = some o1 => h
  refine c_blk ?_
  refine wp_loopM _ h (fun s2 a w => ∃ (ρ : Nat → Value) (σ : St), a = fr 22 (updL ρ [(0, (Sl alist_0 list_0 clist_0)), (1, (I low_1)), (2, (I high_2)), (7, (I s2))]) ∧ w = σ.w ∧ Hp S0 σ0 σ [Ch.ro 0 (Sl alist_0 list_0 clist_0) list_0]) ⟨_, σ0, fr_join ⟨rfl, rfl, rfl, rfl, trivial⟩, rfl, H.sel' [0] rfl rfl⟩ ?_
  clear h H
  rintro s2 a w o ⟨ρ, σ3, rfl, rfl, H⟩ h hres
  refine c_seq ?_
  refine c_seq ?_
  refine rg ?_
  refine st (v := (I s2)) (rv_move rfl) ?_
  refine st (v := (Sl alist_0 list_0 clist_0)) (rv_move rfl) ?_
  refine st (v := (I (list_0.length : Int))) (rv_len Try.underlying24 rfl) ?_
  refine st (v := (B (decide (s2 < (list_0.length : Int))))) (rv_lss (a := s2) (b := (list_0.length : Int)) rfl rfl) ?_
  refine w_end ?_
  refine q_then ?_
  refine cd_cond (decide (s2 < (list_0.length : Int))) rfl (fun hb4 => ?_) (fun hb4 => ?_)
  ·replace h := bif_t hb4 h
   refine c_skip ?_
   refine q_then ?_
   refine c_seq ?_
   refine c_blk ?_
   refine c_seq ?_
   refine rg ?_
   refine st (v := (Sl alist_0 list_0 clist_0)) (rv_move rfl) ?_
   refine st (v := (I s2)) (rv_move rfl) ?_
   obtain ⟨x5, hx6, h'⟩ := bind_some h
   clear h
   have h := h'; clear h'
   obtain ⟨b8, o9, hi7, -⟩ := (H.ro 0 rfl).ix hx6
   refine st (v := (pt b8 o9)) (rv_ix Try.underlying24 ti3 rfl rfl hi7) ?_
   have hc10 := ((H.ro 0 rfl).at hx6 hi7).int
   refine st (v := (I x5)) (rv_load1 Try.underlying3 rfl rfl hc10) ?_
   refine st (v := (I low_1)) (rv_move rfl) ?_
   refine st (v := (I high_2)) (rv_move rfl) ?_
   obtain ⟨r11, hx12, h'⟩ := bind_some h
   clear h
   have h := h'; clear h'
   have hc13 := c_spec_inRange hx12
   refine st_call (cx_call hc13 (ent_f hc13.fn rfl) hn0 (show Hp S0 σ0 _ ([] ++ [Ch.ro 0 (Sl alist_0 list_0 clist_0) list_0]) from (H.sel' [0] rfl rfl))) (wanted_none _ rfl _) ?_
   rintro _ σ14 ⟨_, ⟨rfl, rfl⟩, H, -⟩
   replace H : Hp S0 σ0 σ14 [Ch.ro 0 (Sl alist_0 list_0 clist_0) list_0] := H
   refine st (v := (B (!r11))) (rv_not rfl) ?_
   refine w_end ?_
   refine q_then ?_
   refine cd_cond (!r11) rfl (fun hb15 => ?_) (fun hb15 => ?_)
   ·replace h := bif_t hb15 h
    refine c_seq ?_
    refine rg ?_
    refine st (v := (B false)) (rv_assign rfl) ?_
    refine w_end ?_
    refine q_then ?_
    refine c_ret ?_
    refine q_blk_r ?_
    refine q_then_r ?_
    refine q_then_r ?_
    refine q_blk_r ?_
    obtain rfl := Option.some.inj h
    obtain rfl := hres _ rfl
    exact .inr (⟨_, rfl, rfl, _, σ14, fr_join ⟨rfl, trivial⟩, rfl, H.sel' [] rfl rfl⟩)
   ·replace h := bif_f hb15 h
    refine c_skip ?_
    refine q_blk ?_
    refine q_then ?_
    refine rg ?_
    refine st (v := (I s2)) (rv_move rfl) ?_
    refine st (v := (I (w64 (s2 + 1)))) (rv_add (a := s2) (b := 1) rfl rfl) ?_
    refine st (v := (I (w64 (s2 + 1)))) (rv_assign rfl) ?_
    refine w_end ?_
    refine q_then ?_
    obtain rfl := Option.some.inj h
    exact ⟨_, rfl, _, σ14, fr_join ⟨rfl, rfl, rfl, rfl, trivial⟩, rfl, H.sel' [0] rfl rfl⟩
  ·replace h := bif_f hb4 h
   refine c_exit ?_
   refine q_then_x ?_
   refine q_then_x ?_
   refine q_blk_hit ?_
   obtain rfl := Option.some.inj h
   obtain rfl := hres _ rfl
   exact .inl ⟨_, rfl, rfl, _, σ3, fr_join trivial, rfl, H.sel' [] rfl rfl⟩
 ·clear hj
  have h := h'
  clear h' H
  rintro e a w (⟨t16, rfl, rfl, ρ, σ17, rfl, rfl, H⟩ | ⟨t18, rfl, rfl, ρ, σ19, rfl, rfl, H⟩)
  ·replace h := selim_l h
   refine q_then ?_
   refine c_seq ?_
   refine rg ?_
   refine st (v := (B true)) (rv_assign rfl) ?_
   refine w_end ?_
   refine q_then ?_
   refine c_ret ?_
   obtain rfl := Option.some.inj h
   exact fin_ret (v := (B true)) (results_ok Try.results114 (res_tmp (v := (B true)) rfl res_nil) rfl) ⟨rfl, rfl⟩ (H.sel' [] rfl rfl)
  ·replace h := selim_r h
   refine q_then_r ?_
   obtain rfl := Option.some.inj h
   exact fin_ret (v := (B t18)) (results_ok Try.results114 (res_tmp (v := (B t18)) rfl res_nil) rfl) ⟨rfl, rfl⟩ (H.sel' [] rfl rfl)

theorem c_spec_isVector {v_0 : List Int} {av_0 : Option Addr} {cv_0 : Nat} {r : Bool} (h : M.spec_isVector v_0 = some r) :
    Cal2 Try.prog 81 [(Sl av_0 v_0 cv_0)] [Ch.ro 0 (Sl av_0 v_0 cv_0) v_0] (fun n0 v L => v = (B r) ∧ L = []) := by
 refine cal2 (n := 10) Try.func81 rfl rfl rfl rfl ?_
 intro S0 σ0 n0 hn0 H
 unfold M.spec_isVector at h
 refine c_seq ?_
 refine rg ?_
 refine st (v := (B false)) (rv_assign rfl) ?_
 refine w_end ?_
 refine q_then ?_
 refine c_seq ?_
 refine rg ?_
 refine st (v := (Sl av_0 v_0 cv_0)) (rv_move rfl) ?_
 refine st (v := (I (v_0.length : Int))) (rv_len Try.underlying24 rfl) ?_
 refine st (v := (B ((v_0.length : Int) == 4))) (rv_eql (a := (v_0.length : Int)) (b := 4) rfl rfl) ?_
 refine st (v := (B ((v_0.length : Int) == 4))) (rv_move rfl) ?_
 rcases Bool.eq_false_or_eq_true ((v_0.length : Int) == 4) with hb1 | hb1
 ·replace h := bif_t hb1 h
  refine st_g (v := (Sl av_0 v_0 cv_0)) (congrArg some hb1) (rv_move rfl) ?_
  obtain ⟨r2, hx3, h'⟩ := bind_some h
  clear h
  have h := h'; clear h'
  have hc4 := c_spec_allIn (alist_0 := av_0) (clist_0 := cv_0) hx3
  refine st_call (cx_call hc4 (ent_f hc4.fn rfl) hn0 (show Hp S0 σ0 _ ([Ch.ro 0 (Sl av_0 v_0 cv_0) v_0] ++ [Ch.ro 0 (Sl av_0 v_0 cv_0) v_0]) from (H.sel' [0, 0] rfl rfl))) (wanted_yes rfl (by exact (congrArg some hb1))) ?_
  rintro _ σ5 ⟨_, ⟨rfl, rfl⟩, H, -⟩
  replace H : Hp S0 σ0 σ5 [Ch.ro 0 (Sl av_0 v_0 cv_0) v_0] := H
  refine st (v := (B r2)) (rv_pick_t (congrArg B hb1) rfl) ?_
  refine st (v := (B r2)) (rv_assign rfl) ?_
  refine w_end ?_
  refine q_then ?_
  refine c_ret ?_
  obtain rfl := Option.some.inj h
  exact fin_ret (v := (B r2)) (results_ok Try.results81 (res_tmp (v := (B r2)) rfl res_nil) rfl) ⟨rfl, rfl⟩ (H.sel' [] rfl rfl)
 ·replace h := bif_f hb1 h
  refine st_skip (congrArg some hb1) ?_
  refine st_skip (congrArg some hb1) ?_
  refine st (v := (B false)) (rv_pick_f (congrArg B hb1) rfl) ?_
  refine st (v := (B false)) (rv_assign rfl) ?_
  refine w_end ?_
  refine q_then ?_
  refine c_ret ?_
  obtain rfl := Option.some.inj h
  exact fin_ret (v := (B false)) (results_ok Try.results81 (res_tmp (v := (B false)) rfl res_nil) rfl) ⟨rfl, rfl⟩ (H.sel' [] rfl rfl)

theorem c_spec_validItem {x_0 : Int × (List Int) × Int} {ax_0_1 : Option Addr} {cx_0_1 : Nat} {r : Bool} (h : M.spec_validItem x_0 = some r) :
    Cal2 Try.prog 94 [(.agg #[(I x_0.1), (Sl ax_0_1 x_0.2.1 cx_0_1), (I x_0.2.2)])] [Ch.ro 0 (Sl ax_0_1 x_0.2.1 cx_0_1) x_0.2.1] (fun n0 v L => v = (B r) ∧ L = []) := by
 refine cal2 (n := 16) Try.func94 rfl rfl rfl rfl ?_
 intro S0 σ0 n0 hn0 H
 unfold M.spec_validItem at h
 refine c_seq ?_
 refine rg ?_
 refine st_ex (ex_box (cs := [(I x_0.1), (Sl ax_0_1 x_0.2.1 cx_0_1), (I x_0.2.2)]) H hn0 rfl rfl) (wanted_none _ rfl _) ?_
 rintro _ σ2 ⟨b1, rfl, H, -⟩
 refine st (v := (B false)) (rv_assign rfl) ?_
 refine w_end ?_
 refine q_then ?_
 refine c_seq ?_
 refine rg ?_
 refine st (v := (pt b1 0)) (rv_fieldAddr (off := 0) (ft := 3) Try.underlying31 rfl ti3 rfl rfl) ?_
 have hc3 := H.cell (u := (I x_0.1)) (o' := 0) 0 0 rfl rfl rfl
 refine st (v := (I x_0.1)) (rv_load1 Try.underlying3 rfl rfl hc3) ?_
 obtain ⟨r4, hx5, h'⟩ := bind_some h
 clear h
 have h := h'; clear h'
 have hc6 := c_spec_inRange hx5
 refine st_call (cx_call hc6 (ent_f hc6.fn rfl) hn0 (show Hp S0 σ0 _ ([] ++ [Ch.bx n0 b1 0 [(I x_0.1), (Sl ax_0_1 x_0.2.1 cx_0_1), (I x_0.2.2)] [] [], Ch.ro 0 (Sl ax_0_1 x_0.2.1 cx_0_1) x_0.2.1]) from (H.sel' [0, 1] rfl rfl))) (wanted_none _ rfl _) ?_
 rintro _ σ7 ⟨_, ⟨rfl, rfl⟩, H, -⟩
 replace H : Hp S0 σ0 σ7 [Ch.bx n0 b1 0 [(I x_0.1), (Sl ax_0_1 x_0.2.1 cx_0_1), (I x_0.2.2)] [] [], Ch.ro 0 (Sl ax_0_1 x_0.2.1 cx_0_1) x_0.2.1] := H
 refine st (v := (B r4)) (rv_move rfl) ?_
 rcases Bool.eq_false_or_eq_true r4 with hb8 | hb8
 ·replace h := bif_t hb8 h
  refine st_g (v := (pt b1 1)) (congrArg some hb8) (rv_fieldAddr (off := 1) (ft := 24) Try.underlying31 rfl ti24 rfl rfl) ?_
  have hc9 := H.cell (u := (Sl ax_0_1 x_0.2.1 cx_0_1)) (o' := 1) 0 1 rfl rfl rfl
  refine st_g (v := (Sl ax_0_1 x_0.2.1 cx_0_1)) (congrArg some hb8) (rv_load1 Try.underlying24 rfl rfl hc9) ?_
  obtain ⟨r10, hx11, h'⟩ := bind_some h
  clear h
  have h := h'; clear h'
  have hc12 := c_spec_isVector (av_0 := ax_0_1) (cv_0 := cx_0_1) hx11
  refine st_call (cx_call hc12 (ent_f hc12.fn rfl) hn0 (show Hp S0 σ0 _ ([Ch.ro 0 (Sl ax_0_1 x_0.2.1 cx_0_1) x_0.2.1] ++ [Ch.bx n0 b1 0 [(I x_0.1), (Sl ax_0_1 x_0.2.1 cx_0_1), (I x_0.2.2)] [] [], Ch.ro 0 (Sl ax_0_1 x_0.2.1 cx_0_1) x_0.2.1]) from (H.sel' [1, 0, 1] rfl rfl))) (wanted_yes rfl (by exact (congrArg some hb8))) ?_
  rintro _ σ13 ⟨_, ⟨rfl, rfl⟩, H, -⟩
  replace H : Hp S0 σ0 σ13 [Ch.bx n0 b1 0 [(I x_0.1), (Sl ax_0_1 x_0.2.1 cx_0_1), (I x_0.2.2)] [] [], Ch.ro 0 (Sl ax_0_1 x_0.2.1 cx_0_1) x_0.2.1] := H
  refine st (v := (B r10)) (rv_pick_t (congrArg B hb8) rfl) ?_
  refine st (v := (B r10)) (rv_move rfl) ?_
  rcases Bool.eq_false_or_eq_true r10 with hb14 | hb14
  ·replace h := bif_t hb14 h
   refine st_g (v := (pt b1 2)) (congrArg some hb14) (rv_fieldAddr (off := 2) (ft := 3) Try.underlying31 rfl ti3 rfl rfl) ?_
   have hc15 := H.cell (u := (I x_0.2.2)) (o' := 2) 0 2 rfl rfl rfl
   refine st_g (v := (I x_0.2.2)) (congrArg some hb14) (rv_load1 Try.underlying3 rfl rfl hc15) ?_
   obtain ⟨r16, hx17, h'⟩ := bind_some h
   clear h
   have h := h'; clear h'
   have hc18 := c_spec_inRange hx17
   refine st_call (cx_call hc18 (ent_f hc18.fn rfl) hn0 (show Hp S0 σ0 _ ([] ++ [Ch.bx n0 b1 0 [(I x_0.1), (Sl ax_0_1 x_0.2.1 cx_0_1), (I x_0.2.2)] [] [], Ch.ro 0 (Sl ax_0_1 x_0.2.1 cx_0_1) x_0.2.1]) from (H.sel' [0, 1] rfl rfl))) (wanted_yes rfl (by exact (congrArg some hb14))) ?_
   rintro _ σ19 ⟨_, ⟨rfl, rfl⟩, H, -⟩
   replace H : Hp S0 σ0 σ19 [Ch.bx n0 b1 0 [(I x_0.1), (Sl ax_0_1 x_0.2.1 cx_0_1), (I x_0.2.2)] [] [], Ch.ro 0 (Sl ax_0_1 x_0.2.1 cx_0_1) x_0.2.1] := H
   refine st (v := (B r16)) (rv_pick_t (congrArg B hb14) rfl) ?_
   refine st (v := (B r16)) (rv_assign rfl) ?_
   refine w_end ?_
   refine q_then ?_
   refine c_ret ?_
   obtain rfl := Option.some.inj h
   exact fin_ret (v := (B r16)) (results_ok Try.results94 (res_tmp (v := (B r16)) rfl res_nil) rfl) ⟨rfl, rfl⟩ (H.sel' [] rfl rfl)
  ·replace h := bif_f hb14 h
   refine st_skip (congrArg some hb14) ?_
   refine st_skip (congrArg some hb14) ?_
   refine st_skip (congrArg some hb14) ?_
   refine st (v := (B false)) (rv_pick_f (congrArg B hb14) rfl) ?_
   refine st (v := (B false)) (rv_assign rfl) ?_
   refine w_end ?_
   refine q_then ?_
   refine c_ret ?_
   obtain rfl := Option.some.inj h
   exact fin_ret (v := (B false)) (results_ok Try.results94 (res_tmp (v := (B false)) rfl res_nil) rfl) ⟨rfl, rfl⟩ (H.sel' [] rfl rfl)
 ·replace h := bif_f hb8 h
  refine st_skip (congrArg some hb8) ?_
  refine st_skip (congrArg some hb8) ?_
  refine st_skip (congrArg some hb8) ?_
  refine st (v := (B false)) (rv_pick_f (congrArg B hb8) rfl) ?_
  refine st (v := (B false)) (rv_move rfl) ?_
  refine st_skip rfl ?_
  refine st_skip rfl ?_
  refine st_skip rfl ?_
  refine st (v := (B false)) (rv_pick_f rfl rfl) ?_
  refine st (v := (B false)) (rv_assign rfl) ?_
  refine w_end ?_
  refine q_then ?_
  refine c_ret ?_
  obtain rfl := Option.some.inj h
  exact fin_ret (v := (B false)) (results_ok Try.results94 (res_tmp (v := (B false)) rfl res_nil) rfl) ⟨rfl, rfl⟩ (H.sel' [] rfl rfl)

theorem c_spec_validStore {list_0 : List (Int × (List Int) × Int)} {alist_0 : Option Addr} {clist_0 : Nat} {r : Bool} (h : M.spec_validStore list_0 = some r) :
    Cal2 Try.prog 80 [(Sl alist_0 list_0 clist_0)] [Ch.ro 0 (Sl alist_0 list_0 clist_0) list_0] (fun n0 v L => v = (B r) ∧ L = []) := by
 refine cal2 (n := 37) Try.func80 rfl rfl rfl rfl ?_
 intro S0 σ0 n0 hn0 H
 unfold M.spec_validStore at h
 refine c_seq ?_
 refine rg ?_
 refine st (v := (B false)) (rv_assign rfl) ?_
 refine w_end ?_
 refine q_then ?_
 refine c_seq ?_
 refine c_seq ?_
 refine rg ?_
 refine st (v := (I 0)) (rv_assign rfl) ?_
 refine w_end ?_
 refine q_then ?_
 obtain ⟨o1, hj, h'⟩ := bind_some h
 clear h
 refine c_cut (fun e a w => (∃ t, o1 = (.inl t) ∧ e = .normal ∧ ∃ (ρ : Nat → Value) (σ : St), a = fr 37 (updL ρ [(0, (Sl alist_0 list_0 clist_0))]) ∧ w = σ.w ∧ Hp S0 σ0 σ [Ch.ro 0 (Sl alist_0 list_0 clist_0) list_0]) ∨ (∃ t, o1 = (.inr t) ∧ e = .ret ∧ ∃ (ρ : Nat → Value) (σ : St), a = fr 37 (updL ρ [(2, (B t))]) ∧ w = σ.w ∧ Hp S0 σ0 σ [])) ?_ ?_
 ·clear h'
  rename _ = some o1 => h
  refine c_blk ?_
  refine wp_loopM _ h (fun s2 a w => ∃ (ρ : Nat → Value) (σ : St), a = fr 37 (updL ρ [(0, (Sl alist_0 list_0 clist_0)), (3, (I s2))]) ∧ w = σ.w ∧ Hp S0 σ0 σ [Ch.ro 0 (Sl alist_0 list_0 clist_0) list_0]) ⟨_, σ0, fr_join ⟨rfl, rfl, trivial⟩, rfl, H.sel' [0] rfl rfl⟩ ?_
  clear h H
  rintro s2 a w o ⟨ρ, σ3, rfl, rfl, H⟩ h hres
  refine c_seq ?_
  refine c_seq ?_
  refine rg ?_
  refine st (v := (I s2)) (rv_move rfl) ?_
  refine st (v := (Sl alist_0 list_0 clist_0)) (rv_move rfl) ?_
  refine st (v := (I (list_0.length : Int))) (rv_len Try.underlying23 rfl) ?_
  refine st (v := (B (decide (s2 < (list_0.length : Int))))) (rv_lss (a := s2) (b := (list_0.length : Int)) rfl rfl) ?_
  refine w_end ?_
  refine q_then ?_
  refine cd_cond (decide (s2 < (list_0.length : Int))) rfl (fun hb4 => ?_) (fun hb4 => ?_)
  ·replace h := bif_t hb4 h
   refine c_skip ?_
   refine q_then ?_
   refine c_seq ?_
   refine c_blk ?_
   refine c_seq ?_
   obtain ⟨o5, hj, h'⟩ := bind_some h
   clear h
   refine c_cut (fun e a w => e = .normal ∧ ∃ (ρ : Nat → Value) (σ : St), a = fr 37 (updL ρ [(0, (Sl alist_0 list_0 clist_0)), (3, (I s2)), (33, (B o5))]) ∧ w = σ.w ∧ Hp S0 σ0 σ [Ch.ro 0 (Sl alist_0 list_0 clist_0) list_0]) ?_ ?_
   ·clear h'
    rename _ = some o5 => h
    obtain ⟨x6, hx7, h'⟩ := bind_some h
    clear h
    have h := h'; clear h'
    obtain ⟨b9, o10, hi8, -⟩ := (H.ro 0 rfl).ix hx7
    obtain ⟨_, ⟨_, _, rfl, rfl, ⟨_, _, rfl, ⟨_, rfl, hR15⟩, rfl⟩⟩, hl11, hc12⟩ := ((H.ro 0 rfl).at hx7 hi8).cells
    obtain ⟨a13, c14, rfl⟩ := hR15.isSl
    replace H := H.add (d := Ch.ro 0 (Sl a13 x6.2.1 c14) x6.2.1) hR15 (fun _ h => h)
    clear hR15
    obtain ⟨r16, hx17, h'⟩ := bind_some h
    clear h
    have h := h'; clear h'
    have hc18 := c_spec_validItem (ax_0_1 := a13) (cx_0_1 := c14) hx17
    rcases Bool.eq_false_or_eq_true (!r16) with hb19 | hb19
    ·replace h := bif_t hb19 h
     have Hs := H
     refine rg2 (σ := σ3) (Nm := Unit) 21 [4] [[false], [true]] [[(0, 0)], [(0, 0)], [(0, 0)], [(0, 0)], [(0, 1)], [(1, 1)], [(1, 1)], [(1, 1)], [(1, 1)], [(1, 1)], [(1, 1)], [(1, 1)], [(1, 1)], [(1, 1)], [(1, 1)], [(1, 1)], [(1, 1)], [(1, 1)], [(1, 1)], [(1, 1)], [(1, 1)]] 1 [fun (_nm : Unit) => fun σm => Hp S0 σ0 σm [Ch.ro 0 (Sl a13 x6.2.1 c14) x6.2.1, Ch.ro 0 (Sl alist_0 list_0 clist_0) list_0] ∧ Md (cov []) σ3 σm, fun (_nm : Unit) => fun σm => Hp S0 σ0 σm [Ch.ro 0 (Sl a13 x6.2.1 c14) x6.2.1, Ch.ro 0 (Sl alist_0 list_0 clist_0) list_0] ∧ Md (cov []) σ3 σm] [fun (_nm : Unit) => (Sl alist_0 list_0 clist_0), fun (_nm : Unit) => (I s2), fun (_nm : Unit) => (pt b9 o10), fun (_nm : Unit) => (.agg #[(I x6.1), (Sl a13 x6.2.1 c14), (I x6.2.2)]), fun (_nm : Unit) => (B r16), fun (_nm : Unit) => (B (!r16)), fun (_nm : Unit) => (B (!r16)), fun (_nm : Unit) => undef, fun (_nm : Unit) => undef, fun (_nm : Unit) => undef, fun (_nm : Unit) => undef, fun (_nm : Unit) => undef, fun (_nm : Unit) => undef, fun (_nm : Unit) => undef, fun (_nm : Unit) => undef, fun (_nm : Unit) => undef, fun (_nm : Unit) => undef, fun (_nm : Unit) => undef, fun (_nm : Unit) => undef, fun (_nm : Unit) => undef, fun (_nm : Unit) => undef] () (by kernel_rfl) (by kernel_rfl) ?_ ?_ ?_
     ·intro σm m0
      exact ⟨H.grow (m0.mono fun _ h => h.elim), m0⟩
     ·refine all_cons (obs_v rfl (by
        intro k; intro _nm ρ σm hJ hoff hdep
        have e0 : look 37 ρ 0 = (Sl alist_0 list_0 clist_0) := look_off (hoff 0 rfl) rfl
        exact dp_v (v := (Sl alist_0 list_0 clist_0)) (wanted_none _ rfl _) (rv_move e0) rfl hJ)) ?_
      refine all_cons (obs_v rfl (by
        intro k; intro _nm ρ σm hJ hoff hdep
        have e3 : look 37 ρ 3 = (I s2) := look_off (hoff 3 rfl) rfl
        exact dp_v (v := (I s2)) (wanted_none _ rfl _) (rv_move e3) rfl hJ)) ?_
      refine all_cons (obs_v rfl (by
        intro k; intro _nm ρ σm hJ hoff hdep
        have e10 : look 37 ρ 10 = (Sl alist_0 list_0 clist_0) := hdep 0 rfl rfl 10 rfl
        have e11 : look 37 ρ 11 = (I s2) := hdep 1 rfl rfl 11 rfl
        exact dp_v (v := (pt b9 o10)) (wanted_none _ rfl _) (rv_ix Try.underlying23 ti31 e10 e11 hi8) rfl hJ)) ?_
      refine all_cons (by
        refine ⟨?_, ?_⟩
        ·intro _nm ρ σm hJ hoff hdep
         have e12 : look 37 ρ 12 = (pt b9 o10) := hdep 2 rfl rfl 12 rfl
         obtain ⟨H, m⟩ := id hJ
         replace hc12 := fun j hj => (Hs.ro 1 rfl).hmd hx7 hi8 (k := j) (Nat.lt_of_lt_of_eq hj hl11) (hc12 j hj) m
         exact dp_v (v := (.agg #[(I x6.1), (Sl a13 x6.2.1 c14), (I x6.2.2)])) (wanted_none _ rfl _) (rv_load Try.underlying31 rfl ti31 e12 hl11 hc12) rfl hJ
        trivial) ?_
      refine all_cons (by
        refine ⟨?_, ?_⟩
        ·intro _nm ρ σm hJ hoff hdep
         have e13 : look 37 ρ 13 = (.agg #[(I x6.1), (Sl a13 x6.2.1 c14), (I x6.2.2)]) := hdep 3 rfl rfl 13 rfl
         obtain ⟨H, m⟩ := id hJ
         refine dp_cx (wanted_none _ rfl _) (cx_call hc18 (ent_f hc18.fn (by show [look 37 ρ 13] = _; rw [e13])) hn0 (show Hp S0 σ0 _ ([Ch.ro 0 (Sl a13 x6.2.1 c14) x6.2.1] ++ [Ch.ro 0 (Sl a13 x6.2.1 c14) x6.2.1, Ch.ro 0 (Sl alist_0 list_0 clist_0) list_0]) from (H.sel' [0, 0, 1] rfl rfl))) ?_
         rintro _ σq ⟨_, ⟨rfl, rfl⟩, H2, m2⟩
         exact ⟨_, (), rfl, rfl, ⟨H2.sel' [0, 1] rfl rfl, m.comp0 (m2.mono (fun i h => by simp [cov, Ch.ro] at h))⟩, stab [0, 1, 2, 3] (by kernel_rfl) ⟨rfl, rfl, rfl, rfl, trivial⟩⟩
        trivial) ?_
      refine all_cons (obs_v rfl (by
        intro k; intro _nm ρ σm hJ hoff hdep
        have e14 : look 37 ρ 14 = (B r16) := hdep 4 rfl rfl 14 rfl
        exact dp_v (v := (B (!r16))) (wanted_none _ rfl _) (rv_not e14) rfl hJ)) ?_
      refine all_cons (obs_v rfl (by
        intro k; intro _nm ρ σm hJ hoff hdep
        have e15 : look 37 ρ 15 = (B (!r16)) := hdep 5 rfl rfl 15 rfl
        exact dp_v (v := (B (!r16))) (wanted_none _ rfl _) (rv_move e15) rfl hJ)) ?_
      refine all_cons (obs_v rfl (by
        intro k; intro _nm ρ σm hJ hoff hdep
        have e16 : look 37 ρ 16 = (B (!r16)) := hdep 6 rfl rfl 16 rfl
        exact dp_skip (wanted_no rfl (yv_of rfl (e16.trans (congrArg B hb19)))) rfl hJ)) ?_
      refine all_cons (obs_v rfl (by
        intro k; intro _nm ρ σm hJ hoff hdep
        have e16 : look 37 ρ 16 = (B (!r16)) := hdep 6 rfl rfl 16 rfl
        exact dp_skip (wanted_no rfl (yv_of rfl (e16.trans (congrArg B hb19)))) rfl hJ)) ?_
      refine all_cons (obs_v rfl (by
        intro k; intro _nm ρ σm hJ hoff hdep
        have e16 : look 37 ρ 16 = (B (!r16)) := hdep 6 rfl rfl 16 rfl
        exact dp_skip (wanted_no rfl (yv_of rfl (e16.trans (congrArg B hb19)))) rfl hJ)) ?_
      refine all_cons (obs_v rfl (by
        intro k; intro _nm ρ σm hJ hoff hdep
        have e19 : look 37 ρ 19 = undef := hdep 9 rfl rfl 19 rfl
        exact dp_skip (wanted_u rfl (yv_undef rfl e19)) rfl hJ)) ?_
      refine all_cons (obs_v rfl (by
        intro k; intro _nm ρ σm hJ hoff hdep
        have e19 : look 37 ρ 19 = undef := hdep 9 rfl rfl 19 rfl
        exact dp_skip (wanted_u rfl (yv_undef rfl e19)) rfl hJ)) ?_
      refine all_cons (obs_v rfl (by
        intro k; intro _nm ρ σm hJ hoff hdep
        have e19 : look 37 ρ 19 = undef := hdep 9 rfl rfl 19 rfl
        exact dp_skip (wanted_u rfl (yv_undef rfl e19)) rfl hJ)) ?_
      refine all_cons (obs_v rfl (by
        intro k; intro _nm ρ σm hJ hoff hdep
        have e19 : look 37 ρ 19 = undef := hdep 9 rfl rfl 19 rfl
        exact dp_skip (wanted_u rfl (yv_undef rfl e19)) rfl hJ)) ?_
      refine all_cons (obs_v rfl (by
        intro k; intro _nm ρ σm hJ hoff hdep
        have e19 : look 37 ρ 19 = undef := hdep 9 rfl rfl 19 rfl
        exact dp_skip (wanted_u rfl (yv_undef rfl e19)) rfl hJ)) ?_
      refine all_cons (obs_v rfl (by
        intro k; intro _nm ρ σm hJ hoff hdep
        have e19 : look 37 ρ 19 = undef := hdep 9 rfl rfl 19 rfl
        exact dp_skip (wanted_u rfl (yv_undef rfl e19)) rfl hJ)) ?_
      refine all_cons (obs_v rfl (by
        intro k; intro _nm ρ σm hJ hoff hdep
        have e19 : look 37 ρ 19 = undef := hdep 9 rfl rfl 19 rfl
        exact dp_skip (wanted_u rfl (yv_undef rfl e19)) rfl hJ)) ?_
      refine all_cons (obs_v rfl (by
        intro k; intro _nm ρ σm hJ hoff hdep
        have e19 : look 37 ρ 19 = undef := hdep 9 rfl rfl 19 rfl
        exact dp_skip (wanted_u rfl (yv_undef rfl e19)) rfl hJ)) ?_
      refine all_cons (obs_v rfl (by
        intro k; intro _nm ρ σm hJ hoff hdep
        have e19 : look 37 ρ 19 = undef := hdep 9 rfl rfl 19 rfl
        exact dp_skip (wanted_u rfl (yv_undef rfl e19)) rfl hJ)) ?_
      refine all_cons (obs_v rfl (by
        intro k; intro _nm ρ σm hJ hoff hdep
        have e19 : look 37 ρ 19 = undef := hdep 9 rfl rfl 19 rfl
        exact dp_skip (wanted_u rfl (yv_undef rfl e19)) rfl hJ)) ?_
      refine all_cons (obs_v rfl (by
        intro k; intro _nm ρ σm hJ hoff hdep
        have e19 : look 37 ρ 19 = undef := hdep 9 rfl rfl 19 rfl
        exact dp_skip (wanted_u rfl (yv_undef rfl e19)) rfl hJ)) ?_
      exact all_nil
     ·intro _nm ρ σ20 hJ hoff hrel
      have e0 : look 37 ρ 0 = (Sl alist_0 list_0 clist_0) := look_off (hoff 0 rfl) rfl
      have e3 : look 37 ρ 3 = (I s2) := look_off (hoff 3 rfl) rfl
      have e16 : look 37 ρ 16 = (B (!r16)) := hrel 6 rfl 16 rfl
      have e19 : look 37 ρ 19 = undef := hrel 9 rfl 19 rfl
      have e24 : look 37 ρ 24 = undef := hrel 14 rfl 24 rfl
      have e30 : look 37 ρ 30 = undef := hrel 20 rfl 30 rfl
      obtain ⟨H, -⟩ := (show Hp S0 σ0 σ20 [Ch.ro 0 (Sl a13 x6.2.1 c14) x6.2.1, Ch.ro 0 (Sl alist_0 list_0 clist_0) list_0] ∧ Md (cov []) σ3 σ20 from hJ)
      clear hJ Hs
      rw [fr_lookL (L := [(0, (Sl alist_0 list_0 clist_0)), (3, (I s2)), (16, (B (!r16))), (19, undef), (24, undef), (30, undef)]) ⟨e0, e3, e16, e19, e24, e30, trivial⟩]
      clear hoff hrel e0 e3 e16 e19 e24 e30
      refine st_skip_u rfl ?_
      refine st_skip (congrArg some hb19) ?_
      refine st (v := (B true)) (rv_pick_t (congrArg B hb19) rfl) ?_
      refine w_end ?_
      obtain rfl := Option.some.inj h
      exact ⟨rfl, _, σ20, fr_join ⟨rfl, rfl, rfl, trivial⟩, rfl, H.sel' [1] rfl rfl⟩
    ·replace h := bif_f hb19 h
     rcases Bool.eq_false_or_eq_true (decide (0 < s2)) with hb21 | hb21
     ·replace h := bif_t hb21 h
      obtain ⟨x22, hx23, h'⟩ := bind_some h
      clear h
      have h := h'; clear h'
      obtain ⟨b25, o26, hi24, -⟩ := (H.ro 1 rfl).ix hx23
      have hc27 := ((H.ro 1 rfl).at hx23 hi24).fst.int
      obtain ⟨x28, hx29, h'⟩ := bind_some h
      clear h
      have h := h'; clear h'
      obtain ⟨b31, o32, hi30, -⟩ := (H.ro 1 rfl).ix hx29
      have hc33 := ((H.ro 1 rfl).at hx29 hi30).fst.int
      have Hs := H
      refine rg2 (σ := σ3) (Nm := Unit) 21 [4] [[false], [true]] [[(0, 0)], [(0, 0)], [(0, 0)], [(0, 0)], [(0, 1)], [(1, 1)], [(1, 1)], [(1, 1)], [(1, 1)], [(1, 1)], [(1, 1)], [(1, 1)], [(1, 1)], [(1, 1)], [(1, 1)], [(1, 1)], [(1, 1)], [(1, 1)], [(1, 1)], [(1, 1)], [(1, 1)]] 1 [fun (_nm : Unit) => fun σm => Hp S0 σ0 σm [Ch.ro 0 (Sl a13 x6.2.1 c14) x6.2.1, Ch.ro 0 (Sl alist_0 list_0 clist_0) list_0] ∧ Md (cov []) σ3 σm, fun (_nm : Unit) => fun σm => Hp S0 σ0 σm [Ch.ro 0 (Sl a13 x6.2.1 c14) x6.2.1, Ch.ro 0 (Sl alist_0 list_0 clist_0) list_0] ∧ Md (cov []) σ3 σm] [fun (_nm : Unit) => (Sl alist_0 list_0 clist_0), fun (_nm : Unit) => (I s2), fun (_nm : Unit) => (pt b9 o10), fun (_nm : Unit) => (.agg #[(I x6.1), (Sl a13 x6.2.1 c14), (I x6.2.2)]), fun (_nm : Unit) => (B r16), fun (_nm : Unit) => (B (!r16)), fun (_nm : Unit) => (B (!r16)), fun (_nm : Unit) => (I s2), fun (_nm : Unit) => (B (decide (0 < s2))), fun (_nm : Unit) => (B (decide (0 < s2))), fun (_nm : Unit) => (Sl alist_0 list_0 clist_0), fun (_nm : Unit) => (I s2), fun (_nm : Unit) => (pt b25 o26), fun (_nm : Unit) => (pt b25 (o26 + 0)), fun (_nm : Unit) => (I x22.1), fun (_nm : Unit) => (Sl alist_0 list_0 clist_0), fun (_nm : Unit) => (I s2), fun (_nm : Unit) => (I (w64 (s2 - 1))), fun (_nm : Unit) => (pt b31 o32), fun (_nm : Unit) => (pt b31 (o32 + 0)), fun (_nm : Unit) => (I x28.1)] () (by kernel_rfl) (by kernel_rfl) ?_ ?_ ?_
      ·intro σm m0
       exact ⟨H.grow (m0.mono fun _ h => h.elim), m0⟩
      ·refine all_cons (obs_v rfl (by
         intro k; intro _nm ρ σm hJ hoff hdep
         have e0 : look 37 ρ 0 = (Sl alist_0 list_0 clist_0) := look_off (hoff 0 rfl) rfl
         exact dp_v (v := (Sl alist_0 list_0 clist_0)) (wanted_none _ rfl _) (rv_move e0) rfl hJ)) ?_
       refine all_cons (obs_v rfl (by
         intro k; intro _nm ρ σm hJ hoff hdep
         have e3 : look 37 ρ 3 = (I s2) := look_off (hoff 3 rfl) rfl
         exact dp_v (v := (I s2)) (wanted_none _ rfl _) (rv_move e3) rfl hJ)) ?_
       refine all_cons (obs_v rfl (by
         intro k; intro _nm ρ σm hJ hoff hdep
         have e10 : look 37 ρ 10 = (Sl alist_0 list_0 clist_0) := hdep 0 rfl rfl 10 rfl
         have e11 : look 37 ρ 11 = (I s2) := hdep 1 rfl rfl 11 rfl
         exact dp_v (v := (pt b9 o10)) (wanted_none _ rfl _) (rv_ix Try.underlying23 ti31 e10 e11 hi8) rfl hJ)) ?_
       refine all_cons (by
         refine ⟨?_, ?_⟩
         ·intro _nm ρ σm hJ hoff hdep
          have e12 : look 37 ρ 12 = (pt b9 o10) := hdep 2 rfl rfl 12 rfl
          obtain ⟨H, m⟩ := id hJ
          replace hc12 := fun j hj => (Hs.ro 1 rfl).hmd hx7 hi8 (k := j) (Nat.lt_of_lt_of_eq hj hl11) (hc12 j hj) m
          exact dp_v (v := (.agg #[(I x6.1), (Sl a13 x6.2.1 c14), (I x6.2.2)])) (wanted_none _ rfl _) (rv_load Try.underlying31 rfl ti31 e12 hl11 hc12) rfl hJ
         trivial) ?_
       refine all_cons (by
         refine ⟨?_, ?_⟩
         ·intro _nm ρ σm hJ hoff hdep
          have e13 : look 37 ρ 13 = (.agg #[(I x6.1), (Sl a13 x6.2.1 c14), (I x6.2.2)]) := hdep 3 rfl rfl 13 rfl
          obtain ⟨H, m⟩ := id hJ
          refine dp_cx (wanted_none _ rfl _) (cx_call hc18 (ent_f hc18.fn (by show [look 37 ρ 13] = _; rw [e13])) hn0 (show Hp S0 σ0 _ ([Ch.ro 0 (Sl a13 x6.2.1 c14) x6.2.1] ++ [Ch.ro 0 (Sl a13 x6.2.1 c14) x6.2.1, Ch.ro 0 (Sl alist_0 list_0 clist_0) list_0]) from (H.sel' [0, 0, 1] rfl rfl))) ?_
          rintro _ σq ⟨_, ⟨rfl, rfl⟩, H2, m2⟩
          exact ⟨_, (), rfl, rfl, ⟨H2.sel' [0, 1] rfl rfl, m.comp0 (m2.mono (fun i h => by simp [cov, Ch.ro] at h))⟩, stab [0, 1, 2, 3] (by kernel_rfl) ⟨rfl, rfl, rfl, rfl, trivial⟩⟩
         trivial) ?_
       refine all_cons (obs_v rfl (by
         intro k; intro _nm ρ σm hJ hoff hdep
         have e14 : look 37 ρ 14 = (B r16) := hdep 4 rfl rfl 14 rfl
         exact dp_v (v := (B (!r16))) (wanted_none _ rfl _) (rv_not e14) rfl hJ)) ?_
       refine all_cons (obs_v rfl (by
         intro k; intro _nm ρ σm hJ hoff hdep
         have e15 : look 37 ρ 15 = (B (!r16)) := hdep 5 rfl rfl 15 rfl
         exact dp_v (v := (B (!r16))) (wanted_none _ rfl _) (rv_move e15) rfl hJ)) ?_
       refine all_cons (obs_v rfl (by
         intro k; intro _nm ρ σm hJ hoff hdep
         have e3 : look 37 ρ 3 = (I s2) := look_off (hoff 3 rfl) rfl
         have e16 : look 37 ρ 16 = (B (!r16)) := hdep 6 rfl rfl 16 rfl
         exact dp_v (v := (I s2)) (wanted_yes rfl (yv_of rfl (e16.trans (congrArg B hb19)))) (rv_move e3) rfl hJ)) ?_
       refine all_cons (obs_v rfl (by
         intro k; intro _nm ρ σm hJ hoff hdep
         have e17 : look 37 ρ 17 = (I s2) := hdep 7 rfl rfl 17 rfl
         have e16 : look 37 ρ 16 = (B (!r16)) := hdep 6 rfl rfl 16 rfl
         exact dp_v (v := (B (decide (0 < s2)))) (wanted_yes rfl (yv_of rfl (e16.trans (congrArg B hb19)))) (rv_gtr (a := s2) (b := 0) e17 rfl) rfl hJ)) ?_
       refine all_cons (obs_v rfl (by
         intro k; intro _nm ρ σm hJ hoff hdep
         have e18 : look 37 ρ 18 = (B (decide (0 < s2))) := hdep 8 rfl rfl 18 rfl
         have e16 : look 37 ρ 16 = (B (!r16)) := hdep 6 rfl rfl 16 rfl
         exact dp_v (v := (B (decide (0 < s2)))) (wanted_yes rfl (yv_of rfl (e16.trans (congrArg B hb19)))) (rv_move e18) rfl hJ)) ?_
       refine all_cons (obs_v rfl (by
         intro k; intro _nm ρ σm hJ hoff hdep
         have e0 : look 37 ρ 0 = (Sl alist_0 list_0 clist_0) := look_off (hoff 0 rfl) rfl
         have e19 : look 37 ρ 19 = (B (decide (0 < s2))) := hdep 9 rfl rfl 19 rfl
         exact dp_v (v := (Sl alist_0 list_0 clist_0)) (wanted_yes rfl (yv_of rfl (e19.trans (congrArg B hb21)))) (rv_move e0) rfl hJ)) ?_
       refine all_cons (obs_v rfl (by
         intro k; intro _nm ρ σm hJ hoff hdep
         have e3 : look 37 ρ 3 = (I s2) := look_off (hoff 3 rfl) rfl
         have e19 : look 37 ρ 19 = (B (decide (0 < s2))) := hdep 9 rfl rfl 19 rfl
         exact dp_v (v := (I s2)) (wanted_yes rfl (yv_of rfl (e19.trans (congrArg B hb21)))) (rv_move e3) rfl hJ)) ?_
       refine all_cons (obs_v rfl (by
         intro k; intro _nm ρ σm hJ hoff hdep
         have e20 : look 37 ρ 20 = (Sl alist_0 list_0 clist_0) := hdep 10 rfl rfl 20 rfl
         have e21 : look 37 ρ 21 = (I s2) := hdep 11 rfl rfl 21 rfl
         have e19 : look 37 ρ 19 = (B (decide (0 < s2))) := hdep 9 rfl rfl 19 rfl
         exact dp_v (v := (pt b25 o26)) (wanted_yes rfl (yv_of rfl (e19.trans (congrArg B hb21)))) (rv_ix Try.underlying23 ti31 e20 e21 hi24) rfl hJ)) ?_
       refine all_cons (obs_v rfl (by
         intro k; intro _nm ρ σm hJ hoff hdep
         have e22 : look 37 ρ 22 = (pt b25 o26) := hdep 12 rfl rfl 22 rfl
         have e19 : look 37 ρ 19 = (B (decide (0 < s2))) := hdep 9 rfl rfl 19 rfl
         exact dp_v (v := (pt b25 (o26 + 0))) (wanted_yes rfl (yv_of rfl (e19.trans (congrArg B hb21)))) (rv_fieldAddr (off := 0) (ft := 3) Try.underlying31 rfl ti3 rfl e22) rfl hJ)) ?_
       refine all_cons (by
         refine ⟨?_, ?_⟩
         ·intro _nm ρ σm hJ hoff hdep
          have e23 : look 37 ρ 23 = (pt b25 (o26 + 0)) := hdep 13 rfl rfl 23 rfl
          have e19 : look 37 ρ 19 = (B (decide (0 < s2))) := hdep 9 rfl rfl 19 rfl
          obtain ⟨H, m⟩ := id hJ
          replace hc27 := (Hs.ro 1 rfl).hmd hx23 hi24 (k := 0) (by decide) hc27 m
          exact dp_v (v := (I x22.1)) (wanted_yes rfl (yv_of rfl (e19.trans (congrArg B hb21)))) (rv_load1 Try.underlying3 rfl e23 hc27) rfl hJ
         trivial) ?_
       refine all_cons (obs_v rfl (by
         intro k; intro _nm ρ σm hJ hoff hdep
         have e0 : look 37 ρ 0 = (Sl alist_0 list_0 clist_0) := look_off (hoff 0 rfl) rfl
         have e19 : look 37 ρ 19 = (B (decide (0 < s2))) := hdep 9 rfl rfl 19 rfl
         exact dp_v (v := (Sl alist_0 list_0 clist_0)) (wanted_yes rfl (yv_of rfl (e19.trans (congrArg B hb21)))) (rv_move e0) rfl hJ)) ?_
       refine all_cons (obs_v rfl (by
         intro k; intro _nm ρ σm hJ hoff hdep
         have e3 : look 37 ρ 3 = (I s2) := look_off (hoff 3 rfl) rfl
         have e19 : look 37 ρ 19 = (B (decide (0 < s2))) := hdep 9 rfl rfl 19 rfl
         exact dp_v (v := (I s2)) (wanted_yes rfl (yv_of rfl (e19.trans (congrArg B hb21)))) (rv_move e3) rfl hJ)) ?_
       refine all_cons (obs_v rfl (by
         intro k; intro _nm ρ σm hJ hoff hdep
         have e26 : look 37 ρ 26 = (I s2) := hdep 16 rfl rfl 26 rfl
         have e19 : look 37 ρ 19 = (B (decide (0 < s2))) := hdep 9 rfl rfl 19 rfl
         exact dp_v (v := (I (w64 (s2 - 1)))) (wanted_yes rfl (yv_of rfl (e19.trans (congrArg B hb21)))) (rv_sub (a := s2) (b := 1) e26 rfl) rfl hJ)) ?_
       refine all_cons (obs_v rfl (by
         intro k; intro _nm ρ σm hJ hoff hdep
         have e25 : look 37 ρ 25 = (Sl alist_0 list_0 clist_0) := hdep 15 rfl rfl 25 rfl
         have e27 : look 37 ρ 27 = (I (w64 (s2 - 1))) := hdep 17 rfl rfl 27 rfl
         have e19 : look 37 ρ 19 = (B (decide (0 < s2))) := hdep 9 rfl rfl 19 rfl
         exact dp_v (v := (pt b31 o32)) (wanted_yes rfl (yv_of rfl (e19.trans (congrArg B hb21)))) (rv_ix Try.underlying23 ti31 e25 e27 hi30) rfl hJ)) ?_
       refine all_cons (obs_v rfl (by
         intro k; intro _nm ρ σm hJ hoff hdep
         have e28 : look 37 ρ 28 = (pt b31 o32) := hdep 18 rfl rfl 28 rfl
         have e19 : look 37 ρ 19 = (B (decide (0 < s2))) := hdep 9 rfl rfl 19 rfl
         exact dp_v (v := (pt b31 (o32 + 0))) (wanted_yes rfl (yv_of rfl (e19.trans (congrArg B hb21)))) (rv_fieldAddr (off := 0) (ft := 3) Try.underlying31 rfl ti3 rfl e28) rfl hJ)) ?_
       refine all_cons (by
         refine ⟨?_, ?_⟩
         ·intro _nm ρ σm hJ hoff hdep
          have e29 : look 37 ρ 29 = (pt b31 (o32 + 0)) := hdep 19 rfl rfl 29 rfl
          have e19 : look 37 ρ 19 = (B (decide (0 < s2))) := hdep 9 rfl rfl 19 rfl
          obtain ⟨H, m⟩ := id hJ
          replace hc33 := (Hs.ro 1 rfl).hmd hx29 hi30 (k := 0) (by decide) hc33 m
          exact dp_v (v := (I x28.1)) (wanted_yes rfl (yv_of rfl (e19.trans (congrArg B hb21)))) (rv_load1 Try.underlying3 rfl e29 hc33) rfl hJ
         trivial) ?_
       exact all_nil
      ·intro _nm ρ σ34 hJ hoff hrel
       have e0 : look 37 ρ 0 = (Sl alist_0 list_0 clist_0) := look_off (hoff 0 rfl) rfl
       have e3 : look 37 ρ 3 = (I s2) := look_off (hoff 3 rfl) rfl
       have e16 : look 37 ρ 16 = (B (!r16)) := hrel 6 rfl 16 rfl
       have e19 : look 37 ρ 19 = (B (decide (0 < s2))) := hrel 9 rfl 19 rfl
       have e24 : look 37 ρ 24 = (I x22.1) := hrel 14 rfl 24 rfl
       have e30 : look 37 ρ 30 = (I x28.1) := hrel 20 rfl 30 rfl
       obtain ⟨H, -⟩ := (show Hp S0 σ0 σ34 [Ch.ro 0 (Sl a13 x6.2.1 c14) x6.2.1, Ch.ro 0 (Sl alist_0 list_0 clist_0) list_0] ∧ Md (cov []) σ3 σ34 from hJ)
       clear hJ Hs
       rw [fr_lookL (L := [(0, (Sl alist_0 list_0 clist_0)), (3, (I s2)), (16, (B (!r16))), (19, (B (decide (0 < s2)))), (24, (I x22.1)), (30, (I x28.1))]) ⟨e0, e3, e16, e19, e24, e30, trivial⟩]
       clear hoff hrel e0 e3 e16 e19 e24 e30
       refine st_g (v := (B (decide (x22.1 ≤ x28.1)))) (congrArg some hb21) (rv_leq (a := x22.1) (b := x28.1) rfl rfl) ?_
       refine st_g (v := (B (decide (x22.1 ≤ x28.1)))) (congrArg some hb19) (rv_pick_t (congrArg B hb21) rfl) ?_
       refine st (v := (B (decide (x22.1 ≤ x28.1)))) (rv_pick_f (congrArg B hb19) rfl) ?_
       refine w_end ?_
       obtain rfl := Option.some.inj h
       exact ⟨rfl, _, σ34, fr_join ⟨rfl, rfl, rfl, trivial⟩, rfl, H.sel' [1] rfl rfl⟩
     ·replace h := bif_f hb21 h
      have Hs := H
      refine rg2 (σ := σ3) (Nm := Unit) 21 [4] [[false], [true]] [[(0, 0)], [(0, 0)], [(0, 0)], [(0, 0)], [(0, 1)], [(1, 1)], [(1, 1)], [(1, 1)], [(1, 1)], [(1, 1)], [(1, 1)], [(1, 1)], [(1, 1)], [(1, 1)], [(1, 1)], [(1, 1)], [(1, 1)], [(1, 1)], [(1, 1)], [(1, 1)], [(1, 1)]] 1 [fun (_nm : Unit) => fun σm => Hp S0 σ0 σm [Ch.ro 0 (Sl a13 x6.2.1 c14) x6.2.1, Ch.ro 0 (Sl alist_0 list_0 clist_0) list_0] ∧ Md (cov []) σ3 σm, fun (_nm : Unit) => fun σm => Hp S0 σ0 σm [Ch.ro 0 (Sl a13 x6.2.1 c14) x6.2.1, Ch.ro 0 (Sl alist_0 list_0 clist_0) list_0] ∧ Md (cov []) σ3 σm] [fun (_nm : Unit) => (Sl alist_0 list_0 clist_0), fun (_nm : Unit) => (I s2), fun (_nm : Unit) => (pt b9 o10), fun (_nm : Unit) => (.agg #[(I x6.1), (Sl a13 x6.2.1 c14), (I x6.2.2)]), fun (_nm : Unit) => (B r16), fun (_nm : Unit) => (B (!r16)), fun (_nm : Unit) => (B (!r16)), fun (_nm : Unit) => (I s2), fun (_nm : Unit) => (B (decide (0 < s2))), fun (_nm : Unit) => (B (decide (0 < s2))), fun (_nm : Unit) => undef, fun (_nm : Unit) => undef, fun (_nm : Unit) => undef, fun (_nm : Unit) => undef, fun (_nm : Unit) => undef, fun (_nm : Unit) => undef, fun (_nm : Unit) => undef, fun (_nm : Unit) => undef, fun (_nm : Unit) => undef, fun (_nm : Unit) => undef, fun (_nm : Unit) => undef] () (by kernel_rfl) (by kernel_rfl) ?_ ?_ ?_
      ·intro σm m0
       exact ⟨H.grow (m0.mono fun _ h => h.elim), m0⟩
      ·refine all_cons (obs_v rfl (by
         intro k; intro _nm ρ σm hJ hoff hdep
         have e0 : look 37 ρ 0 = (Sl alist_0 list_0 clist_0) := look_off (hoff 0 rfl) rfl
         exact dp_v (v := (Sl alist_0 list_0 clist_0)) (wanted_none _ rfl _) (rv_move e0) rfl hJ)) ?_
       refine all_cons (obs_v rfl (by
         intro k; intro _nm ρ σm hJ hoff hdep
         have e3 : look 37 ρ 3 = (I s2) := look_off (hoff 3 rfl) rfl
         exact dp_v (v := (I s2)) (wanted_none _ rfl _) (rv_move e3) rfl hJ)) ?_
       refine all_cons (obs_v rfl (by
         intro k; intro _nm ρ σm hJ hoff hdep
         have e10 : look 37 ρ 10 = (Sl alist_0 list_0 clist_0) := hdep 0 rfl rfl 10 rfl
         have e11 : look 37 ρ 11 = (I s2) := hdep 1 rfl rfl 11 rfl
         exact dp_v (v := (pt b9 o10)) (wanted_none _ rfl _) (rv_ix Try.underlying23 ti31 e10 e11 hi8) rfl hJ)) ?_
       refine all_cons (by
         refine ⟨?_, ?_⟩
         ·intro _nm ρ σm hJ hoff hdep
          have e12 : look 37 ρ 12 = (pt b9 o10) := hdep 2 rfl rfl 12 rfl
          obtain ⟨H, m⟩ := id hJ
          replace hc12 := fun j hj => (Hs.ro 1 rfl).hmd hx7 hi8 (k := j) (Nat.lt_of_lt_of_eq hj hl11) (hc12 j hj) m
          exact dp_v (v := (.agg #[(I x6.1), (Sl a13 x6.2.1 c14), (I x6.2.2)])) (wanted_none _ rfl _) (rv_load Try.underlying31 rfl ti31 e12 hl11 hc12) rfl hJ
         trivial) ?_
       refine all_cons (by
         refine ⟨?_, ?_⟩
         ·intro _nm ρ σm hJ hoff hdep
          have e13 : look 37 ρ 13 = (.agg #[(I x6.1), (Sl a13 x6.2.1 c14), (I x6.2.2)]) := hdep 3 rfl rfl 13 rfl
          obtain ⟨H, m⟩ := id hJ
          refine dp_cx (wanted_none _ rfl _) (cx_call hc18 (ent_f hc18.fn (by show [look 37 ρ 13] = _; rw [e13])) hn0 (show Hp S0 σ0 _ ([Ch.ro 0 (Sl a13 x6.2.1 c14) x6.2.1] ++ [Ch.ro 0 (Sl a13 x6.2.1 c14) x6.2.1, Ch.ro 0 (Sl alist_0 list_0 clist_0) list_0]) from (H.sel' [0, 0, 1] rfl rfl))) ?_
          rintro _ σq ⟨_, ⟨rfl, rfl⟩, H2, m2⟩
          exact ⟨_, (), rfl, rfl, ⟨H2.sel' [0, 1] rfl rfl, m.comp0 (m2.mono (fun i h => by simp [cov, Ch.ro] at h))⟩, stab [0, 1, 2, 3] (by kernel_rfl) ⟨rfl, rfl, rfl, rfl, trivial⟩⟩
         trivial) ?_
       refine all_cons (obs_v rfl (by
         intro k; intro _nm ρ σm hJ hoff hdep
         have e14 : look 37 ρ 14 = (B r16) := hdep 4 rfl rfl 14 rfl
         exact dp_v (v := (B (!r16))) (wanted_none _ rfl _) (rv_not e14) rfl hJ)) ?_
       refine all_cons (obs_v rfl (by
         intro k; intro _nm ρ σm hJ hoff hdep
         have e15 : look 37 ρ 15 = (B (!r16)) := hdep 5 rfl rfl 15 rfl
         exact dp_v (v := (B (!r16))) (wanted_none _ rfl _) (rv_move e15) rfl hJ)) ?_
       refine all_cons (obs_v rfl (by
         intro k; intro _nm ρ σm hJ hoff hdep
         have e3 : look 37 ρ 3 = (I s2) := look_off (hoff 3 rfl) rfl
         have e16 : look 37 ρ 16 = (B (!r16)) := hdep 6 rfl rfl 16 rfl
         exact dp_v (v := (I s2)) (wanted_yes rfl (yv_of rfl (e16.trans (congrArg B hb19)))) (rv_move e3) rfl hJ)) ?_
       refine all_cons (obs_v rfl (by
         intro k; intro _nm ρ σm hJ hoff hdep
         have e17 : look 37 ρ 17 = (I s2) := hdep 7 rfl rfl 17 rfl
         have e16 : look 37 ρ 16 = (B (!r16)) := hdep 6 rfl rfl 16 rfl
         exact dp_v (v := (B (decide (0 < s2)))) (wanted_yes rfl (yv_of rfl (e16.trans (congrArg B hb19)))) (rv_gtr (a := s2) (b := 0) e17 rfl) rfl hJ)) ?_
       refine all_cons (obs_v rfl (by
         intro k; intro _nm ρ σm hJ hoff hdep
         have e18 : look 37 ρ 18 = (B (decide (0 < s2))) := hdep 8 rfl rfl 18 rfl
         have e16 : look 37 ρ 16 = (B (!r16)) := hdep 6 rfl rfl 16 rfl
         exact dp_v (v := (B (decide (0 < s2)))) (wanted_yes rfl (yv_of rfl (e16.trans (congrArg B hb19)))) (rv_move e18) rfl hJ)) ?_
       refine all_cons (obs_v rfl (by
         intro k; intro _nm ρ σm hJ hoff hdep
         have e19 : look 37 ρ 19 = (B (decide (0 < s2))) := hdep 9 rfl rfl 19 rfl
         exact dp_skip (wanted_no rfl (yv_of rfl (e19.trans (congrArg B hb21)))) rfl hJ)) ?_
       refine all_cons (obs_v rfl (by
         intro k; intro _nm ρ σm hJ hoff hdep
         have e19 : look 37 ρ 19 = (B (decide (0 < s2))) := hdep 9 rfl rfl 19 rfl
         exact dp_skip (wanted_no rfl (yv_of rfl (e19.trans (congrArg B hb21)))) rfl hJ)) ?_
       refine all_cons (obs_v rfl (by
         intro k; intro _nm ρ σm hJ hoff hdep
         have e19 : look 37 ρ 19 = (B (decide (0 < s2))) := hdep 9 rfl rfl 19 rfl
         exact dp_skip (wanted_no rfl (yv_of rfl (e19.trans (congrArg B hb21)))) rfl hJ)) ?_
       refine all_cons (obs_v rfl (by
         intro k; intro _nm ρ σm hJ hoff hdep
         have e19 : look 37 ρ 19 = (B (decide (0 < s2))) := hdep 9 rfl rfl 19 rfl
         exact dp_skip (wanted_no rfl (yv_of rfl (e19.trans (congrArg B hb21)))) rfl hJ)) ?_
       refine all_cons (obs_v rfl (by
         intro k; intro _nm ρ σm hJ hoff hdep
         have e19 : look 37 ρ 19 = (B (decide (0 < s2))) := hdep 9 rfl rfl 19 rfl
         exact dp_skip (wanted_no rfl (yv_of rfl (e19.trans (congrArg B hb21)))) rfl hJ)) ?_
       refine all_cons (obs_v rfl (by
         intro k; intro _nm ρ σm hJ hoff hdep
         have e19 : look 37 ρ 19 = (B (decide (0 < s2))) := hdep 9 rfl rfl 19 rfl
         exact dp_skip (wanted_no rfl (yv_of rfl (e19.trans (congrArg B hb21)))) rfl hJ)) ?_
       refine all_cons (obs_v rfl (by
         intro k; intro _nm ρ σm hJ hoff hdep
         have e19 : look 37 ρ 19 = (B (decide (0 < s2))) := hdep 9 rfl rfl 19 rfl
         exact dp_skip (wanted_no rfl (yv_of rfl (e19.trans (congrArg B hb21)))) rfl hJ)) ?_
       refine all_cons (obs_v rfl (by
         intro k; intro _nm ρ σm hJ hoff hdep
         have e19 : look 37 ρ 19 = (B (decide (0 < s2))) := hdep 9 rfl rfl 19 rfl
         exact dp_skip (wanted_no rfl (yv_of rfl (e19.trans (congrArg B hb21)))) rfl hJ)) ?_
       refine all_cons (obs_v rfl (by
         intro k; intro _nm ρ σm hJ hoff hdep
         have e19 : look 37 ρ 19 = (B (decide (0 < s2))) := hdep 9 rfl rfl 19 rfl
         exact dp_skip (wanted_no rfl (yv_of rfl (e19.trans (congrArg B hb21)))) rfl hJ)) ?_
       refine all_cons (obs_v rfl (by
         intro k; intro _nm ρ σm hJ hoff hdep
         have e19 : look 37 ρ 19 = (B (decide (0 < s2))) := hdep 9 rfl rfl 19 rfl
         exact dp_skip (wanted_no rfl (yv_of rfl (e19.trans (congrArg B hb21)))) rfl hJ)) ?_
       refine all_cons (obs_v rfl (by
         intro k; intro _nm ρ σm hJ hoff hdep
         have e19 : look 37 ρ 19 = (B (decide (0 < s2))) := hdep 9 rfl rfl 19 rfl
         exact dp_skip (wanted_no rfl (yv_of rfl (e19.trans (congrArg B hb21)))) rfl hJ)) ?_
       exact all_nil
      ·intro _nm ρ σ35 hJ hoff hrel
       have e0 : look 37 ρ 0 = (Sl alist_0 list_0 clist_0) := look_off (hoff 0 rfl) rfl
       have e3 : look 37 ρ 3 = (I s2) := look_off (hoff 3 rfl) rfl
       have e16 : look 37 ρ 16 = (B (!r16)) := hrel 6 rfl 16 rfl
       have e19 : look 37 ρ 19 = (B (decide (0 < s2))) := hrel 9 rfl 19 rfl
       have e24 : look 37 ρ 24 = undef := hrel 14 rfl 24 rfl
       have e30 : look 37 ρ 30 = undef := hrel 20 rfl 30 rfl
       obtain ⟨H, -⟩ := (show Hp S0 σ0 σ35 [Ch.ro 0 (Sl a13 x6.2.1 c14) x6.2.1, Ch.ro 0 (Sl alist_0 list_0 clist_0) list_0] ∧ Md (cov []) σ3 σ35 from hJ)
       clear hJ Hs
       rw [fr_lookL (L := [(0, (Sl alist_0 list_0 clist_0)), (3, (I s2)), (16, (B (!r16))), (19, (B (decide (0 < s2)))), (24, undef), (30, undef)]) ⟨e0, e3, e16, e19, e24, e30, trivial⟩]
       clear hoff hrel e0 e3 e16 e19 e24 e30
       refine st_skip (congrArg some hb21) ?_
       refine st_g (v := (B false)) (congrArg some hb19) (rv_pick_f (congrArg B hb21) rfl) ?_
       refine st (v := (B false)) (rv_pick_f (congrArg B hb19) rfl) ?_
       refine w_end ?_
       obtain rfl := Option.some.inj h
       exact ⟨rfl, _, σ35, fr_join ⟨rfl, rfl, rfl, trivial⟩, rfl, H.sel' [1] rfl rfl⟩
   ·clear hj
    have h := h'
    clear h' H
    rintro e a w ⟨rfl, ρ, σ36, rfl, rfl, H⟩
    refine q_then ?_
    refine cd_cond o5 rfl (fun hb37 => ?_) (fun hb37 => ?_)
    ·replace h := bif_t hb37 h
     refine c_seq ?_
     refine rg ?_
     refine st (v := (B false)) (rv_assign rfl) ?_
     refine w_end ?_
     refine q_then ?_
     refine c_ret ?_
     refine q_blk_r ?_
     refine q_then_r ?_
     refine q_then_r ?_
     refine q_blk_r ?_
     obtain rfl := Option.some.inj h
     obtain rfl := hres _ rfl
     exact .inr (⟨_, rfl, rfl, _, σ36, fr_join ⟨rfl, trivial⟩, rfl, H.sel' [] rfl rfl⟩)
    ·replace h := bif_f hb37 h
     refine c_skip ?_
     refine q_blk ?_
     refine q_then ?_
     refine rg ?_
     refine st (v := (I s2)) (rv_move rfl) ?_
     refine st (v := (I (w64 (s2 + 1)))) (rv_add (a := s2) (b := 1) rfl rfl) ?_
     refine st (v := (I (w64 (s2 + 1)))) (rv_assign rfl) ?_
     refine w_end ?_
     refine q_then ?_
     obtain rfl := Option.some.inj h
     exact ⟨_, rfl, _, σ36, fr_join ⟨rfl, rfl, trivial⟩, rfl, H.sel' [0] rfl rfl⟩
  ·replace h := bif_f hb4 h
   refine c_exit ?_
   refine q_then_x ?_
   refine q_then_x ?_
   refine q_blk_hit ?_
   obtain rfl := Option.some.inj h
   obtain rfl := hres _ rfl
   exact .inl ⟨_, rfl, rfl, _, σ3, fr_join ⟨rfl, trivial⟩, rfl, H.sel' [0] rfl rfl⟩
 ·clear hj
  have h := h'
  clear h' H
  rintro e a w (⟨t38, rfl, rfl, ρ, σ39, rfl, rfl, H⟩ | ⟨t40, rfl, rfl, ρ, σ41, rfl, rfl, H⟩)
  ·replace h := selim_l h
   refine q_then ?_
   refine c_seq ?_
   refine rg ?_
   refine st (v := (Sl alist_0 list_0 clist_0)) (rv_move rfl) ?_
   refine st (v := (I (list_0.length : Int))) (rv_len Try.underlying23 rfl) ?_
   refine st (v := (B (decide ((list_0.length : Int) ≤ 16)))) (rv_leq (a := (list_0.length : Int)) (b := 16) rfl rfl) ?_
   refine st (v := (B (decide ((list_0.length : Int) ≤ 16)))) (rv_assign rfl) ?_
   refine w_end ?_
   refine q_then ?_
   refine c_ret ?_
   obtain rfl := Option.some.inj h
   exact fin_ret (v := (B (decide ((list_0.length : Int) ≤ 16)))) (results_ok Try.results80 (res_tmp (v := (B (decide ((list_0.length : Int) ≤ 16)))) rfl res_nil) rfl) ⟨rfl, rfl⟩ (H.sel' [] rfl rfl)
  ·replace h := selim_r h
   refine q_then_r ?_
   obtain rfl := Option.some.inj h
   exact fin_ret (v := (B t40)) (results_ok Try.results80 (res_tmp (v := (B t40)) rfl res_nil) rfl) ⟨rfl, rfl⟩ (H.sel' [] rfl rfl)

theorem c_spec_InBox {list_0 : List (Int × (List Int) × Int)} {low_1 : List Int} {high_2 : List Int} {alist_0 : Option Addr} {clist_0 : Nat} {alow_1 : Option Addr} {clow_1 : Nat} {ahigh_2 : Option Addr} {chigh_2 : Nat} {r : (List Int)} (h : M.spec_InBox list_0 low_1 high_2 = some r) :
    Cal2 Try.prog 24 [(Sl alist_0 list_0 clist_0), (Sl alow_1 low_1 clow_1), (Sl ahigh_2 high_2 chigh_2)] [Ch.ro 0 (Sl alist_0 list_0 clist_0) list_0, Ch.ro 0 (Sl alow_1 low_1 clow_1) low_1, Ch.ro 0 (Sl ahigh_2 high_2 chigh_2) high_2] (fun n0 v L => ∃ (az1 : Option Addr), ∃ (cz2 : Nat), v = (Sl az1 r cz2) ∧ L = [Ch.own n0 n0 (Sl az1 r cz2) r]) := by
 refine cal2 (n := 65) Try.func24 rfl rfl rfl rfl ?_
 intro S0 σ0 n0 hn0 H
 unfold M.spec_InBox at h
 refine c_seq ?_
 refine rg ?_
 refine st (v := (.slice none 0 0)) (rv_assign rfl) ?_
 refine w_end ?_
 refine q_then ?_
 refine c_seq ?_
 refine rg ?_
 refine st_ex (ex_buildSlice (el := n0) (xs := ([] : List Int)) (ps := []) (cs := []) H hn0 Try.underlying24 ti3 rfl rfl (by kernel_rfl) (.nil) rfl) (wanted_none _ rfl _) ?_
 rintro _ σ2 ⟨b1, rfl, H, -⟩
 refine st (v := (Sl (some ⟨b1, 0, none⟩) ([] : List Int) 0)) (rv_assign rfl) ?_
 refine w_end ?_
 refine q_then ?_
 refine c_seq ?_
 refine c_seq ?_
 obtain ⟨o3, hj, h'⟩ := bind_some h
 clear h
 refine c_cut (fun e a w => e = .normal ∧ ∃ (ρ : Nat → Value) (σ : St), a = fr 65 (updL ρ [(0, (Sl alist_0 list_0 clist_0)), (1, (Sl alow_1 low_1 clow_1)), (2, (Sl ahigh_2 high_2 chigh_2)), (7, (Sl (some ⟨b1, 0, none⟩) ([] : List Int) 0)), (24, (B o3))]) ∧ w = σ.w ∧ Hp S0 σ0 σ [Ch.ro 0 (Sl alist_0 list_0 clist_0) list_0, Ch.ro 0 (Sl alow_1 low_1 clow_1) low_1, Ch.ro 0 (Sl ahigh_2 high_2 chigh_2) high_2, Ch.own n0 n0 (Sl (some ⟨b1, 0, none⟩) ([] : List Int) 0) ([] : List Int)]) ?_ ?_
 ·clear h'
  rename _ = some o3 => h
  refine rg ?_
  refine st (v := (Sl alist_0 list_0 clist_0)) (rv_move rfl) ?_
  obtain ⟨r4, hx5, h'⟩ := bind_some h
  clear h
  have h := h'; clear h'
  have hc6 := c_spec_validStore (alist_0 := alist_0) (clist_0 := clist_0) hx5
  refine st_call (cx_call hc6 (ent_f hc6.fn rfl) hn0 (show Hp S0 σ0 _ ([Ch.ro 0 (Sl alist_0 list_0 clist_0) list_0] ++ [Ch.own n0 n0 (Sl (some ⟨b1, 0, none⟩) ([] : List Int) 0) ([] : List Int), Ch.ro 0 (Sl alist_0 list_0 clist_0) list_0, Ch.ro 0 (Sl alow_1 low_1 clow_1) low_1, Ch.ro 0 (Sl ahigh_2 high_2 chigh_2) high_2]) from (H.sel' [1, 0, 1, 2, 3] rfl rfl))) (wanted_none _ rfl _) ?_
  rintro _ σ7 ⟨_, ⟨rfl, rfl⟩, H, -⟩
  replace H : Hp S0 σ0 σ7 [Ch.own n0 n0 (Sl (some ⟨b1, 0, none⟩) ([] : List Int) 0) ([] : List Int), Ch.ro 0 (Sl alist_0 list_0 clist_0) list_0, Ch.ro 0 (Sl alow_1 low_1 clow_1) low_1, Ch.ro 0 (Sl ahigh_2 high_2 chigh_2) high_2] := H
  refine st (v := (B (!r4))) (rv_not rfl) ?_
  refine st (v := (B (!r4))) (rv_move rfl) ?_
  rcases Bool.eq_false_or_eq_true (!r4) with hb8 | hb8
  ·replace h := bif_t hb8 h
   refine st_skip (congrArg some hb8) ?_
   refine st_skip (congrArg some hb8) ?_
   refine st_skip (congrArg some hb8) ?_
   refine st (v := (B true)) (rv_pick_t (congrArg B hb8) rfl) ?_
   refine st (v := (B true)) (rv_move rfl) ?_
   refine st_skip rfl ?_
   refine st_skip rfl ?_
   refine st_skip rfl ?_
   refine st (v := (B true)) (rv_pick_t rfl rfl) ?_
   refine w_end ?_
   obtain rfl := Option.some.inj h
   exact ⟨rfl, _, σ7, fr_join ⟨rfl, rfl, rfl, rfl, rfl, trivial⟩, rfl, H.sel' [1, 2, 3, 0] rfl rfl⟩
  ·replace h := bif_f hb8 h
   refine st_g (v := (Sl alow_1 low_1 clow_1)) (congrArg some hb8) (rv_move rfl) ?_
   obtain ⟨r9, hx10, h'⟩ := bind_some h
   clear h
   have h := h'; clear h'
   have hc11 := c_spec_isVector (av_0 := alow_1) (cv_0 := clow_1) hx10
   refine st_call (cx_call hc11 (ent_f hc11.fn rfl) hn0 (show Hp S0 σ0 _ ([Ch.ro 0 (Sl alow_1 low_1 clow_1) low_1] ++ [Ch.own n0 n0 (Sl (some ⟨b1, 0, none⟩) ([] : List Int) 0) ([] : List Int), Ch.ro 0 (Sl alist_0 list_0 clist_0) list_0, Ch.ro 0 (Sl alow_1 low_1 clow_1) low_1, Ch.ro 0 (Sl ahigh_2 high_2 chigh_2) high_2]) from (H.sel' [2, 0, 1, 2, 3] rfl rfl))) (wanted_yes rfl (by exact (congrArg some hb8))) ?_
   rintro _ σ12 ⟨_, ⟨rfl, rfl⟩, H, -⟩
   replace H : Hp S0 σ0 σ12 [Ch.own n0 n0 (Sl (some ⟨b1, 0, none⟩) ([] : List Int) 0) ([] : List Int), Ch.ro 0 (Sl alist_0 list_0 clist_0) list_0, Ch.ro 0 (Sl alow_1 low_1 clow_1) low_1, Ch.ro 0 (Sl ahigh_2 high_2 chigh_2) high_2] := H
   refine st_g (v := (B (!r9))) (congrArg some hb8) (rv_not rfl) ?_
   refine st (v := (B (!r9))) (rv_pick_f (congrArg B hb8) rfl) ?_
   refine st (v := (B (!r9))) (rv_move rfl) ?_
   rcases Bool.eq_false_or_eq_true (!r9) with hb13 | hb13
   ·replace h := bif_t hb13 h
    refine st_skip (congrArg some hb13) ?_
    refine st_skip (congrArg some hb13) ?_
    refine st_skip (congrArg some hb13) ?_
    refine st (v := (B true)) (rv_pick_t (congrArg B hb13) rfl) ?_
    refine w_end ?_
    obtain rfl := Option.some.inj h
    exact ⟨rfl, _, σ12, fr_join ⟨rfl, rfl, rfl, rfl, rfl, trivial⟩, rfl, H.sel' [1, 2, 3, 0] rfl rfl⟩
   ·replace h := bif_f hb13 h
    refine st_g (v := (Sl ahigh_2 high_2 chigh_2)) (congrArg some hb13) (rv_move rfl) ?_
    obtain ⟨r14, hx15, h'⟩ := bind_some h
    clear h
    have h := h'; clear h'
    have hc16 := c_spec_isVector (av_0 := ahigh_2) (cv_0 := chigh_2) hx15
    refine st_call (cx_call hc16 (ent_f hc16.fn rfl) hn0 (show Hp S0 σ0 _ ([Ch.ro 0 (Sl ahigh_2 high_2 chigh_2) high_2] ++ [Ch.own n0 n0 (Sl (some ⟨b1, 0, none⟩) ([] : List Int) 0) ([] : List Int), Ch.ro 0 (Sl alist_0 list_0 clist_0) list_0, Ch.ro 0 (Sl alow_1 low_1 clow_1) low_1, Ch.ro 0 (Sl ahigh_2 high_2 chigh_2) high_2]) from (H.sel' [3, 0, 1, 2, 3] rfl rfl))) (wanted_yes rfl (by exact (congrArg some hb13))) ?_
    rintro _ σ17 ⟨_, ⟨rfl, rfl⟩, H, -⟩
    replace H : Hp S0 σ0 σ17 [Ch.own n0 n0 (Sl (some ⟨b1, 0, none⟩) ([] : List Int) 0) ([] : List Int), Ch.ro 0 (Sl alist_0 list_0 clist_0) list_0, Ch.ro 0 (Sl alow_1 low_1 clow_1) low_1, Ch.ro 0 (Sl ahigh_2 high_2 chigh_2) high_2] := H
    refine st_g (v := (B (!r14))) (congrArg some hb13) (rv_not rfl) ?_
    refine st (v := (B (!r14))) (rv_pick_f (congrArg B hb13) rfl) ?_
    refine w_end ?_
    obtain rfl := Option.some.inj h
    exact ⟨rfl, _, σ17, fr_join ⟨rfl, rfl, rfl, rfl, rfl, trivial⟩, rfl, H.sel' [1, 2, 3, 0] rfl rfl⟩
 ·clear hj
  have h := h'
  clear h' H
  rintro e a w ⟨rfl, ρ, σ18, rfl, rfl, H⟩
  refine q_then ?_
  refine cd_cond o3 rfl (fun hb19 => ?_) (fun hb19 => ?_)
  ·replace h := bif_t hb19 h
   refine c_seq ?_
   refine rg ?_
   refine st (v := (.slice none 0 0)) (rv_assign rfl) ?_
   refine w_end ?_
   refine q_then ?_
   refine c_ret ?_
   refine q_then_r ?_
   replace H := H.nilOwn Int n0 n0
   obtain rfl := Option.some.inj h
   exact fin_ret (v := (.slice none 0 0)) (results_ok Try.results24 (res_tmp (v := (.slice none 0 0)) rfl res_nil) rfl) ⟨none, 0, rfl, rfl⟩ (H.sel' [0] rfl rfl)
  ·replace h := bif_f hb19 h
   refine c_skip ?_
   refine q_then ?_
   refine c_seq ?_
   refine c_seq ?_
   refine rg ?_
   refine st (v := (I 0)) (rv_assign rfl) ?_
   refine w_end ?_
   refine q_then ?_
   obtain ⟨o20, hj, h'⟩ := bind_some h
   clear h
   refine c_cut (fun e a w => e = .normal ∧ ∃ (ρ : Nat → Value) (σ : St) (aj1 : Option Addr) (cj2 : Nat), a = fr 65 (updL ρ [(7, (Sl aj1 o20 cj2))]) ∧ w = σ.w ∧ Hp S0 σ0 σ [Ch.own n0 n0 (Sl aj1 o20 cj2) o20]) ?_ ?_
   ·clear h'
    rename _ = some o20 => h
    refine c_blk ?_
    refine wp_loopM _ h (fun s21 a w => ∃ (ρ : Nat → Value) (σ : St) (aj1 : Option Addr) (cj2 : Nat), a = fr 65 (updL ρ [(0, (Sl alist_0 list_0 clist_0)), (1, (Sl alow_1 low_1 clow_1)), (2, (Sl ahigh_2 high_2 chigh_2)), (7, (Sl aj1 s21.1 cj2)), (8, (I s21.2))]) ∧ w = σ.w ∧ Hp S0 σ0 σ [Ch.ro 0 (Sl alist_0 list_0 clist_0) list_0, Ch.ro 0 (Sl alow_1 low_1 clow_1) low_1, Ch.ro 0 (Sl ahigh_2 high_2 chigh_2) high_2, Ch.own n0 n0 (Sl aj1 s21.1 cj2) s21.1]) ⟨_, σ18, (some ⟨b1, 0, none⟩), 0, fr_join ⟨rfl, rfl, rfl, rfl, rfl, trivial⟩, rfl, H.sel' [0, 1, 2, 3] rfl rfl⟩ ?_
    clear h H
    rintro s21 a w o ⟨ρ, σ22, a23, c24, rfl, rfl, H⟩ h hres
    refine c_seq ?_
    refine c_seq ?_
    refine rg ?_
    refine st (v := (I s21.2)) (rv_move rfl) ?_
    refine st (v := (Sl alist_0 list_0 clist_0)) (rv_move rfl) ?_
    refine st (v := (I (list_0.length : Int))) (rv_len Try.underlying23 rfl) ?_
    refine st (v := (B (decide (s21.2 < (list_0.length : Int))))) (rv_lss (a := s21.2) (b := (list_0.length : Int)) rfl rfl) ?_
    refine w_end ?_
    refine q_then ?_
    refine cd_cond (decide (s21.2 < (list_0.length : Int))) rfl (fun hb25 => ?_) (fun hb25 => ?_)
    ·replace h := bif_t hb25 h
     refine c_skip ?_
     refine q_then ?_
     refine c_seq ?_
     obtain ⟨o26, hj, h'⟩ := bind_some h
     clear h
     refine c_cut (fun e a w => e = .normal ∧ ∃ (ρ : Nat → Value) (σ : St) (aj1 : Option Addr) (cj2 : Nat), a = fr 65 (updL ρ [(0, (Sl alist_0 list_0 clist_0)), (1, (Sl alow_1 low_1 clow_1)), (2, (Sl ahigh_2 high_2 chigh_2)), (7, (Sl aj1 o26 cj2)), (8, (I s21.2))]) ∧ w = σ.w ∧ Hp S0 σ0 σ [Ch.ro 0 (Sl alist_0 list_0 clist_0) list_0, Ch.ro 0 (Sl alow_1 low_1 clow_1) low_1, Ch.ro 0 (Sl ahigh_2 high_2 chigh_2) high_2, Ch.own n0 n0 (Sl aj1 o26 cj2) o26]) ?_ ?_
     ·clear h'
      rename _ = some o26 => h
      refine c_blk ?_
      refine c_seq ?_
      refine rg ?_
      refine st (v := (B true)) (rv_assign rfl) ?_
      refine w_end ?_
      refine q_then ?_
      refine c_seq ?_
      refine c_seq ?_
      refine rg ?_
      refine st (v := (I 0)) (rv_assign rfl) ?_
      refine w_end ?_
      refine q_then ?_
      obtain ⟨o27, hj, h'⟩ := bind_some h
      clear h
      refine c_cut (fun e a w => e = .normal ∧ ∃ (ρ : Nat → Value) (σ : St), a = fr 65 (updL ρ [(0, (Sl alist_0 list_0 clist_0)), (1, (Sl alow_1 low_1 clow_1)), (2, (Sl ahigh_2 high_2 chigh_2)), (7, (Sl a23 s21.1 c24)), (8, (I s21.2)), (9, (B o27))]) ∧ w = σ.w ∧ Hp S0 σ0 σ [Ch.ro 0 (Sl alist_0 list_0 clist_0) list_0, Ch.ro 0 (Sl alow_1 low_1 clow_1) low_1, Ch.ro 0 (Sl ahigh_2 high_2 chigh_2) high_2, Ch.own n0 n0 (Sl a23 s21.1 c24) s21.1]) ?_ ?_
      ·clear h'
       rename _ = some o27 => h
       refine c_blk ?_
       refine wp_loopM _ h (fun s28 a w => ∃ (ρ : Nat → Value) (σ : St), a = fr 65 (updL ρ [(0, (Sl alist_0 list_0 clist_0)), (1, (Sl alow_1 low_1 clow_1)), (2, (Sl ahigh_2 high_2 chigh_2)), (7, (Sl a23 s21.1 c24)), (8, (I s21.2)), (9, (B s28.1)), (10, (I s28.2))]) ∧ w = σ.w ∧ Hp S0 σ0 σ [Ch.ro 0 (Sl alist_0 list_0 clist_0) list_0, Ch.ro 0 (Sl alow_1 low_1 clow_1) low_1, Ch.ro 0 (Sl ahigh_2 high_2 chigh_2) high_2, Ch.own n0 n0 (Sl a23 s21.1 c24) s21.1]) ⟨_, σ22, fr_join ⟨rfl, rfl, rfl, rfl, rfl, rfl, rfl, trivial⟩, rfl, H.sel' [0, 1, 2, 3] rfl rfl⟩ ?_
       clear h H
       rintro s28 a w o ⟨ρ, σ29, rfl, rfl, H⟩ h hres
       refine c_seq ?_
       refine c_seq ?_
       refine rg ?_
       refine st (v := (I s28.2)) (rv_move rfl) ?_
       refine st (v := (B (decide (s28.2 < 4)))) (rv_lss (a := s28.2) (b := 4) rfl rfl) ?_
       refine w_end ?_
       refine q_then ?_
       refine cd_cond (decide (s28.2 < 4)) rfl (fun hb30 => ?_) (fun hb30 => ?_)
       ·replace h := bif_t hb30 h
        refine c_skip ?_
        refine q_then ?_
        refine c_seq ?_
        refine c_blk ?_
        obtain ⟨o31, hj, h'⟩ := bind_some h
        clear h
        refine c_cut (fun e a w => e = .normal ∧ ∃ (ρ : Nat → Value) (σ : St), a = fr 65 (updL ρ [(0, (Sl alist_0 list_0 clist_0)), (1, (Sl alow_1 low_1 clow_1)), (2, (Sl ahigh_2 high_2 chigh_2)), (7, (Sl a23 s21.1 c24)), (8, (I s21.2)), (9, (B o31)), (10, (I s28.2))]) ∧ w = σ.w ∧ Hp S0 σ0 σ [Ch.ro 0 (Sl alist_0 list_0 clist_0) list_0, Ch.ro 0 (Sl alow_1 low_1 clow_1) low_1, Ch.ro 0 (Sl ahigh_2 high_2 chigh_2) high_2, Ch.own n0 n0 (Sl a23 s21.1 c24) s21.1]) ?_ ?_
        ·clear h'
         rename _ = some o31 => h
         refine rgP (σ := σ29) 18 (by kernel_rfl) (by kernel_rfl) (by kernel_rfl) ?_
         refine sq (v := (B s28.1)) (rv_move rfl) ?_
         refine sq (v := (B s28.1)) (rv_move rfl) ?_
         rcases Bool.eq_false_or_eq_true s28.1 with hb32 | hb32
         ·replace h := bif_t hb32 h
          refine sq_g (v := (Sl alist_0 list_0 clist_0)) (congrArg some hb32) (rv_move rfl) ?_
          refine sq_g (v := (I s21.2)) (congrArg some hb32) (rv_move rfl) ?_
          obtain ⟨x33, hx34, h'⟩ := bind_some h
          clear h
          have h := h'; clear h'
          obtain ⟨b36, o37, hi35, -⟩ := (H.ro 0 rfl).ix hx34
          refine sq_g (v := (pt b36 o37)) (congrArg some hb32) (rv_ix Try.underlying23 ti31 rfl rfl hi35) ?_
          refine sq_g (v := (pt b36 (o37 + 1))) (congrArg some hb32) (rv_fieldAddr (off := 1) (ft := 24) Try.underlying31 rfl ti24 rfl rfl) ?_
          obtain ⟨v41, hc42, hR40⟩ := ((H.ro 0 rfl).at hx34 hi35).snd.fst.slice
          obtain ⟨a38, c39, rfl⟩ := hR40.isSl
          replace H := H.add (d := Ch.ro 0 (Sl a38 x33.2.1 c39) x33.2.1) hR40 (fun _ h => h)
          clear hR40
          refine sq_g (v := (Sl a38 x33.2.1 c39)) (congrArg some hb32) (rv_load1 Try.underlying24 rfl rfl hc42) ?_
          refine sq_g (v := (I s28.2)) (congrArg some hb32) (rv_move rfl) ?_
          obtain ⟨x43, hx44, h'⟩ := bind_some h
          clear h
          have h := h'; clear h'
          obtain ⟨b46, o47, hi45, -⟩ := (H.ro 0 rfl).ix hx44
          refine sq_g (v := (pt b46 o47)) (congrArg some hb32) (rv_ix Try.underlying24 ti3 rfl rfl hi45) ?_
          have hc48 := ((H.ro 0 rfl).at hx44 hi45).int
          refine sq_g (v := (I x43)) (congrArg some hb32) (rv_load1 Try.underlying3 rfl rfl hc48) ?_
          refine sq_g (v := (Sl alow_1 low_1 clow_1)) (congrArg some hb32) (rv_move rfl) ?_
          refine sq_g (v := (I s28.2)) (congrArg some hb32) (rv_move rfl) ?_
          obtain ⟨x49, hx50, h'⟩ := bind_some h
          clear h
          have h := h'; clear h'
          obtain ⟨b52, o53, hi51, -⟩ := (H.ro 2 rfl).ix hx50
          refine sq_g (v := (pt b52 o53)) (congrArg some hb32) (rv_ix Try.underlying24 ti3 rfl rfl hi51) ?_
          have hc54 := ((H.ro 2 rfl).at hx50 hi51).int
          refine sq_g (v := (I x49)) (congrArg some hb32) (rv_load1 Try.underlying3 rfl rfl hc54) ?_
          refine sq_g (v := (Sl ahigh_2 high_2 chigh_2)) (congrArg some hb32) (rv_move rfl) ?_
          refine sq_g (v := (I s28.2)) (congrArg some hb32) (rv_move rfl) ?_
          obtain ⟨x55, hx56, h'⟩ := bind_some h
          clear h
          have h := h'; clear h'
          obtain ⟨b58, o59, hi57, -⟩ := (H.ro 3 rfl).ix hx56
          refine sq_g (v := (pt b58 o59)) (congrArg some hb32) (rv_ix Try.underlying24 ti3 rfl rfl hi57) ?_
          have hc60 := ((H.ro 3 rfl).at hx56 hi57).int
          refine sq_g (v := (I x55)) (congrArg some hb32) (rv_load1 Try.underlying3 rfl rfl hc60) ?_
          refine sq_end ?_
          intro σ61 hm62
          replace H := H.grow (hm62.mono fun _ h => h); clear hm62
          obtain ⟨r63, hx64, h'⟩ := bind_some h
          clear h
          have h := h'; clear h'
          have hc65 := c_spec_inRange hx64
          refine st_call (cx_call hc65 (ent_f hc65.fn rfl) hn0 (show Hp S0 σ0 _ ([] ++ [Ch.ro 0 (Sl a38 x33.2.1 c39) x33.2.1, Ch.ro 0 (Sl alist_0 list_0 clist_0) list_0, Ch.ro 0 (Sl alow_1 low_1 clow_1) low_1, Ch.ro 0 (Sl ahigh_2 high_2 chigh_2) high_2, Ch.own n0 n0 (Sl a23 s21.1 c24) s21.1]) from (H.sel' [0, 1, 2, 3, 4] rfl rfl))) (wanted_yes rfl (by exact (congrArg some hb32))) ?_
          rintro _ σ66 ⟨_, ⟨rfl, rfl⟩, H, -⟩
          replace H : Hp S0 σ0 σ66 [Ch.ro 0 (Sl a38 x33.2.1 c39) x33.2.1, Ch.ro 0 (Sl alist_0 list_0 clist_0) list_0, Ch.ro 0 (Sl alow_1 low_1 clow_1) low_1, Ch.ro 0 (Sl ahigh_2 high_2 chigh_2) high_2, Ch.own n0 n0 (Sl a23 s21.1 c24) s21.1] := H
          refine st (v := (B r63)) (rv_pick_t (congrArg B hb32) rfl) ?_
          refine st (v := (B r63)) (rv_assign rfl) ?_
          refine w_end ?_
          obtain rfl := Option.some.inj h
          exact ⟨rfl, _, σ66, fr_join ⟨rfl, rfl, rfl, rfl, rfl, rfl, rfl, trivial⟩, rfl, H.sel' [1, 2, 3, 4] rfl rfl⟩
         ·replace h := bif_f hb32 h
          refine sq_skip (congrArg some hb32) ?_
          refine sq_skip (congrArg some hb32) ?_
          refine sq_skip (congrArg some hb32) ?_
          refine sq_skip (congrArg some hb32) ?_
          refine sq_skip (congrArg some hb32) ?_
          refine sq_skip (congrArg some hb32) ?_
          refine sq_skip (congrArg some hb32) ?_
          refine sq_skip (congrArg some hb32) ?_
          refine sq_skip (congrArg some hb32) ?_
          refine sq_skip (congrArg some hb32) ?_
          refine sq_skip (congrArg some hb32) ?_
          refine sq_skip (congrArg some hb32) ?_
          refine sq_skip (congrArg some hb32) ?_
          refine sq_skip (congrArg some hb32) ?_
          refine sq_skip (congrArg some hb32) ?_
          refine sq_skip (congrArg some hb32) ?_
          refine sq_end ?_
          intro σ67 hm68
          replace H := H.grow (hm68.mono fun _ h => h); clear hm68
          refine st_skip (congrArg some hb32) ?_
          refine st (v := (B false)) (rv_pick_f (congrArg B hb32) rfl) ?_
          refine st (v := (B false)) (rv_assign rfl) ?_
          refine w_end ?_
          obtain rfl := Option.some.inj h
          exact ⟨rfl, _, σ67, fr_join ⟨rfl, rfl, rfl, rfl, rfl, rfl, rfl, trivial⟩, rfl, H.sel' [0, 1, 2, 3] rfl rfl⟩
        ·clear hj
         have h := h'
         clear h' H
         rintro e a w ⟨rfl, ρ, σ69, rfl, rfl, H⟩
         refine q_blk ?_
         refine q_then ?_
         refine rg ?_
         refine st (v := (I s28.2)) (rv_move rfl) ?_
         refine st (v := (I (w64 (s28.2 + 1)))) (rv_add (a := s28.2) (b := 1) rfl rfl) ?_
         refine st (v := (I (w64 (s28.2 + 1)))) (rv_assign rfl) ?_
         refine w_end ?_
         refine q_then ?_
         obtain rfl := Option.some.inj h
         exact ⟨_, rfl, _, σ69, fr_join ⟨rfl, rfl, rfl, rfl, rfl, rfl, rfl, trivial⟩, rfl, H.sel' [0, 1, 2, 3] rfl rfl⟩
       ·replace h := bif_f hb30 h
        refine c_exit ?_
        refine q_then_x ?_
        refine q_then_x ?_
        refine q_blk_hit ?_
        obtain rfl := Option.some.inj h
        obtain rfl := hres _ rfl
        exact ⟨rfl, _, σ29, fr_join ⟨rfl, rfl, rfl, rfl, rfl, rfl, trivial⟩, rfl, H.sel' [0, 1, 2, 3] rfl rfl⟩
      ·clear hj
       have h := h'
       clear h' H
       rintro e a w ⟨rfl, ρ, σ70, rfl, rfl, H⟩
       refine q_then ?_
       refine c_seq ?_
       refine rg ?_
       refine st (v := (B o27)) (rv_move rfl) ?_
       refine w_end ?_
       refine q_then ?_
       refine cd_cond o27 rfl (fun hb71 => ?_) (fun hb71 => ?_)
       ·replace h := bif_t hb71 h
        refine rg ?_
        refine st (v := (Sl a23 s21.1 c24)) (rv_move rfl) ?_
        refine st (v := (Sl alist_0 list_0 clist_0)) (rv_move rfl) ?_
        refine st (v := (I s21.2)) (rv_move rfl) ?_
        obtain ⟨x72, hx73, h'⟩ := bind_some h
        clear h
        have h := h'; clear h'
        obtain ⟨b75, o76, hi74, -⟩ := (H.ro 0 rfl).ix hx73
        refine st (v := (pt b75 o76)) (rv_ix Try.underlying23 ti31 rfl rfl hi74) ?_
        refine st (v := (pt b75 (o76 + 0))) (rv_fieldAddr (off := 0) (ft := 3) Try.underlying31 rfl ti3 rfl rfl) ?_
        have hc77 := ((H.ro 0 rfl).at hx73 hi74).fst.int
        refine st (v := (I x72.1)) (rv_load1 Try.underlying3 rfl rfl hc77) ?_
        refine st_ex (ex_buildSlice (el := n0) (xs := ([x72.1] : List Int)) (ps := [(0, (I x72.1))]) (cs := [(I x72.1)]) H hn0 Try.underlying24 ti3 rfl rfl (by kernel_rfl) (.cons (c := [(I x72.1)]) rfl (.nil)) rfl) (wanted_none _ rfl _) ?_
        rintro _ σ79 ⟨b78, rfl, H, -⟩
        obtain ⟨xs80, hx81, h'⟩ := bind_some h
        clear h
        have h := h'; clear h'
        refine st_ex (ex_append H (i := 4) rfl Try.underlying24 Try.underlying24 ti3 rfl rfl (by decide) (H.own 0 rfl).rd hx81 hn0 rfl rfl) (wanted_none _ rfl _) ?_
        rintro _ σ84 ⟨a82, c83, rfl, H, -⟩
        refine st (v := (Sl a82 xs80 c83)) (rv_assign rfl) ?_
        refine w_end ?_
        refine q_blk ?_
        obtain rfl := Option.some.inj h
        exact ⟨rfl, _, σ84, a82, c83, fr_join ⟨rfl, rfl, rfl, rfl, rfl, trivial⟩, rfl, H.sel' [2, 3, 4, 0] rfl rfl⟩
       ·replace h := bif_f hb71 h
        refine c_skip ?_
        refine q_blk ?_
        obtain rfl := Option.some.inj h
        exact ⟨rfl, _, σ70, a23, c24, fr_join ⟨rfl, rfl, rfl, rfl, rfl, trivial⟩, rfl, H.sel' [0, 1, 2, 3] rfl rfl⟩
     ·clear hj
      have h := h'
      clear h' H
      rintro e a w ⟨rfl, ρ, σ85, a86, c87, rfl, rfl, H⟩
      refine q_then ?_
      refine rg ?_
      refine st (v := (I s21.2)) (rv_move rfl) ?_
      refine st (v := (I (w64 (s21.2 + 1)))) (rv_add (a := s21.2) (b := 1) rfl rfl) ?_
      refine st (v := (I (w64 (s21.2 + 1)))) (rv_assign rfl) ?_
      refine w_end ?_
      refine q_then ?_
      obtain rfl := Option.some.inj h
      exact ⟨_, rfl, _, σ85, a86, c87, fr_join ⟨rfl, rfl, rfl, rfl, rfl, trivial⟩, rfl, H.sel' [0, 1, 2, 3] rfl rfl⟩
    ·replace h := bif_f hb25 h
     refine c_exit ?_
     refine q_then_x ?_
     refine q_then_x ?_
     refine q_blk_hit ?_
     obtain rfl := Option.some.inj h
     obtain rfl := hres _ rfl
     exact ⟨rfl, _, σ22, a23, c24, fr_join ⟨rfl, trivial⟩, rfl, H.sel' [3] rfl rfl⟩
   ·clear hj
    have h := h'
    clear h' H
    rintro e a w ⟨rfl, ρ, σ88, a89, c90, rfl, rfl, H⟩
    refine q_then ?_
    refine c_seq ?_
    refine rg ?_
    refine st (v := (Sl a89 o20 c90)) (rv_move rfl) ?_
    refine st (v := (Sl a89 o20 c90)) (rv_assign rfl) ?_
    refine w_end ?_
    refine q_then ?_
    refine c_ret ?_
    obtain rfl := Option.some.inj h
    exact fin_ret (v := (Sl a89 o20 c90)) (results_ok Try.results24 (res_tmp (v := (Sl a89 o20 c90)) rfl res_nil) rfl) ⟨a89, c90, rfl, rfl⟩ (H.sel' [0] rfl rfl)

theorem c_laws_eqIntS {a_0 : List Int} {b_1 : List Int} {aa_0 : Option Addr} {ca_0 : Nat} {ab_1 : Option Addr} {cb_1 : Nat} {r : Bool} (h : M.laws_eqIntS a_0 b_1 = some r) :
    Cal2 Try.prog 37 [(Sl aa_0 a_0 ca_0), (Sl ab_1 b_1 cb_1)] [Ch.ro 0 (Sl aa_0 a_0 ca_0) a_0, Ch.ro 0 (Sl ab_1 b_1 cb_1) b_1] (fun n0 v L => v = (B r) ∧ L = []) := by
 refine cal2 (n := 26) Try.func37 rfl rfl rfl rfl ?_
 intro S0 σ0 n0 hn0 H
 unfold M.laws_eqIntS at h
 refine c_seq ?_
 refine rg ?_
 refine st (v := (B false)) (rv_assign rfl) ?_
 refine w_end ?_
 refine q_then ?_
 refine c_seq ?_
 refine c_seq ?_
 refine rg ?_
 refine st (v := (Sl aa_0 a_0 ca_0)) (rv_move rfl) ?_
 refine st (v := (I (a_0.length : Int))) (rv_len Try.underlying24 rfl) ?_
 refine st (v := (Sl ab_1 b_1 cb_1)) (rv_move rfl) ?_
 refine st (v := (I (b_1.length : Int))) (rv_len Try.underlying24 rfl) ?_
 refine st (v := (B ((a_0.length : Int) != (b_1.length : Int)))) (rv_neq (a := (a_0.length : Int)) (b := (b_1.length : Int)) rfl rfl) ?_
 refine w_end ?_
 refine q_then ?_
 refine cd_cond ((a_0.length : Int) != (b_1.length : Int)) rfl (fun hb1 => ?_) (fun hb1 => ?_)
 ·replace h := bif_t hb1 h
  refine c_seq ?_
  refine rg ?_
  refine st (v := (B false)) (rv_assign rfl) ?_
  refine w_end ?_
  refine q_then ?_
  refine c_ret ?_
  refine q_then_r ?_
  obtain rfl := Option.some.inj h
  exact fin_ret (v := (B false)) (results_ok Try.results37 (res_tmp (v := (B false)) rfl res_nil) rfl) ⟨rfl, rfl⟩ (H.sel' [] rfl rfl)
 ·replace h := bif_f hb1 h
  refine c_skip ?_
  refine q_then ?_
  refine c_seq ?_
  refine c_seq ?_
  refine rg ?_
  refine st (v := (I 0)) (rv_assign rfl) ?_
  refine w_end ?_
  refine q_then ?_
  obtain ⟨o2, hj, h'⟩ := bind_some h
  clear h
  refine c_cut (fun e a w => (∃ t, o2 = (.inl t) ∧ e = .normal ∧ ∃ (ρ : Nat → Value) (σ : St), a = fr 26 (updL ρ []) ∧ w = σ.w ∧ Hp S0 σ0 σ []) ∨ (∃ t, o2 = (.inr t) ∧ e = .ret ∧ ∃ (ρ : Nat → Value) (σ : St), a = fr 26 (updL ρ [(4, (B t))]) ∧ w = σ.w ∧ Hp S0 σ0 σ [])) ?_ ?_
  ·clear h'
   rename _ = some o2 => h
   refine c_blk ?_
   refine wp_loopM _ h (fun s3 a w => ∃ (ρ : Nat → Value) (σ : St), a = fr 26 (updL ρ [(0, (Sl aa_0 a_0 ca_0)), (1, (Sl ab_1 b_1 cb_1)), (5, (I s3))]) ∧ w = σ.w ∧ Hp S0 σ0 σ [Ch.ro 0 (Sl aa_0 a_0 ca_0) a_0, Ch.ro 0 (Sl ab_1 b_1 cb_1) b_1]) ⟨_, σ0, fr_join ⟨rfl, rfl, rfl, trivial⟩, rfl, H.sel' [0, 1] rfl rfl⟩ ?_
   clear h H
   rintro s3 a w o ⟨ρ, σ4, rfl, rfl, H⟩ h hres
   refine c_seq ?_
   refine c_seq ?_
   refine rg ?_
   refine st (v := (I s3)) (rv_move rfl) ?_
   refine st (v := (Sl aa_0 a_0 ca_0)) (rv_move rfl) ?_
   refine st (v := (I (a_0.length : Int))) (rv_len Try.underlying24 rfl) ?_
   refine st (v := (B (decide (s3 < (a_0.length : Int))))) (rv_lss (a := s3) (b := (a_0.length : Int)) rfl rfl) ?_
   refine w_end ?_
   refine q_then ?_
   refine cd_cond (decide (s3 < (a_0.length : Int))) rfl (fun hb5 => ?_) (fun hb5 => ?_)
   ·replace h := bif_t hb5 h
    refine c_skip ?_
    refine q_then ?_
    refine c_seq ?_
    refine c_blk ?_
    refine c_seq ?_
    refine rgP (σ := σ4) 8 (by kernel_rfl) (by kernel_rfl) (by kernel_rfl) ?_
    refine sq (v := (Sl aa_0 a_0 ca_0)) (rv_move rfl) ?_
    refine sq (v := (I s3)) (rv_move rfl) ?_
    obtain ⟨x6, hx7, h'⟩ := bind_some h
    clear h
    have h := h'; clear h'
    obtain ⟨b9, o10, hi8, -⟩ := (H.ro 0 rfl).ix hx7
    refine sq (v := (pt b9 o10)) (rv_ix Try.underlying24 ti3 rfl rfl hi8) ?_
    have hc11 := ((H.ro 0 rfl).at hx7 hi8).int
    refine sq (v := (I x6)) (rv_load1 Try.underlying3 rfl rfl hc11) ?_
    refine sq (v := (Sl ab_1 b_1 cb_1)) (rv_move rfl) ?_
    refine sq (v := (I s3)) (rv_move rfl) ?_
    obtain ⟨x12, hx13, h'⟩ := bind_some h
    clear h
    have h := h'; clear h'
    obtain ⟨b15, o16, hi14, -⟩ := (H.ro 1 rfl).ix hx13
    refine sq (v := (pt b15 o16)) (rv_ix Try.underlying24 ti3 rfl rfl hi14) ?_
    have hc17 := ((H.ro 1 rfl).at hx13 hi14).int
    refine sq (v := (I x12)) (rv_load1 Try.underlying3 rfl rfl hc17) ?_
    refine sq_end ?_
    intro σ18 hm19
    replace H := H.grow (hm19.mono fun _ h => h); clear hm19
    refine st (v := (B (x6 != x12))) (rv_neq (a := x6) (b := x12) rfl rfl) ?_
    refine w_end ?_
    refine q_then ?_
    refine cd_cond (x6 != x12) rfl (fun hb20 => ?_) (fun hb20 => ?_)
    ·replace h := bif_t hb20 h
     refine c_seq ?_
     refine rg ?_
     refine st (v := (B false)) (rv_assign rfl) ?_
     refine w_end ?_
     refine q_then ?_
     refine c_ret ?_
     refine q_blk_r ?_
     refine q_then_r ?_
     refine q_then_r ?_
     refine q_blk_r ?_
     obtain rfl := Option.some.inj h
     obtain rfl := hres _ rfl
     exact .inr (⟨_, rfl, rfl, _, σ18, fr_join ⟨rfl, trivial⟩, rfl, H.sel' [] rfl rfl⟩)
    ·replace h := bif_f hb20 h
     refine c_skip ?_
     refine q_blk ?_
     refine q_then ?_
     refine rg ?_
     refine st (v := (I s3)) (rv_move rfl) ?_
     refine st (v := (I (w64 (s3 + 1)))) (rv_add (a := s3) (b := 1) rfl rfl) ?_
     refine st (v := (I (w64 (s3 + 1)))) (rv_assign rfl) ?_
     refine w_end ?_
     refine q_then ?_
     obtain rfl := Option.some.inj h
     exact ⟨_, rfl, _, σ18, fr_join ⟨rfl, rfl, rfl, trivial⟩, rfl, H.sel' [0, 1] rfl rfl⟩
   ·replace h := bif_f hb5 h
    refine c_exit ?_
    refine q_then_x ?_
    refine q_then_x ?_
    refine q_blk_hit ?_
    obtain rfl := Option.some.inj h
    obtain rfl := hres _ rfl
    exact .inl ⟨_, rfl, rfl, _, σ4, fr_join trivial, rfl, H.sel' [] rfl rfl⟩
  ·clear hj
   have h := h'
   clear h' H
   rintro e a w (⟨t21, rfl, rfl, ρ, σ22, rfl, rfl, H⟩ | ⟨t23, rfl, rfl, ρ, σ24, rfl, rfl, H⟩)
   ·replace h := selim_l h
    refine q_then ?_
    refine c_seq ?_
    refine rg ?_
    refine st (v := (B true)) (rv_assign rfl) ?_
    refine w_end ?_
    refine q_then ?_
    refine c_ret ?_
    obtain rfl := Option.some.inj h
    exact fin_ret (v := (B true)) (results_ok Try.results37 (res_tmp (v := (B true)) rfl res_nil) rfl) ⟨rfl, rfl⟩ (H.sel' [] rfl rfl)
   ·replace h := selim_r h
    refine q_then_r ?_
    obtain rfl := Option.some.inj h
    exact fin_ret (v := (B t23)) (results_ok Try.results37 (res_tmp (v := (B t23)) rfl res_nil) rfl) ⟨rfl, rfl⟩ (H.sel' [] rfl rfl)

theorem c_laws_markIntS {a_0 : List Int} {k_1 : Int} {aa_0 : Option Addr} {ca_0 : Nat} {r : Int × (List Int)} (h : M.laws_markIntS a_0 k_1 = some r) :
    Cal2 Try.prog 40 [(Sl aa_0 a_0 ca_0), (I k_1)] [Ch.own 0 0 (Sl aa_0 a_0 ca_0) a_0] (fun n0 v L => v = (I r.1) ∧ L = [Ch.own 0 0 (Sl aa_0 r.2 ca_0) r.2] ∧ r.2.length = a_0.length) := by
 refine cal2 (n := 19) Try.func40 rfl rfl rfl rfl ?_
 intro S0 σ0 n0 hn0 H
 unfold M.laws_markIntS at h
 refine c_seq ?_
 refine rg ?_
 refine st (v := (I 0)) (rv_assign rfl) ?_
 refine w_end ?_
 refine q_then ?_
 refine c_seq ?_
 refine c_seq ?_
 refine rg ?_
 refine st (v := (I 0)) (rv_assign rfl) ?_
 refine w_end ?_
 refine q_then ?_
 obtain ⟨o1, hj, h'⟩ := bind_some h
 clear h
 refine c_cut (fun e a w => e = .normal ∧ ∃ (ρ : Nat → Value) (σ : St), a = fr 19 (updL ρ [(0, (Sl aa_0 o1.1 ca_0)), (1, (I o1.2))]) ∧ w = σ.w ∧ Hp S0 σ0 σ [Ch.own 0 0 (Sl aa_0 o1.1 ca_0) o1.1] ∧ o1.1.length = a_0.length) ?_ ?_
 ·clear h'
  rename _ = some o1 => h
  refine c_blk ?_
  refine wp_loopM _ h (fun s2 a w => ∃ (ρ : Nat → Value) (σ : St), a = fr 19 (updL ρ [(0, (Sl aa_0 s2.1 ca_0)), (1, (I s2.2.1)), (5, (I s2.2.2))]) ∧ w = σ.w ∧ Hp S0 σ0 σ [Ch.own 0 0 (Sl aa_0 s2.1 ca_0) s2.1] ∧ s2.1.length = a_0.length) ⟨_, σ0, fr_join ⟨rfl, rfl, rfl, trivial⟩, rfl, H.sel' [0] rfl rfl, rfl⟩ ?_
  clear h H
  rintro s2 a w o ⟨ρ, σ3, rfl, rfl, H, hn4⟩ h hres
  refine c_seq ?_
  refine c_seq ?_
  refine rg ?_
  refine st (v := (I s2.2.2)) (rv_move rfl) ?_
  refine st (v := (Sl aa_0 s2.1 ca_0)) (rv_move rfl) ?_
  refine st (v := (I (s2.1.length : Int))) (rv_len Try.underlying24 rfl) ?_
  refine st (v := (B (decide (s2.2.2 < (s2.1.length : Int))))) (rv_lss (a := s2.2.2) (b := (s2.1.length : Int)) rfl rfl) ?_
  refine w_end ?_
  refine q_then ?_
  refine cd_cond (decide (s2.2.2 < (s2.1.length : Int))) rfl (fun hb5 => ?_) (fun hb5 => ?_)
  ·replace h := bif_t hb5 h
   refine c_skip ?_
   refine q_then ?_
   refine c_seq ?_
   refine c_blk ?_
   refine c_seq ?_
   refine rg ?_
   refine st (v := (Sl aa_0 s2.1 ca_0)) (rv_move rfl) ?_
   refine st (v := (I s2.2.2)) (rv_move rfl) ?_
   refine st (v := (I s2.2.1)) (rv_move rfl) ?_
   obtain ⟨x6, hx7, h'⟩ := bind_some h
   clear h
   have h := h'; clear h'
   obtain ⟨b9, o10, hi8, -⟩ := (H.own 0 rfl).ix hx7
   refine st (v := (pt b9 o10)) (rv_ix Try.underlying24 ti3 rfl rfl hi8) ?_
   refine st_exS (ex_store_own (e' := s2.2.1) (vs := [(I s2.2.1)]) (k := 0) H (i := 0) rfl ti3 hx7 hi8 rfl rfl rfl rfl rfl (Nat.le_of_ble_eq_true rfl) (by simp [plain]) (by rintro _ rfl; exact rfl)) (wanted_none _ rfl _) ?_
   rintro σ11 ⟨H, -⟩
   have hsl : (Sl aa_0 s2.1 ca_0) = (Sl aa_0 (s2.1.set s2.2.2.toNat s2.2.1) ca_0) := sl_len List.length_set.symm
   rw [hsl]; rw [hsl] at H; clear hsl
   refine w_end ?_
   refine q_then ?_
   refine rg ?_
   refine st (v := (I s2.2.1)) (rv_move rfl) ?_
   refine st (v := (I (w64 (s2.2.1 + 1)))) (rv_add (a := s2.2.1) (b := 1) rfl rfl) ?_
   refine st (v := (I (w64 (s2.2.1 + 1)))) (rv_assign rfl) ?_
   refine w_end ?_
   refine q_blk ?_
   refine q_then ?_
   refine rg ?_
   refine st (v := (I s2.2.2)) (rv_move rfl) ?_
   refine st (v := (I (w64 (s2.2.2 + 1)))) (rv_add (a := s2.2.2) (b := 1) rfl rfl) ?_
   refine st (v := (I (w64 (s2.2.2 + 1)))) (rv_assign rfl) ?_
   refine w_end ?_
   refine q_then ?_
   obtain rfl := Option.some.inj h
   exact ⟨_, rfl, _, σ11, fr_join ⟨rfl, rfl, rfl, trivial⟩, rfl, H.sel' [0] rfl rfl, (List.length_set.trans hn4)⟩
  ·replace h := bif_f hb5 h
   refine c_exit ?_
   refine q_then_x ?_
   refine q_then_x ?_
   refine q_blk_hit ?_
   obtain rfl := Option.some.inj h
   obtain rfl := hres _ rfl
   exact ⟨rfl, _, σ3, fr_join ⟨rfl, rfl, trivial⟩, rfl, H.sel' [0] rfl rfl, hn4⟩
 ·clear hj
  have h := h'
  clear h' H
  rintro e a w ⟨rfl, ρ, σ12, rfl, rfl, H, hn13⟩
  refine q_then ?_
  refine c_seq ?_
  refine rg ?_
  refine st (v := (I o1.2)) (rv_move rfl) ?_
  refine st (v := (I o1.2)) (rv_assign rfl) ?_
  refine w_end ?_
  refine q_then ?_
  refine c_ret ?_
  obtain rfl := Option.some.inj h
  exact fin_ret (v := (I o1.2)) (results_ok Try.results40 (res_tmp (v := (I o1.2)) rfl res_nil) rfl) ⟨rfl, rfl, hn13⟩ (H.sel' [0] rfl rfl)

theorem c_laws_heldIntS {a_0 : List Int} {k_1 : Int} {aa_0 : Option Addr} {ca_0 : Nat} {r : Int} (h : M.laws_heldIntS a_0 k_1 = some r) :
    Cal2 Try.prog 41 [(Sl aa_0 a_0 ca_0), (I k_1)] [Ch.ro 0 (Sl aa_0 a_0 ca_0) a_0] (fun n0 v L => v = (I r) ∧ L = []) := by
 refine cal2 (n := 21) Try.func41 rfl rfl rfl rfl ?_
 intro S0 σ0 n0 hn0 H
 unfold M.laws_heldIntS at h
 refine c_seq ?_
 refine rg ?_
 refine st (v := (I 0)) (rv_assign rfl) ?_
 refine w_end ?_
 refine q_then ?_
 refine c_seq ?_
 refine c_seq ?_
 refine rg ?_
 refine st (v := (I 0)) (rv_assign rfl) ?_
 refine w_end ?_
 refine q_then ?_
 obtain ⟨o1, hj, h'⟩ := bind_some h
 clear h
 refine c_cut (fun e a w => (∃ t, o1 = (.inl t) ∧ e = .normal ∧ ∃ (ρ : Nat → Value) (σ : St), a = fr 21 (updL ρ [(1, (I t))]) ∧ w = σ.w ∧ Hp S0 σ0 σ []) ∨ (∃ t, o1 = (.inr t) ∧ e = .ret ∧ ∃ (ρ : Nat → Value) (σ : St), a = fr 21 (updL ρ [(4, (I t))]) ∧ w = σ.w ∧ Hp S0 σ0 σ [])) ?_ ?_
 ·clear h'
  rename _ = some o1 => h
  refine c_blk ?_
  refine wp_loopM _ h (fun s2 a w => ∃ (ρ : Nat → Value) (σ : St), a = fr 21 (updL ρ [(0, (Sl aa_0 a_0 ca_0)), (1, (I s2.1)), (5, (I s2.2))]) ∧ w = σ.w ∧ Hp S0 σ0 σ [Ch.ro 0 (Sl aa_0 a_0 ca_0) a_0]) ⟨_, σ0, fr_join ⟨rfl, rfl, rfl, trivial⟩, rfl, H.sel' [0] rfl rfl⟩ ?_
  clear h H
  rintro s2 a w o ⟨ρ, σ3, rfl, rfl, H⟩ h hres
  refine c_seq ?_
  refine c_seq ?_
  refine rg ?_
  refine st (v := (I s2.2)) (rv_move rfl) ?_
  refine st (v := (Sl aa_0 a_0 ca_0)) (rv_move rfl) ?_
  refine st (v := (I (a_0.length : Int))) (rv_len Try.underlying24 rfl) ?_
  refine st (v := (B (decide (s2.2 < (a_0.length : Int))))) (rv_lss (a := s2.2) (b := (a_0.length : Int)) rfl rfl) ?_
  refine w_end ?_
  refine q_then ?_
  refine cd_cond (decide (s2.2 < (a_0.length : Int))) rfl (fun hb4 => ?_) (fun hb4 => ?_)
  ·replace h := bif_t hb4 h
   refine c_skip ?_
   refine q_then ?_
   refine c_seq ?_
   refine c_blk ?_
   refine c_seq ?_
   refine c_seq ?_
   refine rg ?_
   refine st (v := (Sl aa_0 a_0 ca_0)) (rv_move rfl) ?_
   refine st (v := (I s2.2)) (rv_move rfl) ?_
   obtain ⟨x5, hx6, h'⟩ := bind_some h
   clear h
   have h := h'; clear h'
   obtain ⟨b8, o9, hi7, -⟩ := (H.ro 0 rfl).ix hx6
   refine st (v := (pt b8 o9)) (rv_ix Try.underlying24 ti3 rfl rfl hi7) ?_
   have hc10 := ((H.ro 0 rfl).at hx6 hi7).int
   refine st (v := (I x5)) (rv_load1 Try.underlying3 rfl rfl hc10) ?_
   refine st (v := (I s2.1)) (rv_move rfl) ?_
   refine st (v := (B (x5 != s2.1))) (rv_neq (a := x5) (b := s2.1) rfl rfl) ?_
   refine w_end ?_
   refine q_then ?_
   refine cd_cond (x5 != s2.1) rfl (fun hb11 => ?_) (fun hb11 => ?_)
   ·replace h := bif_t hb11 h
    refine c_seq ?_
    refine rg ?_
    refine st (v := (I (-1))) (rv_assign rfl) ?_
    refine w_end ?_
    refine q_then ?_
    refine c_ret ?_
    refine q_then_r ?_
    refine q_blk_r ?_
    refine q_then_r ?_
    refine q_then_r ?_
    refine q_blk_r ?_
    obtain rfl := Option.some.inj h
    obtain rfl := hres _ rfl
    exact .inr (⟨_, rfl, rfl, _, σ3, fr_join ⟨rfl, trivial⟩, rfl, H.sel' [] rfl rfl⟩)
   ·replace h := bif_f hb11 h
    refine c_skip ?_
    refine q_then ?_
    refine rg ?_
    refine st (v := (I s2.1)) (rv_move rfl) ?_
    refine st (v := (I (w64 (s2.1 + 1)))) (rv_add (a := s2.1) (b := 1) rfl rfl) ?_
    refine st (v := (I (w64 (s2.1 + 1)))) (rv_assign rfl) ?_
    refine w_end ?_
    refine q_blk ?_
    refine q_then ?_
    refine rg ?_
    refine st (v := (I s2.2)) (rv_move rfl) ?_
    refine st (v := (I (w64 (s2.2 + 1)))) (rv_add (a := s2.2) (b := 1) rfl rfl) ?_
    refine st (v := (I (w64 (s2.2 + 1)))) (rv_assign rfl) ?_
    refine w_end ?_
    refine q_then ?_
    obtain rfl := Option.some.inj h
    exact ⟨_, rfl, _, σ3, fr_join ⟨rfl, rfl, rfl, trivial⟩, rfl, H.sel' [0] rfl rfl⟩
  ·replace h := bif_f hb4 h
   refine c_exit ?_
   refine q_then_x ?_
   refine q_then_x ?_
   refine q_blk_hit ?_
   obtain rfl := Option.some.inj h
   obtain rfl := hres _ rfl
   exact .inl ⟨_, rfl, rfl, _, σ3, fr_join ⟨rfl, trivial⟩, rfl, H.sel' [] rfl rfl⟩
 ·clear hj
  have h := h'
  clear h' H
  rintro e a w (⟨t12, rfl, rfl, ρ, σ13, rfl, rfl, H⟩ | ⟨t14, rfl, rfl, ρ, σ15, rfl, rfl, H⟩)
  ·replace h := selim_l h
   refine q_then ?_
   refine c_seq ?_
   refine rg ?_
   refine st (v := (I t12)) (rv_move rfl) ?_
   refine st (v := (I t12)) (rv_assign rfl) ?_
   refine w_end ?_
   refine q_then ?_
   refine c_ret ?_
   obtain rfl := Option.some.inj h
   exact fin_ret (v := (I t12)) (results_ok Try.results41 (res_tmp (v := (I t12)) rfl res_nil) rfl) ⟨rfl, rfl⟩ (H.sel' [] rfl rfl)
  ·replace h := selim_r h
   refine q_then_r ?_
   obtain rfl := Option.some.inj h
   exact fin_ret (v := (I t14)) (results_ok Try.results41 (res_tmp (v := (I t14)) rfl res_nil) rfl) ⟨rfl, rfl⟩ (H.sel' [] rfl rfl)

theorem c_laws_toIntS {a_0 : List Int} {aa_0 : Option Addr} {ca_0 : Nat} {r : (List Int)} (h : M.laws_toIntS a_0 = some r) :
    Cal2 Try.prog 43 [(Sl aa_0 a_0 ca_0)] [Ch.ro 0 (Sl aa_0 a_0 ca_0) a_0] (fun n0 v L => ∃ (az1 : Option Addr), ∃ (cz2 : Nat), v = (Sl az1 r cz2) ∧ L = [Ch.own n0 n0 (Sl az1 r cz2) r] ∧ cz2 = r.length) := by
 refine cal2 (n := 22) Try.func43 rfl rfl rfl rfl ?_
 intro S0 σ0 n0 hn0 H
 unfold M.laws_toIntS at h
 refine c_seq ?_
 refine rg ?_
 refine st (v := (.slice none 0 0)) (rv_assign rfl) ?_
 refine w_end ?_
 refine q_then ?_
 refine c_seq ?_
 refine rg ?_
 refine st (v := (Sl aa_0 a_0 ca_0)) (rv_move rfl) ?_
 refine st (v := (I (a_0.length : Int))) (rv_len Try.underlying24 rfl) ?_
 obtain ⟨xs1, hx2, h'⟩ := bind_some h
 clear h
 have h := h'; clear h'
 refine st_ex (ex_make (el := n0) (z0 := (0 : Int)) (zs := [(I 0)]) H hn0 Try.underlying24 ti3 rfl rfl rfl (by decide) hx2 rfl rfl) (wanted_none _ rfl _) ?_
 rintro _ σ6 ⟨b3, c4, rfl, ht5, H, -⟩
 replace ht5 := ht5.trans (gmake_len hx2).symm
 refine st (v := (Sl (some ⟨b3, 0, none⟩) xs1 c4)) (rv_assign rfl) ?_
 refine w_end ?_
 refine q_then ?_
 refine c_seq ?_
 refine c_seq ?_
 refine rg ?_
 refine st (v := (I 0)) (rv_assign rfl) ?_
 refine w_end ?_
 refine q_then ?_
 obtain ⟨o7, hj, h'⟩ := bind_some h
 clear h
 refine c_cut (fun e a w => e = .normal ∧ ∃ (ρ : Nat → Value) (σ : St), a = fr 22 (updL ρ [(3, (Sl (some ⟨b3, 0, none⟩) o7 c4))]) ∧ w = σ.w ∧ Hp S0 σ0 σ [Ch.own n0 n0 (Sl (some ⟨b3, 0, none⟩) o7 c4) o7] ∧ c4 = o7.length ∧ o7.length = xs1.length) ?_ ?_
 ·clear h'
  rename _ = some o7 => h
  refine c_blk ?_
  refine wp_loopM _ h (fun s8 a w => ∃ (ρ : Nat → Value) (σ : St), a = fr 22 (updL ρ [(0, (Sl aa_0 a_0 ca_0)), (3, (Sl (some ⟨b3, 0, none⟩) s8.1 c4)), (4, (I s8.2))]) ∧ w = σ.w ∧ Hp S0 σ0 σ [Ch.ro 0 (Sl aa_0 a_0 ca_0) a_0, Ch.own n0 n0 (Sl (some ⟨b3, 0, none⟩) s8.1 c4) s8.1] ∧ c4 = s8.1.length ∧ s8.1.length = xs1.length) ⟨_, σ6, fr_join ⟨rfl, rfl, rfl, trivial⟩, rfl, H.sel' [1, 0] rfl rfl, ht5, rfl⟩ ?_
  clear h H
  rintro s8 a w o ⟨ρ, σ9, rfl, rfl, H, ht10, hn11⟩ h hres
  refine c_seq ?_
  refine c_seq ?_
  refine rg ?_
  refine st (v := (I s8.2)) (rv_move rfl) ?_
  refine st (v := (Sl aa_0 a_0 ca_0)) (rv_move rfl) ?_
  refine st (v := (I (a_0.length : Int))) (rv_len Try.underlying24 rfl) ?_
  refine st (v := (B (decide (s8.2 < (a_0.length : Int))))) (rv_lss (a := s8.2) (b := (a_0.length : Int)) rfl rfl) ?_
  refine w_end ?_
  refine q_then ?_
  refine cd_cond (decide (s8.2 < (a_0.length : Int))) rfl (fun hb12 => ?_) (fun hb12 => ?_)
  ·replace h := bif_t hb12 h
   refine c_skip ?_
   refine q_then ?_
   refine c_seq ?_
   refine c_blk ?_
   refine rg ?_
   refine st (v := (Sl (some ⟨b3, 0, none⟩) s8.1 c4)) (rv_move rfl) ?_
   refine st (v := (I s8.2)) (rv_move rfl) ?_
   refine st (v := (Sl aa_0 a_0 ca_0)) (rv_move rfl) ?_
   refine st (v := (I s8.2)) (rv_move rfl) ?_
   obtain ⟨x13, hx14, h'⟩ := bind_some h
   clear h
   have h := h'; clear h'
   obtain ⟨b16, o17, hi15, -⟩ := (H.ro 0 rfl).ix hx14
   refine st (v := (pt b16 o17)) (rv_ix Try.underlying24 ti3 rfl rfl hi15) ?_
   have hc18 := ((H.ro 0 rfl).at hx14 hi15).int
   refine st (v := (I x13)) (rv_load1 Try.underlying3 rfl rfl hc18) ?_
   obtain ⟨x19, hx20, h'⟩ := bind_some h
   clear h
   have h := h'; clear h'
   obtain ⟨b22, o23, hi21, -⟩ := (H.own 1 rfl).ix hx20
   refine st (v := (pt b22 o23)) (rv_ix Try.underlying24 ti3 rfl rfl hi21) ?_
   refine st_exS (ex_store_own (e' := x13) (vs := [(I x13)]) (k := 0) H (i := 1) rfl ti3 hx20 hi21 rfl rfl rfl rfl rfl (Nat.le_of_ble_eq_true rfl) (by simp [plain]) (by rintro _ rfl; exact rfl)) (wanted_none _ rfl _) ?_
   rintro σ24 ⟨H, -⟩
   have hsl : (Sl (some ⟨b3, 0, none⟩) s8.1 c4) = (Sl (some ⟨b3, 0, none⟩) (s8.1.set s8.2.toNat x13) c4) := sl_len List.length_set.symm
   rw [hsl]; rw [hsl] at H; clear hsl
   refine w_end ?_
   refine q_blk ?_
   refine q_then ?_
   refine rg ?_
   refine st (v := (I s8.2)) (rv_move rfl) ?_
   refine st (v := (I (w64 (s8.2 + 1)))) (rv_add (a := s8.2) (b := 1) rfl rfl) ?_
   refine st (v := (I (w64 (s8.2 + 1)))) (rv_assign rfl) ?_
   refine w_end ?_
   refine q_then ?_
   obtain rfl := Option.some.inj h
   exact ⟨_, rfl, _, σ24, fr_join ⟨rfl, rfl, rfl, trivial⟩, rfl, H.sel' [1, 0] rfl rfl, (ht10.trans List.length_set.symm), (List.length_set.trans hn11)⟩
  ·replace h := bif_f hb12 h
   refine c_exit ?_
   refine q_then_x ?_
   refine q_then_x ?_
   refine q_blk_hit ?_
   obtain rfl := Option.some.inj h
   obtain rfl := hres _ rfl
   exact ⟨rfl, _, σ9, fr_join ⟨rfl, trivial⟩, rfl, H.sel' [1] rfl rfl, ht10, hn11⟩
 ·clear hj
  have h := h'
  clear h' H
  rintro e a w ⟨rfl, ρ, σ25, rfl, rfl, H, ht26, hn27⟩
  refine q_then ?_
  refine c_seq ?_
  refine rg ?_
  refine st (v := (Sl (some ⟨b3, 0, none⟩) o7 c4)) (rv_move rfl) ?_
  refine st (v := (Sl (some ⟨b3, 0, none⟩) o7 c4)) (rv_assign rfl) ?_
  refine w_end ?_
  refine q_then ?_
  refine c_ret ?_
  obtain rfl := Option.some.inj h
  exact fin_ret (v := (Sl (some ⟨b3, 0, none⟩) o7 c4)) (results_ok Try.results43 (res_tmp (v := (Sl (some ⟨b3, 0, none⟩) o7 c4)) rfl res_nil) rfl) ⟨(some ⟨b3, 0, none⟩), c4, rfl, rfl, ht26⟩ (H.sel' [0] rfl rfl)

theorem c_laws_szIntS {a_0 : List Int} {left_1 : Int} {aa_0 : Option Addr} {ca_0 : Nat} {r : Int} (h : M.laws_szIntS a_0 left_1 = some r) :
    Cal2 Try.prog 90 [(Sl aa_0 a_0 ca_0), (I left_1)] [Ch.ro 0 (Sl aa_0 a_0 ca_0) a_0] (fun n0 v L => v = (I r) ∧ L = []) := by
 refine cal2 (n := 12) Try.func90 rfl rfl rfl rfl ?_
 intro S0 σ0 n0 hn0 H
 unfold M.laws_szIntS at h
 refine c_seq ?_
 refine rg ?_
 refine st (v := (I 0)) (rv_assign rfl) ?_
 refine w_end ?_
 refine q_then ?_
 refine c_seq ?_
 refine rg ?_
 refine st (v := (I left_1)) (rv_move rfl) ?_
 refine st (v := (Sl aa_0 a_0 ca_0)) (rv_move rfl) ?_
 refine st (v := (I (a_0.length : Int))) (rv_len Try.underlying24 rfl) ?_
 refine st (v := (I (w64 (left_1 - (a_0.length : Int))))) (rv_sub (a := left_1) (b := (a_0.length : Int)) rfl rfl) ?_
 refine st (v := (I (w64 (left_1 - (a_0.length : Int))))) (rv_assign rfl) ?_
 refine w_end ?_
 refine q_then ?_
 refine c_seq ?_
 refine c_seq ?_
 refine rg ?_
 refine st (v := (I (w64 (left_1 - (a_0.length : Int))))) (rv_move rfl) ?_
 refine st (v := (B (decide ((w64 (left_1 - (a_0.length : Int))) < 0)))) (rv_lss (a := (w64 (left_1 - (a_0.length : Int)))) (b := 0) rfl rfl) ?_
 refine w_end ?_
 refine q_then ?_
 refine cd_cond (decide ((w64 (left_1 - (a_0.length : Int))) < 0)) rfl (fun hb1 => ?_) (fun hb1 => ?_)
 ·replace h := bif_t hb1 h
  refine c_seq ?_
  refine rg ?_
  refine st (v := (I (-1))) (rv_assign rfl) ?_
  refine w_end ?_
  refine q_then ?_
  refine c_ret ?_
  refine q_then_r ?_
  obtain rfl := Option.some.inj h
  exact fin_ret (v := (I (-1))) (results_ok Try.results90 (res_tmp (v := (I (-1))) rfl res_nil) rfl) ⟨rfl, rfl⟩ (H.sel' [] rfl rfl)
 ·replace h := bif_f hb1 h
  refine c_skip ?_
  refine q_then ?_
  refine c_seq ?_
  refine rg ?_
  refine st (v := (I (w64 (left_1 - (a_0.length : Int))))) (rv_move rfl) ?_
  refine st (v := (I (w64 (left_1 - (a_0.length : Int))))) (rv_assign rfl) ?_
  refine w_end ?_
  refine q_then ?_
  refine c_ret ?_
  obtain rfl := Option.some.inj h
  exact fin_ret (v := (I (w64 (left_1 - (a_0.length : Int))))) (results_ok Try.results90 (res_tmp (v := (I (w64 (left_1 - (a_0.length : Int))))) rfl res_nil) rfl) ⟨rfl, rfl⟩ (H.sel' [] rfl rfl)

theorem c_laws_szItem {a_0 : Int × (List Int) × Int} {left_1 : Int} {aa_0_1 : Option Addr} {ca_0_1 : Nat} {r : Int} (h : M.laws_szItem a_0 left_1 = some r) :
    Cal2 Try.prog 46 [(.agg #[(I a_0.1), (Sl aa_0_1 a_0.2.1 ca_0_1), (I a_0.2.2)]), (I left_1)] [Ch.ro 0 (Sl aa_0_1 a_0.2.1 ca_0_1) a_0.2.1] (fun n0 v L => v = (I r) ∧ L = []) := by
 refine cal2 (n := 12) Try.func46 rfl rfl rfl rfl ?_
 intro S0 σ0 n0 hn0 H
 unfold M.laws_szItem at h
 refine c_seq ?_
 refine rg ?_
 refine st_ex (ex_box (cs := [(I a_0.1), (Sl aa_0_1 a_0.2.1 ca_0_1), (I a_0.2.2)]) H hn0 rfl rfl) (wanted_none _ rfl _) ?_
 rintro _ σ2 ⟨b1, rfl, H, -⟩
 refine st (v := (I 0)) (rv_assign rfl) ?_
 refine w_end ?_
 refine q_then ?_
 refine c_seq ?_
 refine rg ?_
 refine st (v := (pt b1 1)) (rv_fieldAddr (off := 1) (ft := 24) Try.underlying62 rfl ti24 rfl rfl) ?_
 have hc3 := H.cell (u := (Sl aa_0_1 a_0.2.1 ca_0_1)) (o' := 1) 0 1 rfl rfl rfl
 refine st (v := (Sl aa_0_1 a_0.2.1 ca_0_1)) (rv_load1 Try.underlying24 rfl rfl hc3) ?_
 refine st (v := (I left_1)) (rv_move rfl) ?_
 obtain ⟨r4, hx5, h'⟩ := bind_some h
 clear h
 have h := h'; clear h'
 have hc6 := c_laws_szIntS (aa_0 := aa_0_1) (ca_0 := ca_0_1) hx5
 refine st_call (cx_call hc6 (ent_f hc6.fn rfl) hn0 (show Hp S0 σ0 _ ([Ch.ro 0 (Sl aa_0_1 a_0.2.1 ca_0_1) a_0.2.1] ++ [Ch.bx n0 b1 0 [(I a_0.1), (Sl aa_0_1 a_0.2.1 ca_0_1), (I a_0.2.2)] [] [], Ch.ro 0 (Sl aa_0_1 a_0.2.1 ca_0_1) a_0.2.1]) from (H.sel' [1, 0, 1] rfl rfl))) (wanted_none _ rfl _) ?_
 rintro _ σ7 ⟨_, ⟨rfl, rfl⟩, H, -⟩
 replace H : Hp S0 σ0 σ7 [Ch.bx n0 b1 0 [(I a_0.1), (Sl aa_0_1 a_0.2.1 ca_0_1), (I a_0.2.2)] [] [], Ch.ro 0 (Sl aa_0_1 a_0.2.1 ca_0_1) a_0.2.1] := H
 refine st (v := (I r4)) (rv_assign rfl) ?_
 refine w_end ?_
 refine q_then ?_
 refine c_seq ?_
 refine c_seq ?_
 refine rg ?_
 refine st (v := (I r4)) (rv_move rfl) ?_
 refine st (v := (B (decide (r4 < 0)))) (rv_lss (a := r4) (b := 0) rfl rfl) ?_
 refine w_end ?_
 refine q_then ?_
 refine cd_cond (decide (r4 < 0)) rfl (fun hb8 => ?_) (fun hb8 => ?_)
 ·replace h := bif_t hb8 h
  refine c_seq ?_
  refine rg ?_
  refine st (v := (I (-1))) (rv_assign rfl) ?_
  refine w_end ?_
  refine q_then ?_
  refine c_ret ?_
  refine q_then_r ?_
  obtain rfl := Option.some.inj h
  exact fin_ret (v := (I (-1))) (results_ok Try.results46 (res_tmp (v := (I (-1))) rfl res_nil) rfl) ⟨rfl, rfl⟩ (H.sel' [] rfl rfl)
 ·replace h := bif_f hb8 h
  refine c_skip ?_
  refine q_then ?_
  refine c_seq ?_
  refine rg ?_
  refine st (v := (I r4)) (rv_move rfl) ?_
  refine st (v := (I r4)) (rv_assign rfl) ?_
  refine w_end ?_
  refine q_then ?_
  refine c_ret ?_
  obtain rfl := Option.some.inj h
  exact fin_ret (v := (I r4)) (results_ok Try.results46 (res_tmp (v := (I r4)) rfl res_nil) rfl) ⟨rfl, rfl⟩ (H.sel' [] rfl rfl)

end Go.Vs
