/- The functions compute what their models say. -/
import Derived.Test.YtgokepoinohioacKExactDropItemC1
set_option linter.unusedVariables false
set_option linter.unusedSimpArgs false
set_option maxRecDepth 20000
namespace Go.Vs
open Go Go.Proofs
attribute [local irreducible] Code.wp Code.wpIn wpList wpListIn wpQuiet Calls CallsIn

theorem c_impl_validCoords {coords_0 : List Int} {acoords_0 : Option Addr} {ccoords_0 : Nat} {r : Bool} (h : M.impl_validCoords coords_0 = some r) :
    Cal2 Try.prog 57 [(Sl acoords_0 coords_0 ccoords_0)] [Ch.ro 0 (Sl acoords_0 coords_0 ccoords_0) coords_0] (fun n0 v L => v = (B r) ∧ L = []) := by
 refine cal2 (n := 18) Try.func57 rfl rfl rfl rfl ?_
 intro S0 σ0 n0 hn0 H
 unfold M.impl_validCoords at h
 refine c_seq ?_
 refine rg ?_
 refine st (v := (B false)) (rv_assign rfl) ?_
 refine w_end ?_
 refine q_then ?_
 refine c_seq ?_
 refine c_seq ?_
 refine rg ?_
 refine st (v := (Sl acoords_0 coords_0 ccoords_0)) (rv_move rfl) ?_
 refine st (v := (I (coords_0.length : Int))) (rv_len Try.underlying24 rfl) ?_
 refine st (v := (I 0)) (rv_move rfl) ?_
 refine w_end ?_
 refine q_then ?_
 obtain ⟨o1, hj, h'⟩ := bind_some h
 clear h
 refine c_cut (fun e a w => (∃ t, o1 = (.inl t) ∧ e = .normal ∧ ∃ (ρ : Nat → Value) (σ : St), a = fr 18 (updL ρ []) ∧ w = σ.w ∧ Hp S0 σ0 σ []) ∨ (∃ t, o1 = (.inr t) ∧ e = .ret ∧ ∃ (ρ : Nat → Value) (σ : St), a = fr 18 (updL ρ [(2, (B t))]) ∧ w = σ.w ∧ Hp S0 σ0 σ [])) ?_ ?_
 ·clear h'
  rename _ = some o1 => h
  refine c_blk ?_
  refine wp_loopM _ h (fun s2 a w => ∃ (ρ : Nat → Value) (σ : St), a = fr 18 (updL ρ [(5, (Sl acoords_0 coords_0 ccoords_0)), (6, (I (coords_0.length : Int))), (7, (I s2))]) ∧ w = σ.w ∧ Hp S0 σ0 σ [Ch.ro 0 (Sl acoords_0 coords_0 ccoords_0) coords_0]) ⟨_, σ0, fr_join ⟨rfl, rfl, rfl, trivial⟩, rfl, H.sel' [0] rfl rfl⟩ ?_
  clear h H
  rintro s2 a w o ⟨ρ, σ3, rfl, rfl, H⟩ h hres
  refine c_seq ?_
  refine rg ?_
  refine st (v := (B (decide (s2 < (coords_0.length : Int))))) (rv_lss (a := s2) (b := (coords_0.length : Int)) rfl rfl) ?_
  refine w_end ?_
  refine q_then ?_
  refine c_seq ?_
  refine cd_cond (decide (s2 < (coords_0.length : Int))) rfl (fun hb4 => ?_) (fun hb4 => ?_)
  ·replace h := bif_t hb4 h
   refine c_skip ?_
   refine q_then ?_
   refine c_seq ?_
   refine c_blk ?_
   refine c_seq ?_
   refine rg ?_
   obtain ⟨x5, hx6, h'⟩ := bind_some h
   clear h
   have h := h'; clear h'
   obtain ⟨b8, o9, hi7, -⟩ := (H.ro 0 rfl).ix hx6
   refine st (v := (pt b8 o9)) (rv_ix Try.underlying24 ti3 rfl rfl hi7) ?_
   have hc10 := ((H.ro 0 rfl).at hx6 hi7).int
   refine st (v := (I x5)) (rv_load1 Try.underlying3 rfl rfl hc10) ?_
   refine st (v := (I x5)) (rv_assign rfl) ?_
   refine w_end ?_
   refine q_then ?_
   refine c_seq ?_
   obtain ⟨o11, hj, h'⟩ := bind_some h
   clear h
   refine c_cut (fun e a w => e = .normal ∧ ∃ (ρ : Nat → Value) (σ : St), a = fr 18 (updL ρ [(5, (Sl acoords_0 coords_0 ccoords_0)), (6, (I (coords_0.length : Int))), (7, (I s2)), (16, (B o11))]) ∧ w = σ.w ∧ Hp S0 σ0 σ [Ch.ro 0 (Sl acoords_0 coords_0 ccoords_0) coords_0]) ?_ ?_
   ·clear h'
    rename _ = some o11 => h
    refine rg ?_
    refine st (v := (I x5)) (rv_move rfl) ?_
    refine st (v := (B (decide (x5 < (-100))))) (rv_lss (a := x5) (b := (-100)) rfl rfl) ?_
    refine st (v := (B (decide (x5 < (-100))))) (rv_move rfl) ?_
    rcases Bool.eq_false_or_eq_true (decide (x5 < (-100))) with hb12 | hb12
    ·replace h := bif_t hb12 h
     refine st_skip (congrArg some hb12) ?_
     refine st_skip (congrArg some hb12) ?_
     refine st (v := (B true)) (rv_pick_t (congrArg B hb12) rfl) ?_
     refine w_end ?_
     obtain rfl := Option.some.inj h
     exact ⟨rfl, _, σ3, fr_join ⟨rfl, rfl, rfl, rfl, trivial⟩, rfl, H.sel' [0] rfl rfl⟩
    ·replace h := bif_f hb12 h
     refine st_g (v := (I x5)) (congrArg some hb12) (rv_move rfl) ?_
     refine st_g (v := (B (decide (100 < x5)))) (congrArg some hb12) (rv_gtr (a := x5) (b := 100) rfl rfl) ?_
     refine st (v := (B (decide (100 < x5)))) (rv_pick_f (congrArg B hb12) rfl) ?_
     refine w_end ?_
     obtain rfl := Option.some.inj h
     exact ⟨rfl, _, σ3, fr_join ⟨rfl, rfl, rfl, rfl, trivial⟩, rfl, H.sel' [0] rfl rfl⟩
   ·clear hj
    have h := h'
    clear h' H
    rintro e a w ⟨rfl, ρ, σ13, rfl, rfl, H⟩
    refine q_then ?_
    refine cd_cond o11 rfl (fun hb14 => ?_) (fun hb14 => ?_)
    ·replace h := bif_t hb14 h
     refine c_seq ?_
     refine rg ?_
     refine st (v := (B false)) (rv_assign rfl) ?_
     refine w_end ?_
     refine q_then ?_
     refine c_ret ?_
     refine q_blk_r ?_
     refine q_then_r ?_
     refine q_then_r ?_
     refine q_blk_r ?_
     obtain rfl := Option.some.inj h
     obtain rfl := hres _ rfl
     exact .inr (⟨_, rfl, rfl, _, σ13, fr_join ⟨rfl, trivial⟩, rfl, H.sel' [] rfl rfl⟩)
    ·replace h := bif_f hb14 h
     refine c_skip ?_
     refine q_blk ?_
     refine q_then ?_
     refine rg ?_
     refine st (v := (I (w64 (s2 + 1)))) (rv_add (a := s2) (b := 1) rfl rfl) ?_
     refine st (v := (I (w64 (s2 + 1)))) (rv_move rfl) ?_
     refine w_end ?_
     refine q_then ?_
     obtain rfl := Option.some.inj h
     exact ⟨_, rfl, _, σ13, fr_join ⟨rfl, rfl, rfl, trivial⟩, rfl, H.sel' [0] rfl rfl⟩
  ·replace h := bif_f hb4 h
   refine c_exit ?_
   refine q_then_x ?_
   refine q_then_x ?_
   refine q_blk_hit ?_
   obtain rfl := Option.some.inj h
   obtain rfl := hres _ rfl
   exact .inl ⟨_, rfl, rfl, _, σ3, fr_join trivial, rfl, H.sel' [] rfl rfl⟩
 ·clear hj
  have h := h'
  clear h' H
  rintro e a w (⟨t15, rfl, rfl, ρ, σ16, rfl, rfl, H⟩ | ⟨t17, rfl, rfl, ρ, σ18, rfl, rfl, H⟩)
  ·replace h := selim_l h
   refine q_then ?_
   refine c_seq ?_
   refine rg ?_
   refine st (v := (B true)) (rv_assign rfl) ?_
   refine w_end ?_
   refine q_then ?_
   refine c_ret ?_
   obtain rfl := Option.some.inj h
   exact fin_ret (v := (B true)) (results_ok Try.results57 (res_tmp (v := (B true)) rfl res_nil) rfl) ⟨rfl, rfl⟩ (H.sel' [] rfl rfl)
  ·replace h := selim_r h
   refine q_then_r ?_
   obtain rfl := Option.some.inj h
   exact fin_ret (v := (B t17)) (results_ok Try.results57 (res_tmp (v := (B t17)) rfl res_nil) rfl) ⟨rfl, rfl⟩ (H.sel' [] rfl rfl)

theorem c_impl_ValidVector {v_0 : List Int} {av_0 : Option Addr} {cv_0 : Nat} {r : Bool} (h : M.impl_ValidVector v_0 = some r) :
    Cal2 Try.prog 19 [(Sl av_0 v_0 cv_0)] [Ch.ro 0 (Sl av_0 v_0 cv_0) v_0] (fun n0 v L => v = (B r) ∧ L = []) := by
 refine cal2 (n := 10) Try.func19 rfl rfl rfl rfl ?_
 intro S0 σ0 n0 hn0 H
 unfold M.impl_ValidVector at h
 refine c_seq ?_
 refine rg ?_
 refine st (v := (B false)) (rv_assign rfl) ?_
 refine w_end ?_
 refine q_then ?_
 refine c_seq ?_
 refine rg ?_
 refine st (v := (Sl av_0 v_0 cv_0)) (rv_move rfl) ?_
 refine st (v := (I (v_0.length : Int))) (rv_len Try.underlying24 rfl) ?_
 refine st (v := (B ((v_0.length : Int) == 4))) (rv_eql (a := (v_0.length : Int)) (b := 4) rfl rfl) ?_
 refine st (v := (B ((v_0.length : Int) == 4))) (rv_move rfl) ?_
 rcases Bool.eq_false_or_eq_true ((v_0.length : Int) == 4) with hb1 | hb1
 ·replace h := bif_t hb1 h
  refine st_g (v := (Sl av_0 v_0 cv_0)) (congrArg some hb1) (rv_move rfl) ?_
  obtain ⟨r2, hx3, h'⟩ := bind_some h
  clear h
  have h := h'; clear h'
  have hc4 := c_impl_validCoords (acoords_0 := av_0) (ccoords_0 := cv_0) hx3
  refine st_call (cx_call hc4 (ent_f hc4.fn rfl) hn0 (show Hp S0 σ0 _ ([Ch.ro 0 (Sl av_0 v_0 cv_0) v_0] ++ [Ch.ro 0 (Sl av_0 v_0 cv_0) v_0]) from (H.sel' [0, 0] rfl rfl))) (wanted_yes rfl (by exact (congrArg some hb1))) ?_
  rintro _ σ5 ⟨_, ⟨rfl, rfl⟩, H, -⟩
  replace H : Hp S0 σ0 σ5 [Ch.ro 0 (Sl av_0 v_0 cv_0) v_0] := H
  refine st (v := (B r2)) (rv_pick_t (congrArg B hb1) rfl) ?_
  refine st (v := (B r2)) (rv_assign rfl) ?_
  refine w_end ?_
  refine q_then ?_
  refine c_ret ?_
  obtain rfl := Option.some.inj h
  exact fin_ret (v := (B r2)) (results_ok Try.results19 (res_tmp (v := (B r2)) rfl res_nil) rfl) ⟨rfl, rfl⟩ (H.sel' [] rfl rfl)
 ·replace h := bif_f hb1 h
  refine st_skip (congrArg some hb1) ?_
  refine st_skip (congrArg some hb1) ?_
  refine st (v := (B false)) (rv_pick_f (congrArg B hb1) rfl) ?_
  refine st (v := (B false)) (rv_assign rfl) ?_
  refine w_end ?_
  refine q_then ?_
  refine c_ret ?_
  obtain rfl := Option.some.inj h
  exact fin_ret (v := (B false)) (results_ok Try.results19 (res_tmp (v := (B false)) rfl res_nil) rfl) ⟨rfl, rfl⟩ (H.sel' [] rfl rfl)

theorem c_impl_validKey {key_0 : Int}  {r : Bool} (h : M.impl_validKey key_0 = some r) :
    Cal2 Try.prog 72 [(I key_0)] [] (fun n0 v L => v = (B r) ∧ L = []) := by
 refine cal2 (n := 9) Try.func72 rfl rfl rfl rfl ?_
 intro S0 σ0 n0 hn0 H
 unfold M.impl_validKey at h
 refine c_seq ?_
 refine rg ?_
 refine st (v := (B false)) (rv_assign rfl) ?_
 refine w_end ?_
 refine q_then ?_
 refine c_seq ?_
 refine rg ?_
 refine st (v := (I key_0)) (rv_move rfl) ?_
 refine st (v := (B (decide (1 ≤ key_0)))) (rv_geq (a := key_0) (b := 1) rfl rfl) ?_
 refine st (v := (B (decide (1 ≤ key_0)))) (rv_move rfl) ?_
 rcases Bool.eq_false_or_eq_true (decide (1 ≤ key_0)) with hb1 | hb1
 ·replace h := bif_t hb1 h
  refine st_g (v := (I key_0)) (congrArg some hb1) (rv_move rfl) ?_
  refine st_g (v := (B (decide (key_0 ≤ 99)))) (congrArg some hb1) (rv_leq (a := key_0) (b := 99) rfl rfl) ?_
  refine st (v := (B (decide (key_0 ≤ 99)))) (rv_pick_t (congrArg B hb1) rfl) ?_
  refine st (v := (B (decide (key_0 ≤ 99)))) (rv_assign rfl) ?_
  refine w_end ?_
  refine q_then ?_
  refine c_ret ?_
  obtain rfl := Option.some.inj h
  exact fin_ret (v := (B (decide (key_0 ≤ 99)))) (results_ok Try.results72 (res_tmp (v := (B (decide (key_0 ≤ 99)))) rfl res_nil) rfl) ⟨rfl, rfl⟩ (H.sel' [] rfl rfl)
 ·replace h := bif_f hb1 h
  refine st_skip (congrArg some hb1) ?_
  refine st_skip (congrArg some hb1) ?_
  refine st (v := (B false)) (rv_pick_f (congrArg B hb1) rfl) ?_
  refine st (v := (B false)) (rv_assign rfl) ?_
  refine w_end ?_
  refine q_then ?_
  refine c_ret ?_
  obtain rfl := Option.some.inj h
  exact fin_ret (v := (B false)) (results_ok Try.results72 (res_tmp (v := (B false)) rfl res_nil) rfl) ⟨rfl, rfl⟩ (H.sel' [] rfl rfl)

theorem c_impl_validTags {tags_0 : Int}  {r : Bool} (h : M.impl_validTags tags_0 = some r) :
    Cal2 Try.prog 73 [(I tags_0)] [] (fun n0 v L => v = (B r) ∧ L = []) := by
 refine cal2 (n := 9) Try.func73 rfl rfl rfl rfl ?_
 intro S0 σ0 n0 hn0 H
 unfold M.impl_validTags at h
 refine c_seq ?_
 refine rg ?_
 refine st (v := (B false)) (rv_assign rfl) ?_
 refine w_end ?_
 refine q_then ?_
 refine c_seq ?_
 refine rg ?_
 refine st (v := (I tags_0)) (rv_move rfl) ?_
 refine st (v := (B (decide (0 ≤ tags_0)))) (rv_geq (a := tags_0) (b := 0) rfl rfl) ?_
 refine st (v := (B (decide (0 ≤ tags_0)))) (rv_move rfl) ?_
 rcases Bool.eq_false_or_eq_true (decide (0 ≤ tags_0)) with hb1 | hb1
 ·replace h := bif_t hb1 h
  refine st_g (v := (I tags_0)) (congrArg some hb1) (rv_move rfl) ?_
  refine st_g (v := (B (decide (tags_0 ≤ 15)))) (congrArg some hb1) (rv_leq (a := tags_0) (b := 15) rfl rfl) ?_
  refine st (v := (B (decide (tags_0 ≤ 15)))) (rv_pick_t (congrArg B hb1) rfl) ?_
  refine st (v := (B (decide (tags_0 ≤ 15)))) (rv_assign rfl) ?_
  refine w_end ?_
  refine q_then ?_
  refine c_ret ?_
  obtain rfl := Option.some.inj h
  exact fin_ret (v := (B (decide (tags_0 ≤ 15)))) (results_ok Try.results73 (res_tmp (v := (B (decide (tags_0 ≤ 15)))) rfl res_nil) rfl) ⟨rfl, rfl⟩ (H.sel' [] rfl rfl)
 ·replace h := bif_f hb1 h
  refine st_skip (congrArg some hb1) ?_
  refine st_skip (congrArg some hb1) ?_
  refine st (v := (B false)) (rv_pick_f (congrArg B hb1) rfl) ?_
  refine st (v := (B false)) (rv_assign rfl) ?_
  refine w_end ?_
  refine q_then ?_
  refine c_ret ?_
  obtain rfl := Option.some.inj h
  exact fin_ret (v := (B false)) (results_ok Try.results73 (res_tmp (v := (B false)) rfl res_nil) rfl) ⟨rfl, rfl⟩ (H.sel' [] rfl rfl)

theorem c_impl_validItem {x_0 : Int × (List Int) × Int} {ax_0_1 : Option Addr} {cx_0_1 : Nat} {r : Bool} (h : M.impl_validItem x_0 = some r) :
    Cal2 Try.prog 47 [(.agg #[(I x_0.1), (Sl ax_0_1 x_0.2.1 cx_0_1), (I x_0.2.2)])] [Ch.ro 0 (Sl ax_0_1 x_0.2.1 cx_0_1) x_0.2.1] (fun n0 v L => v = (B r) ∧ L = []) := by
 refine cal2 (n := 16) Try.func47 rfl rfl rfl rfl ?_
 intro S0 σ0 n0 hn0 H
 unfold M.impl_validItem at h
 refine c_seq ?_
 refine rg ?_
 refine st_ex (ex_box (cs := [(I x_0.1), (Sl ax_0_1 x_0.2.1 cx_0_1), (I x_0.2.2)]) H hn0 rfl rfl) wn ?_
 rintro _ σ2 ⟨b1, rfl, H, -⟩
 refine st (v := (B false)) (rv_assign rfl) ?_
 refine w_end ?_
 refine q_then ?_
 refine c_seq ?_
 refine rg ?_
 refine st (v := (pt b1 0)) (rv_fieldAddr (off := 0) (ft := 3) Try.underlying26 rfl ti3 rfl rfl) ?_
 have hc3 := H.cell (u := (I x_0.1)) (o' := 0) 0 0 rfl rfl rfl
 refine st (v := (I x_0.1)) (rv_load1 Try.underlying3 rfl rfl hc3) ?_
 obtain ⟨r4, hx5, h'⟩ := bind_some h
 clear h
 have h := h'; clear h'
 have hc6 := c_impl_validKey hx5
 refine st_call (cx_call hc6 (ent_f hc6.fn rfl) hn0 (show Hp S0 σ0 _ ([] ++ [Ch.bx n0 b1 0 [(I x_0.1), (Sl ax_0_1 x_0.2.1 cx_0_1), (I x_0.2.2)] [] [], Ch.ro 0 (Sl ax_0_1 x_0.2.1 cx_0_1) x_0.2.1]) from (H.sel' [0, 1] rfl rfl))) wn ?_
 rintro _ σ7 ⟨_, ⟨rfl, rfl⟩, H, -⟩
 replace H : Hp S0 σ0 σ7 [Ch.bx n0 b1 0 [(I x_0.1), (Sl ax_0_1 x_0.2.1 cx_0_1), (I x_0.2.2)] [] [], Ch.ro 0 (Sl ax_0_1 x_0.2.1 cx_0_1) x_0.2.1] := H
 refine st (v := (B r4)) (rv_move rfl) ?_
 rcases Bool.eq_false_or_eq_true r4 with hb8 | hb8
 ·replace h := bif_t hb8 h
  refine st_g (v := (pt b1 1)) (congrArg some hb8) (rv_fieldAddr (off := 1) (ft := 24) Try.underlying26 rfl ti24 rfl rfl) ?_
  have hc9 := H.cell (u := (Sl ax_0_1 x_0.2.1 cx_0_1)) (o' := 1) 0 1 rfl rfl rfl
  refine st_g (v := (Sl ax_0_1 x_0.2.1 cx_0_1)) (congrArg some hb8) (rv_load1 Try.underlying24 rfl rfl hc9) ?_
  obtain ⟨r10, hx11, h'⟩ := bind_some h
  clear h
  have h := h'; clear h'
  have hc12 := c_impl_ValidVector (av_0 := ax_0_1) (cv_0 := cx_0_1) hx11
  refine st_call (cx_call hc12 (ent_f hc12.fn rfl) hn0 (show Hp S0 σ0 _ ([Ch.ro 0 (Sl ax_0_1 x_0.2.1 cx_0_1) x_0.2.1] ++ [Ch.bx n0 b1 0 [(I x_0.1), (Sl ax_0_1 x_0.2.1 cx_0_1), (I x_0.2.2)] [] [], Ch.ro 0 (Sl ax_0_1 x_0.2.1 cx_0_1) x_0.2.1]) from (H.sel' [1, 0, 1] rfl rfl))) (wanted_yes rfl (by exact (congrArg some hb8))) ?_
  rintro _ σ13 ⟨_, ⟨rfl, rfl⟩, H, -⟩
  replace H : Hp S0 σ0 σ13 [Ch.bx n0 b1 0 [(I x_0.1), (Sl ax_0_1 x_0.2.1 cx_0_1), (I x_0.2.2)] [] [], Ch.ro 0 (Sl ax_0_1 x_0.2.1 cx_0_1) x_0.2.1] := H
  refine st (v := (B r10)) (rv_pick_t (congrArg B hb8) rfl) ?_
  refine st (v := (B r10)) (rv_move rfl) ?_
  rcases Bool.eq_false_or_eq_true r10 with hb14 | hb14
  ·replace h := bif_t hb14 h
   refine st_g (v := (pt b1 2)) (congrArg some hb14) (rv_fieldAddr (off := 2) (ft := 3) Try.underlying26 rfl ti3 rfl rfl) ?_
   have hc15 := H.cell (u := (I x_0.2.2)) (o' := 2) 0 2 rfl rfl rfl
   refine st_g (v := (I x_0.2.2)) (congrArg some hb14) (rv_load1 Try.underlying3 rfl rfl hc15) ?_
   obtain ⟨r16, hx17, h'⟩ := bind_some h
   clear h
   have h := h'; clear h'
   have hc18 := c_impl_validTags hx17
   refine st_call (cx_call hc18 (ent_f hc18.fn rfl) hn0 (show Hp S0 σ0 _ ([] ++ [Ch.bx n0 b1 0 [(I x_0.1), (Sl ax_0_1 x_0.2.1 cx_0_1), (I x_0.2.2)] [] [], Ch.ro 0 (Sl ax_0_1 x_0.2.1 cx_0_1) x_0.2.1]) from (H.sel' [0, 1] rfl rfl))) (wanted_yes rfl (by exact (congrArg some hb14))) ?_
   rintro _ σ19 ⟨_, ⟨rfl, rfl⟩, H, -⟩
   replace H : Hp S0 σ0 σ19 [Ch.bx n0 b1 0 [(I x_0.1), (Sl ax_0_1 x_0.2.1 cx_0_1), (I x_0.2.2)] [] [], Ch.ro 0 (Sl ax_0_1 x_0.2.1 cx_0_1) x_0.2.1] := H
   refine st (v := (B r16)) (rv_pick_t (congrArg B hb14) rfl) ?_
   refine st (v := (B r16)) (rv_assign rfl) ?_
   refine w_end ?_
   refine q_then ?_
   refine c_ret ?_
   obtain rfl := Option.some.inj h
   exact fin_ret (v := (B r16)) (results_ok Try.results47 (res_tmp (v := (B r16)) rfl res_nil) rfl) ⟨rfl, rfl⟩ (H.sel' [] rfl rfl)
  ·replace h := bif_f hb14 h
   refine st_skip (congrArg some hb14) ?_
   refine st_skip (congrArg some hb14) ?_
   refine st_skip (congrArg some hb14) ?_
   refine st (v := (B false)) (rv_pick_f (congrArg B hb14) rfl) ?_
   refine st (v := (B false)) (rv_assign rfl) ?_
   refine w_end ?_
   refine q_then ?_
   refine c_ret ?_
   obtain rfl := Option.some.inj h
   exact fin_ret (v := (B false)) (results_ok Try.results47 (res_tmp (v := (B false)) rfl res_nil) rfl) ⟨rfl, rfl⟩ (H.sel' [] rfl rfl)
 ·replace h := bif_f hb8 h
  refine st_skip (congrArg some hb8) ?_
  refine st_skip (congrArg some hb8) ?_
  refine st_skip (congrArg some hb8) ?_
  refine st (v := (B false)) (rv_pick_f (congrArg B hb8) rfl) ?_
  refine st (v := (B false)) (rv_move rfl) ?_
  refine st_skip rfl ?_
  refine st_skip rfl ?_
  refine st_skip rfl ?_
  refine st (v := (B false)) (rv_pick_f rfl rfl) ?_
  refine st (v := (B false)) (rv_assign rfl) ?_
  refine w_end ?_
  refine q_then ?_
  refine c_ret ?_
  obtain rfl := Option.some.inj h
  exact fin_ret (v := (B false)) (results_ok Try.results47 (res_tmp (v := (B false)) rfl res_nil) rfl) ⟨rfl, rfl⟩ (H.sel' [] rfl rfl)

theorem c_impl_ValidStore {list_0 : List (Int × (List Int) × Int)} {alist_0 : Option Addr} {clist_0 : Nat} {r : Bool} (h : M.impl_ValidStore list_0 = some r) :
    Cal2 Try.prog 28 [(Sl alist_0 list_0 clist_0)] [Ch.ro 0 (Sl alist_0 list_0 clist_0) list_0] (fun n0 v L => v = (B r) ∧ L = []) := by
 refine cal2 (n := 27) Try.func28 rfl rfl rfl rfl ?_
 intro S0 σ0 n0 hn0 H
 unfold M.impl_ValidStore at h
 refine c_seq ?_
 refine rg ?_
 refine st (v := (B false)) (rv_assign rfl) ?_
 refine w_end ?_
 refine q_then ?_
 refine c_seq ?_
 refine c_seq ?_
 refine rg ?_
 refine st (v := (Sl alist_0 list_0 clist_0)) (rv_move rfl) ?_
 refine st (v := (I (list_0.length : Int))) (rv_len Try.underlying23 rfl) ?_
 refine st (v := (B (decide (16 < (list_0.length : Int))))) (rv_gtr (a := (list_0.length : Int)) (b := 16) rfl rfl) ?_
 refine w_end ?_
 refine q_then ?_
 refine cd_cond (decide (16 < (list_0.length : Int))) rfl (fun hb1 => ?_) (fun hb1 => ?_)
 ·replace h := bif_t hb1 h
  refine c_seq ?_
  refine rg ?_
  refine st (v := (B false)) (rv_assign rfl) ?_
  refine w_end ?_
  refine q_then ?_
  refine c_ret ?_
  refine q_then_r ?_
  obtain rfl := Option.some.inj h
  exact fin_ret (v := (B false)) (results_ok Try.results28 (res_tmp (v := (B false)) rfl res_nil) rfl) ⟨rfl, rfl⟩ (H.sel' [] rfl rfl)
 ·replace h := bif_f hb1 h
  refine c_skip ?_
  refine q_then ?_
  refine c_seq ?_
  refine rg ?_
  refine st (v := (I 0)) (rv_assign rfl) ?_
  refine w_end ?_
  refine q_then ?_
  refine c_seq ?_
  refine c_seq ?_
  refine rg ?_
  refine st (v := (Sl alist_0 list_0 clist_0)) (rv_move rfl) ?_
  refine st (v := (I (list_0.length : Int))) (rv_len Try.underlying23 rfl) ?_
  refine st (v := (I 0)) (rv_move rfl) ?_
  refine w_end ?_
  refine q_then ?_
  obtain ⟨o2, hj, h'⟩ := bind_some h
  clear h
  refine c_cut (fun e a w => (∃ t, o2 = (.inl t) ∧ e = .normal ∧ ∃ (ρ : Nat → Value) (σ : St), a = fr 27 (updL ρ []) ∧ w = σ.w ∧ Hp S0 σ0 σ []) ∨ (∃ t, o2 = (.inr t) ∧ e = .ret ∧ ∃ (ρ : Nat → Value) (σ : St), a = fr 27 (updL ρ [(2, (B t))]) ∧ w = σ.w ∧ Hp S0 σ0 σ [])) ?_ ?_
  ·clear h'
   rename _ = some o2 => h
   refine c_blk ?_
   refine wp_loopM _ h (fun s3 a w => ∃ (ρ : Nat → Value) (σ : St), a = fr 27 (updL ρ [(3, (I s3.1)), (9, (Sl alist_0 list_0 clist_0)), (10, (I (list_0.length : Int))), (11, (I s3.2))]) ∧ w = σ.w ∧ Hp S0 σ0 σ [Ch.ro 0 (Sl alist_0 list_0 clist_0) list_0]) ⟨_, σ0, fr_join ⟨rfl, rfl, rfl, rfl, trivial⟩, rfl, H.sel' [0] rfl rfl⟩ ?_
   clear h H
   rintro s3 a w o ⟨ρ, σ4, rfl, rfl, H⟩ h hres
   refine c_seq ?_
   refine rg ?_
   refine st (v := (B (decide (s3.2 < (list_0.length : Int))))) (rv_lss (a := s3.2) (b := (list_0.length : Int)) rfl rfl) ?_
   refine w_end ?_
   refine q_then ?_
   refine c_seq ?_
   refine cd_cond (decide (s3.2 < (list_0.length : Int))) rfl (fun hb5 => ?_) (fun hb5 => ?_)
   ·replace h := bif_t hb5 h
    refine c_skip ?_
    refine q_then ?_
    refine c_seq ?_
    refine c_blk ?_
    refine c_seq ?_
    refine rg ?_
    obtain ⟨x6, hx7, h'⟩ := bind_some h
    clear h
    have h := h'; clear h'
    obtain ⟨b9, o10, hi8, -⟩ := (H.ro 0 rfl).ix hx7
    refine st (v := (pt b9 o10)) (rv_ix Try.underlying23 ti26 rfl rfl hi8) ?_
    obtain ⟨_, ⟨_, _, rfl, rfl, ⟨_, _, rfl, ⟨_, rfl, hR15⟩, rfl⟩⟩, hl11, hc12⟩ := ((H.ro 0 rfl).at hx7 hi8).cells
    obtain ⟨a13, c14, rfl⟩ := hR15.isSl
    replace H := H.add (d := Ch.ro 0 (Sl a13 x6.2.1 c14) x6.2.1) hR15 (fun _ h => h)
    clear hR15
    refine st (v := (.agg #[(I x6.1), (Sl a13 x6.2.1 c14), (I x6.2.2)])) (rv_load Try.underlying26 rfl ti26 rfl hl11 hc12) ?_
    refine st_ex (ex_alloc (cs := [(I 0), (.slice none 0 0), (I 0)]) H hn0 ti26 rfl) wn ?_
    rintro _ σ17 ⟨b16, rfl, H, -⟩
    refine st_exS (ex_store_box (k := 0) (cs := [(I 0), (.slice none 0 0), (I 0)]) (vs := [(I x6.1), (Sl a13 x6.2.1 c14), (I x6.2.2)]) (cs' := [(I x6.1), (Sl a13 x6.2.1 c14), (I x6.2.2)]) H (i := 0) rfl ti26 rfl rfl rfl rfl rfl (Nat.le_of_ble_eq_true rfl) (by simp [plain]) rfl) wn ?_
    rintro σ18 ⟨H, -⟩
    refine w_end ?_
    refine q_then ?_
    refine c_seq ?_
    refine c_seq ?_
    obtain ⟨o19, hj, h'⟩ := bind_some h
    clear h
    refine c_cut (fun e a w => e = .normal ∧ ∃ (ρ : Nat → Value) (σ : St), a = fr 27 (updL ρ [(5, (pt b16 0)), (9, (Sl alist_0 list_0 clist_0)), (10, (I (list_0.length : Int))), (11, (I s3.2)), (23, (B o19))]) ∧ w = σ.w ∧ Hp S0 σ0 σ [Ch.ro 0 (Sl a13 x6.2.1 c14) x6.2.1, Ch.bx n0 b16 0 [(I x6.1), (Sl a13 x6.2.1 c14), (I x6.2.2)] [] [], Ch.ro 0 (Sl alist_0 list_0 clist_0) list_0]) ?_ ?_
    ·clear h'
     rename _ = some o19 => h
     refine rg ?_
     have hc20 := H.cells 0 rfl
     refine st (v := (.agg #[(I x6.1), (Sl a13 x6.2.1 c14), (I x6.2.2)])) (rv_load (cs := [(I x6.1), (Sl a13 x6.2.1 c14), (I x6.2.2)]) Try.underlying26 rfl ti26 rfl rfl hc20) ?_
     obtain ⟨r21, hx22, h'⟩ := bind_some h
     clear h
     have h := h'; clear h'
     have hc23 := c_impl_validItem (ax_0_1 := a13) (cx_0_1 := c14) hx22
     refine st_call (cx_call hc23 (ent_f hc23.fn rfl) hn0 (show Hp S0 σ0 _ ([Ch.ro 0 (Sl a13 x6.2.1 c14) x6.2.1] ++ [Ch.bx n0 b16 0 [(I x6.1), (Sl a13 x6.2.1 c14), (I x6.2.2)] [] [], Ch.ro 0 (Sl a13 x6.2.1 c14) x6.2.1, Ch.ro 0 (Sl alist_0 list_0 clist_0) list_0]) from (H.sel' [1, 0, 1, 2] rfl rfl))) wn ?_
     rintro _ σ24 ⟨_, ⟨rfl, rfl⟩, H, -⟩
     replace H : Hp S0 σ0 σ24 [Ch.bx n0 b16 0 [(I x6.1), (Sl a13 x6.2.1 c14), (I x6.2.2)] [] [], Ch.ro 0 (Sl a13 x6.2.1 c14) x6.2.1, Ch.ro 0 (Sl alist_0 list_0 clist_0) list_0] := H
     refine st (v := (B (!r21))) (rv_not rfl) ?_
     refine st (v := (B (!r21))) (rv_move rfl) ?_
     rcases Bool.eq_false_or_eq_true (!r21) with hb25 | hb25
     ·replace h := bif_t hb25 h
      refine st_skip (congrArg some hb25) ?_
      refine st_skip (congrArg some hb25) ?_
      refine st_skip (congrArg some hb25) ?_
      refine st_skip (congrArg some hb25) ?_
      refine st (v := (B true)) (rv_pick_t (congrArg B hb25) rfl) ?_
      refine w_end ?_
      obtain rfl := Option.some.inj h
      exact ⟨rfl, _, σ24, fr_join ⟨rfl, rfl, rfl, rfl, rfl, trivial⟩, rfl, H.sel' [1, 0, 2] rfl rfl⟩
     ·replace h := bif_f hb25 h
      refine st_g (v := (pt b16 0)) (congrArg some hb25) (rv_fieldAddr (off := 0) (ft := 3) Try.underlying26 rfl ti3 rfl rfl) ?_
      have hc26 := H.cell (u := (I x6.1)) (o' := 0) 0 0 rfl rfl rfl
      refine st_g (v := (I x6.1)) (congrArg some hb25) (rv_load1 Try.underlying3 rfl rfl hc26) ?_
      refine st_g (v := (I s3.1)) (congrArg some hb25) (rv_move rfl) ?_
      refine st_g (v := (B (decide (x6.1 ≤ s3.1)))) (congrArg some hb25) (rv_leq (a := x6.1) (b := s3.1) rfl rfl) ?_
      refine st (v := (B (decide (x6.1 ≤ s3.1)))) (rv_pick_f (congrArg B hb25) rfl) ?_
      refine w_end ?_
      obtain rfl := Option.some.inj h
      exact ⟨rfl, _, σ24, fr_join ⟨rfl, rfl, rfl, rfl, rfl, trivial⟩, rfl, H.sel' [1, 0, 2] rfl rfl⟩
    ·clear hj
     have h := h'
     clear h' H
     rintro e a w ⟨rfl, ρ, σ27, rfl, rfl, H⟩
     refine q_then ?_
     refine cd_cond o19 rfl (fun hb28 => ?_) (fun hb28 => ?_)
     ·replace h := bif_t hb28 h
      refine c_seq ?_
      refine rg ?_
      refine st (v := (B false)) (rv_assign rfl) ?_
      refine w_end ?_
      refine q_then ?_
      refine c_ret ?_
      refine q_then_r ?_
      refine q_blk_r ?_
      refine q_then_r ?_
      refine q_then_r ?_
      refine q_blk_r ?_
      obtain rfl := Option.some.inj h
      obtain rfl := hres _ rfl
      exact .inr (⟨_, rfl, rfl, _, σ27, fr_join ⟨rfl, trivial⟩, rfl, H.sel' [] rfl rfl⟩)
     ·replace h := bif_f hb28 h
      refine c_skip ?_
      refine q_then ?_
      refine rg ?_
      refine st (v := (pt b16 0)) (rv_fieldAddr (off := 0) (ft := 3) Try.underlying26 rfl ti3 rfl rfl) ?_
      have hc29 := H.cell (u := (I x6.1)) (o' := 0) 1 0 rfl rfl rfl
      refine st (v := (I x6.1)) (rv_load1 Try.underlying3 rfl rfl hc29) ?_
      refine st (v := (I x6.1)) (rv_assign rfl) ?_
      refine w_end ?_
      refine q_blk ?_
      refine q_then ?_
      refine rg ?_
      refine st (v := (I (w64 (s3.2 + 1)))) (rv_add (a := s3.2) (b := 1) rfl rfl) ?_
      refine st (v := (I (w64 (s3.2 + 1)))) (rv_move rfl) ?_
      refine w_end ?_
      refine q_then ?_
      obtain rfl := Option.some.inj h
      exact ⟨_, rfl, _, σ27, fr_join ⟨rfl, rfl, rfl, rfl, trivial⟩, rfl, H.sel' [2] rfl rfl⟩
   ·replace h := bif_f hb5 h
    refine c_exit ?_
    refine q_then_x ?_
    refine q_then_x ?_
    refine q_blk_hit ?_
    obtain rfl := Option.some.inj h
    obtain rfl := hres _ rfl
    exact .inl ⟨_, rfl, rfl, _, σ4, fr_join trivial, rfl, H.sel' [] rfl rfl⟩
  ·clear hj
   have h := h'
   clear h' H
   rintro e a w (⟨t30, rfl, rfl, ρ, σ31, rfl, rfl, H⟩ | ⟨t32, rfl, rfl, ρ, σ33, rfl, rfl, H⟩)
   ·replace h := selim_l h
    refine q_then ?_
    refine c_seq ?_
    refine rg ?_
    refine st (v := (B true)) (rv_assign rfl) ?_
    refine w_end ?_
    refine q_then ?_
    refine c_ret ?_
    obtain rfl := Option.some.inj h
    exact fin_ret (v := (B true)) (results_ok Try.results28 (res_tmp (v := (B true)) rfl res_nil) rfl) ⟨rfl, rfl⟩ (H.sel' [] rfl rfl)
   ·replace h := selim_r h
    refine q_then_r ?_
    obtain rfl := Option.some.inj h
    exact fin_ret (v := (B t32)) (results_ok Try.results28 (res_tmp (v := (B t32)) rfl res_nil) rfl) ⟨rfl, rfl⟩ (H.sel' [] rfl rfl)

theorem c_cmp_isNaN_int {x_0 : Int}  {r : Bool} (h : M.cmp_isNaN_int x_0 = some r) :
    Cal2 Try.prog 86 [(I x_0)] [] (fun n0 v L => v = (B r) ∧ L = []) := by
 refine cal2 (n := 6) Try.func86 rfl rfl rfl rfl ?_
 intro S0 σ0 n0 hn0 H
 unfold M.cmp_isNaN_int at h
 refine c_seq ?_
 refine rg ?_
 refine st (v := (B false)) (rv_assign rfl) ?_
 refine w_end ?_
 refine q_then ?_
 refine c_seq ?_
 refine rg ?_
 refine st (v := (I x_0)) (rv_move rfl) ?_
 refine st (v := (I x_0)) (rv_move rfl) ?_
 refine st (v := (B (x_0 != x_0))) (rv_neq (a := x_0) (b := x_0) rfl rfl) ?_
 refine st (v := (B (x_0 != x_0))) (rv_assign rfl) ?_
 refine w_end ?_
 refine q_then ?_
 refine c_ret ?_
 obtain rfl := Option.some.inj h
 exact fin_ret (v := (B (x_0 != x_0))) (results_ok Try.results86 (res_tmp (v := (B (x_0 != x_0))) rfl res_nil) rfl) ⟨rfl, rfl⟩ (H.sel' [] rfl rfl)

theorem c_cmp_Compare_int {x_0 : Int} {y_1 : Int}  {r : Int} (h : M.cmp_Compare_int x_0 y_1 = some r) :
    Cal2 Try.prog 76 [(I x_0), (I y_1)] [] (fun n0 v L => v = (I r) ∧ L = []) := by
 refine cal2 (n := 20) Try.func76 rfl rfl rfl rfl ?_
 intro S0 σ0 n0 hn0 H
 unfold M.cmp_Compare_int at h
 refine c_seq ?_
 refine rg ?_
 refine st (v := (I 0)) (rv_assign rfl) ?_
 refine w_end ?_
 refine q_then ?_
 refine c_seq ?_
 refine rg ?_
 refine st (v := (I x_0)) (rv_move rfl) ?_
 obtain ⟨r1, hx2, h'⟩ := bind_some h
 clear h
 have h := h'; clear h'
 have hc3 := c_cmp_isNaN_int hx2
 refine st_call (cx_call hc3 (ent_f hc3.fn rfl) hn0 (show Hp S0 σ0 _ ([] ++ []) from (H.sel' [] rfl rfl))) wn ?_
 rintro _ σ4 ⟨_, ⟨rfl, rfl⟩, H, -⟩
 replace H : Hp S0 σ0 σ4 [] := H
 refine st (v := (B r1)) (rv_assign rfl) ?_
 refine w_end ?_
 refine q_then ?_
 refine c_seq ?_
 refine rg ?_
 refine st (v := (I y_1)) (rv_move rfl) ?_
 obtain ⟨r5, hx6, h'⟩ := bind_some h
 clear h
 have h := h'; clear h'
 have hc7 := c_cmp_isNaN_int hx6
 refine st_call (cx_call hc7 (ent_f hc7.fn rfl) hn0 (show Hp S0 σ0 _ ([] ++ []) from (H.sel' [] rfl rfl))) wn ?_
 rintro _ σ8 ⟨_, ⟨rfl, rfl⟩, H, -⟩
 replace H : Hp S0 σ0 σ8 [] := H
 refine st (v := (B r5)) (rv_assign rfl) ?_
 refine w_end ?_
 refine q_then ?_
 refine c_seq ?_
 refine c_seq ?_
 refine rg ?_
 refine st (v := (B r1)) (rv_move rfl) ?_
 refine w_end ?_
 refine q_then ?_
 refine cd_cond r1 rfl (fun hb9 => ?_) (fun hb9 => ?_)
 ·replace h := bif_t hb9 h
  refine c_seq ?_
  refine c_seq ?_
  refine rg ?_
  refine st (v := (B r5)) (rv_move rfl) ?_
  refine w_end ?_
  refine q_then ?_
  refine cd_cond r5 rfl (fun hb10 => ?_) (fun hb10 => ?_)
  ·replace h := bif_t hb10 h
   refine c_seq ?_
   refine rg ?_
   refine st (v := (I 0)) (rv_assign rfl) ?_
   refine w_end ?_
   refine q_then ?_
   refine c_ret ?_
   refine q_then_r ?_
   refine q_then_r ?_
   obtain rfl := Option.some.inj h
   exact fin_ret (v := (I 0)) (results_ok Try.results76 (res_tmp (v := (I 0)) rfl res_nil) rfl) ⟨rfl, rfl⟩ (H.sel' [] rfl rfl)
  ·replace h := bif_f hb10 h
   refine c_skip ?_
   refine q_then ?_
   refine c_seq ?_
   refine rg ?_
   refine st (v := (I (-1))) (rv_assign rfl) ?_
   refine w_end ?_
   refine q_then ?_
   refine c_ret ?_
   refine q_then_r ?_
   obtain rfl := Option.some.inj h
   exact fin_ret (v := (I (-1))) (results_ok Try.results76 (res_tmp (v := (I (-1))) rfl res_nil) rfl) ⟨rfl, rfl⟩ (H.sel' [] rfl rfl)
 ·replace h := bif_f hb9 h
  refine c_skip ?_
  refine q_then ?_
  refine c_seq ?_
  refine c_seq ?_
  refine rg ?_
  refine st (v := (B r5)) (rv_move rfl) ?_
  refine w_end ?_
  refine q_then ?_
  refine cd_cond r5 rfl (fun hb11 => ?_) (fun hb11 => ?_)
  ·replace h := bif_t hb11 h
   refine c_seq ?_
   refine rg ?_
   refine st (v := (I 1)) (rv_assign rfl) ?_
   refine w_end ?_
   refine q_then ?_
   refine c_ret ?_
   refine q_then_r ?_
   obtain rfl := Option.some.inj h
   exact fin_ret (v := (I 1)) (results_ok Try.results76 (res_tmp (v := (I 1)) rfl res_nil) rfl) ⟨rfl, rfl⟩ (H.sel' [] rfl rfl)
  ·replace h := bif_f hb11 h
   refine c_skip ?_
   refine q_then ?_
   refine c_seq ?_
   refine c_seq ?_
   refine rg ?_
   refine st (v := (I x_0)) (rv_move rfl) ?_
   refine st (v := (I y_1)) (rv_move rfl) ?_
   refine st (v := (B (decide (x_0 < y_1)))) (rv_lss (a := x_0) (b := y_1) rfl rfl) ?_
   refine w_end ?_
   refine q_then ?_
   refine cd_cond (decide (x_0 < y_1)) rfl (fun hb12 => ?_) (fun hb12 => ?_)
   ·replace h := bif_t hb12 h
    refine c_seq ?_
    refine rg ?_
    refine st (v := (I (-1))) (rv_assign rfl) ?_
    refine w_end ?_
    refine q_then ?_
    refine c_ret ?_
    refine q_then_r ?_
    obtain rfl := Option.some.inj h
    exact fin_ret (v := (I (-1))) (results_ok Try.results76 (res_tmp (v := (I (-1))) rfl res_nil) rfl) ⟨rfl, rfl⟩ (H.sel' [] rfl rfl)
   ·replace h := bif_f hb12 h
    refine c_skip ?_
    refine q_then ?_
    refine c_seq ?_
    refine c_seq ?_
    refine rg ?_
    refine st (v := (I x_0)) (rv_move rfl) ?_
    refine st (v := (I y_1)) (rv_move rfl) ?_
    refine st (v := (B (decide (y_1 < x_0)))) (rv_gtr (a := x_0) (b := y_1) rfl rfl) ?_
    refine w_end ?_
    refine q_then ?_
    refine cd_cond (decide (y_1 < x_0)) rfl (fun hb13 => ?_) (fun hb13 => ?_)
    ·replace h := bif_t hb13 h
     refine c_seq ?_
     refine rg ?_
     refine st (v := (I 1)) (rv_assign rfl) ?_
     refine w_end ?_
     refine q_then ?_
     refine c_ret ?_
     refine q_then_r ?_
     obtain rfl := Option.some.inj h
     exact fin_ret (v := (I 1)) (results_ok Try.results76 (res_tmp (v := (I 1)) rfl res_nil) rfl) ⟨rfl, rfl⟩ (H.sel' [] rfl rfl)
    ·replace h := bif_f hb13 h
     refine c_skip ?_
     refine q_then ?_
     refine c_seq ?_
     refine rg ?_
     refine st (v := (I 0)) (rv_assign rfl) ?_
     refine w_end ?_
     refine q_then ?_
     refine c_ret ?_
     obtain rfl := Option.some.inj h
     exact fin_ret (v := (I 0)) (results_ok Try.results76 (res_tmp (v := (I 0)) rfl res_nil) rfl) ⟨rfl, rfl⟩ (H.sel' [] rfl rfl)

theorem c_impl_placeOf_1 {x_0 : Int × (List Int) × Int} {key_1 : Int} {ax_0_1 : Option Addr} {cx_0_1 : Nat} {r : Int} (h : M.impl_placeOf_1 x_0 key_1 = some r) :
    Cal2 Try.prog 75 [(.agg #[(I x_0.1), (Sl ax_0_1 x_0.2.1 cx_0_1), (I x_0.2.2)]), (I key_1)] [Ch.ro 0 (Sl ax_0_1 x_0.2.1 cx_0_1) x_0.2.1] (fun n0 v L => v = (I r) ∧ L = []) := by
 refine cal2 (n := 9) Try.func75 rfl rfl rfl rfl ?_
 intro S0 σ0 n0 hn0 H
 unfold M.impl_placeOf_1 at h
 refine c_seq ?_
 refine rg ?_
 refine st_ex (ex_box (cs := [(I x_0.1), (Sl ax_0_1 x_0.2.1 cx_0_1), (I x_0.2.2)]) H hn0 rfl rfl) wn ?_
 rintro _ σ2 ⟨b1, rfl, H, -⟩
 refine st (v := (I 0)) (rv_assign rfl) ?_
 refine w_end ?_
 refine q_then ?_
 refine c_seq ?_
 refine rg ?_
 refine st (v := (pt b1 0)) (rv_fieldAddr (off := 0) (ft := 3) Try.underlying26 rfl ti3 rfl rfl) ?_
 have hc3 := H.cell (u := (I x_0.1)) (o' := 0) 0 0 rfl rfl rfl
 refine st (v := (I x_0.1)) (rv_load1 Try.underlying3 rfl rfl hc3) ?_
 refine st (v := (I key_1)) (rv_move rfl) ?_
 obtain ⟨r4, hx5, h'⟩ := bind_some h
 clear h
 have h := h'; clear h'
 have hc6 := c_cmp_Compare_int hx5
 refine st_call (cx_call hc6 (ent_f hc6.fn rfl) hn0 (show Hp S0 σ0 _ ([] ++ [Ch.bx n0 b1 0 [(I x_0.1), (Sl ax_0_1 x_0.2.1 cx_0_1), (I x_0.2.2)] [] [], Ch.ro 0 (Sl ax_0_1 x_0.2.1 cx_0_1) x_0.2.1]) from (H.sel' [0, 1] rfl rfl))) wn ?_
 rintro _ σ7 ⟨_, ⟨rfl, rfl⟩, H, -⟩
 replace H : Hp S0 σ0 σ7 [Ch.bx n0 b1 0 [(I x_0.1), (Sl ax_0_1 x_0.2.1 cx_0_1), (I x_0.2.2)] [] [], Ch.ro 0 (Sl ax_0_1 x_0.2.1 cx_0_1) x_0.2.1] := H
 refine st (v := (I r4)) (rv_assign rfl) ?_
 refine w_end ?_
 refine q_then ?_
 refine c_ret ?_
 obtain rfl := Option.some.inj h
 exact fin_ret (v := (I r4)) (results_ok Try.results75 (res_tmp (v := (I r4)) rfl res_nil) rfl) ⟨rfl, rfl⟩ (H.sel' [] rfl rfl)

theorem c_slices_BinarySearchFunc_impl_Item_impl_Item_int__impl_placeOf_1 {x_0 : List (Int × (List Int) × Int)} {target_1 : Int} {ax_0 : Option Addr} {cx_0 : Nat} {r : Int × Bool} (h : M.slices_BinarySearchFunc_impl_Item_impl_Item_int__impl_placeOf_1 x_0 target_1 = some r) :
    Cal2 Try.prog 74 [(Sl ax_0 x_0 cx_0), (I target_1), (.func (.func 75) #[] #[])] [Ch.ro 0 (Sl ax_0 x_0 cx_0) x_0] (fun n0 v L => v = (.tuple #[(I r.1), (B r.2)]) ∧ L = []) := by
 refine cal2 (n := 49) Try.func74 rfl rfl rfl rfl ?_
 intro S0 σ0 n0 hn0 H
 unfold M.slices_BinarySearchFunc_impl_Item_impl_Item_int__impl_placeOf_1 at h
 refine c_seq ?_
 refine rg ?_
 refine st (v := (I 0)) (rv_assign rfl) ?_
 refine st (v := (B false)) (rv_assign rfl) ?_
 refine w_end ?_
 refine q_then ?_
 refine c_seq ?_
 refine rg ?_
 refine st (v := (Sl ax_0 x_0 cx_0)) (rv_move rfl) ?_
 refine st (v := (I (x_0.length : Int))) (rv_len Try.underlying23 rfl) ?_
 refine st (v := (I (x_0.length : Int))) (rv_assign rfl) ?_
 refine w_end ?_
 refine q_then ?_
 refine c_seq ?_
 refine rg ?_
 refine st (v := (I (x_0.length : Int))) (rv_move rfl) ?_
 refine st (v := (I 0)) (rv_assign rfl) ?_
 refine st (v := (I (x_0.length : Int))) (rv_assign rfl) ?_
 refine w_end ?_
 refine q_then ?_
 refine c_seq ?_
 obtain ⟨o1, hj, h'⟩ := bind_some h
 clear h
 refine c_cut (fun e a w => e = .normal ∧ ∃ (ρ : Nat → Value) (σ : St), a = fr 49 (updL ρ [(0, (Sl ax_0 x_0 cx_0)), (1, (I target_1)), (2, (.func (.func 75) #[] #[])), (8, (I (x_0.length : Int))), (9, (I o1))]) ∧ w = σ.w ∧ Hp S0 σ0 σ [Ch.ro 0 (Sl ax_0 x_0 cx_0) x_0]) ?_ ?_
 ·clear h'
  rename _ = some o1 => h
  refine c_blk ?_
  refine wp_loopM _ h (fun s2 a w => ∃ (ρ : Nat → Value) (σ : St), a = fr 49 (updL ρ [(0, (Sl ax_0 x_0 cx_0)), (1, (I target_1)), (2, (.func (.func 75) #[] #[])), (8, (I (x_0.length : Int))), (9, (I s2.1)), (10, (I s2.2))]) ∧ w = σ.w ∧ Hp S0 σ0 σ [Ch.ro 0 (Sl ax_0 x_0 cx_0) x_0]) ⟨_, σ0, fr_join ⟨rfl, rfl, rfl, rfl, rfl, rfl, trivial⟩, rfl, H.sel' [0] rfl rfl⟩ ?_
  clear h H
  rintro s2 a w o ⟨ρ, σ3, rfl, rfl, H⟩ h hres
  refine c_seq ?_
  refine c_seq ?_
  refine rg ?_
  refine st (v := (I s2.1)) (rv_move rfl) ?_
  refine st (v := (I s2.2)) (rv_move rfl) ?_
  refine st (v := (B (decide (s2.1 < s2.2)))) (rv_lss (a := s2.1) (b := s2.2) rfl rfl) ?_
  refine w_end ?_
  refine q_then ?_
  refine cd_cond (decide (s2.1 < s2.2)) rfl (fun hb4 => ?_) (fun hb4 => ?_)
  ·replace h := bif_t hb4 h
   refine c_skip ?_
   refine q_then ?_
   refine c_blk ?_
   refine c_seq ?_
   refine rg ?_
   refine st (v := (I s2.1)) (rv_move rfl) ?_
   refine st (v := (I s2.2)) (rv_move rfl) ?_
   refine st (v := (I (w64 (s2.1 + s2.2)))) (rv_add (a := s2.1) (b := s2.2) rfl rfl) ?_
   refine st (v := (.int .u64 (wk .u64 (w64 (s2.1 + s2.2))))) (rvk_conv (k := .i64) (k' := .u64) (a := (w64 (s2.1 + s2.2))) Try.underlying3 Try.underlying87 rfl) ?_
   refine st (v := (.int .u64 (gshr .u64 (wk .u64 (w64 (s2.1 + s2.2))) 1))) (rvk_shr (k := .u64) (k' := .u64) (a := (wk .u64 (w64 (s2.1 + s2.2)))) (b := 1) rfl rfl (by decide)) ?_
   refine st (v := (I (wk .i64 (gshr .u64 (wk .u64 (w64 (s2.1 + s2.2))) 1)))) (rvk_conv (k := .u64) (k' := .i64) (a := (gshr .u64 (wk .u64 (w64 (s2.1 + s2.2))) 1)) Try.underlying87 Try.underlying3 rfl) ?_
   refine st (v := (I (wk .i64 (gshr .u64 (wk .u64 (w64 (s2.1 + s2.2))) 1)))) (rv_assign rfl) ?_
   refine w_end ?_
   refine q_then ?_
   refine c_seq ?_
   refine rg ?_
   refine st (v := (.func (.func 75) #[] #[])) (rv_move rfl) ?_
   refine st (v := (Sl ax_0 x_0 cx_0)) (rv_move rfl) ?_
   refine st (v := (I (wk .i64 (gshr .u64 (wk .u64 (w64 (s2.1 + s2.2))) 1)))) (rv_move rfl) ?_
   obtain ⟨x5, hx6, h'⟩ := bind_some h
   clear h
   have h := h'; clear h'
   obtain ⟨b8, o9, hi7, -⟩ := (H.ro 0 rfl).ix hx6
   refine st (v := (pt b8 o9)) (rv_ix Try.underlying23 ti26 rfl rfl hi7) ?_
   obtain ⟨_, ⟨_, _, rfl, rfl, ⟨_, _, rfl, ⟨_, rfl, hR14⟩, rfl⟩⟩, hl10, hc11⟩ := ((H.ro 0 rfl).at hx6 hi7).cells
   obtain ⟨a12, c13, rfl⟩ := hR14.isSl
   replace H := H.add (d := Ch.ro 0 (Sl a12 x5.2.1 c13) x5.2.1) hR14 (fun _ h => h)
   clear hR14
   refine st (v := (.agg #[(I x5.1), (Sl a12 x5.2.1 c13), (I x5.2.2)])) (rv_load Try.underlying26 rfl ti26 rfl hl10 hc11) ?_
   refine st (v := (I target_1)) (rv_move rfl) ?_
   obtain ⟨r15, hx16, h'⟩ := bind_some h
   clear h
   have h := h'; clear h'
   have hc17 := c_impl_placeOf_1 (ax_0_1 := a12) (cx_0_1 := c13) hx16
   refine st_call (cx_call hc17 (ent_v (cap := []) hc17.fn rfl rfl) hn0 (show Hp S0 σ0 _ ([Ch.ro 0 (Sl a12 x5.2.1 c13) x5.2.1] ++ [Ch.ro 0 (Sl a12 x5.2.1 c13) x5.2.1, Ch.ro 0 (Sl ax_0 x_0 cx_0) x_0]) from (H.sel' [0, 0, 1] rfl rfl))) wn ?_
   rintro _ σ18 ⟨_, ⟨rfl, rfl⟩, H, -⟩
   replace H : Hp S0 σ0 σ18 [Ch.ro 0 (Sl a12 x5.2.1 c13) x5.2.1, Ch.ro 0 (Sl ax_0 x_0 cx_0) x_0] := H
   refine st (v := (B (decide (r15 < 0)))) (rv_lss (a := r15) (b := 0) rfl rfl) ?_
   refine w_end ?_
   refine q_then ?_
   refine cd_cond (decide (r15 < 0)) rfl (fun hb19 => ?_) (fun hb19 => ?_)
   ·replace h := bif_t hb19 h
    refine rg ?_
    refine st (v := (I (wk .i64 (gshr .u64 (wk .u64 (w64 (s2.1 + s2.2))) 1)))) (rv_move rfl) ?_
    refine st (v := (I (w64 ((wk .i64 (gshr .u64 (wk .u64 (w64 (s2.1 + s2.2))) 1)) + 1)))) (rv_add (a := (wk .i64 (gshr .u64 (wk .u64 (w64 (s2.1 + s2.2))) 1))) (b := 1) rfl rfl) ?_
    refine st (v := (I (w64 ((wk .i64 (gshr .u64 (wk .u64 (w64 (s2.1 + s2.2))) 1)) + 1)))) (rv_assign rfl) ?_
    refine w_end ?_
    refine q_blk ?_
    refine q_then ?_
    obtain rfl := Option.some.inj h
    exact ⟨_, rfl, _, σ18, fr_join ⟨rfl, rfl, rfl, rfl, rfl, rfl, trivial⟩, rfl, H.sel' [1] rfl rfl⟩
   ·replace h := bif_f hb19 h
    refine rg ?_
    refine st (v := (I (wk .i64 (gshr .u64 (wk .u64 (w64 (s2.1 + s2.2))) 1)))) (rv_move rfl) ?_
    refine st (v := (I (wk .i64 (gshr .u64 (wk .u64 (w64 (s2.1 + s2.2))) 1)))) (rv_assign rfl) ?_
    refine w_end ?_
    refine q_blk ?_
    refine q_then ?_
    obtain rfl := Option.some.inj h
    exact ⟨_, rfl, _, σ18, fr_join ⟨rfl, rfl, rfl, rfl, rfl, rfl, trivial⟩, rfl, H.sel' [1] rfl rfl⟩
  ·replace h := bif_f hb4 h
   refine c_exit ?_
   refine q_then_x ?_
   refine q_then_x ?_
   refine q_blk_hit ?_
   obtain rfl := Option.some.inj h
   obtain rfl := hres _ rfl
   exact ⟨rfl, _, σ3, fr_join ⟨rfl, rfl, rfl, rfl, rfl, trivial⟩, rfl, H.sel' [0] rfl rfl⟩
 ·clear hj
  have h := h'
  clear h' H
  rintro e a w ⟨rfl, ρ, σ20, rfl, rfl, H⟩
  refine q_then ?_
  refine c_seq ?_
  refine rg ?_
  refine st (v := (I o1)) (rv_move rfl) ?_
  refine st (v := (I o1)) (rv_move rfl) ?_
  refine st (v := (I (x_0.length : Int))) (rv_move rfl) ?_
  refine st (v := (B (decide (o1 < (x_0.length : Int))))) (rv_lss (a := o1) (b := (x_0.length : Int)) rfl rfl) ?_
  refine st (v := (B (decide (o1 < (x_0.length : Int))))) (rv_move rfl) ?_
  rcases Bool.eq_false_or_eq_true (decide (o1 < (x_0.length : Int))) with hb21 | hb21
  ·replace h := bif_t hb21 h
   refine st_g (v := (.func (.func 75) #[] #[])) (congrArg some hb21) (rv_move rfl) ?_
   refine st_g (v := (Sl ax_0 x_0 cx_0)) (congrArg some hb21) (rv_move rfl) ?_
   refine st_g (v := (I o1)) (congrArg some hb21) (rv_move rfl) ?_
   obtain ⟨x22, hx23, h'⟩ := bind_some h
   clear h
   have h := h'; clear h'
   obtain ⟨b25, o26, hi24, -⟩ := (H.ro 0 rfl).ix hx23
   refine st_g (v := (pt b25 o26)) (congrArg some hb21) (rv_ix Try.underlying23 ti26 rfl rfl hi24) ?_
   obtain ⟨_, ⟨_, _, rfl, rfl, ⟨_, _, rfl, ⟨_, rfl, hR31⟩, rfl⟩⟩, hl27, hc28⟩ := ((H.ro 0 rfl).at hx23 hi24).cells
   obtain ⟨a29, c30, rfl⟩ := hR31.isSl
   replace H := H.add (d := Ch.ro 0 (Sl a29 x22.2.1 c30) x22.2.1) hR31 (fun _ h => h)
   clear hR31
   refine st_g (v := (.agg #[(I x22.1), (Sl a29 x22.2.1 c30), (I x22.2.2)])) (congrArg some hb21) (rv_load Try.underlying26 rfl ti26 rfl hl27 hc28) ?_
   refine st_g (v := (I target_1)) (congrArg some hb21) (rv_move rfl) ?_
   obtain ⟨r32, hx33, h'⟩ := bind_some h
   clear h
   have h := h'; clear h'
   have hc34 := c_impl_placeOf_1 (ax_0_1 := a29) (cx_0_1 := c30) hx33
   refine st_call (cx_call hc34 (ent_v (cap := []) hc34.fn rfl rfl) hn0 (show Hp S0 σ0 _ ([Ch.ro 0 (Sl a29 x22.2.1 c30) x22.2.1] ++ [Ch.ro 0 (Sl a29 x22.2.1 c30) x22.2.1, Ch.ro 0 (Sl ax_0 x_0 cx_0) x_0]) from (H.sel' [0, 0, 1] rfl rfl))) (wanted_yes rfl (by exact (congrArg some hb21))) ?_
   rintro _ σ35 ⟨_, ⟨rfl, rfl⟩, H, -⟩
   replace H : Hp S0 σ0 σ35 [Ch.ro 0 (Sl a29 x22.2.1 c30) x22.2.1, Ch.ro 0 (Sl ax_0 x_0 cx_0) x_0] := H
   refine st_g (v := (B (r32 == 0))) (congrArg some hb21) (rv_eql (a := r32) (b := 0) rfl rfl) ?_
   refine st (v := (B (r32 == 0))) (rv_pick_t (congrArg B hb21) rfl) ?_
   refine st (v := (I o1)) (rv_assign rfl) ?_
   refine st (v := (B (r32 == 0))) (rv_assign rfl) ?_
   refine w_end ?_
   refine q_then ?_
   refine c_ret ?_
   obtain rfl := Option.some.inj h
   exact fin_ret (v := (.tuple #[(I o1), (B (r32 == 0))])) (results_ok Try.results74 (res_tmp (v := (I o1)) rfl (res_tmp (v := (B (r32 == 0))) rfl res_nil)) rfl) ⟨rfl, rfl⟩ (H.sel' [] rfl rfl)
  ·replace h := bif_f hb21 h
   refine st_skip (congrArg some hb21) ?_
   refine st_skip (congrArg some hb21) ?_
   refine st_skip (congrArg some hb21) ?_
   refine st_skip (congrArg some hb21) ?_
   refine st_skip (congrArg some hb21) ?_
   refine st_skip (congrArg some hb21) ?_
   refine st_skip (congrArg some hb21) ?_
   refine st_skip (congrArg some hb21) ?_
   refine st (v := (B false)) (rv_pick_f (congrArg B hb21) rfl) ?_
   refine st (v := (I o1)) (rv_assign rfl) ?_
   refine st (v := (B false)) (rv_assign rfl) ?_
   refine w_end ?_
   refine q_then ?_
   refine c_ret ?_
   obtain rfl := Option.some.inj h
   exact fin_ret (v := (.tuple #[(I o1), (B false)])) (results_ok Try.results74 (res_tmp (v := (I o1)) rfl (res_tmp (v := (B false)) rfl res_nil)) rfl) ⟨rfl, rfl⟩ (H.sel' [] rfl rfl)

theorem c_impl_placeOf {list_0 : List (Int × (List Int) × Int)} {key_1 : Int} {alist_0 : Option Addr} {clist_0 : Nat} {r : Int × Bool} (h : M.impl_placeOf list_0 key_1 = some r) :
    Cal2 Try.prog 48 [(Sl alist_0 list_0 clist_0), (I key_1)] [Ch.ro 0 (Sl alist_0 list_0 clist_0) list_0] (fun n0 v L => v = (.tuple #[(I r.1), (B r.2)]) ∧ L = []) := by
 refine cal2 (n := 11) Try.func48 rfl rfl rfl rfl ?_
 intro S0 σ0 n0 hn0 H
 unfold M.impl_placeOf at h
 refine c_seq ?_
 refine rg ?_
 refine st (v := (I 0)) (rv_assign rfl) ?_
 refine st (v := (B false)) (rv_assign rfl) ?_
 refine w_end ?_
 refine q_then ?_
 refine c_seq ?_
 refine rg ?_
 refine st (v := (Sl alist_0 list_0 clist_0)) (rv_move rfl) ?_
 refine st (v := (I key_1)) (rv_move rfl) ?_
 obtain ⟨r1, hx2, h'⟩ := bind_some h
 clear h
 have h := h'; clear h'
 have hc3 := c_slices_BinarySearchFunc_impl_Item_impl_Item_int__impl_placeOf_1 (ax_0 := alist_0) (cx_0 := clist_0) hx2
 refine st_call (cx_call hc3 (ent_f hc3.fn rfl) hn0 (show Hp S0 σ0 _ ([Ch.ro 0 (Sl alist_0 list_0 clist_0) list_0] ++ [Ch.ro 0 (Sl alist_0 list_0 clist_0) list_0]) from (H.sel' [0, 0] rfl rfl))) wn ?_
 rintro _ σ4 ⟨_, ⟨rfl, rfl⟩, H, -⟩
 replace H : Hp S0 σ0 σ4 [Ch.ro 0 (Sl alist_0 list_0 clist_0) list_0] := H
 refine st (v := (I r1.1)) (rv_extract rfl rfl) ?_
 refine st (v := (B r1.2)) (rv_extract rfl rfl) ?_
 refine st (v := (I r1.1)) (rv_assign rfl) ?_
 refine st (v := (B r1.2)) (rv_assign rfl) ?_
 refine w_end ?_
 refine q_then ?_
 refine c_ret ?_
 obtain rfl := Option.some.inj h
 exact fin_ret (v := (.tuple #[(I r1.1), (B r1.2)])) (results_ok Try.results48 (res_tmp (v := (I r1.1)) rfl (res_tmp (v := (B r1.2)) rfl res_nil)) rfl) ⟨rfl, rfl⟩ (H.sel' [] rfl rfl)

theorem c_slices_Clone_int_int {s_0 : List Int} {as_0 : Option Addr} {cs_0 : Nat} {r : (List Int)} (h : M.slices_Clone_int_int s_0 = some r) :
    Cal2 Try.prog 77 [(Sl as_0 s_0 cs_0)] [Ch.ro 0 (Sl as_0 s_0 cs_0) s_0] (fun n0 v L => ∃ (az1 : Option Addr), ∃ (cz2 : Nat), v = (Sl az1 r cz2) ∧ L = [Ch.own n0 n0 (Sl az1 r cz2) r]) := by
 refine cal2 (n := 8) Try.func77 rfl rfl rfl rfl ?_
 intro S0 σ0 n0 hn0 H
 unfold M.slices_Clone_int_int at h
 refine c_seq ?_
 refine rg ?_
 refine st (v := (.slice none 0 0)) (rv_assign rfl) ?_
 refine w_end ?_
 refine q_then ?_
 refine c_seq ?_
 refine c_seq ?_
 refine rg ?_
 refine st (v := (Sl as_0 s_0 cs_0)) (rv_move rfl) ?_
 refine st (v := (B as_0.isNone)) (rv_nilS Try.underlying24 rfl rfl) ?_
 refine w_end ?_
 refine q_then ?_
 refine cd_cond as_0.isNone rfl (fun hb1 => ?_) (fun hb1 => ?_)
 ·have hq := RS.nilOf hb1 (H.ro 0 rfl)
  subst hq
  replace h : some [] = some r := by simpa [gapp] using h
  refine c_seq ?_
  refine rg ?_
  refine st (v := (.slice none 0 0)) (rv_assign rfl) ?_
  refine w_end ?_
  refine q_then ?_
  refine c_ret ?_
  refine q_then_r ?_
  replace H := H.nilOwn Int n0 n0
  obtain rfl := Option.some.inj h
  exact fin_ret (v := (.slice none 0 0)) (results_ok Try.results77 (res_tmp (v := (.slice none 0 0)) rfl res_nil) rfl) ⟨none, 0, rfl, rfl⟩ (H.sel' [0] rfl rfl)
 ·refine c_skip ?_
  refine q_then ?_
  refine c_seq ?_
  refine rg ?_
  refine st_ex (ex_buildSlice (el := n0) (xs := ([] : List Int)) (ps := []) (cs := []) H hn0 Try.underlying24 ti3 rfl rfl (by kernel_rfl) (.nil) rfl) wn ?_
  rintro _ σ3 ⟨b2, rfl, H, -⟩
  refine st (v := (Sl as_0 s_0 cs_0)) (rv_move rfl) ?_
  obtain ⟨xs4, hx5, h'⟩ := bind_some h
  clear h
  have h := h'; clear h'
  refine st_ex (ex_append H (i := 0) rfl Try.underlying24 Try.underlying24 ti3 rfl rfl (by decide) ((H.ro 1 rfl).rd.sc) hx5 hn0 rfl rfl) wn ?_
  rintro _ σ8 ⟨a6, c7, rfl, H, -⟩
  refine st (v := (Sl a6 xs4 c7)) (rv_assign rfl) ?_
  refine w_end ?_
  refine q_then ?_
  refine c_ret ?_
  obtain rfl := Option.some.inj h
  exact fin_ret (v := (Sl a6 xs4 c7)) (results_ok Try.results77 (res_tmp (v := (Sl a6 xs4 c7)) rfl res_nil) rfl) ⟨a6, c7, rfl, rfl⟩ (H.sel' [0] rfl rfl)

theorem c_impl_copyItem {x_0 : Int × (List Int) × Int} {ax_0_1 : Option Addr} {cx_0_1 : Nat} {r : (Int × (List Int) × Int)} (h : M.impl_copyItem x_0 = some r) :
    Cal2 Try.prog 50 [(.agg #[(I x_0.1), (Sl ax_0_1 x_0.2.1 cx_0_1), (I x_0.2.2)])] [Ch.ro 0 (Sl ax_0_1 x_0.2.1 cx_0_1) x_0.2.1] (fun n0 v L => ∃ (az1 : Option Addr), ∃ (cz2 : Nat), v = (.agg #[(I r.1), (Sl az1 r.2.1 cz2), (I r.2.2)]) ∧ L = [Ch.own n0 n0 (Sl az1 r.2.1 cz2) r.2.1]) := by
 refine cal2 (n := 11) Try.func50 rfl rfl rfl rfl ?_
 intro S0 σ0 n0 hn0 H
 unfold M.impl_copyItem at h
 refine c_seq ?_
 refine rg ?_
 refine st_ex (ex_box (cs := [(I x_0.1), (Sl ax_0_1 x_0.2.1 cx_0_1), (I x_0.2.2)]) H hn0 rfl rfl) wn ?_
 rintro _ σ2 ⟨b1, rfl, H, -⟩
 refine st_ex (ex_alloc (cs := [(I 0), (.slice none 0 0), (I 0)]) H hn0 ti26 rfl) wn ?_
 rintro _ σ4 ⟨b3, rfl, H, -⟩
 refine w_end ?_
 refine q_then ?_
 refine c_seq ?_
 have hc5 := H.cell (u := (I x_0.1)) (o' := 0) 1 0 rfl rfl rfl
 have hc6 := H.cell (u := (Sl ax_0_1 x_0.2.1 cx_0_1)) (o' := 1) 1 1 rfl rfl rfl
 obtain ⟨r7, hx8, h'⟩ := bind_some h
 clear h
 have h := h'; clear h'
 have hc9 := c_slices_Clone_int_int (as_0 := ax_0_1) (cs_0 := cx_0_1) hx8
 have hc12 := H.cell (u := (I x_0.2.2)) (o' := 2) 1 2 rfl rfl rfl
 have Hs := H
 refine rg2 (σ := σ4) (Nm := (Option Addr) × (Nat)) 7 [4] [[false], [true]] [[(0, 0), (1, 1)], [(0, 0), (1, 1)], [(0, 0)], [(0, 0)], [(0, 1)], [(0, 0), (1, 1)], [(0, 0), (1, 1)]] 1 [fun ((a10, c11) : (Option Addr) × (Nat)) => fun σm => Hp S0 σ0 σm [Ch.bx n0 b3 0 [(I 0), (.slice none 0 0), (I 0)] [] [], Ch.bx n0 b1 0 [(I x_0.1), (Sl ax_0_1 x_0.2.1 cx_0_1), (I x_0.2.2)] [] [], Ch.ro 0 (Sl ax_0_1 x_0.2.1 cx_0_1) x_0.2.1] ∧ Md (cov []) σ4 σm, fun ((a10, c11) : (Option Addr) × (Nat)) => fun σm => Hp S0 σ0 σm [Ch.own n0 n0 (Sl a10 r7 c11) r7, Ch.bx n0 b3 0 [(I 0), (.slice none 0 0), (I 0)] [] [], Ch.bx n0 b1 0 [(I x_0.1), (Sl ax_0_1 x_0.2.1 cx_0_1), (I x_0.2.2)] [] [], Ch.ro 0 (Sl ax_0_1 x_0.2.1 cx_0_1) x_0.2.1] ∧ Md (cov []) σ4 σm] [fun ((a10, c11) : (Option Addr) × (Nat)) => (pt b1 0), fun ((a10, c11) : (Option Addr) × (Nat)) => (I x_0.1), fun ((a10, c11) : (Option Addr) × (Nat)) => (pt b1 1), fun ((a10, c11) : (Option Addr) × (Nat)) => (Sl ax_0_1 x_0.2.1 cx_0_1), fun ((a10, c11) : (Option Addr) × (Nat)) => (Sl a10 r7 c11), fun ((a10, c11) : (Option Addr) × (Nat)) => (pt b1 2), fun ((a10, c11) : (Option Addr) × (Nat)) => (I x_0.2.2)] (none, 0) (by kernel_rfl) (by kernel_rfl) ?_ ?_ ?_
 ·intro σm m0
  exact ⟨H.grow (m0.mono fun _ h => h.elim), m0⟩
 ·refine ac rfl (by
    intro k; rintro ⟨a10, c11⟩ ρ σm hJ hoff hdep
    have e1 := look_off (N := 11) (hoff 1 rfl) rfl
    exact dp_v (v := (pt b1 0)) wn (rv_fieldAddr (off := 0) (ft := 3) Try.underlying26 rfl ti3 rfl e1) rfl hJ) ?_
  refine all_cons (by
    refine ⟨?_, ?_⟩
    ·rintro ⟨a10, c11⟩ ρ σm hJ hoff hdep
     have e3 := hdep 0 rfl rfl 3 rfl
     obtain ⟨H, m⟩ := id hJ
     have hc5 := H.cell (u := (I x_0.1)) (o' := 0) 1 0 rfl rfl rfl
     exact dp_v (v := (I x_0.1)) wn (rv_load1 Try.underlying3 rfl e3 hc5) rfl hJ
    refine ⟨?_, ?_⟩
    ·rintro ⟨a10, c11⟩ ρ σm hJ hoff hdep
     have e3 := hdep 0 rfl rfl 3 rfl
     obtain ⟨H, m⟩ := id hJ
     have hc5 := H.cell (u := (I x_0.1)) (o' := 0) 2 0 rfl rfl rfl
     exact dp_v (v := (I x_0.1)) wn (rv_load1 Try.underlying3 rfl e3 hc5) rfl hJ
    trivial) ?_
  refine ac rfl (by
    intro k; rintro ⟨a10, c11⟩ ρ σm hJ hoff hdep
    have e1 := look_off (N := 11) (hoff 1 rfl) rfl
    exact dp_v (v := (pt b1 1)) wn (rv_fieldAddr (off := 1) (ft := 24) Try.underlying26 rfl ti24 rfl e1) rfl hJ) ?_
  refine all_cons (by
    refine ⟨?_, ?_⟩
    ·rintro ⟨a10, c11⟩ ρ σm hJ hoff hdep
     have e5 := hdep 2 rfl rfl 5 rfl
     obtain ⟨H, m⟩ := id hJ
     have hc6 := H.cell (u := (Sl ax_0_1 x_0.2.1 cx_0_1)) (o' := 1) 1 1 rfl rfl rfl
     exact dp_v (v := (Sl ax_0_1 x_0.2.1 cx_0_1)) wn (rv_load1 Try.underlying24 rfl e5 hc6) rfl hJ
    trivial) ?_
  refine all_cons (by
    refine ⟨?_, ?_⟩
    ·rintro ⟨a10, c11⟩ ρ σm hJ hoff hdep
     have e6 : look 11 ρ 6 = (Sl ax_0_1 x_0.2.1 cx_0_1) := hdep 3 rfl rfl 6 rfl
     obtain ⟨H, m⟩ := id hJ
     refine dp_cx wn (cx_call hc9 (ent_f hc9.fn (by show [look 11 ρ 6] = _; rw [e6])) hn0 (show Hp S0 σ0 _ ([Ch.ro 0 (Sl ax_0_1 x_0.2.1 cx_0_1) x_0.2.1] ++ [Ch.bx n0 b3 0 [(I 0), (.slice none 0 0), (I 0)] [] [], Ch.bx n0 b1 0 [(I x_0.1), (Sl ax_0_1 x_0.2.1 cx_0_1), (I x_0.2.2)] [] [], Ch.ro 0 (Sl ax_0_1 x_0.2.1 cx_0_1) x_0.2.1]) from (H.sel' [2, 0, 1, 2] rfl rfl))) ?_
     rintro _ σq ⟨_, ⟨a10x, c11x, rfl, rfl⟩, H2, m2⟩
     exact ⟨_, (a10x, c11x), rfl, rfl, ⟨H2.sel' [0, 1, 2, 3] rfl rfl, m.comp0 (m2.mono (fun i h => by simp [cov, Ch.ro] at h))⟩, stab [0, 1, 2, 3, 5, 6] (by kernel_rfl) ⟨rfl, rfl, rfl, rfl, rfl, rfl, trivial⟩⟩
    trivial) ?_
  refine ac rfl (by
    intro k; rintro ⟨a10, c11⟩ ρ σm hJ hoff hdep
    have e1 := look_off (N := 11) (hoff 1 rfl) rfl
    exact dp_v (v := (pt b1 2)) wn (rv_fieldAddr (off := 2) (ft := 3) Try.underlying26 rfl ti3 rfl e1) rfl hJ) ?_
  refine all_cons (by
    refine ⟨?_, ?_⟩
    ·rintro ⟨a10, c11⟩ ρ σm hJ hoff hdep
     have e8 := hdep 5 rfl rfl 8 rfl
     obtain ⟨H, m⟩ := id hJ
     have hc12 := H.cell (u := (I x_0.2.2)) (o' := 2) 1 2 rfl rfl rfl
     exact dp_v (v := (I x_0.2.2)) wn (rv_load1 Try.underlying3 rfl e8 hc12) rfl hJ
    refine ⟨?_, ?_⟩
    ·rintro ⟨a10, c11⟩ ρ σm hJ hoff hdep
     have e8 := hdep 5 rfl rfl 8 rfl
     obtain ⟨H, m⟩ := id hJ
     have hc12 := H.cell (u := (I x_0.2.2)) (o' := 2) 2 2 rfl rfl rfl
     exact dp_v (v := (I x_0.2.2)) wn (rv_load1 Try.underlying3 rfl e8 hc12) rfl hJ
    trivial) ?_
  exact all_nil
 ·rintro ⟨a10, c11⟩ ρ σ13 hJ hoff hrel
  have e2 := look_off (N := 11) (hoff 2 rfl) rfl
  have e4 := hrel 1 rfl 4 rfl
  have e7 := hrel 4 rfl 7 rfl
  have e9 := hrel 6 rfl 9 rfl
  obtain ⟨H, -⟩ := (show Hp S0 σ0 σ13 [Ch.own n0 n0 (Sl a10 r7 c11) r7, Ch.bx n0 b3 0 [(I 0), (.slice none 0 0), (I 0)] [] [], Ch.bx n0 b1 0 [(I x_0.1), (Sl ax_0_1 x_0.2.1 cx_0_1), (I x_0.2.2)] [] [], Ch.ro 0 (Sl ax_0_1 x_0.2.1 cx_0_1) x_0.2.1] ∧ Md (cov []) σ4 σ13 from hJ)
  clear hJ Hs
  rw [fr_lookL (L := [(2, (pt b3 0)), (4, (I x_0.1)), (7, (Sl a10 r7 c11)), (9, (I x_0.2.2))]) ⟨e2, e4, e7, e9, trivial⟩]
  clear hoff hrel e2 e4 e7 e9
  refine st (v := (.agg #[(I x_0.1), (Sl a10 r7 c11), (I x_0.2.2)])) (rv_build (ps := [(0, (I x_0.1)), (1, (Sl a10 r7 c11)), (2, (I x_0.2.2))]) Try.underlying26 ti26 (bp26 Try.underlying26) rfl (by kernel_rfl)) ?_
  refine st_exS (ex_store_box (k := 0) (cs := [(I 0), (.slice none 0 0), (I 0)]) (vs := [(I x_0.1), (Sl a10 r7 c11), (I x_0.2.2)]) (cs' := [(I x_0.1), (Sl a10 r7 c11), (I x_0.2.2)]) H (i := 1) rfl ti26 rfl rfl rfl rfl rfl (Nat.le_of_ble_eq_true rfl) (by simp [plain]) rfl) wn ?_
  rintro σ14 ⟨H, -⟩
  refine w_end ?_
  refine q_then ?_
  refine c_ret ?_
  obtain rfl := Option.some.inj h
  exact fin_ret (v := (.agg #[(I x_0.1), (Sl a10 r7 c11), (I x_0.2.2)])) (results_ok Try.results50 (res_cell rfl (run_cellRes (cs := [(I x_0.1), (Sl a10 r7 c11), (I x_0.2.2)]) Try.underlying26 rfl ti26 rfl (H.cells 0 rfl)) res_nil) rfl) ⟨a10, c11, rfl, rfl⟩ (H.sel' [1] rfl rfl)

theorem c_impl_copyItems {list_0 : List (Int × (List Int) × Int)} {alist_0 : Option Addr} {clist_0 : Nat} {r : (List (Int × (List Int) × Int))} (h : M.impl_copyItems list_0 = some r) :
    Cal2 Try.prog 49 [(Sl alist_0 list_0 clist_0)] [Ch.ro 0 (Sl alist_0 list_0 clist_0) list_0] (fun n0 v L => ∃ (az1 : Option Addr), ∃ (cz2 : Nat), ∃ (Kz3 : List Ch), v = (Sl az1 r cz2) ∧ L = [Ch.big Kz3] ∧ Dp 0 (Sl az1 r cz2) r Kz3 ∧ cz2 = r.length) := by
 refine cal2 (n := 23) Try.func49 rfl rfl rfl rfl ?_
 intro S0 σ0 n0 hn0 H
 unfold M.impl_copyItems at h
 refine c_seq ?_
 refine rg ?_
 refine st (v := (.slice none 0 0)) (rv_assign rfl) ?_
 refine w_end ?_
 refine q_then ?_
 refine c_seq ?_
 refine rg ?_
 refine st (v := (Sl alist_0 list_0 clist_0)) (rv_move rfl) ?_
 refine st (v := (I (list_0.length : Int))) (rv_len Try.underlying23 rfl) ?_
 obtain ⟨xs1, hx2, h'⟩ := bind_some h
 clear h
 have h := h'; clear h'
 obtain ⟨k7, he8, hv9⟩ := gmake_dp (zv := ((0, (.slice none 0 0), 0) : Int × Value × Int)) hx2
 refine st_ex (ex_make (el := n0) (z0 := ((0, (.slice none 0 0), 0) : Int × Value × Int)) (zs := [(I 0), (.slice none 0 0), (I 0)]) H hn0 Try.underlying23 ti26 rfl rfl (⟨[(I 0)], [(.slice none 0 0), (I 0)], rfl, rfl, ⟨[(.slice none 0 0)], [(I 0)], rfl, ⟨rfl, rfl⟩, rfl⟩⟩) (by decide) hv9 rfl rfl) wn ?_
 rintro _ σ13 ⟨b3, c4, rfl, ht5, H, -⟩
 have hs12 : (Sl (some ⟨b3, 0, none⟩) (List.replicate k7 ((0, (.slice none 0 0), 0) : Int × Value × Int)) c4) = (Sl (some ⟨b3, 0, none⟩) xs1 c4) := sl_len (by rw [he8]; simp)
 rw [hs12] at H ⊢
 obtain ⟨K10, hK11, H⟩ := H.dpMake (z := ((0, [], 0) : Int × List Int × Int)) rfl rfl
 rw [← he8] at hK11; clear he8 hv9 hs12
 replace ht5 := ht5.trans (gmake_len hx2).symm
 refine st (v := (Sl (some ⟨b3, 0, none⟩) xs1 c4)) (rv_assign rfl) ?_
 refine w_end ?_
 refine q_then ?_
 refine c_seq ?_
 refine c_seq ?_
 refine rg ?_
 refine st (v := (Sl alist_0 list_0 clist_0)) (rv_move rfl) ?_
 refine st (v := (I (list_0.length : Int))) (rv_len Try.underlying23 rfl) ?_
 refine st (v := (I 0)) (rv_move rfl) ?_
 refine w_end ?_
 refine q_then ?_
 obtain ⟨o14, hj, h'⟩ := bind_some h
 clear h
 refine c_cut (fun e a w => e = .normal ∧ ∃ (ρ : Nat → Value) (σ : St) (Kj1 : List Ch), a = fr 23 (updL ρ [(3, (Sl (some ⟨b3, 0, none⟩) o14 c4))]) ∧ w = σ.w ∧ Hp S0 σ0 σ [Ch.big Kj1] ∧ Dp n0 (Sl (some ⟨b3, 0, none⟩) o14 c4) o14 Kj1 ∧ c4 = o14.length ∧ o14.length = xs1.length) ?_ ?_
 ·clear h'
  rename _ = some o14 => h
  refine c_blk ?_
  refine wp_loopM _ h (fun s15 a w => ∃ (ρ : Nat → Value) (σ : St) (Kj1 : List Ch), a = fr 23 (updL ρ [(3, (Sl (some ⟨b3, 0, none⟩) s15.1 c4)), (9, (Sl alist_0 list_0 clist_0)), (10, (I (list_0.length : Int))), (11, (I s15.2))]) ∧ w = σ.w ∧ Hp S0 σ0 σ [Ch.big Kj1, Ch.ro 0 (Sl alist_0 list_0 clist_0) list_0] ∧ Dp n0 (Sl (some ⟨b3, 0, none⟩) s15.1 c4) s15.1 Kj1 ∧ c4 = s15.1.length ∧ s15.1.length = xs1.length) ⟨_, σ13, K10, fr_join ⟨rfl, rfl, rfl, rfl, trivial⟩, rfl, H.sel' [0, 1] rfl rfl, hK11, ht5, rfl⟩ ?_
  clear h H
  rintro s15 a w o ⟨ρ, σ16, K17, rfl, rfl, H, hK18, ht19, hn20⟩ h hres
  refine c_seq ?_
  refine rg ?_
  refine st (v := (B (decide (s15.2 < (list_0.length : Int))))) (rv_lss (a := s15.2) (b := (list_0.length : Int)) rfl rfl) ?_
  refine w_end ?_
  refine q_then ?_
  refine c_seq ?_
  refine cd_cond (decide (s15.2 < (list_0.length : Int))) rfl (fun hb21 => ?_) (fun hb21 => ?_)
  ·replace h := bif_t hb21 h
   refine c_skip ?_
   refine q_then ?_
   refine c_seq ?_
   refine c_blk ?_
   refine c_seq ?_
   refine rg ?_
   refine st (v := (I s15.2)) (rv_move rfl) ?_
   obtain ⟨x22, hx23, h'⟩ := bind_some h
   clear h
   have h := h'; clear h'
   obtain ⟨b25, o26, hi24, -⟩ := (H.ro 1 rfl).ix hx23
   refine st (v := (pt b25 o26)) (rv_ix Try.underlying23 ti26 rfl rfl hi24) ?_
   obtain ⟨_, ⟨_, _, rfl, rfl, ⟨_, _, rfl, ⟨_, rfl, hR31⟩, rfl⟩⟩, hl27, hc28⟩ := ((H.ro 1 rfl).at hx23 hi24).cells
   obtain ⟨a29, c30, rfl⟩ := hR31.isSl
   replace H := H.add (d := Ch.ro 0 (Sl a29 x22.2.1 c30) x22.2.1) hR31 (fun _ h => h)
   clear hR31
   refine st (v := (.agg #[(I x22.1), (Sl a29 x22.2.1 c30), (I x22.2.2)])) (rv_load Try.underlying26 rfl ti26 rfl hl27 hc28) ?_
   refine st_ex (ex_alloc (cs := [(I 0), (.slice none 0 0), (I 0)]) H hn0 ti26 rfl) wn ?_
   rintro _ σ33 ⟨b32, rfl, H, -⟩
   refine st (v := (I s15.2)) (rv_assign rfl) ?_
   refine st_exS (ex_store_box (k := 0) (cs := [(I 0), (.slice none 0 0), (I 0)]) (vs := [(I x22.1), (Sl a29 x22.2.1 c30), (I x22.2.2)]) (cs' := [(I x22.1), (Sl a29 x22.2.1 c30), (I x22.2.2)]) H (i := 0) rfl ti26 rfl rfl rfl rfl rfl (Nat.le_of_ble_eq_true rfl) (by simp [plain]) rfl) wn ?_
   rintro σ34 ⟨H, -⟩
   refine w_end ?_
   refine q_then ?_
   refine rg ?_
   refine st (v := (Sl (some ⟨b3, 0, none⟩) s15.1 c4)) (rv_move rfl) ?_
   refine st (v := (I s15.2)) (rv_move rfl) ?_
   have hc35 := H.cells 0 rfl
   refine st (v := (.agg #[(I x22.1), (Sl a29 x22.2.1 c30), (I x22.2.2)])) (rv_load (cs := [(I x22.1), (Sl a29 x22.2.1 c30), (I x22.2.2)]) Try.underlying26 rfl ti26 rfl rfl hc35) ?_
   obtain ⟨r36, hx37, h'⟩ := bind_some h
   clear h
   have h := h'; clear h'
   have hc38 := c_impl_copyItem (ax_0_1 := a29) (cx_0_1 := c30) hx37
   refine st_call (cx_call hc38 (ent_f hc38.fn rfl) hn0 (show Hp S0 σ0 _ ([Ch.ro 0 (Sl a29 x22.2.1 c30) x22.2.1] ++ [Ch.bx n0 b32 0 [(I x22.1), (Sl a29 x22.2.1 c30), (I x22.2.2)] [] [], Ch.ro 0 (Sl a29 x22.2.1 c30) x22.2.1, Ch.big K17, Ch.ro 0 (Sl alist_0 list_0 clist_0) list_0]) from (H.sel' [1, 0, 1, 2, 3] rfl rfl))) wn ?_
   rintro _ σ41 ⟨_, ⟨a39, c40, rfl, rfl⟩, H, -⟩
   replace H : Hp S0 σ0 σ41 [Ch.own n0 n0 (Sl a39 r36.2.1 c40) r36.2.1, Ch.bx n0 b32 0 [(I x22.1), (Sl a29 x22.2.1 c30), (I x22.2.2)] [] [], Ch.ro 0 (Sl a29 x22.2.1 c30) x22.2.1, Ch.big K17, Ch.ro 0 (Sl alist_0 list_0 clist_0) list_0] := H
   obtain ⟨x42, hx43, h'⟩ := bind_some h
   clear h
   have h := h'; clear h'
   obtain ⟨b45, o46, hi44⟩ := H.dpIx 3 rfl hK18 hx43
   refine st (v := (pt b45 o46)) (rv_ix Try.underlying23 ti26 rfl rfl hi44) ?_
   obtain ⟨v47, K48, H, hK49⟩ := H.dpOut 3 rfl hK18 hx43
   replace H := H.tail
   replace H := H.sel' [0, 1, 2, 3, 4] rfl rfl
   obtain ⟨K50, hK51, he52⟩ := hK49.put ((r36.1, r36.2.1, r36.2.2) : Int × (List Int) × Int) (Sl a39 r36.2.1 c40)
   refine st_exS (he52 (ty := _) (k := 0) (vs := [(I r36.1), (Sl a39 r36.2.1 c40), (I r36.2.2)]) H ti26 hi44 rfl rfl rfl rfl rfl (Nat.le_of_ble_eq_true rfl) (by simp [plain]) (by rintro _ _ ⟨_, _, rfl, rfl, ⟨_, _, rfl, ⟨rfl, -⟩, rfl⟩⟩; exact ⟨[(I r36.1)], [(Sl a39 r36.2.1 c40), (I r36.2.2)], rfl, rfl, ⟨[(Sl a39 r36.2.1 c40)], [(I r36.2.2)], rfl, ⟨rfl, rfl⟩, rfl⟩⟩)) wn ?_
   rintro σ53 ⟨H, -⟩
   have hsl : (Sl (some ⟨b3, 0, none⟩) s15.1 c4) = (Sl (some ⟨b3, 0, none⟩) (s15.1.set s15.2.toNat (r36.1, r36.2.1, r36.2.2)) c4) := sl_len List.length_set.symm
   rw [hsl]; rw [hsl] at hK51; clear hsl
   refine w_end ?_
   refine q_blk ?_
   refine q_then ?_
   refine rg ?_
   refine st (v := (I (w64 (s15.2 + 1)))) (rv_add (a := s15.2) (b := 1) rfl rfl) ?_
   refine st (v := (I (w64 (s15.2 + 1)))) (rv_move rfl) ?_
   refine w_end ?_
   refine q_then ?_
   obtain rfl := Option.some.inj h
   exact ⟨_, rfl, _, σ53, K50, fr_join ⟨rfl, rfl, rfl, rfl, trivial⟩, rfl, H.sel' [0, 3] rfl rfl, hK51, (ht19.trans List.length_set.symm), (List.length_set.trans hn20)⟩
  ·replace h := bif_f hb21 h
   refine c_exit ?_
   refine q_then_x ?_
   refine q_then_x ?_
   refine q_blk_hit ?_
   obtain rfl := Option.some.inj h
   obtain rfl := hres _ rfl
   exact ⟨rfl, _, σ16, K17, fr_join ⟨rfl, trivial⟩, rfl, H.sel' [0] rfl rfl, hK18, ht19, hn20⟩
 ·clear hj
  have h := h'
  clear h' H
  rintro e a w ⟨rfl, ρ, σ54, K55, rfl, rfl, H, hK56, ht57, hn58⟩
  refine q_then ?_
  refine c_seq ?_
  refine rg ?_
  refine st (v := (Sl (some ⟨b3, 0, none⟩) o14 c4)) (rv_move rfl) ?_
  refine st (v := (Sl (some ⟨b3, 0, none⟩) o14 c4)) (rv_assign rfl) ?_
  refine w_end ?_
  refine q_then ?_
  refine c_ret ?_
  obtain ⟨K59, hK60, H⟩ := H.dpLow (lo' := 0) 0 rfl hK56 (Nat.zero_le _)
  obtain rfl := Option.some.inj h
  exact fin_ret (v := (Sl (some ⟨b3, 0, none⟩) o14 c4)) (results_ok Try.results49 (res_tmp (v := (Sl (some ⟨b3, 0, none⟩) o14 c4)) rfl res_nil) rfl) ⟨(some ⟨b3, 0, none⟩), c4, K59, rfl, rfl, hK60, ht57⟩ (H.sel' [0] rfl rfl)

theorem c_slices_Delete_impl_Item_impl_Item_sh {s_0 : List (Int × Value × Int)} {i_1 : Int} {j_2 : Int} {as_0 : Option Addr} {cs_0 : Nat} {r : (List (Int × Value × Int))} (h : gdel s_0 i_1 j_2 = some r) :
    Cal2 Try.prog 65 [(Sl as_0 s_0 cs_0), (I i_1), (I j_2)] [Ch.own 0 0 (Sl as_0 s_0 cs_0) s_0] (fun n0 v L => ∃ (az1 : Option Addr), ∃ (cz2 : Nat), v = (Sl az1 r cz2) ∧ L = [Ch.own 0 0 (Sl az1 r cz2) r]) := by
 refine cal2 (n := 33) Try.func65 rfl rfl rfl rfl ?_
 intro S0 σ0 n0 hn0 H
 unfold gdel at h
 refine c_seq ?_
 refine rg ?_
 refine st (v := (.slice none 0 0)) (rv_assign rfl) ?_
 refine w_end ?_
 refine q_then ?_
 refine c_seq ?_
 refine rg ?_
 refine st (v := (Sl as_0 s_0 cs_0)) (rv_move rfl) ?_
 refine st (v := (I i_1)) (rv_move rfl) ?_
 refine st (v := (I j_2)) (rv_move rfl) ?_
 refine st (v := (Sl as_0 s_0 cs_0)) (rv_move rfl) ?_
 refine st (v := (I (s_0.length : Int))) (rv_len Try.underlying23 rfl) ?_
 obtain ⟨o1, hx2, h'⟩ := bind_some h
 clear h
 have h := h'; clear h'
 refine st (v := (.slice (if ((s_0.length : Int)).toNat = (i_1).toNat then as_0 else (as_0).map (·.add ((i_1).toNat * 3))) ((j_2).toNat - (i_1).toNat) (((s_0.length : Int)).toNat - (i_1).toNat))) (rv_slice3 Try.underlying23 ti26 hx2 (H.own 0 rfl).cap rfl rfl rfl rfl) ?_
 refine w_end ?_
 refine q_then ?_
 refine c_seq ?_
 refine c_seq ?_
 refine rg ?_
 refine st (v := (I i_1)) (rv_move rfl) ?_
 refine st (v := (I j_2)) (rv_move rfl) ?_
 refine st (v := (B (i_1 == j_2))) (rv_eql (a := i_1) (b := j_2) rfl rfl) ?_
 refine w_end ?_
 refine q_then ?_
 refine cd_cond (i_1 == j_2) rfl (fun hb3 => ?_) (fun hb3 => ?_)
 ·replace h := bif_t hb3 h
  refine c_seq ?_
  refine rg ?_
  refine st (v := (Sl as_0 s_0 cs_0)) (rv_move rfl) ?_
  refine st (v := (Sl as_0 s_0 cs_0)) (rv_assign rfl) ?_
  refine w_end ?_
  refine q_then ?_
  refine c_ret ?_
  refine q_then_r ?_
  obtain rfl := Option.some.inj h
  exact fin_ret (v := (Sl as_0 s_0 cs_0)) (results_ok Try.results65 (res_tmp (v := (Sl as_0 s_0 cs_0)) rfl res_nil) rfl) ⟨as_0, cs_0, rfl, rfl⟩ (H.sel' [0] rfl rfl)
 ·replace h := bif_f hb3 h
  refine c_skip ?_
  refine q_then ?_
  refine c_seq ?_
  refine rg ?_
  refine st (v := (Sl as_0 s_0 cs_0)) (rv_move rfl) ?_
  refine st (v := (I (s_0.length : Int))) (rv_len Try.underlying23 rfl) ?_
  refine st (v := (I (s_0.length : Int))) (rv_assign rfl) ?_
  refine w_end ?_
  refine q_then ?_
  refine c_seq ?_
  refine rgP (σ := σ0) 6 (by kernel_rfl) (by kernel_rfl) (by kernel_rfl) ?_
  refine sq (v := (Sl as_0 s_0 cs_0)) (rv_move rfl) ?_
  refine sq (v := (I i_1)) (rv_move rfl) ?_
  obtain ⟨xs4, hx5, h'⟩ := bind_some h
  clear h
  have h := h'; clear h'
  obtain ⟨a6, c7, hs8, -⟩ := (H.own 0 rfl).slice hx5
  refine sq (v := (Sl a6 xs4 c7)) (rv_slice_h Try.underlying23 ti26 hs8 rfl rfl) ?_
  refine sq (v := (Sl as_0 s_0 cs_0)) (rv_move rfl) ?_
  refine sq (v := (I j_2)) (rv_move rfl) ?_
  obtain ⟨xs10, hx11, h'⟩ := bind_some h
  clear h
  have h := h'; clear h'
  obtain ⟨a12, c13, hs14, -⟩ := (H.own 0 rfl).slice hx11
  refine sq (v := (Sl a12 xs10 c13)) (rv_slice_l Try.underlying23 ti26 hs14 rfl rfl) ?_
  refine sq_end ?_
  intro σ16 hm17
  replace H := H.grow (hm17.mono fun _ h => h); clear hm17
  obtain ⟨xs18, hx19, h'⟩ := bind_some h
  clear h
  have h := h'; clear h'
  refine st_ex (ex_appV H (i := 0) rfl Try.underlying23 Try.underlying23 ti26 rfl rfl (by decide) hx5 hs8 ((H.own 0 rfl).view hx11 hs14).1.rd hx19 (Nat.zero_le _) rfl rfl) wn ?_
  rintro _ σ23 ⟨a20, c21, rfl, H, -, hf22⟩
  refine st (v := (Sl a20 xs18 c21)) (rv_assign rfl) ?_
  refine w_end ?_
  refine q_then ?_
  refine c_seq ?_
  refine rg ?_
  refine st (v := (Sl a20 xs18 c21)) (rv_move rfl) ?_
  refine st (v := (Sl a20 xs18 c21)) (rv_move rfl) ?_
  refine st (v := (I (xs18.length : Int))) (rv_len Try.underlying23 rfl) ?_
  refine st (v := (I (s_0.length : Int))) (rv_move rfl) ?_
  have hd30 := del_room hx5 hx11 (gthree_some hx2).2.1 hx19 hs8 hf22
  refine st (v := (.slice (if c21 = xs18.length then a20 else (a20).map (·.add (xs18.length * 3))) (s_0.length - xs18.length) (c21 - xs18.length))) (rv_sliceX (m0 := xs18.length) (k0 := s_0.length) Try.underlying23 ti26 hd30.1 hd30.2 rfl rfl rfl) ?_
  refine st_ex0 (ex_clearX (k0 := s_0.length) H (i := 0) rfl Try.underlying23 ti26 rfl rfl (by simp [plain, Value.cells]) hd30.1 hd30.2 rfl) wn ?_
  rintro _ σ31 ⟨rfl, H, -⟩
  refine w_end ?_
  refine q_then ?_
  refine c_seq ?_
  refine rg ?_
  refine st (v := (Sl a20 xs18 c21)) (rv_move rfl) ?_
  refine st (v := (Sl a20 xs18 c21)) (rv_assign rfl) ?_
  refine w_end ?_
  refine q_then ?_
  refine c_ret ?_
  obtain rfl := Option.some.inj h
  exact fin_ret (v := (Sl a20 xs18 c21)) (results_ok Try.results65 (res_tmp (v := (Sl a20 xs18 c21)) rfl res_nil) rfl) ⟨a20, c21, rfl, rfl⟩ (H.sel' [0] rfl rfl)

theorem c_slices_Delete_impl_Item_impl_Item {s_0 : List (Int × (List Int) × Int)} {i_1 : Int} {j_2 : Int} {as_0 : Option Addr} {cs_0 : Nat} {lo : Nat} {K : List Ch} (hK : Dp lo (Sl as_0 s_0 cs_0) s_0 K) {r : (List (Int × (List Int) × Int))} (h : M.delItemD s_0 i_1 j_2 = some r) :
    Cal2 Try.prog 65 [(Sl as_0 s_0 cs_0), (I i_1), (I j_2)] [Ch.big K] (fun n0 v L => ∃ (az1 : Option Addr), ∃ (cz2 : Nat), ∃ (K : List Ch), v = (Sl az1 r cz2) ∧ L = [Ch.big K] ∧ Dp 0 (Sl az1 r cz2) r K) := by
 obtain ⟨a, b, rfl, rfl, h1, h2, h3, rfl⟩ := delItemD_some h
 obtain ⟨ps, rfl, rfl⟩ := hK.ex
 rw [List.length_map] at h2 h3
 have hc := c_slices_Delete_impl_Item_impl_Item_sh (as_0 := as_0) (cs_0 := cs_0) (gdel_ok (s := ps.map (dsh : (Int × (List Int) × Int) × Value → Int × Value × Int)) h1 (by rw [List.length_map]; exact h2) (by rw [List.length_map]; exact h3))
 rw [← List.map_take, ← List.map_drop, ← List.map_append, sl_len (ys := ps.map (fun p : (Int × (List Int) × Int) × Value => p.1)) (by simp)] at hc
 rw [← List.map_take, ← List.map_drop, ← List.map_append]
 exact hc.dpSub (takedrop_chs h1)


theorem c_impl_DropItemD {list_0 : List (Int × (List Int) × Int)} {key_1 : Int} {alist_0 : Option Addr} {clist_0 : Nat} {r : (List (Int × (List Int) × Int)) × Bool} (h : M.impl_DropItemD list_0 key_1 = some r) :
    Cal2 Try.prog 37 [(Sl alist_0 list_0 clist_0), (I key_1)] [Ch.ro 0 (Sl alist_0 list_0 clist_0) list_0] (fun n0 v L => ∃ (az1 : Option Addr), ∃ (cz2 : Nat), ∃ (Kz3 : List Ch), v = (.tuple #[(Sl az1 r.1 cz2), (B r.2)]) ∧ L = [Ch.big Kz3] ∧ Dp 0 (Sl az1 r.1 cz2) r.1 Kz3) := by
 refine cal2 (n := 25) Try.func37 rfl rfl rfl rfl ?_
 intro S0 σ0 n0 hn0 H
 unfold M.impl_DropItemD at h
 refine c_seq ?_
 refine rg ?_
 refine st (v := (.slice none 0 0)) (rv_assign rfl) ?_
 refine st (v := (B false)) (rv_assign rfl) ?_
 refine w_end ?_
 refine q_then ?_
 refine c_seq ?_
 refine c_seq ?_
 refine rg ?_
 refine st (v := (Sl alist_0 list_0 clist_0)) (rv_move rfl) ?_
 obtain ⟨r1, hx2, h'⟩ := bind_some h
 clear h
 have h := h'; clear h'
 have hc3 := c_impl_ValidStore (alist_0 := alist_0) (clist_0 := clist_0) hx2
 refine st_call (cx_call hc3 (ent_f hc3.fn rfl) hn0 (show Hp S0 σ0 _ ([Ch.ro 0 (Sl alist_0 list_0 clist_0) list_0] ++ [Ch.ro 0 (Sl alist_0 list_0 clist_0) list_0]) from (H.sel' [0, 0] rfl rfl))) wn ?_
 rintro _ σ4 ⟨_, ⟨rfl, rfl⟩, H, -⟩
 replace H : Hp S0 σ0 σ4 [Ch.ro 0 (Sl alist_0 list_0 clist_0) list_0] := H
 refine st (v := (B (!r1))) (rv_not rfl) ?_
 refine w_end ?_
 refine q_then ?_
 refine cd_cond (!r1) rfl (fun hb5 => ?_) (fun hb5 => ?_)
 ·replace h := bif_t hb5 h
  refine c_seq ?_
  refine rg ?_
  refine st (v := (.slice none 0 0)) (rv_assign rfl) ?_
  refine st (v := (B false)) (rv_assign rfl) ?_
  refine w_end ?_
  refine q_then ?_
  refine c_ret ?_
  refine q_then_r ?_
  obtain ⟨K6, hK7, H⟩ := H.nilDp (Int × (List Int) × Int) 0
  obtain rfl := Option.some.inj h
  exact fin_ret (v := (.tuple #[(.slice none 0 0), (B false)])) (results_ok Try.results37 (res_tmp (v := (.slice none 0 0)) rfl (res_tmp (v := (B false)) rfl res_nil)) rfl) ⟨none, 0, K6, rfl, rfl, hK7⟩ (H.sel' [0] rfl rfl)
 ·replace h := bif_f hb5 h
  refine c_skip ?_
  refine q_then ?_
  refine c_seq ?_
  refine rg ?_
  refine st (v := (Sl alist_0 list_0 clist_0)) (rv_move rfl) ?_
  refine st (v := (I key_1)) (rv_move rfl) ?_
  obtain ⟨r8, hx9, h'⟩ := bind_some h
  clear h
  have h := h'; clear h'
  have hc10 := c_impl_placeOf (alist_0 := alist_0) (clist_0 := clist_0) hx9
  refine st_call (cx_call hc10 (ent_f hc10.fn rfl) hn0 (show Hp S0 σ0 _ ([Ch.ro 0 (Sl alist_0 list_0 clist_0) list_0] ++ [Ch.ro 0 (Sl alist_0 list_0 clist_0) list_0]) from (H.sel' [0, 0] rfl rfl))) wn ?_
  rintro _ σ11 ⟨_, ⟨rfl, rfl⟩, H, -⟩
  replace H : Hp S0 σ0 σ11 [Ch.ro 0 (Sl alist_0 list_0 clist_0) list_0] := H
  refine st (v := (.tuple #[(I r8.1), (B r8.2)])) (rv_move rfl) ?_
  refine st (v := (I r8.1)) (rv_extract rfl rfl) ?_
  refine st (v := (B r8.2)) (rv_extract rfl rfl) ?_
  refine st (v := (I r8.1)) (rv_assign rfl) ?_
  refine st (v := (B r8.2)) (rv_assign rfl) ?_
  refine w_end ?_
  refine q_then ?_
  refine c_seq ?_
  refine c_seq ?_
  refine rg ?_
  refine st (v := (B r8.2)) (rv_move rfl) ?_
  refine st (v := (B (!r8.2))) (rv_not rfl) ?_
  refine w_end ?_
  refine q_then ?_
  refine cd_cond (!r8.2) rfl (fun hb12 => ?_) (fun hb12 => ?_)
  ·replace h := bif_t hb12 h
   refine c_seq ?_
   refine rg ?_
   refine st (v := (.slice none 0 0)) (rv_assign rfl) ?_
   refine st (v := (B false)) (rv_assign rfl) ?_
   refine w_end ?_
   refine q_then ?_
   refine c_ret ?_
   refine q_then_r ?_
   obtain ⟨K13, hK14, H⟩ := H.nilDp (Int × (List Int) × Int) 0
   obtain rfl := Option.some.inj h
   exact fin_ret (v := (.tuple #[(.slice none 0 0), (B false)])) (results_ok Try.results37 (res_tmp (v := (.slice none 0 0)) rfl (res_tmp (v := (B false)) rfl res_nil)) rfl) ⟨none, 0, K13, rfl, rfl, hK14⟩ (H.sel' [0] rfl rfl)
  ·replace h := bif_f hb12 h
   refine c_skip ?_
   refine q_then ?_
   refine c_seq ?_
   refine rg ?_
   refine st (v := (Sl alist_0 list_0 clist_0)) (rv_move rfl) ?_
   obtain ⟨r15, hx16, h'⟩ := bind_some h
   clear h
   have h := h'; clear h'
   have hc17 := c_impl_copyItems (alist_0 := alist_0) (clist_0 := clist_0) hx16
   refine st_call (cx_call hc17 (ent_f hc17.fn rfl) hn0 (show Hp S0 σ0 _ ([Ch.ro 0 (Sl alist_0 list_0 clist_0) list_0] ++ [Ch.ro 0 (Sl alist_0 list_0 clist_0) list_0]) from (H.sel' [0, 0] rfl rfl))) wn ?_
   rintro _ σ23 ⟨_, ⟨a18, c19, K20, rfl, rfl, hK21, ht22⟩, H, -⟩
   replace H : Hp S0 σ0 σ23 [Ch.big K20, Ch.ro 0 (Sl alist_0 list_0 clist_0) list_0] := H
   refine st (v := (I r8.1)) (rv_move rfl) ?_
   refine st (v := (I r8.1)) (rv_move rfl) ?_
   refine st (v := (I (w64 (r8.1 + 1)))) (rv_add (a := r8.1) (b := 1) rfl rfl) ?_
   obtain ⟨r24, hx25, h'⟩ := bind_some h
   clear h
   have h := h'; clear h'
   have hc26 := c_slices_Delete_impl_Item_impl_Item (as_0 := a18) (cs_0 := c19) (hK := hK21) hx25
   refine st_call (cx_call hc26 (ent_f hc26.fn rfl) hn0 (show Hp S0 σ0 _ ([Ch.big K20] ++ [Ch.ro 0 (Sl alist_0 list_0 clist_0) list_0]) from (H.sel' [0, 1] rfl rfl))) wn ?_
   rintro _ σ31 ⟨_, ⟨a27, c28, K29, rfl, rfl, hK30⟩, H, -⟩
   replace H : Hp S0 σ0 σ31 [Ch.big K29, Ch.ro 0 (Sl alist_0 list_0 clist_0) list_0] := H
   refine st (v := (Sl a27 r24 c28)) (rv_assign rfl) ?_
   refine st (v := (B true)) (rv_assign rfl) ?_
   refine w_end ?_
   refine q_then ?_
   refine c_ret ?_
   obtain rfl := Option.some.inj h
   exact fin_ret (v := (.tuple #[(Sl a27 r24 c28), (B true)])) (results_ok Try.results37 (res_tmp (v := (Sl a27 r24 c28)) rfl (res_tmp (v := (B true)) rfl res_nil)) rfl) ⟨a27, c28, K29, rfl, rfl, hK30⟩ (H.sel' [0] rfl rfl)

theorem c_laws_FnExactDropItem {aList_0 : List (Int × (List Int) × Int)} {aKey_1 : Int} {aaList_0 : Option Addr} {caList_0 : Nat} {r : Bool} (h : M.laws_FnExactDropItem aList_0 aKey_1 = some r) :
    Cal2 Try.prog 9 [(Sl aaList_0 aList_0 caList_0), (I aKey_1)] [Ch.ro 0 (Sl aaList_0 aList_0 caList_0) aList_0] (fun n0 v L => v = (B r) ∧ L = []) := by
 refine cal2 (n := 101) Try.func9 rfl rfl rfl rfl ?_
 intro S0 σ0 n0 hn0 H
 unfold M.laws_FnExactDropItem at h
 refine c_seq ?_
 refine rg ?_
 refine st (v := (B false)) (rv_assign rfl) ?_
 refine w_end ?_
 refine q_then ?_
 refine c_seq ?_
 refine rg ?_
 refine st (v := (I 1048576)) (rv_assign rfl) ?_
 refine w_end ?_
 refine q_then ?_
 refine c_seq ?_
 refine rg ?_
 refine st (v := (Sl aaList_0 aList_0 caList_0)) (rv_move rfl) ?_
 refine st (v := (I 1048576)) (rv_move rfl) ?_
 obtain ⟨r1, hx2, h'⟩ := bind_some h
 clear h
 have h := h'; clear h'
 have hc3 := c_laws_szItemS (aa_0 := aaList_0) (ca_0 := caList_0) hx2
 refine st_call (cx_call hc3 (ent_f hc3.fn rfl) hn0 (show Hp S0 σ0 _ ([Ch.ro 0 (Sl aaList_0 aList_0 caList_0) aList_0] ++ [Ch.ro 0 (Sl aaList_0 aList_0 caList_0) aList_0]) from (H.sel' [0, 0] rfl rfl))) wn ?_
 rintro _ σ4 ⟨_, ⟨rfl, rfl⟩, H, -⟩
 replace H : Hp S0 σ0 σ4 [Ch.ro 0 (Sl aaList_0 aList_0 caList_0) aList_0] := H
 refine st (v := (I r1)) (rv_assign rfl) ?_
 refine w_end ?_
 refine q_then ?_
 refine c_seq ?_
 refine c_seq ?_
 refine rg ?_
 refine st (v := (I r1)) (rv_move rfl) ?_
 refine st (v := (B (decide (r1 < 0)))) (rv_lss (a := r1) (b := 0) rfl rfl) ?_
 refine w_end ?_
 refine q_then ?_
 refine cd_cond (decide (r1 < 0)) rfl (fun hb5 => ?_) (fun hb5 => ?_)
 ·replace h := bif_t hb5 h
  refine c_seq ?_
  refine rg ?_
  refine st (v := (B true)) (rv_assign rfl) ?_
  refine w_end ?_
  refine q_then ?_
  refine c_ret ?_
  refine q_then_r ?_
  obtain rfl := Option.some.inj h
  exact fin_ret (v := (B true)) (results_ok Try.results9 (res_tmp (v := (B true)) rfl res_nil) rfl) ⟨rfl, rfl⟩ (H.sel' [] rfl rfl)
 ·replace h := bif_f hb5 h
  refine c_skip ?_
  refine q_then ?_
  refine c_seq ?_
  refine rg ?_
  refine st (v := (Sl aaList_0 aList_0 caList_0)) (rv_move rfl) ?_
  obtain ⟨r6, hx7, h'⟩ := bind_some h
  clear h
  have h := h'; clear h'
  have hc8 := c_laws_toItemS (aa_0 := aaList_0) (ca_0 := caList_0) hx7
  refine st_call (cx_call hc8 (ent_f hc8.fn rfl) hn0 (show Hp S0 σ0 _ ([Ch.ro 0 (Sl aaList_0 aList_0 caList_0) aList_0] ++ [Ch.ro 0 (Sl aaList_0 aList_0 caList_0) aList_0]) from (H.sel' [0, 0] rfl rfl))) wn ?_
  rintro _ σ13 ⟨_, ⟨a9, c10, K11, rfl, rfl, hK12⟩, H, -⟩
  replace H : Hp S0 σ0 σ13 [Ch.big K11, Ch.ro 0 (Sl aaList_0 aList_0 caList_0) aList_0] := H
  refine st (v := (I aKey_1)) (rv_move rfl) ?_
  obtain ⟨r14, hx15, h'⟩ := bind_some h
  clear h
  have h := h'; clear h'
  have hc16 := c_spec_DropItem (alist_0 := a9) (clist_0 := c10) hx15
  have hle := Nat.le_trans hn0 H.size
  refine st_call (cx_lend (Loan.lendB hK12.lends Loan.nil) hc16 (ent_f hc16.fn rfl) (show Hp S0 σ0 _ ([Ch.big K11] ++ ([] ++ [Ch.ro 0 (Sl aaList_0 aList_0 caList_0) aList_0])) from (H.sel' [0, 1] rfl rfl)) (by rintro _ _ _ ⟨_, _, rfl, rfl⟩; exact ⟨Ab.own (Nat.le_refl _), trivial⟩)) wn ?_
  rintro _ σ19 ⟨_, ⟨a17, c18, rfl, rfl⟩, H, -, -⟩
  replace H : Hp S0 σ0 σ19 [Ch.own σ13.size σ13.size (Sl a17 r14.1 c18) r14.1, Ch.big K11, Ch.ro 0 (Sl aaList_0 aList_0 caList_0) aList_0] := H
  replace H := H.ownLow 0 n0 n0 rfl hle hle
  clear hle
  replace H : Hp S0 σ0 σ19 [Ch.own n0 n0 (Sl a17 r14.1 c18) r14.1, Ch.big K11, Ch.ro 0 (Sl aaList_0 aList_0 caList_0) aList_0] := H
  refine st (v := (.tuple #[(Sl a17 r14.1 c18), (B r14.2)])) (rv_move rfl) ?_
  refine st (v := (Sl a17 r14.1 c18)) (rv_extract rfl rfl) ?_
  refine st (v := (B r14.2)) (rv_extract rfl rfl) ?_
  refine st (v := (Sl a17 r14.1 c18)) (rv_assign rfl) ?_
  refine st (v := (B r14.2)) (rv_assign rfl) ?_
  refine w_end ?_
  refine q_then ?_
  refine c_seq ?_
  refine rg ?_
  refine st (v := (Sl aaList_0 aList_0 caList_0)) (rv_move rfl) ?_
  obtain ⟨r20, hx21, h'⟩ := bind_some h
  clear h
  have h := h'; clear h'
  have hc22 := c_laws_toItemS (aa_0 := aaList_0) (ca_0 := caList_0) hx21
  refine st_call (cx_call hc22 (ent_f hc22.fn rfl) hn0 (show Hp S0 σ0 _ ([Ch.ro 0 (Sl aaList_0 aList_0 caList_0) aList_0] ++ [Ch.own n0 n0 (Sl a17 r14.1 c18) r14.1, Ch.big K11, Ch.ro 0 (Sl aaList_0 aList_0 caList_0) aList_0]) from (H.sel' [2, 0, 1, 2] rfl rfl))) wn ?_
  rintro _ σ27 ⟨_, ⟨a23, c24, K25, rfl, rfl, hK26⟩, H, -⟩
  replace H : Hp S0 σ0 σ27 [Ch.big K25, Ch.own n0 n0 (Sl a17 r14.1 c18) r14.1, Ch.big K11, Ch.ro 0 (Sl aaList_0 aList_0 caList_0) aList_0] := H
  refine st (v := (Sl a23 r20 c24)) (rv_assign rfl) ?_
  refine w_end ?_
  refine q_then ?_
  refine c_seq ?_
  refine rg ?_
  refine st (v := (Sl a23 r20 c24)) (rv_move rfl) ?_
  refine st (v := (I aKey_1)) (rv_move rfl) ?_
  obtain ⟨r28, hx29, h'⟩ := bind_some h
  clear h
  have h := h'; clear h'
  have hc30 := c_impl_DropItemD (alist_0 := a23) (clist_0 := c24) hx29
  have hle := Nat.le_trans hn0 H.size
  refine st_call (cx_lend (Loan.lendB hK26.lends Loan.nil) hc30 (ent_f hc30.fn rfl) (show Hp S0 σ0 _ ([Ch.big K25] ++ ([] ++ [Ch.own n0 n0 (Sl a17 r14.1 c18) r14.1, Ch.big K11, Ch.ro 0 (Sl aaList_0 aList_0 caList_0) aList_0])) from (H.sel' [0, 1, 2, 3] rfl rfl)) (by rintro _ _ _ ⟨_, _, _, rfl, rfl, hK34⟩; exact ⟨Dp.abSc hK34, trivial⟩)) wn ?_
  rintro _ σ35 ⟨_, ⟨a31, c32, K33, rfl, rfl, hK34⟩, H, -, -⟩
  replace H : Hp S0 σ0 σ35 [Ch.big K33, Ch.big K25, Ch.own n0 n0 (Sl a17 r14.1 c18) r14.1, Ch.big K11, Ch.ro 0 (Sl aaList_0 aList_0 caList_0) aList_0] := H
  clear hle
  replace H : Hp S0 σ0 σ35 [Ch.big K33, Ch.big K25, Ch.own n0 n0 (Sl a17 r14.1 c18) r14.1, Ch.big K11, Ch.ro 0 (Sl aaList_0 aList_0 caList_0) aList_0] := H
  refine st (v := (.tuple #[(Sl a31 r28.1 c32), (B r28.2)])) (rv_move rfl) ?_
  refine st (v := (Sl a31 r28.1 c32)) (rv_extract rfl rfl) ?_
  refine st (v := (B r28.2)) (rv_extract rfl rfl) ?_
  refine st (v := (Sl a31 r28.1 c32)) (rv_assign rfl) ?_
  refine st (v := (B r28.2)) (rv_assign rfl) ?_
  refine w_end ?_
  refine q_then ?_
  refine c_seq ?_
  refine c_seq ?_
  obtain ⟨o36, hj, h'⟩ := bind_some h
  clear h
  refine c_cut (fun e a w => e = .normal ∧ ∃ (ρ : Nat → Value) (σ : St), a = fr 101 (updL ρ [(0, (Sl aaList_0 aList_0 caList_0)), (1, (I aKey_1)), (6, (Sl a17 r14.1 c18)), (7, (B r14.2)), (8, (Sl a23 r20 c24)), (9, (Sl a31 r28.1 c32)), (10, (B r28.2)), (44, (B o36))]) ∧ w = σ.w ∧ Hp S0 σ0 σ [Ch.ro 0 (Sl aaList_0 aList_0 caList_0) aList_0, Ch.own n0 n0 (Sl a17 r14.1 c18) r14.1, Ch.big K25, Ch.big K33]) ?_ ?_
  ·clear h'
   rename _ = some o36 => h
   refine rg ?_
   refine st (v := (Sl a31 r28.1 c32)) (rv_move rfl) ?_
   refine st (v := (Sl a17 r14.1 c18)) (rv_move rfl) ?_
   obtain ⟨r37, hx38, h'⟩ := bind_some h
   clear h
   have h := h'; clear h'
   have hc39 := c_laws_eqItemS (aa_0 := a31) (ca_0 := c32) (ab_1 := a17) (cb_1 := c18) hx38
   have hle := Nat.le_trans hn0 H.size
   refine st_call (cx_lend (Loan.lendB hK34.lends (Loan.lend Loan.nil)) hc39 (ent_f hc39.fn rfl) (show Hp S0 σ0 _ ([Ch.big K33, Ch.own n0 n0 (Sl a17 r14.1 c18) r14.1] ++ ([] ++ [Ch.big K25, Ch.big K11, Ch.ro 0 (Sl aaList_0 aList_0 caList_0) aList_0])) from (H.sel' [0, 2, 1, 3, 4] rfl rfl)) (by rintro _ _ _ ⟨rfl, rfl⟩; exact trivial)) wn ?_
   rintro _ σ40 ⟨_, ⟨rfl, rfl⟩, H, -, -⟩
   replace H : Hp S0 σ0 σ40 [Ch.big K33, Ch.own n0 n0 (Sl a17 r14.1 c18) r14.1, Ch.big K25, Ch.big K11, Ch.ro 0 (Sl aaList_0 aList_0 caList_0) aList_0] := H
   clear hle
   replace H : Hp S0 σ0 σ40 [Ch.big K33, Ch.own n0 n0 (Sl a17 r14.1 c18) r14.1, Ch.big K25, Ch.big K11, Ch.ro 0 (Sl aaList_0 aList_0 caList_0) aList_0] := H
   refine st (v := (B (!r37))) (rv_not rfl) ?_
   refine st (v := (B (!r37))) (rv_move rfl) ?_
   rcases Bool.eq_false_or_eq_true (!r37) with hb41 | hb41
   ·replace h := bif_t hb41 h
    refine st_skip (congrArg some hb41) ?_
    refine st_skip (congrArg some hb41) ?_
    refine st_skip (congrArg some hb41) ?_
    refine st (v := (B true)) (rv_pick_t (congrArg B hb41) rfl) ?_
    refine w_end ?_
    obtain rfl := Option.some.inj h
    exact ⟨rfl, _, σ40, fr_join ⟨rfl, rfl, rfl, rfl, rfl, rfl, rfl, rfl, trivial⟩, rfl, H.sel' [4, 1, 2, 0] rfl rfl⟩
   ·replace h := bif_f hb41 h
    refine st_g (v := (B r28.2)) (congrArg some hb41) (rv_move rfl) ?_
    refine st_g (v := (B r14.2)) (congrArg some hb41) (rv_move rfl) ?_
    refine st_g (v := (B (r28.2 != r14.2))) (congrArg some hb41) (rv_bneq Try.underlying4 rfl rfl) ?_
    refine st (v := (B (r28.2 != r14.2))) (rv_pick_f (congrArg B hb41) rfl) ?_
    refine w_end ?_
    obtain rfl := Option.some.inj h
    exact ⟨rfl, _, σ40, fr_join ⟨rfl, rfl, rfl, rfl, rfl, rfl, rfl, rfl, trivial⟩, rfl, H.sel' [4, 1, 2, 0] rfl rfl⟩
  ·clear hj
   have h := h'
   clear h' H
   rintro e a w ⟨rfl, ρ, σ42, rfl, rfl, H⟩
   refine q_then ?_
   refine cd_cond o36 rfl (fun hb43 => ?_) (fun hb43 => ?_)
   ·replace h := bif_t hb43 h
    refine c_seq ?_
    refine rg ?_
    refine st (v := (B false)) (rv_assign rfl) ?_
    refine w_end ?_
    refine q_then ?_
    refine c_ret ?_
    refine q_then_r ?_
    obtain rfl := Option.some.inj h
    exact fin_ret (v := (B false)) (results_ok Try.results9 (res_tmp (v := (B false)) rfl res_nil) rfl) ⟨rfl, rfl⟩ (H.sel' [] rfl rfl)
   ·replace h := bif_f hb43 h
    refine c_skip ?_
    refine q_then ?_
    refine c_seq ?_
    refine c_seq ?_
    refine rg ?_
    refine st (v := (Sl a23 r20 c24)) (rv_move rfl) ?_
    refine st (v := (Sl aaList_0 aList_0 caList_0)) (rv_move rfl) ?_
    obtain ⟨r44, hx45, h'⟩ := bind_some h
    clear h
    have h := h'; clear h'
    have hc46 := c_laws_toItemS (aa_0 := aaList_0) (ca_0 := caList_0) hx45
    refine st_call (cx_call hc46 (ent_f hc46.fn rfl) hn0 (show Hp S0 σ0 _ ([Ch.ro 0 (Sl aaList_0 aList_0 caList_0) aList_0] ++ [Ch.ro 0 (Sl aaList_0 aList_0 caList_0) aList_0, Ch.own n0 n0 (Sl a17 r14.1 c18) r14.1, Ch.big K25, Ch.big K33]) from (H.sel' [0, 0, 1, 2, 3] rfl rfl))) wn ?_
    rintro _ σ51 ⟨_, ⟨a47, c48, K49, rfl, rfl, hK50⟩, H, -⟩
    replace H : Hp S0 σ0 σ51 [Ch.big K49, Ch.ro 0 (Sl aaList_0 aList_0 caList_0) aList_0, Ch.own n0 n0 (Sl a17 r14.1 c18) r14.1, Ch.big K25, Ch.big K33] := H
    obtain ⟨r52, hx53, h'⟩ := bind_some h
    clear h
    have h := h'; clear h'
    have hc54 := c_laws_eqItemS (aa_0 := a23) (ca_0 := c24) (ab_1 := a47) (cb_1 := c48) hx53
    have hle := Nat.le_trans hn0 H.size
    refine st_call (cx_lend (Loan.lendB hK26.lends (Loan.lendB hK50.lends Loan.nil)) hc54 (ent_f hc54.fn rfl) (show Hp S0 σ0 _ ([Ch.big K25, Ch.big K49] ++ ([] ++ [Ch.ro 0 (Sl aaList_0 aList_0 caList_0) aList_0, Ch.own n0 n0 (Sl a17 r14.1 c18) r14.1, Ch.big K33])) from (H.sel' [3, 0, 1, 2, 4] rfl rfl)) (by rintro _ _ _ ⟨rfl, rfl⟩; exact trivial)) wn ?_
    rintro _ σ55 ⟨_, ⟨rfl, rfl⟩, H, -, -⟩
    replace H : Hp S0 σ0 σ55 [Ch.big K25, Ch.big K49, Ch.ro 0 (Sl aaList_0 aList_0 caList_0) aList_0, Ch.own n0 n0 (Sl a17 r14.1 c18) r14.1, Ch.big K33] := H
    clear hle
    replace H : Hp S0 σ0 σ55 [Ch.big K25, Ch.big K49, Ch.ro 0 (Sl aaList_0 aList_0 caList_0) aList_0, Ch.own n0 n0 (Sl a17 r14.1 c18) r14.1, Ch.big K33] := H
    refine st (v := (B (!r52))) (rv_not rfl) ?_
    refine w_end ?_
    refine q_then ?_
    refine cd_cond (!r52) rfl (fun hb56 => ?_) (fun hb56 => ?_)
    ·replace h := bif_t hb56 h
     refine c_seq ?_
     refine rg ?_
     refine st (v := (B false)) (rv_assign rfl) ?_
     refine w_end ?_
     refine q_then ?_
     refine c_ret ?_
     refine q_then_r ?_
     obtain rfl := Option.some.inj h
     exact fin_ret (v := (B false)) (results_ok Try.results9 (res_tmp (v := (B false)) rfl res_nil) rfl) ⟨rfl, rfl⟩ (H.sel' [] rfl rfl)
    ·replace h := bif_f hb56 h
     refine c_skip ?_
     refine q_then ?_
     refine c_seq ?_
     refine rg ?_
     refine st (v := (I 1)) (rv_assign rfl) ?_
     refine w_end ?_
     refine q_then ?_
     refine c_seq ?_
     refine rg ?_
     refine st (v := (Sl a23 r20 c24)) (rv_move rfl) ?_
     refine st (v := (I 1)) (rv_move rfl) ?_
     obtain ⟨r57, hx58, h'⟩ := bind_some h
     clear h
     have h := h'; clear h'
     have hc59 := c_laws_markItemS (aa_0 := a23) (ca_0 := c24) (hK := hK26) hx58
     refine st_call (cx_call hc59 (ent_f hc59.fn rfl) hn0 (show Hp S0 σ0 _ ([Ch.big K25] ++ [Ch.big K49, Ch.ro 0 (Sl aaList_0 aList_0 caList_0) aList_0, Ch.own n0 n0 (Sl a17 r14.1 c18) r14.1, Ch.big K33]) from (H.sel' [0, 1, 2, 3, 4] rfl rfl))) wn ?_
     rintro _ σ61 ⟨_, ⟨rfl, rfl, hn60⟩, H, -⟩
     replace H : Hp S0 σ0 σ61 [Ch.ro 0 (Sl a23 r57.2 c24) r57.2, Ch.big K49, Ch.ro 0 (Sl aaList_0 aList_0 caList_0) aList_0, Ch.own n0 n0 (Sl a17 r14.1 c18) r14.1, Ch.big K33] := H
     have hsl : (Sl a23 r20 c24) = (Sl a23 r57.2 c24) := sl_len hn60.symm
     try rw [hsl]
     try rw [hsl] at H
     clear hsl
     refine st (v := (I r57.1)) (rv_assign rfl) ?_
     refine w_end ?_
     refine q_then ?_
     refine c_seq ?_
     refine c_seq ?_
     obtain ⟨o62, hj, h'⟩ := bind_some h
     clear h
     refine c_cut (fun e a w => e = .normal ∧ ∃ (ρ : Nat → Value) (σ : St), a = fr 101 (updL ρ [(0, (Sl aaList_0 aList_0 caList_0)), (1, (I aKey_1)), (6, (Sl a17 r14.1 c18)), (7, (B r14.2)), (9, (Sl a31 r28.1 c32)), (65, (B o62))]) ∧ w = σ.w ∧ Hp S0 σ0 σ [Ch.ro 0 (Sl aaList_0 aList_0 caList_0) aList_0, Ch.own n0 n0 (Sl a17 r14.1 c18) r14.1, Ch.big K33]) ?_ ?_
     ·clear h'
      rename _ = some o62 => h
      refine rg ?_
      refine st (v := (I r57.1)) (rv_move rfl) ?_
      refine st (v := (B (decide (r57.1 < 0)))) (rv_lss (a := r57.1) (b := 0) rfl rfl) ?_
      refine st (v := (B (decide (r57.1 < 0)))) (rv_move rfl) ?_
      rcases Bool.eq_false_or_eq_true (decide (r57.1 < 0)) with hb63 | hb63
      ·replace h := bif_t hb63 h
       refine st_skip (congrArg some hb63) ?_
       refine st_skip (congrArg some hb63) ?_
       refine st_skip (congrArg some hb63) ?_
       refine st_skip (congrArg some hb63) ?_
       refine st (v := (B true)) (rv_pick_t (congrArg B hb63) rfl) ?_
       refine st (v := (B true)) (rv_move rfl) ?_
       refine st_skip rfl ?_
       refine st_skip rfl ?_
       refine st_skip rfl ?_
       refine st (v := (B true)) (rv_pick_t rfl rfl) ?_
       refine w_end ?_
       obtain rfl := Option.some.inj h
       exact ⟨rfl, _, σ61, fr_join ⟨rfl, rfl, rfl, rfl, rfl, rfl, trivial⟩, rfl, H.sel' [2, 3, 4] rfl rfl⟩
      ·replace h := bif_f hb63 h
       refine st_g (v := (Sl a31 r28.1 c32)) (congrArg some hb63) (rv_move rfl) ?_
       refine st_g (v := (Sl a17 r14.1 c18)) (congrArg some hb63) (rv_move rfl) ?_
       obtain ⟨r64, hx65, h'⟩ := bind_some h
       clear h
       have h := h'; clear h'
       have hc66 := c_laws_eqItemS (aa_0 := a31) (ca_0 := c32) (ab_1 := a17) (cb_1 := c18) hx65
       have hle := Nat.le_trans hn0 H.size
       refine st_call (cx_lend (Loan.lendB hK34.lends (Loan.lend Loan.nil)) hc66 (ent_f hc66.fn rfl) (show Hp S0 σ0 _ ([Ch.big K33, Ch.own n0 n0 (Sl a17 r14.1 c18) r14.1] ++ ([] ++ [Ch.ro 0 (Sl a23 r57.2 c24) r57.2, Ch.big K49, Ch.ro 0 (Sl aaList_0 aList_0 caList_0) aList_0])) from (H.sel' [4, 3, 0, 1, 2] rfl rfl)) (by rintro _ _ _ ⟨rfl, rfl⟩; exact trivial)) (wanted_yes rfl (by exact (congrArg some hb63))) ?_
       rintro _ σ67 ⟨_, ⟨rfl, rfl⟩, H, -, -⟩
       replace H : Hp S0 σ0 σ67 [Ch.big K33, Ch.own n0 n0 (Sl a17 r14.1 c18) r14.1, Ch.ro 0 (Sl a23 r57.2 c24) r57.2, Ch.big K49, Ch.ro 0 (Sl aaList_0 aList_0 caList_0) aList_0] := H
       clear hle
       replace H : Hp S0 σ0 σ67 [Ch.big K33, Ch.own n0 n0 (Sl a17 r14.1 c18) r14.1, Ch.ro 0 (Sl a23 r57.2 c24) r57.2, Ch.big K49, Ch.ro 0 (Sl aaList_0 aList_0 caList_0) aList_0] := H
       refine st_g (v := (B (!r64))) (congrArg some hb63) (rv_not rfl) ?_
       refine st (v := (B (!r64))) (rv_pick_f (congrArg B hb63) rfl) ?_
       refine st (v := (B (!r64))) (rv_move rfl) ?_
       rcases Bool.eq_false_or_eq_true (!r64) with hb68 | hb68
       ·replace h := bif_t hb68 h
        refine st_skip (congrArg some hb68) ?_
        refine st_skip (congrArg some hb68) ?_
        refine st_skip (congrArg some hb68) ?_
        refine st (v := (B true)) (rv_pick_t (congrArg B hb68) rfl) ?_
        refine w_end ?_
        obtain rfl := Option.some.inj h
        exact ⟨rfl, _, σ67, fr_join ⟨rfl, rfl, rfl, rfl, rfl, rfl, trivial⟩, rfl, H.sel' [4, 1, 0] rfl rfl⟩
       ·replace h := bif_f hb68 h
        refine st_g (v := (B r28.2)) (congrArg some hb68) (rv_move rfl) ?_
        refine st_g (v := (B r14.2)) (congrArg some hb68) (rv_move rfl) ?_
        refine st_g (v := (B (r28.2 != r14.2))) (congrArg some hb68) (rv_bneq Try.underlying4 rfl rfl) ?_
        refine st (v := (B (r28.2 != r14.2))) (rv_pick_f (congrArg B hb68) rfl) ?_
        refine w_end ?_
        obtain rfl := Option.some.inj h
        exact ⟨rfl, _, σ67, fr_join ⟨rfl, rfl, rfl, rfl, rfl, rfl, trivial⟩, rfl, H.sel' [4, 1, 0] rfl rfl⟩
     ·clear hj
      have h := h'
      clear h' H
      rintro e a w ⟨rfl, ρ, σ69, rfl, rfl, H⟩
      refine q_then ?_
      refine cd_cond o62 rfl (fun hb70 => ?_) (fun hb70 => ?_)
      ·replace h := bif_t hb70 h
       refine c_seq ?_
       refine rg ?_
       refine st (v := (B false)) (rv_assign rfl) ?_
       refine w_end ?_
       refine q_then ?_
       refine c_ret ?_
       refine q_then_r ?_
       obtain rfl := Option.some.inj h
       exact fin_ret (v := (B false)) (results_ok Try.results9 (res_tmp (v := (B false)) rfl res_nil) rfl) ⟨rfl, rfl⟩ (H.sel' [] rfl rfl)
      ·replace h := bif_f hb70 h
       refine c_skip ?_
       refine q_then ?_
       refine c_seq ?_
       refine rg ?_
       refine st (v := (I 1)) (rv_assign rfl) ?_
       refine w_end ?_
       refine q_then ?_
       refine c_seq ?_
       refine rg ?_
       refine st (v := (Sl a31 r28.1 c32)) (rv_move rfl) ?_
       refine st (v := (I 1)) (rv_move rfl) ?_
       obtain ⟨r71, hx72, h'⟩ := bind_some h
       clear h
       have h := h'; clear h'
       have hc73 := c_laws_markItemS (aa_0 := a31) (ca_0 := c32) (hK := hK34) hx72
       refine st_call (cx_call hc73 (ent_f hc73.fn rfl) hn0 (show Hp S0 σ0 _ ([Ch.big K33] ++ [Ch.ro 0 (Sl aaList_0 aList_0 caList_0) aList_0, Ch.own n0 n0 (Sl a17 r14.1 c18) r14.1]) from (H.sel' [2, 0, 1] rfl rfl))) wn ?_
       rintro _ σ75 ⟨_, ⟨rfl, rfl, hn74⟩, H, -⟩
       replace H : Hp S0 σ0 σ75 [Ch.ro 0 (Sl a31 r71.2 c32) r71.2, Ch.ro 0 (Sl aaList_0 aList_0 caList_0) aList_0, Ch.own n0 n0 (Sl a17 r14.1 c18) r14.1] := H
       have hsl : (Sl a31 r28.1 c32) = (Sl a31 r71.2 c32) := sl_len hn74.symm
       try rw [hsl]
       try rw [hsl] at H
       clear hsl
       refine st (v := (I r71.1)) (rv_assign rfl) ?_
       refine w_end ?_
       refine q_then ?_
       refine c_seq ?_
       refine rg ?_
       refine st (v := (I 1)) (rv_assign rfl) ?_
       refine w_end ?_
       refine q_then ?_
       refine c_seq ?_
       refine rg ?_
       refine st (v := (Sl a31 r71.2 c32)) (rv_move rfl) ?_
       refine st (v := (I 1)) (rv_move rfl) ?_
       obtain ⟨r76, hx77, h'⟩ := bind_some h
       clear h
       have h := h'; clear h'
       have hc78 := c_laws_heldItemS (aa_0 := a31) (ca_0 := c32) hx77
       refine st_call (cx_call hc78 (ent_f hc78.fn rfl) hn0 (show Hp S0 σ0 _ ([Ch.ro 0 (Sl a31 r71.2 c32) r71.2] ++ [Ch.ro 0 (Sl a31 r71.2 c32) r71.2, Ch.ro 0 (Sl aaList_0 aList_0 caList_0) aList_0, Ch.own n0 n0 (Sl a17 r14.1 c18) r14.1]) from (H.sel' [0, 0, 1, 2] rfl rfl))) wn ?_
       rintro _ σ79 ⟨_, ⟨rfl, rfl⟩, H, -⟩
       replace H : Hp S0 σ0 σ79 [Ch.ro 0 (Sl a31 r71.2 c32) r71.2, Ch.ro 0 (Sl aaList_0 aList_0 caList_0) aList_0, Ch.own n0 n0 (Sl a17 r14.1 c18) r14.1] := H
       refine st (v := (I r76)) (rv_assign rfl) ?_
       refine w_end ?_
       refine q_then ?_
       refine c_seq ?_
       refine c_seq ?_
       refine rg ?_
       refine st (v := (I r76)) (rv_move rfl) ?_
       refine st (v := (B (decide (r76 < 0)))) (rv_lss (a := r76) (b := 0) rfl rfl) ?_
       refine w_end ?_
       refine q_then ?_
       refine cd_cond (decide (r76 < 0)) rfl (fun hb80 => ?_) (fun hb80 => ?_)
       ·replace h := bif_t hb80 h
        refine c_seq ?_
        refine rg ?_
        refine st (v := (B false)) (rv_assign rfl) ?_
        refine w_end ?_
        refine q_then ?_
        refine c_ret ?_
        refine q_then_r ?_
        obtain rfl := Option.some.inj h
        exact fin_ret (v := (B false)) (results_ok Try.results9 (res_tmp (v := (B false)) rfl res_nil) rfl) ⟨rfl, rfl⟩ (H.sel' [] rfl rfl)
       ·replace h := bif_f hb80 h
        refine c_skip ?_
        refine q_then ?_
        refine c_seq ?_
        refine c_seq ?_
        refine rg ?_
        refine st (v := (I r76)) (rv_move rfl) ?_
        refine st (v := (I r71.1)) (rv_move rfl) ?_
        refine st (v := (B (r76 != r71.1))) (rv_neq (a := r76) (b := r71.1) rfl rfl) ?_
        refine w_end ?_
        refine q_then ?_
        refine cd_cond (r76 != r71.1) rfl (fun hb81 => ?_) (fun hb81 => ?_)
        ·replace h := bif_t hb81 h
         refine c_seq ?_
         refine rg ?_
         refine st (v := (B false)) (rv_assign rfl) ?_
         refine w_end ?_
         refine q_then ?_
         refine c_ret ?_
         refine q_then_r ?_
         obtain rfl := Option.some.inj h
         exact fin_ret (v := (B false)) (results_ok Try.results9 (res_tmp (v := (B false)) rfl res_nil) rfl) ⟨rfl, rfl⟩ (H.sel' [] rfl rfl)
        ·replace h := bif_f hb81 h
         refine c_skip ?_
         refine q_then ?_
         refine c_seq ?_
         refine rg ?_
         refine st (v := (Sl aaList_0 aList_0 caList_0)) (rv_move rfl) ?_
         obtain ⟨r82, hx83, h'⟩ := bind_some h
         clear h
         have h := h'; clear h'
         have hc84 := c_laws_toItemS (aa_0 := aaList_0) (ca_0 := caList_0) hx83
         refine st_call (cx_call hc84 (ent_f hc84.fn rfl) hn0 (show Hp S0 σ0 _ ([Ch.ro 0 (Sl aaList_0 aList_0 caList_0) aList_0] ++ [Ch.ro 0 (Sl a31 r71.2 c32) r71.2, Ch.ro 0 (Sl aaList_0 aList_0 caList_0) aList_0, Ch.own n0 n0 (Sl a17 r14.1 c18) r14.1]) from (H.sel' [1, 0, 1, 2] rfl rfl))) wn ?_
         rintro _ σ89 ⟨_, ⟨a85, c86, K87, rfl, rfl, hK88⟩, H, -⟩
         replace H : Hp S0 σ0 σ89 [Ch.big K87, Ch.ro 0 (Sl a31 r71.2 c32) r71.2, Ch.ro 0 (Sl aaList_0 aList_0 caList_0) aList_0, Ch.own n0 n0 (Sl a17 r14.1 c18) r14.1] := H
         refine st (v := (I aKey_1)) (rv_move rfl) ?_
         obtain ⟨r90, hx91, h'⟩ := bind_some h
         clear h
         have h := h'; clear h'
         have hc92 := c_impl_DropItemD (alist_0 := a85) (clist_0 := c86) hx91
         have hle := Nat.le_trans hn0 H.size
         refine st_call (cx_lend (Loan.lendB hK88.lends Loan.nil) hc92 (ent_f hc92.fn rfl) (show Hp S0 σ0 _ ([Ch.big K87] ++ ([] ++ [Ch.ro 0 (Sl a31 r71.2 c32) r71.2, Ch.ro 0 (Sl aaList_0 aList_0 caList_0) aList_0, Ch.own n0 n0 (Sl a17 r14.1 c18) r14.1])) from (H.sel' [0, 1, 2, 3] rfl rfl)) (by rintro _ _ _ ⟨_, _, _, rfl, rfl, hK96⟩; exact ⟨Dp.abSc hK96, trivial⟩)) wn ?_
         rintro _ σ97 ⟨_, ⟨a93, c94, K95, rfl, rfl, hK96⟩, H, -, -⟩
         replace H : Hp S0 σ0 σ97 [Ch.big K95, Ch.big K87, Ch.ro 0 (Sl a31 r71.2 c32) r71.2, Ch.ro 0 (Sl aaList_0 aList_0 caList_0) aList_0, Ch.own n0 n0 (Sl a17 r14.1 c18) r14.1] := H
         clear hle
         replace H : Hp S0 σ0 σ97 [Ch.big K95, Ch.big K87, Ch.ro 0 (Sl a31 r71.2 c32) r71.2, Ch.ro 0 (Sl aaList_0 aList_0 caList_0) aList_0, Ch.own n0 n0 (Sl a17 r14.1 c18) r14.1] := H
         refine st (v := (.tuple #[(Sl a93 r90.1 c94), (B r90.2)])) (rv_move rfl) ?_
         refine st (v := (Sl a93 r90.1 c94)) (rv_extract rfl rfl) ?_
         refine st (v := (B r90.2)) (rv_extract rfl rfl) ?_
         refine st (v := (Sl a93 r90.1 c94)) (rv_assign rfl) ?_
         refine st (v := (B r90.2)) (rv_assign rfl) ?_
         refine w_end ?_
         refine q_then ?_
         refine c_seq ?_
         refine c_seq ?_
         obtain ⟨o98, hj, h'⟩ := bind_some h
         clear h
         refine c_cut (fun e a w => e = .normal ∧ ∃ (ρ : Nat → Value) (σ : St), a = fr 101 (updL ρ [(9, (Sl a31 r71.2 c32)), (12, (I r71.1)), (92, (B o98))]) ∧ w = σ.w ∧ Hp S0 σ0 σ [Ch.ro 0 (Sl a31 r71.2 c32) r71.2]) ?_ ?_
         ·clear h'
          rename _ = some o98 => h
          refine rg ?_
          refine st (v := (Sl a93 r90.1 c94)) (rv_move rfl) ?_
          refine st (v := (Sl a17 r14.1 c18)) (rv_move rfl) ?_
          obtain ⟨σ99, hw100, H, -⟩ := H.pub 4 rfl (Nat.le_refl _)
          rw [← hw100]; clear hw100
          replace H := H.roLow 0 0 rfl (Nat.zero_le _)
          obtain ⟨r101, hx102, h'⟩ := bind_some h
          clear h
          have h := h'; clear h'
          have hc103 := c_laws_eqItemS (aa_0 := a93) (ca_0 := c94) (ab_1 := a17) (cb_1 := c18) hx102
          have hle := Nat.le_trans hn0 H.size
          refine st_call (cx_lend (Loan.lendB hK96.lends (Loan.same Loan.nil)) hc103 (ent_f hc103.fn rfl) (show Hp S0 σ0 _ ([Ch.big K95] ++ ([Ch.ro 0 (Sl a17 r14.1 c18) r14.1] ++ [Ch.ro 0 (Sl a17 r14.1 c18) r14.1, Ch.ro n0 (Sl a17 r14.1 c18) r14.1, Ch.big K87, Ch.ro 0 (Sl a31 r71.2 c32) r71.2, Ch.ro 0 (Sl aaList_0 aList_0 caList_0) aList_0])) from (H.sel' [2, 0, 0, 1, 3, 4, 5] rfl rfl)) (by rintro _ _ _ ⟨rfl, rfl⟩; exact trivial)) wn ?_
          rintro _ σ104 ⟨_, ⟨rfl, rfl⟩, H, -, -⟩
          replace H : Hp S0 σ0 σ104 [Ch.big K95, Ch.ro 0 (Sl a17 r14.1 c18) r14.1, Ch.ro n0 (Sl a17 r14.1 c18) r14.1, Ch.big K87, Ch.ro 0 (Sl a31 r71.2 c32) r71.2, Ch.ro 0 (Sl aaList_0 aList_0 caList_0) aList_0] := H
          clear hle
          replace H : Hp S0 σ0 σ104 [Ch.big K95, Ch.ro 0 (Sl a17 r14.1 c18) r14.1, Ch.ro n0 (Sl a17 r14.1 c18) r14.1, Ch.big K87, Ch.ro 0 (Sl a31 r71.2 c32) r71.2, Ch.ro 0 (Sl aaList_0 aList_0 caList_0) aList_0] := H
          refine st (v := (B (!r101))) (rv_not rfl) ?_
          refine st (v := (B (!r101))) (rv_move rfl) ?_
          rcases Bool.eq_false_or_eq_true (!r101) with hb105 | hb105
          ·replace h := bif_t hb105 h
           refine st_skip (congrArg some hb105) ?_
           refine st_skip (congrArg some hb105) ?_
           refine st_skip (congrArg some hb105) ?_
           refine st (v := (B true)) (rv_pick_t (congrArg B hb105) rfl) ?_
           refine w_end ?_
           obtain rfl := Option.some.inj h
           exact ⟨rfl, _, σ104, fr_join ⟨rfl, rfl, rfl, trivial⟩, rfl, H.sel' [4] rfl rfl⟩
          ·replace h := bif_f hb105 h
           refine st_g (v := (B r90.2)) (congrArg some hb105) (rv_move rfl) ?_
           refine st_g (v := (B r14.2)) (congrArg some hb105) (rv_move rfl) ?_
           refine st_g (v := (B (r90.2 != r14.2))) (congrArg some hb105) (rv_bneq Try.underlying4 rfl rfl) ?_
           refine st (v := (B (r90.2 != r14.2))) (rv_pick_f (congrArg B hb105) rfl) ?_
           refine w_end ?_
           obtain rfl := Option.some.inj h
           exact ⟨rfl, _, σ104, fr_join ⟨rfl, rfl, rfl, trivial⟩, rfl, H.sel' [4] rfl rfl⟩
         ·clear hj
          have h := h'
          clear h' H
          rintro e a w ⟨rfl, ρ, σ106, rfl, rfl, H⟩
          refine q_then ?_
          refine cd_cond o98 rfl (fun hb107 => ?_) (fun hb107 => ?_)
          ·replace h := bif_t hb107 h
           refine c_seq ?_
           refine rg ?_
           refine st (v := (B false)) (rv_assign rfl) ?_
           refine w_end ?_
           refine q_then ?_
           refine c_ret ?_
           refine q_then_r ?_
           obtain rfl := Option.some.inj h
           exact fin_ret (v := (B false)) (results_ok Try.results9 (res_tmp (v := (B false)) rfl res_nil) rfl) ⟨rfl, rfl⟩ (H.sel' [] rfl rfl)
          ·replace h := bif_f hb107 h
           refine c_skip ?_
           refine q_then ?_
           refine c_seq ?_
           refine rg ?_
           refine st (v := (I 1)) (rv_assign rfl) ?_
           refine w_end ?_
           refine q_then ?_
           refine c_seq ?_
           refine rg ?_
           refine st (v := (Sl a31 r71.2 c32)) (rv_move rfl) ?_
           refine st (v := (I 1)) (rv_move rfl) ?_
           obtain ⟨r108, hx109, h'⟩ := bind_some h
           clear h
           have h := h'; clear h'
           have hc110 := c_laws_heldItemS (aa_0 := a31) (ca_0 := c32) hx109
           refine st_call (cx_call hc110 (ent_f hc110.fn rfl) hn0 (show Hp S0 σ0 _ ([Ch.ro 0 (Sl a31 r71.2 c32) r71.2] ++ [Ch.ro 0 (Sl a31 r71.2 c32) r71.2]) from (H.sel' [0, 0] rfl rfl))) wn ?_
           rintro _ σ111 ⟨_, ⟨rfl, rfl⟩, H, -⟩
           replace H : Hp S0 σ0 σ111 [Ch.ro 0 (Sl a31 r71.2 c32) r71.2] := H
           refine st (v := (I r108)) (rv_assign rfl) ?_
           refine w_end ?_
           refine q_then ?_
           refine c_seq ?_
           refine c_seq ?_
           refine rg ?_
           refine st (v := (I r108)) (rv_move rfl) ?_
           refine st (v := (B (decide (r108 < 0)))) (rv_lss (a := r108) (b := 0) rfl rfl) ?_
           refine w_end ?_
           refine q_then ?_
           refine cd_cond (decide (r108 < 0)) rfl (fun hb112 => ?_) (fun hb112 => ?_)
           ·replace h := bif_t hb112 h
            refine c_seq ?_
            refine rg ?_
            refine st (v := (B false)) (rv_assign rfl) ?_
            refine w_end ?_
            refine q_then ?_
            refine c_ret ?_
            refine q_then_r ?_
            obtain rfl := Option.some.inj h
            exact fin_ret (v := (B false)) (results_ok Try.results9 (res_tmp (v := (B false)) rfl res_nil) rfl) ⟨rfl, rfl⟩ (H.sel' [] rfl rfl)
           ·replace h := bif_f hb112 h
            refine c_skip ?_
            refine q_then ?_
            refine c_seq ?_
            refine c_seq ?_
            refine rg ?_
            refine st (v := (I r108)) (rv_move rfl) ?_
            refine st (v := (I r71.1)) (rv_move rfl) ?_
            refine st (v := (B (r108 != r71.1))) (rv_neq (a := r108) (b := r71.1) rfl rfl) ?_
            refine w_end ?_
            refine q_then ?_
            refine cd_cond (r108 != r71.1) rfl (fun hb113 => ?_) (fun hb113 => ?_)
            ·replace h := bif_t hb113 h
             refine c_seq ?_
             refine rg ?_
             refine st (v := (B false)) (rv_assign rfl) ?_
             refine w_end ?_
             refine q_then ?_
             refine c_ret ?_
             refine q_then_r ?_
             obtain rfl := Option.some.inj h
             exact fin_ret (v := (B false)) (results_ok Try.results9 (res_tmp (v := (B false)) rfl res_nil) rfl) ⟨rfl, rfl⟩ (H.sel' [] rfl rfl)
            ·replace h := bif_f hb113 h
             refine c_skip ?_
             refine q_then ?_
             refine c_seq ?_
             refine rg ?_
             refine st (v := (B true)) (rv_assign rfl) ?_
             refine w_end ?_
             refine q_then ?_
             refine c_ret ?_
             obtain rfl := Option.some.inj h
             exact fin_ret (v := (B true)) (results_ok Try.results9 (res_tmp (v := (B true)) rfl res_nil) rfl) ⟨rfl, rfl⟩ (H.sel' [] rfl rfl)

end Go.Vs
