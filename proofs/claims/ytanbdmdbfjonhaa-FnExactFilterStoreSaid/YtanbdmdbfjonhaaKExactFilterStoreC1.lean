/- The functions compute what their models say. -/
import Derived.Test.YtanbdmdbfjonhaaKExactFilterStoreM
import Derived.Test.YtanbdmdbfjonhaaExactFilterStoreEng1
import Derived.Test.YtanbdmdbfjonhaaProg
set_option linter.unusedVariables false
set_option linter.unusedSimpArgs false
set_option maxRecDepth 20000
namespace Go.Vs
open Go Go.Proofs
attribute [local irreducible] Code.wp Code.wpIn wpList wpListIn wpQuiet Calls CallsIn

theorem ti3 : TI Try.prog 3 (.int .i64 0) 1 8 := TI.mk' (by kernel_rfl)
theorem ti23 : TI Try.prog 23 (.slice none 0 0) 1 24 := TI.mk' (by kernel_rfl)
theorem ti30 : TI Try.prog 30 (.slice none 0 0) 1 24 := TI.mk' (by kernel_rfl)
theorem ti32 : TI Try.prog 32 (.agg #[(.int .i64 0), (.slice none 0 0), (.int .i64 0)]) 3 40 := TI.mk' (by kernel_rfl)
theorem ti38 : TI Try.prog 38 (.agg #[(.int .i64 0), (.int .i64 0), (.int .i64 0)]) 3 24 := TI.mk' (by kernel_rfl)
theorem ti49 : TI Try.prog 49 (.slice none 0 0) 1 24 := TI.mk' (by kernel_rfl)
theorem ti50 : TI Try.prog 50 (.agg #[(.int .i64 0), (.int .i64 0), (.int .i64 0)]) 3 24 := TI.mk' (by kernel_rfl)
theorem ti84 : TI Try.prog 84 (.agg #[(.int .i64 0), (.slice none 0 0), (.int .i64 0)]) 3 40 := TI.mk' (by kernel_rfl)
theorem bp32 {fs : Array Field} (hT : Try.prog.underlying 32 = some (.struct fs)) (w : World) : (fs.mapM (fun f => do pure (f.offset, ← sizeOf f.type)) : Sem (Array (Nat × Nat))).run Try.prog w = .ok #[(0, 1), (1, 1), (2, 1)] w := by
  rw [Try.underlying32] at hT; cases hT
  simp [run_typeInfo ti3, run_typeInfo ti30]

theorem c_impl_validTags {tags_0 : Int}  {r : Bool} (h : M.impl_validTags tags_0 = some r) :
    Cal2 Try.prog 66 [(I tags_0)] [] (fun n0 v L => v = (B r) ∧ L = []) := by
 refine cal2 (n := 9) Try.func66 rfl rfl rfl rfl ?_
 intro S0 σ0 n0 hn0 H
 unfold M.impl_validTags at h
 refine c_seq ?_
 refine rg ?_
 refine st (v := (B false)) (rv_assign rfl) ?_
 refine w_end ?_
 refine q_then ?_
 refine c_seq ?_
 refine rg ?_
 refine st (v := (I tags_0)) (rv_move rfl) ?_
 refine st (v := (B (decide (0 ≤ tags_0)))) (rv_geq (a := tags_0) (b := 0) rfl rfl) ?_
 refine st (v := (B (decide (0 ≤ tags_0)))) (rv_move rfl) ?_
 rcases Bool.eq_false_or_eq_true (decide (0 ≤ tags_0)) with hb1 | hb1
 ·replace h := bif_t hb1 h
  refine st_g (v := (I tags_0)) (congrArg some hb1) (rv_move rfl) ?_
  refine st_g (v := (B (decide (tags_0 ≤ 15)))) (congrArg some hb1) (rv_leq (a := tags_0) (b := 15) rfl rfl) ?_
  refine st (v := (B (decide (tags_0 ≤ 15)))) (rv_pick_t (congrArg B hb1) rfl) ?_
  refine st (v := (B (decide (tags_0 ≤ 15)))) (rv_assign rfl) ?_
  refine w_end ?_
  refine q_then ?_
  refine c_ret ?_
  obtain rfl := Option.some.inj h
  exact fin_ret (v := (B (decide (tags_0 ≤ 15)))) (results_ok Try.results66 (res_tmp (v := (B (decide (tags_0 ≤ 15)))) rfl res_nil) rfl) ⟨rfl, rfl⟩ (H.sel' [] rfl rfl)
 ·replace h := bif_f hb1 h
  refine st_skip (congrArg some hb1) ?_
  refine st_skip (congrArg some hb1) ?_
  refine st (v := (B false)) (rv_pick_f (congrArg B hb1) rfl) ?_
  refine st (v := (B false)) (rv_assign rfl) ?_
  refine w_end ?_
  refine q_then ?_
  refine c_ret ?_
  obtain rfl := Option.some.inj h
  exact fin_ret (v := (B false)) (results_ok Try.results66 (res_tmp (v := (B false)) rfl res_nil) rfl) ⟨rfl, rfl⟩ (H.sel' [] rfl rfl)

theorem c_impl_validCoords {coords_0 : List Int} {acoords_0 : Option Addr} {ccoords_0 : Nat} {r : Bool} (h : M.impl_validCoords coords_0 = some r) :
    Cal2 Try.prog 115 [(Sl acoords_0 coords_0 ccoords_0)] [Ch.ro 0 (Sl acoords_0 coords_0 ccoords_0) coords_0] (fun n0 v L => v = (B r) ∧ L = []) := by
 refine cal2 (n := 18) Try.func115 rfl rfl rfl rfl ?_
 intro S0 σ0 n0 hn0 H
 unfold M.impl_validCoords at h
 refine c_seq ?_
 refine rg ?_
 refine st (v := (B false)) (rv_assign rfl) ?_
 refine w_end ?_
 refine q_then ?_
 refine c_seq ?_
 refine c_seq ?_
 refine rg ?_
 refine st (v := (Sl acoords_0 coords_0 ccoords_0)) (rv_move rfl) ?_
 refine st (v := (I (coords_0.length : Int))) (rv_len Try.underlying30 rfl) ?_
 refine st (v := (I 0)) (rv_move rfl) ?_
 refine w_end ?_
 refine q_then ?_
 obtain ⟨o1, hj, h'⟩ := bind_some h
 clear h
 refine c_cut (fun e a w => (∃ t, o1 = (.inl t) ∧ e = .normal ∧ ∃ (ρ : Nat → Value) (σ : St), a = fr 18 (updL ρ []) ∧ w = σ.w ∧ Hp S0 σ0 σ []) ∨ (∃ t, o1 = (.inr t) ∧ e = .ret ∧ ∃ (ρ : Nat → Value) (σ : St), a = fr 18 (updL ρ [(2, (B t))]) ∧ w = σ.w ∧ Hp S0 σ0 σ [])) ?_ ?_
 ·clear h'
  rename _ = some o1 => h
  refine c_blk ?_
  refine wp_loopM _ h (fun s2 a w => ∃ (ρ : Nat → Value) (σ : St), a = fr 18 (updL ρ [(5, (Sl acoords_0 coords_0 ccoords_0)), (6, (I (coords_0.length : Int))), (7, (I s2))]) ∧ w = σ.w ∧ Hp S0 σ0 σ [Ch.ro 0 (Sl acoords_0 coords_0 ccoords_0) coords_0]) ⟨_, σ0, fr_join ⟨rfl, rfl, rfl, trivial⟩, rfl, H.sel' [0] rfl rfl⟩ ?_
  clear h H
  rintro s2 a w o ⟨ρ, σ3, rfl, rfl, H⟩ h hres
  refine c_seq ?_
  refine rg ?_
  refine st (v := (B (decide (s2 < (coords_0.length : Int))))) (rv_lss (a := s2) (b := (coords_0.length : Int)) rfl rfl) ?_
  refine w_end ?_
  refine q_then ?_
  refine c_seq ?_
  refine cd_cond (decide (s2 < (coords_0.length : Int))) rfl (fun hb4 => ?_) (fun hb4 => ?_)
  ·replace h := bif_t hb4 h
   refine c_skip ?_
   refine q_then ?_
   refine c_seq ?_
   refine c_blk ?_
   refine c_seq ?_
   refine rg ?_
   obtain ⟨x5, hx6, h'⟩ := bind_some h
   clear h
   have h := h'; clear h'
   obtain ⟨b8, o9, hi7, -⟩ := (H.ro 0 rfl).ix hx6
   refine st (v := (pt b8 o9)) (rv_ix Try.underlying30 ti3 rfl rfl hi7) ?_
   have hc10 := ((H.ro 0 rfl).at hx6 hi7).int
   refine st (v := (I x5)) (rv_load1 Try.underlying3 rfl rfl hc10) ?_
   refine st (v := (I x5)) (rv_assign rfl) ?_
   refine w_end ?_
   refine q_then ?_
   refine c_seq ?_
   obtain ⟨o11, hj, h'⟩ := bind_some h
   clear h
   refine c_cut (fun e a w => e = .normal ∧ ∃ (ρ : Nat → Value) (σ : St), a = fr 18 (updL ρ [(5, (Sl acoords_0 coords_0 ccoords_0)), (6, (I (coords_0.length : Int))), (7, (I s2)), (16, (B o11))]) ∧ w = σ.w ∧ Hp S0 σ0 σ [Ch.ro 0 (Sl acoords_0 coords_0 ccoords_0) coords_0]) ?_ ?_
   ·clear h'
    rename _ = some o11 => h
    refine rg ?_
    refine st (v := (I x5)) (rv_move rfl) ?_
    refine st (v := (B (decide (x5 < (-100))))) (rv_lss (a := x5) (b := (-100)) rfl rfl) ?_
    refine st (v := (B (decide (x5 < (-100))))) (rv_move rfl) ?_
    rcases Bool.eq_false_or_eq_true (decide (x5 < (-100))) with hb12 | hb12
    ·replace h := bif_t hb12 h
     refine st_skip (congrArg some hb12) ?_
     refine st_skip (congrArg some hb12) ?_
     refine st (v := (B true)) (rv_pick_t (congrArg B hb12) rfl) ?_
     refine w_end ?_
     obtain rfl := Option.some.inj h
     exact ⟨rfl, _, σ3, fr_join ⟨rfl, rfl, rfl, rfl, trivial⟩, rfl, H.sel' [0] rfl rfl⟩
    ·replace h := bif_f hb12 h
     refine st_g (v := (I x5)) (congrArg some hb12) (rv_move rfl) ?_
     refine st_g (v := (B (decide (100 < x5)))) (congrArg some hb12) (rv_gtr (a := x5) (b := 100) rfl rfl) ?_
     refine st (v := (B (decide (100 < x5)))) (rv_pick_f (congrArg B hb12) rfl) ?_
     refine w_end ?_
     obtain rfl := Option.some.inj h
     exact ⟨rfl, _, σ3, fr_join ⟨rfl, rfl, rfl, rfl, trivial⟩, rfl, H.sel' [0] rfl rfl⟩
   ·clear hj
    have h := h'
    clear h' H
    rintro e a w ⟨rfl, ρ, σ13, rfl, rfl, H⟩
    refine q_then ?_
    refine cd_cond o11 rfl (fun hb14 => ?_) (fun hb14 => ?_)
    ·replace h := bif_t hb14 h
     refine c_seq ?_
     refine rg ?_
     refine st (v := (B false)) (rv_assign rfl) ?_
     refine w_end ?_
     refine q_then ?_
     refine c_ret ?_
     refine q_blk_r ?_
     refine q_then_r ?_
     refine q_then_r ?_
     refine q_blk_r ?_
     obtain rfl := Option.some.inj h
     obtain rfl := hres _ rfl
     exact .inr (⟨_, rfl, rfl, _, σ13, fr_join ⟨rfl, trivial⟩, rfl, H.sel' [] rfl rfl⟩)
    ·replace h := bif_f hb14 h
     refine c_skip ?_
     refine q_blk ?_
     refine q_then ?_
     refine rg ?_
     refine st (v := (I (w64 (s2 + 1)))) (rv_add (a := s2) (b := 1) rfl rfl) ?_
     refine st (v := (I (w64 (s2 + 1)))) (rv_move rfl) ?_
     refine w_end ?_
     refine q_then ?_
     obtain rfl := Option.some.inj h
     exact ⟨_, rfl, _, σ13, fr_join ⟨rfl, rfl, rfl, trivial⟩, rfl, H.sel' [0] rfl rfl⟩
  ·replace h := bif_f hb4 h
   refine c_exit ?_
   refine q_then_x ?_
   refine q_then_x ?_
   refine q_blk_hit ?_
   obtain rfl := Option.some.inj h
   obtain rfl := hres _ rfl
   exact .inl ⟨_, rfl, rfl, _, σ3, fr_join trivial, rfl, H.sel' [] rfl rfl⟩
 ·clear hj
  have h := h'
  clear h' H
  rintro e a w (⟨t15, rfl, rfl, ρ, σ16, rfl, rfl, H⟩ | ⟨t17, rfl, rfl, ρ, σ18, rfl, rfl, H⟩)
  ·replace h := selim_l h
   refine q_then ?_
   refine c_seq ?_
   refine rg ?_
   refine st (v := (B true)) (rv_assign rfl) ?_
   refine w_end ?_
   refine q_then ?_
   refine c_ret ?_
   obtain rfl := Option.some.inj h
   exact fin_ret (v := (B true)) (results_ok Try.results115 (res_tmp (v := (B true)) rfl res_nil) rfl) ⟨rfl, rfl⟩ (H.sel' [] rfl rfl)
  ·replace h := selim_r h
   refine q_then_r ?_
   obtain rfl := Option.some.inj h
   exact fin_ret (v := (B t17)) (results_ok Try.results115 (res_tmp (v := (B t17)) rfl res_nil) rfl) ⟨rfl, rfl⟩ (H.sel' [] rfl rfl)

theorem c_impl_ValidVector {v_0 : List Int} {av_0 : Option Addr} {cv_0 : Nat} {r : Bool} (h : M.impl_ValidVector v_0 = some r) :
    Cal2 Try.prog 88 [(Sl av_0 v_0 cv_0)] [Ch.ro 0 (Sl av_0 v_0 cv_0) v_0] (fun n0 v L => v = (B r) ∧ L = []) := by
 refine cal2 (n := 10) Try.func88 rfl rfl rfl rfl ?_
 intro S0 σ0 n0 hn0 H
 unfold M.impl_ValidVector at h
 refine c_seq ?_
 refine rg ?_
 refine st (v := (B false)) (rv_assign rfl) ?_
 refine w_end ?_
 refine q_then ?_
 refine c_seq ?_
 refine rg ?_
 refine st (v := (Sl av_0 v_0 cv_0)) (rv_move rfl) ?_
 refine st (v := (I (v_0.length : Int))) (rv_len Try.underlying30 rfl) ?_
 refine st (v := (B ((v_0.length : Int) == 4))) (rv_eql (a := (v_0.length : Int)) (b := 4) rfl rfl) ?_
 refine st (v := (B ((v_0.length : Int) == 4))) (rv_move rfl) ?_
 rcases Bool.eq_false_or_eq_true ((v_0.length : Int) == 4) with hb1 | hb1
 ·replace h := bif_t hb1 h
  refine st_g (v := (Sl av_0 v_0 cv_0)) (congrArg some hb1) (rv_move rfl) ?_
  obtain ⟨r2, hx3, h'⟩ := bind_some h
  clear h
  have h := h'; clear h'
  have hc4 := c_impl_validCoords (acoords_0 := av_0) (ccoords_0 := cv_0) hx3
  refine st_call (cx_call hc4 (ent_f hc4.fn rfl) hn0 (show Hp S0 σ0 _ ([Ch.ro 0 (Sl av_0 v_0 cv_0) v_0] ++ [Ch.ro 0 (Sl av_0 v_0 cv_0) v_0]) from (H.sel' [0, 0] rfl rfl))) (wanted_yes rfl (by exact (congrArg some hb1))) ?_
  rintro _ σ5 ⟨_, ⟨rfl, rfl⟩, H, -⟩
  replace H : Hp S0 σ0 σ5 [Ch.ro 0 (Sl av_0 v_0 cv_0) v_0] := H
  refine st (v := (B r2)) (rv_pick_t (congrArg B hb1) rfl) ?_
  refine st (v := (B r2)) (rv_assign rfl) ?_
  refine w_end ?_
  refine q_then ?_
  refine c_ret ?_
  obtain rfl := Option.some.inj h
  exact fin_ret (v := (B r2)) (results_ok Try.results88 (res_tmp (v := (B r2)) rfl res_nil) rfl) ⟨rfl, rfl⟩ (H.sel' [] rfl rfl)
 ·replace h := bif_f hb1 h
  refine st_skip (congrArg some hb1) ?_
  refine st_skip (congrArg some hb1) ?_
  refine st (v := (B false)) (rv_pick_f (congrArg B hb1) rfl) ?_
  refine st (v := (B false)) (rv_assign rfl) ?_
  refine w_end ?_
  refine q_then ?_
  refine c_ret ?_
  obtain rfl := Option.some.inj h
  exact fin_ret (v := (B false)) (results_ok Try.results88 (res_tmp (v := (B false)) rfl res_nil) rfl) ⟨rfl, rfl⟩ (H.sel' [] rfl rfl)

theorem c_impl_validKey {key_0 : Int}  {r : Bool} (h : M.impl_validKey key_0 = some r) :
    Cal2 Try.prog 101 [(I key_0)] [] (fun n0 v L => v = (B r) ∧ L = []) := by
 refine cal2 (n := 9) Try.func101 rfl rfl rfl rfl ?_
 intro S0 σ0 n0 hn0 H
 unfold M.impl_validKey at h
 refine c_seq ?_
 refine rg ?_
 refine st (v := (B false)) (rv_assign rfl) ?_
 refine w_end ?_
 refine q_then ?_
 refine c_seq ?_
 refine rg ?_
 refine st (v := (I key_0)) (rv_move rfl) ?_
 refine st (v := (B (decide (1 ≤ key_0)))) (rv_geq (a := key_0) (b := 1) rfl rfl) ?_
 refine st (v := (B (decide (1 ≤ key_0)))) (rv_move rfl) ?_
 rcases Bool.eq_false_or_eq_true (decide (1 ≤ key_0)) with hb1 | hb1
 ·replace h := bif_t hb1 h
  refine st_g (v := (I key_0)) (congrArg some hb1) (rv_move rfl) ?_
  refine st_g (v := (B (decide (key_0 ≤ 99)))) (congrArg some hb1) (rv_leq (a := key_0) (b := 99) rfl rfl) ?_
  refine st (v := (B (decide (key_0 ≤ 99)))) (rv_pick_t (congrArg B hb1) rfl) ?_
  refine st (v := (B (decide (key_0 ≤ 99)))) (rv_assign rfl) ?_
  refine w_end ?_
  refine q_then ?_
  refine c_ret ?_
  obtain rfl := Option.some.inj h
  exact fin_ret (v := (B (decide (key_0 ≤ 99)))) (results_ok Try.results101 (res_tmp (v := (B (decide (key_0 ≤ 99)))) rfl res_nil) rfl) ⟨rfl, rfl⟩ (H.sel' [] rfl rfl)
 ·replace h := bif_f hb1 h
  refine st_skip (congrArg some hb1) ?_
  refine st_skip (congrArg some hb1) ?_
  refine st (v := (B false)) (rv_pick_f (congrArg B hb1) rfl) ?_
  refine st (v := (B false)) (rv_assign rfl) ?_
  refine w_end ?_
  refine q_then ?_
  refine c_ret ?_
  obtain rfl := Option.some.inj h
  exact fin_ret (v := (B false)) (results_ok Try.results101 (res_tmp (v := (B false)) rfl res_nil) rfl) ⟨rfl, rfl⟩ (H.sel' [] rfl rfl)

theorem c_impl_validItem {x_0 : Int × (List Int) × Int} {ax_0_1 : Option Addr} {cx_0_1 : Nat} {r : Bool} (h : M.impl_validItem x_0 = some r) :
    Cal2 Try.prog 68 [(.agg #[(I x_0.1), (Sl ax_0_1 x_0.2.1 cx_0_1), (I x_0.2.2)])] [Ch.ro 0 (Sl ax_0_1 x_0.2.1 cx_0_1) x_0.2.1] (fun n0 v L => v = (B r) ∧ L = []) := by
 refine cal2 (n := 16) Try.func68 rfl rfl rfl rfl ?_
 intro S0 σ0 n0 hn0 H
 unfold M.impl_validItem at h
 refine c_seq ?_
 refine rg ?_
 refine st_ex (ex_box (cs := [(I x_0.1), (Sl ax_0_1 x_0.2.1 cx_0_1), (I x_0.2.2)]) H hn0 rfl rfl) wn ?_
 rintro _ σ2 ⟨b1, rfl, H, -⟩
 refine st (v := (B false)) (rv_assign rfl) ?_
 refine w_end ?_
 refine q_then ?_
 refine c_seq ?_
 refine rg ?_
 refine st (v := (pt b1 0)) (rv_fieldAddr (off := 0) (ft := 3) Try.underlying32 rfl ti3 rfl rfl) ?_
 have hc3 := H.cell (u := (I x_0.1)) (o' := 0) 0 0 rfl rfl rfl
 refine st (v := (I x_0.1)) (rv_load1 Try.underlying3 rfl rfl hc3) ?_
 obtain ⟨r4, hx5, h'⟩ := bind_some h
 clear h
 have h := h'; clear h'
 have hc6 := c_impl_validKey hx5
 refine st_call (cx_call hc6 (ent_f hc6.fn rfl) hn0 (show Hp S0 σ0 _ ([] ++ [Ch.bx n0 b1 0 [(I x_0.1), (Sl ax_0_1 x_0.2.1 cx_0_1), (I x_0.2.2)] [] [], Ch.ro 0 (Sl ax_0_1 x_0.2.1 cx_0_1) x_0.2.1]) from (H.sel' [0, 1] rfl rfl))) wn ?_
 rintro _ σ7 ⟨_, ⟨rfl, rfl⟩, H, -⟩
 replace H : Hp S0 σ0 σ7 [Ch.bx n0 b1 0 [(I x_0.1), (Sl ax_0_1 x_0.2.1 cx_0_1), (I x_0.2.2)] [] [], Ch.ro 0 (Sl ax_0_1 x_0.2.1 cx_0_1) x_0.2.1] := H
 refine st (v := (B r4)) (rv_move rfl) ?_
 rcases Bool.eq_false_or_eq_true r4 with hb8 | hb8
 ·replace h := bif_t hb8 h
  refine st_g (v := (pt b1 1)) (congrArg some hb8) (rv_fieldAddr (off := 1) (ft := 30) Try.underlying32 rfl ti30 rfl rfl) ?_
  have hc9 := H.cell (u := (Sl ax_0_1 x_0.2.1 cx_0_1)) (o' := 1) 0 1 rfl rfl rfl
  refine st_g (v := (Sl ax_0_1 x_0.2.1 cx_0_1)) (congrArg some hb8) (rv_load1 Try.underlying30 rfl rfl hc9) ?_
  obtain ⟨r10, hx11, h'⟩ := bind_some h
  clear h
  have h := h'; clear h'
  have hc12 := c_impl_ValidVector (av_0 := ax_0_1) (cv_0 := cx_0_1) hx11
  refine st_call (cx_call hc12 (ent_f hc12.fn rfl) hn0 (show Hp S0 σ0 _ ([Ch.ro 0 (Sl ax_0_1 x_0.2.1 cx_0_1) x_0.2.1] ++ [Ch.bx n0 b1 0 [(I x_0.1), (Sl ax_0_1 x_0.2.1 cx_0_1), (I x_0.2.2)] [] [], Ch.ro 0 (Sl ax_0_1 x_0.2.1 cx_0_1) x_0.2.1]) from (H.sel' [1, 0, 1] rfl rfl))) (wanted_yes rfl (by exact (congrArg some hb8))) ?_
  rintro _ σ13 ⟨_, ⟨rfl, rfl⟩, H, -⟩
  replace H : Hp S0 σ0 σ13 [Ch.bx n0 b1 0 [(I x_0.1), (Sl ax_0_1 x_0.2.1 cx_0_1), (I x_0.2.2)] [] [], Ch.ro 0 (Sl ax_0_1 x_0.2.1 cx_0_1) x_0.2.1] := H
  refine st (v := (B r10)) (rv_pick_t (congrArg B hb8) rfl) ?_
  refine st (v := (B r10)) (rv_move rfl) ?_
  rcases Bool.eq_false_or_eq_true r10 with hb14 | hb14
  ·replace h := bif_t hb14 h
   refine st_g (v := (pt b1 2)) (congrArg some hb14) (rv_fieldAddr (off := 2) (ft := 3) Try.underlying32 rfl ti3 rfl rfl) ?_
   have hc15 := H.cell (u := (I x_0.2.2)) (o' := 2) 0 2 rfl rfl rfl
   refine st_g (v := (I x_0.2.2)) (congrArg some hb14) (rv_load1 Try.underlying3 rfl rfl hc15) ?_
   obtain ⟨r16, hx17, h'⟩ := bind_some h
   clear h
   have h := h'; clear h'
   have hc18 := c_impl_validTags hx17
   refine st_call (cx_call hc18 (ent_f hc18.fn rfl) hn0 (show Hp S0 σ0 _ ([] ++ [Ch.bx n0 b1 0 [(I x_0.1), (Sl ax_0_1 x_0.2.1 cx_0_1), (I x_0.2.2)] [] [], Ch.ro 0 (Sl ax_0_1 x_0.2.1 cx_0_1) x_0.2.1]) from (H.sel' [0, 1] rfl rfl))) (wanted_yes rfl (by exact (congrArg some hb14))) ?_
   rintro _ σ19 ⟨_, ⟨rfl, rfl⟩, H, -⟩
   replace H : Hp S0 σ0 σ19 [Ch.bx n0 b1 0 [(I x_0.1), (Sl ax_0_1 x_0.2.1 cx_0_1), (I x_0.2.2)] [] [], Ch.ro 0 (Sl ax_0_1 x_0.2.1 cx_0_1) x_0.2.1] := H
   refine st (v := (B r16)) (rv_pick_t (congrArg B hb14) rfl) ?_
   refine st (v := (B r16)) (rv_assign rfl) ?_
   refine w_end ?_
   refine q_then ?_
   refine c_ret ?_
   obtain rfl := Option.some.inj h
   exact fin_ret (v := (B r16)) (results_ok Try.results68 (res_tmp (v := (B r16)) rfl res_nil) rfl) ⟨rfl, rfl⟩ (H.sel' [] rfl rfl)
  ·replace h := bif_f hb14 h
   refine st_skip (congrArg some hb14) ?_
   refine st_skip (congrArg some hb14) ?_
   refine st_skip (congrArg some hb14) ?_
   refine st (v := (B false)) (rv_pick_f (congrArg B hb14) rfl) ?_
   refine st (v := (B false)) (rv_assign rfl) ?_
   refine w_end ?_
   refine q_then ?_
   refine c_ret ?_
   obtain rfl := Option.some.inj h
   exact fin_ret (v := (B false)) (results_ok Try.results68 (res_tmp (v := (B false)) rfl res_nil) rfl) ⟨rfl, rfl⟩ (H.sel' [] rfl rfl)
 ·replace h := bif_f hb8 h
  refine st_skip (congrArg some hb8) ?_
  refine st_skip (congrArg some hb8) ?_
  refine st_skip (congrArg some hb8) ?_
  refine st (v := (B false)) (rv_pick_f (congrArg B hb8) rfl) ?_
  refine st (v := (B false)) (rv_move rfl) ?_
  refine st_skip rfl ?_
  refine st_skip rfl ?_
  refine st_skip rfl ?_
  refine st (v := (B false)) (rv_pick_f rfl rfl) ?_
  refine st (v := (B false)) (rv_assign rfl) ?_
  refine w_end ?_
  refine q_then ?_
  refine c_ret ?_
  obtain rfl := Option.some.inj h
  exact fin_ret (v := (B false)) (results_ok Try.results68 (res_tmp (v := (B false)) rfl res_nil) rfl) ⟨rfl, rfl⟩ (H.sel' [] rfl rfl)

theorem c_impl_ValidStore {list_0 : List (Int × (List Int) × Int)} {alist_0 : Option Addr} {clist_0 : Nat} {r : Bool} (h : M.impl_ValidStore list_0 = some r) :
    Cal2 Try.prog 26 [(Sl alist_0 list_0 clist_0)] [Ch.ro 0 (Sl alist_0 list_0 clist_0) list_0] (fun n0 v L => v = (B r) ∧ L = []) := by
 refine cal2 (n := 27) Try.func26 rfl rfl rfl rfl ?_
 intro S0 σ0 n0 hn0 H
 unfold M.impl_ValidStore at h
 refine c_seq ?_
 refine rg ?_
 refine st (v := (B false)) (rv_assign rfl) ?_
 refine w_end ?_
 refine q_then ?_
 refine c_seq ?_
 refine c_seq ?_
 refine rg ?_
 refine st (v := (Sl alist_0 list_0 clist_0)) (rv_move rfl) ?_
 refine st (v := (I (list_0.length : Int))) (rv_len Try.underlying23 rfl) ?_
 refine st (v := (B (decide (16 < (list_0.length : Int))))) (rv_gtr (a := (list_0.length : Int)) (b := 16) rfl rfl) ?_
 refine w_end ?_
 refine q_then ?_
 refine cd_cond (decide (16 < (list_0.length : Int))) rfl (fun hb1 => ?_) (fun hb1 => ?_)
 ·replace h := bif_t hb1 h
  refine c_seq ?_
  refine rg ?_
  refine st (v := (B false)) (rv_assign rfl) ?_
  refine w_end ?_
  refine q_then ?_
  refine c_ret ?_
  refine q_then_r ?_
  obtain rfl := Option.some.inj h
  exact fin_ret (v := (B false)) (results_ok Try.results26 (res_tmp (v := (B false)) rfl res_nil) rfl) ⟨rfl, rfl⟩ (H.sel' [] rfl rfl)
 ·replace h := bif_f hb1 h
  refine c_skip ?_
  refine q_then ?_
  refine c_seq ?_
  refine rg ?_
  refine st (v := (I 0)) (rv_assign rfl) ?_
  refine w_end ?_
  refine q_then ?_
  refine c_seq ?_
  refine c_seq ?_
  refine rg ?_
  refine st (v := (Sl alist_0 list_0 clist_0)) (rv_move rfl) ?_
  refine st (v := (I (list_0.length : Int))) (rv_len Try.underlying23 rfl) ?_
  refine st (v := (I 0)) (rv_move rfl) ?_
  refine w_end ?_
  refine q_then ?_
  obtain ⟨o2, hj, h'⟩ := bind_some h
  clear h
  refine c_cut (fun e a w => (∃ t, o2 = (.inl t) ∧ e = .normal ∧ ∃ (ρ : Nat → Value) (σ : St), a = fr 27 (updL ρ []) ∧ w = σ.w ∧ Hp S0 σ0 σ []) ∨ (∃ t, o2 = (.inr t) ∧ e = .ret ∧ ∃ (ρ : Nat → Value) (σ : St), a = fr 27 (updL ρ [(2, (B t))]) ∧ w = σ.w ∧ Hp S0 σ0 σ [])) ?_ ?_
  ·clear h'
   rename _ = some o2 => h
   refine c_blk ?_
   refine wp_loopM _ h (fun s3 a w => ∃ (ρ : Nat → Value) (σ : St), a = fr 27 (updL ρ [(3, (I s3.1)), (9, (Sl alist_0 list_0 clist_0)), (10, (I (list_0.length : Int))), (11, (I s3.2))]) ∧ w = σ.w ∧ Hp S0 σ0 σ [Ch.ro 0 (Sl alist_0 list_0 clist_0) list_0]) ⟨_, σ0, fr_join ⟨rfl, rfl, rfl, rfl, trivial⟩, rfl, H.sel' [0] rfl rfl⟩ ?_
   clear h H
   rintro s3 a w o ⟨ρ, σ4, rfl, rfl, H⟩ h hres
   refine c_seq ?_
   refine rg ?_
   refine st (v := (B (decide (s3.2 < (list_0.length : Int))))) (rv_lss (a := s3.2) (b := (list_0.length : Int)) rfl rfl) ?_
   refine w_end ?_
   refine q_then ?_
   refine c_seq ?_
   refine cd_cond (decide (s3.2 < (list_0.length : Int))) rfl (fun hb5 => ?_) (fun hb5 => ?_)
   ·replace h := bif_t hb5 h
    refine c_skip ?_
    refine q_then ?_
    refine c_seq ?_
    refine c_blk ?_
    refine c_seq ?_
    refine rg ?_
    obtain ⟨x6, hx7, h'⟩ := bind_some h
    clear h
    have h := h'; clear h'
    obtain ⟨b9, o10, hi8, -⟩ := (H.ro 0 rfl).ix hx7
    refine st (v := (pt b9 o10)) (rv_ix Try.underlying23 ti32 rfl rfl hi8) ?_
    obtain ⟨_, ⟨_, _, rfl, rfl, ⟨_, _, rfl, ⟨_, rfl, hR15⟩, rfl⟩⟩, hl11, hc12⟩ := ((H.ro 0 rfl).at hx7 hi8).cells
    obtain ⟨a13, c14, rfl⟩ := hR15.isSl
    replace H := H.add (d := Ch.ro 0 (Sl a13 x6.2.1 c14) x6.2.1) hR15 (fun _ h => h)
    clear hR15
    refine st (v := (.agg #[(I x6.1), (Sl a13 x6.2.1 c14), (I x6.2.2)])) (rv_load Try.underlying32 rfl ti32 rfl hl11 hc12) ?_
    refine st_ex (ex_alloc (cs := [(I 0), (.slice none 0 0), (I 0)]) H hn0 ti32 rfl) wn ?_
    rintro _ σ17 ⟨b16, rfl, H, -⟩
    refine st_exS (ex_store_box (k := 0) (cs := [(I 0), (.slice none 0 0), (I 0)]) (vs := [(I x6.1), (Sl a13 x6.2.1 c14), (I x6.2.2)]) (cs' := [(I x6.1), (Sl a13 x6.2.1 c14), (I x6.2.2)]) H (i := 0) rfl ti32 rfl rfl rfl rfl rfl (Nat.le_of_ble_eq_true rfl) (by simp [plain]) rfl) wn ?_
    rintro σ18 ⟨H, -⟩
    refine w_end ?_
    refine q_then ?_
    refine c_seq ?_
    refine c_seq ?_
    obtain ⟨o19, hj, h'⟩ := bind_some h
    clear h
    refine c_cut (fun e a w => e = .normal ∧ ∃ (ρ : Nat → Value) (σ : St), a = fr 27 (updL ρ [(5, (pt b16 0)), (9, (Sl alist_0 list_0 clist_0)), (10, (I (list_0.length : Int))), (11, (I s3.2)), (23, (B o19))]) ∧ w = σ.w ∧ Hp S0 σ0 σ [Ch.ro 0 (Sl a13 x6.2.1 c14) x6.2.1, Ch.bx n0 b16 0 [(I x6.1), (Sl a13 x6.2.1 c14), (I x6.2.2)] [] [], Ch.ro 0 (Sl alist_0 list_0 clist_0) list_0]) ?_ ?_
    ·clear h'
     rename _ = some o19 => h
     refine rg ?_
     have hc20 := H.cells 0 rfl
     refine st (v := (.agg #[(I x6.1), (Sl a13 x6.2.1 c14), (I x6.2.2)])) (rv_load (cs := [(I x6.1), (Sl a13 x6.2.1 c14), (I x6.2.2)]) Try.underlying32 rfl ti32 rfl rfl hc20) ?_
     obtain ⟨r21, hx22, h'⟩ := bind_some h
     clear h
     have h := h'; clear h'
     have hc23 := c_impl_validItem (ax_0_1 := a13) (cx_0_1 := c14) hx22
     refine st_call (cx_call hc23 (ent_f hc23.fn rfl) hn0 (show Hp S0 σ0 _ ([Ch.ro 0 (Sl a13 x6.2.1 c14) x6.2.1] ++ [Ch.bx n0 b16 0 [(I x6.1), (Sl a13 x6.2.1 c14), (I x6.2.2)] [] [], Ch.ro 0 (Sl a13 x6.2.1 c14) x6.2.1, Ch.ro 0 (Sl alist_0 list_0 clist_0) list_0]) from (H.sel' [1, 0, 1, 2] rfl rfl))) wn ?_
     rintro _ σ24 ⟨_, ⟨rfl, rfl⟩, H, -⟩
     replace H : Hp S0 σ0 σ24 [Ch.bx n0 b16 0 [(I x6.1), (Sl a13 x6.2.1 c14), (I x6.2.2)] [] [], Ch.ro 0 (Sl a13 x6.2.1 c14) x6.2.1, Ch.ro 0 (Sl alist_0 list_0 clist_0) list_0] := H
     refine st (v := (B (!r21))) (rv_not rfl) ?_
     refine st (v := (B (!r21))) (rv_move rfl) ?_
     rcases Bool.eq_false_or_eq_true (!r21) with hb25 | hb25
     ·replace h := bif_t hb25 h
      refine st_skip (congrArg some hb25) ?_
      refine st_skip (congrArg some hb25) ?_
      refine st_skip (congrArg some hb25) ?_
      refine st_skip (congrArg some hb25) ?_
      refine st (v := (B true)) (rv_pick_t (congrArg B hb25) rfl) ?_
      refine w_end ?_
      obtain rfl := Option.some.inj h
      exact ⟨rfl, _, σ24, fr_join ⟨rfl, rfl, rfl, rfl, rfl, trivial⟩, rfl, H.sel' [1, 0, 2] rfl rfl⟩
     ·replace h := bif_f hb25 h
      refine st_g (v := (pt b16 0)) (congrArg some hb25) (rv_fieldAddr (off := 0) (ft := 3) Try.underlying32 rfl ti3 rfl rfl) ?_
      have hc26 := H.cell (u := (I x6.1)) (o' := 0) 0 0 rfl rfl rfl
      refine st_g (v := (I x6.1)) (congrArg some hb25) (rv_load1 Try.underlying3 rfl rfl hc26) ?_
      refine st_g (v := (I s3.1)) (congrArg some hb25) (rv_move rfl) ?_
      refine st_g (v := (B (decide (x6.1 ≤ s3.1)))) (congrArg some hb25) (rv_leq (a := x6.1) (b := s3.1) rfl rfl) ?_
      refine st (v := (B (decide (x6.1 ≤ s3.1)))) (rv_pick_f (congrArg B hb25) rfl) ?_
      refine w_end ?_
      obtain rfl := Option.some.inj h
      exact ⟨rfl, _, σ24, fr_join ⟨rfl, rfl, rfl, rfl, rfl, trivial⟩, rfl, H.sel' [1, 0, 2] rfl rfl⟩
    ·clear hj
     have h := h'
     clear h' H
     rintro e a w ⟨rfl, ρ, σ27, rfl, rfl, H⟩
     refine q_then ?_
     refine cd_cond o19 rfl (fun hb28 => ?_) (fun hb28 => ?_)
     ·replace h := bif_t hb28 h
      refine c_seq ?_
      refine rg ?_
      refine st (v := (B false)) (rv_assign rfl) ?_
      refine w_end ?_
      refine q_then ?_
      refine c_ret ?_
      refine q_then_r ?_
      refine q_blk_r ?_
      refine q_then_r ?_
      refine q_then_r ?_
      refine q_blk_r ?_
      obtain rfl := Option.some.inj h
      obtain rfl := hres _ rfl
      exact .inr (⟨_, rfl, rfl, _, σ27, fr_join ⟨rfl, trivial⟩, rfl, H.sel' [] rfl rfl⟩)
     ·replace h := bif_f hb28 h
      refine c_skip ?_
      refine q_then ?_
      refine rg ?_
      refine st (v := (pt b16 0)) (rv_fieldAddr (off := 0) (ft := 3) Try.underlying32 rfl ti3 rfl rfl) ?_
      have hc29 := H.cell (u := (I x6.1)) (o' := 0) 1 0 rfl rfl rfl
      refine st (v := (I x6.1)) (rv_load1 Try.underlying3 rfl rfl hc29) ?_
      refine st (v := (I x6.1)) (rv_assign rfl) ?_
      refine w_end ?_
      refine q_blk ?_
      refine q_then ?_
      refine rg ?_
      refine st (v := (I (w64 (s3.2 + 1)))) (rv_add (a := s3.2) (b := 1) rfl rfl) ?_
      refine st (v := (I (w64 (s3.2 + 1)))) (rv_move rfl) ?_
      refine w_end ?_
      refine q_then ?_
      obtain rfl := Option.some.inj h
      exact ⟨_, rfl, _, σ27, fr_join ⟨rfl, rfl, rfl, rfl, trivial⟩, rfl, H.sel' [2] rfl rfl⟩
   ·replace h := bif_f hb5 h
    refine c_exit ?_
    refine q_then_x ?_
    refine q_then_x ?_
    refine q_blk_hit ?_
    obtain rfl := Option.some.inj h
    obtain rfl := hres _ rfl
    exact .inl ⟨_, rfl, rfl, _, σ4, fr_join trivial, rfl, H.sel' [] rfl rfl⟩
  ·clear hj
   have h := h'
   clear h' H
   rintro e a w (⟨t30, rfl, rfl, ρ, σ31, rfl, rfl, H⟩ | ⟨t32, rfl, rfl, ρ, σ33, rfl, rfl, H⟩)
   ·replace h := selim_l h
    refine q_then ?_
    refine c_seq ?_
    refine rg ?_
    refine st (v := (B true)) (rv_assign rfl) ?_
    refine w_end ?_
    refine q_then ?_
    refine c_ret ?_
    obtain rfl := Option.some.inj h
    exact fin_ret (v := (B true)) (results_ok Try.results26 (res_tmp (v := (B true)) rfl res_nil) rfl) ⟨rfl, rfl⟩ (H.sel' [] rfl rfl)
   ·replace h := selim_r h
    refine q_then_r ?_
    obtain rfl := Option.some.inj h
    exact fin_ret (v := (B t32)) (results_ok Try.results26 (res_tmp (v := (B t32)) rfl res_nil) rfl) ⟨rfl, rfl⟩ (H.sel' [] rfl rfl)

theorem c_impl_ValidFilter {f_0 : Int × Int × Int}  {r : Bool} (h : M.impl_ValidFilter f_0 = some r) :
    Cal2 Try.prog 27 [(.agg #[(I f_0.1), (I f_0.2.1), (I f_0.2.2)])] [] (fun n0 v L => v = (B r) ∧ L = []) := by
 refine cal2 (n := 16) Try.func27 rfl rfl rfl rfl ?_
 intro S0 σ0 n0 hn0 H
 unfold M.impl_ValidFilter at h
 refine c_seq ?_
 refine rg ?_
 refine st_ex (ex_box (cs := [(I f_0.1), (I f_0.2.1), (I f_0.2.2)]) H hn0 rfl rfl) wn ?_
 rintro _ σ2 ⟨b1, rfl, H, -⟩
 refine st (v := (B false)) (rv_assign rfl) ?_
 refine w_end ?_
 refine q_then ?_
 refine c_seq ?_
 refine rg ?_
 refine st (v := (pt b1 0)) (rv_fieldAddr (off := 0) (ft := 3) Try.underlying38 rfl ti3 rfl rfl) ?_
 have hc3 := H.cell (u := (I f_0.1)) (o' := 0) 0 0 rfl rfl rfl
 refine st (v := (I f_0.1)) (rv_load1 Try.underlying3 rfl rfl hc3) ?_
 obtain ⟨r4, hx5, h'⟩ := bind_some h
 clear h
 have h := h'; clear h'
 have hc6 := c_impl_validTags hx5
 refine st_call (cx_call hc6 (ent_f hc6.fn rfl) hn0 (show Hp S0 σ0 _ ([] ++ [Ch.bx n0 b1 0 [(I f_0.1), (I f_0.2.1), (I f_0.2.2)] [] []]) from (H.sel' [0] rfl rfl))) wn ?_
 rintro _ σ7 ⟨_, ⟨rfl, rfl⟩, H, -⟩
 replace H : Hp S0 σ0 σ7 [Ch.bx n0 b1 0 [(I f_0.1), (I f_0.2.1), (I f_0.2.2)] [] []] := H
 refine st (v := (B r4)) (rv_move rfl) ?_
 rcases Bool.eq_false_or_eq_true r4 with hb8 | hb8
 ·replace h := bif_t hb8 h
  refine st_g (v := (pt b1 1)) (congrArg some hb8) (rv_fieldAddr (off := 1) (ft := 3) Try.underlying38 rfl ti3 rfl rfl) ?_
  have hc9 := H.cell (u := (I f_0.2.1)) (o' := 1) 0 1 rfl rfl rfl
  refine st_g (v := (I f_0.2.1)) (congrArg some hb8) (rv_load1 Try.underlying3 rfl rfl hc9) ?_
  obtain ⟨r10, hx11, h'⟩ := bind_some h
  clear h
  have h := h'; clear h'
  have hc12 := c_impl_validTags hx11
  refine st_call (cx_call hc12 (ent_f hc12.fn rfl) hn0 (show Hp S0 σ0 _ ([] ++ [Ch.bx n0 b1 0 [(I f_0.1), (I f_0.2.1), (I f_0.2.2)] [] []]) from (H.sel' [0] rfl rfl))) (wanted_yes rfl (by exact (congrArg some hb8))) ?_
  rintro _ σ13 ⟨_, ⟨rfl, rfl⟩, H, -⟩
  replace H : Hp S0 σ0 σ13 [Ch.bx n0 b1 0 [(I f_0.1), (I f_0.2.1), (I f_0.2.2)] [] []] := H
  refine st (v := (B r10)) (rv_pick_t (congrArg B hb8) rfl) ?_
  refine st (v := (B r10)) (rv_move rfl) ?_
  rcases Bool.eq_false_or_eq_true r10 with hb14 | hb14
  ·replace h := bif_t hb14 h
   refine st_g (v := (pt b1 2)) (congrArg some hb14) (rv_fieldAddr (off := 2) (ft := 3) Try.underlying38 rfl ti3 rfl rfl) ?_
   have hc15 := H.cell (u := (I f_0.2.2)) (o' := 2) 0 2 rfl rfl rfl
   refine st_g (v := (I f_0.2.2)) (congrArg some hb14) (rv_load1 Try.underlying3 rfl rfl hc15) ?_
   obtain ⟨r16, hx17, h'⟩ := bind_some h
   clear h
   have h := h'; clear h'
   have hc18 := c_impl_validTags hx17
   refine st_call (cx_call hc18 (ent_f hc18.fn rfl) hn0 (show Hp S0 σ0 _ ([] ++ [Ch.bx n0 b1 0 [(I f_0.1), (I f_0.2.1), (I f_0.2.2)] [] []]) from (H.sel' [0] rfl rfl))) (wanted_yes rfl (by exact (congrArg some hb14))) ?_
   rintro _ σ19 ⟨_, ⟨rfl, rfl⟩, H, -⟩
   replace H : Hp S0 σ0 σ19 [Ch.bx n0 b1 0 [(I f_0.1), (I f_0.2.1), (I f_0.2.2)] [] []] := H
   refine st (v := (B r16)) (rv_pick_t (congrArg B hb14) rfl) ?_
   refine st (v := (B r16)) (rv_assign rfl) ?_
   refine w_end ?_
   refine q_then ?_
   refine c_ret ?_
   obtain rfl := Option.some.inj h
   exact fin_ret (v := (B r16)) (results_ok Try.results27 (res_tmp (v := (B r16)) rfl res_nil) rfl) ⟨rfl, rfl⟩ (H.sel' [] rfl rfl)
  ·replace h := bif_f hb14 h
   refine st_skip (congrArg some hb14) ?_
   refine st_skip (congrArg some hb14) ?_
   refine st_skip (congrArg some hb14) ?_
   refine st (v := (B false)) (rv_pick_f (congrArg B hb14) rfl) ?_
   refine st (v := (B false)) (rv_assign rfl) ?_
   refine w_end ?_
   refine q_then ?_
   refine c_ret ?_
   obtain rfl := Option.some.inj h
   exact fin_ret (v := (B false)) (results_ok Try.results27 (res_tmp (v := (B false)) rfl res_nil) rfl) ⟨rfl, rfl⟩ (H.sel' [] rfl rfl)
 ·replace h := bif_f hb8 h
  refine st_skip (congrArg some hb8) ?_
  refine st_skip (congrArg some hb8) ?_
  refine st_skip (congrArg some hb8) ?_
  refine st (v := (B false)) (rv_pick_f (congrArg B hb8) rfl) ?_
  refine st (v := (B false)) (rv_move rfl) ?_
  refine st_skip rfl ?_
  refine st_skip rfl ?_
  refine st_skip rfl ?_
  refine st (v := (B false)) (rv_pick_f rfl rfl) ?_
  refine st (v := (B false)) (rv_assign rfl) ?_
  refine w_end ?_
  refine q_then ?_
  refine c_ret ?_
  obtain rfl := Option.some.inj h
  exact fin_ret (v := (B false)) (results_ok Try.results27 (res_tmp (v := (B false)) rfl res_nil) rfl) ⟨rfl, rfl⟩ (H.sel' [] rfl rfl)

theorem c_slices_Clone_int_int {s_0 : List Int} {as_0 : Option Addr} {cs_0 : Nat} {r : (List Int)} (h : M.slices_Clone_int_int s_0 = some r) :
    Cal2 Try.prog 120 [(Sl as_0 s_0 cs_0)] [Ch.ro 0 (Sl as_0 s_0 cs_0) s_0] (fun n0 v L => ∃ (az1 : Option Addr), ∃ (cz2 : Nat), v = (Sl az1 r cz2) ∧ L = [Ch.own n0 n0 (Sl az1 r cz2) r]) := by
 refine cal2 (n := 8) Try.func120 rfl rfl rfl rfl ?_
 intro S0 σ0 n0 hn0 H
 unfold M.slices_Clone_int_int at h
 refine c_seq ?_
 refine rg ?_
 refine st (v := (.slice none 0 0)) (rv_assign rfl) ?_
 refine w_end ?_
 refine q_then ?_
 refine c_seq ?_
 refine c_seq ?_
 refine rg ?_
 refine st (v := (Sl as_0 s_0 cs_0)) (rv_move rfl) ?_
 refine st (v := (B as_0.isNone)) (rv_nilS Try.underlying30 rfl rfl) ?_
 refine w_end ?_
 refine q_then ?_
 refine cd_cond as_0.isNone rfl (fun hb1 => ?_) (fun hb1 => ?_)
 ·have hq := RS.nilOf hb1 (H.ro 0 rfl)
  subst hq
  replace h : some [] = some r := by simpa [gapp] using h
  refine c_seq ?_
  refine rg ?_
  refine st (v := (.slice none 0 0)) (rv_assign rfl) ?_
  refine w_end ?_
  refine q_then ?_
  refine c_ret ?_
  refine q_then_r ?_
  replace H := H.nilOwn Int n0 n0
  obtain rfl := Option.some.inj h
  exact fin_ret (v := (.slice none 0 0)) (results_ok Try.results120 (res_tmp (v := (.slice none 0 0)) rfl res_nil) rfl) ⟨none, 0, rfl, rfl⟩ (H.sel' [0] rfl rfl)
 ·refine c_skip ?_
  refine q_then ?_
  refine c_seq ?_
  refine rg ?_
  refine st_ex (ex_buildSlice (el := n0) (xs := ([] : List Int)) (ps := []) (cs := []) H hn0 Try.underlying30 ti3 rfl rfl (by kernel_rfl) (.nil) rfl) wn ?_
  rintro _ σ3 ⟨b2, rfl, H, -⟩
  refine st (v := (Sl as_0 s_0 cs_0)) (rv_move rfl) ?_
  obtain ⟨xs4, hx5, h'⟩ := bind_some h
  clear h
  have h := h'; clear h'
  refine st_ex (ex_append H (i := 0) rfl Try.underlying30 Try.underlying30 ti3 rfl rfl (by decide) ((H.ro 1 rfl).rd.sc) hx5 hn0 rfl rfl) wn ?_
  rintro _ σ8 ⟨a6, c7, rfl, H, -⟩
  refine st (v := (Sl a6 xs4 c7)) (rv_assign rfl) ?_
  refine w_end ?_
  refine q_then ?_
  refine c_ret ?_
  obtain rfl := Option.some.inj h
  exact fin_ret (v := (Sl a6 xs4 c7)) (results_ok Try.results120 (res_tmp (v := (Sl a6 xs4 c7)) rfl res_nil) rfl) ⟨a6, c7, rfl, rfl⟩ (H.sel' [0] rfl rfl)

theorem c_impl_copyItem {x_0 : Int × (List Int) × Int} {ax_0_1 : Option Addr} {cx_0_1 : Nat} {r : (Int × (List Int) × Int)} (h : M.impl_copyItem x_0 = some r) :
    Cal2 Try.prog 96 [(.agg #[(I x_0.1), (Sl ax_0_1 x_0.2.1 cx_0_1), (I x_0.2.2)])] [Ch.ro 0 (Sl ax_0_1 x_0.2.1 cx_0_1) x_0.2.1] (fun n0 v L => ∃ (az1 : Option Addr), ∃ (cz2 : Nat), v = (.agg #[(I r.1), (Sl az1 r.2.1 cz2), (I r.2.2)]) ∧ L = [Ch.own n0 n0 (Sl az1 r.2.1 cz2) r.2.1]) := by
 refine cal2 (n := 11) Try.func96 rfl rfl rfl rfl ?_
 intro S0 σ0 n0 hn0 H
 unfold M.impl_copyItem at h
 refine c_seq ?_
 refine rg ?_
 refine st_ex (ex_box (cs := [(I x_0.1), (Sl ax_0_1 x_0.2.1 cx_0_1), (I x_0.2.2)]) H hn0 rfl rfl) wn ?_
 rintro _ σ2 ⟨b1, rfl, H, -⟩
 refine st_ex (ex_alloc (cs := [(I 0), (.slice none 0 0), (I 0)]) H hn0 ti32 rfl) wn ?_
 rintro _ σ4 ⟨b3, rfl, H, -⟩
 refine w_end ?_
 refine q_then ?_
 refine c_seq ?_
 have hc5 := H.cell (u := (I x_0.1)) (o' := 0) 1 0 rfl rfl rfl
 have hc6 := H.cell (u := (Sl ax_0_1 x_0.2.1 cx_0_1)) (o' := 1) 1 1 rfl rfl rfl
 obtain ⟨r7, hx8, h'⟩ := bind_some h
 clear h
 have h := h'; clear h'
 have hc9 := c_slices_Clone_int_int (as_0 := ax_0_1) (cs_0 := cx_0_1) hx8
 have hc12 := H.cell (u := (I x_0.2.2)) (o' := 2) 1 2 rfl rfl rfl
 have Hs := H
 refine rg2 (σ := σ4) (Nm := (Option Addr) × (Nat)) 7 [4] [[false], [true]] [[(0, 0), (1, 1)], [(0, 0), (1, 1)], [(0, 0)], [(0, 0)], [(0, 1)], [(0, 0), (1, 1)], [(0, 0), (1, 1)]] 1 [fun ((a10, c11) : (Option Addr) × (Nat)) => fun σm => Hp S0 σ0 σm [Ch.bx n0 b3 0 [(I 0), (.slice none 0 0), (I 0)] [] [], Ch.bx n0 b1 0 [(I x_0.1), (Sl ax_0_1 x_0.2.1 cx_0_1), (I x_0.2.2)] [] [], Ch.ro 0 (Sl ax_0_1 x_0.2.1 cx_0_1) x_0.2.1] ∧ Md (cov []) σ4 σm, fun ((a10, c11) : (Option Addr) × (Nat)) => fun σm => Hp S0 σ0 σm [Ch.own n0 n0 (Sl a10 r7 c11) r7, Ch.bx n0 b3 0 [(I 0), (.slice none 0 0), (I 0)] [] [], Ch.bx n0 b1 0 [(I x_0.1), (Sl ax_0_1 x_0.2.1 cx_0_1), (I x_0.2.2)] [] [], Ch.ro 0 (Sl ax_0_1 x_0.2.1 cx_0_1) x_0.2.1] ∧ Md (cov []) σ4 σm] [fun ((a10, c11) : (Option Addr) × (Nat)) => (pt b1 0), fun ((a10, c11) : (Option Addr) × (Nat)) => (I x_0.1), fun ((a10, c11) : (Option Addr) × (Nat)) => (pt b1 1), fun ((a10, c11) : (Option Addr) × (Nat)) => (Sl ax_0_1 x_0.2.1 cx_0_1), fun ((a10, c11) : (Option Addr) × (Nat)) => (Sl a10 r7 c11), fun ((a10, c11) : (Option Addr) × (Nat)) => (pt b1 2), fun ((a10, c11) : (Option Addr) × (Nat)) => (I x_0.2.2)] (none, 0) (by kernel_rfl) (by kernel_rfl) ?_ ?_ ?_
 ·intro σm m0
  exact ⟨H.grow (m0.mono fun _ h => h.elim), m0⟩
 ·refine ac rfl (by
    intro k; rintro ⟨a10, c11⟩ ρ σm hJ hoff hdep
    have e1 := look_off (N := 11) (hoff 1 rfl) rfl
    exact dp_v (v := (pt b1 0)) wn (rv_fieldAddr (off := 0) (ft := 3) Try.underlying32 rfl ti3 rfl e1) rfl hJ) ?_
  refine all_cons (by
    refine ⟨?_, ?_⟩
    ·rintro ⟨a10, c11⟩ ρ σm hJ hoff hdep
     have e3 := hdep 0 rfl rfl 3 rfl
     obtain ⟨H, m⟩ := id hJ
     have hc5 := H.cell (u := (I x_0.1)) (o' := 0) 1 0 rfl rfl rfl
     exact dp_v (v := (I x_0.1)) wn (rv_load1 Try.underlying3 rfl e3 hc5) rfl hJ
    refine ⟨?_, ?_⟩
    ·rintro ⟨a10, c11⟩ ρ σm hJ hoff hdep
     have e3 := hdep 0 rfl rfl 3 rfl
     obtain ⟨H, m⟩ := id hJ
     have hc5 := H.cell (u := (I x_0.1)) (o' := 0) 2 0 rfl rfl rfl
     exact dp_v (v := (I x_0.1)) wn (rv_load1 Try.underlying3 rfl e3 hc5) rfl hJ
    trivial) ?_
  refine ac rfl (by
    intro k; rintro ⟨a10, c11⟩ ρ σm hJ hoff hdep
    have e1 := look_off (N := 11) (hoff 1 rfl) rfl
    exact dp_v (v := (pt b1 1)) wn (rv_fieldAddr (off := 1) (ft := 30) Try.underlying32 rfl ti30 rfl e1) rfl hJ) ?_
  refine all_cons (by
    refine ⟨?_, ?_⟩
    ·rintro ⟨a10, c11⟩ ρ σm hJ hoff hdep
     have e5 := hdep 2 rfl rfl 5 rfl
     obtain ⟨H, m⟩ := id hJ
     have hc6 := H.cell (u := (Sl ax_0_1 x_0.2.1 cx_0_1)) (o' := 1) 1 1 rfl rfl rfl
     exact dp_v (v := (Sl ax_0_1 x_0.2.1 cx_0_1)) wn (rv_load1 Try.underlying30 rfl e5 hc6) rfl hJ
    trivial) ?_
  refine all_cons (by
    refine ⟨?_, ?_⟩
    ·rintro ⟨a10, c11⟩ ρ σm hJ hoff hdep
     have e6 : look 11 ρ 6 = (Sl ax_0_1 x_0.2.1 cx_0_1) := hdep 3 rfl rfl 6 rfl
     obtain ⟨H, m⟩ := id hJ
     refine dp_cx wn (cx_call hc9 (ent_f hc9.fn (by show [look 11 ρ 6] = _; rw [e6])) hn0 (show Hp S0 σ0 _ ([Ch.ro 0 (Sl ax_0_1 x_0.2.1 cx_0_1) x_0.2.1] ++ [Ch.bx n0 b3 0 [(I 0), (.slice none 0 0), (I 0)] [] [], Ch.bx n0 b1 0 [(I x_0.1), (Sl ax_0_1 x_0.2.1 cx_0_1), (I x_0.2.2)] [] [], Ch.ro 0 (Sl ax_0_1 x_0.2.1 cx_0_1) x_0.2.1]) from (H.sel' [2, 0, 1, 2] rfl rfl))) ?_
     rintro _ σq ⟨_, ⟨a10x, c11x, rfl, rfl⟩, H2, m2⟩
     exact ⟨_, (a10x, c11x), rfl, rfl, ⟨H2.sel' [0, 1, 2, 3] rfl rfl, m.comp0 (m2.mono (fun i h => by simp [cov, Ch.ro] at h))⟩, stab [0, 1, 2, 3, 5, 6] (by kernel_rfl) ⟨rfl, rfl, rfl, rfl, rfl, rfl, trivial⟩⟩
    trivial) ?_
  refine ac rfl (by
    intro k; rintro ⟨a10, c11⟩ ρ σm hJ hoff hdep
    have e1 := look_off (N := 11) (hoff 1 rfl) rfl
    exact dp_v (v := (pt b1 2)) wn (rv_fieldAddr (off := 2) (ft := 3) Try.underlying32 rfl ti3 rfl e1) rfl hJ) ?_
  refine all_cons (by
    refine ⟨?_, ?_⟩
    ·rintro ⟨a10, c11⟩ ρ σm hJ hoff hdep
     have e8 := hdep 5 rfl rfl 8 rfl
     obtain ⟨H, m⟩ := id hJ
     have hc12 := H.cell (u := (I x_0.2.2)) (o' := 2) 1 2 rfl rfl rfl
     exact dp_v (v := (I x_0.2.2)) wn (rv_load1 Try.underlying3 rfl e8 hc12) rfl hJ
    refine ⟨?_, ?_⟩
    ·rintro ⟨a10, c11⟩ ρ σm hJ hoff hdep
     have e8 := hdep 5 rfl rfl 8 rfl
     obtain ⟨H, m⟩ := id hJ
     have hc12 := H.cell (u := (I x_0.2.2)) (o' := 2) 2 2 rfl rfl rfl
     exact dp_v (v := (I x_0.2.2)) wn (rv_load1 Try.underlying3 rfl e8 hc12) rfl hJ
    trivial) ?_
  exact all_nil
 ·rintro ⟨a10, c11⟩ ρ σ13 hJ hoff hrel
  have e2 := look_off (N := 11) (hoff 2 rfl) rfl
  have e4 := hrel 1 rfl 4 rfl
  have e7 := hrel 4 rfl 7 rfl
  have e9 := hrel 6 rfl 9 rfl
  obtain ⟨H, -⟩ := (show Hp S0 σ0 σ13 [Ch.own n0 n0 (Sl a10 r7 c11) r7, Ch.bx n0 b3 0 [(I 0), (.slice none 0 0), (I 0)] [] [], Ch.bx n0 b1 0 [(I x_0.1), (Sl ax_0_1 x_0.2.1 cx_0_1), (I x_0.2.2)] [] [], Ch.ro 0 (Sl ax_0_1 x_0.2.1 cx_0_1) x_0.2.1] ∧ Md (cov []) σ4 σ13 from hJ)
  clear hJ Hs
  rw [fr_lookL (L := [(2, (pt b3 0)), (4, (I x_0.1)), (7, (Sl a10 r7 c11)), (9, (I x_0.2.2))]) ⟨e2, e4, e7, e9, trivial⟩]
  clear hoff hrel e2 e4 e7 e9
  refine st (v := (.agg #[(I x_0.1), (Sl a10 r7 c11), (I x_0.2.2)])) (rv_build (ps := [(0, (I x_0.1)), (1, (Sl a10 r7 c11)), (2, (I x_0.2.2))]) Try.underlying32 ti32 (bp32 Try.underlying32) rfl (by kernel_rfl)) ?_
  refine st_exS (ex_store_box (k := 0) (cs := [(I 0), (.slice none 0 0), (I 0)]) (vs := [(I x_0.1), (Sl a10 r7 c11), (I x_0.2.2)]) (cs' := [(I x_0.1), (Sl a10 r7 c11), (I x_0.2.2)]) H (i := 1) rfl ti32 rfl rfl rfl rfl rfl (Nat.le_of_ble_eq_true rfl) (by simp [plain]) rfl) wn ?_
  rintro σ14 ⟨H, -⟩
  refine w_end ?_
  refine q_then ?_
  refine c_ret ?_
  obtain rfl := Option.some.inj h
  exact fin_ret (v := (.agg #[(I x_0.1), (Sl a10 r7 c11), (I x_0.2.2)])) (results_ok Try.results96 (res_cell rfl (run_cellRes (cs := [(I x_0.1), (Sl a10 r7 c11), (I x_0.2.2)]) Try.underlying32 rfl ti32 rfl (H.cells 0 rfl)) res_nil) rfl) ⟨a10, c11, rfl, rfl⟩ (H.sel' [1] rfl rfl)

theorem c_impl_copyItems {list_0 : List (Int × (List Int) × Int)} {alist_0 : Option Addr} {clist_0 : Nat} {r : (List (Int × (List Int) × Int))} (h : M.impl_copyItems list_0 = some r) :
    Cal2 Try.prog 61 [(Sl alist_0 list_0 clist_0)] [Ch.ro 0 (Sl alist_0 list_0 clist_0) list_0] (fun n0 v L => ∃ (az1 : Option Addr), ∃ (cz2 : Nat), ∃ (Kz3 : List Ch), v = (Sl az1 r cz2) ∧ L = [Ch.big Kz3] ∧ Dp 0 (Sl az1 r cz2) r Kz3 ∧ cz2 = r.length) := by
 refine cal2 (n := 23) Try.func61 rfl rfl rfl rfl ?_
 intro S0 σ0 n0 hn0 H
 unfold M.impl_copyItems at h
 refine c_seq ?_
 refine rg ?_
 refine st (v := (.slice none 0 0)) (rv_assign rfl) ?_
 refine w_end ?_
 refine q_then ?_
 refine c_seq ?_
 refine rg ?_
 refine st (v := (Sl alist_0 list_0 clist_0)) (rv_move rfl) ?_
 refine st (v := (I (list_0.length : Int))) (rv_len Try.underlying23 rfl) ?_
 obtain ⟨xs1, hx2, h'⟩ := bind_some h
 clear h
 have h := h'; clear h'
 obtain ⟨k7, he8, hv9⟩ := gmake_dp (zv := ((0, (.slice none 0 0), 0) : Int × Value × Int)) hx2
 refine st_ex (ex_make (el := n0) (z0 := ((0, (.slice none 0 0), 0) : Int × Value × Int)) (zs := [(I 0), (.slice none 0 0), (I 0)]) H hn0 Try.underlying23 ti32 rfl rfl (⟨[(I 0)], [(.slice none 0 0), (I 0)], rfl, rfl, ⟨[(.slice none 0 0)], [(I 0)], rfl, ⟨rfl, rfl⟩, rfl⟩⟩) (by decide) hv9 rfl rfl) wn ?_
 rintro _ σ13 ⟨b3, c4, rfl, ht5, H, -⟩
 have hs12 : (Sl (some ⟨b3, 0, none⟩) (List.replicate k7 ((0, (.slice none 0 0), 0) : Int × Value × Int)) c4) = (Sl (some ⟨b3, 0, none⟩) xs1 c4) := sl_len (by rw [he8]; simp)
 rw [hs12] at H ⊢
 obtain ⟨K10, hK11, H⟩ := H.dpMake (z := ((0, [], 0) : Int × List Int × Int)) rfl rfl
 rw [← he8] at hK11; clear he8 hv9 hs12
 replace ht5 := ht5.trans (gmake_len hx2).symm
 refine st (v := (Sl (some ⟨b3, 0, none⟩) xs1 c4)) (rv_assign rfl) ?_
 refine w_end ?_
 refine q_then ?_
 refine c_seq ?_
 refine c_seq ?_
 refine rg ?_
 refine st (v := (Sl alist_0 list_0 clist_0)) (rv_move rfl) ?_
 refine st (v := (I (list_0.length : Int))) (rv_len Try.underlying23 rfl) ?_
 refine st (v := (I 0)) (rv_move rfl) ?_
 refine w_end ?_
 refine q_then ?_
 obtain ⟨o14, hj, h'⟩ := bind_some h
 clear h
 refine c_cut (fun e a w => e = .normal ∧ ∃ (ρ : Nat → Value) (σ : St) (Kj1 : List Ch), a = fr 23 (updL ρ [(3, (Sl (some ⟨b3, 0, none⟩) o14 c4))]) ∧ w = σ.w ∧ Hp S0 σ0 σ [Ch.big Kj1] ∧ Dp n0 (Sl (some ⟨b3, 0, none⟩) o14 c4) o14 Kj1 ∧ c4 = o14.length ∧ o14.length = xs1.length) ?_ ?_
 ·clear h'
  rename _ = some o14 => h
  refine c_blk ?_
  refine wp_loopM _ h (fun s15 a w => ∃ (ρ : Nat → Value) (σ : St) (Kj1 : List Ch), a = fr 23 (updL ρ [(3, (Sl (some ⟨b3, 0, none⟩) s15.1 c4)), (9, (Sl alist_0 list_0 clist_0)), (10, (I (list_0.length : Int))), (11, (I s15.2))]) ∧ w = σ.w ∧ Hp S0 σ0 σ [Ch.big Kj1, Ch.ro 0 (Sl alist_0 list_0 clist_0) list_0] ∧ Dp n0 (Sl (some ⟨b3, 0, none⟩) s15.1 c4) s15.1 Kj1 ∧ c4 = s15.1.length ∧ s15.1.length = xs1.length) ⟨_, σ13, K10, fr_join ⟨rfl, rfl, rfl, rfl, trivial⟩, rfl, H.sel' [0, 1] rfl rfl, hK11, ht5, rfl⟩ ?_
  clear h H
  rintro s15 a w o ⟨ρ, σ16, K17, rfl, rfl, H, hK18, ht19, hn20⟩ h hres
  refine c_seq ?_
  refine rg ?_
  refine st (v := (B (decide (s15.2 < (list_0.length : Int))))) (rv_lss (a := s15.2) (b := (list_0.length : Int)) rfl rfl) ?_
  refine w_end ?_
  refine q_then ?_
  refine c_seq ?_
  refine cd_cond (decide (s15.2 < (list_0.length : Int))) rfl (fun hb21 => ?_) (fun hb21 => ?_)
  ·replace h := bif_t hb21 h
   refine c_skip ?_
   refine q_then ?_
   refine c_seq ?_
   refine c_blk ?_
   refine c_seq ?_
   refine rg ?_
   refine st (v := (I s15.2)) (rv_move rfl) ?_
   obtain ⟨x22, hx23, h'⟩ := bind_some h
   clear h
   have h := h'; clear h'
   obtain ⟨b25, o26, hi24, -⟩ := (H.ro 1 rfl).ix hx23
   refine st (v := (pt b25 o26)) (rv_ix Try.underlying23 ti32 rfl rfl hi24) ?_
   obtain ⟨_, ⟨_, _, rfl, rfl, ⟨_, _, rfl, ⟨_, rfl, hR31⟩, rfl⟩⟩, hl27, hc28⟩ := ((H.ro 1 rfl).at hx23 hi24).cells
   obtain ⟨a29, c30, rfl⟩ := hR31.isSl
   replace H := H.add (d := Ch.ro 0 (Sl a29 x22.2.1 c30) x22.2.1) hR31 (fun _ h => h)
   clear hR31
   refine st (v := (.agg #[(I x22.1), (Sl a29 x22.2.1 c30), (I x22.2.2)])) (rv_load Try.underlying32 rfl ti32 rfl hl27 hc28) ?_
   refine st_ex (ex_alloc (cs := [(I 0), (.slice none 0 0), (I 0)]) H hn0 ti32 rfl) wn ?_
   rintro _ σ33 ⟨b32, rfl, H, -⟩
   refine st (v := (I s15.2)) (rv_assign rfl) ?_
   refine st_exS (ex_store_box (k := 0) (cs := [(I 0), (.slice none 0 0), (I 0)]) (vs := [(I x22.1), (Sl a29 x22.2.1 c30), (I x22.2.2)]) (cs' := [(I x22.1), (Sl a29 x22.2.1 c30), (I x22.2.2)]) H (i := 0) rfl ti32 rfl rfl rfl rfl rfl (Nat.le_of_ble_eq_true rfl) (by simp [plain]) rfl) wn ?_
   rintro σ34 ⟨H, -⟩
   refine w_end ?_
   refine q_then ?_
   refine rg ?_
   refine st (v := (Sl (some ⟨b3, 0, none⟩) s15.1 c4)) (rv_move rfl) ?_
   refine st (v := (I s15.2)) (rv_move rfl) ?_
   have hc35 := H.cells 0 rfl
   refine st (v := (.agg #[(I x22.1), (Sl a29 x22.2.1 c30), (I x22.2.2)])) (rv_load (cs := [(I x22.1), (Sl a29 x22.2.1 c30), (I x22.2.2)]) Try.underlying32 rfl ti32 rfl rfl hc35) ?_
   obtain ⟨r36, hx37, h'⟩ := bind_some h
   clear h
   have h := h'; clear h'
   have hc38 := c_impl_copyItem (ax_0_1 := a29) (cx_0_1 := c30) hx37
   refine st_call (cx_call hc38 (ent_f hc38.fn rfl) hn0 (show Hp S0 σ0 _ ([Ch.ro 0 (Sl a29 x22.2.1 c30) x22.2.1] ++ [Ch.bx n0 b32 0 [(I x22.1), (Sl a29 x22.2.1 c30), (I x22.2.2)] [] [], Ch.ro 0 (Sl a29 x22.2.1 c30) x22.2.1, Ch.big K17, Ch.ro 0 (Sl alist_0 list_0 clist_0) list_0]) from (H.sel' [1, 0, 1, 2, 3] rfl rfl))) wn ?_
   rintro _ σ41 ⟨_, ⟨a39, c40, rfl, rfl⟩, H, -⟩
   replace H : Hp S0 σ0 σ41 [Ch.own n0 n0 (Sl a39 r36.2.1 c40) r36.2.1, Ch.bx n0 b32 0 [(I x22.1), (Sl a29 x22.2.1 c30), (I x22.2.2)] [] [], Ch.ro 0 (Sl a29 x22.2.1 c30) x22.2.1, Ch.big K17, Ch.ro 0 (Sl alist_0 list_0 clist_0) list_0] := H
   obtain ⟨x42, hx43, h'⟩ := bind_some h
   clear h
   have h := h'; clear h'
   obtain ⟨b45, o46, hi44⟩ := H.dpIx 3 rfl hK18 hx43
   refine st (v := (pt b45 o46)) (rv_ix Try.underlying23 ti32 rfl rfl hi44) ?_
   obtain ⟨v47, K48, H, hK49⟩ := H.dpOut 3 rfl hK18 hx43
   replace H := H.tail
   replace H := H.sel' [0, 1, 2, 3, 4] rfl rfl
   obtain ⟨K50, hK51, he52⟩ := hK49.put ((r36.1, r36.2.1, r36.2.2) : Int × (List Int) × Int) (Sl a39 r36.2.1 c40)
   refine st_exS (he52 (ty := _) (k := 0) (vs := [(I r36.1), (Sl a39 r36.2.1 c40), (I r36.2.2)]) H ti32 hi44 rfl rfl rfl rfl rfl (Nat.le_of_ble_eq_true rfl) (by simp [plain]) (by rintro _ _ ⟨_, _, rfl, rfl, ⟨_, _, rfl, ⟨rfl, -⟩, rfl⟩⟩; exact ⟨[(I r36.1)], [(Sl a39 r36.2.1 c40), (I r36.2.2)], rfl, rfl, ⟨[(Sl a39 r36.2.1 c40)], [(I r36.2.2)], rfl, ⟨rfl, rfl⟩, rfl⟩⟩)) wn ?_
   rintro σ53 ⟨H, -⟩
   have hsl : (Sl (some ⟨b3, 0, none⟩) s15.1 c4) = (Sl (some ⟨b3, 0, none⟩) (s15.1.set s15.2.toNat (r36.1, r36.2.1, r36.2.2)) c4) := sl_len List.length_set.symm
   rw [hsl]; rw [hsl] at hK51; clear hsl
   refine w_end ?_
   refine q_blk ?_
   refine q_then ?_
   refine rg ?_
   refine st (v := (I (w64 (s15.2 + 1)))) (rv_add (a := s15.2) (b := 1) rfl rfl) ?_
   refine st (v := (I (w64 (s15.2 + 1)))) (rv_move rfl) ?_
   refine w_end ?_
   refine q_then ?_
   obtain rfl := Option.some.inj h
   exact ⟨_, rfl, _, σ53, K50, fr_join ⟨rfl, rfl, rfl, rfl, trivial⟩, rfl, H.sel' [0, 3] rfl rfl, hK51, (ht19.trans List.length_set.symm), (List.length_set.trans hn20)⟩
  ·replace h := bif_f hb21 h
   refine c_exit ?_
   refine q_then_x ?_
   refine q_then_x ?_
   refine q_blk_hit ?_
   obtain rfl := Option.some.inj h
   obtain rfl := hres _ rfl
   exact ⟨rfl, _, σ16, K17, fr_join ⟨rfl, trivial⟩, rfl, H.sel' [0] rfl rfl, hK18, ht19, hn20⟩
 ·clear hj
  have h := h'
  clear h' H
  rintro e a w ⟨rfl, ρ, σ54, K55, rfl, rfl, H, hK56, ht57, hn58⟩
  refine q_then ?_
  refine c_seq ?_
  refine rg ?_
  refine st (v := (Sl (some ⟨b3, 0, none⟩) o14 c4)) (rv_move rfl) ?_
  refine st (v := (Sl (some ⟨b3, 0, none⟩) o14 c4)) (rv_assign rfl) ?_
  refine w_end ?_
  refine q_then ?_
  refine c_ret ?_
  obtain ⟨K59, hK60, H⟩ := H.dpLow (lo' := 0) 0 rfl hK56 (Nat.zero_le _)
  obtain rfl := Option.some.inj h
  exact fin_ret (v := (Sl (some ⟨b3, 0, none⟩) o14 c4)) (results_ok Try.results61 (res_tmp (v := (Sl (some ⟨b3, 0, none⟩) o14 c4)) rfl res_nil) rfl) ⟨(some ⟨b3, 0, none⟩), c4, K59, rfl, rfl, hK60, ht57⟩ (H.sel' [0] rfl rfl)

theorem c_impl_tagMask_hasAll {m_0 : Int} {others_1 : Int}  {r : Bool} (h : M.impl_tagMask_hasAll m_0 others_1 = some r) :
    Cal2 Try.prog 99 [(I m_0), (I others_1)] [] (fun n0 v L => v = (B r) ∧ L = []) := by
 refine cal2 (n := 10) Try.func99 rfl rfl rfl rfl ?_
 intro S0 σ0 n0 hn0 H
 unfold M.impl_tagMask_hasAll at h
 refine c_seq ?_
 refine rg ?_
 refine st (v := (B false)) (rv_assign rfl) ?_
 refine w_end ?_
 refine q_then ?_
 refine c_seq ?_
 refine rg ?_
 refine st (v := (I m_0)) (rv_move rfl) ?_
 refine st (v := (I others_1)) (rv_move rfl) ?_
 refine st (v := (I (gand m_0 others_1))) (rv_and (a := m_0) (b := others_1) rfl rfl) ?_
 refine st (v := (I others_1)) (rv_move rfl) ?_
 refine st (v := (B ((gand m_0 others_1) == others_1))) (rv_eql (a := (gand m_0 others_1)) (b := others_1) rfl rfl) ?_
 refine st (v := (B ((gand m_0 others_1) == others_1))) (rv_assign rfl) ?_
 refine w_end ?_
 refine q_then ?_
 refine c_ret ?_
 obtain rfl := Option.some.inj h
 exact fin_ret (v := (B ((gand m_0 others_1) == others_1))) (results_ok Try.results99 (res_tmp (v := (B ((gand m_0 others_1) == others_1))) rfl res_nil) rfl) ⟨rfl, rfl⟩ (H.sel' [] rfl rfl)

theorem c_impl_tagMask_hasAny {m_0 : Int} {others_1 : Int}  {r : Bool} (h : M.impl_tagMask_hasAny m_0 others_1 = some r) :
    Cal2 Try.prog 100 [(I m_0), (I others_1)] [] (fun n0 v L => v = (B r) ∧ L = []) := by
 refine cal2 (n := 9) Try.func100 rfl rfl rfl rfl ?_
 intro S0 σ0 n0 hn0 H
 unfold M.impl_tagMask_hasAny at h
 refine c_seq ?_
 refine rg ?_
 refine st (v := (B false)) (rv_assign rfl) ?_
 refine w_end ?_
 refine q_then ?_
 refine c_seq ?_
 refine rg ?_
 refine st (v := (I m_0)) (rv_move rfl) ?_
 refine st (v := (I others_1)) (rv_move rfl) ?_
 refine st (v := (I (gand m_0 others_1))) (rv_and (a := m_0) (b := others_1) rfl rfl) ?_
 refine st (v := (B ((gand m_0 others_1) != 0))) (rv_neq (a := (gand m_0 others_1)) (b := 0) rfl rfl) ?_
 refine st (v := (B ((gand m_0 others_1) != 0))) (rv_assign rfl) ?_
 refine w_end ?_
 refine q_then ?_
 refine c_ret ?_
 obtain rfl := Option.some.inj h
 exact fin_ret (v := (B ((gand m_0 others_1) != 0))) (results_ok Try.results100 (res_tmp (v := (B ((gand m_0 others_1) != 0))) rfl res_nil) rfl) ⟨rfl, rfl⟩ (H.sel' [] rfl rfl)

theorem c_impl_Filter_accepts {f_0 : Int × Int × Int} {tags_1 : Int}  {r : Bool} (h : M.impl_Filter_accepts f_0 tags_1 = some r) :
    Cal2 Try.prog 67 [(.agg #[(I f_0.1), (I f_0.2.1), (I f_0.2.2)]), (I tags_1)] [] (fun n0 v L => v = (B r) ∧ L = []) := by
 refine cal2 (n := 27) Try.func67 rfl rfl rfl rfl ?_
 intro S0 σ0 n0 hn0 H
 unfold M.impl_Filter_accepts at h
 refine c_seq ?_
 refine rg ?_
 refine st_ex (ex_box (cs := [(I f_0.1), (I f_0.2.1), (I f_0.2.2)]) H hn0 rfl rfl) wn ?_
 rintro _ σ2 ⟨b1, rfl, H, -⟩
 refine st (v := (B false)) (rv_assign rfl) ?_
 refine w_end ?_
 refine q_then ?_
 refine c_seq ?_
 refine rg ?_
 refine st (v := (I tags_1)) (rv_move rfl) ?_
 refine st (v := (pt b1 0)) (rv_fieldAddr (off := 0) (ft := 3) Try.underlying38 rfl ti3 rfl rfl) ?_
 have hc3 := H.cell (u := (I f_0.1)) (o' := 0) 0 0 rfl rfl rfl
 refine st (v := (I f_0.1)) (rv_load1 Try.underlying3 rfl rfl hc3) ?_
 obtain ⟨r4, hx5, h'⟩ := bind_some h
 clear h
 have h := h'; clear h'
 have hc6 := c_impl_tagMask_hasAll hx5
 refine st_call (cx_call hc6 (ent_f hc6.fn rfl) hn0 (show Hp S0 σ0 _ ([] ++ [Ch.bx n0 b1 0 [(I f_0.1), (I f_0.2.1), (I f_0.2.2)] [] []]) from (H.sel' [0] rfl rfl))) wn ?_
 rintro _ σ7 ⟨_, ⟨rfl, rfl⟩, H, -⟩
 replace H : Hp S0 σ0 σ7 [Ch.bx n0 b1 0 [(I f_0.1), (I f_0.2.1), (I f_0.2.2)] [] []] := H
 refine st (v := (B r4)) (rv_move rfl) ?_
 rcases Bool.eq_false_or_eq_true r4 with hb8 | hb8
 ·replace h := bif_t hb8 h
  refine st_g (v := (I tags_1)) (congrArg some hb8) (rv_move rfl) ?_
  refine st_g (v := (pt b1 1)) (congrArg some hb8) (rv_fieldAddr (off := 1) (ft := 3) Try.underlying38 rfl ti3 rfl rfl) ?_
  have hc9 := H.cell (u := (I f_0.2.1)) (o' := 1) 0 1 rfl rfl rfl
  refine st_g (v := (I f_0.2.1)) (congrArg some hb8) (rv_load1 Try.underlying3 rfl rfl hc9) ?_
  obtain ⟨r10, hx11, h'⟩ := bind_some h
  clear h
  have h := h'; clear h'
  have hc12 := c_impl_tagMask_hasAny hx11
  refine st_call (cx_call hc12 (ent_f hc12.fn rfl) hn0 (show Hp S0 σ0 _ ([] ++ [Ch.bx n0 b1 0 [(I f_0.1), (I f_0.2.1), (I f_0.2.2)] [] []]) from (H.sel' [0] rfl rfl))) (wanted_yes rfl (by exact (congrArg some hb8))) ?_
  rintro _ σ13 ⟨_, ⟨rfl, rfl⟩, H, -⟩
  replace H : Hp S0 σ0 σ13 [Ch.bx n0 b1 0 [(I f_0.1), (I f_0.2.1), (I f_0.2.2)] [] []] := H
  refine st_g (v := (B (!r10))) (congrArg some hb8) (rv_not rfl) ?_
  refine st (v := (B (!r10))) (rv_pick_t (congrArg B hb8) rfl) ?_
  refine st (v := (B (!r10))) (rv_move rfl) ?_
  rcases Bool.eq_false_or_eq_true (!r10) with hb14 | hb14
  ·replace h := bif_t hb14 h
   refine st_g (v := (pt b1 2)) (congrArg some hb14) (rv_fieldAddr (off := 2) (ft := 3) Try.underlying38 rfl ti3 rfl rfl) ?_
   have hc15 := H.cell (u := (I f_0.2.2)) (o' := 2) 0 2 rfl rfl rfl
   refine st_g (v := (I f_0.2.2)) (congrArg some hb14) (rv_load1 Try.underlying3 rfl rfl hc15) ?_
   refine st_g (v := (B (f_0.2.2 == 0))) (congrArg some hb14) (rv_eql (a := f_0.2.2) (b := 0) rfl rfl) ?_
   refine st_g (v := (B (f_0.2.2 == 0))) (congrArg some hb14) (rv_move rfl) ?_
   rcases Bool.eq_false_or_eq_true (f_0.2.2 == 0) with hb16 | hb16
   ·replace h := bif_t hb16 h
    refine st_skip (congrArg some hb16) ?_
    refine st_skip (congrArg some hb16) ?_
    refine st_skip (congrArg some hb16) ?_
    refine st_skip (congrArg some hb16) ?_
    refine st_g (v := (B true)) (congrArg some hb14) (rv_pick_t (congrArg B hb16) rfl) ?_
    refine st (v := (B true)) (rv_pick_t (congrArg B hb14) rfl) ?_
    refine st (v := (B true)) (rv_assign rfl) ?_
    refine w_end ?_
    refine q_then ?_
    refine c_ret ?_
    obtain rfl := Option.some.inj h
    exact fin_ret (v := (B true)) (results_ok Try.results67 (res_tmp (v := (B true)) rfl res_nil) rfl) ⟨rfl, rfl⟩ (H.sel' [] rfl rfl)
   ·replace h := bif_f hb16 h
    refine st_g (v := (I tags_1)) (congrArg some hb16) (rv_move rfl) ?_
    refine st_g (v := (pt b1 2)) (congrArg some hb16) (rv_fieldAddr (off := 2) (ft := 3) Try.underlying38 rfl ti3 rfl rfl) ?_
    have hc17 := H.cell (u := (I f_0.2.2)) (o' := 2) 0 2 rfl rfl rfl
    refine st_g (v := (I f_0.2.2)) (congrArg some hb16) (rv_load1 Try.underlying3 rfl rfl hc17) ?_
    obtain ⟨r18, hx19, h'⟩ := bind_some h
    clear h
    have h := h'; clear h'
    have hc20 := c_impl_tagMask_hasAny hx19
    refine st_call (cx_call hc20 (ent_f hc20.fn rfl) hn0 (show Hp S0 σ0 _ ([] ++ [Ch.bx n0 b1 0 [(I f_0.1), (I f_0.2.1), (I f_0.2.2)] [] []]) from (H.sel' [0] rfl rfl))) (wanted_yes rfl (by exact (congrArg some hb16))) ?_
    rintro _ σ21 ⟨_, ⟨rfl, rfl⟩, H, -⟩
    replace H : Hp S0 σ0 σ21 [Ch.bx n0 b1 0 [(I f_0.1), (I f_0.2.1), (I f_0.2.2)] [] []] := H
    refine st_g (v := (B r18)) (congrArg some hb14) (rv_pick_f (congrArg B hb16) rfl) ?_
    refine st (v := (B r18)) (rv_pick_t (congrArg B hb14) rfl) ?_
    refine st (v := (B r18)) (rv_assign rfl) ?_
    refine w_end ?_
    refine q_then ?_
    refine c_ret ?_
    obtain rfl := Option.some.inj h
    exact fin_ret (v := (B r18)) (results_ok Try.results67 (res_tmp (v := (B r18)) rfl res_nil) rfl) ⟨rfl, rfl⟩ (H.sel' [] rfl rfl)
  ·replace h := bif_f hb14 h
   refine st_skip (congrArg some hb14) ?_
   refine st_skip (congrArg some hb14) ?_
   refine st_skip (congrArg some hb14) ?_
   refine st_skip (congrArg some hb14) ?_
   refine st_skip_u rfl ?_
   refine st_skip_u rfl ?_
   refine st_skip_u rfl ?_
   refine st_skip_u rfl ?_
   refine st_skip (congrArg some hb14) ?_
   refine st (v := (B false)) (rv_pick_f (congrArg B hb14) rfl) ?_
   refine st (v := (B false)) (rv_assign rfl) ?_
   refine w_end ?_
   refine q_then ?_
   refine c_ret ?_
   obtain rfl := Option.some.inj h
   exact fin_ret (v := (B false)) (results_ok Try.results67 (res_tmp (v := (B false)) rfl res_nil) rfl) ⟨rfl, rfl⟩ (H.sel' [] rfl rfl)
 ·replace h := bif_f hb8 h
  refine st_skip (congrArg some hb8) ?_
  refine st_skip (congrArg some hb8) ?_
  refine st_skip (congrArg some hb8) ?_
  refine st_skip (congrArg some hb8) ?_
  refine st_skip (congrArg some hb8) ?_
  refine st (v := (B false)) (rv_pick_f (congrArg B hb8) rfl) ?_
  refine st (v := (B false)) (rv_move rfl) ?_
  refine st_skip rfl ?_
  refine st_skip rfl ?_
  refine st_skip rfl ?_
  refine st_skip rfl ?_
  refine st_skip_u rfl ?_
  refine st_skip_u rfl ?_
  refine st_skip_u rfl ?_
  refine st_skip_u rfl ?_
  refine st_skip rfl ?_
  refine st (v := (B false)) (rv_pick_f rfl rfl) ?_
  refine st (v := (B false)) (rv_assign rfl) ?_
  refine w_end ?_
  refine q_then ?_
  refine c_ret ?_
  obtain rfl := Option.some.inj h
  exact fin_ret (v := (B false)) (results_ok Try.results67 (res_tmp (v := (B false)) rfl res_nil) rfl) ⟨rfl, rfl⟩ (H.sel' [] rfl rfl)

theorem c_x_impl_Filter_itemsOf_1__p_impl_Filter {x_0 : Int × (List Int) × Int} {p_1 : Int × Int × Int} {ax_0_1 : Option Addr} {cx_0_1 : Nat} {lop_1 bp_1 op_1 : Nat} {prep_1 sufp_1 : List Value} {r : Bool} (h : M.x_impl_Filter_itemsOf_1__p_impl_Filter x_0 p_1 = some r) :
    Cal2 Try.prog 97 [(.agg #[(I x_0.1), (Sl ax_0_1 x_0.2.1 cx_0_1), (I x_0.2.2)]), (pt bp_1 op_1)] [Ch.ro 0 (Sl ax_0_1 x_0.2.1 cx_0_1) x_0.2.1, Ch.bx lop_1 bp_1 op_1 [(I p_1.1), (I p_1.2.1), (I p_1.2.2)] prep_1 sufp_1] (fun n0 v L => v = (B r) ∧ L = [Ch.bx lop_1 bp_1 op_1 [(I p_1.1), (I p_1.2.1), (I p_1.2.2)] prep_1 sufp_1]) := by
 refine cal2 (n := 8) Try.func97 rfl rfl rfl rfl ?_
 intro S0 σ0 n0 hn0 H
 unfold M.x_impl_Filter_itemsOf_1__p_impl_Filter at h
 refine c_seq ?_
 refine rg ?_
 refine st_ex (ex_box (cs := [(I x_0.1), (Sl ax_0_1 x_0.2.1 cx_0_1), (I x_0.2.2)]) H hn0 rfl rfl) wn ?_
 rintro _ σ2 ⟨b1, rfl, H, -⟩
 refine st (v := (B false)) (rv_assign rfl) ?_
 refine w_end ?_
 refine q_then ?_
 refine c_seq ?_
 refine rg ?_
 have hc3 := H.cells 2 rfl
 refine st (v := (.agg #[(I p_1.1), (I p_1.2.1), (I p_1.2.2)])) (rv_load (cs := [(I p_1.1), (I p_1.2.1), (I p_1.2.2)]) Try.underlying38 rfl ti38 rfl rfl hc3) ?_
 refine st (v := (pt b1 2)) (rv_fieldAddr (off := 2) (ft := 3) Try.underlying32 rfl ti3 rfl rfl) ?_
 have hc4 := H.cell (u := (I x_0.2.2)) (o' := 2) 0 2 rfl rfl rfl
 refine st (v := (I x_0.2.2)) (rv_load1 Try.underlying3 rfl rfl hc4) ?_
 obtain ⟨r5, hx6, h'⟩ := bind_some h
 clear h
 have h := h'; clear h'
 have hc7 := c_impl_Filter_accepts hx6
 refine st_call (cx_call hc7 (ent_f hc7.fn rfl) hn0 (show Hp S0 σ0 _ ([] ++ [Ch.bx n0 b1 0 [(I x_0.1), (Sl ax_0_1 x_0.2.1 cx_0_1), (I x_0.2.2)] [] [], Ch.ro 0 (Sl ax_0_1 x_0.2.1 cx_0_1) x_0.2.1, Ch.bx lop_1 bp_1 op_1 [(I p_1.1), (I p_1.2.1), (I p_1.2.2)] prep_1 sufp_1]) from (H.sel' [0, 1, 2] rfl rfl))) wn ?_
 rintro _ σ8 ⟨_, ⟨rfl, rfl⟩, H, -⟩
 replace H : Hp S0 σ0 σ8 [Ch.bx n0 b1 0 [(I x_0.1), (Sl ax_0_1 x_0.2.1 cx_0_1), (I x_0.2.2)] [] [], Ch.ro 0 (Sl ax_0_1 x_0.2.1 cx_0_1) x_0.2.1, Ch.bx lop_1 bp_1 op_1 [(I p_1.1), (I p_1.2.1), (I p_1.2.2)] prep_1 sufp_1] := H
 refine st (v := (B r5)) (rv_assign rfl) ?_
 refine w_end ?_
 refine q_then ?_
 refine c_ret ?_
 obtain rfl := Option.some.inj h
 exact fin_ret (v := (B r5)) (results_ok Try.results97 (res_tmp (v := (B r5)) rfl res_nil) rfl) ⟨rfl, rfl⟩ (H.sel' [2] rfl rfl)

theorem c_impl_itemsThat__x_impl_Filter_itemsOf_1 {list_0 : List (Int × (List Int) × Int)} {chosen_1_0 : Int × Int × Int} {alist_0 : Option Addr} {clist_0 : Nat} {lochosen_1_0 bchosen_1_0 ochosen_1_0 : Nat} {prechosen_1_0 sufchosen_1_0 : List Value} {r : (List (Int × (List Int) × Int))} (h : M.impl_itemsThat__x_impl_Filter_itemsOf_1 list_0 chosen_1_0 = some r) :
    Cal2 Try.prog 80 [(Sl alist_0 list_0 clist_0), (.func (.func 97) #[] #[(pt bchosen_1_0 ochosen_1_0)])] [Ch.ro 0 (Sl alist_0 list_0 clist_0) list_0, Ch.bx lochosen_1_0 bchosen_1_0 ochosen_1_0 [(I chosen_1_0.1), (I chosen_1_0.2.1), (I chosen_1_0.2.2)] prechosen_1_0 sufchosen_1_0] (fun n0 v L => ∃ (az1 : Option Addr), ∃ (cz2 : Nat), v = (Sl az1 r cz2) ∧ L = [Ch.own n0 0 (Sl az1 r cz2) r, Ch.bx lochosen_1_0 bchosen_1_0 ochosen_1_0 [(I chosen_1_0.1), (I chosen_1_0.2.1), (I chosen_1_0.2.2)] prechosen_1_0 sufchosen_1_0]) := by
 refine cal2 (n := 23) Try.func80 rfl rfl rfl rfl ?_
 intro S0 σ0 n0 hn0 H
 unfold M.impl_itemsThat__x_impl_Filter_itemsOf_1 at h
 refine c_seq ?_
 refine rg ?_
 refine st (v := (.slice none 0 0)) (rv_assign rfl) ?_
 refine w_end ?_
 refine q_then ?_
 refine c_seq ?_
 refine rg ?_
 refine st (v := (.slice none 0 0)) (rv_assign rfl) ?_
 refine w_end ?_
 refine q_then ?_
 refine c_seq ?_
 refine c_seq ?_
 refine rg ?_
 refine st (v := (Sl alist_0 list_0 clist_0)) (rv_move rfl) ?_
 refine st (v := (I (list_0.length : Int))) (rv_len Try.underlying23 rfl) ?_
 refine st (v := (I 0)) (rv_move rfl) ?_
 refine w_end ?_
 refine q_then ?_
 obtain ⟨o1, hj, h'⟩ := bind_some h
 clear h
 refine c_cut (fun e a w => e = .normal ∧ ∃ (ρ : Nat → Value) (σ : St) (aj1 : Option Addr) (cj2 : Nat), a = fr 23 (updL ρ [(1, (.func (.func 97) #[] #[(pt bchosen_1_0 ochosen_1_0)])), (5, (Sl aj1 o1 cj2))]) ∧ w = σ.w ∧ Hp S0 σ0 σ [Ch.bx lochosen_1_0 bchosen_1_0 ochosen_1_0 [(I chosen_1_0.1), (I chosen_1_0.2.1), (I chosen_1_0.2.2)] prechosen_1_0 sufchosen_1_0, Ch.own n0 0 (Sl aj1 o1 cj2) o1]) ?_ ?_
 ·clear h'
  rename _ = some o1 => h
  refine c_blk ?_
  replace H := H.nilOwn (Int × (List Int) × Int) n0 0
  refine wp_loopM _ h (fun s2 a w => ∃ (ρ : Nat → Value) (σ : St) (aj1 : Option Addr) (cj2 : Nat), a = fr 23 (updL ρ [(1, (.func (.func 97) #[] #[(pt bchosen_1_0 ochosen_1_0)])), (5, (Sl aj1 s2.1 cj2)), (8, (Sl alist_0 list_0 clist_0)), (9, (I (list_0.length : Int))), (10, (I s2.2))]) ∧ w = σ.w ∧ Hp S0 σ0 σ [Ch.bx lochosen_1_0 bchosen_1_0 ochosen_1_0 [(I chosen_1_0.1), (I chosen_1_0.2.1), (I chosen_1_0.2.2)] prechosen_1_0 sufchosen_1_0, Ch.own n0 0 (Sl aj1 s2.1 cj2) s2.1, Ch.ro 0 (Sl alist_0 list_0 clist_0) list_0]) ⟨_, σ0, none, 0, fr_join ⟨rfl, rfl, rfl, rfl, rfl, trivial⟩, rfl, H.sel' [2, 0, 1] rfl rfl⟩ ?_
  clear h H
  rintro s2 a w o ⟨ρ, σ3, a4, c5, rfl, rfl, H⟩ h hres
  refine c_seq ?_
  refine rg ?_
  refine st (v := (B (decide (s2.2 < (list_0.length : Int))))) (rv_lss (a := s2.2) (b := (list_0.length : Int)) rfl rfl) ?_
  refine w_end ?_
  refine q_then ?_
  refine c_seq ?_
  refine cd_cond (decide (s2.2 < (list_0.length : Int))) rfl (fun hb6 => ?_) (fun hb6 => ?_)
  ·replace h := bif_t hb6 h
   refine c_skip ?_
   refine q_then ?_
   refine c_seq ?_
   obtain ⟨o7, hj, h'⟩ := bind_some h
   clear h
   refine c_cut (fun e a w => e = .normal ∧ ∃ (ρ : Nat → Value) (σ : St) (aj1 : Option Addr) (cj2 : Nat), a = fr 23 (updL ρ [(1, (.func (.func 97) #[] #[(pt bchosen_1_0 ochosen_1_0)])), (5, (Sl aj1 o7 cj2)), (8, (Sl alist_0 list_0 clist_0)), (9, (I (list_0.length : Int))), (10, (I s2.2))]) ∧ w = σ.w ∧ Hp S0 σ0 σ [Ch.bx lochosen_1_0 bchosen_1_0 ochosen_1_0 [(I chosen_1_0.1), (I chosen_1_0.2.1), (I chosen_1_0.2.2)] prechosen_1_0 sufchosen_1_0, Ch.own n0 0 (Sl aj1 o7 cj2) o7, Ch.ro 0 (Sl alist_0 list_0 clist_0) list_0]) ?_ ?_
   ·clear h'
    rename _ = some o7 => h
    refine c_blk ?_
    refine c_seq ?_
    refine rg ?_
    obtain ⟨x8, hx9, h'⟩ := bind_some h
    clear h
    have h := h'; clear h'
    obtain ⟨b11, o12, hi10, -⟩ := (H.ro 2 rfl).ix hx9
    refine st (v := (pt b11 o12)) (rv_ix Try.underlying23 ti32 rfl rfl hi10) ?_
    obtain ⟨_, ⟨_, _, rfl, rfl, ⟨_, _, rfl, ⟨_, rfl, hR17⟩, rfl⟩⟩, hl13, hc14⟩ := ((H.ro 2 rfl).at hx9 hi10).cells
    obtain ⟨a15, c16, rfl⟩ := hR17.isSl
    replace H := H.add (d := Ch.ro 0 (Sl a15 x8.2.1 c16) x8.2.1) hR17 (fun _ h => h)
    clear hR17
    refine st (v := (.agg #[(I x8.1), (Sl a15 x8.2.1 c16), (I x8.2.2)])) (rv_load Try.underlying32 rfl ti32 rfl hl13 hc14) ?_
    refine st_ex (ex_alloc (cs := [(I 0), (.slice none 0 0), (I 0)]) H hn0 ti32 rfl) wn ?_
    rintro _ σ19 ⟨b18, rfl, H, -⟩
    refine st_exS (ex_store_box (k := 0) (cs := [(I 0), (.slice none 0 0), (I 0)]) (vs := [(I x8.1), (Sl a15 x8.2.1 c16), (I x8.2.2)]) (cs' := [(I x8.1), (Sl a15 x8.2.1 c16), (I x8.2.2)]) H (i := 0) rfl ti32 rfl rfl rfl rfl rfl (Nat.le_of_ble_eq_true rfl) (by simp [plain]) rfl) wn ?_
    rintro σ20 ⟨H, -⟩
    refine w_end ?_
    refine q_then ?_
    refine c_seq ?_
    refine rg ?_
    refine st (v := (.func (.func 97) #[] #[(pt bchosen_1_0 ochosen_1_0)])) (rv_move rfl) ?_
    have hc21 := H.cells 0 rfl
    refine st (v := (.agg #[(I x8.1), (Sl a15 x8.2.1 c16), (I x8.2.2)])) (rv_load (cs := [(I x8.1), (Sl a15 x8.2.1 c16), (I x8.2.2)]) Try.underlying32 rfl ti32 rfl rfl hc21) ?_
    obtain ⟨r22, hx23, h'⟩ := bind_some h
    clear h
    have h := h'; clear h'
    have hc24 := c_x_impl_Filter_itemsOf_1__p_impl_Filter (ax_0_1 := a15) (cx_0_1 := c16) (lop_1 := lochosen_1_0) (bp_1 := bchosen_1_0) (op_1 := ochosen_1_0) (prep_1 := prechosen_1_0) (sufp_1 := sufchosen_1_0) hx23
    refine st_call (cx_call hc24 (ent_v (cap := [(pt bchosen_1_0 ochosen_1_0)]) hc24.fn rfl rfl) hn0 (show Hp S0 σ0 _ ([Ch.ro 0 (Sl a15 x8.2.1 c16) x8.2.1, Ch.bx lochosen_1_0 bchosen_1_0 ochosen_1_0 [(I chosen_1_0.1), (I chosen_1_0.2.1), (I chosen_1_0.2.2)] prechosen_1_0 sufchosen_1_0] ++ [Ch.bx n0 b18 0 [(I x8.1), (Sl a15 x8.2.1 c16), (I x8.2.2)] [] [], Ch.ro 0 (Sl a15 x8.2.1 c16) x8.2.1, Ch.own n0 0 (Sl a4 s2.1 c5) s2.1, Ch.ro 0 (Sl alist_0 list_0 clist_0) list_0]) from (H.sel' [1, 2, 0, 1, 3, 4] rfl rfl))) wn ?_
    rintro _ σ25 ⟨_, ⟨rfl, rfl⟩, H, -⟩
    replace H : Hp S0 σ0 σ25 [Ch.bx lochosen_1_0 bchosen_1_0 ochosen_1_0 [(I chosen_1_0.1), (I chosen_1_0.2.1), (I chosen_1_0.2.2)] prechosen_1_0 sufchosen_1_0, Ch.bx n0 b18 0 [(I x8.1), (Sl a15 x8.2.1 c16), (I x8.2.2)] [] [], Ch.ro 0 (Sl a15 x8.2.1 c16) x8.2.1, Ch.own n0 0 (Sl a4 s2.1 c5) s2.1, Ch.ro 0 (Sl alist_0 list_0 clist_0) list_0] := H
    refine w_end ?_
    refine q_then ?_
    refine cd_cond r22 rfl (fun hb26 => ?_) (fun hb26 => ?_)
    ·replace h := bif_t hb26 h
     refine rg ?_
     refine st (v := (Sl a4 s2.1 c5)) (rv_move rfl) ?_
     have hc27 := H.cells 1 rfl
     refine st (v := (.agg #[(I x8.1), (Sl a15 x8.2.1 c16), (I x8.2.2)])) (rv_load (cs := [(I x8.1), (Sl a15 x8.2.1 c16), (I x8.2.2)]) Try.underlying32 rfl ti32 rfl rfl hc27) ?_
     refine st_ex (ex_buildSlice (el := 0) (xs := ([(x8.1, x8.2.1, x8.2.2)] : List (Int × (List Int) × Int))) (ps := [(0, (.agg #[(I x8.1), (Sl a15 x8.2.1 c16), (I x8.2.2)]))]) (cs := [(I x8.1), (Sl a15 x8.2.1 c16), (I x8.2.2)]) H hn0 Try.underlying23 ti32 rfl rfl (by kernel_rfl) (.cons (c := [(I x8.1), (Sl a15 x8.2.1 c16), (I x8.2.2)]) ⟨[(I x8.1)], [(Sl a15 x8.2.1 c16), (I x8.2.2)], rfl, rfl, ⟨[(Sl a15 x8.2.1 c16)], [(I x8.2.2)], rfl, ⟨_, rfl, (H.ro 2 rfl)⟩, rfl⟩⟩ (.nil)) rfl) wn ?_
     rintro _ σ29 ⟨b28, rfl, H, -⟩
     obtain ⟨xs30, hx31, h'⟩ := bind_some h
     clear h
     have h := h'; clear h'
     refine st_ex (ex_append H (i := 4) rfl Try.underlying23 Try.underlying23 ti32 rfl rfl (by decide) (H.own 0 rfl).rd hx31 hn0 rfl rfl) wn ?_
     rintro _ σ34 ⟨a32, c33, rfl, H, -⟩
     refine st (v := (Sl a32 xs30 c33)) (rv_assign rfl) ?_
     refine w_end ?_
     refine q_blk ?_
     obtain rfl := Option.some.inj h
     exact ⟨rfl, _, σ34, a32, c33, fr_join ⟨rfl, rfl, rfl, rfl, rfl, trivial⟩, rfl, H.sel' [2, 0, 5] rfl rfl⟩
    ·replace h := bif_f hb26 h
     refine c_skip ?_
     refine q_blk ?_
     obtain rfl := Option.some.inj h
     exact ⟨rfl, _, σ25, a4, c5, fr_join ⟨rfl, rfl, rfl, rfl, rfl, trivial⟩, rfl, H.sel' [0, 3, 4] rfl rfl⟩
   ·clear hj
    have h := h'
    clear h' H
    rintro e a w ⟨rfl, ρ, σ35, a36, c37, rfl, rfl, H⟩
    refine q_then ?_
    refine rg ?_
    refine st (v := (I (w64 (s2.2 + 1)))) (rv_add (a := s2.2) (b := 1) rfl rfl) ?_
    refine st (v := (I (w64 (s2.2 + 1)))) (rv_move rfl) ?_
    refine w_end ?_
    refine q_then ?_
    obtain rfl := Option.some.inj h
    exact ⟨_, rfl, _, σ35, a36, c37, fr_join ⟨rfl, rfl, rfl, rfl, rfl, trivial⟩, rfl, H.sel' [0, 1, 2] rfl rfl⟩
  ·replace h := bif_f hb6 h
   refine c_exit ?_
   refine q_then_x ?_
   refine q_then_x ?_
   refine q_blk_hit ?_
   obtain rfl := Option.some.inj h
   obtain rfl := hres _ rfl
   exact ⟨rfl, _, σ3, a4, c5, fr_join ⟨rfl, rfl, trivial⟩, rfl, H.sel' [0, 1] rfl rfl⟩
 ·clear hj
  have h := h'
  clear h' H
  rintro e a w ⟨rfl, ρ, σ38, a39, c40, rfl, rfl, H⟩
  refine q_then ?_
  refine c_seq ?_
  refine rg ?_
  refine st (v := (Sl a39 o1 c40)) (rv_move rfl) ?_
  refine st (v := (Sl a39 o1 c40)) (rv_assign rfl) ?_
  refine w_end ?_
  refine q_then ?_
  refine c_ret ?_
  obtain rfl := Option.some.inj h
  exact fin_ret (v := (Sl a39 o1 c40)) (results_ok Try.results80 (res_tmp (v := (Sl a39 o1 c40)) rfl res_nil) rfl) ⟨a39, c40, rfl, rfl⟩ (H.sel' [1, 0] rfl rfl)

theorem c_impl_Filter_itemsOf {f_0 : Int × Int × Int} {list_1 : List (Int × (List Int) × Int)} {alist_1 : Option Addr} {clist_1 : Nat} {r : (List (Int × (List Int) × Int))} (h : M.impl_Filter_itemsOf f_0 list_1 = some r) :
    Cal2 Try.prog 62 [(.agg #[(I f_0.1), (I f_0.2.1), (I f_0.2.2)]), (Sl alist_1 list_1 clist_1)] [Ch.ro 0 (Sl alist_1 list_1 clist_1) list_1] (fun n0 v L => ∃ (az1 : Option Addr), ∃ (cz2 : Nat), v = (Sl az1 r cz2) ∧ L = [Ch.own n0 0 (Sl az1 r cz2) r]) := by
 refine cal2 (n := 8) Try.func62 rfl rfl rfl rfl ?_
 intro S0 σ0 n0 hn0 H
 unfold M.impl_Filter_itemsOf at h
 refine c_seq ?_
 refine rg ?_
 refine st_ex (ex_box (cs := [(I f_0.1), (I f_0.2.1), (I f_0.2.2)]) H hn0 rfl rfl) wn ?_
 rintro _ σ2 ⟨b1, rfl, H, -⟩
 refine st (v := (.slice none 0 0)) (rv_assign rfl) ?_
 refine w_end ?_
 refine q_then ?_
 refine c_seq ?_
 refine rg ?_
 refine st (v := (Sl alist_1 list_1 clist_1)) (rv_move rfl) ?_
 refine st (v := (.func (.func 97) #[] #[(pt b1 0)])) (rv_makeFunc (vs := [(pt b1 0)]) rfl) ?_
 obtain ⟨r3, hx4, h'⟩ := bind_some h
 clear h
 have h := h'; clear h'
 have hc5 := c_impl_itemsThat__x_impl_Filter_itemsOf_1 (alist_0 := alist_1) (clist_0 := clist_1) (lochosen_1_0 := n0) (bchosen_1_0 := b1) (ochosen_1_0 := 0) (prechosen_1_0 := []) (sufchosen_1_0 := []) hx4
 refine st_call (cx_call hc5 (ent_f hc5.fn rfl) hn0 (show Hp S0 σ0 _ ([Ch.ro 0 (Sl alist_1 list_1 clist_1) list_1, Ch.bx n0 b1 0 [(I f_0.1), (I f_0.2.1), (I f_0.2.2)] [] []] ++ [Ch.ro 0 (Sl alist_1 list_1 clist_1) list_1]) from (H.sel' [1, 0, 1] rfl rfl))) wn ?_
 rintro _ σ8 ⟨_, ⟨a6, c7, rfl, rfl⟩, H, -⟩
 replace H : Hp S0 σ0 σ8 [Ch.own n0 0 (Sl a6 r3 c7) r3, Ch.bx n0 b1 0 [(I f_0.1), (I f_0.2.1), (I f_0.2.2)] [] [], Ch.ro 0 (Sl alist_1 list_1 clist_1) list_1] := H
 refine st (v := (Sl a6 r3 c7)) (rv_assign rfl) ?_
 refine w_end ?_
 refine q_then ?_
 refine c_ret ?_
 obtain rfl := Option.some.inj h
 exact fin_ret (v := (Sl a6 r3 c7)) (results_ok Try.results62 (res_tmp (v := (Sl a6 r3 c7)) rfl res_nil) rfl) ⟨a6, c7, rfl, rfl⟩ (H.sel' [0] rfl rfl)

theorem c_impl_FilterStore {list_0 : List (Int × (List Int) × Int)} {f_1 : Int × Int × Int} {alist_0 : Option Addr} {clist_0 : Nat} {r : (List (Int × (List Int) × Int))} (h : M.impl_FilterStore list_0 f_1 = some r) :
    Cal2 Try.prog 21 [(Sl alist_0 list_0 clist_0), (.agg #[(I f_1.1), (I f_1.2.1), (I f_1.2.2)])] [Ch.ro 0 (Sl alist_0 list_0 clist_0) list_0] (fun n0 v L => ∃ (az1 : Option Addr), ∃ (cz2 : Nat), ∃ (Kz3 : List Ch), v = (Sl az1 r cz2) ∧ L = [Ch.big Kz3] ∧ Dp 0 (Sl az1 r cz2) r Kz3 ∧ cz2 = r.length) := by
 refine cal2 (n := 17) Try.func21 rfl rfl rfl rfl ?_
 intro S0 σ0 n0 hn0 H
 unfold M.impl_FilterStore at h
 refine c_seq ?_
 refine rg ?_
 refine st_ex (ex_box (cs := [(I f_1.1), (I f_1.2.1), (I f_1.2.2)]) H hn0 rfl rfl) wn ?_
 rintro _ σ2 ⟨b1, rfl, H, -⟩
 refine st (v := (.slice none 0 0)) (rv_assign rfl) ?_
 refine w_end ?_
 refine q_then ?_
 refine c_seq ?_
 refine c_seq ?_
 obtain ⟨o3, hj, h'⟩ := bind_some h
 clear h
 refine c_cut (fun e a w => e = .normal ∧ ∃ (ρ : Nat → Value) (σ : St), a = fr 17 (updL ρ [(0, (Sl alist_0 list_0 clist_0)), (3, (pt b1 0)), (12, (B o3))]) ∧ w = σ.w ∧ Hp S0 σ0 σ [Ch.ro 0 (Sl alist_0 list_0 clist_0) list_0, Ch.bx n0 b1 0 [(I f_1.1), (I f_1.2.1), (I f_1.2.2)] [] []]) ?_ ?_
 ·clear h'
  rename _ = some o3 => h
  refine rg ?_
  refine st (v := (Sl alist_0 list_0 clist_0)) (rv_move rfl) ?_
  obtain ⟨r4, hx5, h'⟩ := bind_some h
  clear h
  have h := h'; clear h'
  have hc6 := c_impl_ValidStore (alist_0 := alist_0) (clist_0 := clist_0) hx5
  refine st_call (cx_call hc6 (ent_f hc6.fn rfl) hn0 (show Hp S0 σ0 _ ([Ch.ro 0 (Sl alist_0 list_0 clist_0) list_0] ++ [Ch.bx n0 b1 0 [(I f_1.1), (I f_1.2.1), (I f_1.2.2)] [] [], Ch.ro 0 (Sl alist_0 list_0 clist_0) list_0]) from (H.sel' [1, 0, 1] rfl rfl))) wn ?_
  rintro _ σ7 ⟨_, ⟨rfl, rfl⟩, H, -⟩
  replace H : Hp S0 σ0 σ7 [Ch.bx n0 b1 0 [(I f_1.1), (I f_1.2.1), (I f_1.2.2)] [] [], Ch.ro 0 (Sl alist_0 list_0 clist_0) list_0] := H
  refine st (v := (B (!r4))) (rv_not rfl) ?_
  refine st (v := (B (!r4))) (rv_move rfl) ?_
  rcases Bool.eq_false_or_eq_true (!r4) with hb8 | hb8
  ·replace h := bif_t hb8 h
   refine st_skip (congrArg some hb8) ?_
   refine st_skip (congrArg some hb8) ?_
   refine st_skip (congrArg some hb8) ?_
   refine st (v := (B true)) (rv_pick_t (congrArg B hb8) rfl) ?_
   refine w_end ?_
   obtain rfl := Option.some.inj h
   exact ⟨rfl, _, σ7, fr_join ⟨rfl, rfl, rfl, trivial⟩, rfl, H.sel' [1, 0] rfl rfl⟩
  ·replace h := bif_f hb8 h
   have hc9 := H.cells 0 rfl
   refine st_g (v := (.agg #[(I f_1.1), (I f_1.2.1), (I f_1.2.2)])) (congrArg some hb8) (rv_load (cs := [(I f_1.1), (I f_1.2.1), (I f_1.2.2)]) Try.underlying38 rfl ti38 rfl rfl hc9) ?_
   obtain ⟨r10, hx11, h'⟩ := bind_some h
   clear h
   have h := h'; clear h'
   have hc12 := c_impl_ValidFilter hx11
   refine st_call (cx_call hc12 (ent_f hc12.fn rfl) hn0 (show Hp S0 σ0 _ ([] ++ [Ch.bx n0 b1 0 [(I f_1.1), (I f_1.2.1), (I f_1.2.2)] [] [], Ch.ro 0 (Sl alist_0 list_0 clist_0) list_0]) from (H.sel' [0, 1] rfl rfl))) (wanted_yes rfl (by exact (congrArg some hb8))) ?_
   rintro _ σ13 ⟨_, ⟨rfl, rfl⟩, H, -⟩
   replace H : Hp S0 σ0 σ13 [Ch.bx n0 b1 0 [(I f_1.1), (I f_1.2.1), (I f_1.2.2)] [] [], Ch.ro 0 (Sl alist_0 list_0 clist_0) list_0] := H
   refine st_g (v := (B (!r10))) (congrArg some hb8) (rv_not rfl) ?_
   refine st (v := (B (!r10))) (rv_pick_f (congrArg B hb8) rfl) ?_
   refine w_end ?_
   obtain rfl := Option.some.inj h
   exact ⟨rfl, _, σ13, fr_join ⟨rfl, rfl, rfl, trivial⟩, rfl, H.sel' [1, 0] rfl rfl⟩
 ·clear hj
  have h := h'
  clear h' H
  rintro e a w ⟨rfl, ρ, σ14, rfl, rfl, H⟩
  refine q_then ?_
  refine cd_cond o3 rfl (fun hb15 => ?_) (fun hb15 => ?_)
  ·replace h := bif_t hb15 h
   refine c_seq ?_
   refine rg ?_
   refine st (v := (.slice none 0 0)) (rv_assign rfl) ?_
   refine w_end ?_
   refine q_then ?_
   refine c_ret ?_
   refine q_then_r ?_
   obtain ⟨K16, hK17, H⟩ := H.nilDp (Int × (List Int) × Int) 0
   obtain rfl := Option.some.inj h
   exact fin_ret (v := (.slice none 0 0)) (results_ok Try.results21 (res_tmp (v := (.slice none 0 0)) rfl res_nil) rfl) ⟨none, 0, K16, rfl, rfl, hK17, rfl⟩ (H.sel' [0] rfl rfl)
  ·replace h := bif_f hb15 h
   refine c_skip ?_
   refine q_then ?_
   refine c_seq ?_
   refine rg ?_
   have hc18 := H.cells 1 rfl
   refine st (v := (.agg #[(I f_1.1), (I f_1.2.1), (I f_1.2.2)])) (rv_load (cs := [(I f_1.1), (I f_1.2.1), (I f_1.2.2)]) Try.underlying38 rfl ti38 rfl rfl hc18) ?_
   refine st (v := (Sl alist_0 list_0 clist_0)) (rv_move rfl) ?_
   obtain ⟨r19, hx20, h'⟩ := bind_some h
   clear h
   have h := h'; clear h'
   have hc21 := c_impl_Filter_itemsOf (alist_1 := alist_0) (clist_1 := clist_0) hx20
   refine st_call (cx_call hc21 (ent_f hc21.fn rfl) hn0 (show Hp S0 σ0 _ ([Ch.ro 0 (Sl alist_0 list_0 clist_0) list_0] ++ [Ch.ro 0 (Sl alist_0 list_0 clist_0) list_0, Ch.bx n0 b1 0 [(I f_1.1), (I f_1.2.1), (I f_1.2.2)] [] []]) from (H.sel' [0, 0, 1] rfl rfl))) wn ?_
   rintro _ σ24 ⟨_, ⟨a22, c23, rfl, rfl⟩, H, -⟩
   replace H : Hp S0 σ0 σ24 [Ch.own n0 0 (Sl a22 r19 c23) r19, Ch.ro 0 (Sl alist_0 list_0 clist_0) list_0, Ch.bx n0 b1 0 [(I f_1.1), (I f_1.2.1), (I f_1.2.2)] [] []] := H
   obtain ⟨σ25, hw26, H, -⟩ := H.pub 0 rfl (Nat.zero_le _)
   rw [← hw26]; clear hw26
   obtain ⟨r27, hx28, h'⟩ := bind_some h
   clear h
   have h := h'; clear h'
   have hc29 := c_impl_copyItems (alist_0 := a22) (clist_0 := c23) hx28
   refine st_call (cx_call hc29 (ent_f hc29.fn rfl) hn0 (show Hp S0 σ0 _ ([Ch.ro 0 (Sl a22 r19 c23) r19] ++ [Ch.ro 0 (Sl a22 r19 c23) r19, Ch.ro 0 (Sl alist_0 list_0 clist_0) list_0, Ch.bx n0 b1 0 [(I f_1.1), (I f_1.2.1), (I f_1.2.2)] [] []]) from (H.sel' [0, 0, 1, 2] rfl rfl))) wn ?_
   rintro _ σ35 ⟨_, ⟨a30, c31, K32, rfl, rfl, hK33, ht34⟩, H, -⟩
   replace H : Hp S0 σ0 σ35 [Ch.big K32, Ch.ro 0 (Sl a22 r19 c23) r19, Ch.ro 0 (Sl alist_0 list_0 clist_0) list_0, Ch.bx n0 b1 0 [(I f_1.1), (I f_1.2.1), (I f_1.2.2)] [] []] := H
   refine st (v := (Sl a30 r27 c31)) (rv_assign rfl) ?_
   refine w_end ?_
   refine q_then ?_
   refine c_ret ?_
   obtain rfl := Option.some.inj h
   exact fin_ret (v := (Sl a30 r27 c31)) (results_ok Try.results21 (res_tmp (v := (Sl a30 r27 c31)) rfl res_nil) rfl) ⟨a30, c31, K32, rfl, rfl, hK33, ht34⟩ (H.sel' [0] rfl rfl)

theorem c_spec_inRange {n_0 : Int} {low_1 : Int} {high_2 : Int}  {r : Bool} (h : M.spec_inRange n_0 low_1 high_2 = some r) :
    Cal2 Try.prog 52 [(I n_0), (I low_1), (I high_2)] [] (fun n0 v L => v = (B r) ∧ L = []) := by
 refine cal2 (n := 15) Try.func52 rfl rfl rfl rfl ?_
 intro S0 σ0 n0 hn0 H
 unfold M.spec_inRange at h
 refine c_seq ?_
 refine rg ?_
 refine st (v := (B false)) (rv_assign rfl) ?_
 refine w_end ?_
 refine q_then ?_
 refine c_seq ?_
 refine rg ?_
 refine st (v := (I low_1)) (rv_move rfl) ?_
 refine st (v := (I n_0)) (rv_move rfl) ?_
 refine st (v := (B (decide (low_1 ≤ n_0)))) (rv_leq (a := low_1) (b := n_0) rfl rfl) ?_
 refine st (v := (B (decide (low_1 ≤ n_0)))) (rv_move rfl) ?_
 rcases Bool.eq_false_or_eq_true (decide (low_1 ≤ n_0)) with hb1 | hb1
 ·replace h := bif_t hb1 h
  refine st_g (v := (I n_0)) (congrArg some hb1) (rv_move rfl) ?_
  refine st_g (v := (I high_2)) (congrArg some hb1) (rv_move rfl) ?_
  refine st_g (v := (B (decide (n_0 ≤ high_2)))) (congrArg some hb1) (rv_leq (a := n_0) (b := high_2) rfl rfl) ?_
  refine st (v := (B (decide (n_0 ≤ high_2)))) (rv_pick_t (congrArg B hb1) rfl) ?_
  refine st (v := (B (decide (n_0 ≤ high_2)))) (rv_assign rfl) ?_
  refine w_end ?_
  refine q_then ?_
  refine c_ret ?_
  obtain rfl := Option.some.inj h
  exact fin_ret (v := (B (decide (n_0 ≤ high_2)))) (results_ok Try.results52 (res_tmp (v := (B (decide (n_0 ≤ high_2)))) rfl res_nil) rfl) ⟨rfl, rfl⟩ (H.sel' [] rfl rfl)
 ·replace h := bif_f hb1 h
  refine st_skip (congrArg some hb1) ?_
  refine st_skip (congrArg some hb1) ?_
  refine st_skip (congrArg some hb1) ?_
  refine st (v := (B false)) (rv_pick_f (congrArg B hb1) rfl) ?_
  refine st (v := (B false)) (rv_assign rfl) ?_
  refine w_end ?_
  refine q_then ?_
  refine c_ret ?_
  obtain rfl := Option.some.inj h
  exact fin_ret (v := (B false)) (results_ok Try.results52 (res_tmp (v := (B false)) rfl res_nil) rfl) ⟨rfl, rfl⟩ (H.sel' [] rfl rfl)

theorem c_spec_allIn {list_0 : List Int} {low_1 : Int} {high_2 : Int} {alist_0 : Option Addr} {clist_0 : Nat} {r : Bool} (h : M.spec_allIn list_0 low_1 high_2 = some r) :
    Cal2 Try.prog 121 [(Sl alist_0 list_0 clist_0), (I low_1), (I high_2)] [Ch.ro 0 (Sl alist_0 list_0 clist_0) list_0] (fun n0 v L => v = (B r) ∧ L = []) := by
 refine cal2 (n := 22) Try.func121 rfl rfl rfl rfl ?_
 intro S0 σ0 n0 hn0 H
 unfold M.spec_allIn at h
 refine c_seq ?_
 refine rg ?_
 refine st (v := (B false)) (rv_assign rfl) ?_
 refine w_end ?_
 refine q_then ?_
 refine c_seq ?_
 refine c_seq ?_
 refine rg ?_
 refine st (v := (I 0)) (rv_assign rfl) ?_
 refine w_end ?_
 refine q_then ?_
 obtain ⟨o1, hj, h'⟩ := bind_some h
 clear h
 refine c_cut (fun e a w => (∃ t, o1 = (.inl t) ∧ e = .normal ∧ ∃ (ρ : Nat → Value) (σ : St), a = fr 22 (updL ρ []) ∧ w = σ.w ∧ Hp S0 σ0 σ []) ∨ (∃ t, o1 = (.inr t) ∧ e = .ret ∧ ∃ (ρ : Nat → Value) (σ : St), a = fr 22 (updL ρ [(6, (B t))]) ∧ w = σ.w ∧ Hp S0 σ0 σ [])) ?_ ?_
 ·clear h'
  rename _ = some o1 => h
  refine c_blk ?_
  refine wp_loopM _ h (fun s2 a w => ∃ (ρ : Nat → Value) (σ : St), a = fr 22 (updL ρ [(0, (Sl alist_0 list_0 clist_0)), (1, (I low_1)), (2, (I high_2)), (7, (I s2))]) ∧ w = σ.w ∧ Hp S0 σ0 σ [Ch.ro 0 (Sl alist_0 list_0 clist_0) list_0]) ⟨_, σ0, fr_join ⟨rfl, rfl, rfl, rfl, trivial⟩, rfl, H.sel' [0] rfl rfl⟩ ?_
  clear h H
  rintro s2 a w o ⟨ρ, σ3, rfl, rfl, H⟩ h hres
  refine c_seq ?_
  refine c_seq ?_
  refine rg ?_
  refine st (v := (I s2)) (rv_move rfl) ?_
  refine st (v := (Sl alist_0 list_0 clist_0)) (rv_move rfl) ?_
  refine st (v := (I (list_0.length : Int))) (rv_len Try.underlying30 rfl) ?_
  refine st (v := (B (decide (s2 < (list_0.length : Int))))) (rv_lss (a := s2) (b := (list_0.length : Int)) rfl rfl) ?_
  refine w_end ?_
  refine q_then ?_
  refine cd_cond (decide (s2 < (list_0.length : Int))) rfl (fun hb4 => ?_) (fun hb4 => ?_)
  ·replace h := bif_t hb4 h
   refine c_skip ?_
   refine q_then ?_
   refine c_seq ?_
   refine c_blk ?_
   refine c_seq ?_
   refine rg ?_
   refine st (v := (Sl alist_0 list_0 clist_0)) (rv_move rfl) ?_
   refine st (v := (I s2)) (rv_move rfl) ?_
   obtain ⟨x5, hx6, h'⟩ := bind_some h
   clear h
   have h := h'; clear h'
   obtain ⟨b8, o9, hi7, -⟩ := (H.ro 0 rfl).ix hx6
   refine st (v := (pt b8 o9)) (rv_ix Try.underlying30 ti3 rfl rfl hi7) ?_
   have hc10 := ((H.ro 0 rfl).at hx6 hi7).int
   refine st (v := (I x5)) (rv_load1 Try.underlying3 rfl rfl hc10) ?_
   refine st (v := (I low_1)) (rv_move rfl) ?_
   refine st (v := (I high_2)) (rv_move rfl) ?_
   obtain ⟨r11, hx12, h'⟩ := bind_some h
   clear h
   have h := h'; clear h'
   have hc13 := c_spec_inRange hx12
   refine st_call (cx_call hc13 (ent_f hc13.fn rfl) hn0 (show Hp S0 σ0 _ ([] ++ [Ch.ro 0 (Sl alist_0 list_0 clist_0) list_0]) from (H.sel' [0] rfl rfl))) wn ?_
   rintro _ σ14 ⟨_, ⟨rfl, rfl⟩, H, -⟩
   replace H : Hp S0 σ0 σ14 [Ch.ro 0 (Sl alist_0 list_0 clist_0) list_0] := H
   refine st (v := (B (!r11))) (rv_not rfl) ?_
   refine w_end ?_
   refine q_then ?_
   refine cd_cond (!r11) rfl (fun hb15 => ?_) (fun hb15 => ?_)
   ·replace h := bif_t hb15 h
    refine c_seq ?_
    refine rg ?_
    refine st (v := (B false)) (rv_assign rfl) ?_
    refine w_end ?_
    refine q_then ?_
    refine c_ret ?_
    refine q_blk_r ?_
    refine q_then_r ?_
    refine q_then_r ?_
    refine q_blk_r ?_
    obtain rfl := Option.some.inj h
    obtain rfl := hres _ rfl
    exact .inr (⟨_, rfl, rfl, _, σ14, fr_join ⟨rfl, trivial⟩, rfl, H.sel' [] rfl rfl⟩)
   ·replace h := bif_f hb15 h
    refine c_skip ?_
    refine q_blk ?_
    refine q_then ?_
    refine rg ?_
    refine st (v := (I s2)) (rv_move rfl) ?_
    refine st (v := (I (w64 (s2 + 1)))) (rv_add (a := s2) (b := 1) rfl rfl) ?_
    refine st (v := (I (w64 (s2 + 1)))) (rv_assign rfl) ?_
    refine w_end ?_
    refine q_then ?_
    obtain rfl := Option.some.inj h
    exact ⟨_, rfl, _, σ14, fr_join ⟨rfl, rfl, rfl, rfl, trivial⟩, rfl, H.sel' [0] rfl rfl⟩
  ·replace h := bif_f hb4 h
   refine c_exit ?_
   refine q_then_x ?_
   refine q_then_x ?_
   refine q_blk_hit ?_
   obtain rfl := Option.some.inj h
   obtain rfl := hres _ rfl
   exact .inl ⟨_, rfl, rfl, _, σ3, fr_join trivial, rfl, H.sel' [] rfl rfl⟩
 ·clear hj
  have h := h'
  clear h' H
  rintro e a w (⟨t16, rfl, rfl, ρ, σ17, rfl, rfl, H⟩ | ⟨t18, rfl, rfl, ρ, σ19, rfl, rfl, H⟩)
  ·replace h := selim_l h
   refine q_then ?_
   refine c_seq ?_
   refine rg ?_
   refine st (v := (B true)) (rv_assign rfl) ?_
   refine w_end ?_
   refine q_then ?_
   refine c_ret ?_
   obtain rfl := Option.some.inj h
   exact fin_ret (v := (B true)) (results_ok Try.results121 (res_tmp (v := (B true)) rfl res_nil) rfl) ⟨rfl, rfl⟩ (H.sel' [] rfl rfl)
  ·replace h := selim_r h
   refine q_then_r ?_
   obtain rfl := Option.some.inj h
   exact fin_ret (v := (B t18)) (results_ok Try.results121 (res_tmp (v := (B t18)) rfl res_nil) rfl) ⟨rfl, rfl⟩ (H.sel' [] rfl rfl)

theorem c_spec_isVector {v_0 : List Int} {av_0 : Option Addr} {cv_0 : Nat} {r : Bool} (h : M.spec_isVector v_0 = some r) :
    Cal2 Try.prog 103 [(Sl av_0 v_0 cv_0)] [Ch.ro 0 (Sl av_0 v_0 cv_0) v_0] (fun n0 v L => v = (B r) ∧ L = []) := by
 refine cal2 (n := 10) Try.func103 rfl rfl rfl rfl ?_
 intro S0 σ0 n0 hn0 H
 unfold M.spec_isVector at h
 refine c_seq ?_
 refine rg ?_
 refine st (v := (B false)) (rv_assign rfl) ?_
 refine w_end ?_
 refine q_then ?_
 refine c_seq ?_
 refine rg ?_
 refine st (v := (Sl av_0 v_0 cv_0)) (rv_move rfl) ?_
 refine st (v := (I (v_0.length : Int))) (rv_len Try.underlying30 rfl) ?_
 refine st (v := (B ((v_0.length : Int) == 4))) (rv_eql (a := (v_0.length : Int)) (b := 4) rfl rfl) ?_
 refine st (v := (B ((v_0.length : Int) == 4))) (rv_move rfl) ?_
 rcases Bool.eq_false_or_eq_true ((v_0.length : Int) == 4) with hb1 | hb1
 ·replace h := bif_t hb1 h
  refine st_g (v := (Sl av_0 v_0 cv_0)) (congrArg some hb1) (rv_move rfl) ?_
  obtain ⟨r2, hx3, h'⟩ := bind_some h
  clear h
  have h := h'; clear h'
  have hc4 := c_spec_allIn (alist_0 := av_0) (clist_0 := cv_0) hx3
  refine st_call (cx_call hc4 (ent_f hc4.fn rfl) hn0 (show Hp S0 σ0 _ ([Ch.ro 0 (Sl av_0 v_0 cv_0) v_0] ++ [Ch.ro 0 (Sl av_0 v_0 cv_0) v_0]) from (H.sel' [0, 0] rfl rfl))) (wanted_yes rfl (by exact (congrArg some hb1))) ?_
  rintro _ σ5 ⟨_, ⟨rfl, rfl⟩, H, -⟩
  replace H : Hp S0 σ0 σ5 [Ch.ro 0 (Sl av_0 v_0 cv_0) v_0] := H
  refine st (v := (B r2)) (rv_pick_t (congrArg B hb1) rfl) ?_
  refine st (v := (B r2)) (rv_assign rfl) ?_
  refine w_end ?_
  refine q_then ?_
  refine c_ret ?_
  obtain rfl := Option.some.inj h
  exact fin_ret (v := (B r2)) (results_ok Try.results103 (res_tmp (v := (B r2)) rfl res_nil) rfl) ⟨rfl, rfl⟩ (H.sel' [] rfl rfl)
 ·replace h := bif_f hb1 h
  refine st_skip (congrArg some hb1) ?_
  refine st_skip (congrArg some hb1) ?_
  refine st (v := (B false)) (rv_pick_f (congrArg B hb1) rfl) ?_
  refine st (v := (B false)) (rv_assign rfl) ?_
  refine w_end ?_
  refine q_then ?_
  refine c_ret ?_
  obtain rfl := Option.some.inj h
  exact fin_ret (v := (B false)) (results_ok Try.results103 (res_tmp (v := (B false)) rfl res_nil) rfl) ⟨rfl, rfl⟩ (H.sel' [] rfl rfl)

theorem c_spec_validItem {x_0 : Int × (List Int) × Int} {ax_0_1 : Option Addr} {cx_0_1 : Nat} {r : Bool} (h : M.spec_validItem x_0 = some r) :
    Cal2 Try.prog 85 [(.agg #[(I x_0.1), (Sl ax_0_1 x_0.2.1 cx_0_1), (I x_0.2.2)])] [Ch.ro 0 (Sl ax_0_1 x_0.2.1 cx_0_1) x_0.2.1] (fun n0 v L => v = (B r) ∧ L = []) := by
 refine cal2 (n := 16) Try.func85 rfl rfl rfl rfl ?_
 intro S0 σ0 n0 hn0 H
 unfold M.spec_validItem at h
 refine c_seq ?_
 refine rg ?_
 refine st_ex (ex_box (cs := [(I x_0.1), (Sl ax_0_1 x_0.2.1 cx_0_1), (I x_0.2.2)]) H hn0 rfl rfl) wn ?_
 rintro _ σ2 ⟨b1, rfl, H, -⟩
 refine st (v := (B false)) (rv_assign rfl) ?_
 refine w_end ?_
 refine q_then ?_
 refine c_seq ?_
 refine rg ?_
 refine st (v := (pt b1 0)) (rv_fieldAddr (off := 0) (ft := 3) Try.underlying32 rfl ti3 rfl rfl) ?_
 have hc3 := H.cell (u := (I x_0.1)) (o' := 0) 0 0 rfl rfl rfl
 refine st (v := (I x_0.1)) (rv_load1 Try.underlying3 rfl rfl hc3) ?_
 obtain ⟨r4, hx5, h'⟩ := bind_some h
 clear h
 have h := h'; clear h'
 have hc6 := c_spec_inRange hx5
 refine st_call (cx_call hc6 (ent_f hc6.fn rfl) hn0 (show Hp S0 σ0 _ ([] ++ [Ch.bx n0 b1 0 [(I x_0.1), (Sl ax_0_1 x_0.2.1 cx_0_1), (I x_0.2.2)] [] [], Ch.ro 0 (Sl ax_0_1 x_0.2.1 cx_0_1) x_0.2.1]) from (H.sel' [0, 1] rfl rfl))) wn ?_
 rintro _ σ7 ⟨_, ⟨rfl, rfl⟩, H, -⟩
 replace H : Hp S0 σ0 σ7 [Ch.bx n0 b1 0 [(I x_0.1), (Sl ax_0_1 x_0.2.1 cx_0_1), (I x_0.2.2)] [] [], Ch.ro 0 (Sl ax_0_1 x_0.2.1 cx_0_1) x_0.2.1] := H
 refine st (v := (B r4)) (rv_move rfl) ?_
 rcases Bool.eq_false_or_eq_true r4 with hb8 | hb8
 ·replace h := bif_t hb8 h
  refine st_g (v := (pt b1 1)) (congrArg some hb8) (rv_fieldAddr (off := 1) (ft := 30) Try.underlying32 rfl ti30 rfl rfl) ?_
  have hc9 := H.cell (u := (Sl ax_0_1 x_0.2.1 cx_0_1)) (o' := 1) 0 1 rfl rfl rfl
  refine st_g (v := (Sl ax_0_1 x_0.2.1 cx_0_1)) (congrArg some hb8) (rv_load1 Try.underlying30 rfl rfl hc9) ?_
  obtain ⟨r10, hx11, h'⟩ := bind_some h
  clear h
  have h := h'; clear h'
  have hc12 := c_spec_isVector (av_0 := ax_0_1) (cv_0 := cx_0_1) hx11
  refine st_call (cx_call hc12 (ent_f hc12.fn rfl) hn0 (show Hp S0 σ0 _ ([Ch.ro 0 (Sl ax_0_1 x_0.2.1 cx_0_1) x_0.2.1] ++ [Ch.bx n0 b1 0 [(I x_0.1), (Sl ax_0_1 x_0.2.1 cx_0_1), (I x_0.2.2)] [] [], Ch.ro 0 (Sl ax_0_1 x_0.2.1 cx_0_1) x_0.2.1]) from (H.sel' [1, 0, 1] rfl rfl))) (wanted_yes rfl (by exact (congrArg some hb8))) ?_
  rintro _ σ13 ⟨_, ⟨rfl, rfl⟩, H, -⟩
  replace H : Hp S0 σ0 σ13 [Ch.bx n0 b1 0 [(I x_0.1), (Sl ax_0_1 x_0.2.1 cx_0_1), (I x_0.2.2)] [] [], Ch.ro 0 (Sl ax_0_1 x_0.2.1 cx_0_1) x_0.2.1] := H
  refine st (v := (B r10)) (rv_pick_t (congrArg B hb8) rfl) ?_
  refine st (v := (B r10)) (rv_move rfl) ?_
  rcases Bool.eq_false_or_eq_true r10 with hb14 | hb14
  ·replace h := bif_t hb14 h
   refine st_g (v := (pt b1 2)) (congrArg some hb14) (rv_fieldAddr (off := 2) (ft := 3) Try.underlying32 rfl ti3 rfl rfl) ?_
   have hc15 := H.cell (u := (I x_0.2.2)) (o' := 2) 0 2 rfl rfl rfl
   refine st_g (v := (I x_0.2.2)) (congrArg some hb14) (rv_load1 Try.underlying3 rfl rfl hc15) ?_
   obtain ⟨r16, hx17, h'⟩ := bind_some h
   clear h
   have h := h'; clear h'
   have hc18 := c_spec_inRange hx17
   refine st_call (cx_call hc18 (ent_f hc18.fn rfl) hn0 (show Hp S0 σ0 _ ([] ++ [Ch.bx n0 b1 0 [(I x_0.1), (Sl ax_0_1 x_0.2.1 cx_0_1), (I x_0.2.2)] [] [], Ch.ro 0 (Sl ax_0_1 x_0.2.1 cx_0_1) x_0.2.1]) from (H.sel' [0, 1] rfl rfl))) (wanted_yes rfl (by exact (congrArg some hb14))) ?_
   rintro _ σ19 ⟨_, ⟨rfl, rfl⟩, H, -⟩
   replace H : Hp S0 σ0 σ19 [Ch.bx n0 b1 0 [(I x_0.1), (Sl ax_0_1 x_0.2.1 cx_0_1), (I x_0.2.2)] [] [], Ch.ro 0 (Sl ax_0_1 x_0.2.1 cx_0_1) x_0.2.1] := H
   refine st (v := (B r16)) (rv_pick_t (congrArg B hb14) rfl) ?_
   refine st (v := (B r16)) (rv_assign rfl) ?_
   refine w_end ?_
   refine q_then ?_
   refine c_ret ?_
   obtain rfl := Option.some.inj h
   exact fin_ret (v := (B r16)) (results_ok Try.results85 (res_tmp (v := (B r16)) rfl res_nil) rfl) ⟨rfl, rfl⟩ (H.sel' [] rfl rfl)
  ·replace h := bif_f hb14 h
   refine st_skip (congrArg some hb14) ?_
   refine st_skip (congrArg some hb14) ?_
   refine st_skip (congrArg some hb14) ?_
   refine st (v := (B false)) (rv_pick_f (congrArg B hb14) rfl) ?_
   refine st (v := (B false)) (rv_assign rfl) ?_
   refine w_end ?_
   refine q_then ?_
   refine c_ret ?_
   obtain rfl := Option.some.inj h
   exact fin_ret (v := (B false)) (results_ok Try.results85 (res_tmp (v := (B false)) rfl res_nil) rfl) ⟨rfl, rfl⟩ (H.sel' [] rfl rfl)
 ·replace h := bif_f hb8 h
  refine st_skip (congrArg some hb8) ?_
  refine st_skip (congrArg some hb8) ?_
  refine st_skip (congrArg some hb8) ?_
  refine st (v := (B false)) (rv_pick_f (congrArg B hb8) rfl) ?_
  refine st (v := (B false)) (rv_move rfl) ?_
  refine st_skip rfl ?_
  refine st_skip rfl ?_
  refine st_skip rfl ?_
  refine st (v := (B false)) (rv_pick_f rfl rfl) ?_
  refine st (v := (B false)) (rv_assign rfl) ?_
  refine w_end ?_
  refine q_then ?_
  refine c_ret ?_
  obtain rfl := Option.some.inj h
  exact fin_ret (v := (B false)) (results_ok Try.results85 (res_tmp (v := (B false)) rfl res_nil) rfl) ⟨rfl, rfl⟩ (H.sel' [] rfl rfl)

theorem c_spec_validStore {list_0 : List (Int × (List Int) × Int)} {alist_0 : Option Addr} {clist_0 : Nat} {r : Bool} (h : M.spec_validStore list_0 = some r) :
    Cal2 Try.prog 50 [(Sl alist_0 list_0 clist_0)] [Ch.ro 0 (Sl alist_0 list_0 clist_0) list_0] (fun n0 v L => v = (B r) ∧ L = []) := by
 refine cal2 (n := 37) Try.func50 rfl rfl rfl rfl ?_
 intro S0 σ0 n0 hn0 H
 unfold M.spec_validStore at h
 refine c_seq ?_
 refine rg ?_
 refine st (v := (B false)) (rv_assign rfl) ?_
 refine w_end ?_
 refine q_then ?_
 refine c_seq ?_
 refine c_seq ?_
 refine rg ?_
 refine st (v := (I 0)) (rv_assign rfl) ?_
 refine w_end ?_
 refine q_then ?_
 obtain ⟨o1, hj, h'⟩ := bind_some h
 clear h
 refine c_cut (fun e a w => (∃ t, o1 = (.inl t) ∧ e = .normal ∧ ∃ (ρ : Nat → Value) (σ : St), a = fr 37 (updL ρ [(0, (Sl alist_0 list_0 clist_0))]) ∧ w = σ.w ∧ Hp S0 σ0 σ [Ch.ro 0 (Sl alist_0 list_0 clist_0) list_0]) ∨ (∃ t, o1 = (.inr t) ∧ e = .ret ∧ ∃ (ρ : Nat → Value) (σ : St), a = fr 37 (updL ρ [(2, (B t))]) ∧ w = σ.w ∧ Hp S0 σ0 σ [])) ?_ ?_
 ·clear h'
  rename _ = some o1 => h
  refine c_blk ?_
  refine wp_loopM _ h (fun s2 a w => ∃ (ρ : Nat → Value) (σ : St), a = fr 37 (updL ρ [(0, (Sl alist_0 list_0 clist_0)), (3, (I s2))]) ∧ w = σ.w ∧ Hp S0 σ0 σ [Ch.ro 0 (Sl alist_0 list_0 clist_0) list_0]) ⟨_, σ0, fr_join ⟨rfl, rfl, trivial⟩, rfl, H.sel' [0] rfl rfl⟩ ?_
  clear h H
  rintro s2 a w o ⟨ρ, σ3, rfl, rfl, H⟩ h hres
  refine c_seq ?_
  refine c_seq ?_
  refine rg ?_
  refine st (v := (I s2)) (rv_move rfl) ?_
  refine st (v := (Sl alist_0 list_0 clist_0)) (rv_move rfl) ?_
  refine st (v := (I (list_0.length : Int))) (rv_len Try.underlying23 rfl) ?_
  refine st (v := (B (decide (s2 < (list_0.length : Int))))) (rv_lss (a := s2) (b := (list_0.length : Int)) rfl rfl) ?_
  refine w_end ?_
  refine q_then ?_
  refine cd_cond (decide (s2 < (list_0.length : Int))) rfl (fun hb4 => ?_) (fun hb4 => ?_)
  ·replace h := bif_t hb4 h
   refine c_skip ?_
   refine q_then ?_
   refine c_seq ?_
   refine c_blk ?_
   refine c_seq ?_
   obtain ⟨o5, hj, h'⟩ := bind_some h
   clear h
   refine c_cut (fun e a w => e = .normal ∧ ∃ (ρ : Nat → Value) (σ : St), a = fr 37 (updL ρ [(0, (Sl alist_0 list_0 clist_0)), (3, (I s2)), (33, (B o5))]) ∧ w = σ.w ∧ Hp S0 σ0 σ [Ch.ro 0 (Sl alist_0 list_0 clist_0) list_0]) ?_ ?_
   ·clear h'
    rename _ = some o5 => h
    obtain ⟨x6, hx7, h'⟩ := bind_some h
    clear h
    have h := h'; clear h'
    obtain ⟨b9, o10, hi8, -⟩ := (H.ro 0 rfl).ix hx7
    obtain ⟨_, ⟨_, _, rfl, rfl, ⟨_, _, rfl, ⟨_, rfl, hR15⟩, rfl⟩⟩, hl11, hc12⟩ := ((H.ro 0 rfl).at hx7 hi8).cells
    obtain ⟨a13, c14, rfl⟩ := hR15.isSl
    replace H := H.add (d := Ch.ro 0 (Sl a13 x6.2.1 c14) x6.2.1) hR15 (fun _ h => h)
    clear hR15
    obtain ⟨r16, hx17, h'⟩ := bind_some h
    clear h
    have h := h'; clear h'
    have hc18 := c_spec_validItem (ax_0_1 := a13) (cx_0_1 := c14) hx17
    rcases Bool.eq_false_or_eq_true (!r16) with hb19 | hb19
    ·replace h := bif_t hb19 h
     have Hs := H
     refine rg2 (σ := σ3) (Nm := Unit) 21 [4] [[false], [true]] [[(0, 0)], [(0, 0)], [(0, 0)], [(0, 0)], [(0, 1)], [(1, 1)], [(1, 1)], [(1, 1)], [(1, 1)], [(1, 1)], [(1, 1)], [(1, 1)], [(1, 1)], [(1, 1)], [(1, 1)], [(1, 1)], [(1, 1)], [(1, 1)], [(1, 1)], [(1, 1)], [(1, 1)]] 1 [fun _ => fun σm => Hp S0 σ0 σm [Ch.ro 0 (Sl a13 x6.2.1 c14) x6.2.1, Ch.ro 0 (Sl alist_0 list_0 clist_0) list_0] ∧ Md (cov []) σ3 σm, fun _ => fun σm => Hp S0 σ0 σm [Ch.ro 0 (Sl a13 x6.2.1 c14) x6.2.1, Ch.ro 0 (Sl alist_0 list_0 clist_0) list_0] ∧ Md (cov []) σ3 σm] [fun _ => (Sl alist_0 list_0 clist_0), fun _ => (I s2), fun _ => (pt b9 o10), fun _ => (.agg #[(I x6.1), (Sl a13 x6.2.1 c14), (I x6.2.2)]), fun _ => (B r16), fun _ => (B (!r16)), fun _ => (B (!r16)), fun _ => undef, fun _ => undef, fun _ => undef, fun _ => undef, fun _ => undef, fun _ => undef, fun _ => undef, fun _ => undef, fun _ => undef, fun _ => undef, fun _ => undef, fun _ => undef, fun _ => undef, fun _ => undef] () (by kernel_rfl) (by kernel_rfl) ?_ ?_ ?_
     ·intro σm m0
      exact ⟨H.grow (m0.mono fun _ h => h.elim), m0⟩
     ·refine ac rfl (by
        intro k _nm ρ σm hJ hoff hdep
        have e0 := look_off (N := 37) (hoff 0 rfl) rfl
        exact dp_v (v := (Sl alist_0 list_0 clist_0)) wn (rv_move e0) rfl hJ) ?_
      refine ac rfl (by
        intro k _nm ρ σm hJ hoff hdep
        have e3 := look_off (N := 37) (hoff 3 rfl) rfl
        exact dp_v (v := (I s2)) wn (rv_move e3) rfl hJ) ?_
      refine ac rfl (by
        intro k _nm ρ σm hJ hoff hdep
        have e10 := hdep 0 rfl rfl 10 rfl
        have e11 := hdep 1 rfl rfl 11 rfl
        exact dp_v (v := (pt b9 o10)) wn (rv_ix Try.underlying23 ti32 e10 e11 hi8) rfl hJ) ?_
      refine all_cons (by
        refine ⟨?_, ?_⟩
        ·intro _nm ρ σm hJ hoff hdep
         have e12 := hdep 2 rfl rfl 12 rfl
         obtain ⟨H, m⟩ := id hJ
         replace hc12 := fun j hj => (Hs.ro 1 rfl).hmd hx7 hi8 (k := j) (Nat.lt_of_lt_of_eq hj hl11) (hc12 j hj) m
         exact dp_v (v := (.agg #[(I x6.1), (Sl a13 x6.2.1 c14), (I x6.2.2)])) wn (rv_load Try.underlying32 rfl ti32 e12 hl11 hc12) rfl hJ
        trivial) ?_
      refine all_cons (by
        refine ⟨?_, ?_⟩
        ·intro _nm ρ σm hJ hoff hdep
         have e13 : look 37 ρ 13 = (.agg #[(I x6.1), (Sl a13 x6.2.1 c14), (I x6.2.2)]) := hdep 3 rfl rfl 13 rfl
         obtain ⟨H, m⟩ := id hJ
         refine dp_cx wn (cx_call hc18 (ent_f hc18.fn (by show [look 37 ρ 13] = _; rw [e13])) hn0 (show Hp S0 σ0 _ ([Ch.ro 0 (Sl a13 x6.2.1 c14) x6.2.1] ++ [Ch.ro 0 (Sl a13 x6.2.1 c14) x6.2.1, Ch.ro 0 (Sl alist_0 list_0 clist_0) list_0]) from (H.sel' [0, 0, 1] rfl rfl))) ?_
         rintro _ σq ⟨_, ⟨rfl, rfl⟩, H2, m2⟩
         exact ⟨_, (), rfl, rfl, ⟨H2.sel' [0, 1] rfl rfl, m.comp0 (m2.mono (fun i h => by simp [cov, Ch.ro] at h))⟩, stab [0, 1, 2, 3] (by kernel_rfl) ⟨rfl, rfl, rfl, rfl, trivial⟩⟩
        trivial) ?_
      refine ac rfl (by
        intro k _nm ρ σm hJ hoff hdep
        have e14 := hdep 4 rfl rfl 14 rfl
        exact dp_v (v := (B (!r16))) wn (rv_not e14) rfl hJ) ?_
      refine ac rfl (by
        intro k _nm ρ σm hJ hoff hdep
        have e15 := hdep 5 rfl rfl 15 rfl
        exact dp_v (v := (B (!r16))) wn (rv_move e15) rfl hJ) ?_
      refine ac rfl (by
        intro k _nm ρ σm hJ hoff hdep
        have e16 := hdep 6 rfl rfl 16 rfl
        exact dp_skip (wanted_no rfl (yv_of rfl (e16.trans (congrArg B hb19)))) rfl hJ) ?_
      refine ac rfl (by
        intro k _nm ρ σm hJ hoff hdep
        have e16 := hdep 6 rfl rfl 16 rfl
        exact dp_skip (wanted_no rfl (yv_of rfl (e16.trans (congrArg B hb19)))) rfl hJ) ?_
      refine ac rfl (by
        intro k _nm ρ σm hJ hoff hdep
        have e16 := hdep 6 rfl rfl 16 rfl
        exact dp_skip (wanted_no rfl (yv_of rfl (e16.trans (congrArg B hb19)))) rfl hJ) ?_
      refine ac rfl (by
        intro k _nm ρ σm hJ hoff hdep
        have e19 := hdep 9 rfl rfl 19 rfl
        exact dp_skip (wanted_u rfl (yv_undef rfl e19)) rfl hJ) ?_
      refine ac rfl (by
        intro k _nm ρ σm hJ hoff hdep
        have e19 := hdep 9 rfl rfl 19 rfl
        exact dp_skip (wanted_u rfl (yv_undef rfl e19)) rfl hJ) ?_
      refine ac rfl (by
        intro k _nm ρ σm hJ hoff hdep
        have e19 := hdep 9 rfl rfl 19 rfl
        exact dp_skip (wanted_u rfl (yv_undef rfl e19)) rfl hJ) ?_
      refine ac rfl (by
        intro k _nm ρ σm hJ hoff hdep
        have e19 := hdep 9 rfl rfl 19 rfl
        exact dp_skip (wanted_u rfl (yv_undef rfl e19)) rfl hJ) ?_
      refine ac rfl (by
        intro k _nm ρ σm hJ hoff hdep
        have e19 := hdep 9 rfl rfl 19 rfl
        exact dp_skip (wanted_u rfl (yv_undef rfl e19)) rfl hJ) ?_
      refine ac rfl (by
        intro k _nm ρ σm hJ hoff hdep
        have e19 := hdep 9 rfl rfl 19 rfl
        exact dp_skip (wanted_u rfl (yv_undef rfl e19)) rfl hJ) ?_
      refine ac rfl (by
        intro k _nm ρ σm hJ hoff hdep
        have e19 := hdep 9 rfl rfl 19 rfl
        exact dp_skip (wanted_u rfl (yv_undef rfl e19)) rfl hJ) ?_
      refine ac rfl (by
        intro k _nm ρ σm hJ hoff hdep
        have e19 := hdep 9 rfl rfl 19 rfl
        exact dp_skip (wanted_u rfl (yv_undef rfl e19)) rfl hJ) ?_
      refine ac rfl (by
        intro k _nm ρ σm hJ hoff hdep
        have e19 := hdep 9 rfl rfl 19 rfl
        exact dp_skip (wanted_u rfl (yv_undef rfl e19)) rfl hJ) ?_
      refine ac rfl (by
        intro k _nm ρ σm hJ hoff hdep
        have e19 := hdep 9 rfl rfl 19 rfl
        exact dp_skip (wanted_u rfl (yv_undef rfl e19)) rfl hJ) ?_
      refine ac rfl (by
        intro k _nm ρ σm hJ hoff hdep
        have e19 := hdep 9 rfl rfl 19 rfl
        exact dp_skip (wanted_u rfl (yv_undef rfl e19)) rfl hJ) ?_
      exact all_nil
     ·intro _nm ρ σ20 hJ hoff hrel
      have e0 := look_off (N := 37) (hoff 0 rfl) rfl
      have e3 := look_off (N := 37) (hoff 3 rfl) rfl
      have e16 := hrel 6 rfl 16 rfl
      have e19 := hrel 9 rfl 19 rfl
      have e24 := hrel 14 rfl 24 rfl
      have e30 := hrel 20 rfl 30 rfl
      obtain ⟨H, -⟩ := (show Hp S0 σ0 σ20 [Ch.ro 0 (Sl a13 x6.2.1 c14) x6.2.1, Ch.ro 0 (Sl alist_0 list_0 clist_0) list_0] ∧ Md (cov []) σ3 σ20 from hJ)
      clear hJ Hs
      rw [fr_lookL (L := [(0, (Sl alist_0 list_0 clist_0)), (3, (I s2)), (16, (B (!r16))), (19, undef), (24, undef), (30, undef)]) ⟨e0, e3, e16, e19, e24, e30, trivial⟩]
      clear hoff hrel e0 e3 e16 e19 e24 e30
      refine st_skip_u rfl ?_
      refine st_skip (congrArg some hb19) ?_
      refine st (v := (B true)) (rv_pick_t (congrArg B hb19) rfl) ?_
      refine w_end ?_
      obtain rfl := Option.some.inj h
      exact ⟨rfl, _, σ20, fr_join ⟨rfl, rfl, rfl, trivial⟩, rfl, H.sel' [1] rfl rfl⟩
    ·replace h := bif_f hb19 h
     rcases Bool.eq_false_or_eq_true (decide (0 < s2)) with hb21 | hb21
     ·replace h := bif_t hb21 h
      obtain ⟨x22, hx23, h'⟩ := bind_some h
      clear h
      have h := h'; clear h'
      obtain ⟨b25, o26, hi24, -⟩ := (H.ro 1 rfl).ix hx23
      have hc27 := ((H.ro 1 rfl).at hx23 hi24).fst.int
      obtain ⟨x28, hx29, h'⟩ := bind_some h
      clear h
      have h := h'; clear h'
      obtain ⟨b31, o32, hi30, -⟩ := (H.ro 1 rfl).ix hx29
      have hc33 := ((H.ro 1 rfl).at hx29 hi30).fst.int
      have Hs := H
      refine rg2 (σ := σ3) (Nm := Unit) 21 [4] [[false], [true]] [[(0, 0)], [(0, 0)], [(0, 0)], [(0, 0)], [(0, 1)], [(1, 1)], [(1, 1)], [(1, 1)], [(1, 1)], [(1, 1)], [(1, 1)], [(1, 1)], [(1, 1)], [(1, 1)], [(1, 1)], [(1, 1)], [(1, 1)], [(1, 1)], [(1, 1)], [(1, 1)], [(1, 1)]] 1 [fun _ => fun σm => Hp S0 σ0 σm [Ch.ro 0 (Sl a13 x6.2.1 c14) x6.2.1, Ch.ro 0 (Sl alist_0 list_0 clist_0) list_0] ∧ Md (cov []) σ3 σm, fun _ => fun σm => Hp S0 σ0 σm [Ch.ro 0 (Sl a13 x6.2.1 c14) x6.2.1, Ch.ro 0 (Sl alist_0 list_0 clist_0) list_0] ∧ Md (cov []) σ3 σm] [fun _ => (Sl alist_0 list_0 clist_0), fun _ => (I s2), fun _ => (pt b9 o10), fun _ => (.agg #[(I x6.1), (Sl a13 x6.2.1 c14), (I x6.2.2)]), fun _ => (B r16), fun _ => (B (!r16)), fun _ => (B (!r16)), fun _ => (I s2), fun _ => (B (decide (0 < s2))), fun _ => (B (decide (0 < s2))), fun _ => (Sl alist_0 list_0 clist_0), fun _ => (I s2), fun _ => (pt b25 o26), fun _ => (pt b25 (o26 + 0)), fun _ => (I x22.1), fun _ => (Sl alist_0 list_0 clist_0), fun _ => (I s2), fun _ => (I (w64 (s2 - 1))), fun _ => (pt b31 o32), fun _ => (pt b31 (o32 + 0)), fun _ => (I x28.1)] () (by kernel_rfl) (by kernel_rfl) ?_ ?_ ?_
      ·intro σm m0
       exact ⟨H.grow (m0.mono fun _ h => h.elim), m0⟩
      ·refine ac rfl (by
         intro k _nm ρ σm hJ hoff hdep
         have e0 := look_off (N := 37) (hoff 0 rfl) rfl
         exact dp_v (v := (Sl alist_0 list_0 clist_0)) wn (rv_move e0) rfl hJ) ?_
       refine ac rfl (by
         intro k _nm ρ σm hJ hoff hdep
         have e3 := look_off (N := 37) (hoff 3 rfl) rfl
         exact dp_v (v := (I s2)) wn (rv_move e3) rfl hJ) ?_
       refine ac rfl (by
         intro k _nm ρ σm hJ hoff hdep
         have e10 := hdep 0 rfl rfl 10 rfl
         have e11 := hdep 1 rfl rfl 11 rfl
         exact dp_v (v := (pt b9 o10)) wn (rv_ix Try.underlying23 ti32 e10 e11 hi8) rfl hJ) ?_
       refine all_cons (by
         refine ⟨?_, ?_⟩
         ·intro _nm ρ σm hJ hoff hdep
          have e12 := hdep 2 rfl rfl 12 rfl
          obtain ⟨H, m⟩ := id hJ
          replace hc12 := fun j hj => (Hs.ro 1 rfl).hmd hx7 hi8 (k := j) (Nat.lt_of_lt_of_eq hj hl11) (hc12 j hj) m
          exact dp_v (v := (.agg #[(I x6.1), (Sl a13 x6.2.1 c14), (I x6.2.2)])) wn (rv_load Try.underlying32 rfl ti32 e12 hl11 hc12) rfl hJ
         trivial) ?_
       refine all_cons (by
         refine ⟨?_, ?_⟩
         ·intro _nm ρ σm hJ hoff hdep
          have e13 : look 37 ρ 13 = (.agg #[(I x6.1), (Sl a13 x6.2.1 c14), (I x6.2.2)]) := hdep 3 rfl rfl 13 rfl
          obtain ⟨H, m⟩ := id hJ
          refine dp_cx wn (cx_call hc18 (ent_f hc18.fn (by show [look 37 ρ 13] = _; rw [e13])) hn0 (show Hp S0 σ0 _ ([Ch.ro 0 (Sl a13 x6.2.1 c14) x6.2.1] ++ [Ch.ro 0 (Sl a13 x6.2.1 c14) x6.2.1, Ch.ro 0 (Sl alist_0 list_0 clist_0) list_0]) from (H.sel' [0, 0, 1] rfl rfl))) ?_
          rintro _ σq ⟨_, ⟨rfl, rfl⟩, H2, m2⟩
          exact ⟨_, (), rfl, rfl, ⟨H2.sel' [0, 1] rfl rfl, m.comp0 (m2.mono (fun i h => by simp [cov, Ch.ro] at h))⟩, stab [0, 1, 2, 3] (by kernel_rfl) ⟨rfl, rfl, rfl, rfl, trivial⟩⟩
         trivial) ?_
       refine ac rfl (by
         intro k _nm ρ σm hJ hoff hdep
         have e14 := hdep 4 rfl rfl 14 rfl
         exact dp_v (v := (B (!r16))) wn (rv_not e14) rfl hJ) ?_
       refine ac rfl (by
         intro k _nm ρ σm hJ hoff hdep
         have e15 := hdep 5 rfl rfl 15 rfl
         exact dp_v (v := (B (!r16))) wn (rv_move e15) rfl hJ) ?_
       refine ac rfl (by
         intro k _nm ρ σm hJ hoff hdep
         have e3 := look_off (N := 37) (hoff 3 rfl) rfl
         have e16 := hdep 6 rfl rfl 16 rfl
         exact dp_v (v := (I s2)) (wanted_yes rfl (yv_of rfl (e16.trans (congrArg B hb19)))) (rv_move e3) rfl hJ) ?_
       refine ac rfl (by
         intro k _nm ρ σm hJ hoff hdep
         have e17 := hdep 7 rfl rfl 17 rfl
         have e16 := hdep 6 rfl rfl 16 rfl
         exact dp_v (v := (B (decide (0 < s2)))) (wanted_yes rfl (yv_of rfl (e16.trans (congrArg B hb19)))) (rv_gtr (a := s2) (b := 0) e17 rfl) rfl hJ) ?_
       refine ac rfl (by
         intro k _nm ρ σm hJ hoff hdep
         have e18 := hdep 8 rfl rfl 18 rfl
         have e16 := hdep 6 rfl rfl 16 rfl
         exact dp_v (v := (B (decide (0 < s2)))) (wanted_yes rfl (yv_of rfl (e16.trans (congrArg B hb19)))) (rv_move e18) rfl hJ) ?_
       refine ac rfl (by
         intro k _nm ρ σm hJ hoff hdep
         have e0 := look_off (N := 37) (hoff 0 rfl) rfl
         have e19 := hdep 9 rfl rfl 19 rfl
         exact dp_v (v := (Sl alist_0 list_0 clist_0)) (wanted_yes rfl (yv_of rfl (e19.trans (congrArg B hb21)))) (rv_move e0) rfl hJ) ?_
       refine ac rfl (by
         intro k _nm ρ σm hJ hoff hdep
         have e3 := look_off (N := 37) (hoff 3 rfl) rfl
         have e19 := hdep 9 rfl rfl 19 rfl
         exact dp_v (v := (I s2)) (wanted_yes rfl (yv_of rfl (e19.trans (congrArg B hb21)))) (rv_move e3) rfl hJ) ?_
       refine ac rfl (by
         intro k _nm ρ σm hJ hoff hdep
         have e20 := hdep 10 rfl rfl 20 rfl
         have e21 := hdep 11 rfl rfl 21 rfl
         have e19 := hdep 9 rfl rfl 19 rfl
         exact dp_v (v := (pt b25 o26)) (wanted_yes rfl (yv_of rfl (e19.trans (congrArg B hb21)))) (rv_ix Try.underlying23 ti32 e20 e21 hi24) rfl hJ) ?_
       refine ac rfl (by
         intro k _nm ρ σm hJ hoff hdep
         have e22 := hdep 12 rfl rfl 22 rfl
         have e19 := hdep 9 rfl rfl 19 rfl
         exact dp_v (v := (pt b25 (o26 + 0))) (wanted_yes rfl (yv_of rfl (e19.trans (congrArg B hb21)))) (rv_fieldAddr (off := 0) (ft := 3) Try.underlying32 rfl ti3 rfl e22) rfl hJ) ?_
       refine all_cons (by
         refine ⟨?_, ?_⟩
         ·intro _nm ρ σm hJ hoff hdep
          have e23 := hdep 13 rfl rfl 23 rfl
          have e19 := hdep 9 rfl rfl 19 rfl
          obtain ⟨H, m⟩ := id hJ
          replace hc27 := (Hs.ro 1 rfl).hmd hx23 hi24 (k := 0) (by decide) hc27 m
          exact dp_v (v := (I x22.1)) (wanted_yes rfl (yv_of rfl (e19.trans (congrArg B hb21)))) (rv_load1 Try.underlying3 rfl e23 hc27) rfl hJ
         trivial) ?_
       refine ac rfl (by
         intro k _nm ρ σm hJ hoff hdep
         have e0 := look_off (N := 37) (hoff 0 rfl) rfl
         have e19 := hdep 9 rfl rfl 19 rfl
         exact dp_v (v := (Sl alist_0 list_0 clist_0)) (wanted_yes rfl (yv_of rfl (e19.trans (congrArg B hb21)))) (rv_move e0) rfl hJ) ?_
       refine ac rfl (by
         intro k _nm ρ σm hJ hoff hdep
         have e3 := look_off (N := 37) (hoff 3 rfl) rfl
         have e19 := hdep 9 rfl rfl 19 rfl
         exact dp_v (v := (I s2)) (wanted_yes rfl (yv_of rfl (e19.trans (congrArg B hb21)))) (rv_move e3) rfl hJ) ?_
       refine ac rfl (by
         intro k _nm ρ σm hJ hoff hdep
         have e26 := hdep 16 rfl rfl 26 rfl
         have e19 := hdep 9 rfl rfl 19 rfl
         exact dp_v (v := (I (w64 (s2 - 1)))) (wanted_yes rfl (yv_of rfl (e19.trans (congrArg B hb21)))) (rv_sub (a := s2) (b := 1) e26 rfl) rfl hJ) ?_
       refine ac rfl (by
         intro k _nm ρ σm hJ hoff hdep
         have e25 := hdep 15 rfl rfl 25 rfl
         have e27 := hdep 17 rfl rfl 27 rfl
         have e19 := hdep 9 rfl rfl 19 rfl
         exact dp_v (v := (pt b31 o32)) (wanted_yes rfl (yv_of rfl (e19.trans (congrArg B hb21)))) (rv_ix Try.underlying23 ti32 e25 e27 hi30) rfl hJ) ?_
       refine ac rfl (by
         intro k _nm ρ σm hJ hoff hdep
         have e28 := hdep 18 rfl rfl 28 rfl
         have e19 := hdep 9 rfl rfl 19 rfl
         exact dp_v (v := (pt b31 (o32 + 0))) (wanted_yes rfl (yv_of rfl (e19.trans (congrArg B hb21)))) (rv_fieldAddr (off := 0) (ft := 3) Try.underlying32 rfl ti3 rfl e28) rfl hJ) ?_
       refine all_cons (by
         refine ⟨?_, ?_⟩
         ·intro _nm ρ σm hJ hoff hdep
          have e29 := hdep 19 rfl rfl 29 rfl
          have e19 := hdep 9 rfl rfl 19 rfl
          obtain ⟨H, m⟩ := id hJ
          replace hc33 := (Hs.ro 1 rfl).hmd hx29 hi30 (k := 0) (by decide) hc33 m
          exact dp_v (v := (I x28.1)) (wanted_yes rfl (yv_of rfl (e19.trans (congrArg B hb21)))) (rv_load1 Try.underlying3 rfl e29 hc33) rfl hJ
         trivial) ?_
       exact all_nil
      ·intro _nm ρ σ34 hJ hoff hrel
       have e0 := look_off (N := 37) (hoff 0 rfl) rfl
       have e3 := look_off (N := 37) (hoff 3 rfl) rfl
       have e16 := hrel 6 rfl 16 rfl
       have e19 := hrel 9 rfl 19 rfl
       have e24 := hrel 14 rfl 24 rfl
       have e30 := hrel 20 rfl 30 rfl
       obtain ⟨H, -⟩ := (show Hp S0 σ0 σ34 [Ch.ro 0 (Sl a13 x6.2.1 c14) x6.2.1, Ch.ro 0 (Sl alist_0 list_0 clist_0) list_0] ∧ Md (cov []) σ3 σ34 from hJ)
       clear hJ Hs
       rw [fr_lookL (L := [(0, (Sl alist_0 list_0 clist_0)), (3, (I s2)), (16, (B (!r16))), (19, (B (decide (0 < s2)))), (24, (I x22.1)), (30, (I x28.1))]) ⟨e0, e3, e16, e19, e24, e30, trivial⟩]
       clear hoff hrel e0 e3 e16 e19 e24 e30
       refine st_g (v := (B (decide (x22.1 ≤ x28.1)))) (congrArg some hb21) (rv_leq (a := x22.1) (b := x28.1) rfl rfl) ?_
       refine st_g (v := (B (decide (x22.1 ≤ x28.1)))) (congrArg some hb19) (rv_pick_t (congrArg B hb21) rfl) ?_
       refine st (v := (B (decide (x22.1 ≤ x28.1)))) (rv_pick_f (congrArg B hb19) rfl) ?_
       refine w_end ?_
       obtain rfl := Option.some.inj h
       exact ⟨rfl, _, σ34, fr_join ⟨rfl, rfl, rfl, trivial⟩, rfl, H.sel' [1] rfl rfl⟩
     ·replace h := bif_f hb21 h
      have Hs := H
      refine rg2 (σ := σ3) (Nm := Unit) 21 [4] [[false], [true]] [[(0, 0)], [(0, 0)], [(0, 0)], [(0, 0)], [(0, 1)], [(1, 1)], [(1, 1)], [(1, 1)], [(1, 1)], [(1, 1)], [(1, 1)], [(1, 1)], [(1, 1)], [(1, 1)], [(1, 1)], [(1, 1)], [(1, 1)], [(1, 1)], [(1, 1)], [(1, 1)], [(1, 1)]] 1 [fun _ => fun σm => Hp S0 σ0 σm [Ch.ro 0 (Sl a13 x6.2.1 c14) x6.2.1, Ch.ro 0 (Sl alist_0 list_0 clist_0) list_0] ∧ Md (cov []) σ3 σm, fun _ => fun σm => Hp S0 σ0 σm [Ch.ro 0 (Sl a13 x6.2.1 c14) x6.2.1, Ch.ro 0 (Sl alist_0 list_0 clist_0) list_0] ∧ Md (cov []) σ3 σm] [fun _ => (Sl alist_0 list_0 clist_0), fun _ => (I s2), fun _ => (pt b9 o10), fun _ => (.agg #[(I x6.1), (Sl a13 x6.2.1 c14), (I x6.2.2)]), fun _ => (B r16), fun _ => (B (!r16)), fun _ => (B (!r16)), fun _ => (I s2), fun _ => (B (decide (0 < s2))), fun _ => (B (decide (0 < s2))), fun _ => undef, fun _ => undef, fun _ => undef, fun _ => undef, fun _ => undef, fun _ => undef, fun _ => undef, fun _ => undef, fun _ => undef, fun _ => undef, fun _ => undef] () (by kernel_rfl) (by kernel_rfl) ?_ ?_ ?_
      ·intro σm m0
       exact ⟨H.grow (m0.mono fun _ h => h.elim), m0⟩
      ·refine ac rfl (by
         intro k _nm ρ σm hJ hoff hdep
         have e0 := look_off (N := 37) (hoff 0 rfl) rfl
         exact dp_v (v := (Sl alist_0 list_0 clist_0)) wn (rv_move e0) rfl hJ) ?_
       refine ac rfl (by
         intro k _nm ρ σm hJ hoff hdep
         have e3 := look_off (N := 37) (hoff 3 rfl) rfl
         exact dp_v (v := (I s2)) wn (rv_move e3) rfl hJ) ?_
       refine ac rfl (by
         intro k _nm ρ σm hJ hoff hdep
         have e10 := hdep 0 rfl rfl 10 rfl
         have e11 := hdep 1 rfl rfl 11 rfl
         exact dp_v (v := (pt b9 o10)) wn (rv_ix Try.underlying23 ti32 e10 e11 hi8) rfl hJ) ?_
       refine all_cons (by
         refine ⟨?_, ?_⟩
         ·intro _nm ρ σm hJ hoff hdep
          have e12 := hdep 2 rfl rfl 12 rfl
          obtain ⟨H, m⟩ := id hJ
          replace hc12 := fun j hj => (Hs.ro 1 rfl).hmd hx7 hi8 (k := j) (Nat.lt_of_lt_of_eq hj hl11) (hc12 j hj) m
          exact dp_v (v := (.agg #[(I x6.1), (Sl a13 x6.2.1 c14), (I x6.2.2)])) wn (rv_load Try.underlying32 rfl ti32 e12 hl11 hc12) rfl hJ
         trivial) ?_
       refine all_cons (by
         refine ⟨?_, ?_⟩
         ·intro _nm ρ σm hJ hoff hdep
          have e13 : look 37 ρ 13 = (.agg #[(I x6.1), (Sl a13 x6.2.1 c14), (I x6.2.2)]) := hdep 3 rfl rfl 13 rfl
          obtain ⟨H, m⟩ := id hJ
          refine dp_cx wn (cx_call hc18 (ent_f hc18.fn (by show [look 37 ρ 13] = _; rw [e13])) hn0 (show Hp S0 σ0 _ ([Ch.ro 0 (Sl a13 x6.2.1 c14) x6.2.1] ++ [Ch.ro 0 (Sl a13 x6.2.1 c14) x6.2.1, Ch.ro 0 (Sl alist_0 list_0 clist_0) list_0]) from (H.sel' [0, 0, 1] rfl rfl))) ?_
          rintro _ σq ⟨_, ⟨rfl, rfl⟩, H2, m2⟩
          exact ⟨_, (), rfl, rfl, ⟨H2.sel' [0, 1] rfl rfl, m.comp0 (m2.mono (fun i h => by simp [cov, Ch.ro] at h))⟩, stab [0, 1, 2, 3] (by kernel_rfl) ⟨rfl, rfl, rfl, rfl, trivial⟩⟩
         trivial) ?_
       refine ac rfl (by
         intro k _nm ρ σm hJ hoff hdep
         have e14 := hdep 4 rfl rfl 14 rfl
         exact dp_v (v := (B (!r16))) wn (rv_not e14) rfl hJ) ?_
       refine ac rfl (by
         intro k _nm ρ σm hJ hoff hdep
         have e15 := hdep 5 rfl rfl 15 rfl
         exact dp_v (v := (B (!r16))) wn (rv_move e15) rfl hJ) ?_
       refine ac rfl (by
         intro k _nm ρ σm hJ hoff hdep
         have e3 := look_off (N := 37) (hoff 3 rfl) rfl
         have e16 := hdep 6 rfl rfl 16 rfl
         exact dp_v (v := (I s2)) (wanted_yes rfl (yv_of rfl (e16.trans (congrArg B hb19)))) (rv_move e3) rfl hJ) ?_
       refine ac rfl (by
         intro k _nm ρ σm hJ hoff hdep
         have e17 := hdep 7 rfl rfl 17 rfl
         have e16 := hdep 6 rfl rfl 16 rfl
         exact dp_v (v := (B (decide (0 < s2)))) (wanted_yes rfl (yv_of rfl (e16.trans (congrArg B hb19)))) (rv_gtr (a := s2) (b := 0) e17 rfl) rfl hJ) ?_
       refine ac rfl (by
         intro k _nm ρ σm hJ hoff hdep
         have e18 := hdep 8 rfl rfl 18 rfl
         have e16 := hdep 6 rfl rfl 16 rfl
         exact dp_v (v := (B (decide (0 < s2)))) (wanted_yes rfl (yv_of rfl (e16.trans (congrArg B hb19)))) (rv_move e18) rfl hJ) ?_
       refine ac rfl (by
         intro k _nm ρ σm hJ hoff hdep
         have e19 := hdep 9 rfl rfl 19 rfl
         exact dp_skip (wanted_no rfl (yv_of rfl (e19.trans (congrArg B hb21)))) rfl hJ) ?_
       refine ac rfl (by
         intro k _nm ρ σm hJ hoff hdep
         have e19 := hdep 9 rfl rfl 19 rfl
         exact dp_skip (wanted_no rfl (yv_of rfl (e19.trans (congrArg B hb21)))) rfl hJ) ?_
       refine ac rfl (by
         intro k _nm ρ σm hJ hoff hdep
         have e19 := hdep 9 rfl rfl 19 rfl
         exact dp_skip (wanted_no rfl (yv_of rfl (e19.trans (congrArg B hb21)))) rfl hJ) ?_
       refine ac rfl (by
         intro k _nm ρ σm hJ hoff hdep
         have e19 := hdep 9 rfl rfl 19 rfl
         exact dp_skip (wanted_no rfl (yv_of rfl (e19.trans (congrArg B hb21)))) rfl hJ) ?_
       refine ac rfl (by
         intro k _nm ρ σm hJ hoff hdep
         have e19 := hdep 9 rfl rfl 19 rfl
         exact dp_skip (wanted_no rfl (yv_of rfl (e19.trans (congrArg B hb21)))) rfl hJ) ?_
       refine ac rfl (by
         intro k _nm ρ σm hJ hoff hdep
         have e19 := hdep 9 rfl rfl 19 rfl
         exact dp_skip (wanted_no rfl (yv_of rfl (e19.trans (congrArg B hb21)))) rfl hJ) ?_
       refine ac rfl (by
         intro k _nm ρ σm hJ hoff hdep
         have e19 := hdep 9 rfl rfl 19 rfl
         exact dp_skip (wanted_no rfl (yv_of rfl (e19.trans (congrArg B hb21)))) rfl hJ) ?_
       refine ac rfl (by
         intro k _nm ρ σm hJ hoff hdep
         have e19 := hdep 9 rfl rfl 19 rfl
         exact dp_skip (wanted_no rfl (yv_of rfl (e19.trans (congrArg B hb21)))) rfl hJ) ?_
       refine ac rfl (by
         intro k _nm ρ σm hJ hoff hdep
         have e19 := hdep 9 rfl rfl 19 rfl
         exact dp_skip (wanted_no rfl (yv_of rfl (e19.trans (congrArg B hb21)))) rfl hJ) ?_
       refine ac rfl (by
         intro k _nm ρ σm hJ hoff hdep
         have e19 := hdep 9 rfl rfl 19 rfl
         exact dp_skip (wanted_no rfl (yv_of rfl (e19.trans (congrArg B hb21)))) rfl hJ) ?_
       refine ac rfl (by
         intro k _nm ρ σm hJ hoff hdep
         have e19 := hdep 9 rfl rfl 19 rfl
         exact dp_skip (wanted_no rfl (yv_of rfl (e19.trans (congrArg B hb21)))) rfl hJ) ?_
       exact all_nil
      ·intro _nm ρ σ35 hJ hoff hrel
       have e0 := look_off (N := 37) (hoff 0 rfl) rfl
       have e3 := look_off (N := 37) (hoff 3 rfl) rfl
       have e16 := hrel 6 rfl 16 rfl
       have e19 := hrel 9 rfl 19 rfl
       have e24 := hrel 14 rfl 24 rfl
       have e30 := hrel 20 rfl 30 rfl
       obtain ⟨H, -⟩ := (show Hp S0 σ0 σ35 [Ch.ro 0 (Sl a13 x6.2.1 c14) x6.2.1, Ch.ro 0 (Sl alist_0 list_0 clist_0) list_0] ∧ Md (cov []) σ3 σ35 from hJ)
       clear hJ Hs
       rw [fr_lookL (L := [(0, (Sl alist_0 list_0 clist_0)), (3, (I s2)), (16, (B (!r16))), (19, (B (decide (0 < s2)))), (24, undef), (30, undef)]) ⟨e0, e3, e16, e19, e24, e30, trivial⟩]
       clear hoff hrel e0 e3 e16 e19 e24 e30
       refine st_skip (congrArg some hb21) ?_
       refine st_g (v := (B false)) (congrArg some hb19) (rv_pick_f (congrArg B hb21) rfl) ?_
       refine st (v := (B false)) (rv_pick_f (congrArg B hb19) rfl) ?_
       refine w_end ?_
       obtain rfl := Option.some.inj h
       exact ⟨rfl, _, σ35, fr_join ⟨rfl, rfl, rfl, trivial⟩, rfl, H.sel' [1] rfl rfl⟩
   ·clear hj
    have h := h'
    clear h' H
    rintro e a w ⟨rfl, ρ, σ36, rfl, rfl, H⟩
    refine q_then ?_
    refine cd_cond o5 rfl (fun hb37 => ?_) (fun hb37 => ?_)
    ·replace h := bif_t hb37 h
     refine c_seq ?_
     refine rg ?_
     refine st (v := (B false)) (rv_assign rfl) ?_
     refine w_end ?_
     refine q_then ?_
     refine c_ret ?_
     refine q_blk_r ?_
     refine q_then_r ?_
     refine q_then_r ?_
     refine q_blk_r ?_
     obtain rfl := Option.some.inj h
     obtain rfl := hres _ rfl
     exact .inr (⟨_, rfl, rfl, _, σ36, fr_join ⟨rfl, trivial⟩, rfl, H.sel' [] rfl rfl⟩)
    ·replace h := bif_f hb37 h
     refine c_skip ?_
     refine q_blk ?_
     refine q_then ?_
     refine rg ?_
     refine st (v := (I s2)) (rv_move rfl) ?_
     refine st (v := (I (w64 (s2 + 1)))) (rv_add (a := s2) (b := 1) rfl rfl) ?_
     refine st (v := (I (w64 (s2 + 1)))) (rv_assign rfl) ?_
     refine w_end ?_
     refine q_then ?_
     obtain rfl := Option.some.inj h
     exact ⟨_, rfl, _, σ36, fr_join ⟨rfl, rfl, trivial⟩, rfl, H.sel' [0] rfl rfl⟩
  ·replace h := bif_f hb4 h
   refine c_exit ?_
   refine q_then_x ?_
   refine q_then_x ?_
   refine q_blk_hit ?_
   obtain rfl := Option.some.inj h
   obtain rfl := hres _ rfl
   exact .inl ⟨_, rfl, rfl, _, σ3, fr_join ⟨rfl, trivial⟩, rfl, H.sel' [0] rfl rfl⟩
 ·clear hj
  have h := h'
  clear h' H
  rintro e a w (⟨t38, rfl, rfl, ρ, σ39, rfl, rfl, H⟩ | ⟨t40, rfl, rfl, ρ, σ41, rfl, rfl, H⟩)
  ·replace h := selim_l h
   refine q_then ?_
   refine c_seq ?_
   refine rg ?_
   refine st (v := (Sl alist_0 list_0 clist_0)) (rv_move rfl) ?_
   refine st (v := (I (list_0.length : Int))) (rv_len Try.underlying23 rfl) ?_
   refine st (v := (B (decide ((list_0.length : Int) ≤ 16)))) (rv_leq (a := (list_0.length : Int)) (b := 16) rfl rfl) ?_
   refine st (v := (B (decide ((list_0.length : Int) ≤ 16)))) (rv_assign rfl) ?_
   refine w_end ?_
   refine q_then ?_
   refine c_ret ?_
   obtain rfl := Option.some.inj h
   exact fin_ret (v := (B (decide ((list_0.length : Int) ≤ 16)))) (results_ok Try.results50 (res_tmp (v := (B (decide ((list_0.length : Int) ≤ 16)))) rfl res_nil) rfl) ⟨rfl, rfl⟩ (H.sel' [] rfl rfl)
  ·replace h := selim_r h
   refine q_then_r ?_
   obtain rfl := Option.some.inj h
   exact fin_ret (v := (B t40)) (results_ok Try.results50 (res_tmp (v := (B t40)) rfl res_nil) rfl) ⟨rfl, rfl⟩ (H.sel' [] rfl rfl)

theorem c_spec_validFilter {f_0 : Int × Int × Int}  {r : Bool} (h : M.spec_validFilter f_0 = some r) :
    Cal2 Try.prog 63 [(.agg #[(I f_0.1), (I f_0.2.1), (I f_0.2.2)])] [] (fun n0 v L => v = (B r) ∧ L = []) := by
 refine cal2 (n := 16) Try.func63 rfl rfl rfl rfl ?_
 intro S0 σ0 n0 hn0 H
 unfold M.spec_validFilter at h
 refine c_seq ?_
 refine rg ?_
 refine st_ex (ex_box (cs := [(I f_0.1), (I f_0.2.1), (I f_0.2.2)]) H hn0 rfl rfl) wn ?_
 rintro _ σ2 ⟨b1, rfl, H, -⟩
 refine st (v := (B false)) (rv_assign rfl) ?_
 refine w_end ?_
 refine q_then ?_
 refine c_seq ?_
 refine rg ?_
 refine st (v := (pt b1 0)) (rv_fieldAddr (off := 0) (ft := 3) Try.underlying38 rfl ti3 rfl rfl) ?_
 have hc3 := H.cell (u := (I f_0.1)) (o' := 0) 0 0 rfl rfl rfl
 refine st (v := (I f_0.1)) (rv_load1 Try.underlying3 rfl rfl hc3) ?_
 obtain ⟨r4, hx5, h'⟩ := bind_some h
 clear h
 have h := h'; clear h'
 have hc6 := c_spec_inRange hx5
 refine st_call (cx_call hc6 (ent_f hc6.fn rfl) hn0 (show Hp S0 σ0 _ ([] ++ [Ch.bx n0 b1 0 [(I f_0.1), (I f_0.2.1), (I f_0.2.2)] [] []]) from (H.sel' [0] rfl rfl))) wn ?_
 rintro _ σ7 ⟨_, ⟨rfl, rfl⟩, H, -⟩
 replace H : Hp S0 σ0 σ7 [Ch.bx n0 b1 0 [(I f_0.1), (I f_0.2.1), (I f_0.2.2)] [] []] := H
 refine st (v := (B r4)) (rv_move rfl) ?_
 rcases Bool.eq_false_or_eq_true r4 with hb8 | hb8
 ·replace h := bif_t hb8 h
  refine st_g (v := (pt b1 1)) (congrArg some hb8) (rv_fieldAddr (off := 1) (ft := 3) Try.underlying38 rfl ti3 rfl rfl) ?_
  have hc9 := H.cell (u := (I f_0.2.1)) (o' := 1) 0 1 rfl rfl rfl
  refine st_g (v := (I f_0.2.1)) (congrArg some hb8) (rv_load1 Try.underlying3 rfl rfl hc9) ?_
  obtain ⟨r10, hx11, h'⟩ := bind_some h
  clear h
  have h := h'; clear h'
  have hc12 := c_spec_inRange hx11
  refine st_call (cx_call hc12 (ent_f hc12.fn rfl) hn0 (show Hp S0 σ0 _ ([] ++ [Ch.bx n0 b1 0 [(I f_0.1), (I f_0.2.1), (I f_0.2.2)] [] []]) from (H.sel' [0] rfl rfl))) (wanted_yes rfl (by exact (congrArg some hb8))) ?_
  rintro _ σ13 ⟨_, ⟨rfl, rfl⟩, H, -⟩
  replace H : Hp S0 σ0 σ13 [Ch.bx n0 b1 0 [(I f_0.1), (I f_0.2.1), (I f_0.2.2)] [] []] := H
  refine st (v := (B r10)) (rv_pick_t (congrArg B hb8) rfl) ?_
  refine st (v := (B r10)) (rv_move rfl) ?_
  rcases Bool.eq_false_or_eq_true r10 with hb14 | hb14
  ·replace h := bif_t hb14 h
   refine st_g (v := (pt b1 2)) (congrArg some hb14) (rv_fieldAddr (off := 2) (ft := 3) Try.underlying38 rfl ti3 rfl rfl) ?_
   have hc15 := H.cell (u := (I f_0.2.2)) (o' := 2) 0 2 rfl rfl rfl
   refine st_g (v := (I f_0.2.2)) (congrArg some hb14) (rv_load1 Try.underlying3 rfl rfl hc15) ?_
   obtain ⟨r16, hx17, h'⟩ := bind_some h
   clear h
   have h := h'; clear h'
   have hc18 := c_spec_inRange hx17
   refine st_call (cx_call hc18 (ent_f hc18.fn rfl) hn0 (show Hp S0 σ0 _ ([] ++ [Ch.bx n0 b1 0 [(I f_0.1), (I f_0.2.1), (I f_0.2.2)] [] []]) from (H.sel' [0] rfl rfl))) (wanted_yes rfl (by exact (congrArg some hb14))) ?_
   rintro _ σ19 ⟨_, ⟨rfl, rfl⟩, H, -⟩
   replace H : Hp S0 σ0 σ19 [Ch.bx n0 b1 0 [(I f_0.1), (I f_0.2.1), (I f_0.2.2)] [] []] := H
   refine st (v := (B r16)) (rv_pick_t (congrArg B hb14) rfl) ?_
   refine st (v := (B r16)) (rv_assign rfl) ?_
   refine w_end ?_
   refine q_then ?_
   refine c_ret ?_
   obtain rfl := Option.some.inj h
   exact fin_ret (v := (B r16)) (results_ok Try.results63 (res_tmp (v := (B r16)) rfl res_nil) rfl) ⟨rfl, rfl⟩ (H.sel' [] rfl rfl)
  ·replace h := bif_f hb14 h
   refine st_skip (congrArg some hb14) ?_
   refine st_skip (congrArg some hb14) ?_
   refine st_skip (congrArg some hb14) ?_
   refine st (v := (B false)) (rv_pick_f (congrArg B hb14) rfl) ?_
   refine st (v := (B false)) (rv_assign rfl) ?_
   refine w_end ?_
   refine q_then ?_
   refine c_ret ?_
   obtain rfl := Option.some.inj h
   exact fin_ret (v := (B false)) (results_ok Try.results63 (res_tmp (v := (B false)) rfl res_nil) rfl) ⟨rfl, rfl⟩ (H.sel' [] rfl rfl)
 ·replace h := bif_f hb8 h
  refine st_skip (congrArg some hb8) ?_
  refine st_skip (congrArg some hb8) ?_
  refine st_skip (congrArg some hb8) ?_
  refine st (v := (B false)) (rv_pick_f (congrArg B hb8) rfl) ?_
  refine st (v := (B false)) (rv_move rfl) ?_
  refine st_skip rfl ?_
  refine st_skip rfl ?_
  refine st_skip rfl ?_
  refine st (v := (B false)) (rv_pick_f rfl rfl) ?_
  refine st (v := (B false)) (rv_assign rfl) ?_
  refine w_end ?_
  refine q_then ?_
  refine c_ret ?_
  obtain rfl := Option.some.inj h
  exact fin_ret (v := (B false)) (results_ok Try.results63 (res_tmp (v := (B false)) rfl res_nil) rfl) ⟨rfl, rfl⟩ (H.sel' [] rfl rfl)

theorem c_spec_passes {f_0 : Int × Int × Int} {tags_1 : Int}  {r : Bool} (h : M.spec_passes f_0 tags_1 = some r) :
    Cal2 Try.prog 64 [(.agg #[(I f_0.1), (I f_0.2.1), (I f_0.2.2)]), (I tags_1)] [] (fun n0 v L => v = (B r) ∧ L = []) := by
 refine cal2 (n := 31) Try.func64 rfl rfl rfl rfl ?_
 intro S0 σ0 n0 hn0 H
 unfold M.spec_passes at h
 refine c_seq ?_
 refine rg ?_
 refine st_ex (ex_box (cs := [(I f_0.1), (I f_0.2.1), (I f_0.2.2)]) H hn0 rfl rfl) wn ?_
 rintro _ σ2 ⟨b1, rfl, H, -⟩
 refine st (v := (B false)) (rv_assign rfl) ?_
 refine w_end ?_
 refine q_then ?_
 refine c_seq ?_
 refine rg ?_
 refine st (v := (I tags_1)) (rv_move rfl) ?_
 refine st (v := (pt b1 0)) (rv_fieldAddr (off := 0) (ft := 3) Try.underlying38 rfl ti3 rfl rfl) ?_
 have hc3 := H.cell (u := (I f_0.1)) (o' := 0) 0 0 rfl rfl rfl
 refine st (v := (I f_0.1)) (rv_load1 Try.underlying3 rfl rfl hc3) ?_
 refine st (v := (I (gand tags_1 f_0.1))) (rv_and (a := tags_1) (b := f_0.1) rfl rfl) ?_
 refine st (v := (pt b1 0)) (rv_fieldAddr (off := 0) (ft := 3) Try.underlying38 rfl ti3 rfl rfl) ?_
 have hc4 := H.cell (u := (I f_0.1)) (o' := 0) 0 0 rfl rfl rfl
 refine st (v := (I f_0.1)) (rv_load1 Try.underlying3 rfl rfl hc4) ?_
 refine st (v := (B ((gand tags_1 f_0.1) == f_0.1))) (rv_eql (a := (gand tags_1 f_0.1)) (b := f_0.1) rfl rfl) ?_
 refine st (v := (B ((gand tags_1 f_0.1) == f_0.1))) (rv_move rfl) ?_
 rcases Bool.eq_false_or_eq_true ((gand tags_1 f_0.1) == f_0.1) with hb5 | hb5
 ·replace h := bif_t hb5 h
  refine st_g (v := (I tags_1)) (congrArg some hb5) (rv_move rfl) ?_
  refine st_g (v := (pt b1 1)) (congrArg some hb5) (rv_fieldAddr (off := 1) (ft := 3) Try.underlying38 rfl ti3 rfl rfl) ?_
  have hc6 := H.cell (u := (I f_0.2.1)) (o' := 1) 0 1 rfl rfl rfl
  refine st_g (v := (I f_0.2.1)) (congrArg some hb5) (rv_load1 Try.underlying3 rfl rfl hc6) ?_
  refine st_g (v := (I (gand tags_1 f_0.2.1))) (congrArg some hb5) (rv_and (a := tags_1) (b := f_0.2.1) rfl rfl) ?_
  refine st_g (v := (B ((gand tags_1 f_0.2.1) == 0))) (congrArg some hb5) (rv_eql (a := (gand tags_1 f_0.2.1)) (b := 0) rfl rfl) ?_
  refine st (v := (B ((gand tags_1 f_0.2.1) == 0))) (rv_pick_t (congrArg B hb5) rfl) ?_
  refine st (v := (B ((gand tags_1 f_0.2.1) == 0))) (rv_move rfl) ?_
  rcases Bool.eq_false_or_eq_true ((gand tags_1 f_0.2.1) == 0) with hb7 | hb7
  ·replace h := bif_t hb7 h
   refine st_g (v := (pt b1 2)) (congrArg some hb7) (rv_fieldAddr (off := 2) (ft := 3) Try.underlying38 rfl ti3 rfl rfl) ?_
   have hc8 := H.cell (u := (I f_0.2.2)) (o' := 2) 0 2 rfl rfl rfl
   refine st_g (v := (I f_0.2.2)) (congrArg some hb7) (rv_load1 Try.underlying3 rfl rfl hc8) ?_
   refine st_g (v := (B (f_0.2.2 == 0))) (congrArg some hb7) (rv_eql (a := f_0.2.2) (b := 0) rfl rfl) ?_
   refine st_g (v := (B (f_0.2.2 == 0))) (congrArg some hb7) (rv_move rfl) ?_
   rcases Bool.eq_false_or_eq_true (f_0.2.2 == 0) with hb9 | hb9
   ·replace h := bif_t hb9 h
    refine st_skip (congrArg some hb9) ?_
    refine st_skip (congrArg some hb9) ?_
    refine st_skip (congrArg some hb9) ?_
    refine st_skip (congrArg some hb9) ?_
    refine st_skip (congrArg some hb9) ?_
    refine st_g (v := (B true)) (congrArg some hb7) (rv_pick_t (congrArg B hb9) rfl) ?_
    refine st (v := (B true)) (rv_pick_t (congrArg B hb7) rfl) ?_
    refine st (v := (B true)) (rv_assign rfl) ?_
    refine w_end ?_
    refine q_then ?_
    refine c_ret ?_
    obtain rfl := Option.some.inj h
    exact fin_ret (v := (B true)) (results_ok Try.results64 (res_tmp (v := (B true)) rfl res_nil) rfl) ⟨rfl, rfl⟩ (H.sel' [] rfl rfl)
   ·replace h := bif_f hb9 h
    refine st_g (v := (I tags_1)) (congrArg some hb9) (rv_move rfl) ?_
    refine st_g (v := (pt b1 2)) (congrArg some hb9) (rv_fieldAddr (off := 2) (ft := 3) Try.underlying38 rfl ti3 rfl rfl) ?_
    have hc10 := H.cell (u := (I f_0.2.2)) (o' := 2) 0 2 rfl rfl rfl
    refine st_g (v := (I f_0.2.2)) (congrArg some hb9) (rv_load1 Try.underlying3 rfl rfl hc10) ?_
    refine st_g (v := (I (gand tags_1 f_0.2.2))) (congrArg some hb9) (rv_and (a := tags_1) (b := f_0.2.2) rfl rfl) ?_
    refine st_g (v := (B ((gand tags_1 f_0.2.2) != 0))) (congrArg some hb9) (rv_neq (a := (gand tags_1 f_0.2.2)) (b := 0) rfl rfl) ?_
    refine st_g (v := (B ((gand tags_1 f_0.2.2) != 0))) (congrArg some hb7) (rv_pick_f (congrArg B hb9) rfl) ?_
    refine st (v := (B ((gand tags_1 f_0.2.2) != 0))) (rv_pick_t (congrArg B hb7) rfl) ?_
    refine st (v := (B ((gand tags_1 f_0.2.2) != 0))) (rv_assign rfl) ?_
    refine w_end ?_
    refine q_then ?_
    refine c_ret ?_
    obtain rfl := Option.some.inj h
    exact fin_ret (v := (B ((gand tags_1 f_0.2.2) != 0))) (results_ok Try.results64 (res_tmp (v := (B ((gand tags_1 f_0.2.2) != 0))) rfl res_nil) rfl) ⟨rfl, rfl⟩ (H.sel' [] rfl rfl)
  ·replace h := bif_f hb7 h
   refine st_skip (congrArg some hb7) ?_
   refine st_skip (congrArg some hb7) ?_
   refine st_skip (congrArg some hb7) ?_
   refine st_skip (congrArg some hb7) ?_
   refine st_skip_u rfl ?_
   refine st_skip_u rfl ?_
   refine st_skip_u rfl ?_
   refine st_skip_u rfl ?_
   refine st_skip_u rfl ?_
   refine st_skip (congrArg some hb7) ?_
   refine st (v := (B false)) (rv_pick_f (congrArg B hb7) rfl) ?_
   refine st (v := (B false)) (rv_assign rfl) ?_
   refine w_end ?_
   refine q_then ?_
   refine c_ret ?_
   obtain rfl := Option.some.inj h
   exact fin_ret (v := (B false)) (results_ok Try.results64 (res_tmp (v := (B false)) rfl res_nil) rfl) ⟨rfl, rfl⟩ (H.sel' [] rfl rfl)
 ·replace h := bif_f hb5 h
  refine st_skip (congrArg some hb5) ?_
  refine st_skip (congrArg some hb5) ?_
  refine st_skip (congrArg some hb5) ?_
  refine st_skip (congrArg some hb5) ?_
  refine st_skip (congrArg some hb5) ?_
  refine st (v := (B false)) (rv_pick_f (congrArg B hb5) rfl) ?_
  refine st (v := (B false)) (rv_move rfl) ?_
  refine st_skip rfl ?_
  refine st_skip rfl ?_
  refine st_skip rfl ?_
  refine st_skip rfl ?_
  refine st_skip_u rfl ?_
  refine st_skip_u rfl ?_
  refine st_skip_u rfl ?_
  refine st_skip_u rfl ?_
  refine st_skip_u rfl ?_
  refine st_skip rfl ?_
  refine st (v := (B false)) (rv_pick_f rfl rfl) ?_
  refine st (v := (B false)) (rv_assign rfl) ?_
  refine w_end ?_
  refine q_then ?_
  refine c_ret ?_
  obtain rfl := Option.some.inj h
  exact fin_ret (v := (B false)) (results_ok Try.results64 (res_tmp (v := (B false)) rfl res_nil) rfl) ⟨rfl, rfl⟩ (H.sel' [] rfl rfl)

theorem c_spec_copyInts {list_0 : List Int} {alist_0 : Option Addr} {clist_0 : Nat} {r : (List Int)} (h : M.spec_copyInts list_0 = some r) :
    Cal2 Try.prog 98 [(Sl alist_0 list_0 clist_0)] [Ch.ro 0 (Sl alist_0 list_0 clist_0) list_0] (fun n0 v L => ∃ (az1 : Option Addr), ∃ (cz2 : Nat), v = (Sl az1 r cz2) ∧ L = [Ch.own n0 n0 (Sl az1 r cz2) r]) := by
 refine cal2 (n := 6) Try.func98 rfl rfl rfl rfl ?_
 intro S0 σ0 n0 hn0 H
 unfold M.spec_copyInts at h
 refine c_seq ?_
 refine rg ?_
 refine st (v := (.slice none 0 0)) (rv_assign rfl) ?_
 refine w_end ?_
 refine q_then ?_
 refine c_seq ?_
 refine rg ?_
 refine st_ex (ex_buildSlice (el := n0) (xs := ([] : List Int)) (ps := []) (cs := []) H hn0 Try.underlying30 ti3 rfl rfl (by kernel_rfl) (.nil) rfl) wn ?_
 rintro _ σ2 ⟨b1, rfl, H, -⟩
 refine st (v := (Sl alist_0 list_0 clist_0)) (rv_move rfl) ?_
 obtain ⟨xs3, hx4, h'⟩ := bind_some h
 clear h
 have h := h'; clear h'
 refine st_ex (ex_append H (i := 0) rfl Try.underlying30 Try.underlying30 ti3 rfl rfl (by decide) ((H.ro 1 rfl).rd.sc) hx4 hn0 rfl rfl) wn ?_
 rintro _ σ7 ⟨a5, c6, rfl, H, -⟩
 refine st (v := (Sl a5 xs3 c6)) (rv_assign rfl) ?_
 refine w_end ?_
 refine q_then ?_
 refine c_ret ?_
 obtain rfl := Option.some.inj h
 exact fin_ret (v := (Sl a5 xs3 c6)) (results_ok Try.results98 (res_tmp (v := (Sl a5 xs3 c6)) rfl res_nil) rfl) ⟨a5, c6, rfl, rfl⟩ (H.sel' [0] rfl rfl)

theorem c_spec_copyItem {x_0 : Int × (List Int) × Int} {ax_0_1 : Option Addr} {cx_0_1 : Nat} {r : (Int × (List Int) × Int)} (h : M.spec_copyItem x_0 = some r) :
    Cal2 Try.prog 65 [(.agg #[(I x_0.1), (Sl ax_0_1 x_0.2.1 cx_0_1), (I x_0.2.2)])] [Ch.ro 0 (Sl ax_0_1 x_0.2.1 cx_0_1) x_0.2.1] (fun n0 v L => ∃ (az1 : Option Addr), ∃ (cz2 : Nat), v = (.agg #[(I r.1), (Sl az1 r.2.1 cz2), (I r.2.2)]) ∧ L = [Ch.own n0 n0 (Sl az1 r.2.1 cz2) r.2.1]) := by
 refine cal2 (n := 11) Try.func65 rfl rfl rfl rfl ?_
 intro S0 σ0 n0 hn0 H
 unfold M.spec_copyItem at h
 refine c_seq ?_
 refine rg ?_
 refine st_ex (ex_box (cs := [(I x_0.1), (Sl ax_0_1 x_0.2.1 cx_0_1), (I x_0.2.2)]) H hn0 rfl rfl) wn ?_
 rintro _ σ2 ⟨b1, rfl, H, -⟩
 refine st_ex (ex_alloc (cs := [(I 0), (.slice none 0 0), (I 0)]) H hn0 ti32 rfl) wn ?_
 rintro _ σ4 ⟨b3, rfl, H, -⟩
 refine w_end ?_
 refine q_then ?_
 refine c_seq ?_
 have hc5 := H.cell (u := (I x_0.1)) (o' := 0) 1 0 rfl rfl rfl
 have hc6 := H.cell (u := (Sl ax_0_1 x_0.2.1 cx_0_1)) (o' := 1) 1 1 rfl rfl rfl
 obtain ⟨r7, hx8, h'⟩ := bind_some h
 clear h
 have h := h'; clear h'
 have hc9 := c_spec_copyInts (alist_0 := ax_0_1) (clist_0 := cx_0_1) hx8
 have hc12 := H.cell (u := (I x_0.2.2)) (o' := 2) 1 2 rfl rfl rfl
 have Hs := H
 refine rg2 (σ := σ4) (Nm := (Option Addr) × (Nat)) 7 [4] [[false], [true]] [[(0, 0), (1, 1)], [(0, 0), (1, 1)], [(0, 0)], [(0, 0)], [(0, 1)], [(0, 0), (1, 1)], [(0, 0), (1, 1)]] 1 [fun ((a10, c11) : (Option Addr) × (Nat)) => fun σm => Hp S0 σ0 σm [Ch.bx n0 b3 0 [(I 0), (.slice none 0 0), (I 0)] [] [], Ch.bx n0 b1 0 [(I x_0.1), (Sl ax_0_1 x_0.2.1 cx_0_1), (I x_0.2.2)] [] [], Ch.ro 0 (Sl ax_0_1 x_0.2.1 cx_0_1) x_0.2.1] ∧ Md (cov []) σ4 σm, fun ((a10, c11) : (Option Addr) × (Nat)) => fun σm => Hp S0 σ0 σm [Ch.own n0 n0 (Sl a10 r7 c11) r7, Ch.bx n0 b3 0 [(I 0), (.slice none 0 0), (I 0)] [] [], Ch.bx n0 b1 0 [(I x_0.1), (Sl ax_0_1 x_0.2.1 cx_0_1), (I x_0.2.2)] [] [], Ch.ro 0 (Sl ax_0_1 x_0.2.1 cx_0_1) x_0.2.1] ∧ Md (cov []) σ4 σm] [fun ((a10, c11) : (Option Addr) × (Nat)) => (pt b1 0), fun ((a10, c11) : (Option Addr) × (Nat)) => (I x_0.1), fun ((a10, c11) : (Option Addr) × (Nat)) => (pt b1 1), fun ((a10, c11) : (Option Addr) × (Nat)) => (Sl ax_0_1 x_0.2.1 cx_0_1), fun ((a10, c11) : (Option Addr) × (Nat)) => (Sl a10 r7 c11), fun ((a10, c11) : (Option Addr) × (Nat)) => (pt b1 2), fun ((a10, c11) : (Option Addr) × (Nat)) => (I x_0.2.2)] (none, 0) (by kernel_rfl) (by kernel_rfl) ?_ ?_ ?_
 ·intro σm m0
  exact ⟨H.grow (m0.mono fun _ h => h.elim), m0⟩
 ·refine ac rfl (by
    intro k; rintro ⟨a10, c11⟩ ρ σm hJ hoff hdep
    have e1 := look_off (N := 11) (hoff 1 rfl) rfl
    exact dp_v (v := (pt b1 0)) wn (rv_fieldAddr (off := 0) (ft := 3) Try.underlying32 rfl ti3 rfl e1) rfl hJ) ?_
  refine all_cons (by
    refine ⟨?_, ?_⟩
    ·rintro ⟨a10, c11⟩ ρ σm hJ hoff hdep
     have e3 := hdep 0 rfl rfl 3 rfl
     obtain ⟨H, m⟩ := id hJ
     have hc5 := H.cell (u := (I x_0.1)) (o' := 0) 1 0 rfl rfl rfl
     exact dp_v (v := (I x_0.1)) wn (rv_load1 Try.underlying3 rfl e3 hc5) rfl hJ
    refine ⟨?_, ?_⟩
    ·rintro ⟨a10, c11⟩ ρ σm hJ hoff hdep
     have e3 := hdep 0 rfl rfl 3 rfl
     obtain ⟨H, m⟩ := id hJ
     have hc5 := H.cell (u := (I x_0.1)) (o' := 0) 2 0 rfl rfl rfl
     exact dp_v (v := (I x_0.1)) wn (rv_load1 Try.underlying3 rfl e3 hc5) rfl hJ
    trivial) ?_
  refine ac rfl (by
    intro k; rintro ⟨a10, c11⟩ ρ σm hJ hoff hdep
    have e1 := look_off (N := 11) (hoff 1 rfl) rfl
    exact dp_v (v := (pt b1 1)) wn (rv_fieldAddr (off := 1) (ft := 30) Try.underlying32 rfl ti30 rfl e1) rfl hJ) ?_
  refine all_cons (by
    refine ⟨?_, ?_⟩
    ·rintro ⟨a10, c11⟩ ρ σm hJ hoff hdep
     have e5 := hdep 2 rfl rfl 5 rfl
     obtain ⟨H, m⟩ := id hJ
     have hc6 := H.cell (u := (Sl ax_0_1 x_0.2.1 cx_0_1)) (o' := 1) 1 1 rfl rfl rfl
     exact dp_v (v := (Sl ax_0_1 x_0.2.1 cx_0_1)) wn (rv_load1 Try.underlying30 rfl e5 hc6) rfl hJ
    trivial) ?_
  refine all_cons (by
    refine ⟨?_, ?_⟩
    ·rintro ⟨a10, c11⟩ ρ σm hJ hoff hdep
     have e6 : look 11 ρ 6 = (Sl ax_0_1 x_0.2.1 cx_0_1) := hdep 3 rfl rfl 6 rfl
     obtain ⟨H, m⟩ := id hJ
     refine dp_cx wn (cx_call hc9 (ent_f hc9.fn (by show [look 11 ρ 6] = _; rw [e6])) hn0 (show Hp S0 σ0 _ ([Ch.ro 0 (Sl ax_0_1 x_0.2.1 cx_0_1) x_0.2.1] ++ [Ch.bx n0 b3 0 [(I 0), (.slice none 0 0), (I 0)] [] [], Ch.bx n0 b1 0 [(I x_0.1), (Sl ax_0_1 x_0.2.1 cx_0_1), (I x_0.2.2)] [] [], Ch.ro 0 (Sl ax_0_1 x_0.2.1 cx_0_1) x_0.2.1]) from (H.sel' [2, 0, 1, 2] rfl rfl))) ?_
     rintro _ σq ⟨_, ⟨a10x, c11x, rfl, rfl⟩, H2, m2⟩
     exact ⟨_, (a10x, c11x), rfl, rfl, ⟨H2.sel' [0, 1, 2, 3] rfl rfl, m.comp0 (m2.mono (fun i h => by simp [cov, Ch.ro] at h))⟩, stab [0, 1, 2, 3, 5, 6] (by kernel_rfl) ⟨rfl, rfl, rfl, rfl, rfl, rfl, trivial⟩⟩
    trivial) ?_
  refine ac rfl (by
    intro k; rintro ⟨a10, c11⟩ ρ σm hJ hoff hdep
    have e1 := look_off (N := 11) (hoff 1 rfl) rfl
    exact dp_v (v := (pt b1 2)) wn (rv_fieldAddr (off := 2) (ft := 3) Try.underlying32 rfl ti3 rfl e1) rfl hJ) ?_
  refine all_cons (by
    refine ⟨?_, ?_⟩
    ·rintro ⟨a10, c11⟩ ρ σm hJ hoff hdep
     have e8 := hdep 5 rfl rfl 8 rfl
     obtain ⟨H, m⟩ := id hJ
     have hc12 := H.cell (u := (I x_0.2.2)) (o' := 2) 1 2 rfl rfl rfl
     exact dp_v (v := (I x_0.2.2)) wn (rv_load1 Try.underlying3 rfl e8 hc12) rfl hJ
    refine ⟨?_, ?_⟩
    ·rintro ⟨a10, c11⟩ ρ σm hJ hoff hdep
     have e8 := hdep 5 rfl rfl 8 rfl
     obtain ⟨H, m⟩ := id hJ
     have hc12 := H.cell (u := (I x_0.2.2)) (o' := 2) 2 2 rfl rfl rfl
     exact dp_v (v := (I x_0.2.2)) wn (rv_load1 Try.underlying3 rfl e8 hc12) rfl hJ
    trivial) ?_
  exact all_nil
 ·rintro ⟨a10, c11⟩ ρ σ13 hJ hoff hrel
  have e2 := look_off (N := 11) (hoff 2 rfl) rfl
  have e4 := hrel 1 rfl 4 rfl
  have e7 := hrel 4 rfl 7 rfl
  have e9 := hrel 6 rfl 9 rfl
  obtain ⟨H, -⟩ := (show Hp S0 σ0 σ13 [Ch.own n0 n0 (Sl a10 r7 c11) r7, Ch.bx n0 b3 0 [(I 0), (.slice none 0 0), (I 0)] [] [], Ch.bx n0 b1 0 [(I x_0.1), (Sl ax_0_1 x_0.2.1 cx_0_1), (I x_0.2.2)] [] [], Ch.ro 0 (Sl ax_0_1 x_0.2.1 cx_0_1) x_0.2.1] ∧ Md (cov []) σ4 σ13 from hJ)
  clear hJ Hs
  rw [fr_lookL (L := [(2, (pt b3 0)), (4, (I x_0.1)), (7, (Sl a10 r7 c11)), (9, (I x_0.2.2))]) ⟨e2, e4, e7, e9, trivial⟩]
  clear hoff hrel e2 e4 e7 e9
  refine st (v := (.agg #[(I x_0.1), (Sl a10 r7 c11), (I x_0.2.2)])) (rv_build (ps := [(0, (I x_0.1)), (1, (Sl a10 r7 c11)), (2, (I x_0.2.2))]) Try.underlying32 ti32 (bp32 Try.underlying32) rfl (by kernel_rfl)) ?_
  refine st_exS (ex_store_box (k := 0) (cs := [(I 0), (.slice none 0 0), (I 0)]) (vs := [(I x_0.1), (Sl a10 r7 c11), (I x_0.2.2)]) (cs' := [(I x_0.1), (Sl a10 r7 c11), (I x_0.2.2)]) H (i := 1) rfl ti32 rfl rfl rfl rfl rfl (Nat.le_of_ble_eq_true rfl) (by simp [plain]) rfl) wn ?_
  rintro σ14 ⟨H, -⟩
  refine w_end ?_
  refine q_then ?_
  refine c_ret ?_
  obtain rfl := Option.some.inj h
  exact fin_ret (v := (.agg #[(I x_0.1), (Sl a10 r7 c11), (I x_0.2.2)])) (results_ok Try.results65 (res_cell rfl (run_cellRes (cs := [(I x_0.1), (Sl a10 r7 c11), (I x_0.2.2)]) Try.underlying32 rfl ti32 rfl (H.cells 0 rfl)) res_nil) rfl) ⟨a10, c11, rfl, rfl⟩ (H.sel' [1] rfl rfl)

end Go.Vs
