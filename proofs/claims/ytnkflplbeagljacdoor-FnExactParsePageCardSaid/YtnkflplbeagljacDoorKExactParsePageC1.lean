/- The functions compute what their models say. -/
import Derived.Test.YtnkflplbeagljacDoorKExactParsePageM
import Derived.Test.YtnkflplbeagljacDoorExactParsePageEng1
import Derived.Test.YtnkflplbeagljacDoorProg
set_option linter.unusedVariables false
set_option linter.unusedSimpArgs false
set_option maxRecDepth 20000
namespace Go.Vs
open Go Go.Proofs
attribute [local irreducible] Code.wp Code.wpIn wpList wpListIn wpQuiet Calls CallsIn

theorem ti3 : TI Tryd.prog 3 (.int .i64 0) 1 8 := TI.mk' (by kernel_rfl)
theorem ti5 : TI Tryd.prog 5 (.int .u8 0) 1 1 := TI.mk' (by kernel_rfl)
theorem ti22 : TI Tryd.prog 22 (.slice none 0 0) 1 24 := TI.mk' (by kernel_rfl)
theorem ti23 : TI Tryd.prog 23 (.slice none 0 0) 1 24 := TI.mk' (by kernel_rfl)
theorem ti39 : TI Tryd.prog 39 (.slice none 0 0) 1 24 := TI.mk' (by kernel_rfl)
theorem ti41 : TI Tryd.prog 41 (.agg #[(.int .i64 0), (.slice none 0 0), (.int .i64 0)]) 3 40 := TI.mk' (by kernel_rfl)
theorem ti44 : TI Tryd.prog 44 .nilIface 1 16 := TI.mk' (by kernel_rfl)
theorem ti46 : TI Tryd.prog 46 (.agg #[(.slice none 0 0), (.int .i64 0), .nilIface]) 3 48 := TI.mk' (by kernel_rfl)
theorem bp41 {fs : Array Field} (hT : Tryd.prog.underlying 41 = some (.struct fs)) (w : World) : (fs.mapM (fun f => do pure (f.offset, ← sizeOf f.type)) : Sem (Array (Nat × Nat))).run Tryd.prog w = .ok #[(0, 1), (1, 1), (2, 1)] w := by
  rw [Tryd.underlying41] at hT; cases hT
  simp [run_typeInfo ti3, run_typeInfo ti39]
theorem bp46 {fs : Array Field} (hT : Tryd.prog.underlying 46 = some (.struct fs)) (w : World) : (fs.mapM (fun f => do pure (f.offset, ← sizeOf f.type)) : Sem (Array (Nat × Nat))).run Tryd.prog w = .ok #[(0, 1), (1, 1), (2, 1)] w := by
  rw [Tryd.underlying46] at hT; cases hT
  simp [run_typeInfo ti22, run_typeInfo ti3, run_typeInfo ti44]

theorem c_impl_validKey {key_0 : Int}  {r : Bool} (h : M.impl_validKey key_0 = some r) :
    Cal2 Tryd.prog 45 [(I key_0)] [] (fun n0 v L => v = (B r) ∧ L = []) := by
 refine cal2 (n := 9) Tryd.func45 rfl rfl rfl rfl ?_
 intro S0 σ0 n0 hn0 H
 unfold M.impl_validKey at h
 refine c_seq ?_
 refine rg ?_
 refine st (v := (B false)) (rv_assign rfl) ?_
 refine w_end ?_
 refine q_then ?_
 refine c_seq ?_
 refine rg ?_
 refine st (v := (I key_0)) (rv_move rfl) ?_
 refine st (v := (B (decide (1 ≤ key_0)))) (rv_geq (a := key_0) (b := 1) rfl rfl) ?_
 refine st (v := (B (decide (1 ≤ key_0)))) (rv_move rfl) ?_
 rcases Bool.eq_false_or_eq_true (decide (1 ≤ key_0)) with hb1 | hb1
 ·replace h := bif_t hb1 h
  refine st_g (v := (I key_0)) (congrArg some hb1) (rv_move rfl) ?_
  refine st_g (v := (B (decide (key_0 ≤ 99)))) (congrArg some hb1) (rv_leq (a := key_0) (b := 99) rfl rfl) ?_
  refine st (v := (B (decide (key_0 ≤ 99)))) (rv_pick_t (congrArg B hb1) rfl) ?_
  refine st (v := (B (decide (key_0 ≤ 99)))) (rv_assign rfl) ?_
  refine w_end ?_
  refine q_then ?_
  refine c_ret ?_
  obtain rfl := Option.some.inj h
  exact fin_ret (v := (B (decide (key_0 ≤ 99)))) (results_ok Tryd.results45 (res_tmp (v := (B (decide (key_0 ≤ 99)))) rfl res_nil) rfl) ⟨rfl, rfl⟩ (H.sel' [] rfl rfl)
 ·replace h := bif_f hb1 h
  refine st_skip (congrArg some hb1) ?_
  refine st_skip (congrArg some hb1) ?_
  refine st (v := (B false)) (rv_pick_f (congrArg B hb1) rfl) ?_
  refine st (v := (B false)) (rv_assign rfl) ?_
  refine w_end ?_
  refine q_then ?_
  refine c_ret ?_
  obtain rfl := Option.some.inj h
  exact fin_ret (v := (B false)) (results_ok Tryd.results45 (res_tmp (v := (B false)) rfl res_nil) rfl) ⟨rfl, rfl⟩ (H.sel' [] rfl rfl)

theorem c_impl_validCoords {coords_0 : List Int} {acoords_0 : Option Addr} {ccoords_0 : Nat} {r : Bool} (h : M.impl_validCoords coords_0 = some r) :
    Cal2 Tryd.prog 53 [(Sl acoords_0 coords_0 ccoords_0)] [Ch.ro 0 (Sl acoords_0 coords_0 ccoords_0) coords_0] (fun n0 v L => v = (B r) ∧ L = []) := by
 refine cal2 (n := 18) Tryd.func53 rfl rfl rfl rfl ?_
 intro S0 σ0 n0 hn0 H
 unfold M.impl_validCoords at h
 refine c_seq ?_
 refine rg ?_
 refine st (v := (B false)) (rv_assign rfl) ?_
 refine w_end ?_
 refine q_then ?_
 refine c_seq ?_
 refine c_seq ?_
 refine rg ?_
 refine st (v := (Sl acoords_0 coords_0 ccoords_0)) (rv_move rfl) ?_
 refine st (v := (I (coords_0.length : Int))) (rv_len Tryd.underlying39 rfl) ?_
 refine st (v := (I 0)) (rv_move rfl) ?_
 refine w_end ?_
 refine q_then ?_
 obtain ⟨o1, hj, h'⟩ := bind_some h
 clear h
 refine c_cut (fun e a w => (∃ t, o1 = (.inl t) ∧ e = .normal ∧ ∃ (ρ : Nat → Value) (σ : St), a = fr 18 (updL ρ []) ∧ w = σ.w ∧ Hp S0 σ0 σ []) ∨ (∃ t, o1 = (.inr t) ∧ e = .ret ∧ ∃ (ρ : Nat → Value) (σ : St), a = fr 18 (updL ρ [(2, (B t))]) ∧ w = σ.w ∧ Hp S0 σ0 σ [])) ?_ ?_
 ·clear h'
  rename _ = some o1 => h
  refine c_blk ?_
  refine wp_loopM _ h (fun s2 a w => ∃ (ρ : Nat → Value) (σ : St), a = fr 18 (updL ρ [(5, (Sl acoords_0 coords_0 ccoords_0)), (6, (I (coords_0.length : Int))), (7, (I s2))]) ∧ w = σ.w ∧ Hp S0 σ0 σ [Ch.ro 0 (Sl acoords_0 coords_0 ccoords_0) coords_0]) ⟨_, σ0, fr_join ⟨rfl, rfl, rfl, trivial⟩, rfl, H.sel' [0] rfl rfl⟩ ?_
  clear h H
  rintro s2 a w o ⟨ρ, σ3, rfl, rfl, H⟩ h hres
  refine c_seq ?_
  refine rg ?_
  refine st (v := (B (decide (s2 < (coords_0.length : Int))))) (rv_lss (a := s2) (b := (coords_0.length : Int)) rfl rfl) ?_
  refine w_end ?_
  refine q_then ?_
  refine c_seq ?_
  refine cd_cond (decide (s2 < (coords_0.length : Int))) rfl (fun hb4 => ?_) (fun hb4 => ?_)
  ·replace h := bif_t hb4 h
   refine c_skip ?_
   refine q_then ?_
   refine c_seq ?_
   refine c_blk ?_
   refine c_seq ?_
   refine rg ?_
   obtain ⟨x5, hx6, h'⟩ := bind_some h
   clear h
   have h := h'; clear h'
   obtain ⟨b8, o9, hi7, -⟩ := (H.ro 0 rfl).ix hx6
   refine st (v := (pt b8 o9)) (rv_ix Tryd.underlying39 ti3 rfl rfl hi7) ?_
   have hc10 := ((H.ro 0 rfl).at hx6 hi7).int
   refine st (v := (I x5)) (rv_load1 Tryd.underlying3 rfl rfl hc10) ?_
   refine st (v := (I x5)) (rv_assign rfl) ?_
   refine w_end ?_
   refine q_then ?_
   refine c_seq ?_
   obtain ⟨o11, hj, h'⟩ := bind_some h
   clear h
   refine c_cut (fun e a w => e = .normal ∧ ∃ (ρ : Nat → Value) (σ : St), a = fr 18 (updL ρ [(5, (Sl acoords_0 coords_0 ccoords_0)), (6, (I (coords_0.length : Int))), (7, (I s2)), (16, (B o11))]) ∧ w = σ.w ∧ Hp S0 σ0 σ [Ch.ro 0 (Sl acoords_0 coords_0 ccoords_0) coords_0]) ?_ ?_
   ·clear h'
    rename _ = some o11 => h
    refine rg ?_
    refine st (v := (I x5)) (rv_move rfl) ?_
    refine st (v := (B (decide (x5 < (-100))))) (rv_lss (a := x5) (b := (-100)) rfl rfl) ?_
    refine st (v := (B (decide (x5 < (-100))))) (rv_move rfl) ?_
    rcases Bool.eq_false_or_eq_true (decide (x5 < (-100))) with hb12 | hb12
    ·replace h := bif_t hb12 h
     refine st_skip (congrArg some hb12) ?_
     refine st_skip (congrArg some hb12) ?_
     refine st (v := (B true)) (rv_pick_t (congrArg B hb12) rfl) ?_
     refine w_end ?_
     obtain rfl := Option.some.inj h
     exact ⟨rfl, _, σ3, fr_join ⟨rfl, rfl, rfl, rfl, trivial⟩, rfl, H.sel' [0] rfl rfl⟩
    ·replace h := bif_f hb12 h
     refine st_g (v := (I x5)) (congrArg some hb12) (rv_move rfl) ?_
     refine st_g (v := (B (decide (100 < x5)))) (congrArg some hb12) (rv_gtr (a := x5) (b := 100) rfl rfl) ?_
     refine st (v := (B (decide (100 < x5)))) (rv_pick_f (congrArg B hb12) rfl) ?_
     refine w_end ?_
     obtain rfl := Option.some.inj h
     exact ⟨rfl, _, σ3, fr_join ⟨rfl, rfl, rfl, rfl, trivial⟩, rfl, H.sel' [0] rfl rfl⟩
   ·clear hj
    have h := h'
    clear h' H
    rintro e a w ⟨rfl, ρ, σ13, rfl, rfl, H⟩
    refine q_then ?_
    refine cd_cond o11 rfl (fun hb14 => ?_) (fun hb14 => ?_)
    ·replace h := bif_t hb14 h
     refine c_seq ?_
     refine rg ?_
     refine st (v := (B false)) (rv_assign rfl) ?_
     refine w_end ?_
     refine q_then ?_
     refine c_ret ?_
     refine q_blk_r ?_
     refine q_then_r ?_
     refine q_then_r ?_
     refine q_blk_r ?_
     obtain rfl := Option.some.inj h
     obtain rfl := hres _ rfl
     exact .inr (⟨_, rfl, rfl, _, σ13, fr_join ⟨rfl, trivial⟩, rfl, H.sel' [] rfl rfl⟩)
    ·replace h := bif_f hb14 h
     refine c_skip ?_
     refine q_blk ?_
     refine q_then ?_
     refine rg ?_
     refine st (v := (I (w64 (s2 + 1)))) (rv_add (a := s2) (b := 1) rfl rfl) ?_
     refine st (v := (I (w64 (s2 + 1)))) (rv_move rfl) ?_
     refine w_end ?_
     refine q_then ?_
     obtain rfl := Option.some.inj h
     exact ⟨_, rfl, _, σ13, fr_join ⟨rfl, rfl, rfl, trivial⟩, rfl, H.sel' [0] rfl rfl⟩
  ·replace h := bif_f hb4 h
   refine c_exit ?_
   refine q_then_x ?_
   refine q_then_x ?_
   refine q_blk_hit ?_
   obtain rfl := Option.some.inj h
   obtain rfl := hres _ rfl
   exact .inl ⟨_, rfl, rfl, _, σ3, fr_join trivial, rfl, H.sel' [] rfl rfl⟩
 ·clear hj
  have h := h'
  clear h' H
  rintro e a w (⟨t15, rfl, rfl, ρ, σ16, rfl, rfl, H⟩ | ⟨t17, rfl, rfl, ρ, σ18, rfl, rfl, H⟩)
  ·replace h := selim_l h
   refine q_then ?_
   refine c_seq ?_
   refine rg ?_
   refine st (v := (B true)) (rv_assign rfl) ?_
   refine w_end ?_
   refine q_then ?_
   refine c_ret ?_
   obtain rfl := Option.some.inj h
   exact fin_ret (v := (B true)) (results_ok Tryd.results53 (res_tmp (v := (B true)) rfl res_nil) rfl) ⟨rfl, rfl⟩ (H.sel' [] rfl rfl)
  ·replace h := selim_r h
   refine q_then_r ?_
   obtain rfl := Option.some.inj h
   exact fin_ret (v := (B t17)) (results_ok Tryd.results53 (res_tmp (v := (B t17)) rfl res_nil) rfl) ⟨rfl, rfl⟩ (H.sel' [] rfl rfl)

theorem c_impl_ValidVector {v_0 : List Int} {av_0 : Option Addr} {cv_0 : Nat} {r : Bool} (h : M.impl_ValidVector v_0 = some r) :
    Cal2 Tryd.prog 46 [(Sl av_0 v_0 cv_0)] [Ch.ro 0 (Sl av_0 v_0 cv_0) v_0] (fun n0 v L => v = (B r) ∧ L = []) := by
 refine cal2 (n := 10) Tryd.func46 rfl rfl rfl rfl ?_
 intro S0 σ0 n0 hn0 H
 unfold M.impl_ValidVector at h
 refine c_seq ?_
 refine rg ?_
 refine st (v := (B false)) (rv_assign rfl) ?_
 refine w_end ?_
 refine q_then ?_
 refine c_seq ?_
 refine rg ?_
 refine st (v := (Sl av_0 v_0 cv_0)) (rv_move rfl) ?_
 refine st (v := (I (v_0.length : Int))) (rv_len Tryd.underlying39 rfl) ?_
 refine st (v := (B ((v_0.length : Int) == 4))) (rv_eql (a := (v_0.length : Int)) (b := 4) rfl rfl) ?_
 refine st (v := (B ((v_0.length : Int) == 4))) (rv_move rfl) ?_
 rcases Bool.eq_false_or_eq_true ((v_0.length : Int) == 4) with hb1 | hb1
 ·replace h := bif_t hb1 h
  refine st_g (v := (Sl av_0 v_0 cv_0)) (congrArg some hb1) (rv_move rfl) ?_
  obtain ⟨r2, hx3, h'⟩ := bind_some h
  clear h
  have h := h'; clear h'
  have hc4 := c_impl_validCoords (acoords_0 := av_0) (ccoords_0 := cv_0) hx3
  refine st_call (cx_call hc4 (ent_f hc4.fn rfl) hn0 (show Hp S0 σ0 _ ([Ch.ro 0 (Sl av_0 v_0 cv_0) v_0] ++ [Ch.ro 0 (Sl av_0 v_0 cv_0) v_0]) from (H.sel' [0, 0] rfl rfl))) (wanted_yes rfl (by exact (congrArg some hb1))) ?_
  rintro _ σ5 ⟨_, ⟨rfl, rfl⟩, H, -⟩
  replace H : Hp S0 σ0 σ5 [Ch.ro 0 (Sl av_0 v_0 cv_0) v_0] := H
  refine st (v := (B r2)) (rv_pick_t (congrArg B hb1) rfl) ?_
  refine st (v := (B r2)) (rv_assign rfl) ?_
  refine w_end ?_
  refine q_then ?_
  refine c_ret ?_
  obtain rfl := Option.some.inj h
  exact fin_ret (v := (B r2)) (results_ok Tryd.results46 (res_tmp (v := (B r2)) rfl res_nil) rfl) ⟨rfl, rfl⟩ (H.sel' [] rfl rfl)
 ·replace h := bif_f hb1 h
  refine st_skip (congrArg some hb1) ?_
  refine st_skip (congrArg some hb1) ?_
  refine st (v := (B false)) (rv_pick_f (congrArg B hb1) rfl) ?_
  refine st (v := (B false)) (rv_assign rfl) ?_
  refine w_end ?_
  refine q_then ?_
  refine c_ret ?_
  obtain rfl := Option.some.inj h
  exact fin_ret (v := (B false)) (results_ok Tryd.results46 (res_tmp (v := (B false)) rfl res_nil) rfl) ⟨rfl, rfl⟩ (H.sel' [] rfl rfl)

theorem c_impl_validTags {tags_0 : Int}  {r : Bool} (h : M.impl_validTags tags_0 = some r) :
    Cal2 Tryd.prog 47 [(I tags_0)] [] (fun n0 v L => v = (B r) ∧ L = []) := by
 refine cal2 (n := 9) Tryd.func47 rfl rfl rfl rfl ?_
 intro S0 σ0 n0 hn0 H
 unfold M.impl_validTags at h
 refine c_seq ?_
 refine rg ?_
 refine st (v := (B false)) (rv_assign rfl) ?_
 refine w_end ?_
 refine q_then ?_
 refine c_seq ?_
 refine rg ?_
 refine st (v := (I tags_0)) (rv_move rfl) ?_
 refine st (v := (B (decide (0 ≤ tags_0)))) (rv_geq (a := tags_0) (b := 0) rfl rfl) ?_
 refine st (v := (B (decide (0 ≤ tags_0)))) (rv_move rfl) ?_
 rcases Bool.eq_false_or_eq_true (decide (0 ≤ tags_0)) with hb1 | hb1
 ·replace h := bif_t hb1 h
  refine st_g (v := (I tags_0)) (congrArg some hb1) (rv_move rfl) ?_
  refine st_g (v := (B (decide (tags_0 ≤ 15)))) (congrArg some hb1) (rv_leq (a := tags_0) (b := 15) rfl rfl) ?_
  refine st (v := (B (decide (tags_0 ≤ 15)))) (rv_pick_t (congrArg B hb1) rfl) ?_
  refine st (v := (B (decide (tags_0 ≤ 15)))) (rv_assign rfl) ?_
  refine w_end ?_
  refine q_then ?_
  refine c_ret ?_
  obtain rfl := Option.some.inj h
  exact fin_ret (v := (B (decide (tags_0 ≤ 15)))) (results_ok Tryd.results47 (res_tmp (v := (B (decide (tags_0 ≤ 15)))) rfl res_nil) rfl) ⟨rfl, rfl⟩ (H.sel' [] rfl rfl)
 ·replace h := bif_f hb1 h
  refine st_skip (congrArg some hb1) ?_
  refine st_skip (congrArg some hb1) ?_
  refine st (v := (B false)) (rv_pick_f (congrArg B hb1) rfl) ?_
  refine st (v := (B false)) (rv_assign rfl) ?_
  refine w_end ?_
  refine q_then ?_
  refine c_ret ?_
  obtain rfl := Option.some.inj h
  exact fin_ret (v := (B false)) (results_ok Tryd.results47 (res_tmp (v := (B false)) rfl res_nil) rfl) ⟨rfl, rfl⟩ (H.sel' [] rfl rfl)

theorem c_impl_validItem {x_0 : Int × (List Int) × Int} {ax_0_1 : Option Addr} {cx_0_1 : Nat} {r : Bool} (h : M.impl_validItem x_0 = some r) :
    Cal2 Tryd.prog 34 [(.agg #[(I x_0.1), (Sl ax_0_1 x_0.2.1 cx_0_1), (I x_0.2.2)])] [Ch.ro 0 (Sl ax_0_1 x_0.2.1 cx_0_1) x_0.2.1] (fun n0 v L => v = (B r) ∧ L = []) := by
 refine cal2 (n := 16) Tryd.func34 rfl rfl rfl rfl ?_
 intro S0 σ0 n0 hn0 H
 unfold M.impl_validItem at h
 refine c_seq ?_
 refine rg ?_
 refine st_ex (ex_box (cs := [(I x_0.1), (Sl ax_0_1 x_0.2.1 cx_0_1), (I x_0.2.2)]) H hn0 rfl rfl) wn ?_
 rintro _ σ2 ⟨b1, rfl, H, -⟩
 refine st (v := (B false)) (rv_assign rfl) ?_
 refine w_end ?_
 refine q_then ?_
 refine c_seq ?_
 refine rg ?_
 refine st (v := (pt b1 0)) (rv_fieldAddr (off := 0) (ft := 3) Tryd.underlying41 rfl ti3 rfl rfl) ?_
 have hc3 := H.cell (u := (I x_0.1)) (o' := 0) 0 0 rfl rfl rfl
 refine st (v := (I x_0.1)) (rv_load1 Tryd.underlying3 rfl rfl hc3) ?_
 obtain ⟨r4, hx5, h'⟩ := bind_some h
 clear h
 have h := h'; clear h'
 have hc6 := c_impl_validKey hx5
 refine st_call (cx_call hc6 (ent_f hc6.fn rfl) hn0 (show Hp S0 σ0 _ ([] ++ [Ch.bx n0 b1 0 [(I x_0.1), (Sl ax_0_1 x_0.2.1 cx_0_1), (I x_0.2.2)] [] [], Ch.ro 0 (Sl ax_0_1 x_0.2.1 cx_0_1) x_0.2.1]) from (H.sel' [0, 1] rfl rfl))) wn ?_
 rintro _ σ7 ⟨_, ⟨rfl, rfl⟩, H, -⟩
 replace H : Hp S0 σ0 σ7 [Ch.bx n0 b1 0 [(I x_0.1), (Sl ax_0_1 x_0.2.1 cx_0_1), (I x_0.2.2)] [] [], Ch.ro 0 (Sl ax_0_1 x_0.2.1 cx_0_1) x_0.2.1] := H
 refine st (v := (B r4)) (rv_move rfl) ?_
 rcases Bool.eq_false_or_eq_true r4 with hb8 | hb8
 ·replace h := bif_t hb8 h
  refine st_g (v := (pt b1 1)) (congrArg some hb8) (rv_fieldAddr (off := 1) (ft := 39) Tryd.underlying41 rfl ti39 rfl rfl) ?_
  have hc9 := H.cell (u := (Sl ax_0_1 x_0.2.1 cx_0_1)) (o' := 1) 0 1 rfl rfl rfl
  refine st_g (v := (Sl ax_0_1 x_0.2.1 cx_0_1)) (congrArg some hb8) (rv_load1 Tryd.underlying39 rfl rfl hc9) ?_
  obtain ⟨r10, hx11, h'⟩ := bind_some h
  clear h
  have h := h'; clear h'
  have hc12 := c_impl_ValidVector (av_0 := ax_0_1) (cv_0 := cx_0_1) hx11
  refine st_call (cx_call hc12 (ent_f hc12.fn rfl) hn0 (show Hp S0 σ0 _ ([Ch.ro 0 (Sl ax_0_1 x_0.2.1 cx_0_1) x_0.2.1] ++ [Ch.bx n0 b1 0 [(I x_0.1), (Sl ax_0_1 x_0.2.1 cx_0_1), (I x_0.2.2)] [] [], Ch.ro 0 (Sl ax_0_1 x_0.2.1 cx_0_1) x_0.2.1]) from (H.sel' [1, 0, 1] rfl rfl))) (wanted_yes rfl (by exact (congrArg some hb8))) ?_
  rintro _ σ13 ⟨_, ⟨rfl, rfl⟩, H, -⟩
  replace H : Hp S0 σ0 σ13 [Ch.bx n0 b1 0 [(I x_0.1), (Sl ax_0_1 x_0.2.1 cx_0_1), (I x_0.2.2)] [] [], Ch.ro 0 (Sl ax_0_1 x_0.2.1 cx_0_1) x_0.2.1] := H
  refine st (v := (B r10)) (rv_pick_t (congrArg B hb8) rfl) ?_
  refine st (v := (B r10)) (rv_move rfl) ?_
  rcases Bool.eq_false_or_eq_true r10 with hb14 | hb14
  ·replace h := bif_t hb14 h
   refine st_g (v := (pt b1 2)) (congrArg some hb14) (rv_fieldAddr (off := 2) (ft := 3) Tryd.underlying41 rfl ti3 rfl rfl) ?_
   have hc15 := H.cell (u := (I x_0.2.2)) (o' := 2) 0 2 rfl rfl rfl
   refine st_g (v := (I x_0.2.2)) (congrArg some hb14) (rv_load1 Tryd.underlying3 rfl rfl hc15) ?_
   obtain ⟨r16, hx17, h'⟩ := bind_some h
   clear h
   have h := h'; clear h'
   have hc18 := c_impl_validTags hx17
   refine st_call (cx_call hc18 (ent_f hc18.fn rfl) hn0 (show Hp S0 σ0 _ ([] ++ [Ch.bx n0 b1 0 [(I x_0.1), (Sl ax_0_1 x_0.2.1 cx_0_1), (I x_0.2.2)] [] [], Ch.ro 0 (Sl ax_0_1 x_0.2.1 cx_0_1) x_0.2.1]) from (H.sel' [0, 1] rfl rfl))) (wanted_yes rfl (by exact (congrArg some hb14))) ?_
   rintro _ σ19 ⟨_, ⟨rfl, rfl⟩, H, -⟩
   replace H : Hp S0 σ0 σ19 [Ch.bx n0 b1 0 [(I x_0.1), (Sl ax_0_1 x_0.2.1 cx_0_1), (I x_0.2.2)] [] [], Ch.ro 0 (Sl ax_0_1 x_0.2.1 cx_0_1) x_0.2.1] := H
   refine st (v := (B r16)) (rv_pick_t (congrArg B hb14) rfl) ?_
   refine st (v := (B r16)) (rv_assign rfl) ?_
   refine w_end ?_
   refine q_then ?_
   refine c_ret ?_
   obtain rfl := Option.some.inj h
   exact fin_ret (v := (B r16)) (results_ok Tryd.results34 (res_tmp (v := (B r16)) rfl res_nil) rfl) ⟨rfl, rfl⟩ (H.sel' [] rfl rfl)
  ·replace h := bif_f hb14 h
   refine st_skip (congrArg some hb14) ?_
   refine st_skip (congrArg some hb14) ?_
   refine st_skip (congrArg some hb14) ?_
   refine st (v := (B false)) (rv_pick_f (congrArg B hb14) rfl) ?_
   refine st (v := (B false)) (rv_assign rfl) ?_
   refine w_end ?_
   refine q_then ?_
   refine c_ret ?_
   obtain rfl := Option.some.inj h
   exact fin_ret (v := (B false)) (results_ok Tryd.results34 (res_tmp (v := (B false)) rfl res_nil) rfl) ⟨rfl, rfl⟩ (H.sel' [] rfl rfl)
 ·replace h := bif_f hb8 h
  refine st_skip (congrArg some hb8) ?_
  refine st_skip (congrArg some hb8) ?_
  refine st_skip (congrArg some hb8) ?_
  refine st (v := (B false)) (rv_pick_f (congrArg B hb8) rfl) ?_
  refine st (v := (B false)) (rv_move rfl) ?_
  refine st_skip rfl ?_
  refine st_skip rfl ?_
  refine st_skip rfl ?_
  refine st (v := (B false)) (rv_pick_f rfl rfl) ?_
  refine st (v := (B false)) (rv_assign rfl) ?_
  refine w_end ?_
  refine q_then ?_
  refine c_ret ?_
  obtain rfl := Option.some.inj h
  exact fin_ret (v := (B false)) (results_ok Tryd.results34 (res_tmp (v := (B false)) rfl res_nil) rfl) ⟨rfl, rfl⟩ (H.sel' [] rfl rfl)

theorem c_impl_ValidStore {list_0 : List (Int × (List Int) × Int)} {alist_0 : Option Addr} {clist_0 : Nat} {r : Bool} (h : M.impl_ValidStore list_0 = some r) :
    Cal2 Tryd.prog 21 [(Sl alist_0 list_0 clist_0)] [Ch.ro 0 (Sl alist_0 list_0 clist_0) list_0] (fun n0 v L => v = (B r) ∧ L = []) := by
 refine cal2 (n := 27) Tryd.func21 rfl rfl rfl rfl ?_
 intro S0 σ0 n0 hn0 H
 unfold M.impl_ValidStore at h
 refine c_seq ?_
 refine rg ?_
 refine st (v := (B false)) (rv_assign rfl) ?_
 refine w_end ?_
 refine q_then ?_
 refine c_seq ?_
 refine c_seq ?_
 refine rg ?_
 refine st (v := (Sl alist_0 list_0 clist_0)) (rv_move rfl) ?_
 refine st (v := (I (list_0.length : Int))) (rv_len Tryd.underlying23 rfl) ?_
 refine st (v := (B (decide (16 < (list_0.length : Int))))) (rv_gtr (a := (list_0.length : Int)) (b := 16) rfl rfl) ?_
 refine w_end ?_
 refine q_then ?_
 refine cd_cond (decide (16 < (list_0.length : Int))) rfl (fun hb1 => ?_) (fun hb1 => ?_)
 ·replace h := bif_t hb1 h
  refine c_seq ?_
  refine rg ?_
  refine st (v := (B false)) (rv_assign rfl) ?_
  refine w_end ?_
  refine q_then ?_
  refine c_ret ?_
  refine q_then_r ?_
  obtain rfl := Option.some.inj h
  exact fin_ret (v := (B false)) (results_ok Tryd.results21 (res_tmp (v := (B false)) rfl res_nil) rfl) ⟨rfl, rfl⟩ (H.sel' [] rfl rfl)
 ·replace h := bif_f hb1 h
  refine c_skip ?_
  refine q_then ?_
  refine c_seq ?_
  refine rg ?_
  refine st (v := (I 0)) (rv_assign rfl) ?_
  refine w_end ?_
  refine q_then ?_
  refine c_seq ?_
  refine c_seq ?_
  refine rg ?_
  refine st (v := (Sl alist_0 list_0 clist_0)) (rv_move rfl) ?_
  refine st (v := (I (list_0.length : Int))) (rv_len Tryd.underlying23 rfl) ?_
  refine st (v := (I 0)) (rv_move rfl) ?_
  refine w_end ?_
  refine q_then ?_
  obtain ⟨o2, hj, h'⟩ := bind_some h
  clear h
  refine c_cut (fun e a w => (∃ t, o2 = (.inl t) ∧ e = .normal ∧ ∃ (ρ : Nat → Value) (σ : St), a = fr 27 (updL ρ []) ∧ w = σ.w ∧ Hp S0 σ0 σ []) ∨ (∃ t, o2 = (.inr t) ∧ e = .ret ∧ ∃ (ρ : Nat → Value) (σ : St), a = fr 27 (updL ρ [(2, (B t))]) ∧ w = σ.w ∧ Hp S0 σ0 σ [])) ?_ ?_
  ·clear h'
   rename _ = some o2 => h
   refine c_blk ?_
   refine wp_loopM _ h (fun s3 a w => ∃ (ρ : Nat → Value) (σ : St), a = fr 27 (updL ρ [(3, (I s3.1)), (9, (Sl alist_0 list_0 clist_0)), (10, (I (list_0.length : Int))), (11, (I s3.2))]) ∧ w = σ.w ∧ Hp S0 σ0 σ [Ch.ro 0 (Sl alist_0 list_0 clist_0) list_0]) ⟨_, σ0, fr_join ⟨rfl, rfl, rfl, rfl, trivial⟩, rfl, H.sel' [0] rfl rfl⟩ ?_
   clear h H
   rintro s3 a w o ⟨ρ, σ4, rfl, rfl, H⟩ h hres
   refine c_seq ?_
   refine rg ?_
   refine st (v := (B (decide (s3.2 < (list_0.length : Int))))) (rv_lss (a := s3.2) (b := (list_0.length : Int)) rfl rfl) ?_
   refine w_end ?_
   refine q_then ?_
   refine c_seq ?_
   refine cd_cond (decide (s3.2 < (list_0.length : Int))) rfl (fun hb5 => ?_) (fun hb5 => ?_)
   ·replace h := bif_t hb5 h
    refine c_skip ?_
    refine q_then ?_
    refine c_seq ?_
    refine c_blk ?_
    refine c_seq ?_
    refine rg ?_
    obtain ⟨x6, hx7, h'⟩ := bind_some h
    clear h
    have h := h'; clear h'
    obtain ⟨b9, o10, hi8, -⟩ := (H.ro 0 rfl).ix hx7
    refine st (v := (pt b9 o10)) (rv_ix Tryd.underlying23 ti41 rfl rfl hi8) ?_
    obtain ⟨_, ⟨_, _, rfl, rfl, ⟨_, _, rfl, ⟨_, rfl, hR15⟩, rfl⟩⟩, hl11, hc12⟩ := ((H.ro 0 rfl).at hx7 hi8).cells
    obtain ⟨a13, c14, rfl⟩ := hR15.isSl
    replace H := H.add (d := Ch.ro 0 (Sl a13 x6.2.1 c14) x6.2.1) hR15 (fun _ h => h)
    clear hR15
    refine st (v := (.agg #[(I x6.1), (Sl a13 x6.2.1 c14), (I x6.2.2)])) (rv_load Tryd.underlying41 rfl ti41 rfl hl11 hc12) ?_
    refine st_ex (ex_alloc (cs := [(I 0), (.slice none 0 0), (I 0)]) H hn0 ti41 rfl) wn ?_
    rintro _ σ17 ⟨b16, rfl, H, -⟩
    refine st_exS (ex_store_box (k := 0) (cs := [(I 0), (.slice none 0 0), (I 0)]) (vs := [(I x6.1), (Sl a13 x6.2.1 c14), (I x6.2.2)]) (cs' := [(I x6.1), (Sl a13 x6.2.1 c14), (I x6.2.2)]) H (i := 0) rfl ti41 rfl rfl rfl rfl rfl (Nat.le_of_ble_eq_true rfl) (by simp [plain]) rfl) wn ?_
    rintro σ18 ⟨H, -⟩
    refine w_end ?_
    refine q_then ?_
    refine c_seq ?_
    refine c_seq ?_
    obtain ⟨o19, hj, h'⟩ := bind_some h
    clear h
    refine c_cut (fun e a w => e = .normal ∧ ∃ (ρ : Nat → Value) (σ : St), a = fr 27 (updL ρ [(5, (pt b16 0)), (9, (Sl alist_0 list_0 clist_0)), (10, (I (list_0.length : Int))), (11, (I s3.2)), (23, (B o19))]) ∧ w = σ.w ∧ Hp S0 σ0 σ [Ch.ro 0 (Sl a13 x6.2.1 c14) x6.2.1, Ch.bx n0 b16 0 [(I x6.1), (Sl a13 x6.2.1 c14), (I x6.2.2)] [] [], Ch.ro 0 (Sl alist_0 list_0 clist_0) list_0]) ?_ ?_
    ·clear h'
     rename _ = some o19 => h
     refine rg ?_
     have hc20 := H.cells 0 rfl
     refine st (v := (.agg #[(I x6.1), (Sl a13 x6.2.1 c14), (I x6.2.2)])) (rv_load (cs := [(I x6.1), (Sl a13 x6.2.1 c14), (I x6.2.2)]) Tryd.underlying41 rfl ti41 rfl rfl hc20) ?_
     obtain ⟨r21, hx22, h'⟩ := bind_some h
     clear h
     have h := h'; clear h'
     have hc23 := c_impl_validItem (ax_0_1 := a13) (cx_0_1 := c14) hx22
     refine st_call (cx_call hc23 (ent_f hc23.fn rfl) hn0 (show Hp S0 σ0 _ ([Ch.ro 0 (Sl a13 x6.2.1 c14) x6.2.1] ++ [Ch.bx n0 b16 0 [(I x6.1), (Sl a13 x6.2.1 c14), (I x6.2.2)] [] [], Ch.ro 0 (Sl a13 x6.2.1 c14) x6.2.1, Ch.ro 0 (Sl alist_0 list_0 clist_0) list_0]) from (H.sel' [1, 0, 1, 2] rfl rfl))) wn ?_
     rintro _ σ24 ⟨_, ⟨rfl, rfl⟩, H, -⟩
     replace H : Hp S0 σ0 σ24 [Ch.bx n0 b16 0 [(I x6.1), (Sl a13 x6.2.1 c14), (I x6.2.2)] [] [], Ch.ro 0 (Sl a13 x6.2.1 c14) x6.2.1, Ch.ro 0 (Sl alist_0 list_0 clist_0) list_0] := H
     refine st (v := (B (!r21))) (rv_not rfl) ?_
     refine st (v := (B (!r21))) (rv_move rfl) ?_
     rcases Bool.eq_false_or_eq_true (!r21) with hb25 | hb25
     ·replace h := bif_t hb25 h
      refine st_skip (congrArg some hb25) ?_
      refine st_skip (congrArg some hb25) ?_
      refine st_skip (congrArg some hb25) ?_
      refine st_skip (congrArg some hb25) ?_
      refine st (v := (B true)) (rv_pick_t (congrArg B hb25) rfl) ?_
      refine w_end ?_
      obtain rfl := Option.some.inj h
      exact ⟨rfl, _, σ24, fr_join ⟨rfl, rfl, rfl, rfl, rfl, trivial⟩, rfl, H.sel' [1, 0, 2] rfl rfl⟩
     ·replace h := bif_f hb25 h
      refine st_g (v := (pt b16 0)) (congrArg some hb25) (rv_fieldAddr (off := 0) (ft := 3) Tryd.underlying41 rfl ti3 rfl rfl) ?_
      have hc26 := H.cell (u := (I x6.1)) (o' := 0) 0 0 rfl rfl rfl
      refine st_g (v := (I x6.1)) (congrArg some hb25) (rv_load1 Tryd.underlying3 rfl rfl hc26) ?_
      refine st_g (v := (I s3.1)) (congrArg some hb25) (rv_move rfl) ?_
      refine st_g (v := (B (decide (x6.1 ≤ s3.1)))) (congrArg some hb25) (rv_leq (a := x6.1) (b := s3.1) rfl rfl) ?_
      refine st (v := (B (decide (x6.1 ≤ s3.1)))) (rv_pick_f (congrArg B hb25) rfl) ?_
      refine w_end ?_
      obtain rfl := Option.some.inj h
      exact ⟨rfl, _, σ24, fr_join ⟨rfl, rfl, rfl, rfl, rfl, trivial⟩, rfl, H.sel' [1, 0, 2] rfl rfl⟩
    ·clear hj
     have h := h'
     clear h' H
     rintro e a w ⟨rfl, ρ, σ27, rfl, rfl, H⟩
     refine q_then ?_
     refine cd_cond o19 rfl (fun hb28 => ?_) (fun hb28 => ?_)
     ·replace h := bif_t hb28 h
      refine c_seq ?_
      refine rg ?_
      refine st (v := (B false)) (rv_assign rfl) ?_
      refine w_end ?_
      refine q_then ?_
      refine c_ret ?_
      refine q_then_r ?_
      refine q_blk_r ?_
      refine q_then_r ?_
      refine q_then_r ?_
      refine q_blk_r ?_
      obtain rfl := Option.some.inj h
      obtain rfl := hres _ rfl
      exact .inr (⟨_, rfl, rfl, _, σ27, fr_join ⟨rfl, trivial⟩, rfl, H.sel' [] rfl rfl⟩)
     ·replace h := bif_f hb28 h
      refine c_skip ?_
      refine q_then ?_
      refine rg ?_
      refine st (v := (pt b16 0)) (rv_fieldAddr (off := 0) (ft := 3) Tryd.underlying41 rfl ti3 rfl rfl) ?_
      have hc29 := H.cell (u := (I x6.1)) (o' := 0) 1 0 rfl rfl rfl
      refine st (v := (I x6.1)) (rv_load1 Tryd.underlying3 rfl rfl hc29) ?_
      refine st (v := (I x6.1)) (rv_assign rfl) ?_
      refine w_end ?_
      refine q_blk ?_
      refine q_then ?_
      refine rg ?_
      refine st (v := (I (w64 (s3.2 + 1)))) (rv_add (a := s3.2) (b := 1) rfl rfl) ?_
      refine st (v := (I (w64 (s3.2 + 1)))) (rv_move rfl) ?_
      refine w_end ?_
      refine q_then ?_
      obtain rfl := Option.some.inj h
      exact ⟨_, rfl, _, σ27, fr_join ⟨rfl, rfl, rfl, rfl, trivial⟩, rfl, H.sel' [2] rfl rfl⟩
   ·replace h := bif_f hb5 h
    refine c_exit ?_
    refine q_then_x ?_
    refine q_then_x ?_
    refine q_blk_hit ?_
    obtain rfl := Option.some.inj h
    obtain rfl := hres _ rfl
    exact .inl ⟨_, rfl, rfl, _, σ4, fr_join trivial, rfl, H.sel' [] rfl rfl⟩
  ·clear hj
   have h := h'
   clear h' H
   rintro e a w (⟨t30, rfl, rfl, ρ, σ31, rfl, rfl, H⟩ | ⟨t32, rfl, rfl, ρ, σ33, rfl, rfl, H⟩)
   ·replace h := selim_l h
    refine q_then ?_
    refine c_seq ?_
    refine rg ?_
    refine st (v := (B true)) (rv_assign rfl) ?_
    refine w_end ?_
    refine q_then ?_
    refine c_ret ?_
    obtain rfl := Option.some.inj h
    exact fin_ret (v := (B true)) (results_ok Tryd.results21 (res_tmp (v := (B true)) rfl res_nil) rfl) ⟨rfl, rfl⟩ (H.sel' [] rfl rfl)
   ·replace h := selim_r h
    refine q_then_r ?_
    obtain rfl := Option.some.inj h
    exact fin_ret (v := (B t32)) (results_ok Tryd.results21 (res_tmp (v := (B t32)) rfl res_nil) rfl) ⟨rfl, rfl⟩ (H.sel' [] rfl rfl)

theorem c_impl_pageReader_fail {r_0 : (List UInt8) × Int × Int} {err_1 : Int} {ar_0_0 : Option Addr} {cr_0_0 : Nat} {lor_0 br_0 or_0 : Nat} {prer_0 sufr_0 : List Value} {ga : Nat → Addr} {r : ((List UInt8) × Int × Int)} (h : M.impl_pageReader_fail r_0 err_1 = some r) :
    Cal2 Tryd.prog 38 [(pt br_0 or_0), (er 72 ga err_1)] [Ch.bx lor_0 br_0 or_0 [(Sl ar_0_0 r_0.1 cr_0_0), (I r_0.2.1), (er 72 ga r_0.2.2)] prer_0 sufr_0, Ch.ro 0 (Sl ar_0_0 r_0.1 cr_0_0) r_0.1, Ch.gl 72 ga [1, 2, 0]] (fun n0 v L => ∃ (az1 : Option Addr), ∃ (cz2 : Nat), v = (.tuple #[]) ∧ L = [Ch.bx lor_0 br_0 or_0 [(Sl az1 r.1 cz2), (I r.2.1), (er 72 ga r.2.2)] prer_0 sufr_0, Ch.ro 0 (Sl az1 r.1 cz2) r.1]) := by
 refine cal2 (n := 13) Tryd.func38 rfl rfl rfl rfl ?_
 intro S0 σ0 n0 hn0 H
 unfold M.impl_pageReader_fail at h
 refine c_seq ?_
 refine rg ?_
 refine st (v := (pt br_0 or_0)) (rv_move rfl) ?_
 refine st (v := (pt br_0 or_0)) (rv_nilCheck rfl) ?_
 refine st (v := (pt br_0 (or_0 + 2))) (rv_fieldAddr (off := 2) (ft := 44) Tryd.underlying46 rfl ti44 rfl rfl) ?_
 have hc1 := H.cell (u := (er 72 ga r_0.2.2)) (o' := (or_0 + 2)) 0 2 rfl rfl rfl
 refine st (v := (er 72 ga r_0.2.2)) (rv_load1 Tryd.underlying44 rfl rfl hc1) ?_
 refine st (v := (B (r_0.2.2 == 0))) (rv_eqlE (e := r_0.2.2) Tryd.underlying44 rfl rfl) ?_
 refine w_end ?_
 refine q_then ?_
 refine cd_cond (r_0.2.2 == 0) rfl (fun hb2 => ?_) (fun hb2 => ?_)
 ·replace h := bif_t hb2 h
  refine rg ?_
  refine st (v := (pt br_0 or_0)) (rv_move rfl) ?_
  refine st (v := (er 72 ga err_1)) (rv_move rfl) ?_
  refine st (v := (pt br_0 or_0)) (rv_nilCheck rfl) ?_
  refine st (v := (pt br_0 (or_0 + 2))) (rv_fieldAddr (off := 2) (ft := 44) Tryd.underlying46 rfl ti44 rfl rfl) ?_
  refine st_exS (ex_store_box (k := 2) (cs := [(Sl ar_0_0 r_0.1 cr_0_0), (I r_0.2.1), (er 72 ga r_0.2.2)]) (vs := [(er 72 ga err_1)]) (cs' := [(Sl ar_0_0 r_0.1 cr_0_0), (I r_0.2.1), (er 72 ga err_1)]) H (i := 0) rfl ti44 rfl rfl rfl er_cells rfl (Nat.le_of_ble_eq_true rfl) (by intro u hu; obtain rfl := List.mem_singleton.1 hu; exact er_plain) rfl) wn ?_
  rintro σ3 ⟨H, -⟩
  refine w_end ?_
  obtain rfl := Option.some.inj h
  exact fin_end (v := (.tuple #[])) (results_ok Tryd.results38 res_nil rfl) ⟨ar_0_0, cr_0_0, rfl, rfl⟩ (H.sel' [0, 1] rfl rfl)
 ·replace h := bif_f hb2 h
  refine c_skip ?_
  obtain rfl := Option.some.inj h
  exact fin_end (v := (.tuple #[])) (results_ok Tryd.results38 res_nil rfl) ⟨ar_0_0, cr_0_0, rfl, rfl⟩ (H.sel' [0, 1] rfl rfl)

theorem c_impl_pageReader_next {r_0 : (List UInt8) × Int × Int} {ar_0_0 : Option Addr} {cr_0_0 : Nat} {lor_0 br_0 or_0 : Nat} {prer_0 sufr_0 : List Value} {ga : Nat → Addr} {r : Int × ((List UInt8) × Int × Int)} (h : M.impl_pageReader_next r_0 = some r) :
    Cal2 Tryd.prog 36 [(pt br_0 or_0)] [Ch.bx lor_0 br_0 or_0 [(Sl ar_0_0 r_0.1 cr_0_0), (I r_0.2.1), (er 72 ga r_0.2.2)] prer_0 sufr_0, Ch.ro 0 (Sl ar_0_0 r_0.1 cr_0_0) r_0.1, Ch.gl 72 ga [1, 2, 0]] (fun n0 v L => ∃ (az1 : Option Addr), ∃ (cz2 : Nat), v = (I r.1) ∧ L = [Ch.bx lor_0 br_0 or_0 [(Sl az1 r.2.1 cz2), (I r.2.2.1), (er 72 ga r.2.2.2)] prer_0 sufr_0, Ch.ro 0 (Sl az1 r.2.1 cz2) r.2.1]) := by
 refine cal2 (n := 40) Tryd.func36 rfl rfl rfl rfl ?_
 intro S0 σ0 n0 hn0 H
 unfold M.impl_pageReader_next at h
 refine c_seq ?_
 refine rg ?_
 refine st (v := (I 0)) (rv_assign rfl) ?_
 refine w_end ?_
 refine q_then ?_
 refine c_seq ?_
 refine c_seq ?_
 refine rgP (σ := σ0) 9 (by kernel_rfl) (by kernel_rfl) (by kernel_rfl) ?_
 refine sq (v := (pt br_0 or_0)) (rv_move rfl) ?_
 refine sq (v := (pt br_0 or_0)) (rv_nilCheck rfl) ?_
 refine sq (v := (pt br_0 (or_0 + 1))) (rv_fieldAddr (off := 1) (ft := 3) Tryd.underlying46 rfl ti3 rfl rfl) ?_
 have hc1 := H.cell (u := (I r_0.2.1)) (o' := (or_0 + 1)) 0 1 rfl rfl rfl
 refine sq (v := (I r_0.2.1)) (rv_load1 Tryd.underlying3 rfl rfl hc1) ?_
 refine sq (v := (pt br_0 or_0)) (rv_move rfl) ?_
 refine sq (v := (pt br_0 or_0)) (rv_nilCheck rfl) ?_
 refine sq (v := (pt br_0 or_0)) (rv_fieldAddr (off := 0) (ft := 22) Tryd.underlying46 rfl ti22 rfl rfl) ?_
 have hc2 := H.cell (u := (Sl ar_0_0 r_0.1 cr_0_0)) (o' := or_0) 0 0 rfl rfl rfl
 refine sq (v := (Sl ar_0_0 r_0.1 cr_0_0)) (rv_load1 Tryd.underlying22 rfl rfl hc2) ?_
 refine sq (v := (I (r_0.1.length : Int))) (rv_len Tryd.underlying22 rfl) ?_
 refine sq_end ?_
 intro σ3 hm4
 replace H := H.grow (hm4.mono fun _ h => h); clear hm4
 refine st (v := (B (r_0.2.1 == (r_0.1.length : Int)))) (rv_eql (a := r_0.2.1) (b := (r_0.1.length : Int)) rfl rfl) ?_
 refine w_end ?_
 refine q_then ?_
 obtain ⟨o5, hj, h'⟩ := bind_some h
 clear h
 refine c_cut (fun e a w => e = .normal ∧ ∃ (ρ : Nat → Value) (σ : St) (aj1 : Option Addr) (cj2 : Nat), a = fr 40 (updL ρ [(0, (pt br_0 or_0))]) ∧ w = σ.w ∧ Hp S0 σ0 σ [Ch.bx lor_0 br_0 or_0 [(Sl aj1 o5.1 cj2), (I o5.2.1), (er 72 ga o5.2.2)] prer_0 sufr_0, Ch.ro 0 (Sl aj1 o5.1 cj2) o5.1, Ch.gl 72 ga [1, 2, 0]]) ?_ ?_
 ·clear h'
  rename _ = some o5 => h
  refine cd_cond (r_0.2.1 == (r_0.1.length : Int)) rfl (fun hb6 => ?_) (fun hb6 => ?_)
  ·replace h := bif_t hb6 h
   refine rg ?_
   refine st (v := (pt br_0 or_0)) (rv_move rfl) ?_
   have hc7 := gl_cell (H.gl 2 rfl) 1 2 2 rfl rfl
   refine st (v := (er 72 ga 2)) (rv_loadG Tryd.underlying44 hc7) ?_
   obtain ⟨r8, hx9, h'⟩ := bind_some h
   clear h
   have h := h'; clear h'
   have hc10 := c_impl_pageReader_fail (lor_0 := lor_0) (br_0 := br_0) (or_0 := or_0) (prer_0 := prer_0) (sufr_0 := sufr_0) (ar_0_0 := ar_0_0) (cr_0_0 := cr_0_0) (ga := ga) hx9
   refine st_call (cx_call hc10 (ent_f hc10.fn rfl) hn0 (show Hp S0 σ0 _ ([Ch.bx lor_0 br_0 or_0 [(Sl ar_0_0 r_0.1 cr_0_0), (I r_0.2.1), (er 72 ga r_0.2.2)] prer_0 sufr_0, Ch.ro 0 (Sl ar_0_0 r_0.1 cr_0_0) r_0.1, Ch.gl 72 ga [1, 2, 0]] ++ [Ch.ro 0 (Sl ar_0_0 r_0.1 cr_0_0) r_0.1, Ch.gl 72 ga [1, 2, 0]]) from (H.sel' [0, 1, 2, 1, 2] rfl rfl))) wn ?_
   rintro _ σ13 ⟨_, ⟨a11, c12, rfl, rfl⟩, H, -⟩
   replace H : Hp S0 σ0 σ13 [Ch.bx lor_0 br_0 or_0 [(Sl a11 r8.1 c12), (I r8.2.1), (er 72 ga r8.2.2)] prer_0 sufr_0, Ch.ro 0 (Sl a11 r8.1 c12) r8.1, Ch.ro 0 (Sl ar_0_0 r_0.1 cr_0_0) r_0.1, Ch.gl 72 ga [1, 2, 0]] := H
   refine w_end ?_
   obtain rfl := Option.some.inj h
   exact ⟨rfl, _, σ13, a11, c12, fr_join ⟨rfl, trivial⟩, rfl, H.sel' [0, 1, 3] rfl rfl⟩
  ·replace h := bif_f hb6 h
   refine c_skip ?_
   obtain rfl := Option.some.inj h
   exact ⟨rfl, _, σ3, ar_0_0, cr_0_0, fr_join ⟨rfl, trivial⟩, rfl, H.sel' [0, 1, 2] rfl rfl⟩
 ·clear hj
  have h := h'
  clear h' H
  rintro e a w ⟨rfl, ρ, σ14, a15, c16, rfl, rfl, H⟩
  refine q_then ?_
  refine c_seq ?_
  refine c_seq ?_
  refine rg ?_
  refine st (v := (pt br_0 or_0)) (rv_move rfl) ?_
  refine st (v := (pt br_0 or_0)) (rv_nilCheck rfl) ?_
  refine st (v := (pt br_0 (or_0 + 2))) (rv_fieldAddr (off := 2) (ft := 44) Tryd.underlying46 rfl ti44 rfl rfl) ?_
  have hc17 := H.cell (u := (er 72 ga o5.2.2)) (o' := (or_0 + 2)) 0 2 rfl rfl rfl
  refine st (v := (er 72 ga o5.2.2)) (rv_load1 Tryd.underlying44 rfl rfl hc17) ?_
  refine st (v := (B (o5.2.2 != 0))) (rv_neqE (e := o5.2.2) Tryd.underlying44 rfl rfl) ?_
  refine w_end ?_
  refine q_then ?_
  refine cd_cond (o5.2.2 != 0) rfl (fun hb18 => ?_) (fun hb18 => ?_)
  ·replace h := bif_t hb18 h
   refine c_seq ?_
   refine rg ?_
   refine st (v := (I 0)) (rv_assign rfl) ?_
   refine w_end ?_
   refine q_then ?_
   refine c_ret ?_
   refine q_then_r ?_
   obtain rfl := Option.some.inj h
   exact fin_ret (v := (I 0)) (results_ok Tryd.results36 (res_tmp (v := (I 0)) rfl res_nil) rfl) ⟨a15, c16, rfl, rfl⟩ (H.sel' [0, 1] rfl rfl)
  ·replace h := bif_f hb18 h
   refine c_skip ?_
   refine q_then ?_
   refine c_seq ?_
   refine rg ?_
   refine st (v := (pt br_0 or_0)) (rv_move rfl) ?_
   refine st (v := (pt br_0 or_0)) (rv_nilCheck rfl) ?_
   refine st (v := (pt br_0 (or_0 + 1))) (rv_fieldAddr (off := 1) (ft := 3) Tryd.underlying46 rfl ti3 rfl rfl) ?_
   have hc19 := H.cell (u := (I o5.2.1)) (o' := (or_0 + 1)) 0 1 rfl rfl rfl
   refine st (v := (I o5.2.1)) (rv_load1 Tryd.underlying3 rfl rfl hc19) ?_
   refine st (v := (I (w64 (o5.2.1 + 1)))) (rv_add (a := o5.2.1) (b := 1) rfl rfl) ?_
   refine st (v := (pt br_0 or_0)) (rv_nilCheck rfl) ?_
   refine st (v := (pt br_0 (or_0 + 1))) (rv_fieldAddr (off := 1) (ft := 3) Tryd.underlying46 rfl ti3 rfl rfl) ?_
   refine st_exS (ex_store_box (k := 1) (cs := [(Sl a15 o5.1 c16), (I o5.2.1), (er 72 ga o5.2.2)]) (vs := [(I (w64 (o5.2.1 + 1)))]) (cs' := [(Sl a15 o5.1 c16), (I (w64 (o5.2.1 + 1))), (er 72 ga o5.2.2)]) H (i := 0) rfl ti3 rfl rfl rfl rfl rfl (Nat.le_of_ble_eq_true rfl) (by simp [plain]) rfl) wn ?_
   rintro σ20 ⟨H, -⟩
   refine w_end ?_
   refine q_then ?_
   refine c_seq ?_
   refine rgP (σ := σ20) 9 (by kernel_rfl) (by kernel_rfl) (by kernel_rfl) ?_
   refine sq (v := (pt br_0 or_0)) (rv_move rfl) ?_
   refine sq (v := (pt br_0 or_0)) (rv_nilCheck rfl) ?_
   refine sq (v := (pt br_0 or_0)) (rv_fieldAddr (off := 0) (ft := 22) Tryd.underlying46 rfl ti22 rfl rfl) ?_
   have hc21 := H.cell (u := (Sl a15 o5.1 c16)) (o' := or_0) 0 0 rfl rfl rfl
   refine sq (v := (Sl a15 o5.1 c16)) (rv_load1 Tryd.underlying22 rfl rfl hc21) ?_
   refine sq (v := (pt br_0 or_0)) (rv_move rfl) ?_
   refine sq (v := (pt br_0 or_0)) (rv_nilCheck rfl) ?_
   refine sq (v := (pt br_0 (or_0 + 1))) (rv_fieldAddr (off := 1) (ft := 3) Tryd.underlying46 rfl ti3 rfl rfl) ?_
   have hc22 := H.cell (u := (I (w64 (o5.2.1 + 1)))) (o' := (or_0 + 1)) 0 1 rfl rfl rfl
   refine sq (v := (I (w64 (o5.2.1 + 1)))) (rv_load1 Tryd.underlying3 rfl rfl hc22) ?_
   refine sq (v := (I (w64 ((w64 (o5.2.1 + 1)) - 1)))) (rv_sub (a := (w64 (o5.2.1 + 1))) (b := 1) rfl rfl) ?_
   refine sq_end ?_
   intro σ23 hm24
   replace H := H.grow (hm24.mono fun _ h => h); clear hm24
   obtain ⟨x25, hx26, h'⟩ := bind_some h
   clear h
   have h := h'; clear h'
   obtain ⟨b28, o29, hi27, -⟩ := (H.ro 1 rfl).ix hx26
   refine st (v := (pt b28 o29)) (rv_ix Tryd.underlying22 ti5 rfl rfl hi27) ?_
   have hc30 := ((H.ro 1 rfl).at hx26 hi27).byte
   refine st (v := (.int .u8 (x25.toNat : Int))) (rv_load1 Tryd.underlying5 rfl rfl hc30) ?_
   refine st (v := (I (w64 (x25.toNat : Int)))) (rv_conv Tryd.underlying5 Tryd.underlying3 rfl) ?_
   refine st (v := (I (w64 (x25.toNat : Int)))) (rv_assign rfl) ?_
   refine w_end ?_
   refine q_then ?_
   refine c_ret ?_
   obtain rfl := Option.some.inj h
   exact fin_ret (v := (I (w64 (x25.toNat : Int)))) (results_ok Tryd.results36 (res_tmp (v := (I (w64 (x25.toNat : Int)))) rfl res_nil) rfl) ⟨a15, c16, rfl, rfl⟩ (H.sel' [0, 1] rfl rfl)

theorem c_impl_pageReader_item {r_0 : (List UInt8) × Int × Int} {ar_0_0 : Option Addr} {cr_0_0 : Nat} {lor_0 br_0 or_0 : Nat} {prer_0 sufr_0 : List Value} {ga : Nat → Addr} {r : (Int × (List Int) × Int) × ((List UInt8) × Int × Int)} (h : M.impl_pageReader_item r_0 = some r) :
    Cal2 Tryd.prog 37 [(pt br_0 or_0)] [Ch.bx lor_0 br_0 or_0 [(Sl ar_0_0 r_0.1 cr_0_0), (I r_0.2.1), (er 72 ga r_0.2.2)] prer_0 sufr_0, Ch.ro 0 (Sl ar_0_0 r_0.1 cr_0_0) r_0.1, Ch.gl 72 ga [1, 2, 0]] (fun n0 v L => ∃ (az1 : Option Addr), ∃ (cz2 : Nat), ∃ (az3 : Option Addr), ∃ (cz4 : Nat), v = (.agg #[(I r.1.1), (Sl az1 r.1.2.1 cz2), (I r.1.2.2)]) ∧ L = [Ch.own n0 n0 (Sl az1 r.1.2.1 cz2) r.1.2.1, Ch.bx lor_0 br_0 or_0 [(Sl az3 r.2.1 cz4), (I r.2.2.1), (er 72 ga r.2.2.2)] prer_0 sufr_0, Ch.ro 0 (Sl az3 r.2.1 cz4) r.2.1]) := by
 refine cal2 (n := 26) Tryd.func37 rfl rfl rfl rfl ?_
 intro S0 σ0 n0 hn0 H
 unfold M.impl_pageReader_item at h
 refine c_seq ?_
 refine rg ?_
 refine st_ex (ex_alloc (cs := [(I 0), (.slice none 0 0), (I 0)]) H hn0 ti41 rfl) wn ?_
 rintro _ σ2 ⟨b1, rfl, H, -⟩
 refine w_end ?_
 refine q_then ?_
 refine c_seq ?_
 obtain ⟨r3, hx4, h'⟩ := bind_some h
 clear h
 have h := h'; clear h'
 have hc5 := c_impl_pageReader_next (lor_0 := lor_0) (br_0 := br_0) (or_0 := or_0) (prer_0 := prer_0) (sufr_0 := sufr_0) (ar_0_0 := ar_0_0) (cr_0_0 := cr_0_0) (ga := ga) hx4
 obtain ⟨r8, hx9, h'⟩ := bind_some h
 clear h
 have h := h'; clear h'
 have hc10 := fun (a6 : Option Addr) (c7 : Nat) => c_impl_pageReader_next (lor_0 := lor_0) (br_0 := br_0) (or_0 := or_0) (prer_0 := prer_0) (sufr_0 := sufr_0) (ar_0_0 := a6) (cr_0_0 := c7) (ga := ga) hx9
 obtain ⟨xs13, hx14, h'⟩ := bind_some h
 clear h
 have h := h'; clear h'
 have Hs := H
 refine rg2 (σ := σ2) (Nm := (Option Addr) × (Nat) × (Option Addr) × (Nat) × (Nat) × (Nat) × (Nat)) 7 [1, 3, 4, 6] [[false, false, false, false], [true, false, false, false], [false, false, true, false], [false, false, false, true], [true, true, false, false], [true, false, true, false], [true, false, false, true], [false, false, true, true], [true, true, true, false], [true, true, false, true], [true, false, true, true], [true, true, true, true]] [[(0, 0), (2, 2), (3, 3), (7, 7)], [(0, 1), (2, 5), (3, 6), (7, 10)], [(0, 0), (1, 1), (2, 2), (3, 3), (5, 5), (6, 6), (7, 7), (10, 10)], [(1, 4), (5, 8), (6, 9), (10, 11)], [(0, 2), (1, 5), (3, 7), (4, 8), (6, 10), (9, 11)], [(8, 8), (11, 11)], [(0, 3), (1, 6), (2, 7), (4, 9), (5, 10), (8, 11)]] 11 [fun ((a6, c7, a11, c12, b15, c16, b18) : (Option Addr) × (Nat) × (Option Addr) × (Nat) × (Nat) × (Nat) × (Nat)) => fun σm => Hp S0 σ0 σm [Ch.bx n0 b1 0 [(I 0), (.slice none 0 0), (I 0)] [] [], Ch.bx lor_0 br_0 or_0 [(Sl ar_0_0 r_0.1 cr_0_0), (I r_0.2.1), (er 72 ga r_0.2.2)] prer_0 sufr_0, Ch.ro 0 (Sl ar_0_0 r_0.1 cr_0_0) r_0.1, Ch.gl 72 ga [1, 2, 0]] ∧ Md (cov []) σ2 σm, fun ((a6, c7, a11, c12, b15, c16, b18) : (Option Addr) × (Nat) × (Option Addr) × (Nat) × (Nat) × (Nat) × (Nat)) => fun σm => Hp S0 σ0 σm [Ch.bx lor_0 br_0 or_0 [(Sl a6 r3.2.1 c7), (I r3.2.2.1), (er 72 ga r3.2.2.2)] prer_0 sufr_0, Ch.ro 0 (Sl a6 r3.2.1 c7) r3.2.1, Ch.bx n0 b1 0 [(I 0), (.slice none 0 0), (I 0)] [] [], Ch.ro 0 (Sl ar_0_0 r_0.1 cr_0_0) r_0.1, Ch.gl 72 ga [1, 2, 0]] ∧ Md (fun i => (cov []) i ∨ (cov [Ch.bx lor_0 br_0 or_0 [(Sl ar_0_0 r_0.1 cr_0_0), (I r_0.2.1), (er 72 ga r_0.2.2)] prer_0 sufr_0, Ch.ro 0 (Sl ar_0_0 r_0.1 cr_0_0) r_0.1, Ch.gl 72 ga [1, 2, 0]]) i) σ2 σm, fun ((a6, c7, a11, c12, b15, c16, b18) : (Option Addr) × (Nat) × (Option Addr) × (Nat) × (Nat) × (Nat) × (Nat)) => fun σm => Hp S0 σ0 σm [Ch.own n0 n0 (Sl (some ⟨b15, 0, none⟩) xs13 c16) xs13, Ch.bx n0 b1 0 [(I 0), (.slice none 0 0), (I 0)] [] [], Ch.bx lor_0 br_0 or_0 [(Sl ar_0_0 r_0.1 cr_0_0), (I r_0.2.1), (er 72 ga r_0.2.2)] prer_0 sufr_0, Ch.ro 0 (Sl ar_0_0 r_0.1 cr_0_0) r_0.1, Ch.gl 72 ga [1, 2, 0]] ∧ Md (cov []) σ2 σm, fun ((a6, c7, a11, c12, b15, c16, b18) : (Option Addr) × (Nat) × (Option Addr) × (Nat) × (Nat) × (Nat) × (Nat)) => fun σm => Hp S0 σ0 σm [Ch.bx n0 b18 0 [(I 0), (.slice none 0 0), (I 0)] [] [], Ch.bx n0 b1 0 [(I 0), (.slice none 0 0), (I 0)] [] [], Ch.bx lor_0 br_0 or_0 [(Sl ar_0_0 r_0.1 cr_0_0), (I r_0.2.1), (er 72 ga r_0.2.2)] prer_0 sufr_0, Ch.ro 0 (Sl ar_0_0 r_0.1 cr_0_0) r_0.1, Ch.gl 72 ga [1, 2, 0]] ∧ Md (cov []) σ2 σm, fun ((a6, c7, a11, c12, b15, c16, b18) : (Option Addr) × (Nat) × (Option Addr) × (Nat) × (Nat) × (Nat) × (Nat)) => fun σm => Hp S0 σ0 σm [Ch.bx lor_0 br_0 or_0 [(Sl a11 r8.2.1 c12), (I r8.2.2.1), (er 72 ga r8.2.2.2)] prer_0 sufr_0, Ch.ro 0 (Sl a11 r8.2.1 c12) r8.2.1, Ch.ro 0 (Sl a6 r3.2.1 c7) r3.2.1, Ch.bx n0 b1 0 [(I 0), (.slice none 0 0), (I 0)] [] [], Ch.ro 0 (Sl ar_0_0 r_0.1 cr_0_0) r_0.1, Ch.gl 72 ga [1, 2, 0]] ∧ Md (fun i => (fun i => (cov []) i ∨ (cov [Ch.bx lor_0 br_0 or_0 [(Sl ar_0_0 r_0.1 cr_0_0), (I r_0.2.1), (er 72 ga r_0.2.2)] prer_0 sufr_0, Ch.ro 0 (Sl ar_0_0 r_0.1 cr_0_0) r_0.1, Ch.gl 72 ga [1, 2, 0]]) i) i ∨ (cov [Ch.bx lor_0 br_0 or_0 [(Sl a6 r3.2.1 c7), (I r3.2.2.1), (er 72 ga r3.2.2.2)] prer_0 sufr_0, Ch.ro 0 (Sl a6 r3.2.1 c7) r3.2.1, Ch.gl 72 ga [1, 2, 0]]) i) σ2 σm, fun ((a6, c7, a11, c12, b15, c16, b18) : (Option Addr) × (Nat) × (Option Addr) × (Nat) × (Nat) × (Nat) × (Nat)) => fun σm => Hp S0 σ0 σm [Ch.own n0 n0 (Sl (some ⟨b15, 0, none⟩) xs13 c16) xs13, Ch.bx lor_0 br_0 or_0 [(Sl a6 r3.2.1 c7), (I r3.2.2.1), (er 72 ga r3.2.2.2)] prer_0 sufr_0, Ch.ro 0 (Sl a6 r3.2.1 c7) r3.2.1, Ch.bx n0 b1 0 [(I 0), (.slice none 0 0), (I 0)] [] [], Ch.ro 0 (Sl ar_0_0 r_0.1 cr_0_0) r_0.1, Ch.gl 72 ga [1, 2, 0]] ∧ Md (fun i => (cov []) i ∨ (cov [Ch.bx lor_0 br_0 or_0 [(Sl ar_0_0 r_0.1 cr_0_0), (I r_0.2.1), (er 72 ga r_0.2.2)] prer_0 sufr_0, Ch.ro 0 (Sl ar_0_0 r_0.1 cr_0_0) r_0.1, Ch.gl 72 ga [1, 2, 0]]) i) σ2 σm, fun ((a6, c7, a11, c12, b15, c16, b18) : (Option Addr) × (Nat) × (Option Addr) × (Nat) × (Nat) × (Nat) × (Nat)) => fun σm => Hp S0 σ0 σm [Ch.bx n0 b18 0 [(I 0), (.slice none 0 0), (I 0)] [] [], Ch.bx lor_0 br_0 or_0 [(Sl a6 r3.2.1 c7), (I r3.2.2.1), (er 72 ga r3.2.2.2)] prer_0 sufr_0, Ch.ro 0 (Sl a6 r3.2.1 c7) r3.2.1, Ch.bx n0 b1 0 [(I 0), (.slice none 0 0), (I 0)] [] [], Ch.ro 0 (Sl ar_0_0 r_0.1 cr_0_0) r_0.1, Ch.gl 72 ga [1, 2, 0]] ∧ Md (fun i => (cov []) i ∨ (cov [Ch.bx lor_0 br_0 or_0 [(Sl ar_0_0 r_0.1 cr_0_0), (I r_0.2.1), (er 72 ga r_0.2.2)] prer_0 sufr_0, Ch.ro 0 (Sl ar_0_0 r_0.1 cr_0_0) r_0.1, Ch.gl 72 ga [1, 2, 0]]) i) σ2 σm, fun ((a6, c7, a11, c12, b15, c16, b18) : (Option Addr) × (Nat) × (Option Addr) × (Nat) × (Nat) × (Nat) × (Nat)) => fun σm => Hp S0 σ0 σm [Ch.bx n0 b18 0 [(I 0), (.slice none 0 0), (I 0)] [] [], Ch.own n0 n0 (Sl (some ⟨b15, 0, none⟩) xs13 c16) xs13, Ch.bx n0 b1 0 [(I 0), (.slice none 0 0), (I 0)] [] [], Ch.bx lor_0 br_0 or_0 [(Sl ar_0_0 r_0.1 cr_0_0), (I r_0.2.1), (er 72 ga r_0.2.2)] prer_0 sufr_0, Ch.ro 0 (Sl ar_0_0 r_0.1 cr_0_0) r_0.1, Ch.gl 72 ga [1, 2, 0]] ∧ Md (cov []) σ2 σm, fun ((a6, c7, a11, c12, b15, c16, b18) : (Option Addr) × (Nat) × (Option Addr) × (Nat) × (Nat) × (Nat) × (Nat)) => fun σm => Hp S0 σ0 σm [Ch.own n0 n0 (Sl (some ⟨b15, 0, none⟩) xs13 c16) xs13, Ch.bx lor_0 br_0 or_0 [(Sl a11 r8.2.1 c12), (I r8.2.2.1), (er 72 ga r8.2.2.2)] prer_0 sufr_0, Ch.ro 0 (Sl a11 r8.2.1 c12) r8.2.1, Ch.ro 0 (Sl a6 r3.2.1 c7) r3.2.1, Ch.bx n0 b1 0 [(I 0), (.slice none 0 0), (I 0)] [] [], Ch.ro 0 (Sl ar_0_0 r_0.1 cr_0_0) r_0.1, Ch.gl 72 ga [1, 2, 0]] ∧ Md (fun i => (fun i => (cov []) i ∨ (cov [Ch.bx lor_0 br_0 or_0 [(Sl ar_0_0 r_0.1 cr_0_0), (I r_0.2.1), (er 72 ga r_0.2.2)] prer_0 sufr_0, Ch.ro 0 (Sl ar_0_0 r_0.1 cr_0_0) r_0.1, Ch.gl 72 ga [1, 2, 0]]) i) i ∨ (cov [Ch.bx lor_0 br_0 or_0 [(Sl a6 r3.2.1 c7), (I r3.2.2.1), (er 72 ga r3.2.2.2)] prer_0 sufr_0, Ch.ro 0 (Sl a6 r3.2.1 c7) r3.2.1, Ch.gl 72 ga [1, 2, 0]]) i) σ2 σm, fun ((a6, c7, a11, c12, b15, c16, b18) : (Option Addr) × (Nat) × (Option Addr) × (Nat) × (Nat) × (Nat) × (Nat)) => fun σm => Hp S0 σ0 σm [Ch.bx n0 b18 0 [(I 0), (.slice none 0 0), (I 0)] [] [], Ch.bx lor_0 br_0 or_0 [(Sl a11 r8.2.1 c12), (I r8.2.2.1), (er 72 ga r8.2.2.2)] prer_0 sufr_0, Ch.ro 0 (Sl a11 r8.2.1 c12) r8.2.1, Ch.ro 0 (Sl a6 r3.2.1 c7) r3.2.1, Ch.bx n0 b1 0 [(I 0), (.slice none 0 0), (I 0)] [] [], Ch.ro 0 (Sl ar_0_0 r_0.1 cr_0_0) r_0.1, Ch.gl 72 ga [1, 2, 0]] ∧ Md (fun i => (fun i => (cov []) i ∨ (cov [Ch.bx lor_0 br_0 or_0 [(Sl ar_0_0 r_0.1 cr_0_0), (I r_0.2.1), (er 72 ga r_0.2.2)] prer_0 sufr_0, Ch.ro 0 (Sl ar_0_0 r_0.1 cr_0_0) r_0.1, Ch.gl 72 ga [1, 2, 0]]) i) i ∨ (cov [Ch.bx lor_0 br_0 or_0 [(Sl a6 r3.2.1 c7), (I r3.2.2.1), (er 72 ga r3.2.2.2)] prer_0 sufr_0, Ch.ro 0 (Sl a6 r3.2.1 c7) r3.2.1, Ch.gl 72 ga [1, 2, 0]]) i) σ2 σm, fun ((a6, c7, a11, c12, b15, c16, b18) : (Option Addr) × (Nat) × (Option Addr) × (Nat) × (Nat) × (Nat) × (Nat)) => fun σm => Hp S0 σ0 σm [Ch.bx n0 b18 0 [(I 0), (.slice none 0 0), (I 0)] [] [], Ch.own n0 n0 (Sl (some ⟨b15, 0, none⟩) xs13 c16) xs13, Ch.bx lor_0 br_0 or_0 [(Sl a6 r3.2.1 c7), (I r3.2.2.1), (er 72 ga r3.2.2.2)] prer_0 sufr_0, Ch.ro 0 (Sl a6 r3.2.1 c7) r3.2.1, Ch.bx n0 b1 0 [(I 0), (.slice none 0 0), (I 0)] [] [], Ch.ro 0 (Sl ar_0_0 r_0.1 cr_0_0) r_0.1, Ch.gl 72 ga [1, 2, 0]] ∧ Md (fun i => (cov []) i ∨ (cov [Ch.bx lor_0 br_0 or_0 [(Sl ar_0_0 r_0.1 cr_0_0), (I r_0.2.1), (er 72 ga r_0.2.2)] prer_0 sufr_0, Ch.ro 0 (Sl ar_0_0 r_0.1 cr_0_0) r_0.1, Ch.gl 72 ga [1, 2, 0]]) i) σ2 σm, fun ((a6, c7, a11, c12, b15, c16, b18) : (Option Addr) × (Nat) × (Option Addr) × (Nat) × (Nat) × (Nat) × (Nat)) => fun σm => Hp S0 σ0 σm [Ch.bx n0 b18 0 [(I 0), (.slice none 0 0), (I 0)] [] [], Ch.own n0 n0 (Sl (some ⟨b15, 0, none⟩) xs13 c16) xs13, Ch.bx lor_0 br_0 or_0 [(Sl a11 r8.2.1 c12), (I r8.2.2.1), (er 72 ga r8.2.2.2)] prer_0 sufr_0, Ch.ro 0 (Sl a11 r8.2.1 c12) r8.2.1, Ch.ro 0 (Sl a6 r3.2.1 c7) r3.2.1, Ch.bx n0 b1 0 [(I 0), (.slice none 0 0), (I 0)] [] [], Ch.ro 0 (Sl ar_0_0 r_0.1 cr_0_0) r_0.1, Ch.gl 72 ga [1, 2, 0]] ∧ Md (fun i => (fun i => (cov []) i ∨ (cov [Ch.bx lor_0 br_0 or_0 [(Sl ar_0_0 r_0.1 cr_0_0), (I r_0.2.1), (er 72 ga r_0.2.2)] prer_0 sufr_0, Ch.ro 0 (Sl ar_0_0 r_0.1 cr_0_0) r_0.1, Ch.gl 72 ga [1, 2, 0]]) i) i ∨ (cov [Ch.bx lor_0 br_0 or_0 [(Sl a6 r3.2.1 c7), (I r3.2.2.1), (er 72 ga r3.2.2.2)] prer_0 sufr_0, Ch.ro 0 (Sl a6 r3.2.1 c7) r3.2.1, Ch.gl 72 ga [1, 2, 0]]) i) σ2 σm] [fun ((a6, c7, a11, c12, b15, c16, b18) : (Option Addr) × (Nat) × (Option Addr) × (Nat) × (Nat) × (Nat) × (Nat)) => (pt br_0 or_0), fun ((a6, c7, a11, c12, b15, c16, b18) : (Option Addr) × (Nat) × (Option Addr) × (Nat) × (Nat) × (Nat) × (Nat)) => (I r3.1), fun ((a6, c7, a11, c12, b15, c16, b18) : (Option Addr) × (Nat) × (Option Addr) × (Nat) × (Nat) × (Nat) × (Nat)) => (pt br_0 or_0), fun ((a6, c7, a11, c12, b15, c16, b18) : (Option Addr) × (Nat) × (Option Addr) × (Nat) × (Nat) × (Nat) × (Nat)) => (I r8.1), fun ((a6, c7, a11, c12, b15, c16, b18) : (Option Addr) × (Nat) × (Option Addr) × (Nat) × (Nat) × (Nat) × (Nat)) => (Sl (some ⟨b15, 0, none⟩) xs13 c16), fun ((a6, c7, a11, c12, b15, c16, b18) : (Option Addr) × (Nat) × (Option Addr) × (Nat) × (Nat) × (Nat) × (Nat)) => (.agg #[(I r3.1), (Sl (some ⟨b15, 0, none⟩) xs13 c16), (I r8.1)]), fun ((a6, c7, a11, c12, b15, c16, b18) : (Option Addr) × (Nat) × (Option Addr) × (Nat) × (Nat) × (Nat) × (Nat)) => (pt b18 0)] (none, 0, none, 0, 0, 0, 0) (by kernel_rfl) (by kernel_rfl) ?_ ?_ ?_
 ·intro σm m0
  exact ⟨H.grow (m0.mono fun _ h => h.elim), m0⟩
 ·refine ac rfl (by
    intro k; rintro ⟨a6, c7, a11, c12, b15, c16, b18⟩ ρ σm hJ hoff hdep
    have e0 := look_off (N := 26) (hoff 0 rfl) rfl
    exact dp_v (v := (pt br_0 or_0)) wn (rv_move e0) rfl hJ) ?_
  refine all_cons (by
    refine ⟨?_, ?_⟩
    ·rintro ⟨a6, c7, a11, c12, b15, c16, b18⟩ ρ σm hJ hoff hdep
     have e5 : look 26 ρ 5 = (pt br_0 or_0) := hdep 0 rfl rfl 5 rfl
     obtain ⟨H, m⟩ := id hJ
     refine dp_cx wn (cx_call hc5 (ent_f hc5.fn (by show [look 26 ρ 5] = _; rw [e5])) hn0 (show Hp S0 σ0 _ ([Ch.bx lor_0 br_0 or_0 [(Sl ar_0_0 r_0.1 cr_0_0), (I r_0.2.1), (er 72 ga r_0.2.2)] prer_0 sufr_0, Ch.ro 0 (Sl ar_0_0 r_0.1 cr_0_0) r_0.1, Ch.gl 72 ga [1, 2, 0]] ++ [Ch.bx n0 b1 0 [(I 0), (.slice none 0 0), (I 0)] [] [], Ch.ro 0 (Sl ar_0_0 r_0.1 cr_0_0) r_0.1, Ch.gl 72 ga [1, 2, 0]]) from (H.sel' [1, 2, 3, 0, 2, 3] rfl rfl))) ?_
     rintro _ σq ⟨_, ⟨a6x, c7x, rfl, rfl⟩, H2, m2⟩
     exact ⟨_, (a6x, c7x, a11, c12, b15, c16, b18), rfl, rfl, ⟨H2.sel' [0, 1, 2, 3, 4] rfl rfl, m.comp m2⟩, stab [0, 2, 4, 6] (by kernel_rfl) ⟨rfl, rfl, rfl, rfl, trivial⟩⟩
    refine ⟨?_, ?_⟩
    ·rintro ⟨a6, c7, a11, c12, b15, c16, b18⟩ ρ σm hJ hoff hdep
     have e5 : look 26 ρ 5 = (pt br_0 or_0) := hdep 0 rfl rfl 5 rfl
     obtain ⟨H, m⟩ := id hJ
     refine dp_cx wn (cx_call hc5 (ent_f hc5.fn (by show [look 26 ρ 5] = _; rw [e5])) hn0 (show Hp S0 σ0 _ ([Ch.bx lor_0 br_0 or_0 [(Sl ar_0_0 r_0.1 cr_0_0), (I r_0.2.1), (er 72 ga r_0.2.2)] prer_0 sufr_0, Ch.ro 0 (Sl ar_0_0 r_0.1 cr_0_0) r_0.1, Ch.gl 72 ga [1, 2, 0]] ++ [Ch.own n0 n0 (Sl (some ⟨b15, 0, none⟩) xs13 c16) xs13, Ch.bx n0 b1 0 [(I 0), (.slice none 0 0), (I 0)] [] [], Ch.ro 0 (Sl ar_0_0 r_0.1 cr_0_0) r_0.1, Ch.gl 72 ga [1, 2, 0]]) from (H.sel' [2, 3, 4, 0, 1, 3, 4] rfl rfl))) ?_
     rintro _ σq ⟨_, ⟨a6x, c7x, rfl, rfl⟩, H2, m2⟩
     exact ⟨_, (a6x, c7x, a11, c12, b15, c16, b18), rfl, rfl, ⟨H2.sel' [2, 0, 1, 3, 4, 5] rfl rfl, m.comp m2⟩, stab [0, 2, 4, 6] (by kernel_rfl) ⟨rfl, rfl, rfl, rfl, trivial⟩⟩
    refine ⟨?_, ?_⟩
    ·rintro ⟨a6, c7, a11, c12, b15, c16, b18⟩ ρ σm hJ hoff hdep
     have e5 : look 26 ρ 5 = (pt br_0 or_0) := hdep 0 rfl rfl 5 rfl
     obtain ⟨H, m⟩ := id hJ
     refine dp_cx wn (cx_call hc5 (ent_f hc5.fn (by show [look 26 ρ 5] = _; rw [e5])) hn0 (show Hp S0 σ0 _ ([Ch.bx lor_0 br_0 or_0 [(Sl ar_0_0 r_0.1 cr_0_0), (I r_0.2.1), (er 72 ga r_0.2.2)] prer_0 sufr_0, Ch.ro 0 (Sl ar_0_0 r_0.1 cr_0_0) r_0.1, Ch.gl 72 ga [1, 2, 0]] ++ [Ch.bx n0 b18 0 [(I 0), (.slice none 0 0), (I 0)] [] [], Ch.bx n0 b1 0 [(I 0), (.slice none 0 0), (I 0)] [] [], Ch.ro 0 (Sl ar_0_0 r_0.1 cr_0_0) r_0.1, Ch.gl 72 ga [1, 2, 0]]) from (H.sel' [2, 3, 4, 0, 1, 3, 4] rfl rfl))) ?_
     rintro _ σq ⟨_, ⟨a6x, c7x, rfl, rfl⟩, H2, m2⟩
     exact ⟨_, (a6x, c7x, a11, c12, b15, c16, b18), rfl, rfl, ⟨H2.sel' [2, 0, 1, 3, 4, 5] rfl rfl, m.comp m2⟩, stab [0, 2, 4, 6] (by kernel_rfl) ⟨rfl, rfl, rfl, rfl, trivial⟩⟩
    refine ⟨?_, ?_⟩
    ·rintro ⟨a6, c7, a11, c12, b15, c16, b18⟩ ρ σm hJ hoff hdep
     have e5 : look 26 ρ 5 = (pt br_0 or_0) := hdep 0 rfl rfl 5 rfl
     obtain ⟨H, m⟩ := id hJ
     refine dp_cx wn (cx_call hc5 (ent_f hc5.fn (by show [look 26 ρ 5] = _; rw [e5])) hn0 (show Hp S0 σ0 _ ([Ch.bx lor_0 br_0 or_0 [(Sl ar_0_0 r_0.1 cr_0_0), (I r_0.2.1), (er 72 ga r_0.2.2)] prer_0 sufr_0, Ch.ro 0 (Sl ar_0_0 r_0.1 cr_0_0) r_0.1, Ch.gl 72 ga [1, 2, 0]] ++ [Ch.bx n0 b18 0 [(I 0), (.slice none 0 0), (I 0)] [] [], Ch.own n0 n0 (Sl (some ⟨b15, 0, none⟩) xs13 c16) xs13, Ch.bx n0 b1 0 [(I 0), (.slice none 0 0), (I 0)] [] [], Ch.ro 0 (Sl ar_0_0 r_0.1 cr_0_0) r_0.1, Ch.gl 72 ga [1, 2, 0]]) from (H.sel' [3, 4, 5, 0, 1, 2, 4, 5] rfl rfl))) ?_
     rintro _ σq ⟨_, ⟨a6x, c7x, rfl, rfl⟩, H2, m2⟩
     exact ⟨_, (a6x, c7x, a11, c12, b15, c16, b18), rfl, rfl, ⟨H2.sel' [2, 3, 0, 1, 4, 5, 6] rfl rfl, m.comp m2⟩, stab [0, 2, 4, 6] (by kernel_rfl) ⟨rfl, rfl, rfl, rfl, trivial⟩⟩
    trivial) ?_
  refine ac rfl (by
    intro k; rintro ⟨a6, c7, a11, c12, b15, c16, b18⟩ ρ σm hJ hoff hdep
    have e0 := look_off (N := 26) (hoff 0 rfl) rfl
    exact dp_v (v := (pt br_0 or_0)) wn (rv_move e0) rfl hJ) ?_
  refine all_cons (by
    refine ⟨?_, ?_⟩
    ·rintro ⟨a6, c7, a11, c12, b15, c16, b18⟩ ρ σm hJ hoff hdep
     have e7 : look 26 ρ 7 = (pt br_0 or_0) := hdep 2 rfl rfl 7 rfl
     obtain ⟨H, m⟩ := id hJ
     refine dp_cx wn (cx_call (hc10 a6 c7) (ent_f (hc10 a6 c7).fn (by show [look 26 ρ 7] = _; rw [e7])) hn0 (show Hp S0 σ0 _ ([Ch.bx lor_0 br_0 or_0 [(Sl a6 r3.2.1 c7), (I r3.2.2.1), (er 72 ga r3.2.2.2)] prer_0 sufr_0, Ch.ro 0 (Sl a6 r3.2.1 c7) r3.2.1, Ch.gl 72 ga [1, 2, 0]] ++ [Ch.ro 0 (Sl a6 r3.2.1 c7) r3.2.1, Ch.bx n0 b1 0 [(I 0), (.slice none 0 0), (I 0)] [] [], Ch.ro 0 (Sl ar_0_0 r_0.1 cr_0_0) r_0.1, Ch.gl 72 ga [1, 2, 0]]) from (H.sel' [0, 1, 4, 1, 2, 3, 4] rfl rfl))) ?_
     rintro _ σq ⟨_, ⟨a11x, c12x, rfl, rfl⟩, H2, m2⟩
     exact ⟨_, (a6, c7, a11x, c12x, b15, c16, b18), rfl, rfl, ⟨H2.sel' [0, 1, 2, 3, 4, 5] rfl rfl, m.comp m2⟩, stab [0, 1, 2, 4, 6] (by kernel_rfl) ⟨rfl, rfl, rfl, rfl, rfl, trivial⟩⟩
    refine ⟨?_, ?_⟩
    ·rintro ⟨a6, c7, a11, c12, b15, c16, b18⟩ ρ σm hJ hoff hdep
     have e7 : look 26 ρ 7 = (pt br_0 or_0) := hdep 2 rfl rfl 7 rfl
     obtain ⟨H, m⟩ := id hJ
     refine dp_cx wn (cx_call (hc10 a6 c7) (ent_f (hc10 a6 c7).fn (by show [look 26 ρ 7] = _; rw [e7])) hn0 (show Hp S0 σ0 _ ([Ch.bx lor_0 br_0 or_0 [(Sl a6 r3.2.1 c7), (I r3.2.2.1), (er 72 ga r3.2.2.2)] prer_0 sufr_0, Ch.ro 0 (Sl a6 r3.2.1 c7) r3.2.1, Ch.gl 72 ga [1, 2, 0]] ++ [Ch.own n0 n0 (Sl (some ⟨b15, 0, none⟩) xs13 c16) xs13, Ch.ro 0 (Sl a6 r3.2.1 c7) r3.2.1, Ch.bx n0 b1 0 [(I 0), (.slice none 0 0), (I 0)] [] [], Ch.ro 0 (Sl ar_0_0 r_0.1 cr_0_0) r_0.1, Ch.gl 72 ga [1, 2, 0]]) from (H.sel' [1, 2, 5, 0, 2, 3, 4, 5] rfl rfl))) ?_
     rintro _ σq ⟨_, ⟨a11x, c12x, rfl, rfl⟩, H2, m2⟩
     exact ⟨_, (a6, c7, a11x, c12x, b15, c16, b18), rfl, rfl, ⟨H2.sel' [2, 0, 1, 3, 4, 5, 6] rfl rfl, m.comp m2⟩, stab [0, 1, 2, 4, 6] (by kernel_rfl) ⟨rfl, rfl, rfl, rfl, rfl, trivial⟩⟩
    refine ⟨?_, ?_⟩
    ·rintro ⟨a6, c7, a11, c12, b15, c16, b18⟩ ρ σm hJ hoff hdep
     have e7 : look 26 ρ 7 = (pt br_0 or_0) := hdep 2 rfl rfl 7 rfl
     obtain ⟨H, m⟩ := id hJ
     refine dp_cx wn (cx_call (hc10 a6 c7) (ent_f (hc10 a6 c7).fn (by show [look 26 ρ 7] = _; rw [e7])) hn0 (show Hp S0 σ0 _ ([Ch.bx lor_0 br_0 or_0 [(Sl a6 r3.2.1 c7), (I r3.2.2.1), (er 72 ga r3.2.2.2)] prer_0 sufr_0, Ch.ro 0 (Sl a6 r3.2.1 c7) r3.2.1, Ch.gl 72 ga [1, 2, 0]] ++ [Ch.bx n0 b18 0 [(I 0), (.slice none 0 0), (I 0)] [] [], Ch.ro 0 (Sl a6 r3.2.1 c7) r3.2.1, Ch.bx n0 b1 0 [(I 0), (.slice none 0 0), (I 0)] [] [], Ch.ro 0 (Sl ar_0_0 r_0.1 cr_0_0) r_0.1, Ch.gl 72 ga [1, 2, 0]]) from (H.sel' [1, 2, 5, 0, 2, 3, 4, 5] rfl rfl))) ?_
     rintro _ σq ⟨_, ⟨a11x, c12x, rfl, rfl⟩, H2, m2⟩
     exact ⟨_, (a6, c7, a11x, c12x, b15, c16, b18), rfl, rfl, ⟨H2.sel' [2, 0, 1, 3, 4, 5, 6] rfl rfl, m.comp m2⟩, stab [0, 1, 2, 4, 6] (by kernel_rfl) ⟨rfl, rfl, rfl, rfl, rfl, trivial⟩⟩
    refine ⟨?_, ?_⟩
    ·rintro ⟨a6, c7, a11, c12, b15, c16, b18⟩ ρ σm hJ hoff hdep
     have e7 : look 26 ρ 7 = (pt br_0 or_0) := hdep 2 rfl rfl 7 rfl
     obtain ⟨H, m⟩ := id hJ
     refine dp_cx wn (cx_call (hc10 a6 c7) (ent_f (hc10 a6 c7).fn (by show [look 26 ρ 7] = _; rw [e7])) hn0 (show Hp S0 σ0 _ ([Ch.bx lor_0 br_0 or_0 [(Sl a6 r3.2.1 c7), (I r3.2.2.1), (er 72 ga r3.2.2.2)] prer_0 sufr_0, Ch.ro 0 (Sl a6 r3.2.1 c7) r3.2.1, Ch.gl 72 ga [1, 2, 0]] ++ [Ch.bx n0 b18 0 [(I 0), (.slice none 0 0), (I 0)] [] [], Ch.own n0 n0 (Sl (some ⟨b15, 0, none⟩) xs13 c16) xs13, Ch.ro 0 (Sl a6 r3.2.1 c7) r3.2.1, Ch.bx n0 b1 0 [(I 0), (.slice none 0 0), (I 0)] [] [], Ch.ro 0 (Sl ar_0_0 r_0.1 cr_0_0) r_0.1, Ch.gl 72 ga [1, 2, 0]]) from (H.sel' [2, 3, 6, 0, 1, 3, 4, 5, 6] rfl rfl))) ?_
     rintro _ σq ⟨_, ⟨a11x, c12x, rfl, rfl⟩, H2, m2⟩
     exact ⟨_, (a6, c7, a11x, c12x, b15, c16, b18), rfl, rfl, ⟨H2.sel' [2, 3, 0, 1, 4, 5, 6, 7] rfl rfl, m.comp m2⟩, stab [0, 1, 2, 4, 6] (by kernel_rfl) ⟨rfl, rfl, rfl, rfl, rfl, trivial⟩⟩
    trivial) ?_
  refine all_cons (by
    refine ⟨?_, ?_⟩
    ·rintro ⟨a6, c7, a11, c12, b15, c16, b18⟩ ρ σm hJ hoff hdep
     obtain ⟨H, m⟩ := id hJ
     refine dp_ex wn (ex_make (el := n0) (z0 := (0 : Int)) (zs := [(I 0)]) H hn0 Tryd.underlying39 ti3 rfl rfl rfl (by decide) hx14 rfl rfl) ?_
     rintro _ σq ⟨b15x, c16x, rfl, -, H2, m2⟩
     exact ⟨_, (a6, c7, a11, c12, b15x, c16x, b18), rfl, rfl, ⟨H2.sel' [0, 1, 2, 3, 4] rfl rfl, m.comp0 m2⟩, stab [0, 1, 2, 3, 6] (by kernel_rfl) ⟨rfl, rfl, rfl, rfl, rfl, trivial⟩⟩
    refine ⟨?_, ?_⟩
    ·rintro ⟨a6, c7, a11, c12, b15, c16, b18⟩ ρ σm hJ hoff hdep
     obtain ⟨H, m⟩ := id hJ
     refine dp_ex wn (ex_make (el := n0) (z0 := (0 : Int)) (zs := [(I 0)]) H hn0 Tryd.underlying39 ti3 rfl rfl rfl (by decide) hx14 rfl rfl) ?_
     rintro _ σq ⟨b15x, c16x, rfl, -, H2, m2⟩
     exact ⟨_, (a6, c7, a11, c12, b15x, c16x, b18), rfl, rfl, ⟨H2.sel' [0, 1, 2, 3, 4, 5] rfl rfl, m.comp0 m2⟩, stab [0, 1, 2, 3, 6] (by kernel_rfl) ⟨rfl, rfl, rfl, rfl, rfl, trivial⟩⟩
    refine ⟨?_, ?_⟩
    ·rintro ⟨a6, c7, a11, c12, b15, c16, b18⟩ ρ σm hJ hoff hdep
     obtain ⟨H, m⟩ := id hJ
     refine dp_ex wn (ex_make (el := n0) (z0 := (0 : Int)) (zs := [(I 0)]) H hn0 Tryd.underlying39 ti3 rfl rfl rfl (by decide) hx14 rfl rfl) ?_
     rintro _ σq ⟨b15x, c16x, rfl, -, H2, m2⟩
     exact ⟨_, (a6, c7, a11, c12, b15x, c16x, b18), rfl, rfl, ⟨H2.sel' [1, 0, 2, 3, 4, 5] rfl rfl, m.comp0 m2⟩, stab [0, 1, 2, 3, 6] (by kernel_rfl) ⟨rfl, rfl, rfl, rfl, rfl, trivial⟩⟩
    refine ⟨?_, ?_⟩
    ·rintro ⟨a6, c7, a11, c12, b15, c16, b18⟩ ρ σm hJ hoff hdep
     obtain ⟨H, m⟩ := id hJ
     refine dp_ex wn (ex_make (el := n0) (z0 := (0 : Int)) (zs := [(I 0)]) H hn0 Tryd.underlying39 ti3 rfl rfl rfl (by decide) hx14 rfl rfl) ?_
     rintro _ σq ⟨b15x, c16x, rfl, -, H2, m2⟩
     exact ⟨_, (a6, c7, a11, c12, b15x, c16x, b18), rfl, rfl, ⟨H2.sel' [0, 1, 2, 3, 4, 5, 6] rfl rfl, m.comp0 m2⟩, stab [0, 1, 2, 3, 6] (by kernel_rfl) ⟨rfl, rfl, rfl, rfl, rfl, trivial⟩⟩
    refine ⟨?_, ?_⟩
    ·rintro ⟨a6, c7, a11, c12, b15, c16, b18⟩ ρ σm hJ hoff hdep
     obtain ⟨H, m⟩ := id hJ
     refine dp_ex wn (ex_make (el := n0) (z0 := (0 : Int)) (zs := [(I 0)]) H hn0 Tryd.underlying39 ti3 rfl rfl rfl (by decide) hx14 rfl rfl) ?_
     rintro _ σq ⟨b15x, c16x, rfl, -, H2, m2⟩
     exact ⟨_, (a6, c7, a11, c12, b15x, c16x, b18), rfl, rfl, ⟨H2.sel' [1, 0, 2, 3, 4, 5, 6] rfl rfl, m.comp0 m2⟩, stab [0, 1, 2, 3, 6] (by kernel_rfl) ⟨rfl, rfl, rfl, rfl, rfl, trivial⟩⟩
    refine ⟨?_, ?_⟩
    ·rintro ⟨a6, c7, a11, c12, b15, c16, b18⟩ ρ σm hJ hoff hdep
     obtain ⟨H, m⟩ := id hJ
     refine dp_ex wn (ex_make (el := n0) (z0 := (0 : Int)) (zs := [(I 0)]) H hn0 Tryd.underlying39 ti3 rfl rfl rfl (by decide) hx14 rfl rfl) ?_
     rintro _ σq ⟨b15x, c16x, rfl, -, H2, m2⟩
     exact ⟨_, (a6, c7, a11, c12, b15x, c16x, b18), rfl, rfl, ⟨H2.sel' [1, 0, 2, 3, 4, 5, 6, 7] rfl rfl, m.comp0 m2⟩, stab [0, 1, 2, 3, 6] (by kernel_rfl) ⟨rfl, rfl, rfl, rfl, rfl, trivial⟩⟩
    trivial) ?_
  refine ac rfl (by
    intro k; rintro ⟨a6, c7, a11, c12, b15, c16, b18⟩ ρ σm hJ hoff hdep
    have e6 : look 26 ρ 6 = (I r3.1) := hdep 1 rfl rfl 6 rfl
    have e8 : look 26 ρ 8 = (I r8.1) := hdep 3 rfl rfl 8 rfl
    have e9 : look 26 ρ 9 = (Sl (some ⟨b15, 0, none⟩) xs13 c16) := hdep 4 rfl rfl 9 rfl
    exact dp_v (v := (.agg #[(I r3.1), (Sl (some ⟨b15, 0, none⟩) xs13 c16), (I r8.1)])) wn (rv_build (ps := [(0, (I r3.1)), (2, (I r8.1)), (1, (Sl (some ⟨b15, 0, none⟩) xs13 c16))]) Tryd.underlying41 ti41 (bp41 Tryd.underlying41) (by show [(0, look 26 ρ 6), (2, look 26 ρ 8), (1, look 26 ρ 9)] = _; rw [e6, e8, e9]) (by kernel_rfl)) rfl hJ) ?_
  refine all_cons (by
    refine ⟨?_, ?_⟩
    ·rintro ⟨a6, c7, a11, c12, b15, c16, b18⟩ ρ σm hJ hoff hdep
     obtain ⟨H, m⟩ := id hJ
     refine dp_ex wn (ex_alloc (cs := [(I 0), (.slice none 0 0), (I 0)]) H hn0 ti41 rfl) ?_
     rintro _ σq ⟨b18x, rfl, H2, m2⟩
     exact ⟨_, (a6, c7, a11, c12, b15, c16, b18x), rfl, rfl, ⟨H2.sel' [0, 1, 2, 3, 4] rfl rfl, m.comp0 m2⟩, stab [0, 1, 2, 3, 4, 5] (by kernel_rfl) ⟨rfl, rfl, rfl, rfl, rfl, rfl, trivial⟩⟩
    refine ⟨?_, ?_⟩
    ·rintro ⟨a6, c7, a11, c12, b15, c16, b18⟩ ρ σm hJ hoff hdep
     obtain ⟨H, m⟩ := id hJ
     refine dp_ex wn (ex_alloc (cs := [(I 0), (.slice none 0 0), (I 0)]) H hn0 ti41 rfl) ?_
     rintro _ σq ⟨b18x, rfl, H2, m2⟩
     exact ⟨_, (a6, c7, a11, c12, b15, c16, b18x), rfl, rfl, ⟨H2.sel' [0, 1, 2, 3, 4, 5] rfl rfl, m.comp0 m2⟩, stab [0, 1, 2, 3, 4, 5] (by kernel_rfl) ⟨rfl, rfl, rfl, rfl, rfl, rfl, trivial⟩⟩
    refine ⟨?_, ?_⟩
    ·rintro ⟨a6, c7, a11, c12, b15, c16, b18⟩ ρ σm hJ hoff hdep
     obtain ⟨H, m⟩ := id hJ
     refine dp_ex wn (ex_alloc (cs := [(I 0), (.slice none 0 0), (I 0)]) H hn0 ti41 rfl) ?_
     rintro _ σq ⟨b18x, rfl, H2, m2⟩
     exact ⟨_, (a6, c7, a11, c12, b15, c16, b18x), rfl, rfl, ⟨H2.sel' [0, 1, 2, 3, 4, 5] rfl rfl, m.comp0 m2⟩, stab [0, 1, 2, 3, 4, 5] (by kernel_rfl) ⟨rfl, rfl, rfl, rfl, rfl, rfl, trivial⟩⟩
    refine ⟨?_, ?_⟩
    ·rintro ⟨a6, c7, a11, c12, b15, c16, b18⟩ ρ σm hJ hoff hdep
     obtain ⟨H, m⟩ := id hJ
     refine dp_ex wn (ex_alloc (cs := [(I 0), (.slice none 0 0), (I 0)]) H hn0 ti41 rfl) ?_
     rintro _ σq ⟨b18x, rfl, H2, m2⟩
     exact ⟨_, (a6, c7, a11, c12, b15, c16, b18x), rfl, rfl, ⟨H2.sel' [0, 1, 2, 3, 4, 5, 6] rfl rfl, m.comp0 m2⟩, stab [0, 1, 2, 3, 4, 5] (by kernel_rfl) ⟨rfl, rfl, rfl, rfl, rfl, rfl, trivial⟩⟩
    refine ⟨?_, ?_⟩
    ·rintro ⟨a6, c7, a11, c12, b15, c16, b18⟩ ρ σm hJ hoff hdep
     obtain ⟨H, m⟩ := id hJ
     refine dp_ex wn (ex_alloc (cs := [(I 0), (.slice none 0 0), (I 0)]) H hn0 ti41 rfl) ?_
     rintro _ σq ⟨b18x, rfl, H2, m2⟩
     exact ⟨_, (a6, c7, a11, c12, b15, c16, b18x), rfl, rfl, ⟨H2.sel' [0, 1, 2, 3, 4, 5, 6] rfl rfl, m.comp0 m2⟩, stab [0, 1, 2, 3, 4, 5] (by kernel_rfl) ⟨rfl, rfl, rfl, rfl, rfl, rfl, trivial⟩⟩
    refine ⟨?_, ?_⟩
    ·rintro ⟨a6, c7, a11, c12, b15, c16, b18⟩ ρ σm hJ hoff hdep
     obtain ⟨H, m⟩ := id hJ
     refine dp_ex wn (ex_alloc (cs := [(I 0), (.slice none 0 0), (I 0)]) H hn0 ti41 rfl) ?_
     rintro _ σq ⟨b18x, rfl, H2, m2⟩
     exact ⟨_, (a6, c7, a11, c12, b15, c16, b18x), rfl, rfl, ⟨H2.sel' [0, 1, 2, 3, 4, 5, 6, 7] rfl rfl, m.comp0 m2⟩, stab [0, 1, 2, 3, 4, 5] (by kernel_rfl) ⟨rfl, rfl, rfl, rfl, rfl, rfl, trivial⟩⟩
    trivial) ?_
  exact all_nil
 ·rintro ⟨a6, c7, a11, c12, b15, c16, b18⟩ ρ σ19 hJ hoff hrel
  have e0 := look_off (N := 26) (hoff 0 rfl) rfl
  have e2 := look_off (N := 26) (hoff 2 rfl) rfl
  have e3 := hrel 6 rfl 3 rfl
  have e10 := hrel 5 rfl 10 rfl
  obtain ⟨H, -⟩ := (show Hp S0 σ0 σ19 [Ch.bx n0 b18 0 [(I 0), (.slice none 0 0), (I 0)] [] [], Ch.own n0 n0 (Sl (some ⟨b15, 0, none⟩) xs13 c16) xs13, Ch.bx lor_0 br_0 or_0 [(Sl a11 r8.2.1 c12), (I r8.2.2.1), (er 72 ga r8.2.2.2)] prer_0 sufr_0, Ch.ro 0 (Sl a11 r8.2.1 c12) r8.2.1, Ch.ro 0 (Sl a6 r3.2.1 c7) r3.2.1, Ch.bx n0 b1 0 [(I 0), (.slice none 0 0), (I 0)] [] [], Ch.ro 0 (Sl ar_0_0 r_0.1 cr_0_0) r_0.1, Ch.gl 72 ga [1, 2, 0]] ∧ Md (fun i => (fun i => (cov []) i ∨ (cov [Ch.bx lor_0 br_0 or_0 [(Sl ar_0_0 r_0.1 cr_0_0), (I r_0.2.1), (er 72 ga r_0.2.2)] prer_0 sufr_0, Ch.ro 0 (Sl ar_0_0 r_0.1 cr_0_0) r_0.1, Ch.gl 72 ga [1, 2, 0]]) i) i ∨ (cov [Ch.bx lor_0 br_0 or_0 [(Sl a6 r3.2.1 c7), (I r3.2.2.1), (er 72 ga r3.2.2.2)] prer_0 sufr_0, Ch.ro 0 (Sl a6 r3.2.1 c7) r3.2.1, Ch.gl 72 ga [1, 2, 0]]) i) σ2 σ19 from hJ)
  clear hJ Hs
  rw [fr_lookL (L := [(0, (pt br_0 or_0)), (2, (pt b1 0)), (3, (pt b18 0)), (10, (.agg #[(I r3.1), (Sl (some ⟨b15, 0, none⟩) xs13 c16), (I r8.1)]))]) ⟨e0, e2, e3, e10, trivial⟩]
  clear hoff hrel e0 e2 e3 e10
  refine st_exS (ex_store_box (k := 0) (cs := [(I 0), (.slice none 0 0), (I 0)]) (vs := [(I r3.1), (Sl (some ⟨b15, 0, none⟩) xs13 c16), (I r8.1)]) (cs' := [(I r3.1), (Sl (some ⟨b15, 0, none⟩) xs13 c16), (I r8.1)]) H (i := 0) rfl ti41 rfl rfl rfl rfl rfl (Nat.le_of_ble_eq_true rfl) (by simp [plain]) rfl) wn ?_
  rintro σ20 ⟨H, -⟩
  replace H : Hp S0 σ0 σ20 [Ch.bx n0 b18 0 [(I r3.1), (Sl (some ⟨b15, 0, none⟩) xs13 c16), (I r8.1)] [] [], Ch.own n0 n0 (Sl (some ⟨b15, 0, none⟩) xs13 c16) xs13, Ch.bx lor_0 br_0 or_0 [(Sl a11 r8.2.1 c12), (I r8.2.2.1), (er 72 ga r8.2.2.2)] prer_0 sufr_0, Ch.ro 0 (Sl a11 r8.2.1 c12) r8.2.1, Ch.bx n0 b1 0 [(I 0), (.slice none 0 0), (I 0)] [] [], Ch.gl 72 ga [1, 2, 0]] := H.sel' [0, 1, 2, 3, 5, 7] rfl rfl
  refine w_end ?_
  refine q_then ?_
  refine c_seq ?_
  refine c_seq ?_
  refine rg ?_
  refine st (v := (pt b18 1)) (rv_fieldAddr (off := 1) (ft := 39) Tryd.underlying41 rfl ti39 rfl rfl) ?_
  have hc21 := H.cell (u := (Sl (some ⟨b15, 0, none⟩) xs13 c16)) (o' := 1) 0 1 rfl rfl rfl
  refine st (v := (Sl (some ⟨b15, 0, none⟩) xs13 c16)) (rv_load1 Tryd.underlying39 rfl rfl hc21) ?_
  refine st (v := (I (xs13.length : Int))) (rv_len Tryd.underlying39 rfl) ?_
  refine st (v := (I 0)) (rv_move rfl) ?_
  refine w_end ?_
  refine q_then ?_
  obtain ⟨o22, hj, h'⟩ := bind_some h
  clear h
  refine c_cut (fun e a w => e = .normal ∧ ∃ (ρ : Nat → Value) (σ : St) (aj1 : Option Addr) (cj2 : Nat) (aj3 : Option Addr) (cj4 : Nat), a = fr 26 (updL ρ [(0, (pt br_0 or_0)), (2, (pt b1 0)), (3, (pt b18 0))]) ∧ w = σ.w ∧ Hp S0 σ0 σ [Ch.bx lor_0 br_0 or_0 [(Sl aj1 o22.1.1 cj2), (I o22.1.2.1), (er 72 ga o22.1.2.2)] prer_0 sufr_0, Ch.ro 0 (Sl aj1 o22.1.1 cj2) o22.1.1, Ch.bx n0 b18 0 [(I o22.2.1), (Sl aj3 o22.2.2.1 cj4), (I o22.2.2.2)] [] [], Ch.own n0 n0 (Sl aj3 o22.2.2.1 cj4) o22.2.2.1, Ch.bx n0 b1 0 [(I 0), (.slice none 0 0), (I 0)] [] [], Ch.gl 72 ga [1, 2, 0]]) ?_ ?_
  ·clear h'
   rename _ = some o22 => h
   refine c_blk ?_
   refine wp_loopM _ h (fun s23 a w => ∃ (ρ : Nat → Value) (σ : St) (aj1 : Option Addr) (cj2 : Nat) (aj3 : Option Addr) (cj4 : Nat), a = fr 26 (updL ρ [(0, (pt br_0 or_0)), (2, (pt b1 0)), (3, (pt b18 0)), (13, (I (xs13.length : Int))), (14, (I s23.2.2))]) ∧ w = σ.w ∧ Hp S0 σ0 σ [Ch.bx lor_0 br_0 or_0 [(Sl aj1 s23.1.1 cj2), (I s23.1.2.1), (er 72 ga s23.1.2.2)] prer_0 sufr_0, Ch.ro 0 (Sl aj1 s23.1.1 cj2) s23.1.1, Ch.bx n0 b18 0 [(I s23.2.1.1), (Sl aj3 s23.2.1.2.1 cj4), (I s23.2.1.2.2)] [] [], Ch.own n0 n0 (Sl aj3 s23.2.1.2.1 cj4) s23.2.1.2.1, Ch.bx n0 b1 0 [(I 0), (.slice none 0 0), (I 0)] [] [], Ch.gl 72 ga [1, 2, 0]]) ⟨_, σ20, a11, c12, (some ⟨b15, 0, none⟩), c16, fr_join ⟨rfl, rfl, rfl, rfl, rfl, trivial⟩, rfl, H.sel' [2, 3, 0, 1, 4, 5] rfl rfl⟩ ?_
   clear h H
   rintro s23 a w o ⟨ρ, σ24, a25, c26, a27, c28, rfl, rfl, H⟩ h hres
   refine c_seq ?_
   refine rg ?_
   refine st (v := (B (decide (s23.2.2 < (xs13.length : Int))))) (rv_lss (a := s23.2.2) (b := (xs13.length : Int)) rfl rfl) ?_
   refine w_end ?_
   refine q_then ?_
   refine c_seq ?_
   refine cd_cond (decide (s23.2.2 < (xs13.length : Int))) rfl (fun hb29 => ?_) (fun hb29 => ?_)
   ·replace h := bif_t hb29 h
    refine c_skip ?_
    refine q_then ?_
    refine c_seq ?_
    refine c_blk ?_
    refine c_seq ?_
    refine rg ?_
    refine st (v := (I s23.2.2)) (rv_move rfl) ?_
    refine st (v := (I s23.2.2)) (rv_assign rfl) ?_
    refine w_end ?_
    refine q_then ?_
    have hc30 := H.cell (u := (Sl a27 s23.2.1.2.1 c28)) (o' := 1) 2 1 rfl rfl rfl
    obtain ⟨r31, hx32, h'⟩ := bind_some h
    clear h
    have h := h'; clear h'
    have hc33 := c_impl_pageReader_next (lor_0 := lor_0) (br_0 := br_0) (or_0 := or_0) (prer_0 := prer_0) (sufr_0 := sufr_0) (ar_0_0 := a25) (cr_0_0 := c26) (ga := ga) hx32
    have Hs := H
    refine rg2 (σ := σ24) (Nm := (Option Addr) × (Nat)) 6 [4] [[false], [true]] [[(0, 0), (1, 1)], [(0, 0), (1, 1)], [(0, 0), (1, 1)], [(0, 0)], [(0, 1)], [(1, 1)]] 1 [fun ((a34, c35) : (Option Addr) × (Nat)) => fun σm => Hp S0 σ0 σm [Ch.bx lor_0 br_0 or_0 [(Sl a25 s23.1.1 c26), (I s23.1.2.1), (er 72 ga s23.1.2.2)] prer_0 sufr_0, Ch.ro 0 (Sl a25 s23.1.1 c26) s23.1.1, Ch.bx n0 b18 0 [(I s23.2.1.1), (Sl a27 s23.2.1.2.1 c28), (I s23.2.1.2.2)] [] [], Ch.own n0 n0 (Sl a27 s23.2.1.2.1 c28) s23.2.1.2.1, Ch.bx n0 b1 0 [(I 0), (.slice none 0 0), (I 0)] [] [], Ch.gl 72 ga [1, 2, 0]] ∧ Md (cov []) σ24 σm, fun ((a34, c35) : (Option Addr) × (Nat)) => fun σm => Hp S0 σ0 σm [Ch.bx lor_0 br_0 or_0 [(Sl a34 r31.2.1 c35), (I r31.2.2.1), (er 72 ga r31.2.2.2)] prer_0 sufr_0, Ch.ro 0 (Sl a34 r31.2.1 c35) r31.2.1, Ch.ro 0 (Sl a25 s23.1.1 c26) s23.1.1, Ch.bx n0 b18 0 [(I s23.2.1.1), (Sl a27 s23.2.1.2.1 c28), (I s23.2.1.2.2)] [] [], Ch.own n0 n0 (Sl a27 s23.2.1.2.1 c28) s23.2.1.2.1, Ch.bx n0 b1 0 [(I 0), (.slice none 0 0), (I 0)] [] [], Ch.gl 72 ga [1, 2, 0]] ∧ Md (fun i => (cov []) i ∨ (cov [Ch.bx lor_0 br_0 or_0 [(Sl a25 s23.1.1 c26), (I s23.1.2.1), (er 72 ga s23.1.2.2)] prer_0 sufr_0, Ch.ro 0 (Sl a25 s23.1.1 c26) s23.1.1, Ch.gl 72 ga [1, 2, 0]]) i) σ24 σm] [fun ((a34, c35) : (Option Addr) × (Nat)) => (pt b18 1), fun ((a34, c35) : (Option Addr) × (Nat)) => (Sl a27 s23.2.1.2.1 c28), fun ((a34, c35) : (Option Addr) × (Nat)) => (I s23.2.2), fun ((a34, c35) : (Option Addr) × (Nat)) => (pt br_0 or_0), fun ((a34, c35) : (Option Addr) × (Nat)) => (I r31.1), fun ((a34, c35) : (Option Addr) × (Nat)) => (I (w64 (r31.1 - 128)))] (none, 0) (by kernel_rfl) (by kernel_rfl) ?_ ?_ ?_
    ·intro σm m0
     exact ⟨H.grow (m0.mono fun _ h => h.elim), m0⟩
    ·refine ac rfl (by
       intro k; rintro ⟨a34, c35⟩ ρ σm hJ hoff hdep
       have e3 := look_off (N := 26) (hoff 3 rfl) rfl
       exact dp_v (v := (pt b18 1)) wn (rv_fieldAddr (off := 1) (ft := 39) Tryd.underlying41 rfl ti39 rfl e3) rfl hJ) ?_
     refine all_cons (by
       refine ⟨?_, ?_⟩
       ·rintro ⟨a34, c35⟩ ρ σm hJ hoff hdep
        have e17 := hdep 0 rfl rfl 17 rfl
        obtain ⟨H, m⟩ := id hJ
        have hc30 := H.cell (u := (Sl a27 s23.2.1.2.1 c28)) (o' := 1) 2 1 rfl rfl rfl
        exact dp_v (v := (Sl a27 s23.2.1.2.1 c28)) wn (rv_load1 Tryd.underlying39 rfl e17 hc30) rfl hJ
       refine ⟨?_, ?_⟩
       ·rintro ⟨a34, c35⟩ ρ σm hJ hoff hdep
        have e17 := hdep 0 rfl rfl 17 rfl
        obtain ⟨H, m⟩ := id hJ
        have hc30 := H.cell (u := (Sl a27 s23.2.1.2.1 c28)) (o' := 1) 3 1 rfl rfl rfl
        exact dp_v (v := (Sl a27 s23.2.1.2.1 c28)) wn (rv_load1 Tryd.underlying39 rfl e17 hc30) rfl hJ
       trivial) ?_
     refine ac rfl (by
       intro k; rintro ⟨a34, c35⟩ ρ σm hJ hoff hdep
       have e4 := look_off (N := 26) (hoff 4 rfl) rfl
       exact dp_v (v := (I s23.2.2)) wn (rv_move e4) rfl hJ) ?_
     refine ac rfl (by
       intro k; rintro ⟨a34, c35⟩ ρ σm hJ hoff hdep
       have e0 := look_off (N := 26) (hoff 0 rfl) rfl
       exact dp_v (v := (pt br_0 or_0)) wn (rv_move e0) rfl hJ) ?_
     refine all_cons (by
       refine ⟨?_, ?_⟩
       ·rintro ⟨a34, c35⟩ ρ σm hJ hoff hdep
        have e20 : look 26 ρ 20 = (pt br_0 or_0) := hdep 3 rfl rfl 20 rfl
        obtain ⟨H, m⟩ := id hJ
        refine dp_cx wn (cx_call hc33 (ent_f hc33.fn (by show [look 26 ρ 20] = _; rw [e20])) hn0 (show Hp S0 σ0 _ ([Ch.bx lor_0 br_0 or_0 [(Sl a25 s23.1.1 c26), (I s23.1.2.1), (er 72 ga s23.1.2.2)] prer_0 sufr_0, Ch.ro 0 (Sl a25 s23.1.1 c26) s23.1.1, Ch.gl 72 ga [1, 2, 0]] ++ [Ch.ro 0 (Sl a25 s23.1.1 c26) s23.1.1, Ch.bx n0 b18 0 [(I s23.2.1.1), (Sl a27 s23.2.1.2.1 c28), (I s23.2.1.2.2)] [] [], Ch.own n0 n0 (Sl a27 s23.2.1.2.1 c28) s23.2.1.2.1, Ch.bx n0 b1 0 [(I 0), (.slice none 0 0), (I 0)] [] [], Ch.gl 72 ga [1, 2, 0]]) from (H.sel' [0, 1, 5, 1, 2, 3, 4, 5] rfl rfl))) ?_
        rintro _ σq ⟨_, ⟨a34x, c35x, rfl, rfl⟩, H2, m2⟩
        exact ⟨_, (a34x, c35x), rfl, rfl, ⟨H2.sel' [0, 1, 2, 3, 4, 5, 6] rfl rfl, m.comp m2⟩, stab [0, 1, 2, 3] (by kernel_rfl) ⟨rfl, rfl, rfl, rfl, trivial⟩⟩
       trivial) ?_
     refine ac rfl (by
       intro k; rintro ⟨a34, c35⟩ ρ σm hJ hoff hdep
       have e21 := hdep 4 rfl rfl 21 rfl
       exact dp_v (v := (I (w64 (r31.1 - 128)))) wn (rv_sub (a := r31.1) (b := 128) e21 rfl) rfl hJ) ?_
     exact all_nil
    ·rintro ⟨a34, c35⟩ ρ σ36 hJ hoff hrel
     have e0 := look_off (N := 26) (hoff 0 rfl) rfl
     have e2 := look_off (N := 26) (hoff 2 rfl) rfl
     have e3 := look_off (N := 26) (hoff 3 rfl) rfl
     have e13 := look_off (N := 26) (hoff 13 rfl) rfl
     have e14 := look_off (N := 26) (hoff 14 rfl) rfl
     have e18 := hrel 1 rfl 18 rfl
     have e19 := hrel 2 rfl 19 rfl
     have e22 := hrel 5 rfl 22 rfl
     obtain ⟨H, -⟩ := (show Hp S0 σ0 σ36 [Ch.bx lor_0 br_0 or_0 [(Sl a34 r31.2.1 c35), (I r31.2.2.1), (er 72 ga r31.2.2.2)] prer_0 sufr_0, Ch.ro 0 (Sl a34 r31.2.1 c35) r31.2.1, Ch.ro 0 (Sl a25 s23.1.1 c26) s23.1.1, Ch.bx n0 b18 0 [(I s23.2.1.1), (Sl a27 s23.2.1.2.1 c28), (I s23.2.1.2.2)] [] [], Ch.own n0 n0 (Sl a27 s23.2.1.2.1 c28) s23.2.1.2.1, Ch.bx n0 b1 0 [(I 0), (.slice none 0 0), (I 0)] [] [], Ch.gl 72 ga [1, 2, 0]] ∧ Md (fun i => (cov []) i ∨ (cov [Ch.bx lor_0 br_0 or_0 [(Sl a25 s23.1.1 c26), (I s23.1.2.1), (er 72 ga s23.1.2.2)] prer_0 sufr_0, Ch.ro 0 (Sl a25 s23.1.1 c26) s23.1.1, Ch.gl 72 ga [1, 2, 0]]) i) σ24 σ36 from hJ)
     clear hJ Hs
     rw [fr_lookL (L := [(0, (pt br_0 or_0)), (2, (pt b1 0)), (3, (pt b18 0)), (13, (I (xs13.length : Int))), (14, (I s23.2.2)), (18, (Sl a27 s23.2.1.2.1 c28)), (19, (I s23.2.2)), (22, (I (w64 (r31.1 - 128))))]) ⟨e0, e2, e3, e13, e14, e18, e19, e22, trivial⟩]
     clear hoff hrel e0 e2 e3 e13 e14 e18 e19 e22
     obtain ⟨x37, hx38, h'⟩ := bind_some h
     clear h
     have h := h'; clear h'
     obtain ⟨b40, o41, hi39, -⟩ := (H.own 4 rfl).ix hx38
     refine st (v := (pt b40 o41)) (rv_ix Tryd.underlying39 ti3 rfl rfl hi39) ?_
     refine st_exS (ex_store_own (e' := (w64 (r31.1 - 128))) (vs := [(I (w64 (r31.1 - 128)))]) (k := 0) H (i := 4) rfl ti3 hx38 hi39 rfl rfl rfl rfl rfl (Nat.le_of_ble_eq_true rfl) (by simp [plain]) (by rintro _ rfl; exact rfl)) wn ?_
     rintro σ42 ⟨H, -⟩
     have hsl : (Sl a27 s23.2.1.2.1 c28) = (Sl a27 (s23.2.1.2.1.set s23.2.2.toNat (w64 (r31.1 - 128))) c28) := sl_len List.length_set.symm
     rw [hsl]; rw [hsl] at H; clear hsl
     refine w_end ?_
     refine q_blk ?_
     refine q_then ?_
     refine rg ?_
     refine st (v := (I (w64 (s23.2.2 + 1)))) (rv_add (a := s23.2.2) (b := 1) rfl rfl) ?_
     refine st (v := (I (w64 (s23.2.2 + 1)))) (rv_move rfl) ?_
     refine w_end ?_
     refine q_then ?_
     obtain rfl := Option.some.inj h
     exact ⟨_, rfl, _, σ42, a34, c35, a27, c28, fr_join ⟨rfl, rfl, rfl, rfl, rfl, trivial⟩, rfl, H.sel' [1, 2, 4, 0, 5, 6] rfl rfl⟩
   ·replace h := bif_f hb29 h
    refine c_exit ?_
    refine q_then_x ?_
    refine q_then_x ?_
    refine q_blk_hit ?_
    obtain rfl := Option.some.inj h
    obtain rfl := hres _ rfl
    exact ⟨rfl, _, σ24, a25, c26, a27, c28, fr_join ⟨rfl, rfl, rfl, trivial⟩, rfl, H.sel' [0, 1, 2, 3, 4, 5] rfl rfl⟩
  ·clear hj
   have h := h'
   clear h' H
   rintro e a w ⟨rfl, ρ, σ43, a44, c45, a46, c47, rfl, rfl, H⟩
   refine q_then ?_
   refine c_seq ?_
   refine rg ?_
   have hc48 := H.cells 2 rfl
   refine st (v := (.agg #[(I o22.2.1), (Sl a46 o22.2.2.1 c47), (I o22.2.2.2)])) (rv_load (cs := [(I o22.2.1), (Sl a46 o22.2.2.1 c47), (I o22.2.2.2)]) Tryd.underlying41 rfl ti41 rfl rfl hc48) ?_
   refine st_exS (ex_store_box (k := 0) (cs := [(I 0), (.slice none 0 0), (I 0)]) (vs := [(I o22.2.1), (Sl a46 o22.2.2.1 c47), (I o22.2.2.2)]) (cs' := [(I o22.2.1), (Sl a46 o22.2.2.1 c47), (I o22.2.2.2)]) H (i := 4) rfl ti41 rfl rfl rfl rfl rfl (Nat.le_of_ble_eq_true rfl) (by simp [plain]) rfl) wn ?_
   rintro σ49 ⟨H, -⟩
   refine w_end ?_
   refine q_then ?_
   refine c_ret ?_
   obtain rfl := Option.some.inj h
   exact fin_ret (v := (.agg #[(I o22.2.1), (Sl a46 o22.2.2.1 c47), (I o22.2.2.2)])) (results_ok Tryd.results37 (res_cell rfl (run_cellRes (cs := [(I o22.2.1), (Sl a46 o22.2.2.1 c47), (I o22.2.2.2)]) Tryd.underlying41 rfl ti41 rfl (H.cells 0 rfl)) res_nil) rfl) ⟨a46, c47, a44, c45, rfl, rfl⟩ (H.sel' [4, 1, 2] rfl rfl)

theorem c_impl_pageReader_items {r_0 : (List UInt8) × Int × Int} {ar_0_0 : Option Addr} {cr_0_0 : Nat} {lor_0 br_0 or_0 : Nat} {prer_0 sufr_0 : List Value} {ga : Nat → Addr} {r : (List (Int × (List Int) × Int)) × ((List UInt8) × Int × Int)} (h : M.impl_pageReader_items r_0 = some r) :
    Cal2 Tryd.prog 25 [(pt br_0 or_0)] [Ch.bx lor_0 br_0 or_0 [(Sl ar_0_0 r_0.1 cr_0_0), (I r_0.2.1), (er 72 ga r_0.2.2)] prer_0 sufr_0, Ch.ro 0 (Sl ar_0_0 r_0.1 cr_0_0) r_0.1, Ch.gl 72 ga [1, 2, 0]] (fun n0 v L => ∃ (az1 : Option Addr), ∃ (cz2 : Nat), ∃ (Kz3 : List Ch), ∃ (az5 : Option Addr), ∃ (cz6 : Nat), v = (Sl az1 r.1 cz2) ∧ L = [Ch.big Kz3, Ch.bx lor_0 br_0 or_0 [(Sl az5 r.2.1 cz6), (I r.2.2.1), (er 72 ga r.2.2.2)] prer_0 sufr_0, Ch.ro 0 (Sl az5 r.2.1 cz6) r.2.1] ∧ Dp 0 (Sl az1 r.1 cz2) r.1 Kz3) := by
 refine cal2 (n := 15) Tryd.func25 rfl rfl rfl rfl ?_
 intro S0 σ0 n0 hn0 H
 unfold M.impl_pageReader_items at h
 refine c_seq ?_
 refine rg ?_
 refine st (v := (.slice none 0 0)) (rv_assign rfl) ?_
 refine w_end ?_
 refine q_then ?_
 refine c_seq ?_
 refine rg ?_
 refine st (v := (.slice none 0 0)) (rv_assign rfl) ?_
 refine w_end ?_
 refine q_then ?_
 refine c_seq ?_
 refine c_seq ?_
 refine rg ?_
 refine st (v := (pt br_0 or_0)) (rv_move rfl) ?_
 obtain ⟨r1, hx2, h'⟩ := bind_some h
 clear h
 have h := h'; clear h'
 have hc3 := c_impl_pageReader_next (lor_0 := lor_0) (br_0 := br_0) (or_0 := or_0) (prer_0 := prer_0) (sufr_0 := sufr_0) (ar_0_0 := ar_0_0) (cr_0_0 := cr_0_0) (ga := ga) hx2
 refine st_call (cx_call hc3 (ent_f hc3.fn rfl) hn0 (show Hp S0 σ0 _ ([Ch.bx lor_0 br_0 or_0 [(Sl ar_0_0 r_0.1 cr_0_0), (I r_0.2.1), (er 72 ga r_0.2.2)] prer_0 sufr_0, Ch.ro 0 (Sl ar_0_0 r_0.1 cr_0_0) r_0.1, Ch.gl 72 ga [1, 2, 0]] ++ [Ch.ro 0 (Sl ar_0_0 r_0.1 cr_0_0) r_0.1, Ch.gl 72 ga [1, 2, 0]]) from (H.sel' [0, 1, 2, 1, 2] rfl rfl))) wn ?_
 rintro _ σ6 ⟨_, ⟨a4, c5, rfl, rfl⟩, H, -⟩
 replace H : Hp S0 σ0 σ6 [Ch.bx lor_0 br_0 or_0 [(Sl a4 r1.2.1 c5), (I r1.2.2.1), (er 72 ga r1.2.2.2)] prer_0 sufr_0, Ch.ro 0 (Sl a4 r1.2.1 c5) r1.2.1, Ch.ro 0 (Sl ar_0_0 r_0.1 cr_0_0) r_0.1, Ch.gl 72 ga [1, 2, 0]] := H
 refine st (v := (I 0)) (rv_move rfl) ?_
 refine w_end ?_
 refine q_then ?_
 obtain ⟨o7, hj, h'⟩ := bind_some h
 clear h
 refine c_cut (fun e a w => e = .normal ∧ ∃ (ρ : Nat → Value) (σ : St) (aj1 : Option Addr) (cj2 : Nat) (aj3 : Option Addr) (cj4 : Nat) (Kj5 : List Ch), a = fr 15 (updL ρ [(0, (pt br_0 or_0)), (3, (Sl aj3 o7.2 cj4))]) ∧ w = σ.w ∧ Hp S0 σ0 σ [Ch.bx lor_0 br_0 or_0 [(Sl aj1 o7.1.1 cj2), (I o7.1.2.1), (er 72 ga o7.1.2.2)] prer_0 sufr_0, Ch.ro 0 (Sl aj1 o7.1.1 cj2) o7.1.1, Ch.big Kj5, Ch.gl 72 ga [1, 2, 0]] ∧ Dp n0 (Sl aj3 o7.2 cj4) o7.2 Kj5) ?_ ?_
 ·clear h'
  rename _ = some o7 => h
  refine c_blk ?_
  obtain ⟨K9, hK10, H⟩ := H.nilDp (Int × (List Int) × Int) n0
  refine wp_loopM _ h (fun s8 a w => ∃ (ρ : Nat → Value) (σ : St) (aj1 : Option Addr) (cj2 : Nat) (aj3 : Option Addr) (cj4 : Nat) (Kj5 : List Ch), a = fr 15 (updL ρ [(0, (pt br_0 or_0)), (3, (Sl aj3 s8.2.1 cj4)), (5, (I r1.1)), (6, (I s8.2.2))]) ∧ w = σ.w ∧ Hp S0 σ0 σ [Ch.bx lor_0 br_0 or_0 [(Sl aj1 s8.1.1 cj2), (I s8.1.2.1), (er 72 ga s8.1.2.2)] prer_0 sufr_0, Ch.ro 0 (Sl aj1 s8.1.1 cj2) s8.1.1, Ch.big Kj5, Ch.gl 72 ga [1, 2, 0]] ∧ Dp n0 (Sl aj3 s8.2.1 cj4) s8.2.1 Kj5) ⟨_, σ6, a4, c5, none, 0, K9, fr_join ⟨rfl, rfl, rfl, rfl, trivial⟩, rfl, H.sel' [1, 2, 0, 4] rfl rfl, hK10⟩ ?_
  clear h H
  rintro s8 a w o ⟨ρ, σ11, a12, c13, a14, c15, K16, rfl, rfl, H, hK17⟩ h hres
  refine c_seq ?_
  refine rg ?_
  refine st (v := (B (decide (s8.2.2 < r1.1)))) (rv_lss (a := s8.2.2) (b := r1.1) rfl rfl) ?_
  refine w_end ?_
  refine q_then ?_
  refine c_seq ?_
  refine cd_cond (decide (s8.2.2 < r1.1)) rfl (fun hb18 => ?_) (fun hb18 => ?_)
  ·replace h := bif_t hb18 h
   refine c_skip ?_
   refine q_then ?_
   refine c_seq ?_
   refine c_blk ?_
   refine rg ?_
   refine st (v := (Sl a14 s8.2.1 c15)) (rv_move rfl) ?_
   refine st (v := (pt br_0 or_0)) (rv_move rfl) ?_
   obtain ⟨r19, hx20, h'⟩ := bind_some h
   clear h
   have h := h'; clear h'
   have hc21 := c_impl_pageReader_item (lor_0 := lor_0) (br_0 := br_0) (or_0 := or_0) (prer_0 := prer_0) (sufr_0 := sufr_0) (ar_0_0 := a12) (cr_0_0 := c13) (ga := ga) hx20
   refine st_call (cx_call hc21 (ent_f hc21.fn rfl) hn0 (show Hp S0 σ0 _ ([Ch.bx lor_0 br_0 or_0 [(Sl a12 s8.1.1 c13), (I s8.1.2.1), (er 72 ga s8.1.2.2)] prer_0 sufr_0, Ch.ro 0 (Sl a12 s8.1.1 c13) s8.1.1, Ch.gl 72 ga [1, 2, 0]] ++ [Ch.ro 0 (Sl a12 s8.1.1 c13) s8.1.1, Ch.big K16, Ch.gl 72 ga [1, 2, 0]]) from (H.sel' [0, 1, 3, 1, 2, 3] rfl rfl))) wn ?_
   rintro _ σ26 ⟨_, ⟨a22, c23, a24, c25, rfl, rfl⟩, H, -⟩
   replace H : Hp S0 σ0 σ26 [Ch.own n0 n0 (Sl a22 r19.1.2.1 c23) r19.1.2.1, Ch.bx lor_0 br_0 or_0 [(Sl a24 r19.2.1 c25), (I r19.2.2.1), (er 72 ga r19.2.2.2)] prer_0 sufr_0, Ch.ro 0 (Sl a24 r19.2.1 c25) r19.2.1, Ch.ro 0 (Sl a12 s8.1.1 c13) s8.1.1, Ch.big K16, Ch.gl 72 ga [1, 2, 0]] := H
   refine st_ex (ex_buildSlice (el := n0) (xs := ([(r19.1.1, (Sl a22 r19.1.2.1 c23), r19.1.2.2)] : List (Int × Value × Int))) (ps := [(0, (.agg #[(I r19.1.1), (Sl a22 r19.1.2.1 c23), (I r19.1.2.2)]))]) (cs := [(I r19.1.1), (Sl a22 r19.1.2.1 c23), (I r19.1.2.2)]) H hn0 Tryd.underlying23 ti41 rfl rfl (by kernel_rfl) (.cons (c := [(I r19.1.1), (Sl a22 r19.1.2.1 c23), (I r19.1.2.2)]) ⟨[(I r19.1.1)], [(Sl a22 r19.1.2.1 c23), (I r19.1.2.2)], rfl, rfl, ⟨[(Sl a22 r19.1.2.1 c23)], [(I r19.1.2.2)], rfl, ⟨rfl, rfl⟩, rfl⟩⟩ .nil) rfl) wn ?_
   rintro _ σ28 ⟨b27, rfl, H, -⟩
   replace H := H.sel' [5, 1, 0, 2, 3, 4, 6] rfl rfl
   obtain ⟨xs31, hx32, h'⟩ := bind_some h
   clear h
   have h := h'; clear h'
   refine st_ex (ex_dpApp (e := (r19.1.1, r19.1.2.1, r19.1.2.2)) H hK17 Tryd.underlying23 Tryd.underlying23 ti41 rfl rfl (by decide) (H.own 2 rfl).rd hx32 hn0 rfl rfl) wn ?_
   rintro _ σ37 ⟨a33, c34, K35, rfl, hK36, H, -⟩
   refine st (v := (Sl a33 xs31 c34)) (rv_assign rfl) ?_
   refine w_end ?_
   refine q_blk ?_
   refine q_then ?_
   refine rg ?_
   refine st (v := (I (w64 (s8.2.2 + 1)))) (rv_add (a := s8.2.2) (b := 1) rfl rfl) ?_
   refine st (v := (I (w64 (s8.2.2 + 1)))) (rv_move rfl) ?_
   refine w_end ?_
   refine q_then ?_
   obtain rfl := Option.some.inj h
   exact ⟨_, rfl, _, σ37, a24, c25, a33, c34, K35, fr_join ⟨rfl, rfl, rfl, rfl, trivial⟩, rfl, H.sel' [2, 3, 0, 5] rfl rfl, hK36⟩
  ·replace h := bif_f hb18 h
   refine c_exit ?_
   refine q_then_x ?_
   refine q_then_x ?_
   refine q_blk_hit ?_
   obtain rfl := Option.some.inj h
   obtain rfl := hres _ rfl
   exact ⟨rfl, _, σ11, a12, c13, a14, c15, K16, fr_join ⟨rfl, rfl, trivial⟩, rfl, H.sel' [0, 1, 2, 3] rfl rfl, hK17⟩
 ·clear hj
  have h := h'
  clear h' H
  rintro e a w ⟨rfl, ρ, σ38, a39, c40, a41, c42, K43, rfl, rfl, H, hK44⟩
  refine q_then ?_
  refine c_seq ?_
  refine rg ?_
  refine st (v := (Sl a41 o7.2 c42)) (rv_move rfl) ?_
  refine st (v := (Sl a41 o7.2 c42)) (rv_assign rfl) ?_
  refine w_end ?_
  refine q_then ?_
  refine c_ret ?_
  obtain ⟨K45, hK46, H⟩ := H.dpLow (lo' := 0) 2 rfl hK44 (Nat.zero_le _)
  obtain rfl := Option.some.inj h
  exact fin_ret (v := (Sl a41 o7.2 c42)) (results_ok Tryd.results25 (res_tmp (v := (Sl a41 o7.2 c42)) rfl res_nil) rfl) ⟨a41, c42, K45, a39, c40, rfl, rfl, hK46⟩ (H.sel' [0, 1, 2] rfl rfl)

theorem c_impl_CheckOf {b_0 : List UInt8} {ab_0 : Option Addr} {cb_0 : Nat} {r : Int} (h : M.impl_CheckOf b_0 = some r) :
    Cal2 Tryd.prog 11 [(Sl ab_0 b_0 cb_0)] [Ch.ro 0 (Sl ab_0 b_0 cb_0) b_0] (fun n0 v L => v = (I r) ∧ L = []) := by
 refine cal2 (n := 23) Tryd.func11 rfl rfl rfl rfl ?_
 intro S0 σ0 n0 hn0 H
 unfold M.impl_CheckOf at h
 refine c_seq ?_
 refine rg ?_
 refine st (v := (I 0)) (rv_assign rfl) ?_
 refine w_end ?_
 refine q_then ?_
 refine c_seq ?_
 refine c_seq ?_
 refine rg ?_
 refine st (v := (Sl ab_0 b_0 cb_0)) (rv_move rfl) ?_
 refine st (v := (I (b_0.length : Int))) (rv_len Tryd.underlying22 rfl) ?_
 refine st (v := (B (decide (200 < (b_0.length : Int))))) (rv_gtr (a := (b_0.length : Int)) (b := 200) rfl rfl) ?_
 refine w_end ?_
 refine q_then ?_
 refine cd_cond (decide (200 < (b_0.length : Int))) rfl (fun hb1 => ?_) (fun hb1 => ?_)
 ·replace h := bif_t hb1 h
  refine c_seq ?_
  refine rg ?_
  refine st (v := (I (-1))) (rv_assign rfl) ?_
  refine w_end ?_
  refine q_then ?_
  refine c_ret ?_
  refine q_then_r ?_
  obtain rfl := Option.some.inj h
  exact fin_ret (v := (I (-1))) (results_ok Tryd.results11 (res_tmp (v := (I (-1))) rfl res_nil) rfl) ⟨rfl, rfl⟩ (H.sel' [] rfl rfl)
 ·replace h := bif_f hb1 h
  refine c_skip ?_
  refine q_then ?_
  refine c_seq ?_
  refine rg ?_
  refine st (v := (I 1)) (rv_assign rfl) ?_
  refine w_end ?_
  refine q_then ?_
  refine c_seq ?_
  refine c_seq ?_
  refine rg ?_
  refine st (v := (Sl ab_0 b_0 cb_0)) (rv_move rfl) ?_
  refine st (v := (I (b_0.length : Int))) (rv_len Tryd.underlying22 rfl) ?_
  refine st (v := (I 0)) (rv_move rfl) ?_
  refine w_end ?_
  refine q_then ?_
  obtain ⟨o2, hj, h'⟩ := bind_some h
  clear h
  refine c_cut (fun e a w => e = .normal ∧ ∃ (ρ : Nat → Value) (σ : St), a = fr 23 (updL ρ [(3, (I o2))]) ∧ w = σ.w ∧ Hp S0 σ0 σ []) ?_ ?_
  ·clear h'
   rename _ = some o2 => h
   refine c_blk ?_
   refine wp_loopM _ h (fun s3 a w => ∃ (ρ : Nat → Value) (σ : St), a = fr 23 (updL ρ [(3, (I s3.1)), (9, (Sl ab_0 b_0 cb_0)), (10, (I (b_0.length : Int))), (11, (I s3.2))]) ∧ w = σ.w ∧ Hp S0 σ0 σ [Ch.ro 0 (Sl ab_0 b_0 cb_0) b_0]) ⟨_, σ0, fr_join ⟨rfl, rfl, rfl, rfl, trivial⟩, rfl, H.sel' [0] rfl rfl⟩ ?_
   clear h H
   rintro s3 a w o ⟨ρ, σ4, rfl, rfl, H⟩ h hres
   refine c_seq ?_
   refine rg ?_
   refine st (v := (B (decide (s3.2 < (b_0.length : Int))))) (rv_lss (a := s3.2) (b := (b_0.length : Int)) rfl rfl) ?_
   refine w_end ?_
   refine q_then ?_
   refine c_seq ?_
   refine cd_cond (decide (s3.2 < (b_0.length : Int))) rfl (fun hb5 => ?_) (fun hb5 => ?_)
   ·replace h := bif_t hb5 h
    refine c_skip ?_
    refine q_then ?_
    refine c_seq ?_
    refine c_blk ?_
    refine c_seq ?_
    refine rg ?_
    obtain ⟨x6, hx7, h'⟩ := bind_some h
    clear h
    have h := h'; clear h'
    obtain ⟨b9, o10, hi8, -⟩ := (H.ro 0 rfl).ix hx7
    refine st (v := (pt b9 o10)) (rv_ix Tryd.underlying22 ti5 rfl rfl hi8) ?_
    have hc11 := ((H.ro 0 rfl).at hx7 hi8).byte
    refine st (v := (.int .u8 (x6.toNat : Int))) (rv_load1 Tryd.underlying5 rfl rfl hc11) ?_
    refine st (v := (.int .u8 (x6.toNat : Int))) (rv_assign rfl) ?_
    refine w_end ?_
    refine q_then ?_
    refine rg ?_
    refine st (v := (I s3.1)) (rv_move rfl) ?_
    refine st (v := (I (w64 (31 * s3.1)))) (rv_mul (a := 31) (b := s3.1) rfl rfl) ?_
    refine st (v := (.int .u8 (x6.toNat : Int))) (rv_move rfl) ?_
    refine st (v := (I (w64 (x6.toNat : Int)))) (rv_conv Tryd.underlying5 Tryd.underlying3 rfl) ?_
    refine st (v := (I (w64 ((w64 (31 * s3.1)) + (w64 (x6.toNat : Int)))))) (rv_add (a := (w64 (31 * s3.1))) (b := (w64 (x6.toNat : Int))) rfl rfl) ?_
    refine st (v := (I ((w64 ((w64 (31 * s3.1)) + (w64 (x6.toNat : Int)))).tmod 251))) (rv_rem (a := (w64 ((w64 (31 * s3.1)) + (w64 (x6.toNat : Int))))) (b := 251) rfl rfl (by decide)) ?_
    refine st (v := (I ((w64 ((w64 (31 * s3.1)) + (w64 (x6.toNat : Int)))).tmod 251))) (rv_assign rfl) ?_
    refine w_end ?_
    refine q_blk ?_
    refine q_then ?_
    refine rg ?_
    refine st (v := (I (w64 (s3.2 + 1)))) (rv_add (a := s3.2) (b := 1) rfl rfl) ?_
    refine st (v := (I (w64 (s3.2 + 1)))) (rv_move rfl) ?_
    refine w_end ?_
    refine q_then ?_
    obtain rfl := Option.some.inj h
    exact ⟨_, rfl, _, σ4, fr_join ⟨rfl, rfl, rfl, rfl, trivial⟩, rfl, H.sel' [0] rfl rfl⟩
   ·replace h := bif_f hb5 h
    refine c_exit ?_
    refine q_then_x ?_
    refine q_then_x ?_
    refine q_blk_hit ?_
    obtain rfl := Option.some.inj h
    obtain rfl := hres _ rfl
    exact ⟨rfl, _, σ4, fr_join ⟨rfl, trivial⟩, rfl, H.sel' [] rfl rfl⟩
  ·clear hj
   have h := h'
   clear h' H
   rintro e a w ⟨rfl, ρ, σ12, rfl, rfl, H⟩
   refine q_then ?_
   refine c_seq ?_
   refine rg ?_
   refine st (v := (I o2)) (rv_move rfl) ?_
   refine st (v := (I o2)) (rv_assign rfl) ?_
   refine w_end ?_
   refine q_then ?_
   refine c_ret ?_
   obtain rfl := Option.some.inj h
   exact fin_ret (v := (I o2)) (results_ok Tryd.results11 (res_tmp (v := (I o2)) rfl res_nil) rfl) ⟨rfl, rfl⟩ (H.sel' [] rfl rfl)

theorem c_impl_pageReader_end {r_0 : (List UInt8) × Int × Int} {ar_0_0 : Option Addr} {cr_0_0 : Nat} {lor_0 br_0 or_0 : Nat} {prer_0 sufr_0 : List Value} {ga : Nat → Addr} {r : ((List UInt8) × Int × Int)} (h : M.impl_pageReader_end r_0 = some r) :
    Cal2 Tryd.prog 26 [(pt br_0 or_0)] [Ch.bx lor_0 br_0 or_0 [(Sl ar_0_0 r_0.1 cr_0_0), (I r_0.2.1), (er 72 ga r_0.2.2)] prer_0 sufr_0, Ch.ro 0 (Sl ar_0_0 r_0.1 cr_0_0) r_0.1, Ch.gl 72 ga [1, 2, 0]] (fun n0 v L => ∃ (az1 : Option Addr), ∃ (cz2 : Nat), v = (.tuple #[]) ∧ L = [Ch.bx lor_0 br_0 or_0 [(Sl az1 r.1 cz2), (I r.2.1), (er 72 ga r.2.2)] prer_0 sufr_0, Ch.ro 0 (Sl az1 r.1 cz2) r.1]) := by
 refine cal2 (n := 33) Tryd.func26 rfl rfl rfl rfl ?_
 intro S0 σ0 n0 hn0 H
 unfold M.impl_pageReader_end at h
 refine c_seq ?_
 refine rgP (σ := σ0) 8 (by kernel_rfl) (by kernel_rfl) (by kernel_rfl) ?_
 refine sq (v := (pt br_0 or_0)) (rv_move rfl) ?_
 refine sq (v := (pt br_0 or_0)) (rv_nilCheck rfl) ?_
 refine sq (v := (pt br_0 or_0)) (rv_fieldAddr (off := 0) (ft := 22) Tryd.underlying46 rfl ti22 rfl rfl) ?_
 have hc1 := H.cell (u := (Sl ar_0_0 r_0.1 cr_0_0)) (o' := or_0) 0 0 rfl rfl rfl
 refine sq (v := (Sl ar_0_0 r_0.1 cr_0_0)) (rv_load1 Tryd.underlying22 rfl rfl hc1) ?_
 refine sq (v := (pt br_0 or_0)) (rv_move rfl) ?_
 refine sq (v := (pt br_0 or_0)) (rv_nilCheck rfl) ?_
 refine sq (v := (pt br_0 (or_0 + 1))) (rv_fieldAddr (off := 1) (ft := 3) Tryd.underlying46 rfl ti3 rfl rfl) ?_
 have hc2 := H.cell (u := (I r_0.2.1)) (o' := (or_0 + 1)) 0 1 rfl rfl rfl
 refine sq (v := (I r_0.2.1)) (rv_load1 Tryd.underlying3 rfl rfl hc2) ?_
 refine sq_end ?_
 intro σ3 hm4
 replace H := H.grow (hm4.mono fun _ h => h); clear hm4
 obtain ⟨xs5, hx6, h'⟩ := bind_some h
 clear h
 have h := h'; clear h'
 obtain ⟨a7, c8, hs9, hR10⟩ := (H.ro 1 rfl).slice hx6
 replace H := H.add (d := Ch.ro 0 (Sl a7 xs5 c8) xs5) hR10 (fun _ h => h)
 clear hR10
 refine st (v := (Sl a7 xs5 c8)) (rv_slice_h Tryd.underlying22 ti5 hs9 rfl rfl) ?_
 obtain ⟨r11, hx12, h'⟩ := bind_some h
 clear h
 have h := h'; clear h'
 have hc13 := c_impl_CheckOf (ab_0 := a7) (cb_0 := c8) hx12
 refine st_call (cx_call hc13 (ent_f hc13.fn rfl) hn0 (show Hp S0 σ0 _ ([Ch.ro 0 (Sl a7 xs5 c8) xs5] ++ [Ch.ro 0 (Sl a7 xs5 c8) xs5, Ch.bx lor_0 br_0 or_0 [(Sl ar_0_0 r_0.1 cr_0_0), (I r_0.2.1), (er 72 ga r_0.2.2)] prer_0 sufr_0, Ch.ro 0 (Sl ar_0_0 r_0.1 cr_0_0) r_0.1, Ch.gl 72 ga [1, 2, 0]]) from (H.sel' [0, 0, 1, 2, 3] rfl rfl))) wn ?_
 rintro _ σ14 ⟨_, ⟨rfl, rfl⟩, H, -⟩
 replace H : Hp S0 σ0 σ14 [Ch.ro 0 (Sl a7 xs5 c8) xs5, Ch.bx lor_0 br_0 or_0 [(Sl ar_0_0 r_0.1 cr_0_0), (I r_0.2.1), (er 72 ga r_0.2.2)] prer_0 sufr_0, Ch.ro 0 (Sl ar_0_0 r_0.1 cr_0_0) r_0.1, Ch.gl 72 ga [1, 2, 0]] := H
 refine st (v := (I r11)) (rv_assign rfl) ?_
 refine w_end ?_
 refine q_then ?_
 refine c_seq ?_
 refine c_seq ?_
 refine rg ?_
 refine st (v := (pt br_0 or_0)) (rv_move rfl) ?_
 obtain ⟨r15, hx16, h'⟩ := bind_some h
 clear h
 have h := h'; clear h'
 have hc17 := c_impl_pageReader_next (lor_0 := lor_0) (br_0 := br_0) (or_0 := or_0) (prer_0 := prer_0) (sufr_0 := sufr_0) (ar_0_0 := ar_0_0) (cr_0_0 := cr_0_0) (ga := ga) hx16
 refine st_call (cx_call hc17 (ent_f hc17.fn rfl) hn0 (show Hp S0 σ0 _ ([Ch.bx lor_0 br_0 or_0 [(Sl ar_0_0 r_0.1 cr_0_0), (I r_0.2.1), (er 72 ga r_0.2.2)] prer_0 sufr_0, Ch.ro 0 (Sl ar_0_0 r_0.1 cr_0_0) r_0.1, Ch.gl 72 ga [1, 2, 0]] ++ [Ch.ro 0 (Sl a7 xs5 c8) xs5, Ch.ro 0 (Sl ar_0_0 r_0.1 cr_0_0) r_0.1, Ch.gl 72 ga [1, 2, 0]]) from (H.sel' [1, 2, 3, 0, 2, 3] rfl rfl))) wn ?_
 rintro _ σ20 ⟨_, ⟨a18, c19, rfl, rfl⟩, H, -⟩
 replace H : Hp S0 σ0 σ20 [Ch.bx lor_0 br_0 or_0 [(Sl a18 r15.2.1 c19), (I r15.2.2.1), (er 72 ga r15.2.2.2)] prer_0 sufr_0, Ch.ro 0 (Sl a18 r15.2.1 c19) r15.2.1, Ch.ro 0 (Sl a7 xs5 c8) xs5, Ch.ro 0 (Sl ar_0_0 r_0.1 cr_0_0) r_0.1, Ch.gl 72 ga [1, 2, 0]] := H
 refine st (v := (I r11)) (rv_move rfl) ?_
 refine st (v := (B (r15.1 != r11))) (rv_neq (a := r15.1) (b := r11) rfl rfl) ?_
 refine w_end ?_
 refine q_then ?_
 obtain ⟨o21, hj, h'⟩ := bind_some h
 clear h
 refine c_cut (fun e a w => e = .normal ∧ ∃ (ρ : Nat → Value) (σ : St) (aj1 : Option Addr) (cj2 : Nat), a = fr 33 (updL ρ [(0, (pt br_0 or_0))]) ∧ w = σ.w ∧ Hp S0 σ0 σ [Ch.bx lor_0 br_0 or_0 [(Sl aj1 o21.1 cj2), (I o21.2.1), (er 72 ga o21.2.2)] prer_0 sufr_0, Ch.ro 0 (Sl aj1 o21.1 cj2) o21.1, Ch.gl 72 ga [1, 2, 0]]) ?_ ?_
 ·clear h'
  rename _ = some o21 => h
  refine cd_cond (r15.1 != r11) rfl (fun hb22 => ?_) (fun hb22 => ?_)
  ·replace h := bif_t hb22 h
   refine rg ?_
   refine st (v := (pt br_0 or_0)) (rv_move rfl) ?_
   have hc23 := gl_cell (H.gl 4 rfl) 2 0 3 rfl rfl
   refine st (v := (er 72 ga 3)) (rv_loadG Tryd.underlying44 hc23) ?_
   obtain ⟨r24, hx25, h'⟩ := bind_some h
   clear h
   have h := h'; clear h'
   have hc26 := c_impl_pageReader_fail (lor_0 := lor_0) (br_0 := br_0) (or_0 := or_0) (prer_0 := prer_0) (sufr_0 := sufr_0) (ar_0_0 := a18) (cr_0_0 := c19) (ga := ga) hx25
   refine st_call (cx_call hc26 (ent_f hc26.fn rfl) hn0 (show Hp S0 σ0 _ ([Ch.bx lor_0 br_0 or_0 [(Sl a18 r15.2.1 c19), (I r15.2.2.1), (er 72 ga r15.2.2.2)] prer_0 sufr_0, Ch.ro 0 (Sl a18 r15.2.1 c19) r15.2.1, Ch.gl 72 ga [1, 2, 0]] ++ [Ch.ro 0 (Sl a18 r15.2.1 c19) r15.2.1, Ch.ro 0 (Sl a7 xs5 c8) xs5, Ch.ro 0 (Sl ar_0_0 r_0.1 cr_0_0) r_0.1, Ch.gl 72 ga [1, 2, 0]]) from (H.sel' [0, 1, 4, 1, 2, 3, 4] rfl rfl))) wn ?_
   rintro _ σ29 ⟨_, ⟨a27, c28, rfl, rfl⟩, H, -⟩
   replace H : Hp S0 σ0 σ29 [Ch.bx lor_0 br_0 or_0 [(Sl a27 r24.1 c28), (I r24.2.1), (er 72 ga r24.2.2)] prer_0 sufr_0, Ch.ro 0 (Sl a27 r24.1 c28) r24.1, Ch.ro 0 (Sl a18 r15.2.1 c19) r15.2.1, Ch.ro 0 (Sl a7 xs5 c8) xs5, Ch.ro 0 (Sl ar_0_0 r_0.1 cr_0_0) r_0.1, Ch.gl 72 ga [1, 2, 0]] := H
   refine w_end ?_
   obtain rfl := Option.some.inj h
   exact ⟨rfl, _, σ29, a27, c28, fr_join ⟨rfl, trivial⟩, rfl, H.sel' [0, 1, 5] rfl rfl⟩
  ·replace h := bif_f hb22 h
   refine c_skip ?_
   obtain rfl := Option.some.inj h
   exact ⟨rfl, _, σ20, a18, c19, fr_join ⟨rfl, trivial⟩, rfl, H.sel' [0, 1, 4] rfl rfl⟩
 ·clear hj
  have h := h'
  clear h' H
  rintro e a w ⟨rfl, ρ, σ30, a31, c32, rfl, rfl, H⟩
  refine q_then ?_
  refine c_seq ?_
  refine rgP (σ := σ30) 9 (by kernel_rfl) (by kernel_rfl) (by kernel_rfl) ?_
  refine sq (v := (pt br_0 or_0)) (rv_move rfl) ?_
  refine sq (v := (pt br_0 or_0)) (rv_nilCheck rfl) ?_
  refine sq (v := (pt br_0 (or_0 + 1))) (rv_fieldAddr (off := 1) (ft := 3) Tryd.underlying46 rfl ti3 rfl rfl) ?_
  have hc33 := H.cell (u := (I o21.2.1)) (o' := (or_0 + 1)) 0 1 rfl rfl rfl
  refine sq (v := (I o21.2.1)) (rv_load1 Tryd.underlying3 rfl rfl hc33) ?_
  refine sq (v := (pt br_0 or_0)) (rv_move rfl) ?_
  refine sq (v := (pt br_0 or_0)) (rv_nilCheck rfl) ?_
  refine sq (v := (pt br_0 or_0)) (rv_fieldAddr (off := 0) (ft := 22) Tryd.underlying46 rfl ti22 rfl rfl) ?_
  have hc34 := H.cell (u := (Sl a31 o21.1 c32)) (o' := or_0) 0 0 rfl rfl rfl
  refine sq (v := (Sl a31 o21.1 c32)) (rv_load1 Tryd.underlying22 rfl rfl hc34) ?_
  refine sq (v := (I (o21.1.length : Int))) (rv_len Tryd.underlying22 rfl) ?_
  refine sq_end ?_
  intro σ35 hm36
  replace H := H.grow (hm36.mono fun _ h => h); clear hm36
  refine st (v := (B (decide (o21.2.1 < (o21.1.length : Int))))) (rv_lss (a := o21.2.1) (b := (o21.1.length : Int)) rfl rfl) ?_
  refine w_end ?_
  refine q_then ?_
  refine cd_cond (decide (o21.2.1 < (o21.1.length : Int))) rfl (fun hb37 => ?_) (fun hb37 => ?_)
  ·replace h := bif_t hb37 h
   refine rg ?_
   refine st (v := (pt br_0 or_0)) (rv_move rfl) ?_
   have hc38 := gl_cell (H.gl 2 rfl) 0 1 1 rfl rfl
   refine st (v := (er 72 ga 1)) (rv_loadG Tryd.underlying44 hc38) ?_
   obtain ⟨r39, hx40, h'⟩ := bind_some h
   clear h
   have h := h'; clear h'
   have hc41 := c_impl_pageReader_fail (lor_0 := lor_0) (br_0 := br_0) (or_0 := or_0) (prer_0 := prer_0) (sufr_0 := sufr_0) (ar_0_0 := a31) (cr_0_0 := c32) (ga := ga) hx40
   refine st_call (cx_call hc41 (ent_f hc41.fn rfl) hn0 (show Hp S0 σ0 _ ([Ch.bx lor_0 br_0 or_0 [(Sl a31 o21.1 c32), (I o21.2.1), (er 72 ga o21.2.2)] prer_0 sufr_0, Ch.ro 0 (Sl a31 o21.1 c32) o21.1, Ch.gl 72 ga [1, 2, 0]] ++ [Ch.ro 0 (Sl a31 o21.1 c32) o21.1, Ch.gl 72 ga [1, 2, 0]]) from (H.sel' [0, 1, 2, 1, 2] rfl rfl))) wn ?_
   rintro _ σ44 ⟨_, ⟨a42, c43, rfl, rfl⟩, H, -⟩
   replace H : Hp S0 σ0 σ44 [Ch.bx lor_0 br_0 or_0 [(Sl a42 r39.1 c43), (I r39.2.1), (er 72 ga r39.2.2)] prer_0 sufr_0, Ch.ro 0 (Sl a42 r39.1 c43) r39.1, Ch.ro 0 (Sl a31 o21.1 c32) o21.1, Ch.gl 72 ga [1, 2, 0]] := H
   refine w_end ?_
   obtain rfl := Option.some.inj h
   exact fin_end (v := (.tuple #[])) (results_ok Tryd.results26 res_nil rfl) ⟨a42, c43, rfl, rfl⟩ (H.sel' [0, 1] rfl rfl)
  ·replace h := bif_f hb37 h
   refine c_skip ?_
   obtain rfl := Option.some.inj h
   exact fin_end (v := (.tuple #[])) (results_ok Tryd.results26 res_nil rfl) ⟨a31, c32, rfl, rfl⟩ (H.sel' [0, 1] rfl rfl)

theorem c_impl_ParsePage {b_0 : List UInt8} {ab_0 : Option Addr} {cb_0 : Nat} {ga : Nat → Addr} {r : (List (Int × (List Int) × Int)) × Bool} (h : M.impl_ParsePage b_0 = some r) :
    Cal2 Tryd.prog 10 [(Sl ab_0 b_0 cb_0)] [Ch.ro 0 (Sl ab_0 b_0 cb_0) b_0, Ch.gl 72 ga [1, 2, 0]] (fun n0 v L => ∃ (az1 : Option Addr), ∃ (cz2 : Nat), ∃ (Kz3 : List Ch), v = (.tuple #[(Sl az1 r.1 cz2), (B r.2)]) ∧ L = [Ch.big Kz3] ∧ Dp 0 (Sl az1 r.1 cz2) r.1 Kz3) := by
 refine cal2 (n := 19) Tryd.func10 rfl rfl rfl rfl ?_
 intro S0 σ0 n0 hn0 H
 unfold M.impl_ParsePage at h
 refine c_seq ?_
 refine rg ?_
 refine st (v := (.slice none 0 0)) (rv_assign rfl) ?_
 refine st (v := (B false)) (rv_assign rfl) ?_
 refine w_end ?_
 refine q_then ?_
 refine c_seq ?_
 refine rg ?_
 refine st (v := (Sl ab_0 b_0 cb_0)) (rv_move rfl) ?_
 refine st (v := (.agg #[(Sl ab_0 b_0 cb_0), (I 0), (er 72 ga 0)])) (rv_build (ps := [(0, (Sl ab_0 b_0 cb_0))]) Tryd.underlying46 ti46 (bp46 Tryd.underlying46) rfl (by kernel_rfl)) ?_
 refine st_ex (ex_alloc (cs := [(.slice none 0 0), (I 0), (er 72 ga 0)]) H hn0 ti46 rfl) wn ?_
 rintro _ σ2 ⟨b1, rfl, H, -⟩
 refine st_exS (ex_store_box (k := 0) (cs := [(.slice none 0 0), (I 0), (er 72 ga 0)]) (vs := [(Sl ab_0 b_0 cb_0), (I 0), (er 72 ga 0)]) (cs' := [(Sl ab_0 b_0 cb_0), (I 0), (er 72 ga 0)]) H (i := 0) rfl ti46 rfl rfl rfl rfl rfl (Nat.le_of_ble_eq_true rfl) (by intro u hu; simp only [List.mem_cons, List.not_mem_nil, or_false] at hu; rcases hu with rfl | rfl | rfl <;> first | rfl | exact er_plain) rfl) wn ?_
 rintro σ3 ⟨H, -⟩
 refine w_end ?_
 refine q_then ?_
 refine c_seq ?_
 refine rg ?_
 obtain ⟨r4, hx5, h'⟩ := bind_some h
 clear h
 have h := h'; clear h'
 have hc6 := c_impl_pageReader_items (lor_0 := n0) (br_0 := b1) (or_0 := 0) (prer_0 := []) (sufr_0 := []) (ar_0_0 := ab_0) (cr_0_0 := cb_0) (ga := ga) hx5
 refine st_call (cx_call hc6 (ent_f hc6.fn rfl) hn0 (show Hp S0 σ0 _ ([Ch.bx n0 b1 0 [(Sl ab_0 b_0 cb_0), (I 0), (er 72 ga 0)] [] [], Ch.ro 0 (Sl ab_0 b_0 cb_0) b_0, Ch.gl 72 ga [1, 2, 0]] ++ [Ch.ro 0 (Sl ab_0 b_0 cb_0) b_0, Ch.gl 72 ga [1, 2, 0]]) from (H.sel' [0, 1, 2, 1, 2] rfl rfl))) wn ?_
 rintro _ σ13 ⟨_, ⟨a7, c8, K9, a11, c12, rfl, rfl, hK10⟩, H, -⟩
 replace H : Hp S0 σ0 σ13 [Ch.big K9, Ch.bx n0 b1 0 [(Sl a11 r4.2.1 c12), (I r4.2.2.1), (er 72 ga r4.2.2.2)] [] [], Ch.ro 0 (Sl a11 r4.2.1 c12) r4.2.1, Ch.ro 0 (Sl ab_0 b_0 cb_0) b_0, Ch.gl 72 ga [1, 2, 0]] := H
 refine st (v := (Sl a7 r4.1 c8)) (rv_assign rfl) ?_
 refine w_end ?_
 refine q_then ?_
 refine c_seq ?_
 refine rg ?_
 obtain ⟨r14, hx15, h'⟩ := bind_some h
 clear h
 have h := h'; clear h'
 have hc16 := c_impl_pageReader_end (lor_0 := n0) (br_0 := b1) (or_0 := 0) (prer_0 := []) (sufr_0 := []) (ar_0_0 := a11) (cr_0_0 := c12) (ga := ga) hx15
 refine st_call (cx_call hc16 (ent_f hc16.fn rfl) hn0 (show Hp S0 σ0 _ ([Ch.bx n0 b1 0 [(Sl a11 r4.2.1 c12), (I r4.2.2.1), (er 72 ga r4.2.2.2)] [] [], Ch.ro 0 (Sl a11 r4.2.1 c12) r4.2.1, Ch.gl 72 ga [1, 2, 0]] ++ [Ch.big K9, Ch.ro 0 (Sl a11 r4.2.1 c12) r4.2.1, Ch.ro 0 (Sl ab_0 b_0 cb_0) b_0, Ch.gl 72 ga [1, 2, 0]]) from (H.sel' [1, 2, 4, 0, 2, 3, 4] rfl rfl))) wn ?_
 rintro _ σ19 ⟨_, ⟨a17, c18, rfl, rfl⟩, H, -⟩
 replace H : Hp S0 σ0 σ19 [Ch.bx n0 b1 0 [(Sl a17 r14.1 c18), (I r14.2.1), (er 72 ga r14.2.2)] [] [], Ch.ro 0 (Sl a17 r14.1 c18) r14.1, Ch.big K9, Ch.ro 0 (Sl a11 r4.2.1 c12) r4.2.1, Ch.ro 0 (Sl ab_0 b_0 cb_0) b_0, Ch.gl 72 ga [1, 2, 0]] := H
 refine w_end ?_
 refine q_then ?_
 refine c_seq ?_
 refine c_seq ?_
 obtain ⟨o20, hj, h'⟩ := bind_some h
 clear h
 refine c_cut (fun e a w => e = .normal ∧ ∃ (ρ : Nat → Value) (σ : St), a = fr 19 (updL ρ [(5, (Sl a7 r4.1 c8)), (17, (B o20))]) ∧ w = σ.w ∧ Hp S0 σ0 σ [Ch.big K9, Ch.gl 72 ga [1, 2, 0]]) ?_ ?_
 ·clear h'
  rename _ = some o20 => h
  refine rg ?_
  refine st (v := (pt b1 2)) (rv_fieldAddr (off := 2) (ft := 44) Tryd.underlying46 rfl ti44 rfl rfl) ?_
  have hc21 := H.cell (u := (er 72 ga r14.2.2)) (o' := 2) 0 2 rfl rfl rfl
  refine st (v := (er 72 ga r14.2.2)) (rv_load1 Tryd.underlying44 rfl rfl hc21) ?_
  refine st (v := (B (r14.2.2 != 0))) (rv_neqE (e := r14.2.2) Tryd.underlying44 rfl rfl) ?_
  refine st (v := (B (r14.2.2 != 0))) (rv_move rfl) ?_
  rcases Bool.eq_false_or_eq_true (r14.2.2 != 0) with hb22 | hb22
  ·replace h := bif_t hb22 h
   refine st_skip (congrArg some hb22) ?_
   refine st_skip (congrArg some hb22) ?_
   refine st_skip (congrArg some hb22) ?_
   refine st (v := (B true)) (rv_pick_t (congrArg B hb22) rfl) ?_
   refine w_end ?_
   obtain rfl := Option.some.inj h
   exact ⟨rfl, _, σ19, fr_join ⟨rfl, rfl, trivial⟩, rfl, H.sel' [2, 5] rfl rfl⟩
  ·replace h := bif_f hb22 h
   refine st_g (v := (Sl a7 r4.1 c8)) (congrArg some hb22) (rv_move rfl) ?_
   obtain ⟨r23, hx24, h'⟩ := bind_some h
   clear h
   have h := h'; clear h'
   have hc25 := c_impl_ValidStore (alist_0 := a7) (clist_0 := c8) hx24
   have hle := Nat.le_trans hn0 H.size
   refine st_call (cx_lend (Loan.lendB hK10.lends Loan.nil) hc25 (ent_f hc25.fn rfl) (show Hp S0 σ0 _ ([Ch.big K9] ++ ([] ++ [Ch.bx n0 b1 0 [(Sl a17 r14.1 c18), (I r14.2.1), (er 72 ga r14.2.2)] [] [], Ch.ro 0 (Sl a17 r14.1 c18) r14.1, Ch.ro 0 (Sl a11 r4.2.1 c12) r4.2.1, Ch.ro 0 (Sl ab_0 b_0 cb_0) b_0, Ch.gl 72 ga [1, 2, 0]])) from (H.sel' [2, 0, 1, 3, 4, 5] rfl rfl)) (by rintro _ _ _ ⟨rfl, rfl⟩; exact trivial)) (wanted_yes rfl (by exact (congrArg some hb22))) ?_
   rintro _ σ26 ⟨_, ⟨rfl, rfl⟩, H, -, -⟩
   replace H : Hp S0 σ0 σ26 [Ch.big K9, Ch.bx n0 b1 0 [(Sl a17 r14.1 c18), (I r14.2.1), (er 72 ga r14.2.2)] [] [], Ch.ro 0 (Sl a17 r14.1 c18) r14.1, Ch.ro 0 (Sl a11 r4.2.1 c12) r4.2.1, Ch.ro 0 (Sl ab_0 b_0 cb_0) b_0, Ch.gl 72 ga [1, 2, 0]] := H
   clear hle
   replace H : Hp S0 σ0 σ26 [Ch.big K9, Ch.bx n0 b1 0 [(Sl a17 r14.1 c18), (I r14.2.1), (er 72 ga r14.2.2)] [] [], Ch.ro 0 (Sl a17 r14.1 c18) r14.1, Ch.ro 0 (Sl a11 r4.2.1 c12) r4.2.1, Ch.ro 0 (Sl ab_0 b_0 cb_0) b_0, Ch.gl 72 ga [1, 2, 0]] := H
   refine st_g (v := (B (!r23))) (congrArg some hb22) (rv_not rfl) ?_
   refine st (v := (B (!r23))) (rv_pick_f (congrArg B hb22) rfl) ?_
   refine w_end ?_
   obtain rfl := Option.some.inj h
   exact ⟨rfl, _, σ26, fr_join ⟨rfl, rfl, trivial⟩, rfl, H.sel' [0, 5] rfl rfl⟩
 ·clear hj
  have h := h'
  clear h' H
  rintro e a w ⟨rfl, ρ, σ27, rfl, rfl, H⟩
  refine q_then ?_
  refine cd_cond o20 rfl (fun hb28 => ?_) (fun hb28 => ?_)
  ·replace h := bif_t hb28 h
   refine c_seq ?_
   refine rg ?_
   refine st (v := (.slice none 0 0)) (rv_assign rfl) ?_
   refine st (v := (B false)) (rv_assign rfl) ?_
   refine w_end ?_
   refine q_then ?_
   refine c_ret ?_
   refine q_then_r ?_
   obtain ⟨K29, hK30, H⟩ := H.nilDp (Int × (List Int) × Int) 0
   obtain rfl := Option.some.inj h
   exact fin_ret (v := (.tuple #[(.slice none 0 0), (B false)])) (results_ok Tryd.results10 (res_tmp (v := (.slice none 0 0)) rfl (res_tmp (v := (B false)) rfl res_nil)) rfl) ⟨none, 0, K29, rfl, rfl, hK30⟩ (H.sel' [0] rfl rfl)
  ·replace h := bif_f hb28 h
   refine c_skip ?_
   refine q_then ?_
   refine c_seq ?_
   refine rg ?_
   refine st (v := (Sl a7 r4.1 c8)) (rv_move rfl) ?_
   refine st (v := (Sl a7 r4.1 c8)) (rv_assign rfl) ?_
   refine st (v := (B true)) (rv_assign rfl) ?_
   refine w_end ?_
   refine q_then ?_
   refine c_ret ?_
   obtain rfl := Option.some.inj h
   exact fin_ret (v := (.tuple #[(Sl a7 r4.1 c8), (B true)])) (results_ok Tryd.results10 (res_tmp (v := (Sl a7 r4.1 c8)) rfl (res_tmp (v := (B true)) rfl res_nil)) rfl) ⟨a7, c8, K9, rfl, rfl, hK10⟩ (H.sel' [0] rfl rfl)

theorem c_spec_inRange {n_0 : Int} {low_1 : Int} {high_2 : Int}  {r : Bool} (h : M.spec_inRange n_0 low_1 high_2 = some r) :
    Cal2 Tryd.prog 48 [(I n_0), (I low_1), (I high_2)] [] (fun n0 v L => v = (B r) ∧ L = []) := by
 refine cal2 (n := 15) Tryd.func48 rfl rfl rfl rfl ?_
 intro S0 σ0 n0 hn0 H
 unfold M.spec_inRange at h
 refine c_seq ?_
 refine rg ?_
 refine st (v := (B false)) (rv_assign rfl) ?_
 refine w_end ?_
 refine q_then ?_
 refine c_seq ?_
 refine rg ?_
 refine st (v := (I low_1)) (rv_move rfl) ?_
 refine st (v := (I n_0)) (rv_move rfl) ?_
 refine st (v := (B (decide (low_1 ≤ n_0)))) (rv_leq (a := low_1) (b := n_0) rfl rfl) ?_
 refine st (v := (B (decide (low_1 ≤ n_0)))) (rv_move rfl) ?_
 rcases Bool.eq_false_or_eq_true (decide (low_1 ≤ n_0)) with hb1 | hb1
 ·replace h := bif_t hb1 h
  refine st_g (v := (I n_0)) (congrArg some hb1) (rv_move rfl) ?_
  refine st_g (v := (I high_2)) (congrArg some hb1) (rv_move rfl) ?_
  refine st_g (v := (B (decide (n_0 ≤ high_2)))) (congrArg some hb1) (rv_leq (a := n_0) (b := high_2) rfl rfl) ?_
  refine st (v := (B (decide (n_0 ≤ high_2)))) (rv_pick_t (congrArg B hb1) rfl) ?_
  refine st (v := (B (decide (n_0 ≤ high_2)))) (rv_assign rfl) ?_
  refine w_end ?_
  refine q_then ?_
  refine c_ret ?_
  obtain rfl := Option.some.inj h
  exact fin_ret (v := (B (decide (n_0 ≤ high_2)))) (results_ok Tryd.results48 (res_tmp (v := (B (decide (n_0 ≤ high_2)))) rfl res_nil) rfl) ⟨rfl, rfl⟩ (H.sel' [] rfl rfl)
 ·replace h := bif_f hb1 h
  refine st_skip (congrArg some hb1) ?_
  refine st_skip (congrArg some hb1) ?_
  refine st_skip (congrArg some hb1) ?_
  refine st (v := (B false)) (rv_pick_f (congrArg B hb1) rfl) ?_
  refine st (v := (B false)) (rv_assign rfl) ?_
  refine w_end ?_
  refine q_then ?_
  refine c_ret ?_
  obtain rfl := Option.some.inj h
  exact fin_ret (v := (B false)) (results_ok Tryd.results48 (res_tmp (v := (B false)) rfl res_nil) rfl) ⟨rfl, rfl⟩ (H.sel' [] rfl rfl)

theorem c_spec_allIn {list_0 : List Int} {low_1 : Int} {high_2 : Int} {alist_0 : Option Addr} {clist_0 : Nat} {r : Bool} (h : M.spec_allIn list_0 low_1 high_2 = some r) :
    Cal2 Tryd.prog 54 [(Sl alist_0 list_0 clist_0), (I low_1), (I high_2)] [Ch.ro 0 (Sl alist_0 list_0 clist_0) list_0] (fun n0 v L => v = (B r) ∧ L = []) := by
 refine cal2 (n := 22) Tryd.func54 rfl rfl rfl rfl ?_
 intro S0 σ0 n0 hn0 H
 unfold M.spec_allIn at h
 refine c_seq ?_
 refine rg ?_
 refine st (v := (B false)) (rv_assign rfl) ?_
 refine w_end ?_
 refine q_then ?_
 refine c_seq ?_
 refine c_seq ?_
 refine rg ?_
 refine st (v := (I 0)) (rv_assign rfl) ?_
 refine w_end ?_
 refine q_then ?_
 obtain ⟨o1, hj, h'⟩ := bind_some h
 clear h
 refine c_cut (fun e a w => (∃ t, o1 = (.inl t) ∧ e = .normal ∧ ∃ (ρ : Nat → Value) (σ : St), a = fr 22 (updL ρ []) ∧ w = σ.w ∧ Hp S0 σ0 σ []) ∨ (∃ t, o1 = (.inr t) ∧ e = .ret ∧ ∃ (ρ : Nat → Value) (σ : St), a = fr 22 (updL ρ [(6, (B t))]) ∧ w = σ.w ∧ Hp S0 σ0 σ [])) ?_ ?_
 ·clear h'
  rename _ = some o1 => h
  refine c_blk ?_
  refine wp_loopM _ h (fun s2 a w => ∃ (ρ : Nat → Value) (σ : St), a = fr 22 (updL ρ [(0, (Sl alist_0 list_0 clist_0)), (1, (I low_1)), (2, (I high_2)), (7, (I s2))]) ∧ w = σ.w ∧ Hp S0 σ0 σ [Ch.ro 0 (Sl alist_0 list_0 clist_0) list_0]) ⟨_, σ0, fr_join ⟨rfl, rfl, rfl, rfl, trivial⟩, rfl, H.sel' [0] rfl rfl⟩ ?_
  clear h H
  rintro s2 a w o ⟨ρ, σ3, rfl, rfl, H⟩ h hres
  refine c_seq ?_
  refine c_seq ?_
  refine rg ?_
  refine st (v := (I s2)) (rv_move rfl) ?_
  refine st (v := (Sl alist_0 list_0 clist_0)) (rv_move rfl) ?_
  refine st (v := (I (list_0.length : Int))) (rv_len Tryd.underlying39 rfl) ?_
  refine st (v := (B (decide (s2 < (list_0.length : Int))))) (rv_lss (a := s2) (b := (list_0.length : Int)) rfl rfl) ?_
  refine w_end ?_
  refine q_then ?_
  refine cd_cond (decide (s2 < (list_0.length : Int))) rfl (fun hb4 => ?_) (fun hb4 => ?_)
  ·replace h := bif_t hb4 h
   refine c_skip ?_
   refine q_then ?_
   refine c_seq ?_
   refine c_blk ?_
   refine c_seq ?_
   refine rg ?_
   refine st (v := (Sl alist_0 list_0 clist_0)) (rv_move rfl) ?_
   refine st (v := (I s2)) (rv_move rfl) ?_
   obtain ⟨x5, hx6, h'⟩ := bind_some h
   clear h
   have h := h'; clear h'
   obtain ⟨b8, o9, hi7, -⟩ := (H.ro 0 rfl).ix hx6
   refine st (v := (pt b8 o9)) (rv_ix Tryd.underlying39 ti3 rfl rfl hi7) ?_
   have hc10 := ((H.ro 0 rfl).at hx6 hi7).int
   refine st (v := (I x5)) (rv_load1 Tryd.underlying3 rfl rfl hc10) ?_
   refine st (v := (I low_1)) (rv_move rfl) ?_
   refine st (v := (I high_2)) (rv_move rfl) ?_
   obtain ⟨r11, hx12, h'⟩ := bind_some h
   clear h
   have h := h'; clear h'
   have hc13 := c_spec_inRange hx12
   refine st_call (cx_call hc13 (ent_f hc13.fn rfl) hn0 (show Hp S0 σ0 _ ([] ++ [Ch.ro 0 (Sl alist_0 list_0 clist_0) list_0]) from (H.sel' [0] rfl rfl))) wn ?_
   rintro _ σ14 ⟨_, ⟨rfl, rfl⟩, H, -⟩
   replace H : Hp S0 σ0 σ14 [Ch.ro 0 (Sl alist_0 list_0 clist_0) list_0] := H
   refine st (v := (B (!r11))) (rv_not rfl) ?_
   refine w_end ?_
   refine q_then ?_
   refine cd_cond (!r11) rfl (fun hb15 => ?_) (fun hb15 => ?_)
   ·replace h := bif_t hb15 h
    refine c_seq ?_
    refine rg ?_
    refine st (v := (B false)) (rv_assign rfl) ?_
    refine w_end ?_
    refine q_then ?_
    refine c_ret ?_
    refine q_blk_r ?_
    refine q_then_r ?_
    refine q_then_r ?_
    refine q_blk_r ?_
    obtain rfl := Option.some.inj h
    obtain rfl := hres _ rfl
    exact .inr (⟨_, rfl, rfl, _, σ14, fr_join ⟨rfl, trivial⟩, rfl, H.sel' [] rfl rfl⟩)
   ·replace h := bif_f hb15 h
    refine c_skip ?_
    refine q_blk ?_
    refine q_then ?_
    refine rg ?_
    refine st (v := (I s2)) (rv_move rfl) ?_
    refine st (v := (I (w64 (s2 + 1)))) (rv_add (a := s2) (b := 1) rfl rfl) ?_
    refine st (v := (I (w64 (s2 + 1)))) (rv_assign rfl) ?_
    refine w_end ?_
    refine q_then ?_
    obtain rfl := Option.some.inj h
    exact ⟨_, rfl, _, σ14, fr_join ⟨rfl, rfl, rfl, rfl, trivial⟩, rfl, H.sel' [0] rfl rfl⟩
  ·replace h := bif_f hb4 h
   refine c_exit ?_
   refine q_then_x ?_
   refine q_then_x ?_
   refine q_blk_hit ?_
   obtain rfl := Option.some.inj h
   obtain rfl := hres _ rfl
   exact .inl ⟨_, rfl, rfl, _, σ3, fr_join trivial, rfl, H.sel' [] rfl rfl⟩
 ·clear hj
  have h := h'
  clear h' H
  rintro e a w (⟨t16, rfl, rfl, ρ, σ17, rfl, rfl, H⟩ | ⟨t18, rfl, rfl, ρ, σ19, rfl, rfl, H⟩)
  ·replace h := selim_l h
   refine q_then ?_
   refine c_seq ?_
   refine rg ?_
   refine st (v := (B true)) (rv_assign rfl) ?_
   refine w_end ?_
   refine q_then ?_
   refine c_ret ?_
   obtain rfl := Option.some.inj h
   exact fin_ret (v := (B true)) (results_ok Tryd.results54 (res_tmp (v := (B true)) rfl res_nil) rfl) ⟨rfl, rfl⟩ (H.sel' [] rfl rfl)
  ·replace h := selim_r h
   refine q_then_r ?_
   obtain rfl := Option.some.inj h
   exact fin_ret (v := (B t18)) (results_ok Tryd.results54 (res_tmp (v := (B t18)) rfl res_nil) rfl) ⟨rfl, rfl⟩ (H.sel' [] rfl rfl)

theorem c_spec_isVector {v_0 : List Int} {av_0 : Option Addr} {cv_0 : Nat} {r : Bool} (h : M.spec_isVector v_0 = some r) :
    Cal2 Tryd.prog 49 [(Sl av_0 v_0 cv_0)] [Ch.ro 0 (Sl av_0 v_0 cv_0) v_0] (fun n0 v L => v = (B r) ∧ L = []) := by
 refine cal2 (n := 10) Tryd.func49 rfl rfl rfl rfl ?_
 intro S0 σ0 n0 hn0 H
 unfold M.spec_isVector at h
 refine c_seq ?_
 refine rg ?_
 refine st (v := (B false)) (rv_assign rfl) ?_
 refine w_end ?_
 refine q_then ?_
 refine c_seq ?_
 refine rg ?_
 refine st (v := (Sl av_0 v_0 cv_0)) (rv_move rfl) ?_
 refine st (v := (I (v_0.length : Int))) (rv_len Tryd.underlying39 rfl) ?_
 refine st (v := (B ((v_0.length : Int) == 4))) (rv_eql (a := (v_0.length : Int)) (b := 4) rfl rfl) ?_
 refine st (v := (B ((v_0.length : Int) == 4))) (rv_move rfl) ?_
 rcases Bool.eq_false_or_eq_true ((v_0.length : Int) == 4) with hb1 | hb1
 ·replace h := bif_t hb1 h
  refine st_g (v := (Sl av_0 v_0 cv_0)) (congrArg some hb1) (rv_move rfl) ?_
  obtain ⟨r2, hx3, h'⟩ := bind_some h
  clear h
  have h := h'; clear h'
  have hc4 := c_spec_allIn (alist_0 := av_0) (clist_0 := cv_0) hx3
  refine st_call (cx_call hc4 (ent_f hc4.fn rfl) hn0 (show Hp S0 σ0 _ ([Ch.ro 0 (Sl av_0 v_0 cv_0) v_0] ++ [Ch.ro 0 (Sl av_0 v_0 cv_0) v_0]) from (H.sel' [0, 0] rfl rfl))) (wanted_yes rfl (by exact (congrArg some hb1))) ?_
  rintro _ σ5 ⟨_, ⟨rfl, rfl⟩, H, -⟩
  replace H : Hp S0 σ0 σ5 [Ch.ro 0 (Sl av_0 v_0 cv_0) v_0] := H
  refine st (v := (B r2)) (rv_pick_t (congrArg B hb1) rfl) ?_
  refine st (v := (B r2)) (rv_assign rfl) ?_
  refine w_end ?_
  refine q_then ?_
  refine c_ret ?_
  obtain rfl := Option.some.inj h
  exact fin_ret (v := (B r2)) (results_ok Tryd.results49 (res_tmp (v := (B r2)) rfl res_nil) rfl) ⟨rfl, rfl⟩ (H.sel' [] rfl rfl)
 ·replace h := bif_f hb1 h
  refine st_skip (congrArg some hb1) ?_
  refine st_skip (congrArg some hb1) ?_
  refine st (v := (B false)) (rv_pick_f (congrArg B hb1) rfl) ?_
  refine st (v := (B false)) (rv_assign rfl) ?_
  refine w_end ?_
  refine q_then ?_
  refine c_ret ?_
  obtain rfl := Option.some.inj h
  exact fin_ret (v := (B false)) (results_ok Tryd.results49 (res_tmp (v := (B false)) rfl res_nil) rfl) ⟨rfl, rfl⟩ (H.sel' [] rfl rfl)

theorem c_spec_validItem {x_0 : Int × (List Int) × Int} {ax_0_1 : Option Addr} {cx_0_1 : Nat} {r : Bool} (h : M.spec_validItem x_0 = some r) :
    Cal2 Tryd.prog 35 [(.agg #[(I x_0.1), (Sl ax_0_1 x_0.2.1 cx_0_1), (I x_0.2.2)])] [Ch.ro 0 (Sl ax_0_1 x_0.2.1 cx_0_1) x_0.2.1] (fun n0 v L => v = (B r) ∧ L = []) := by
 refine cal2 (n := 16) Tryd.func35 rfl rfl rfl rfl ?_
 intro S0 σ0 n0 hn0 H
 unfold M.spec_validItem at h
 refine c_seq ?_
 refine rg ?_
 refine st_ex (ex_box (cs := [(I x_0.1), (Sl ax_0_1 x_0.2.1 cx_0_1), (I x_0.2.2)]) H hn0 rfl rfl) wn ?_
 rintro _ σ2 ⟨b1, rfl, H, -⟩
 refine st (v := (B false)) (rv_assign rfl) ?_
 refine w_end ?_
 refine q_then ?_
 refine c_seq ?_
 refine rg ?_
 refine st (v := (pt b1 0)) (rv_fieldAddr (off := 0) (ft := 3) Tryd.underlying41 rfl ti3 rfl rfl) ?_
 have hc3 := H.cell (u := (I x_0.1)) (o' := 0) 0 0 rfl rfl rfl
 refine st (v := (I x_0.1)) (rv_load1 Tryd.underlying3 rfl rfl hc3) ?_
 obtain ⟨r4, hx5, h'⟩ := bind_some h
 clear h
 have h := h'; clear h'
 have hc6 := c_spec_inRange hx5
 refine st_call (cx_call hc6 (ent_f hc6.fn rfl) hn0 (show Hp S0 σ0 _ ([] ++ [Ch.bx n0 b1 0 [(I x_0.1), (Sl ax_0_1 x_0.2.1 cx_0_1), (I x_0.2.2)] [] [], Ch.ro 0 (Sl ax_0_1 x_0.2.1 cx_0_1) x_0.2.1]) from (H.sel' [0, 1] rfl rfl))) wn ?_
 rintro _ σ7 ⟨_, ⟨rfl, rfl⟩, H, -⟩
 replace H : Hp S0 σ0 σ7 [Ch.bx n0 b1 0 [(I x_0.1), (Sl ax_0_1 x_0.2.1 cx_0_1), (I x_0.2.2)] [] [], Ch.ro 0 (Sl ax_0_1 x_0.2.1 cx_0_1) x_0.2.1] := H
 refine st (v := (B r4)) (rv_move rfl) ?_
 rcases Bool.eq_false_or_eq_true r4 with hb8 | hb8
 ·replace h := bif_t hb8 h
  refine st_g (v := (pt b1 1)) (congrArg some hb8) (rv_fieldAddr (off := 1) (ft := 39) Tryd.underlying41 rfl ti39 rfl rfl) ?_
  have hc9 := H.cell (u := (Sl ax_0_1 x_0.2.1 cx_0_1)) (o' := 1) 0 1 rfl rfl rfl
  refine st_g (v := (Sl ax_0_1 x_0.2.1 cx_0_1)) (congrArg some hb8) (rv_load1 Tryd.underlying39 rfl rfl hc9) ?_
  obtain ⟨r10, hx11, h'⟩ := bind_some h
  clear h
  have h := h'; clear h'
  have hc12 := c_spec_isVector (av_0 := ax_0_1) (cv_0 := cx_0_1) hx11
  refine st_call (cx_call hc12 (ent_f hc12.fn rfl) hn0 (show Hp S0 σ0 _ ([Ch.ro 0 (Sl ax_0_1 x_0.2.1 cx_0_1) x_0.2.1] ++ [Ch.bx n0 b1 0 [(I x_0.1), (Sl ax_0_1 x_0.2.1 cx_0_1), (I x_0.2.2)] [] [], Ch.ro 0 (Sl ax_0_1 x_0.2.1 cx_0_1) x_0.2.1]) from (H.sel' [1, 0, 1] rfl rfl))) (wanted_yes rfl (by exact (congrArg some hb8))) ?_
  rintro _ σ13 ⟨_, ⟨rfl, rfl⟩, H, -⟩
  replace H : Hp S0 σ0 σ13 [Ch.bx n0 b1 0 [(I x_0.1), (Sl ax_0_1 x_0.2.1 cx_0_1), (I x_0.2.2)] [] [], Ch.ro 0 (Sl ax_0_1 x_0.2.1 cx_0_1) x_0.2.1] := H
  refine st (v := (B r10)) (rv_pick_t (congrArg B hb8) rfl) ?_
  refine st (v := (B r10)) (rv_move rfl) ?_
  rcases Bool.eq_false_or_eq_true r10 with hb14 | hb14
  ·replace h := bif_t hb14 h
   refine st_g (v := (pt b1 2)) (congrArg some hb14) (rv_fieldAddr (off := 2) (ft := 3) Tryd.underlying41 rfl ti3 rfl rfl) ?_
   have hc15 := H.cell (u := (I x_0.2.2)) (o' := 2) 0 2 rfl rfl rfl
   refine st_g (v := (I x_0.2.2)) (congrArg some hb14) (rv_load1 Tryd.underlying3 rfl rfl hc15) ?_
   obtain ⟨r16, hx17, h'⟩ := bind_some h
   clear h
   have h := h'; clear h'
   have hc18 := c_spec_inRange hx17
   refine st_call (cx_call hc18 (ent_f hc18.fn rfl) hn0 (show Hp S0 σ0 _ ([] ++ [Ch.bx n0 b1 0 [(I x_0.1), (Sl ax_0_1 x_0.2.1 cx_0_1), (I x_0.2.2)] [] [], Ch.ro 0 (Sl ax_0_1 x_0.2.1 cx_0_1) x_0.2.1]) from (H.sel' [0, 1] rfl rfl))) (wanted_yes rfl (by exact (congrArg some hb14))) ?_
   rintro _ σ19 ⟨_, ⟨rfl, rfl⟩, H, -⟩
   replace H : Hp S0 σ0 σ19 [Ch.bx n0 b1 0 [(I x_0.1), (Sl ax_0_1 x_0.2.1 cx_0_1), (I x_0.2.2)] [] [], Ch.ro 0 (Sl ax_0_1 x_0.2.1 cx_0_1) x_0.2.1] := H
   refine st (v := (B r16)) (rv_pick_t (congrArg B hb14) rfl) ?_
   refine st (v := (B r16)) (rv_assign rfl) ?_
   refine w_end ?_
   refine q_then ?_
   refine c_ret ?_
   obtain rfl := Option.some.inj h
   exact fin_ret (v := (B r16)) (results_ok Tryd.results35 (res_tmp (v := (B r16)) rfl res_nil) rfl) ⟨rfl, rfl⟩ (H.sel' [] rfl rfl)
  ·replace h := bif_f hb14 h
   refine st_skip (congrArg some hb14) ?_
   refine st_skip (congrArg some hb14) ?_
   refine st_skip (congrArg some hb14) ?_
   refine st (v := (B false)) (rv_pick_f (congrArg B hb14) rfl) ?_
   refine st (v := (B false)) (rv_assign rfl) ?_
   refine w_end ?_
   refine q_then ?_
   refine c_ret ?_
   obtain rfl := Option.some.inj h
   exact fin_ret (v := (B false)) (results_ok Tryd.results35 (res_tmp (v := (B false)) rfl res_nil) rfl) ⟨rfl, rfl⟩ (H.sel' [] rfl rfl)
 ·replace h := bif_f hb8 h
  refine st_skip (congrArg some hb8) ?_
  refine st_skip (congrArg some hb8) ?_
  refine st_skip (congrArg some hb8) ?_
  refine st (v := (B false)) (rv_pick_f (congrArg B hb8) rfl) ?_
  refine st (v := (B false)) (rv_move rfl) ?_
  refine st_skip rfl ?_
  refine st_skip rfl ?_
  refine st_skip rfl ?_
  refine st (v := (B false)) (rv_pick_f rfl rfl) ?_
  refine st (v := (B false)) (rv_assign rfl) ?_
  refine w_end ?_
  refine q_then ?_
  refine c_ret ?_
  obtain rfl := Option.some.inj h
  exact fin_ret (v := (B false)) (results_ok Tryd.results35 (res_tmp (v := (B false)) rfl res_nil) rfl) ⟨rfl, rfl⟩ (H.sel' [] rfl rfl)

end Go.Vs
