/- The functions compute what their models say. -/
import Derived.Test.YtjmaadoeholmiacKExactBothFiltersM
import Derived.Test.YtjmaadoeholmiacExactBothFiltersEng1
import Derived.Test.YtjmaadoeholmiacProg
set_option linter.unusedVariables false
set_option linter.unusedSimpArgs false
set_option maxRecDepth 20000
namespace Go.Vs
open Go Go.Proofs
attribute [local irreducible] Code.wp Code.wpIn wpList wpListIn wpQuiet Calls CallsIn

theorem ti3 : TI Try.prog 3 (.int .i64 0) 1 8 := TI.mk' (by kernel_rfl)
theorem ti23 : TI Try.prog 23 (.agg #[(.int .i64 0), (.int .i64 0), (.int .i64 0)]) 3 24 := TI.mk' (by kernel_rfl)
theorem ti25 : TI Try.prog 25 (.agg #[(.int .i64 0), (.int .i64 0), (.int .i64 0)]) 3 24 := TI.mk' (by kernel_rfl)
theorem bp25 {fs : Array Field} (hT : Try.prog.underlying 25 = some (.struct fs)) (w : World) : (fs.mapM (fun f => do pure (f.offset, ← sizeOf f.type)) : Sem (Array (Nat × Nat))).run Try.prog w = .ok #[(0, 1), (1, 1), (2, 1)] w := by
  rw [Try.underlying25] at hT; cases hT
  simp [run_typeInfo ti3]

theorem c_laws_toFilter {a_0 : Int × Int × Int}  {r : (Int × Int × Int)} (h : M.laws_toFilter a_0 = some r) :
    Cal2 Try.prog 11 [(.agg #[(I a_0.1), (I a_0.2.1), (I a_0.2.2)])] [] (fun n0 v L => v = (.agg #[(I r.1), (I r.2.1), (I r.2.2)]) ∧ L = []) := by
 refine cal2 (n := 14) Try.func11 rfl rfl rfl rfl ?_
 intro S0 σ0 n0 hn0 H
 unfold M.laws_toFilter at h
 refine c_seq ?_
 refine rg ?_
 refine st_ex (ex_box (cs := [(I a_0.1), (I a_0.2.1), (I a_0.2.2)]) H hn0 rfl rfl) wn ?_
 rintro _ σ2 ⟨b1, rfl, H, -⟩
 refine st_ex (ex_alloc (cs := [(I 0), (I 0), (I 0)]) H hn0 ti25 rfl) wn ?_
 rintro _ σ4 ⟨b3, rfl, H, -⟩
 refine w_end ?_
 refine q_then ?_
 refine c_seq ?_
 refine rg ?_
 refine st_ex (ex_alloc (cs := [(I 0), (I 0), (I 0)]) H hn0 ti25 rfl) wn ?_
 rintro _ σ6 ⟨b5, rfl, H, -⟩
 refine w_end ?_
 refine q_then ?_
 refine c_seq ?_
 refine rg ?_
 refine st (v := (pt b1 0)) (rv_fieldAddr (off := 0) (ft := 3) Try.underlying23 rfl ti3 rfl rfl) ?_
 have hc7 := H.cell (u := (I a_0.1)) (o' := 0) 2 0 rfl rfl rfl
 refine st (v := (I a_0.1)) (rv_load1 Try.underlying3 rfl rfl hc7) ?_
 refine st (v := (pt b5 0)) (rv_fieldAddr (off := 0) (ft := 3) Try.underlying25 rfl ti3 rfl rfl) ?_
 refine st_exS (ex_store_box (k := 0) (cs := [(I 0), (I 0), (I 0)]) (vs := [(I a_0.1)]) (cs' := [(I a_0.1), (I 0), (I 0)]) H (i := 0) rfl ti3 rfl rfl rfl rfl rfl (Nat.le_of_ble_eq_true rfl) (by simp [plain]) rfl) wn ?_
 rintro σ8 ⟨H, -⟩
 refine w_end ?_
 refine q_then ?_
 refine c_seq ?_
 refine rg ?_
 refine st (v := (pt b1 1)) (rv_fieldAddr (off := 1) (ft := 3) Try.underlying23 rfl ti3 rfl rfl) ?_
 have hc9 := H.cell (u := (I a_0.2.1)) (o' := 1) 2 1 rfl rfl rfl
 refine st (v := (I a_0.2.1)) (rv_load1 Try.underlying3 rfl rfl hc9) ?_
 refine st (v := (pt b5 1)) (rv_fieldAddr (off := 1) (ft := 3) Try.underlying25 rfl ti3 rfl rfl) ?_
 refine st_exS (ex_store_box (k := 1) (cs := [(I a_0.1), (I 0), (I 0)]) (vs := [(I a_0.2.1)]) (cs' := [(I a_0.1), (I a_0.2.1), (I 0)]) H (i := 0) rfl ti3 rfl rfl rfl rfl rfl (Nat.le_of_ble_eq_true rfl) (by simp [plain]) rfl) wn ?_
 rintro σ10 ⟨H, -⟩
 refine w_end ?_
 refine q_then ?_
 refine c_seq ?_
 refine rg ?_
 refine st (v := (pt b1 2)) (rv_fieldAddr (off := 2) (ft := 3) Try.underlying23 rfl ti3 rfl rfl) ?_
 have hc11 := H.cell (u := (I a_0.2.2)) (o' := 2) 2 2 rfl rfl rfl
 refine st (v := (I a_0.2.2)) (rv_load1 Try.underlying3 rfl rfl hc11) ?_
 refine st (v := (pt b5 2)) (rv_fieldAddr (off := 2) (ft := 3) Try.underlying25 rfl ti3 rfl rfl) ?_
 refine st_exS (ex_store_box (k := 2) (cs := [(I a_0.1), (I a_0.2.1), (I 0)]) (vs := [(I a_0.2.2)]) (cs' := [(I a_0.1), (I a_0.2.1), (I a_0.2.2)]) H (i := 0) rfl ti3 rfl rfl rfl rfl rfl (Nat.le_of_ble_eq_true rfl) (by simp [plain]) rfl) wn ?_
 rintro σ12 ⟨H, -⟩
 refine w_end ?_
 refine q_then ?_
 refine c_seq ?_
 refine rg ?_
 have hc13 := H.cells 0 rfl
 refine st (v := (.agg #[(I a_0.1), (I a_0.2.1), (I a_0.2.2)])) (rv_load (cs := [(I a_0.1), (I a_0.2.1), (I a_0.2.2)]) Try.underlying25 rfl ti25 rfl rfl hc13) ?_
 refine st_exS (ex_store_box (k := 0) (cs := [(I 0), (I 0), (I 0)]) (vs := [(I a_0.1), (I a_0.2.1), (I a_0.2.2)]) (cs' := [(I a_0.1), (I a_0.2.1), (I a_0.2.2)]) H (i := 1) rfl ti25 rfl rfl rfl rfl rfl (Nat.le_of_ble_eq_true rfl) (by simp [plain]) rfl) wn ?_
 rintro σ14 ⟨H, -⟩
 refine w_end ?_
 refine q_then ?_
 refine c_ret ?_
 obtain rfl := Option.some.inj h
 exact fin_ret (v := (.agg #[(I a_0.1), (I a_0.2.1), (I a_0.2.2)])) (results_ok Try.results11 (res_cell rfl (run_cellRes (cs := [(I a_0.1), (I a_0.2.1), (I a_0.2.2)]) Try.underlying25 rfl ti25 rfl (H.cells 0 rfl)) res_nil) rfl) ⟨rfl, rfl⟩ (H.sel' [] rfl rfl)

theorem c_spec_inRange {n_0 : Int} {low_1 : Int} {high_2 : Int}  {r : Bool} (h : M.spec_inRange n_0 low_1 high_2 = some r) :
    Cal2 Try.prog 42 [(I n_0), (I low_1), (I high_2)] [] (fun n0 v L => v = (B r) ∧ L = []) := by
 refine cal2 (n := 15) Try.func42 rfl rfl rfl rfl ?_
 intro S0 σ0 n0 hn0 H
 unfold M.spec_inRange at h
 refine c_seq ?_
 refine rg ?_
 refine st (v := (B false)) (rv_assign rfl) ?_
 refine w_end ?_
 refine q_then ?_
 refine c_seq ?_
 refine rg ?_
 refine st (v := (I low_1)) (rv_move rfl) ?_
 refine st (v := (I n_0)) (rv_move rfl) ?_
 refine st (v := (B (decide (low_1 ≤ n_0)))) (rv_leq (a := low_1) (b := n_0) rfl rfl) ?_
 refine st (v := (B (decide (low_1 ≤ n_0)))) (rv_move rfl) ?_
 rcases Bool.eq_false_or_eq_true (decide (low_1 ≤ n_0)) with hb1 | hb1
 ·replace h := bif_t hb1 h
  refine st_g (v := (I n_0)) (congrArg some hb1) (rv_move rfl) ?_
  refine st_g (v := (I high_2)) (congrArg some hb1) (rv_move rfl) ?_
  refine st_g (v := (B (decide (n_0 ≤ high_2)))) (congrArg some hb1) (rv_leq (a := n_0) (b := high_2) rfl rfl) ?_
  refine st (v := (B (decide (n_0 ≤ high_2)))) (rv_pick_t (congrArg B hb1) rfl) ?_
  refine st (v := (B (decide (n_0 ≤ high_2)))) (rv_assign rfl) ?_
  refine w_end ?_
  refine q_then ?_
  refine c_ret ?_
  obtain rfl := Option.some.inj h
  exact fin_ret (v := (B (decide (n_0 ≤ high_2)))) (results_ok Try.results42 (res_tmp (v := (B (decide (n_0 ≤ high_2)))) rfl res_nil) rfl) ⟨rfl, rfl⟩ (H.sel' [] rfl rfl)
 ·replace h := bif_f hb1 h
  refine st_skip (congrArg some hb1) ?_
  refine st_skip (congrArg some hb1) ?_
  refine st_skip (congrArg some hb1) ?_
  refine st (v := (B false)) (rv_pick_f (congrArg B hb1) rfl) ?_
  refine st (v := (B false)) (rv_assign rfl) ?_
  refine w_end ?_
  refine q_then ?_
  refine c_ret ?_
  obtain rfl := Option.some.inj h
  exact fin_ret (v := (B false)) (results_ok Try.results42 (res_tmp (v := (B false)) rfl res_nil) rfl) ⟨rfl, rfl⟩ (H.sel' [] rfl rfl)

theorem c_spec_validFilter {f_0 : Int × Int × Int}  {r : Bool} (h : M.spec_validFilter f_0 = some r) :
    Cal2 Try.prog 41 [(.agg #[(I f_0.1), (I f_0.2.1), (I f_0.2.2)])] [] (fun n0 v L => v = (B r) ∧ L = []) := by
 refine cal2 (n := 16) Try.func41 rfl rfl rfl rfl ?_
 intro S0 σ0 n0 hn0 H
 unfold M.spec_validFilter at h
 refine c_seq ?_
 refine rg ?_
 refine st_ex (ex_box (cs := [(I f_0.1), (I f_0.2.1), (I f_0.2.2)]) H hn0 rfl rfl) wn ?_
 rintro _ σ2 ⟨b1, rfl, H, -⟩
 refine st (v := (B false)) (rv_assign rfl) ?_
 refine w_end ?_
 refine q_then ?_
 refine c_seq ?_
 refine rg ?_
 refine st (v := (pt b1 0)) (rv_fieldAddr (off := 0) (ft := 3) Try.underlying25 rfl ti3 rfl rfl) ?_
 have hc3 := H.cell (u := (I f_0.1)) (o' := 0) 0 0 rfl rfl rfl
 refine st (v := (I f_0.1)) (rv_load1 Try.underlying3 rfl rfl hc3) ?_
 obtain ⟨r4, hx5, h'⟩ := bind_some h
 clear h
 have h := h'; clear h'
 have hc6 := c_spec_inRange hx5
 refine st_call (cx_call hc6 (ent_f hc6.fn rfl) hn0 (show Hp S0 σ0 _ ([] ++ [Ch.bx n0 b1 0 [(I f_0.1), (I f_0.2.1), (I f_0.2.2)] [] []]) from (H.sel' [0] rfl rfl))) wn ?_
 rintro _ σ7 ⟨_, ⟨rfl, rfl⟩, H, -⟩
 replace H : Hp S0 σ0 σ7 [Ch.bx n0 b1 0 [(I f_0.1), (I f_0.2.1), (I f_0.2.2)] [] []] := H
 refine st (v := (B r4)) (rv_move rfl) ?_
 rcases Bool.eq_false_or_eq_true r4 with hb8 | hb8
 ·replace h := bif_t hb8 h
  refine st_g (v := (pt b1 1)) (congrArg some hb8) (rv_fieldAddr (off := 1) (ft := 3) Try.underlying25 rfl ti3 rfl rfl) ?_
  have hc9 := H.cell (u := (I f_0.2.1)) (o' := 1) 0 1 rfl rfl rfl
  refine st_g (v := (I f_0.2.1)) (congrArg some hb8) (rv_load1 Try.underlying3 rfl rfl hc9) ?_
  obtain ⟨r10, hx11, h'⟩ := bind_some h
  clear h
  have h := h'; clear h'
  have hc12 := c_spec_inRange hx11
  refine st_call (cx_call hc12 (ent_f hc12.fn rfl) hn0 (show Hp S0 σ0 _ ([] ++ [Ch.bx n0 b1 0 [(I f_0.1), (I f_0.2.1), (I f_0.2.2)] [] []]) from (H.sel' [0] rfl rfl))) (wanted_yes rfl (by exact (congrArg some hb8))) ?_
  rintro _ σ13 ⟨_, ⟨rfl, rfl⟩, H, -⟩
  replace H : Hp S0 σ0 σ13 [Ch.bx n0 b1 0 [(I f_0.1), (I f_0.2.1), (I f_0.2.2)] [] []] := H
  refine st (v := (B r10)) (rv_pick_t (congrArg B hb8) rfl) ?_
  refine st (v := (B r10)) (rv_move rfl) ?_
  rcases Bool.eq_false_or_eq_true r10 with hb14 | hb14
  ·replace h := bif_t hb14 h
   refine st_g (v := (pt b1 2)) (congrArg some hb14) (rv_fieldAddr (off := 2) (ft := 3) Try.underlying25 rfl ti3 rfl rfl) ?_
   have hc15 := H.cell (u := (I f_0.2.2)) (o' := 2) 0 2 rfl rfl rfl
   refine st_g (v := (I f_0.2.2)) (congrArg some hb14) (rv_load1 Try.underlying3 rfl rfl hc15) ?_
   obtain ⟨r16, hx17, h'⟩ := bind_some h
   clear h
   have h := h'; clear h'
   have hc18 := c_spec_inRange hx17
   refine st_call (cx_call hc18 (ent_f hc18.fn rfl) hn0 (show Hp S0 σ0 _ ([] ++ [Ch.bx n0 b1 0 [(I f_0.1), (I f_0.2.1), (I f_0.2.2)] [] []]) from (H.sel' [0] rfl rfl))) (wanted_yes rfl (by exact (congrArg some hb14))) ?_
   rintro _ σ19 ⟨_, ⟨rfl, rfl⟩, H, -⟩
   replace H : Hp S0 σ0 σ19 [Ch.bx n0 b1 0 [(I f_0.1), (I f_0.2.1), (I f_0.2.2)] [] []] := H
   refine st (v := (B r16)) (rv_pick_t (congrArg B hb14) rfl) ?_
   refine st (v := (B r16)) (rv_assign rfl) ?_
   refine w_end ?_
   refine q_then ?_
   refine c_ret ?_
   obtain rfl := Option.some.inj h
   exact fin_ret (v := (B r16)) (results_ok Try.results41 (res_tmp (v := (B r16)) rfl res_nil) rfl) ⟨rfl, rfl⟩ (H.sel' [] rfl rfl)
  ·replace h := bif_f hb14 h
   refine st_skip (congrArg some hb14) ?_
   refine st_skip (congrArg some hb14) ?_
   refine st_skip (congrArg some hb14) ?_
   refine st (v := (B false)) (rv_pick_f (congrArg B hb14) rfl) ?_
   refine st (v := (B false)) (rv_assign rfl) ?_
   refine w_end ?_
   refine q_then ?_
   refine c_ret ?_
   obtain rfl := Option.some.inj h
   exact fin_ret (v := (B false)) (results_ok Try.results41 (res_tmp (v := (B false)) rfl res_nil) rfl) ⟨rfl, rfl⟩ (H.sel' [] rfl rfl)
 ·replace h := bif_f hb8 h
  refine st_skip (congrArg some hb8) ?_
  refine st_skip (congrArg some hb8) ?_
  refine st_skip (congrArg some hb8) ?_
  refine st (v := (B false)) (rv_pick_f (congrArg B hb8) rfl) ?_
  refine st (v := (B false)) (rv_move rfl) ?_
  refine st_skip rfl ?_
  refine st_skip rfl ?_
  refine st_skip rfl ?_
  refine st (v := (B false)) (rv_pick_f rfl rfl) ?_
  refine st (v := (B false)) (rv_assign rfl) ?_
  refine w_end ?_
  refine q_then ?_
  refine c_ret ?_
  obtain rfl := Option.some.inj h
  exact fin_ret (v := (B false)) (results_ok Try.results41 (res_tmp (v := (B false)) rfl res_nil) rfl) ⟨rfl, rfl⟩ (H.sel' [] rfl rfl)

theorem c_spec_BothFilters {f_0 : Int × Int × Int} {g_1 : Int × Int × Int}  {r : (Int × Int × Int) × Bool} (h : M.spec_BothFilters f_0 g_1 = some r) :
    Cal2 Try.prog 28 [(.agg #[(I f_0.1), (I f_0.2.1), (I f_0.2.2)]), (.agg #[(I g_1.1), (I g_1.2.1), (I g_1.2.2)])] [] (fun n0 v L => v = (.tuple #[(.agg #[(I r.1.1), (I r.1.2.1), (I r.1.2.2)]), (B r.2)]) ∧ L = []) := by
 refine cal2 (n := 41) Try.func28 rfl rfl rfl rfl ?_
 intro S0 σ0 n0 hn0 H
 unfold M.spec_BothFilters at h
 refine c_seq ?_
 refine rg ?_
 refine st_ex (ex_box (cs := [(I f_0.1), (I f_0.2.1), (I f_0.2.2)]) H hn0 rfl rfl) wn ?_
 rintro _ σ2 ⟨b1, rfl, H, -⟩
 refine st_ex (ex_box (cs := [(I g_1.1), (I g_1.2.1), (I g_1.2.2)]) H hn0 rfl rfl) wn ?_
 rintro _ σ4 ⟨b3, rfl, H, -⟩
 refine st_ex (ex_alloc (cs := [(I 0), (I 0), (I 0)]) H hn0 ti25 rfl) wn ?_
 rintro _ σ6 ⟨b5, rfl, H, -⟩
 refine st (v := (B false)) (rv_assign rfl) ?_
 refine w_end ?_
 refine q_then ?_
 refine c_seq ?_
 refine c_seq ?_
 obtain ⟨o7, hj, h'⟩ := bind_some h
 clear h
 refine c_cut (fun e a w => e = .normal ∧ ∃ (ρ : Nat → Value) (σ : St), a = fr 41 (updL ρ [(2, (pt b1 0)), (3, (pt b3 0)), (4, (pt b5 0)), (23, (B o7))]) ∧ w = σ.w ∧ Hp S0 σ0 σ [Ch.bx n0 b1 0 [(I f_0.1), (I f_0.2.1), (I f_0.2.2)] [] [], Ch.bx n0 b3 0 [(I g_1.1), (I g_1.2.1), (I g_1.2.2)] [] [], Ch.bx n0 b5 0 [(I 0), (I 0), (I 0)] [] []]) ?_ ?_
 ·clear h'
  rename _ = some o7 => h
  refine rg ?_
  have hc8 := H.cells 2 rfl
  refine st (v := (.agg #[(I f_0.1), (I f_0.2.1), (I f_0.2.2)])) (rv_load (cs := [(I f_0.1), (I f_0.2.1), (I f_0.2.2)]) Try.underlying25 rfl ti25 rfl rfl hc8) ?_
  obtain ⟨r9, hx10, h'⟩ := bind_some h
  clear h
  have h := h'; clear h'
  have hc11 := c_spec_validFilter hx10
  refine st_call (cx_call hc11 (ent_f hc11.fn rfl) hn0 (show Hp S0 σ0 _ ([] ++ [Ch.bx n0 b5 0 [(I 0), (I 0), (I 0)] [] [], Ch.bx n0 b3 0 [(I g_1.1), (I g_1.2.1), (I g_1.2.2)] [] [], Ch.bx n0 b1 0 [(I f_0.1), (I f_0.2.1), (I f_0.2.2)] [] []]) from (H.sel' [0, 1, 2] rfl rfl))) wn ?_
  rintro _ σ12 ⟨_, ⟨rfl, rfl⟩, H, -⟩
  replace H : Hp S0 σ0 σ12 [Ch.bx n0 b5 0 [(I 0), (I 0), (I 0)] [] [], Ch.bx n0 b3 0 [(I g_1.1), (I g_1.2.1), (I g_1.2.2)] [] [], Ch.bx n0 b1 0 [(I f_0.1), (I f_0.2.1), (I f_0.2.2)] [] []] := H
  refine st (v := (B (!r9))) (rv_not rfl) ?_
  refine st (v := (B (!r9))) (rv_move rfl) ?_
  rcases Bool.eq_false_or_eq_true (!r9) with hb13 | hb13
  ·replace h := bif_t hb13 h
   refine st_skip (congrArg some hb13) ?_
   refine st_skip (congrArg some hb13) ?_
   refine st_skip (congrArg some hb13) ?_
   refine st (v := (B true)) (rv_pick_t (congrArg B hb13) rfl) ?_
   refine st (v := (B true)) (rv_move rfl) ?_
   refine st_skip rfl ?_
   refine st_skip rfl ?_
   refine st_skip rfl ?_
   refine st_skip rfl ?_
   refine st_skip_u rfl ?_
   refine st_skip_u rfl ?_
   refine st_skip_u rfl ?_
   refine st_skip rfl ?_
   refine st (v := (B true)) (rv_pick_t rfl rfl) ?_
   refine w_end ?_
   obtain rfl := Option.some.inj h
   exact ⟨rfl, _, σ12, fr_join ⟨rfl, rfl, rfl, rfl, trivial⟩, rfl, H.sel' [2, 1, 0] rfl rfl⟩
  ·replace h := bif_f hb13 h
   have hc14 := H.cells 1 rfl
   refine st_g (v := (.agg #[(I g_1.1), (I g_1.2.1), (I g_1.2.2)])) (congrArg some hb13) (rv_load (cs := [(I g_1.1), (I g_1.2.1), (I g_1.2.2)]) Try.underlying25 rfl ti25 rfl rfl hc14) ?_
   obtain ⟨r15, hx16, h'⟩ := bind_some h
   clear h
   have h := h'; clear h'
   have hc17 := c_spec_validFilter hx16
   refine st_call (cx_call hc17 (ent_f hc17.fn rfl) hn0 (show Hp S0 σ0 _ ([] ++ [Ch.bx n0 b5 0 [(I 0), (I 0), (I 0)] [] [], Ch.bx n0 b3 0 [(I g_1.1), (I g_1.2.1), (I g_1.2.2)] [] [], Ch.bx n0 b1 0 [(I f_0.1), (I f_0.2.1), (I f_0.2.2)] [] []]) from (H.sel' [0, 1, 2] rfl rfl))) (wanted_yes rfl (by exact (congrArg some hb13))) ?_
   rintro _ σ18 ⟨_, ⟨rfl, rfl⟩, H, -⟩
   replace H : Hp S0 σ0 σ18 [Ch.bx n0 b5 0 [(I 0), (I 0), (I 0)] [] [], Ch.bx n0 b3 0 [(I g_1.1), (I g_1.2.1), (I g_1.2.2)] [] [], Ch.bx n0 b1 0 [(I f_0.1), (I f_0.2.1), (I f_0.2.2)] [] []] := H
   refine st_g (v := (B (!r15))) (congrArg some hb13) (rv_not rfl) ?_
   refine st (v := (B (!r15))) (rv_pick_f (congrArg B hb13) rfl) ?_
   refine st (v := (B (!r15))) (rv_move rfl) ?_
   rcases Bool.eq_false_or_eq_true (!r15) with hb19 | hb19
   ·replace h := bif_t hb19 h
    refine st_skip (congrArg some hb19) ?_
    refine st_skip (congrArg some hb19) ?_
    refine st_skip (congrArg some hb19) ?_
    refine st_skip (congrArg some hb19) ?_
    refine st_skip_u rfl ?_
    refine st_skip_u rfl ?_
    refine st_skip_u rfl ?_
    refine st_skip (congrArg some hb19) ?_
    refine st (v := (B true)) (rv_pick_t (congrArg B hb19) rfl) ?_
    refine w_end ?_
    obtain rfl := Option.some.inj h
    exact ⟨rfl, _, σ18, fr_join ⟨rfl, rfl, rfl, rfl, trivial⟩, rfl, H.sel' [2, 1, 0] rfl rfl⟩
   ·replace h := bif_f hb19 h
    refine st_g (v := (pt b1 2)) (congrArg some hb19) (rv_fieldAddr (off := 2) (ft := 3) Try.underlying25 rfl ti3 rfl rfl) ?_
    have hc20 := H.cell (u := (I f_0.2.2)) (o' := 2) 2 2 rfl rfl rfl
    refine st_g (v := (I f_0.2.2)) (congrArg some hb19) (rv_load1 Try.underlying3 rfl rfl hc20) ?_
    refine st_g (v := (B (f_0.2.2 != 0))) (congrArg some hb19) (rv_neq (a := f_0.2.2) (b := 0) rfl rfl) ?_
    refine st_g (v := (B (f_0.2.2 != 0))) (congrArg some hb19) (rv_move rfl) ?_
    rcases Bool.eq_false_or_eq_true (f_0.2.2 != 0) with hb21 | hb21
    ·replace h := bif_t hb21 h
     refine st_g (v := (pt b3 2)) (congrArg some hb21) (rv_fieldAddr (off := 2) (ft := 3) Try.underlying25 rfl ti3 rfl rfl) ?_
     have hc22 := H.cell (u := (I g_1.2.2)) (o' := 2) 1 2 rfl rfl rfl
     refine st_g (v := (I g_1.2.2)) (congrArg some hb21) (rv_load1 Try.underlying3 rfl rfl hc22) ?_
     refine st_g (v := (B (g_1.2.2 != 0))) (congrArg some hb21) (rv_neq (a := g_1.2.2) (b := 0) rfl rfl) ?_
     refine st_g (v := (B (g_1.2.2 != 0))) (congrArg some hb19) (rv_pick_t (congrArg B hb21) rfl) ?_
     refine st (v := (B (g_1.2.2 != 0))) (rv_pick_f (congrArg B hb19) rfl) ?_
     refine w_end ?_
     obtain rfl := Option.some.inj h
     exact ⟨rfl, _, σ18, fr_join ⟨rfl, rfl, rfl, rfl, trivial⟩, rfl, H.sel' [2, 1, 0] rfl rfl⟩
    ·replace h := bif_f hb21 h
     refine st_skip (congrArg some hb21) ?_
     refine st_skip (congrArg some hb21) ?_
     refine st_skip (congrArg some hb21) ?_
     refine st_g (v := (B false)) (congrArg some hb19) (rv_pick_f (congrArg B hb21) rfl) ?_
     refine st (v := (B false)) (rv_pick_f (congrArg B hb19) rfl) ?_
     refine w_end ?_
     obtain rfl := Option.some.inj h
     exact ⟨rfl, _, σ18, fr_join ⟨rfl, rfl, rfl, rfl, trivial⟩, rfl, H.sel' [2, 1, 0] rfl rfl⟩
 ·clear hj
  have h := h'
  clear h' H
  rintro e a w ⟨rfl, ρ, σ23, rfl, rfl, H⟩
  refine q_then ?_
  refine cd_cond o7 rfl (fun hb24 => ?_) (fun hb24 => ?_)
  ·replace h := bif_t hb24 h
   refine c_seq ?_
   refine rg ?_
   refine st (v := (.agg #[(I 0), (I 0), (I 0)])) (rv_build (ps := []) Try.underlying25 ti25 (bp25 Try.underlying25) rfl (by kernel_rfl)) ?_
   refine st_exS (ex_store_box (k := 0) (cs := [(I 0), (I 0), (I 0)]) (vs := [(I 0), (I 0), (I 0)]) (cs' := [(I 0), (I 0), (I 0)]) H (i := 2) rfl ti25 rfl rfl rfl rfl rfl (Nat.le_of_ble_eq_true rfl) (by simp [plain]) rfl) wn ?_
   rintro σ25 ⟨H, -⟩
   refine st (v := (B false)) (rv_assign rfl) ?_
   refine w_end ?_
   refine q_then ?_
   refine c_ret ?_
   refine q_then_r ?_
   obtain rfl := Option.some.inj h
   exact fin_ret (v := (.tuple #[(.agg #[(I 0), (I 0), (I 0)]), (B false)])) (results_ok Try.results28 (res_cell rfl (run_cellRes (cs := [(I 0), (I 0), (I 0)]) Try.underlying25 rfl ti25 rfl (H.cells 0 rfl)) (res_tmp (v := (B false)) rfl res_nil)) rfl) ⟨rfl, rfl⟩ (H.sel' [] rfl rfl)
  ·replace h := bif_f hb24 h
   refine c_skip ?_
   refine q_then ?_
   refine c_seq ?_
   refine rg ?_
   refine st (v := (pt b1 0)) (rv_fieldAddr (off := 0) (ft := 3) Try.underlying25 rfl ti3 rfl rfl) ?_
   have hc26 := H.cell (u := (I f_0.1)) (o' := 0) 0 0 rfl rfl rfl
   refine st (v := (I f_0.1)) (rv_load1 Try.underlying3 rfl rfl hc26) ?_
   refine st (v := (pt b3 0)) (rv_fieldAddr (off := 0) (ft := 3) Try.underlying25 rfl ti3 rfl rfl) ?_
   have hc27 := H.cell (u := (I g_1.1)) (o' := 0) 1 0 rfl rfl rfl
   refine st (v := (I g_1.1)) (rv_load1 Try.underlying3 rfl rfl hc27) ?_
   refine st (v := (I (gor f_0.1 g_1.1))) (rv_or (a := f_0.1) (b := g_1.1) rfl rfl) ?_
   refine st (v := (pt b1 1)) (rv_fieldAddr (off := 1) (ft := 3) Try.underlying25 rfl ti3 rfl rfl) ?_
   have hc28 := H.cell (u := (I f_0.2.1)) (o' := 1) 0 1 rfl rfl rfl
   refine st (v := (I f_0.2.1)) (rv_load1 Try.underlying3 rfl rfl hc28) ?_
   refine st (v := (pt b3 1)) (rv_fieldAddr (off := 1) (ft := 3) Try.underlying25 rfl ti3 rfl rfl) ?_
   have hc29 := H.cell (u := (I g_1.2.1)) (o' := 1) 1 1 rfl rfl rfl
   refine st (v := (I g_1.2.1)) (rv_load1 Try.underlying3 rfl rfl hc29) ?_
   refine st (v := (I (gor f_0.2.1 g_1.2.1))) (rv_or (a := f_0.2.1) (b := g_1.2.1) rfl rfl) ?_
   refine st (v := (pt b1 2)) (rv_fieldAddr (off := 2) (ft := 3) Try.underlying25 rfl ti3 rfl rfl) ?_
   have hc30 := H.cell (u := (I f_0.2.2)) (o' := 2) 0 2 rfl rfl rfl
   refine st (v := (I f_0.2.2)) (rv_load1 Try.underlying3 rfl rfl hc30) ?_
   refine st (v := (pt b3 2)) (rv_fieldAddr (off := 2) (ft := 3) Try.underlying25 rfl ti3 rfl rfl) ?_
   have hc31 := H.cell (u := (I g_1.2.2)) (o' := 2) 1 2 rfl rfl rfl
   refine st (v := (I g_1.2.2)) (rv_load1 Try.underlying3 rfl rfl hc31) ?_
   refine st (v := (I (gor f_0.2.2 g_1.2.2))) (rv_or (a := f_0.2.2) (b := g_1.2.2) rfl rfl) ?_
   refine st (v := (.agg #[(I (gor f_0.1 g_1.1)), (I (gor f_0.2.1 g_1.2.1)), (I (gor f_0.2.2 g_1.2.2))])) (rv_build (ps := [(0, (I (gor f_0.1 g_1.1))), (1, (I (gor f_0.2.1 g_1.2.1))), (2, (I (gor f_0.2.2 g_1.2.2)))]) Try.underlying25 ti25 (bp25 Try.underlying25) rfl (by kernel_rfl)) ?_
   refine st_exS (ex_store_box (k := 0) (cs := [(I 0), (I 0), (I 0)]) (vs := [(I (gor f_0.1 g_1.1)), (I (gor f_0.2.1 g_1.2.1)), (I (gor f_0.2.2 g_1.2.2))]) (cs' := [(I (gor f_0.1 g_1.1)), (I (gor f_0.2.1 g_1.2.1)), (I (gor f_0.2.2 g_1.2.2))]) H (i := 2) rfl ti25 rfl rfl rfl rfl rfl (Nat.le_of_ble_eq_true rfl) (by simp [plain]) rfl) wn ?_
   rintro σ32 ⟨H, -⟩
   refine st (v := (B true)) (rv_assign rfl) ?_
   refine w_end ?_
   refine q_then ?_
   refine c_ret ?_
   obtain rfl := Option.some.inj h
   exact fin_ret (v := (.tuple #[(.agg #[(I (gor f_0.1 g_1.1)), (I (gor f_0.2.1 g_1.2.1)), (I (gor f_0.2.2 g_1.2.2))]), (B true)])) (results_ok Try.results28 (res_cell rfl (run_cellRes (cs := [(I (gor f_0.1 g_1.1)), (I (gor f_0.2.1 g_1.2.1)), (I (gor f_0.2.2 g_1.2.2))]) Try.underlying25 rfl ti25 rfl (H.cells 0 rfl)) (res_tmp (v := (B true)) rfl res_nil)) rfl) ⟨rfl, rfl⟩ (H.sel' [] rfl rfl)

theorem c_impl_validTags {tags_0 : Int}  {r : Bool} (h : M.impl_validTags tags_0 = some r) :
    Cal2 Try.prog 45 [(I tags_0)] [] (fun n0 v L => v = (B r) ∧ L = []) := by
 refine cal2 (n := 9) Try.func45 rfl rfl rfl rfl ?_
 intro S0 σ0 n0 hn0 H
 unfold M.impl_validTags at h
 refine c_seq ?_
 refine rg ?_
 refine st (v := (B false)) (rv_assign rfl) ?_
 refine w_end ?_
 refine q_then ?_
 refine c_seq ?_
 refine rg ?_
 refine st (v := (I tags_0)) (rv_move rfl) ?_
 refine st (v := (B (decide (0 ≤ tags_0)))) (rv_geq (a := tags_0) (b := 0) rfl rfl) ?_
 refine st (v := (B (decide (0 ≤ tags_0)))) (rv_move rfl) ?_
 rcases Bool.eq_false_or_eq_true (decide (0 ≤ tags_0)) with hb1 | hb1
 ·replace h := bif_t hb1 h
  refine st_g (v := (I tags_0)) (congrArg some hb1) (rv_move rfl) ?_
  refine st_g (v := (B (decide (tags_0 ≤ 15)))) (congrArg some hb1) (rv_leq (a := tags_0) (b := 15) rfl rfl) ?_
  refine st (v := (B (decide (tags_0 ≤ 15)))) (rv_pick_t (congrArg B hb1) rfl) ?_
  refine st (v := (B (decide (tags_0 ≤ 15)))) (rv_assign rfl) ?_
  refine w_end ?_
  refine q_then ?_
  refine c_ret ?_
  obtain rfl := Option.some.inj h
  exact fin_ret (v := (B (decide (tags_0 ≤ 15)))) (results_ok Try.results45 (res_tmp (v := (B (decide (tags_0 ≤ 15)))) rfl res_nil) rfl) ⟨rfl, rfl⟩ (H.sel' [] rfl rfl)
 ·replace h := bif_f hb1 h
  refine st_skip (congrArg some hb1) ?_
  refine st_skip (congrArg some hb1) ?_
  refine st (v := (B false)) (rv_pick_f (congrArg B hb1) rfl) ?_
  refine st (v := (B false)) (rv_assign rfl) ?_
  refine w_end ?_
  refine q_then ?_
  refine c_ret ?_
  obtain rfl := Option.some.inj h
  exact fin_ret (v := (B false)) (results_ok Try.results45 (res_tmp (v := (B false)) rfl res_nil) rfl) ⟨rfl, rfl⟩ (H.sel' [] rfl rfl)

theorem c_impl_ValidFilter {f_0 : Int × Int × Int}  {r : Bool} (h : M.impl_ValidFilter f_0 = some r) :
    Cal2 Try.prog 44 [(.agg #[(I f_0.1), (I f_0.2.1), (I f_0.2.2)])] [] (fun n0 v L => v = (B r) ∧ L = []) := by
 refine cal2 (n := 16) Try.func44 rfl rfl rfl rfl ?_
 intro S0 σ0 n0 hn0 H
 unfold M.impl_ValidFilter at h
 refine c_seq ?_
 refine rg ?_
 refine st_ex (ex_box (cs := [(I f_0.1), (I f_0.2.1), (I f_0.2.2)]) H hn0 rfl rfl) wn ?_
 rintro _ σ2 ⟨b1, rfl, H, -⟩
 refine st (v := (B false)) (rv_assign rfl) ?_
 refine w_end ?_
 refine q_then ?_
 refine c_seq ?_
 refine rg ?_
 refine st (v := (pt b1 0)) (rv_fieldAddr (off := 0) (ft := 3) Try.underlying25 rfl ti3 rfl rfl) ?_
 have hc3 := H.cell (u := (I f_0.1)) (o' := 0) 0 0 rfl rfl rfl
 refine st (v := (I f_0.1)) (rv_load1 Try.underlying3 rfl rfl hc3) ?_
 obtain ⟨r4, hx5, h'⟩ := bind_some h
 clear h
 have h := h'; clear h'
 have hc6 := c_impl_validTags hx5
 refine st_call (cx_call hc6 (ent_f hc6.fn rfl) hn0 (show Hp S0 σ0 _ ([] ++ [Ch.bx n0 b1 0 [(I f_0.1), (I f_0.2.1), (I f_0.2.2)] [] []]) from (H.sel' [0] rfl rfl))) wn ?_
 rintro _ σ7 ⟨_, ⟨rfl, rfl⟩, H, -⟩
 replace H : Hp S0 σ0 σ7 [Ch.bx n0 b1 0 [(I f_0.1), (I f_0.2.1), (I f_0.2.2)] [] []] := H
 refine st (v := (B r4)) (rv_move rfl) ?_
 rcases Bool.eq_false_or_eq_true r4 with hb8 | hb8
 ·replace h := bif_t hb8 h
  refine st_g (v := (pt b1 1)) (congrArg some hb8) (rv_fieldAddr (off := 1) (ft := 3) Try.underlying25 rfl ti3 rfl rfl) ?_
  have hc9 := H.cell (u := (I f_0.2.1)) (o' := 1) 0 1 rfl rfl rfl
  refine st_g (v := (I f_0.2.1)) (congrArg some hb8) (rv_load1 Try.underlying3 rfl rfl hc9) ?_
  obtain ⟨r10, hx11, h'⟩ := bind_some h
  clear h
  have h := h'; clear h'
  have hc12 := c_impl_validTags hx11
  refine st_call (cx_call hc12 (ent_f hc12.fn rfl) hn0 (show Hp S0 σ0 _ ([] ++ [Ch.bx n0 b1 0 [(I f_0.1), (I f_0.2.1), (I f_0.2.2)] [] []]) from (H.sel' [0] rfl rfl))) (wanted_yes rfl (by exact (congrArg some hb8))) ?_
  rintro _ σ13 ⟨_, ⟨rfl, rfl⟩, H, -⟩
  replace H : Hp S0 σ0 σ13 [Ch.bx n0 b1 0 [(I f_0.1), (I f_0.2.1), (I f_0.2.2)] [] []] := H
  refine st (v := (B r10)) (rv_pick_t (congrArg B hb8) rfl) ?_
  refine st (v := (B r10)) (rv_move rfl) ?_
  rcases Bool.eq_false_or_eq_true r10 with hb14 | hb14
  ·replace h := bif_t hb14 h
   refine st_g (v := (pt b1 2)) (congrArg some hb14) (rv_fieldAddr (off := 2) (ft := 3) Try.underlying25 rfl ti3 rfl rfl) ?_
   have hc15 := H.cell (u := (I f_0.2.2)) (o' := 2) 0 2 rfl rfl rfl
   refine st_g (v := (I f_0.2.2)) (congrArg some hb14) (rv_load1 Try.underlying3 rfl rfl hc15) ?_
   obtain ⟨r16, hx17, h'⟩ := bind_some h
   clear h
   have h := h'; clear h'
   have hc18 := c_impl_validTags hx17
   refine st_call (cx_call hc18 (ent_f hc18.fn rfl) hn0 (show Hp S0 σ0 _ ([] ++ [Ch.bx n0 b1 0 [(I f_0.1), (I f_0.2.1), (I f_0.2.2)] [] []]) from (H.sel' [0] rfl rfl))) (wanted_yes rfl (by exact (congrArg some hb14))) ?_
   rintro _ σ19 ⟨_, ⟨rfl, rfl⟩, H, -⟩
   replace H : Hp S0 σ0 σ19 [Ch.bx n0 b1 0 [(I f_0.1), (I f_0.2.1), (I f_0.2.2)] [] []] := H
   refine st (v := (B r16)) (rv_pick_t (congrArg B hb14) rfl) ?_
   refine st (v := (B r16)) (rv_assign rfl) ?_
   refine w_end ?_
   refine q_then ?_
   refine c_ret ?_
   obtain rfl := Option.some.inj h
   exact fin_ret (v := (B r16)) (results_ok Try.results44 (res_tmp (v := (B r16)) rfl res_nil) rfl) ⟨rfl, rfl⟩ (H.sel' [] rfl rfl)
  ·replace h := bif_f hb14 h
   refine st_skip (congrArg some hb14) ?_
   refine st_skip (congrArg some hb14) ?_
   refine st_skip (congrArg some hb14) ?_
   refine st (v := (B false)) (rv_pick_f (congrArg B hb14) rfl) ?_
   refine st (v := (B false)) (rv_assign rfl) ?_
   refine w_end ?_
   refine q_then ?_
   refine c_ret ?_
   obtain rfl := Option.some.inj h
   exact fin_ret (v := (B false)) (results_ok Try.results44 (res_tmp (v := (B false)) rfl res_nil) rfl) ⟨rfl, rfl⟩ (H.sel' [] rfl rfl)
 ·replace h := bif_f hb8 h
  refine st_skip (congrArg some hb8) ?_
  refine st_skip (congrArg some hb8) ?_
  refine st_skip (congrArg some hb8) ?_
  refine st (v := (B false)) (rv_pick_f (congrArg B hb8) rfl) ?_
  refine st (v := (B false)) (rv_move rfl) ?_
  refine st_skip rfl ?_
  refine st_skip rfl ?_
  refine st_skip rfl ?_
  refine st (v := (B false)) (rv_pick_f rfl rfl) ?_
  refine st (v := (B false)) (rv_assign rfl) ?_
  refine w_end ?_
  refine q_then ?_
  refine c_ret ?_
  obtain rfl := Option.some.inj h
  exact fin_ret (v := (B false)) (results_ok Try.results44 (res_tmp (v := (B false)) rfl res_nil) rfl) ⟨rfl, rfl⟩ (H.sel' [] rfl rfl)

theorem c_impl_BothFilters {f_0 : Int × Int × Int} {g_1 : Int × Int × Int}  {r : (Int × Int × Int) × Bool} (h : M.impl_BothFilters f_0 g_1 = some r) :
    Cal2 Try.prog 29 [(.agg #[(I f_0.1), (I f_0.2.1), (I f_0.2.2)]), (.agg #[(I g_1.1), (I g_1.2.1), (I g_1.2.2)])] [] (fun n0 v L => v = (.tuple #[(.agg #[(I r.1.1), (I r.1.2.1), (I r.1.2.2)]), (B r.2)]) ∧ L = []) := by
 refine cal2 (n := 41) Try.func29 rfl rfl rfl rfl ?_
 intro S0 σ0 n0 hn0 H
 unfold M.impl_BothFilters at h
 refine c_seq ?_
 refine rg ?_
 refine st_ex (ex_box (cs := [(I f_0.1), (I f_0.2.1), (I f_0.2.2)]) H hn0 rfl rfl) wn ?_
 rintro _ σ2 ⟨b1, rfl, H, -⟩
 refine st_ex (ex_box (cs := [(I g_1.1), (I g_1.2.1), (I g_1.2.2)]) H hn0 rfl rfl) wn ?_
 rintro _ σ4 ⟨b3, rfl, H, -⟩
 refine st_ex (ex_alloc (cs := [(I 0), (I 0), (I 0)]) H hn0 ti25 rfl) wn ?_
 rintro _ σ6 ⟨b5, rfl, H, -⟩
 refine st (v := (B false)) (rv_assign rfl) ?_
 refine w_end ?_
 refine q_then ?_
 refine c_seq ?_
 refine c_seq ?_
 obtain ⟨o7, hj, h'⟩ := bind_some h
 clear h
 refine c_cut (fun e a w => e = .normal ∧ ∃ (ρ : Nat → Value) (σ : St), a = fr 41 (updL ρ [(2, (pt b1 0)), (3, (pt b3 0)), (4, (pt b5 0)), (23, (B o7))]) ∧ w = σ.w ∧ Hp S0 σ0 σ [Ch.bx n0 b1 0 [(I f_0.1), (I f_0.2.1), (I f_0.2.2)] [] [], Ch.bx n0 b3 0 [(I g_1.1), (I g_1.2.1), (I g_1.2.2)] [] [], Ch.bx n0 b5 0 [(I 0), (I 0), (I 0)] [] []]) ?_ ?_
 ·clear h'
  rename _ = some o7 => h
  refine rg ?_
  have hc8 := H.cells 2 rfl
  refine st (v := (.agg #[(I f_0.1), (I f_0.2.1), (I f_0.2.2)])) (rv_load (cs := [(I f_0.1), (I f_0.2.1), (I f_0.2.2)]) Try.underlying25 rfl ti25 rfl rfl hc8) ?_
  obtain ⟨r9, hx10, h'⟩ := bind_some h
  clear h
  have h := h'; clear h'
  have hc11 := c_impl_ValidFilter hx10
  refine st_call (cx_call hc11 (ent_f hc11.fn rfl) hn0 (show Hp S0 σ0 _ ([] ++ [Ch.bx n0 b5 0 [(I 0), (I 0), (I 0)] [] [], Ch.bx n0 b3 0 [(I g_1.1), (I g_1.2.1), (I g_1.2.2)] [] [], Ch.bx n0 b1 0 [(I f_0.1), (I f_0.2.1), (I f_0.2.2)] [] []]) from (H.sel' [0, 1, 2] rfl rfl))) wn ?_
  rintro _ σ12 ⟨_, ⟨rfl, rfl⟩, H, -⟩
  replace H : Hp S0 σ0 σ12 [Ch.bx n0 b5 0 [(I 0), (I 0), (I 0)] [] [], Ch.bx n0 b3 0 [(I g_1.1), (I g_1.2.1), (I g_1.2.2)] [] [], Ch.bx n0 b1 0 [(I f_0.1), (I f_0.2.1), (I f_0.2.2)] [] []] := H
  refine st (v := (B (!r9))) (rv_not rfl) ?_
  refine st (v := (B (!r9))) (rv_move rfl) ?_
  rcases Bool.eq_false_or_eq_true (!r9) with hb13 | hb13
  ·replace h := bif_t hb13 h
   refine st_skip (congrArg some hb13) ?_
   refine st_skip (congrArg some hb13) ?_
   refine st_skip (congrArg some hb13) ?_
   refine st (v := (B true)) (rv_pick_t (congrArg B hb13) rfl) ?_
   refine st (v := (B true)) (rv_move rfl) ?_
   refine st_skip rfl ?_
   refine st_skip rfl ?_
   refine st_skip rfl ?_
   refine st_skip rfl ?_
   refine st_skip_u rfl ?_
   refine st_skip_u rfl ?_
   refine st_skip_u rfl ?_
   refine st_skip rfl ?_
   refine st (v := (B true)) (rv_pick_t rfl rfl) ?_
   refine w_end ?_
   obtain rfl := Option.some.inj h
   exact ⟨rfl, _, σ12, fr_join ⟨rfl, rfl, rfl, rfl, trivial⟩, rfl, H.sel' [2, 1, 0] rfl rfl⟩
  ·replace h := bif_f hb13 h
   have hc14 := H.cells 1 rfl
   refine st_g (v := (.agg #[(I g_1.1), (I g_1.2.1), (I g_1.2.2)])) (congrArg some hb13) (rv_load (cs := [(I g_1.1), (I g_1.2.1), (I g_1.2.2)]) Try.underlying25 rfl ti25 rfl rfl hc14) ?_
   obtain ⟨r15, hx16, h'⟩ := bind_some h
   clear h
   have h := h'; clear h'
   have hc17 := c_impl_ValidFilter hx16
   refine st_call (cx_call hc17 (ent_f hc17.fn rfl) hn0 (show Hp S0 σ0 _ ([] ++ [Ch.bx n0 b5 0 [(I 0), (I 0), (I 0)] [] [], Ch.bx n0 b3 0 [(I g_1.1), (I g_1.2.1), (I g_1.2.2)] [] [], Ch.bx n0 b1 0 [(I f_0.1), (I f_0.2.1), (I f_0.2.2)] [] []]) from (H.sel' [0, 1, 2] rfl rfl))) (wanted_yes rfl (by exact (congrArg some hb13))) ?_
   rintro _ σ18 ⟨_, ⟨rfl, rfl⟩, H, -⟩
   replace H : Hp S0 σ0 σ18 [Ch.bx n0 b5 0 [(I 0), (I 0), (I 0)] [] [], Ch.bx n0 b3 0 [(I g_1.1), (I g_1.2.1), (I g_1.2.2)] [] [], Ch.bx n0 b1 0 [(I f_0.1), (I f_0.2.1), (I f_0.2.2)] [] []] := H
   refine st_g (v := (B (!r15))) (congrArg some hb13) (rv_not rfl) ?_
   refine st (v := (B (!r15))) (rv_pick_f (congrArg B hb13) rfl) ?_
   refine st (v := (B (!r15))) (rv_move rfl) ?_
   rcases Bool.eq_false_or_eq_true (!r15) with hb19 | hb19
   ·replace h := bif_t hb19 h
    refine st_skip (congrArg some hb19) ?_
    refine st_skip (congrArg some hb19) ?_
    refine st_skip (congrArg some hb19) ?_
    refine st_skip (congrArg some hb19) ?_
    refine st_skip_u rfl ?_
    refine st_skip_u rfl ?_
    refine st_skip_u rfl ?_
    refine st_skip (congrArg some hb19) ?_
    refine st (v := (B true)) (rv_pick_t (congrArg B hb19) rfl) ?_
    refine w_end ?_
    obtain rfl := Option.some.inj h
    exact ⟨rfl, _, σ18, fr_join ⟨rfl, rfl, rfl, rfl, trivial⟩, rfl, H.sel' [2, 1, 0] rfl rfl⟩
   ·replace h := bif_f hb19 h
    refine st_g (v := (pt b1 2)) (congrArg some hb19) (rv_fieldAddr (off := 2) (ft := 3) Try.underlying25 rfl ti3 rfl rfl) ?_
    have hc20 := H.cell (u := (I f_0.2.2)) (o' := 2) 2 2 rfl rfl rfl
    refine st_g (v := (I f_0.2.2)) (congrArg some hb19) (rv_load1 Try.underlying3 rfl rfl hc20) ?_
    refine st_g (v := (B (f_0.2.2 != 0))) (congrArg some hb19) (rv_neq (a := f_0.2.2) (b := 0) rfl rfl) ?_
    refine st_g (v := (B (f_0.2.2 != 0))) (congrArg some hb19) (rv_move rfl) ?_
    rcases Bool.eq_false_or_eq_true (f_0.2.2 != 0) with hb21 | hb21
    ·replace h := bif_t hb21 h
     refine st_g (v := (pt b3 2)) (congrArg some hb21) (rv_fieldAddr (off := 2) (ft := 3) Try.underlying25 rfl ti3 rfl rfl) ?_
     have hc22 := H.cell (u := (I g_1.2.2)) (o' := 2) 1 2 rfl rfl rfl
     refine st_g (v := (I g_1.2.2)) (congrArg some hb21) (rv_load1 Try.underlying3 rfl rfl hc22) ?_
     refine st_g (v := (B (g_1.2.2 != 0))) (congrArg some hb21) (rv_neq (a := g_1.2.2) (b := 0) rfl rfl) ?_
     refine st_g (v := (B (g_1.2.2 != 0))) (congrArg some hb19) (rv_pick_t (congrArg B hb21) rfl) ?_
     refine st (v := (B (g_1.2.2 != 0))) (rv_pick_f (congrArg B hb19) rfl) ?_
     refine w_end ?_
     obtain rfl := Option.some.inj h
     exact ⟨rfl, _, σ18, fr_join ⟨rfl, rfl, rfl, rfl, trivial⟩, rfl, H.sel' [2, 1, 0] rfl rfl⟩
    ·replace h := bif_f hb21 h
     refine st_skip (congrArg some hb21) ?_
     refine st_skip (congrArg some hb21) ?_
     refine st_skip (congrArg some hb21) ?_
     refine st_g (v := (B false)) (congrArg some hb19) (rv_pick_f (congrArg B hb21) rfl) ?_
     refine st (v := (B false)) (rv_pick_f (congrArg B hb19) rfl) ?_
     refine w_end ?_
     obtain rfl := Option.some.inj h
     exact ⟨rfl, _, σ18, fr_join ⟨rfl, rfl, rfl, rfl, trivial⟩, rfl, H.sel' [2, 1, 0] rfl rfl⟩
 ·clear hj
  have h := h'
  clear h' H
  rintro e a w ⟨rfl, ρ, σ23, rfl, rfl, H⟩
  refine q_then ?_
  refine cd_cond o7 rfl (fun hb24 => ?_) (fun hb24 => ?_)
  ·replace h := bif_t hb24 h
   refine c_seq ?_
   refine rg ?_
   refine st (v := (.agg #[(I 0), (I 0), (I 0)])) (rv_build (ps := []) Try.underlying25 ti25 (bp25 Try.underlying25) rfl (by kernel_rfl)) ?_
   refine st_exS (ex_store_box (k := 0) (cs := [(I 0), (I 0), (I 0)]) (vs := [(I 0), (I 0), (I 0)]) (cs' := [(I 0), (I 0), (I 0)]) H (i := 2) rfl ti25 rfl rfl rfl rfl rfl (Nat.le_of_ble_eq_true rfl) (by simp [plain]) rfl) wn ?_
   rintro σ25 ⟨H, -⟩
   refine st (v := (B false)) (rv_assign rfl) ?_
   refine w_end ?_
   refine q_then ?_
   refine c_ret ?_
   refine q_then_r ?_
   obtain rfl := Option.some.inj h
   exact fin_ret (v := (.tuple #[(.agg #[(I 0), (I 0), (I 0)]), (B false)])) (results_ok Try.results29 (res_cell rfl (run_cellRes (cs := [(I 0), (I 0), (I 0)]) Try.underlying25 rfl ti25 rfl (H.cells 0 rfl)) (res_tmp (v := (B false)) rfl res_nil)) rfl) ⟨rfl, rfl⟩ (H.sel' [] rfl rfl)
  ·replace h := bif_f hb24 h
   refine c_skip ?_
   refine q_then ?_
   refine c_seq ?_
   refine rg ?_
   refine st (v := (pt b1 0)) (rv_fieldAddr (off := 0) (ft := 3) Try.underlying25 rfl ti3 rfl rfl) ?_
   have hc26 := H.cell (u := (I f_0.1)) (o' := 0) 0 0 rfl rfl rfl
   refine st (v := (I f_0.1)) (rv_load1 Try.underlying3 rfl rfl hc26) ?_
   refine st (v := (pt b3 0)) (rv_fieldAddr (off := 0) (ft := 3) Try.underlying25 rfl ti3 rfl rfl) ?_
   have hc27 := H.cell (u := (I g_1.1)) (o' := 0) 1 0 rfl rfl rfl
   refine st (v := (I g_1.1)) (rv_load1 Try.underlying3 rfl rfl hc27) ?_
   refine st (v := (I (gor f_0.1 g_1.1))) (rv_or (a := f_0.1) (b := g_1.1) rfl rfl) ?_
   refine st (v := (pt b1 1)) (rv_fieldAddr (off := 1) (ft := 3) Try.underlying25 rfl ti3 rfl rfl) ?_
   have hc28 := H.cell (u := (I f_0.2.1)) (o' := 1) 0 1 rfl rfl rfl
   refine st (v := (I f_0.2.1)) (rv_load1 Try.underlying3 rfl rfl hc28) ?_
   refine st (v := (pt b3 1)) (rv_fieldAddr (off := 1) (ft := 3) Try.underlying25 rfl ti3 rfl rfl) ?_
   have hc29 := H.cell (u := (I g_1.2.1)) (o' := 1) 1 1 rfl rfl rfl
   refine st (v := (I g_1.2.1)) (rv_load1 Try.underlying3 rfl rfl hc29) ?_
   refine st (v := (I (gor f_0.2.1 g_1.2.1))) (rv_or (a := f_0.2.1) (b := g_1.2.1) rfl rfl) ?_
   refine st (v := (pt b1 2)) (rv_fieldAddr (off := 2) (ft := 3) Try.underlying25 rfl ti3 rfl rfl) ?_
   have hc30 := H.cell (u := (I f_0.2.2)) (o' := 2) 0 2 rfl rfl rfl
   refine st (v := (I f_0.2.2)) (rv_load1 Try.underlying3 rfl rfl hc30) ?_
   refine st (v := (pt b3 2)) (rv_fieldAddr (off := 2) (ft := 3) Try.underlying25 rfl ti3 rfl rfl) ?_
   have hc31 := H.cell (u := (I g_1.2.2)) (o' := 2) 1 2 rfl rfl rfl
   refine st (v := (I g_1.2.2)) (rv_load1 Try.underlying3 rfl rfl hc31) ?_
   refine st (v := (I (gor f_0.2.2 g_1.2.2))) (rv_or (a := f_0.2.2) (b := g_1.2.2) rfl rfl) ?_
   refine st (v := (.agg #[(I (gor f_0.1 g_1.1)), (I (gor f_0.2.1 g_1.2.1)), (I (gor f_0.2.2 g_1.2.2))])) (rv_build (ps := [(0, (I (gor f_0.1 g_1.1))), (1, (I (gor f_0.2.1 g_1.2.1))), (2, (I (gor f_0.2.2 g_1.2.2)))]) Try.underlying25 ti25 (bp25 Try.underlying25) rfl (by kernel_rfl)) ?_
   refine st_exS (ex_store_box (k := 0) (cs := [(I 0), (I 0), (I 0)]) (vs := [(I (gor f_0.1 g_1.1)), (I (gor f_0.2.1 g_1.2.1)), (I (gor f_0.2.2 g_1.2.2))]) (cs' := [(I (gor f_0.1 g_1.1)), (I (gor f_0.2.1 g_1.2.1)), (I (gor f_0.2.2 g_1.2.2))]) H (i := 2) rfl ti25 rfl rfl rfl rfl rfl (Nat.le_of_ble_eq_true rfl) (by simp [plain]) rfl) wn ?_
   rintro σ32 ⟨H, -⟩
   refine st (v := (B true)) (rv_assign rfl) ?_
   refine w_end ?_
   refine q_then ?_
   refine c_ret ?_
   obtain rfl := Option.some.inj h
   exact fin_ret (v := (.tuple #[(.agg #[(I (gor f_0.1 g_1.1)), (I (gor f_0.2.1 g_1.2.1)), (I (gor f_0.2.2 g_1.2.2))]), (B true)])) (results_ok Try.results29 (res_cell rfl (run_cellRes (cs := [(I (gor f_0.1 g_1.1)), (I (gor f_0.2.1 g_1.2.1)), (I (gor f_0.2.2 g_1.2.2))]) Try.underlying25 rfl ti25 rfl (H.cells 0 rfl)) (res_tmp (v := (B true)) rfl res_nil)) rfl) ⟨rfl, rfl⟩ (H.sel' [] rfl rfl)

theorem c_laws_eqFilter {a_0 : Int × Int × Int} {b_1 : Int × Int × Int}  {r : Bool} (h : M.laws_eqFilter a_0 b_1 = some r) :
    Cal2 Try.prog 30 [(.agg #[(I a_0.1), (I a_0.2.1), (I a_0.2.2)]), (.agg #[(I b_1.1), (I b_1.2.1), (I b_1.2.2)])] [] (fun n0 v L => v = (B r) ∧ L = []) := by
 refine cal2 (n := 20) Try.func30 rfl rfl rfl rfl ?_
 intro S0 σ0 n0 hn0 H
 unfold M.laws_eqFilter at h
 refine c_seq ?_
 refine rg ?_
 refine st_ex (ex_box (cs := [(I a_0.1), (I a_0.2.1), (I a_0.2.2)]) H hn0 rfl rfl) wn ?_
 rintro _ σ2 ⟨b1, rfl, H, -⟩
 refine st_ex (ex_box (cs := [(I b_1.1), (I b_1.2.1), (I b_1.2.2)]) H hn0 rfl rfl) wn ?_
 rintro _ σ4 ⟨b3, rfl, H, -⟩
 refine st (v := (B false)) (rv_assign rfl) ?_
 refine w_end ?_
 refine q_then ?_
 refine c_seq ?_
 refine c_seq ?_
 refine rg ?_
 refine st (v := (pt b1 0)) (rv_fieldAddr (off := 0) (ft := 3) Try.underlying25 rfl ti3 rfl rfl) ?_
 have hc5 := H.cell (u := (I a_0.1)) (o' := 0) 1 0 rfl rfl rfl
 refine st (v := (I a_0.1)) (rv_load1 Try.underlying3 rfl rfl hc5) ?_
 refine st (v := (pt b3 0)) (rv_fieldAddr (off := 0) (ft := 3) Try.underlying25 rfl ti3 rfl rfl) ?_
 have hc6 := H.cell (u := (I b_1.1)) (o' := 0) 0 0 rfl rfl rfl
 refine st (v := (I b_1.1)) (rv_load1 Try.underlying3 rfl rfl hc6) ?_
 refine st (v := (B (a_0.1 != b_1.1))) (rv_neq (a := a_0.1) (b := b_1.1) rfl rfl) ?_
 refine w_end ?_
 refine q_then ?_
 refine cd_cond (a_0.1 != b_1.1) rfl (fun hb7 => ?_) (fun hb7 => ?_)
 ·replace h := bif_t hb7 h
  refine c_seq ?_
  refine rg ?_
  refine st (v := (B false)) (rv_assign rfl) ?_
  refine w_end ?_
  refine q_then ?_
  refine c_ret ?_
  refine q_then_r ?_
  obtain rfl := Option.some.inj h
  exact fin_ret (v := (B false)) (results_ok Try.results30 (res_tmp (v := (B false)) rfl res_nil) rfl) ⟨rfl, rfl⟩ (H.sel' [] rfl rfl)
 ·replace h := bif_f hb7 h
  refine c_skip ?_
  refine q_then ?_
  refine c_seq ?_
  refine c_seq ?_
  refine rg ?_
  refine st (v := (pt b1 1)) (rv_fieldAddr (off := 1) (ft := 3) Try.underlying25 rfl ti3 rfl rfl) ?_
  have hc8 := H.cell (u := (I a_0.2.1)) (o' := 1) 1 1 rfl rfl rfl
  refine st (v := (I a_0.2.1)) (rv_load1 Try.underlying3 rfl rfl hc8) ?_
  refine st (v := (pt b3 1)) (rv_fieldAddr (off := 1) (ft := 3) Try.underlying25 rfl ti3 rfl rfl) ?_
  have hc9 := H.cell (u := (I b_1.2.1)) (o' := 1) 0 1 rfl rfl rfl
  refine st (v := (I b_1.2.1)) (rv_load1 Try.underlying3 rfl rfl hc9) ?_
  refine st (v := (B (a_0.2.1 != b_1.2.1))) (rv_neq (a := a_0.2.1) (b := b_1.2.1) rfl rfl) ?_
  refine w_end ?_
  refine q_then ?_
  refine cd_cond (a_0.2.1 != b_1.2.1) rfl (fun hb10 => ?_) (fun hb10 => ?_)
  ·replace h := bif_t hb10 h
   refine c_seq ?_
   refine rg ?_
   refine st (v := (B false)) (rv_assign rfl) ?_
   refine w_end ?_
   refine q_then ?_
   refine c_ret ?_
   refine q_then_r ?_
   obtain rfl := Option.some.inj h
   exact fin_ret (v := (B false)) (results_ok Try.results30 (res_tmp (v := (B false)) rfl res_nil) rfl) ⟨rfl, rfl⟩ (H.sel' [] rfl rfl)
  ·replace h := bif_f hb10 h
   refine c_skip ?_
   refine q_then ?_
   refine c_seq ?_
   refine c_seq ?_
   refine rg ?_
   refine st (v := (pt b1 2)) (rv_fieldAddr (off := 2) (ft := 3) Try.underlying25 rfl ti3 rfl rfl) ?_
   have hc11 := H.cell (u := (I a_0.2.2)) (o' := 2) 1 2 rfl rfl rfl
   refine st (v := (I a_0.2.2)) (rv_load1 Try.underlying3 rfl rfl hc11) ?_
   refine st (v := (pt b3 2)) (rv_fieldAddr (off := 2) (ft := 3) Try.underlying25 rfl ti3 rfl rfl) ?_
   have hc12 := H.cell (u := (I b_1.2.2)) (o' := 2) 0 2 rfl rfl rfl
   refine st (v := (I b_1.2.2)) (rv_load1 Try.underlying3 rfl rfl hc12) ?_
   refine st (v := (B (a_0.2.2 != b_1.2.2))) (rv_neq (a := a_0.2.2) (b := b_1.2.2) rfl rfl) ?_
   refine w_end ?_
   refine q_then ?_
   refine cd_cond (a_0.2.2 != b_1.2.2) rfl (fun hb13 => ?_) (fun hb13 => ?_)
   ·replace h := bif_t hb13 h
    refine c_seq ?_
    refine rg ?_
    refine st (v := (B false)) (rv_assign rfl) ?_
    refine w_end ?_
    refine q_then ?_
    refine c_ret ?_
    refine q_then_r ?_
    obtain rfl := Option.some.inj h
    exact fin_ret (v := (B false)) (results_ok Try.results30 (res_tmp (v := (B false)) rfl res_nil) rfl) ⟨rfl, rfl⟩ (H.sel' [] rfl rfl)
   ·replace h := bif_f hb13 h
    refine c_skip ?_
    refine q_then ?_
    refine c_seq ?_
    refine rg ?_
    refine st (v := (B true)) (rv_assign rfl) ?_
    refine w_end ?_
    refine q_then ?_
    refine c_ret ?_
    obtain rfl := Option.some.inj h
    exact fin_ret (v := (B true)) (results_ok Try.results30 (res_tmp (v := (B true)) rfl res_nil) rfl) ⟨rfl, rfl⟩ (H.sel' [] rfl rfl)

theorem c_laws_FnExactBothFilters {aF_0 : Int × Int × Int} {aG_1 : Int × Int × Int}  {r : Bool} (h : M.laws_FnExactBothFilters aF_0 aG_1 = some r) :
    Cal2 Try.prog 6 [(.agg #[(I aF_0.1), (I aF_0.2.1), (I aF_0.2.2)]), (.agg #[(I aG_1.1), (I aG_1.2.1), (I aG_1.2.2)])] [] (fun n0 v L => v = (B r) ∧ L = []) := by
 refine cal2 (n := 34) Try.func6 rfl rfl rfl rfl ?_
 intro S0 σ0 n0 hn0 H
 unfold M.laws_FnExactBothFilters at h
 refine c_seq ?_
 refine rg ?_
 refine st_ex (ex_box (cs := [(I aF_0.1), (I aF_0.2.1), (I aF_0.2.2)]) H hn0 rfl rfl) wn ?_
 rintro _ σ2 ⟨b1, rfl, H, -⟩
 refine st_ex (ex_box (cs := [(I aG_1.1), (I aG_1.2.1), (I aG_1.2.2)]) H hn0 rfl rfl) wn ?_
 rintro _ σ4 ⟨b3, rfl, H, -⟩
 refine st (v := (B false)) (rv_assign rfl) ?_
 refine w_end ?_
 refine q_then ?_
 refine c_seq ?_
 have hc5 := H.cells 1 rfl
 obtain ⟨r6, hx7, h'⟩ := bind_some h
 clear h
 have h := h'; clear h'
 have hc8 := c_laws_toFilter hx7
 have hc9 := H.cells 0 rfl
 obtain ⟨r10, hx11, h'⟩ := bind_some h
 clear h
 have h := h'; clear h'
 have hc12 := c_laws_toFilter hx11
 obtain ⟨r13, hx14, h'⟩ := bind_some h
 clear h
 have h := h'; clear h'
 have hc15 := c_spec_BothFilters hx14
 have Hs := H
 refine rg2 (σ := σ4) (Nm := (Nat)) 10 [1, 3, 4, 8, 9] [[false, false, false, false, false], [true, false, false, false, false], [false, false, false, true, false], [true, true, false, false, false], [true, false, false, true, false], [true, true, true, false, false], [true, true, false, true, false], [true, true, true, true, false], [true, true, true, true, true]] [[(0, 0), (2, 2)], [(0, 1), (2, 4)], [(0, 0), (1, 1), (2, 2), (4, 4)], [(1, 3), (4, 6)], [(3, 5), (6, 7)], [(5, 5), (7, 7)], [(5, 5), (7, 7)], [(5, 5), (7, 7), (8, 8)], [(0, 2), (1, 4), (3, 6), (5, 7)], [(7, 8)]] 8 [fun (b16 : (Nat)) => fun σm => Hp S0 σ0 σm [Ch.bx n0 b3 0 [(I aG_1.1), (I aG_1.2.1), (I aG_1.2.2)] [] [], Ch.bx n0 b1 0 [(I aF_0.1), (I aF_0.2.1), (I aF_0.2.2)] [] []] ∧ Md (cov []) σ4 σm, fun (b16 : (Nat)) => fun σm => Hp S0 σ0 σm [Ch.bx n0 b3 0 [(I aG_1.1), (I aG_1.2.1), (I aG_1.2.2)] [] [], Ch.bx n0 b1 0 [(I aF_0.1), (I aF_0.2.1), (I aF_0.2.2)] [] []] ∧ Md (cov []) σ4 σm, fun (b16 : (Nat)) => fun σm => Hp S0 σ0 σm [Ch.bx n0 b16 0 [(I 0), (I 0), (I 0)] [] [], Ch.bx n0 b3 0 [(I aG_1.1), (I aG_1.2.1), (I aG_1.2.2)] [] [], Ch.bx n0 b1 0 [(I aF_0.1), (I aF_0.2.1), (I aF_0.2.2)] [] []] ∧ Md (cov []) σ4 σm, fun (b16 : (Nat)) => fun σm => Hp S0 σ0 σm [Ch.bx n0 b3 0 [(I aG_1.1), (I aG_1.2.1), (I aG_1.2.2)] [] [], Ch.bx n0 b1 0 [(I aF_0.1), (I aF_0.2.1), (I aF_0.2.2)] [] []] ∧ Md (cov []) σ4 σm, fun (b16 : (Nat)) => fun σm => Hp S0 σ0 σm [Ch.bx n0 b16 0 [(I 0), (I 0), (I 0)] [] [], Ch.bx n0 b3 0 [(I aG_1.1), (I aG_1.2.1), (I aG_1.2.2)] [] [], Ch.bx n0 b1 0 [(I aF_0.1), (I aF_0.2.1), (I aF_0.2.2)] [] []] ∧ Md (cov []) σ4 σm, fun (b16 : (Nat)) => fun σm => Hp S0 σ0 σm [Ch.bx n0 b3 0 [(I aG_1.1), (I aG_1.2.1), (I aG_1.2.2)] [] [], Ch.bx n0 b1 0 [(I aF_0.1), (I aF_0.2.1), (I aF_0.2.2)] [] []] ∧ Md (cov []) σ4 σm, fun (b16 : (Nat)) => fun σm => Hp S0 σ0 σm [Ch.bx n0 b16 0 [(I 0), (I 0), (I 0)] [] [], Ch.bx n0 b3 0 [(I aG_1.1), (I aG_1.2.1), (I aG_1.2.2)] [] [], Ch.bx n0 b1 0 [(I aF_0.1), (I aF_0.2.1), (I aF_0.2.2)] [] []] ∧ Md (cov []) σ4 σm, fun (b16 : (Nat)) => fun σm => Hp S0 σ0 σm [Ch.bx n0 b16 0 [(I 0), (I 0), (I 0)] [] [], Ch.bx n0 b3 0 [(I aG_1.1), (I aG_1.2.1), (I aG_1.2.2)] [] [], Ch.bx n0 b1 0 [(I aF_0.1), (I aF_0.2.1), (I aF_0.2.2)] [] []] ∧ Md (cov []) σ4 σm, fun (b16 : (Nat)) => fun σm => Hp S0 σ0 σm [Ch.bx n0 b16 0 [(I r13.1.1), (I r13.1.2.1), (I r13.1.2.2)] [] [], Ch.bx n0 b3 0 [(I aG_1.1), (I aG_1.2.1), (I aG_1.2.2)] [] [], Ch.bx n0 b1 0 [(I aF_0.1), (I aF_0.2.1), (I aF_0.2.2)] [] []] ∧ Md (fun i => (cov []) i ∨ (fun i => i = b16) i) σ4 σm] [fun (b16 : (Nat)) => (.agg #[(I aF_0.1), (I aF_0.2.1), (I aF_0.2.2)]), fun (b16 : (Nat)) => (.agg #[(I r6.1), (I r6.2.1), (I r6.2.2)]), fun (b16 : (Nat)) => (.agg #[(I aG_1.1), (I aG_1.2.1), (I aG_1.2.2)]), fun (b16 : (Nat)) => (.agg #[(I r10.1), (I r10.2.1), (I r10.2.2)]), fun (b16 : (Nat)) => (.tuple #[(.agg #[(I r13.1.1), (I r13.1.2.1), (I r13.1.2.2)]), (B r13.2)]), fun (b16 : (Nat)) => (.tuple #[(.agg #[(I r13.1.1), (I r13.1.2.1), (I r13.1.2.2)]), (B r13.2)]), fun (b16 : (Nat)) => (.agg #[(I r13.1.1), (I r13.1.2.1), (I r13.1.2.2)]), fun (b16 : (Nat)) => (B r13.2), fun (b16 : (Nat)) => (pt b16 0), fun (b16 : (Nat)) => undef] (0) (by kernel_rfl) (by kernel_rfl) ?_ ?_ ?_
 ·intro σm m0
  exact ⟨H.grow (m0.mono fun _ h => h.elim), m0⟩
 ·refine all_cons (by
    refine ⟨?_, ?_⟩
    ·intro b16 ρ σm hJ hoff hdep
     have e2 := look_off (N := 34) (hoff 2 rfl) rfl
     obtain ⟨H, m⟩ := id hJ
     have hc5 := H.cells 1 rfl
     exact dp_v (v := (.agg #[(I aF_0.1), (I aF_0.2.1), (I aF_0.2.2)])) wn (rv_load (cs := [(I aF_0.1), (I aF_0.2.1), (I aF_0.2.2)]) Try.underlying23 rfl ti23 e2 rfl hc5) rfl hJ
    refine ⟨?_, ?_⟩
    ·intro b16 ρ σm hJ hoff hdep
     have e2 := look_off (N := 34) (hoff 2 rfl) rfl
     obtain ⟨H, m⟩ := id hJ
     have hc5 := H.cells 2 rfl
     exact dp_v (v := (.agg #[(I aF_0.1), (I aF_0.2.1), (I aF_0.2.2)])) wn (rv_load (cs := [(I aF_0.1), (I aF_0.2.1), (I aF_0.2.2)]) Try.underlying23 rfl ti23 e2 rfl hc5) rfl hJ
    trivial) ?_
  refine all_cons (by
    refine ⟨?_, ?_⟩
    ·intro b16 ρ σm hJ hoff hdep
     have e10 : look 34 ρ 10 = (.agg #[(I aF_0.1), (I aF_0.2.1), (I aF_0.2.2)]) := hdep 0 rfl rfl 10 rfl
     obtain ⟨H, m⟩ := id hJ
     refine dp_cx wn (cx_call hc8 (ent_f hc8.fn (by show [look 34 ρ 10] = _; rw [e10])) hn0 (show Hp S0 σ0 _ ([] ++ [Ch.bx n0 b3 0 [(I aG_1.1), (I aG_1.2.1), (I aG_1.2.2)] [] [], Ch.bx n0 b1 0 [(I aF_0.1), (I aF_0.2.1), (I aF_0.2.2)] [] []]) from (H.sel' [0, 1] rfl rfl))) ?_
     rintro _ σq ⟨_, ⟨rfl, rfl⟩, H2, m2⟩
     exact ⟨_, b16, rfl, rfl, ⟨H2.sel' [0, 1] rfl rfl, m.comp0 m2⟩, stab [0, 2, 8] (by kernel_rfl) ⟨rfl, rfl, rfl, trivial⟩⟩
    refine ⟨?_, ?_⟩
    ·intro b16 ρ σm hJ hoff hdep
     have e10 : look 34 ρ 10 = (.agg #[(I aF_0.1), (I aF_0.2.1), (I aF_0.2.2)]) := hdep 0 rfl rfl 10 rfl
     obtain ⟨H, m⟩ := id hJ
     refine dp_cx wn (cx_call hc8 (ent_f hc8.fn (by show [look 34 ρ 10] = _; rw [e10])) hn0 (show Hp S0 σ0 _ ([] ++ [Ch.bx n0 b16 0 [(I 0), (I 0), (I 0)] [] [], Ch.bx n0 b3 0 [(I aG_1.1), (I aG_1.2.1), (I aG_1.2.2)] [] [], Ch.bx n0 b1 0 [(I aF_0.1), (I aF_0.2.1), (I aF_0.2.2)] [] []]) from (H.sel' [0, 1, 2] rfl rfl))) ?_
     rintro _ σq ⟨_, ⟨rfl, rfl⟩, H2, m2⟩
     exact ⟨_, b16, rfl, rfl, ⟨H2.sel' [0, 1, 2] rfl rfl, m.comp0 m2⟩, stab [0, 2, 8] (by kernel_rfl) ⟨rfl, rfl, rfl, trivial⟩⟩
    trivial) ?_
  refine all_cons (by
    refine ⟨?_, ?_⟩
    ·intro b16 ρ σm hJ hoff hdep
     have e3 := look_off (N := 34) (hoff 3 rfl) rfl
     obtain ⟨H, m⟩ := id hJ
     have hc9 := H.cells 0 rfl
     exact dp_v (v := (.agg #[(I aG_1.1), (I aG_1.2.1), (I aG_1.2.2)])) wn (rv_load (cs := [(I aG_1.1), (I aG_1.2.1), (I aG_1.2.2)]) Try.underlying23 rfl ti23 e3 rfl hc9) rfl hJ
    refine ⟨?_, ?_⟩
    ·intro b16 ρ σm hJ hoff hdep
     have e3 := look_off (N := 34) (hoff 3 rfl) rfl
     obtain ⟨H, m⟩ := id hJ
     have hc9 := H.cells 0 rfl
     exact dp_v (v := (.agg #[(I aG_1.1), (I aG_1.2.1), (I aG_1.2.2)])) wn (rv_load (cs := [(I aG_1.1), (I aG_1.2.1), (I aG_1.2.2)]) Try.underlying23 rfl ti23 e3 rfl hc9) rfl hJ
    refine ⟨?_, ?_⟩
    ·intro b16 ρ σm hJ hoff hdep
     have e3 := look_off (N := 34) (hoff 3 rfl) rfl
     obtain ⟨H, m⟩ := id hJ
     have hc9 := H.cells 1 rfl
     exact dp_v (v := (.agg #[(I aG_1.1), (I aG_1.2.1), (I aG_1.2.2)])) wn (rv_load (cs := [(I aG_1.1), (I aG_1.2.1), (I aG_1.2.2)]) Try.underlying23 rfl ti23 e3 rfl hc9) rfl hJ
    refine ⟨?_, ?_⟩
    ·intro b16 ρ σm hJ hoff hdep
     have e3 := look_off (N := 34) (hoff 3 rfl) rfl
     obtain ⟨H, m⟩ := id hJ
     have hc9 := H.cells 1 rfl
     exact dp_v (v := (.agg #[(I aG_1.1), (I aG_1.2.1), (I aG_1.2.2)])) wn (rv_load (cs := [(I aG_1.1), (I aG_1.2.1), (I aG_1.2.2)]) Try.underlying23 rfl ti23 e3 rfl hc9) rfl hJ
    trivial) ?_
  refine all_cons (by
    refine ⟨?_, ?_⟩
    ·intro b16 ρ σm hJ hoff hdep
     have e12 : look 34 ρ 12 = (.agg #[(I aG_1.1), (I aG_1.2.1), (I aG_1.2.2)]) := hdep 2 rfl rfl 12 rfl
     obtain ⟨H, m⟩ := id hJ
     refine dp_cx wn (cx_call hc12 (ent_f hc12.fn (by show [look 34 ρ 12] = _; rw [e12])) hn0 (show Hp S0 σ0 _ ([] ++ [Ch.bx n0 b3 0 [(I aG_1.1), (I aG_1.2.1), (I aG_1.2.2)] [] [], Ch.bx n0 b1 0 [(I aF_0.1), (I aF_0.2.1), (I aF_0.2.2)] [] []]) from (H.sel' [0, 1] rfl rfl))) ?_
     rintro _ σq ⟨_, ⟨rfl, rfl⟩, H2, m2⟩
     exact ⟨_, b16, rfl, rfl, ⟨H2.sel' [0, 1] rfl rfl, m.comp0 m2⟩, stab [0, 1, 2, 8] (by kernel_rfl) ⟨rfl, rfl, rfl, rfl, trivial⟩⟩
    refine ⟨?_, ?_⟩
    ·intro b16 ρ σm hJ hoff hdep
     have e12 : look 34 ρ 12 = (.agg #[(I aG_1.1), (I aG_1.2.1), (I aG_1.2.2)]) := hdep 2 rfl rfl 12 rfl
     obtain ⟨H, m⟩ := id hJ
     refine dp_cx wn (cx_call hc12 (ent_f hc12.fn (by show [look 34 ρ 12] = _; rw [e12])) hn0 (show Hp S0 σ0 _ ([] ++ [Ch.bx n0 b16 0 [(I 0), (I 0), (I 0)] [] [], Ch.bx n0 b3 0 [(I aG_1.1), (I aG_1.2.1), (I aG_1.2.2)] [] [], Ch.bx n0 b1 0 [(I aF_0.1), (I aF_0.2.1), (I aF_0.2.2)] [] []]) from (H.sel' [0, 1, 2] rfl rfl))) ?_
     rintro _ σq ⟨_, ⟨rfl, rfl⟩, H2, m2⟩
     exact ⟨_, b16, rfl, rfl, ⟨H2.sel' [0, 1, 2] rfl rfl, m.comp0 m2⟩, stab [0, 1, 2, 8] (by kernel_rfl) ⟨rfl, rfl, rfl, rfl, trivial⟩⟩
    trivial) ?_
  refine all_cons (by
    refine ⟨?_, ?_⟩
    ·intro b16 ρ σm hJ hoff hdep
     have e11 : look 34 ρ 11 = (.agg #[(I r6.1), (I r6.2.1), (I r6.2.2)]) := hdep 1 rfl rfl 11 rfl
     have e13 : look 34 ρ 13 = (.agg #[(I r10.1), (I r10.2.1), (I r10.2.2)]) := hdep 3 rfl rfl 13 rfl
     obtain ⟨H, m⟩ := id hJ
     refine dp_cx wn (cx_call hc15 (ent_f hc15.fn (by show [look 34 ρ 11, look 34 ρ 13] = _; rw [e11, e13])) hn0 (show Hp S0 σ0 _ ([] ++ [Ch.bx n0 b3 0 [(I aG_1.1), (I aG_1.2.1), (I aG_1.2.2)] [] [], Ch.bx n0 b1 0 [(I aF_0.1), (I aF_0.2.1), (I aF_0.2.2)] [] []]) from (H.sel' [0, 1] rfl rfl))) ?_
     rintro _ σq ⟨_, ⟨rfl, rfl⟩, H2, m2⟩
     exact ⟨_, b16, rfl, rfl, ⟨H2.sel' [0, 1] rfl rfl, m.comp0 m2⟩, stab [0, 1, 2, 3, 8] (by kernel_rfl) ⟨rfl, rfl, rfl, rfl, rfl, trivial⟩⟩
    refine ⟨?_, ?_⟩
    ·intro b16 ρ σm hJ hoff hdep
     have e11 : look 34 ρ 11 = (.agg #[(I r6.1), (I r6.2.1), (I r6.2.2)]) := hdep 1 rfl rfl 11 rfl
     have e13 : look 34 ρ 13 = (.agg #[(I r10.1), (I r10.2.1), (I r10.2.2)]) := hdep 3 rfl rfl 13 rfl
     obtain ⟨H, m⟩ := id hJ
     refine dp_cx wn (cx_call hc15 (ent_f hc15.fn (by show [look 34 ρ 11, look 34 ρ 13] = _; rw [e11, e13])) hn0 (show Hp S0 σ0 _ ([] ++ [Ch.bx n0 b16 0 [(I 0), (I 0), (I 0)] [] [], Ch.bx n0 b3 0 [(I aG_1.1), (I aG_1.2.1), (I aG_1.2.2)] [] [], Ch.bx n0 b1 0 [(I aF_0.1), (I aF_0.2.1), (I aF_0.2.2)] [] []]) from (H.sel' [0, 1, 2] rfl rfl))) ?_
     rintro _ σq ⟨_, ⟨rfl, rfl⟩, H2, m2⟩
     exact ⟨_, b16, rfl, rfl, ⟨H2.sel' [0, 1, 2] rfl rfl, m.comp0 m2⟩, stab [0, 1, 2, 3, 8] (by kernel_rfl) ⟨rfl, rfl, rfl, rfl, rfl, trivial⟩⟩
    trivial) ?_
  refine ac rfl (by
    intro k b16 ρ σm hJ hoff hdep
    have e14 := hdep 4 rfl rfl 14 rfl
    exact dp_v (v := (.tuple #[(.agg #[(I r13.1.1), (I r13.1.2.1), (I r13.1.2.2)]), (B r13.2)])) wn (rv_move e14) rfl hJ) ?_
  refine ac rfl (by
    intro k b16 ρ σm hJ hoff hdep
    have e9 := hdep 5 rfl rfl 9 rfl
    exact dp_v (v := (.agg #[(I r13.1.1), (I r13.1.2.1), (I r13.1.2.2)])) wn (rv_extract e9 rfl) rfl hJ) ?_
  refine ac rfl (by
    intro k b16 ρ σm hJ hoff hdep
    have e9 := hdep 5 rfl rfl 9 rfl
    exact dp_v (v := (B r13.2)) wn (rv_extract e9 rfl) rfl hJ) ?_
  refine all_cons (by
    refine ⟨?_, ?_⟩
    ·intro b16 ρ σm hJ hoff hdep
     obtain ⟨H, m⟩ := id hJ
     refine dp_ex wn (ex_alloc (cs := [(I 0), (I 0), (I 0)]) H hn0 ti25 rfl) ?_
     rintro _ σq ⟨b16x, rfl, H2, m2⟩
     exact ⟨_, b16x, rfl, rfl, ⟨H2.sel' [0, 1, 2] rfl rfl, m.comp0 m2⟩, stab [0, 1, 2, 3, 4, 5, 6, 7] (by kernel_rfl) ⟨rfl, rfl, rfl, rfl, rfl, rfl, rfl, rfl, trivial⟩⟩
    refine ⟨?_, ?_⟩
    ·intro b16 ρ σm hJ hoff hdep
     obtain ⟨H, m⟩ := id hJ
     refine dp_ex wn (ex_alloc (cs := [(I 0), (I 0), (I 0)]) H hn0 ti25 rfl) ?_
     rintro _ σq ⟨b16x, rfl, H2, m2⟩
     exact ⟨_, b16x, rfl, rfl, ⟨H2.sel' [0, 1, 2] rfl rfl, m.comp0 m2⟩, stab [0, 1, 2, 3, 4, 5, 6, 7] (by kernel_rfl) ⟨rfl, rfl, rfl, rfl, rfl, rfl, rfl, rfl, trivial⟩⟩
    refine ⟨?_, ?_⟩
    ·intro b16 ρ σm hJ hoff hdep
     obtain ⟨H, m⟩ := id hJ
     refine dp_ex wn (ex_alloc (cs := [(I 0), (I 0), (I 0)]) H hn0 ti25 rfl) ?_
     rintro _ σq ⟨b16x, rfl, H2, m2⟩
     exact ⟨_, b16x, rfl, rfl, ⟨H2.sel' [0, 1, 2] rfl rfl, m.comp0 m2⟩, stab [0, 1, 2, 3, 4, 5, 6, 7] (by kernel_rfl) ⟨rfl, rfl, rfl, rfl, rfl, rfl, rfl, rfl, trivial⟩⟩
    refine ⟨?_, ?_⟩
    ·intro b16 ρ σm hJ hoff hdep
     obtain ⟨H, m⟩ := id hJ
     refine dp_ex wn (ex_alloc (cs := [(I 0), (I 0), (I 0)]) H hn0 ti25 rfl) ?_
     rintro _ σq ⟨b16x, rfl, H2, m2⟩
     exact ⟨_, b16x, rfl, rfl, ⟨H2.sel' [0, 1, 2] rfl rfl, m.comp0 m2⟩, stab [0, 1, 2, 3, 4, 5, 6, 7] (by kernel_rfl) ⟨rfl, rfl, rfl, rfl, rfl, rfl, rfl, rfl, trivial⟩⟩
    trivial) ?_
  refine all_cons (by
    refine ⟨?_, ?_⟩
    ·intro b16 ρ σm hJ hoff hdep
     have e5 := hdep 8 rfl rfl 5 rfl
     have e15 := hdep 6 rfl rfl 15 rfl
     obtain ⟨H, m⟩ := id hJ
     refine dp_exS wn rfl (ex_store_box (k := 0) (cs := [(I 0), (I 0), (I 0)]) (vs := [(I r13.1.1), (I r13.1.2.1), (I r13.1.2.2)]) (cs' := [(I r13.1.1), (I r13.1.2.1), (I r13.1.2.2)]) H (i := 0) rfl ti25 e5 rfl e15 rfl rfl (Nat.le_of_ble_eq_true rfl) (by simp [plain]) rfl) ?_
     rintro σq ⟨H2, m2⟩
     exact ⟨_, b16, rfl, ⟨H2.sel' [0, 1, 2] rfl rfl, m.comp m2⟩, stab [0, 1, 2, 3, 4, 5, 6, 7, 8] (by kernel_rfl) ⟨rfl, rfl, rfl, rfl, rfl, rfl, rfl, rfl, rfl, trivial⟩⟩
    trivial) ?_
  exact all_nil
 ·intro b16 ρ σ17 hJ hoff hrel
  have e2 := look_off (N := 34) (hoff 2 rfl) rfl
  have e3 := look_off (N := 34) (hoff 3 rfl) rfl
  have e5 := hrel 8 rfl 5 rfl
  have e16 := hrel 7 rfl 16 rfl
  obtain ⟨H, -⟩ := (show Hp S0 σ0 σ17 [Ch.bx n0 b16 0 [(I r13.1.1), (I r13.1.2.1), (I r13.1.2.2)] [] [], Ch.bx n0 b3 0 [(I aG_1.1), (I aG_1.2.1), (I aG_1.2.2)] [] [], Ch.bx n0 b1 0 [(I aF_0.1), (I aF_0.2.1), (I aF_0.2.2)] [] []] ∧ Md (fun i => (cov []) i ∨ (fun i => i = b16) i) σ4 σ17 from hJ)
  clear hJ Hs
  rw [fr_lookL (L := [(2, (pt b1 0)), (3, (pt b3 0)), (5, (pt b16 0)), (16, (B r13.2))]) ⟨e2, e3, e5, e16, trivial⟩]
  clear hoff hrel e2 e3 e5 e16
  refine st (v := (B r13.2)) (rv_assign rfl) ?_
  refine w_end ?_
  refine q_then ?_
  refine c_seq ?_
  have hc18 := H.cells 2 rfl
  obtain ⟨r19, hx20, h'⟩ := bind_some h
  clear h
  have h := h'; clear h'
  have hc21 := c_laws_toFilter hx20
  have hc22 := H.cells 1 rfl
  obtain ⟨r23, hx24, h'⟩ := bind_some h
  clear h
  have h := h'; clear h'
  have hc25 := c_laws_toFilter hx24
  obtain ⟨r26, hx27, h'⟩ := bind_some h
  clear h
  have h := h'; clear h'
  have hc28 := c_impl_BothFilters hx27
  have Hs := H
  refine rg2 (σ := σ17) (Nm := (Nat)) 10 [1, 3, 4, 8, 9] [[false, false, false, false, false], [true, false, false, false, false], [false, false, false, true, false], [true, true, false, false, false], [true, false, false, true, false], [true, true, true, false, false], [true, true, false, true, false], [true, true, true, true, false], [true, true, true, true, true]] [[(0, 0), (2, 2)], [(0, 1), (2, 4)], [(0, 0), (1, 1), (2, 2), (4, 4)], [(1, 3), (4, 6)], [(3, 5), (6, 7)], [(5, 5), (7, 7)], [(5, 5), (7, 7)], [(5, 5), (7, 7), (8, 8)], [(0, 2), (1, 4), (3, 6), (5, 7)], [(7, 8)]] 8 [fun (b29 : (Nat)) => fun σm => Hp S0 σ0 σm [Ch.bx n0 b16 0 [(I r13.1.1), (I r13.1.2.1), (I r13.1.2.2)] [] [], Ch.bx n0 b3 0 [(I aG_1.1), (I aG_1.2.1), (I aG_1.2.2)] [] [], Ch.bx n0 b1 0 [(I aF_0.1), (I aF_0.2.1), (I aF_0.2.2)] [] []] ∧ Md (cov []) σ17 σm, fun (b29 : (Nat)) => fun σm => Hp S0 σ0 σm [Ch.bx n0 b16 0 [(I r13.1.1), (I r13.1.2.1), (I r13.1.2.2)] [] [], Ch.bx n0 b3 0 [(I aG_1.1), (I aG_1.2.1), (I aG_1.2.2)] [] [], Ch.bx n0 b1 0 [(I aF_0.1), (I aF_0.2.1), (I aF_0.2.2)] [] []] ∧ Md (cov []) σ17 σm, fun (b29 : (Nat)) => fun σm => Hp S0 σ0 σm [Ch.bx n0 b29 0 [(I 0), (I 0), (I 0)] [] [], Ch.bx n0 b16 0 [(I r13.1.1), (I r13.1.2.1), (I r13.1.2.2)] [] [], Ch.bx n0 b3 0 [(I aG_1.1), (I aG_1.2.1), (I aG_1.2.2)] [] [], Ch.bx n0 b1 0 [(I aF_0.1), (I aF_0.2.1), (I aF_0.2.2)] [] []] ∧ Md (cov []) σ17 σm, fun (b29 : (Nat)) => fun σm => Hp S0 σ0 σm [Ch.bx n0 b16 0 [(I r13.1.1), (I r13.1.2.1), (I r13.1.2.2)] [] [], Ch.bx n0 b3 0 [(I aG_1.1), (I aG_1.2.1), (I aG_1.2.2)] [] [], Ch.bx n0 b1 0 [(I aF_0.1), (I aF_0.2.1), (I aF_0.2.2)] [] []] ∧ Md (cov []) σ17 σm, fun (b29 : (Nat)) => fun σm => Hp S0 σ0 σm [Ch.bx n0 b29 0 [(I 0), (I 0), (I 0)] [] [], Ch.bx n0 b16 0 [(I r13.1.1), (I r13.1.2.1), (I r13.1.2.2)] [] [], Ch.bx n0 b3 0 [(I aG_1.1), (I aG_1.2.1), (I aG_1.2.2)] [] [], Ch.bx n0 b1 0 [(I aF_0.1), (I aF_0.2.1), (I aF_0.2.2)] [] []] ∧ Md (cov []) σ17 σm, fun (b29 : (Nat)) => fun σm => Hp S0 σ0 σm [Ch.bx n0 b16 0 [(I r13.1.1), (I r13.1.2.1), (I r13.1.2.2)] [] [], Ch.bx n0 b3 0 [(I aG_1.1), (I aG_1.2.1), (I aG_1.2.2)] [] [], Ch.bx n0 b1 0 [(I aF_0.1), (I aF_0.2.1), (I aF_0.2.2)] [] []] ∧ Md (cov []) σ17 σm, fun (b29 : (Nat)) => fun σm => Hp S0 σ0 σm [Ch.bx n0 b29 0 [(I 0), (I 0), (I 0)] [] [], Ch.bx n0 b16 0 [(I r13.1.1), (I r13.1.2.1), (I r13.1.2.2)] [] [], Ch.bx n0 b3 0 [(I aG_1.1), (I aG_1.2.1), (I aG_1.2.2)] [] [], Ch.bx n0 b1 0 [(I aF_0.1), (I aF_0.2.1), (I aF_0.2.2)] [] []] ∧ Md (cov []) σ17 σm, fun (b29 : (Nat)) => fun σm => Hp S0 σ0 σm [Ch.bx n0 b29 0 [(I 0), (I 0), (I 0)] [] [], Ch.bx n0 b16 0 [(I r13.1.1), (I r13.1.2.1), (I r13.1.2.2)] [] [], Ch.bx n0 b3 0 [(I aG_1.1), (I aG_1.2.1), (I aG_1.2.2)] [] [], Ch.bx n0 b1 0 [(I aF_0.1), (I aF_0.2.1), (I aF_0.2.2)] [] []] ∧ Md (cov []) σ17 σm, fun (b29 : (Nat)) => fun σm => Hp S0 σ0 σm [Ch.bx n0 b29 0 [(I r26.1.1), (I r26.1.2.1), (I r26.1.2.2)] [] [], Ch.bx n0 b16 0 [(I r13.1.1), (I r13.1.2.1), (I r13.1.2.2)] [] [], Ch.bx n0 b3 0 [(I aG_1.1), (I aG_1.2.1), (I aG_1.2.2)] [] [], Ch.bx n0 b1 0 [(I aF_0.1), (I aF_0.2.1), (I aF_0.2.2)] [] []] ∧ Md (fun i => (cov []) i ∨ (fun i => i = b29) i) σ17 σm] [fun (b29 : (Nat)) => (.agg #[(I aF_0.1), (I aF_0.2.1), (I aF_0.2.2)]), fun (b29 : (Nat)) => (.agg #[(I r19.1), (I r19.2.1), (I r19.2.2)]), fun (b29 : (Nat)) => (.agg #[(I aG_1.1), (I aG_1.2.1), (I aG_1.2.2)]), fun (b29 : (Nat)) => (.agg #[(I r23.1), (I r23.2.1), (I r23.2.2)]), fun (b29 : (Nat)) => (.tuple #[(.agg #[(I r26.1.1), (I r26.1.2.1), (I r26.1.2.2)]), (B r26.2)]), fun (b29 : (Nat)) => (.tuple #[(.agg #[(I r26.1.1), (I r26.1.2.1), (I r26.1.2.2)]), (B r26.2)]), fun (b29 : (Nat)) => (.agg #[(I r26.1.1), (I r26.1.2.1), (I r26.1.2.2)]), fun (b29 : (Nat)) => (B r26.2), fun (b29 : (Nat)) => (pt b29 0), fun (b29 : (Nat)) => undef] (0) (by kernel_rfl) (by kernel_rfl) ?_ ?_ ?_
  ·intro σm m0
   exact ⟨H.grow (m0.mono fun _ h => h.elim), m0⟩
  ·refine all_cons (by
     refine ⟨?_, ?_⟩
     ·intro b29 ρ σm hJ hoff hdep
      have e2 := look_off (N := 34) (hoff 2 rfl) rfl
      obtain ⟨H, m⟩ := id hJ
      have hc18 := H.cells 2 rfl
      exact dp_v (v := (.agg #[(I aF_0.1), (I aF_0.2.1), (I aF_0.2.2)])) wn (rv_load (cs := [(I aF_0.1), (I aF_0.2.1), (I aF_0.2.2)]) Try.underlying23 rfl ti23 e2 rfl hc18) rfl hJ
     refine ⟨?_, ?_⟩
     ·intro b29 ρ σm hJ hoff hdep
      have e2 := look_off (N := 34) (hoff 2 rfl) rfl
      obtain ⟨H, m⟩ := id hJ
      have hc18 := H.cells 3 rfl
      exact dp_v (v := (.agg #[(I aF_0.1), (I aF_0.2.1), (I aF_0.2.2)])) wn (rv_load (cs := [(I aF_0.1), (I aF_0.2.1), (I aF_0.2.2)]) Try.underlying23 rfl ti23 e2 rfl hc18) rfl hJ
     trivial) ?_
   refine all_cons (by
     refine ⟨?_, ?_⟩
     ·intro b29 ρ σm hJ hoff hdep
      have e18 : look 34 ρ 18 = (.agg #[(I aF_0.1), (I aF_0.2.1), (I aF_0.2.2)]) := hdep 0 rfl rfl 18 rfl
      obtain ⟨H, m⟩ := id hJ
      refine dp_cx wn (cx_call hc21 (ent_f hc21.fn (by show [look 34 ρ 18] = _; rw [e18])) hn0 (show Hp S0 σ0 _ ([] ++ [Ch.bx n0 b16 0 [(I r13.1.1), (I r13.1.2.1), (I r13.1.2.2)] [] [], Ch.bx n0 b3 0 [(I aG_1.1), (I aG_1.2.1), (I aG_1.2.2)] [] [], Ch.bx n0 b1 0 [(I aF_0.1), (I aF_0.2.1), (I aF_0.2.2)] [] []]) from (H.sel' [0, 1, 2] rfl rfl))) ?_
      rintro _ σq ⟨_, ⟨rfl, rfl⟩, H2, m2⟩
      exact ⟨_, b29, rfl, rfl, ⟨H2.sel' [0, 1, 2] rfl rfl, m.comp0 m2⟩, stab [0, 2, 8] (by kernel_rfl) ⟨rfl, rfl, rfl, trivial⟩⟩
     refine ⟨?_, ?_⟩
     ·intro b29 ρ σm hJ hoff hdep
      have e18 : look 34 ρ 18 = (.agg #[(I aF_0.1), (I aF_0.2.1), (I aF_0.2.2)]) := hdep 0 rfl rfl 18 rfl
      obtain ⟨H, m⟩ := id hJ
      refine dp_cx wn (cx_call hc21 (ent_f hc21.fn (by show [look 34 ρ 18] = _; rw [e18])) hn0 (show Hp S0 σ0 _ ([] ++ [Ch.bx n0 b29 0 [(I 0), (I 0), (I 0)] [] [], Ch.bx n0 b16 0 [(I r13.1.1), (I r13.1.2.1), (I r13.1.2.2)] [] [], Ch.bx n0 b3 0 [(I aG_1.1), (I aG_1.2.1), (I aG_1.2.2)] [] [], Ch.bx n0 b1 0 [(I aF_0.1), (I aF_0.2.1), (I aF_0.2.2)] [] []]) from (H.sel' [0, 1, 2, 3] rfl rfl))) ?_
      rintro _ σq ⟨_, ⟨rfl, rfl⟩, H2, m2⟩
      exact ⟨_, b29, rfl, rfl, ⟨H2.sel' [0, 1, 2, 3] rfl rfl, m.comp0 m2⟩, stab [0, 2, 8] (by kernel_rfl) ⟨rfl, rfl, rfl, trivial⟩⟩
     trivial) ?_
   refine all_cons (by
     refine ⟨?_, ?_⟩
     ·intro b29 ρ σm hJ hoff hdep
      have e3 := look_off (N := 34) (hoff 3 rfl) rfl
      obtain ⟨H, m⟩ := id hJ
      have hc22 := H.cells 1 rfl
      exact dp_v (v := (.agg #[(I aG_1.1), (I aG_1.2.1), (I aG_1.2.2)])) wn (rv_load (cs := [(I aG_1.1), (I aG_1.2.1), (I aG_1.2.2)]) Try.underlying23 rfl ti23 e3 rfl hc22) rfl hJ
     refine ⟨?_, ?_⟩
     ·intro b29 ρ σm hJ hoff hdep
      have e3 := look_off (N := 34) (hoff 3 rfl) rfl
      obtain ⟨H, m⟩ := id hJ
      have hc22 := H.cells 1 rfl
      exact dp_v (v := (.agg #[(I aG_1.1), (I aG_1.2.1), (I aG_1.2.2)])) wn (rv_load (cs := [(I aG_1.1), (I aG_1.2.1), (I aG_1.2.2)]) Try.underlying23 rfl ti23 e3 rfl hc22) rfl hJ
     refine ⟨?_, ?_⟩
     ·intro b29 ρ σm hJ hoff hdep
      have e3 := look_off (N := 34) (hoff 3 rfl) rfl
      obtain ⟨H, m⟩ := id hJ
      have hc22 := H.cells 2 rfl
      exact dp_v (v := (.agg #[(I aG_1.1), (I aG_1.2.1), (I aG_1.2.2)])) wn (rv_load (cs := [(I aG_1.1), (I aG_1.2.1), (I aG_1.2.2)]) Try.underlying23 rfl ti23 e3 rfl hc22) rfl hJ
     refine ⟨?_, ?_⟩
     ·intro b29 ρ σm hJ hoff hdep
      have e3 := look_off (N := 34) (hoff 3 rfl) rfl
      obtain ⟨H, m⟩ := id hJ
      have hc22 := H.cells 2 rfl
      exact dp_v (v := (.agg #[(I aG_1.1), (I aG_1.2.1), (I aG_1.2.2)])) wn (rv_load (cs := [(I aG_1.1), (I aG_1.2.1), (I aG_1.2.2)]) Try.underlying23 rfl ti23 e3 rfl hc22) rfl hJ
     trivial) ?_
   refine all_cons (by
     refine ⟨?_, ?_⟩
     ·intro b29 ρ σm hJ hoff hdep
      have e20 : look 34 ρ 20 = (.agg #[(I aG_1.1), (I aG_1.2.1), (I aG_1.2.2)]) := hdep 2 rfl rfl 20 rfl
      obtain ⟨H, m⟩ := id hJ
      refine dp_cx wn (cx_call hc25 (ent_f hc25.fn (by show [look 34 ρ 20] = _; rw [e20])) hn0 (show Hp S0 σ0 _ ([] ++ [Ch.bx n0 b16 0 [(I r13.1.1), (I r13.1.2.1), (I r13.1.2.2)] [] [], Ch.bx n0 b3 0 [(I aG_1.1), (I aG_1.2.1), (I aG_1.2.2)] [] [], Ch.bx n0 b1 0 [(I aF_0.1), (I aF_0.2.1), (I aF_0.2.2)] [] []]) from (H.sel' [0, 1, 2] rfl rfl))) ?_
      rintro _ σq ⟨_, ⟨rfl, rfl⟩, H2, m2⟩
      exact ⟨_, b29, rfl, rfl, ⟨H2.sel' [0, 1, 2] rfl rfl, m.comp0 m2⟩, stab [0, 1, 2, 8] (by kernel_rfl) ⟨rfl, rfl, rfl, rfl, trivial⟩⟩
     refine ⟨?_, ?_⟩
     ·intro b29 ρ σm hJ hoff hdep
      have e20 : look 34 ρ 20 = (.agg #[(I aG_1.1), (I aG_1.2.1), (I aG_1.2.2)]) := hdep 2 rfl rfl 20 rfl
      obtain ⟨H, m⟩ := id hJ
      refine dp_cx wn (cx_call hc25 (ent_f hc25.fn (by show [look 34 ρ 20] = _; rw [e20])) hn0 (show Hp S0 σ0 _ ([] ++ [Ch.bx n0 b29 0 [(I 0), (I 0), (I 0)] [] [], Ch.bx n0 b16 0 [(I r13.1.1), (I r13.1.2.1), (I r13.1.2.2)] [] [], Ch.bx n0 b3 0 [(I aG_1.1), (I aG_1.2.1), (I aG_1.2.2)] [] [], Ch.bx n0 b1 0 [(I aF_0.1), (I aF_0.2.1), (I aF_0.2.2)] [] []]) from (H.sel' [0, 1, 2, 3] rfl rfl))) ?_
      rintro _ σq ⟨_, ⟨rfl, rfl⟩, H2, m2⟩
      exact ⟨_, b29, rfl, rfl, ⟨H2.sel' [0, 1, 2, 3] rfl rfl, m.comp0 m2⟩, stab [0, 1, 2, 8] (by kernel_rfl) ⟨rfl, rfl, rfl, rfl, trivial⟩⟩
     trivial) ?_
   refine all_cons (by
     refine ⟨?_, ?_⟩
     ·intro b29 ρ σm hJ hoff hdep
      have e19 : look 34 ρ 19 = (.agg #[(I r19.1), (I r19.2.1), (I r19.2.2)]) := hdep 1 rfl rfl 19 rfl
      have e21 : look 34 ρ 21 = (.agg #[(I r23.1), (I r23.2.1), (I r23.2.2)]) := hdep 3 rfl rfl 21 rfl
      obtain ⟨H, m⟩ := id hJ
      refine dp_cx wn (cx_call hc28 (ent_f hc28.fn (by show [look 34 ρ 19, look 34 ρ 21] = _; rw [e19, e21])) hn0 (show Hp S0 σ0 _ ([] ++ [Ch.bx n0 b16 0 [(I r13.1.1), (I r13.1.2.1), (I r13.1.2.2)] [] [], Ch.bx n0 b3 0 [(I aG_1.1), (I aG_1.2.1), (I aG_1.2.2)] [] [], Ch.bx n0 b1 0 [(I aF_0.1), (I aF_0.2.1), (I aF_0.2.2)] [] []]) from (H.sel' [0, 1, 2] rfl rfl))) ?_
      rintro _ σq ⟨_, ⟨rfl, rfl⟩, H2, m2⟩
      exact ⟨_, b29, rfl, rfl, ⟨H2.sel' [0, 1, 2] rfl rfl, m.comp0 m2⟩, stab [0, 1, 2, 3, 8] (by kernel_rfl) ⟨rfl, rfl, rfl, rfl, rfl, trivial⟩⟩
     refine ⟨?_, ?_⟩
     ·intro b29 ρ σm hJ hoff hdep
      have e19 : look 34 ρ 19 = (.agg #[(I r19.1), (I r19.2.1), (I r19.2.2)]) := hdep 1 rfl rfl 19 rfl
      have e21 : look 34 ρ 21 = (.agg #[(I r23.1), (I r23.2.1), (I r23.2.2)]) := hdep 3 rfl rfl 21 rfl
      obtain ⟨H, m⟩ := id hJ
      refine dp_cx wn (cx_call hc28 (ent_f hc28.fn (by show [look 34 ρ 19, look 34 ρ 21] = _; rw [e19, e21])) hn0 (show Hp S0 σ0 _ ([] ++ [Ch.bx n0 b29 0 [(I 0), (I 0), (I 0)] [] [], Ch.bx n0 b16 0 [(I r13.1.1), (I r13.1.2.1), (I r13.1.2.2)] [] [], Ch.bx n0 b3 0 [(I aG_1.1), (I aG_1.2.1), (I aG_1.2.2)] [] [], Ch.bx n0 b1 0 [(I aF_0.1), (I aF_0.2.1), (I aF_0.2.2)] [] []]) from (H.sel' [0, 1, 2, 3] rfl rfl))) ?_
      rintro _ σq ⟨_, ⟨rfl, rfl⟩, H2, m2⟩
      exact ⟨_, b29, rfl, rfl, ⟨H2.sel' [0, 1, 2, 3] rfl rfl, m.comp0 m2⟩, stab [0, 1, 2, 3, 8] (by kernel_rfl) ⟨rfl, rfl, rfl, rfl, rfl, trivial⟩⟩
     trivial) ?_
   refine ac rfl (by
     intro k b29 ρ σm hJ hoff hdep
     have e22 := hdep 4 rfl rfl 22 rfl
     exact dp_v (v := (.tuple #[(.agg #[(I r26.1.1), (I r26.1.2.1), (I r26.1.2.2)]), (B r26.2)])) wn (rv_move e22) rfl hJ) ?_
   refine ac rfl (by
     intro k b29 ρ σm hJ hoff hdep
     have e17 := hdep 5 rfl rfl 17 rfl
     exact dp_v (v := (.agg #[(I r26.1.1), (I r26.1.2.1), (I r26.1.2.2)])) wn (rv_extract e17 rfl) rfl hJ) ?_
   refine ac rfl (by
     intro k b29 ρ σm hJ hoff hdep
     have e17 := hdep 5 rfl rfl 17 rfl
     exact dp_v (v := (B r26.2)) wn (rv_extract e17 rfl) rfl hJ) ?_
   refine all_cons (by
     refine ⟨?_, ?_⟩
     ·intro b29 ρ σm hJ hoff hdep
      obtain ⟨H, m⟩ := id hJ
      refine dp_ex wn (ex_alloc (cs := [(I 0), (I 0), (I 0)]) H hn0 ti25 rfl) ?_
      rintro _ σq ⟨b29x, rfl, H2, m2⟩
      exact ⟨_, b29x, rfl, rfl, ⟨H2.sel' [0, 1, 2, 3] rfl rfl, m.comp0 m2⟩, stab [0, 1, 2, 3, 4, 5, 6, 7] (by kernel_rfl) ⟨rfl, rfl, rfl, rfl, rfl, rfl, rfl, rfl, trivial⟩⟩
     refine ⟨?_, ?_⟩
     ·intro b29 ρ σm hJ hoff hdep
      obtain ⟨H, m⟩ := id hJ
      refine dp_ex wn (ex_alloc (cs := [(I 0), (I 0), (I 0)]) H hn0 ti25 rfl) ?_
      rintro _ σq ⟨b29x, rfl, H2, m2⟩
      exact ⟨_, b29x, rfl, rfl, ⟨H2.sel' [0, 1, 2, 3] rfl rfl, m.comp0 m2⟩, stab [0, 1, 2, 3, 4, 5, 6, 7] (by kernel_rfl) ⟨rfl, rfl, rfl, rfl, rfl, rfl, rfl, rfl, trivial⟩⟩
     refine ⟨?_, ?_⟩
     ·intro b29 ρ σm hJ hoff hdep
      obtain ⟨H, m⟩ := id hJ
      refine dp_ex wn (ex_alloc (cs := [(I 0), (I 0), (I 0)]) H hn0 ti25 rfl) ?_
      rintro _ σq ⟨b29x, rfl, H2, m2⟩
      exact ⟨_, b29x, rfl, rfl, ⟨H2.sel' [0, 1, 2, 3] rfl rfl, m.comp0 m2⟩, stab [0, 1, 2, 3, 4, 5, 6, 7] (by kernel_rfl) ⟨rfl, rfl, rfl, rfl, rfl, rfl, rfl, rfl, trivial⟩⟩
     refine ⟨?_, ?_⟩
     ·intro b29 ρ σm hJ hoff hdep
      obtain ⟨H, m⟩ := id hJ
      refine dp_ex wn (ex_alloc (cs := [(I 0), (I 0), (I 0)]) H hn0 ti25 rfl) ?_
      rintro _ σq ⟨b29x, rfl, H2, m2⟩
      exact ⟨_, b29x, rfl, rfl, ⟨H2.sel' [0, 1, 2, 3] rfl rfl, m.comp0 m2⟩, stab [0, 1, 2, 3, 4, 5, 6, 7] (by kernel_rfl) ⟨rfl, rfl, rfl, rfl, rfl, rfl, rfl, rfl, trivial⟩⟩
     trivial) ?_
   refine all_cons (by
     refine ⟨?_, ?_⟩
     ·intro b29 ρ σm hJ hoff hdep
      have e7 := hdep 8 rfl rfl 7 rfl
      have e23 := hdep 6 rfl rfl 23 rfl
      obtain ⟨H, m⟩ := id hJ
      refine dp_exS wn rfl (ex_store_box (k := 0) (cs := [(I 0), (I 0), (I 0)]) (vs := [(I r26.1.1), (I r26.1.2.1), (I r26.1.2.2)]) (cs' := [(I r26.1.1), (I r26.1.2.1), (I r26.1.2.2)]) H (i := 0) rfl ti25 e7 rfl e23 rfl rfl (Nat.le_of_ble_eq_true rfl) (by simp [plain]) rfl) ?_
      rintro σq ⟨H2, m2⟩
      exact ⟨_, b29, rfl, ⟨H2.sel' [0, 1, 2, 3] rfl rfl, m.comp m2⟩, stab [0, 1, 2, 3, 4, 5, 6, 7, 8] (by kernel_rfl) ⟨rfl, rfl, rfl, rfl, rfl, rfl, rfl, rfl, rfl, trivial⟩⟩
     trivial) ?_
   exact all_nil
  ·intro b29 ρ σ30 hJ hoff hrel
   have e5 := look_off (N := 34) (hoff 5 rfl) rfl
   have e6 := look_off (N := 34) (hoff 6 rfl) rfl
   have e7 := hrel 8 rfl 7 rfl
   have e24 := hrel 7 rfl 24 rfl
   obtain ⟨H, -⟩ := (show Hp S0 σ0 σ30 [Ch.bx n0 b29 0 [(I r26.1.1), (I r26.1.2.1), (I r26.1.2.2)] [] [], Ch.bx n0 b16 0 [(I r13.1.1), (I r13.1.2.1), (I r13.1.2.2)] [] [], Ch.bx n0 b3 0 [(I aG_1.1), (I aG_1.2.1), (I aG_1.2.2)] [] [], Ch.bx n0 b1 0 [(I aF_0.1), (I aF_0.2.1), (I aF_0.2.2)] [] []] ∧ Md (fun i => (cov []) i ∨ (fun i => i = b29) i) σ17 σ30 from hJ)
   clear hJ Hs
   rw [fr_lookL (L := [(5, (pt b16 0)), (6, (B r13.2)), (7, (pt b29 0)), (24, (B r26.2))]) ⟨e5, e6, e7, e24, trivial⟩]
   clear hoff hrel e5 e6 e7 e24
   refine st (v := (B r26.2)) (rv_assign rfl) ?_
   refine w_end ?_
   refine q_then ?_
   refine c_seq ?_
   refine c_seq ?_
   obtain ⟨o31, hj, h'⟩ := bind_some h
   clear h
   refine c_cut (fun e a w => e = .normal ∧ ∃ (ρ : Nat → Value) (σ : St), a = fr 34 (updL ρ [(33, (B o31))]) ∧ w = σ.w ∧ Hp S0 σ0 σ []) ?_ ?_
   ·clear h'
    rename _ = some o31 => h
    refine rg ?_
    have hc32 := H.cells 0 rfl
    refine st (v := (.agg #[(I r26.1.1), (I r26.1.2.1), (I r26.1.2.2)])) (rv_load (cs := [(I r26.1.1), (I r26.1.2.1), (I r26.1.2.2)]) Try.underlying25 rfl ti25 rfl rfl hc32) ?_
    have hc33 := H.cells 1 rfl
    refine st (v := (.agg #[(I r13.1.1), (I r13.1.2.1), (I r13.1.2.2)])) (rv_load (cs := [(I r13.1.1), (I r13.1.2.1), (I r13.1.2.2)]) Try.underlying25 rfl ti25 rfl rfl hc33) ?_
    obtain ⟨r34, hx35, h'⟩ := bind_some h
    clear h
    have h := h'; clear h'
    have hc36 := c_laws_eqFilter hx35
    refine st_call (cx_call hc36 (ent_f hc36.fn rfl) hn0 (show Hp S0 σ0 _ ([] ++ [Ch.bx n0 b29 0 [(I r26.1.1), (I r26.1.2.1), (I r26.1.2.2)] [] [], Ch.bx n0 b16 0 [(I r13.1.1), (I r13.1.2.1), (I r13.1.2.2)] [] [], Ch.bx n0 b3 0 [(I aG_1.1), (I aG_1.2.1), (I aG_1.2.2)] [] [], Ch.bx n0 b1 0 [(I aF_0.1), (I aF_0.2.1), (I aF_0.2.2)] [] []]) from (H.sel' [0, 1, 2, 3] rfl rfl))) wn ?_
    rintro _ σ37 ⟨_, ⟨rfl, rfl⟩, H, -⟩
    replace H : Hp S0 σ0 σ37 [Ch.bx n0 b29 0 [(I r26.1.1), (I r26.1.2.1), (I r26.1.2.2)] [] [], Ch.bx n0 b16 0 [(I r13.1.1), (I r13.1.2.1), (I r13.1.2.2)] [] [], Ch.bx n0 b3 0 [(I aG_1.1), (I aG_1.2.1), (I aG_1.2.2)] [] [], Ch.bx n0 b1 0 [(I aF_0.1), (I aF_0.2.1), (I aF_0.2.2)] [] []] := H
    refine st (v := (B (!r34))) (rv_not rfl) ?_
    refine st (v := (B (!r34))) (rv_move rfl) ?_
    rcases Bool.eq_false_or_eq_true (!r34) with hb38 | hb38
    ·replace h := bif_t hb38 h
     refine st_skip (congrArg some hb38) ?_
     refine st_skip (congrArg some hb38) ?_
     refine st_skip (congrArg some hb38) ?_
     refine st (v := (B true)) (rv_pick_t (congrArg B hb38) rfl) ?_
     refine w_end ?_
     obtain rfl := Option.some.inj h
     exact ⟨rfl, _, σ37, fr_join ⟨rfl, trivial⟩, rfl, H.sel' [] rfl rfl⟩
    ·replace h := bif_f hb38 h
     refine st_g (v := (B r26.2)) (congrArg some hb38) (rv_move rfl) ?_
     refine st_g (v := (B r13.2)) (congrArg some hb38) (rv_move rfl) ?_
     refine st_g (v := (B (r26.2 != r13.2))) (congrArg some hb38) (rv_bneq Try.underlying4 rfl rfl) ?_
     refine st (v := (B (r26.2 != r13.2))) (rv_pick_f (congrArg B hb38) rfl) ?_
     refine w_end ?_
     obtain rfl := Option.some.inj h
     exact ⟨rfl, _, σ37, fr_join ⟨rfl, trivial⟩, rfl, H.sel' [] rfl rfl⟩
   ·clear hj
    have h := h'
    clear h' H
    rintro e a w ⟨rfl, ρ, σ39, rfl, rfl, H⟩
    refine q_then ?_
    refine cd_cond o31 rfl (fun hb40 => ?_) (fun hb40 => ?_)
    ·replace h := bif_t hb40 h
     refine c_seq ?_
     refine rg ?_
     refine st (v := (B false)) (rv_assign rfl) ?_
     refine w_end ?_
     refine q_then ?_
     refine c_ret ?_
     refine q_then_r ?_
     obtain rfl := Option.some.inj h
     exact fin_ret (v := (B false)) (results_ok Try.results6 (res_tmp (v := (B false)) rfl res_nil) rfl) ⟨rfl, rfl⟩ (H.sel' [] rfl rfl)
    ·replace h := bif_f hb40 h
     refine c_skip ?_
     refine q_then ?_
     refine c_seq ?_
     refine rg ?_
     refine st (v := (B true)) (rv_assign rfl) ?_
     refine w_end ?_
     refine q_then ?_
     refine c_ret ?_
     obtain rfl := Option.some.inj h
     exact fin_ret (v := (B true)) (results_ok Try.results6 (res_tmp (v := (B true)) rfl res_nil) rfl) ⟨rfl, rfl⟩ (H.sel' [] rfl rfl)

end Go.Vs
