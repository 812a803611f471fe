/- The functions compute what their models say. -/
import Derived.Test.YtjmaadoeholmiabKExactValidFilterM
import Derived.Test.YtjmaadoeholmiabExactValidFilterEng1
import Derived.Test.YtjmaadoeholmiabProg
set_option linter.unusedVariables false
set_option linter.unusedSimpArgs false
set_option maxRecDepth 20000
namespace Go.Vs
open Go Go.Proofs
attribute [local irreducible] Code.wp Code.wpIn wpList wpListIn wpQuiet Calls CallsIn

theorem ti3 : TI Try.prog 3 (.int .i64 0) 1 8 := TI.mk' (by kernel_rfl)
theorem ti25 : TI Try.prog 25 (.agg #[(.int .i64 0), (.int .i64 0), (.int .i64 0)]) 3 24 := TI.mk' (by kernel_rfl)
theorem ti48 : TI Try.prog 48 (.agg #[(.int .i64 0), (.int .i64 0), (.int .i64 0)]) 3 24 := TI.mk' (by kernel_rfl)

theorem c_impl_validTags {tags_0 : Int}  {r : Bool} (h : M.impl_validTags tags_0 = some r) :
    Cal2 Try.prog 41 [(I tags_0)] [] (fun n0 v L => v = (B r) ∧ L = []) := by
 refine cal2 (n := 9) Try.func41 rfl rfl rfl rfl ?_
 intro S0 σ0 n0 hn0 H
 unfold M.impl_validTags at h
 refine c_seq ?_
 refine rg ?_
 refine st (v := (B false)) (rv_assign rfl) ?_
 refine w_end ?_
 refine q_then ?_
 refine c_seq ?_
 refine rg ?_
 refine st (v := (I tags_0)) (rv_move rfl) ?_
 refine st (v := (B (decide (0 ≤ tags_0)))) (rv_geq (a := tags_0) (b := 0) rfl rfl) ?_
 refine st (v := (B (decide (0 ≤ tags_0)))) (rv_move rfl) ?_
 rcases Bool.eq_false_or_eq_true (decide (0 ≤ tags_0)) with hb1 | hb1
 ·replace h := bif_t hb1 h
  refine st_g (v := (I tags_0)) (congrArg some hb1) (rv_move rfl) ?_
  refine st_g (v := (B (decide (tags_0 ≤ 15)))) (congrArg some hb1) (rv_leq (a := tags_0) (b := 15) rfl rfl) ?_
  refine st (v := (B (decide (tags_0 ≤ 15)))) (rv_pick_t (congrArg B hb1) rfl) ?_
  refine st (v := (B (decide (tags_0 ≤ 15)))) (rv_assign rfl) ?_
  refine w_end ?_
  refine q_then ?_
  refine c_ret ?_
  obtain rfl := Option.some.inj h
  exact fin_ret (v := (B (decide (tags_0 ≤ 15)))) (results_ok Try.results41 (res_tmp (v := (B (decide (tags_0 ≤ 15)))) rfl res_nil) rfl) ⟨rfl, rfl⟩ (H.sel' [] rfl rfl)
 ·replace h := bif_f hb1 h
  refine st_skip (congrArg some hb1) ?_
  refine st_skip (congrArg some hb1) ?_
  refine st (v := (B false)) (rv_pick_f (congrArg B hb1) rfl) ?_
  refine st (v := (B false)) (rv_assign rfl) ?_
  refine w_end ?_
  refine q_then ?_
  refine c_ret ?_
  obtain rfl := Option.some.inj h
  exact fin_ret (v := (B false)) (results_ok Try.results41 (res_tmp (v := (B false)) rfl res_nil) rfl) ⟨rfl, rfl⟩ (H.sel' [] rfl rfl)

theorem c_impl_ValidFilter {f_0 : Int × Int × Int}  {r : Bool} (h : M.impl_ValidFilter f_0 = some r) :
    Cal2 Try.prog 18 [(.agg #[(I f_0.1), (I f_0.2.1), (I f_0.2.2)])] [] (fun n0 v L => v = (B r) ∧ L = []) := by
 refine cal2 (n := 16) Try.func18 rfl rfl rfl rfl ?_
 intro S0 σ0 n0 hn0 H
 unfold M.impl_ValidFilter at h
 refine c_seq ?_
 refine rg ?_
 refine st_ex (ex_box (cs := [(I f_0.1), (I f_0.2.1), (I f_0.2.2)]) H hn0 rfl rfl) wn ?_
 rintro _ σ2 ⟨b1, rfl, H, -⟩
 refine st (v := (B false)) (rv_assign rfl) ?_
 refine w_end ?_
 refine q_then ?_
 refine c_seq ?_
 refine rg ?_
 refine st (v := (pt b1 0)) (rv_fieldAddr (off := 0) (ft := 3) Try.underlying25 rfl ti3 rfl rfl) ?_
 have hc3 := H.cell (u := (I f_0.1)) (o' := 0) 0 0 rfl rfl rfl
 refine st (v := (I f_0.1)) (rv_load1 Try.underlying3 rfl rfl hc3) ?_
 obtain ⟨r4, hx5, h'⟩ := bind_some h
 clear h
 have h := h'; clear h'
 have hc6 := c_impl_validTags hx5
 refine st_call (cx_call hc6 (ent_f hc6.fn rfl) hn0 (show Hp S0 σ0 _ ([] ++ [Ch.bx n0 b1 0 [(I f_0.1), (I f_0.2.1), (I f_0.2.2)] [] []]) from (H.sel' [0] rfl rfl))) wn ?_
 rintro _ σ7 ⟨_, ⟨rfl, rfl⟩, H, -⟩
 replace H : Hp S0 σ0 σ7 [Ch.bx n0 b1 0 [(I f_0.1), (I f_0.2.1), (I f_0.2.2)] [] []] := H
 refine st (v := (B r4)) (rv_move rfl) ?_
 rcases Bool.eq_false_or_eq_true r4 with hb8 | hb8
 ·replace h := bif_t hb8 h
  refine st_g (v := (pt b1 1)) (congrArg some hb8) (rv_fieldAddr (off := 1) (ft := 3) Try.underlying25 rfl ti3 rfl rfl) ?_
  have hc9 := H.cell (u := (I f_0.2.1)) (o' := 1) 0 1 rfl rfl rfl
  refine st_g (v := (I f_0.2.1)) (congrArg some hb8) (rv_load1 Try.underlying3 rfl rfl hc9) ?_
  obtain ⟨r10, hx11, h'⟩ := bind_some h
  clear h
  have h := h'; clear h'
  have hc12 := c_impl_validTags hx11
  refine st_call (cx_call hc12 (ent_f hc12.fn rfl) hn0 (show Hp S0 σ0 _ ([] ++ [Ch.bx n0 b1 0 [(I f_0.1), (I f_0.2.1), (I f_0.2.2)] [] []]) from (H.sel' [0] rfl rfl))) (wanted_yes rfl (by exact (congrArg some hb8))) ?_
  rintro _ σ13 ⟨_, ⟨rfl, rfl⟩, H, -⟩
  replace H : Hp S0 σ0 σ13 [Ch.bx n0 b1 0 [(I f_0.1), (I f_0.2.1), (I f_0.2.2)] [] []] := H
  refine st (v := (B r10)) (rv_pick_t (congrArg B hb8) rfl) ?_
  refine st (v := (B r10)) (rv_move rfl) ?_
  rcases Bool.eq_false_or_eq_true r10 with hb14 | hb14
  ·replace h := bif_t hb14 h
   refine st_g (v := (pt b1 2)) (congrArg some hb14) (rv_fieldAddr (off := 2) (ft := 3) Try.underlying25 rfl ti3 rfl rfl) ?_
   have hc15 := H.cell (u := (I f_0.2.2)) (o' := 2) 0 2 rfl rfl rfl
   refine st_g (v := (I f_0.2.2)) (congrArg some hb14) (rv_load1 Try.underlying3 rfl rfl hc15) ?_
   obtain ⟨r16, hx17, h'⟩ := bind_some h
   clear h
   have h := h'; clear h'
   have hc18 := c_impl_validTags hx17
   refine st_call (cx_call hc18 (ent_f hc18.fn rfl) hn0 (show Hp S0 σ0 _ ([] ++ [Ch.bx n0 b1 0 [(I f_0.1), (I f_0.2.1), (I f_0.2.2)] [] []]) from (H.sel' [0] rfl rfl))) (wanted_yes rfl (by exact (congrArg some hb14))) ?_
   rintro _ σ19 ⟨_, ⟨rfl, rfl⟩, H, -⟩
   replace H : Hp S0 σ0 σ19 [Ch.bx n0 b1 0 [(I f_0.1), (I f_0.2.1), (I f_0.2.2)] [] []] := H
   refine st (v := (B r16)) (rv_pick_t (congrArg B hb14) rfl) ?_
   refine st (v := (B r16)) (rv_assign rfl) ?_
   refine w_end ?_
   refine q_then ?_
   refine c_ret ?_
   obtain rfl := Option.some.inj h
   exact fin_ret (v := (B r16)) (results_ok Try.results18 (res_tmp (v := (B r16)) rfl res_nil) rfl) ⟨rfl, rfl⟩ (H.sel' [] rfl rfl)
  ·replace h := bif_f hb14 h
   refine st_skip (congrArg some hb14) ?_
   refine st_skip (congrArg some hb14) ?_
   refine st_skip (congrArg some hb14) ?_
   refine st (v := (B false)) (rv_pick_f (congrArg B hb14) rfl) ?_
   refine st (v := (B false)) (rv_assign rfl) ?_
   refine w_end ?_
   refine q_then ?_
   refine c_ret ?_
   obtain rfl := Option.some.inj h
   exact fin_ret (v := (B false)) (results_ok Try.results18 (res_tmp (v := (B false)) rfl res_nil) rfl) ⟨rfl, rfl⟩ (H.sel' [] rfl rfl)
 ·replace h := bif_f hb8 h
  refine st_skip (congrArg some hb8) ?_
  refine st_skip (congrArg some hb8) ?_
  refine st_skip (congrArg some hb8) ?_
  refine st (v := (B false)) (rv_pick_f (congrArg B hb8) rfl) ?_
  refine st (v := (B false)) (rv_move rfl) ?_
  refine st_skip rfl ?_
  refine st_skip rfl ?_
  refine st_skip rfl ?_
  refine st (v := (B false)) (rv_pick_f rfl rfl) ?_
  refine st (v := (B false)) (rv_assign rfl) ?_
  refine w_end ?_
  refine q_then ?_
  refine c_ret ?_
  obtain rfl := Option.some.inj h
  exact fin_ret (v := (B false)) (results_ok Try.results18 (res_tmp (v := (B false)) rfl res_nil) rfl) ⟨rfl, rfl⟩ (H.sel' [] rfl rfl)

theorem c_spec_inRange {n_0 : Int} {low_1 : Int} {high_2 : Int}  {r : Bool} (h : M.spec_inRange n_0 low_1 high_2 = some r) :
    Cal2 Try.prog 50 [(I n_0), (I low_1), (I high_2)] [] (fun n0 v L => v = (B r) ∧ L = []) := by
 refine cal2 (n := 15) Try.func50 rfl rfl rfl rfl ?_
 intro S0 σ0 n0 hn0 H
 unfold M.spec_inRange at h
 refine c_seq ?_
 refine rg ?_
 refine st (v := (B false)) (rv_assign rfl) ?_
 refine w_end ?_
 refine q_then ?_
 refine c_seq ?_
 refine rg ?_
 refine st (v := (I low_1)) (rv_move rfl) ?_
 refine st (v := (I n_0)) (rv_move rfl) ?_
 refine st (v := (B (decide (low_1 ≤ n_0)))) (rv_leq (a := low_1) (b := n_0) rfl rfl) ?_
 refine st (v := (B (decide (low_1 ≤ n_0)))) (rv_move rfl) ?_
 rcases Bool.eq_false_or_eq_true (decide (low_1 ≤ n_0)) with hb1 | hb1
 ·replace h := bif_t hb1 h
  refine st_g (v := (I n_0)) (congrArg some hb1) (rv_move rfl) ?_
  refine st_g (v := (I high_2)) (congrArg some hb1) (rv_move rfl) ?_
  refine st_g (v := (B (decide (n_0 ≤ high_2)))) (congrArg some hb1) (rv_leq (a := n_0) (b := high_2) rfl rfl) ?_
  refine st (v := (B (decide (n_0 ≤ high_2)))) (rv_pick_t (congrArg B hb1) rfl) ?_
  refine st (v := (B (decide (n_0 ≤ high_2)))) (rv_assign rfl) ?_
  refine w_end ?_
  refine q_then ?_
  refine c_ret ?_
  obtain rfl := Option.some.inj h
  exact fin_ret (v := (B (decide (n_0 ≤ high_2)))) (results_ok Try.results50 (res_tmp (v := (B (decide (n_0 ≤ high_2)))) rfl res_nil) rfl) ⟨rfl, rfl⟩ (H.sel' [] rfl rfl)
 ·replace h := bif_f hb1 h
  refine st_skip (congrArg some hb1) ?_
  refine st_skip (congrArg some hb1) ?_
  refine st_skip (congrArg some hb1) ?_
  refine st (v := (B false)) (rv_pick_f (congrArg B hb1) rfl) ?_
  refine st (v := (B false)) (rv_assign rfl) ?_
  refine w_end ?_
  refine q_then ?_
  refine c_ret ?_
  obtain rfl := Option.some.inj h
  exact fin_ret (v := (B false)) (results_ok Try.results50 (res_tmp (v := (B false)) rfl res_nil) rfl) ⟨rfl, rfl⟩ (H.sel' [] rfl rfl)

theorem c_spec_validFilter {f_0 : Int × Int × Int}  {r : Bool} (h : M.spec_validFilter f_0 = some r) :
    Cal2 Try.prog 38 [(.agg #[(I f_0.1), (I f_0.2.1), (I f_0.2.2)])] [] (fun n0 v L => v = (B r) ∧ L = []) := by
 refine cal2 (n := 16) Try.func38 rfl rfl rfl rfl ?_
 intro S0 σ0 n0 hn0 H
 unfold M.spec_validFilter at h
 refine c_seq ?_
 refine rg ?_
 refine st_ex (ex_box (cs := [(I f_0.1), (I f_0.2.1), (I f_0.2.2)]) H hn0 rfl rfl) wn ?_
 rintro _ σ2 ⟨b1, rfl, H, -⟩
 refine st (v := (B false)) (rv_assign rfl) ?_
 refine w_end ?_
 refine q_then ?_
 refine c_seq ?_
 refine rg ?_
 refine st (v := (pt b1 0)) (rv_fieldAddr (off := 0) (ft := 3) Try.underlying25 rfl ti3 rfl rfl) ?_
 have hc3 := H.cell (u := (I f_0.1)) (o' := 0) 0 0 rfl rfl rfl
 refine st (v := (I f_0.1)) (rv_load1 Try.underlying3 rfl rfl hc3) ?_
 obtain ⟨r4, hx5, h'⟩ := bind_some h
 clear h
 have h := h'; clear h'
 have hc6 := c_spec_inRange hx5
 refine st_call (cx_call hc6 (ent_f hc6.fn rfl) hn0 (show Hp S0 σ0 _ ([] ++ [Ch.bx n0 b1 0 [(I f_0.1), (I f_0.2.1), (I f_0.2.2)] [] []]) from (H.sel' [0] rfl rfl))) wn ?_
 rintro _ σ7 ⟨_, ⟨rfl, rfl⟩, H, -⟩
 replace H : Hp S0 σ0 σ7 [Ch.bx n0 b1 0 [(I f_0.1), (I f_0.2.1), (I f_0.2.2)] [] []] := H
 refine st (v := (B r4)) (rv_move rfl) ?_
 rcases Bool.eq_false_or_eq_true r4 with hb8 | hb8
 ·replace h := bif_t hb8 h
  refine st_g (v := (pt b1 1)) (congrArg some hb8) (rv_fieldAddr (off := 1) (ft := 3) Try.underlying25 rfl ti3 rfl rfl) ?_
  have hc9 := H.cell (u := (I f_0.2.1)) (o' := 1) 0 1 rfl rfl rfl
  refine st_g (v := (I f_0.2.1)) (congrArg some hb8) (rv_load1 Try.underlying3 rfl rfl hc9) ?_
  obtain ⟨r10, hx11, h'⟩ := bind_some h
  clear h
  have h := h'; clear h'
  have hc12 := c_spec_inRange hx11
  refine st_call (cx_call hc12 (ent_f hc12.fn rfl) hn0 (show Hp S0 σ0 _ ([] ++ [Ch.bx n0 b1 0 [(I f_0.1), (I f_0.2.1), (I f_0.2.2)] [] []]) from (H.sel' [0] rfl rfl))) (wanted_yes rfl (by exact (congrArg some hb8))) ?_
  rintro _ σ13 ⟨_, ⟨rfl, rfl⟩, H, -⟩
  replace H : Hp S0 σ0 σ13 [Ch.bx n0 b1 0 [(I f_0.1), (I f_0.2.1), (I f_0.2.2)] [] []] := H
  refine st (v := (B r10)) (rv_pick_t (congrArg B hb8) rfl) ?_
  refine st (v := (B r10)) (rv_move rfl) ?_
  rcases Bool.eq_false_or_eq_true r10 with hb14 | hb14
  ·replace h := bif_t hb14 h
   refine st_g (v := (pt b1 2)) (congrArg some hb14) (rv_fieldAddr (off := 2) (ft := 3) Try.underlying25 rfl ti3 rfl rfl) ?_
   have hc15 := H.cell (u := (I f_0.2.2)) (o' := 2) 0 2 rfl rfl rfl
   refine st_g (v := (I f_0.2.2)) (congrArg some hb14) (rv_load1 Try.underlying3 rfl rfl hc15) ?_
   obtain ⟨r16, hx17, h'⟩ := bind_some h
   clear h
   have h := h'; clear h'
   have hc18 := c_spec_inRange hx17
   refine st_call (cx_call hc18 (ent_f hc18.fn rfl) hn0 (show Hp S0 σ0 _ ([] ++ [Ch.bx n0 b1 0 [(I f_0.1), (I f_0.2.1), (I f_0.2.2)] [] []]) from (H.sel' [0] rfl rfl))) (wanted_yes rfl (by exact (congrArg some hb14))) ?_
   rintro _ σ19 ⟨_, ⟨rfl, rfl⟩, H, -⟩
   replace H : Hp S0 σ0 σ19 [Ch.bx n0 b1 0 [(I f_0.1), (I f_0.2.1), (I f_0.2.2)] [] []] := H
   refine st (v := (B r16)) (rv_pick_t (congrArg B hb14) rfl) ?_
   refine st (v := (B r16)) (rv_assign rfl) ?_
   refine w_end ?_
   refine q_then ?_
   refine c_ret ?_
   obtain rfl := Option.some.inj h
   exact fin_ret (v := (B r16)) (results_ok Try.results38 (res_tmp (v := (B r16)) rfl res_nil) rfl) ⟨rfl, rfl⟩ (H.sel' [] rfl rfl)
  ·replace h := bif_f hb14 h
   refine st_skip (congrArg some hb14) ?_
   refine st_skip (congrArg some hb14) ?_
   refine st_skip (congrArg some hb14) ?_
   refine st (v := (B false)) (rv_pick_f (congrArg B hb14) rfl) ?_
   refine st (v := (B false)) (rv_assign rfl) ?_
   refine w_end ?_
   refine q_then ?_
   refine c_ret ?_
   obtain rfl := Option.some.inj h
   exact fin_ret (v := (B false)) (results_ok Try.results38 (res_tmp (v := (B false)) rfl res_nil) rfl) ⟨rfl, rfl⟩ (H.sel' [] rfl rfl)
 ·replace h := bif_f hb8 h
  refine st_skip (congrArg some hb8) ?_
  refine st_skip (congrArg some hb8) ?_
  refine st_skip (congrArg some hb8) ?_
  refine st (v := (B false)) (rv_pick_f (congrArg B hb8) rfl) ?_
  refine st (v := (B false)) (rv_move rfl) ?_
  refine st_skip rfl ?_
  refine st_skip rfl ?_
  refine st_skip rfl ?_
  refine st (v := (B false)) (rv_pick_f rfl rfl) ?_
  refine st (v := (B false)) (rv_assign rfl) ?_
  refine w_end ?_
  refine q_then ?_
  refine c_ret ?_
  obtain rfl := Option.some.inj h
  exact fin_ret (v := (B false)) (results_ok Try.results38 (res_tmp (v := (B false)) rfl res_nil) rfl) ⟨rfl, rfl⟩ (H.sel' [] rfl rfl)

theorem c_spec_ValidFilter {f_0 : Int × Int × Int}  {r : Bool} (h : M.spec_ValidFilter f_0 = some r) :
    Cal2 Try.prog 30 [(.agg #[(I f_0.1), (I f_0.2.1), (I f_0.2.2)])] [] (fun n0 v L => v = (B r) ∧ L = []) := by
 refine cal2 (n := 5) Try.func30 rfl rfl rfl rfl ?_
 intro S0 σ0 n0 hn0 H
 unfold M.spec_ValidFilter at h
 refine c_seq ?_
 refine rg ?_
 refine st_ex (ex_box (cs := [(I f_0.1), (I f_0.2.1), (I f_0.2.2)]) H hn0 rfl rfl) wn ?_
 rintro _ σ2 ⟨b1, rfl, H, -⟩
 refine st (v := (B false)) (rv_assign rfl) ?_
 refine w_end ?_
 refine q_then ?_
 refine c_seq ?_
 refine rg ?_
 have hc3 := H.cells 0 rfl
 refine st (v := (.agg #[(I f_0.1), (I f_0.2.1), (I f_0.2.2)])) (rv_load (cs := [(I f_0.1), (I f_0.2.1), (I f_0.2.2)]) Try.underlying25 rfl ti25 rfl rfl hc3) ?_
 obtain ⟨r4, hx5, h'⟩ := bind_some h
 clear h
 have h := h'; clear h'
 have hc6 := c_spec_validFilter hx5
 refine st_call (cx_call hc6 (ent_f hc6.fn rfl) hn0 (show Hp S0 σ0 _ ([] ++ [Ch.bx n0 b1 0 [(I f_0.1), (I f_0.2.1), (I f_0.2.2)] [] []]) from (H.sel' [0] rfl rfl))) wn ?_
 rintro _ σ7 ⟨_, ⟨rfl, rfl⟩, H, -⟩
 replace H : Hp S0 σ0 σ7 [Ch.bx n0 b1 0 [(I f_0.1), (I f_0.2.1), (I f_0.2.2)] [] []] := H
 refine st (v := (B r4)) (rv_assign rfl) ?_
 refine w_end ?_
 refine q_then ?_
 refine c_ret ?_
 obtain rfl := Option.some.inj h
 exact fin_ret (v := (B r4)) (results_ok Try.results30 (res_tmp (v := (B r4)) rfl res_nil) rfl) ⟨rfl, rfl⟩ (H.sel' [] rfl rfl)

theorem c_laws_toFilter {a_0 : Int × Int × Int}  {r : (Int × Int × Int)} (h : M.laws_toFilter a_0 = some r) :
    Cal2 Try.prog 31 [(.agg #[(I a_0.1), (I a_0.2.1), (I a_0.2.2)])] [] (fun n0 v L => v = (.agg #[(I r.1), (I r.2.1), (I r.2.2)]) ∧ L = []) := by
 refine cal2 (n := 14) Try.func31 rfl rfl rfl rfl ?_
 intro S0 σ0 n0 hn0 H
 unfold M.laws_toFilter at h
 refine c_seq ?_
 refine rg ?_
 refine st_ex (ex_box (cs := [(I a_0.1), (I a_0.2.1), (I a_0.2.2)]) H hn0 rfl rfl) wn ?_
 rintro _ σ2 ⟨b1, rfl, H, -⟩
 refine st_ex (ex_alloc (cs := [(I 0), (I 0), (I 0)]) H hn0 ti25 rfl) wn ?_
 rintro _ σ4 ⟨b3, rfl, H, -⟩
 refine w_end ?_
 refine q_then ?_
 refine c_seq ?_
 refine rg ?_
 refine st_ex (ex_alloc (cs := [(I 0), (I 0), (I 0)]) H hn0 ti25 rfl) wn ?_
 rintro _ σ6 ⟨b5, rfl, H, -⟩
 refine w_end ?_
 refine q_then ?_
 refine c_seq ?_
 refine rg ?_
 refine st (v := (pt b1 0)) (rv_fieldAddr (off := 0) (ft := 3) Try.underlying48 rfl ti3 rfl rfl) ?_
 have hc7 := H.cell (u := (I a_0.1)) (o' := 0) 2 0 rfl rfl rfl
 refine st (v := (I a_0.1)) (rv_load1 Try.underlying3 rfl rfl hc7) ?_
 refine st (v := (pt b5 0)) (rv_fieldAddr (off := 0) (ft := 3) Try.underlying25 rfl ti3 rfl rfl) ?_
 refine st_exS (ex_store_box (k := 0) (cs := [(I 0), (I 0), (I 0)]) (vs := [(I a_0.1)]) (cs' := [(I a_0.1), (I 0), (I 0)]) H (i := 0) rfl ti3 rfl rfl rfl rfl rfl (Nat.le_of_ble_eq_true rfl) (by simp [plain]) rfl) wn ?_
 rintro σ8 ⟨H, -⟩
 refine w_end ?_
 refine q_then ?_
 refine c_seq ?_
 refine rg ?_
 refine st (v := (pt b1 1)) (rv_fieldAddr (off := 1) (ft := 3) Try.underlying48 rfl ti3 rfl rfl) ?_
 have hc9 := H.cell (u := (I a_0.2.1)) (o' := 1) 2 1 rfl rfl rfl
 refine st (v := (I a_0.2.1)) (rv_load1 Try.underlying3 rfl rfl hc9) ?_
 refine st (v := (pt b5 1)) (rv_fieldAddr (off := 1) (ft := 3) Try.underlying25 rfl ti3 rfl rfl) ?_
 refine st_exS (ex_store_box (k := 1) (cs := [(I a_0.1), (I 0), (I 0)]) (vs := [(I a_0.2.1)]) (cs' := [(I a_0.1), (I a_0.2.1), (I 0)]) H (i := 0) rfl ti3 rfl rfl rfl rfl rfl (Nat.le_of_ble_eq_true rfl) (by simp [plain]) rfl) wn ?_
 rintro σ10 ⟨H, -⟩
 refine w_end ?_
 refine q_then ?_
 refine c_seq ?_
 refine rg ?_
 refine st (v := (pt b1 2)) (rv_fieldAddr (off := 2) (ft := 3) Try.underlying48 rfl ti3 rfl rfl) ?_
 have hc11 := H.cell (u := (I a_0.2.2)) (o' := 2) 2 2 rfl rfl rfl
 refine st (v := (I a_0.2.2)) (rv_load1 Try.underlying3 rfl rfl hc11) ?_
 refine st (v := (pt b5 2)) (rv_fieldAddr (off := 2) (ft := 3) Try.underlying25 rfl ti3 rfl rfl) ?_
 refine st_exS (ex_store_box (k := 2) (cs := [(I a_0.1), (I a_0.2.1), (I 0)]) (vs := [(I a_0.2.2)]) (cs' := [(I a_0.1), (I a_0.2.1), (I a_0.2.2)]) H (i := 0) rfl ti3 rfl rfl rfl rfl rfl (Nat.le_of_ble_eq_true rfl) (by simp [plain]) rfl) wn ?_
 rintro σ12 ⟨H, -⟩
 refine w_end ?_
 refine q_then ?_
 refine c_seq ?_
 refine rg ?_
 have hc13 := H.cells 0 rfl
 refine st (v := (.agg #[(I a_0.1), (I a_0.2.1), (I a_0.2.2)])) (rv_load (cs := [(I a_0.1), (I a_0.2.1), (I a_0.2.2)]) Try.underlying25 rfl ti25 rfl rfl hc13) ?_
 refine st_exS (ex_store_box (k := 0) (cs := [(I 0), (I 0), (I 0)]) (vs := [(I a_0.1), (I a_0.2.1), (I a_0.2.2)]) (cs' := [(I a_0.1), (I a_0.2.1), (I a_0.2.2)]) H (i := 1) rfl ti25 rfl rfl rfl rfl rfl (Nat.le_of_ble_eq_true rfl) (by simp [plain]) rfl) wn ?_
 rintro σ14 ⟨H, -⟩
 refine w_end ?_
 refine q_then ?_
 refine c_ret ?_
 obtain rfl := Option.some.inj h
 exact fin_ret (v := (.agg #[(I a_0.1), (I a_0.2.1), (I a_0.2.2)])) (results_ok Try.results31 (res_cell rfl (run_cellRes (cs := [(I a_0.1), (I a_0.2.1), (I a_0.2.2)]) Try.underlying25 rfl ti25 rfl (H.cells 0 rfl)) res_nil) rfl) ⟨rfl, rfl⟩ (H.sel' [] rfl rfl)

theorem c_laws_FnExactValidFilter {aF_0 : Int × Int × Int}  {r : Bool} (h : M.laws_FnExactValidFilter aF_0 = some r) :
    Cal2 Try.prog 10 [(.agg #[(I aF_0.1), (I aF_0.2.1), (I aF_0.2.2)])] [] (fun n0 v L => v = (B r) ∧ L = []) := by
 refine cal2 (n := 14) Try.func10 rfl rfl rfl rfl ?_
 intro S0 σ0 n0 hn0 H
 unfold M.laws_FnExactValidFilter at h
 refine c_seq ?_
 refine rg ?_
 refine st_ex (ex_box (cs := [(I aF_0.1), (I aF_0.2.1), (I aF_0.2.2)]) H hn0 rfl rfl) wn ?_
 rintro _ σ2 ⟨b1, rfl, H, -⟩
 refine st (v := (B false)) (rv_assign rfl) ?_
 refine w_end ?_
 refine q_then ?_
 refine c_seq ?_
 refine rg ?_
 have hc3 := H.cells 0 rfl
 refine st (v := (.agg #[(I aF_0.1), (I aF_0.2.1), (I aF_0.2.2)])) (rv_load (cs := [(I aF_0.1), (I aF_0.2.1), (I aF_0.2.2)]) Try.underlying48 rfl ti48 rfl rfl hc3) ?_
 obtain ⟨r4, hx5, h'⟩ := bind_some h
 clear h
 have h := h'; clear h'
 have hc6 := c_laws_toFilter hx5
 refine st_call (cx_call hc6 (ent_f hc6.fn rfl) hn0 (show Hp S0 σ0 _ ([] ++ [Ch.bx n0 b1 0 [(I aF_0.1), (I aF_0.2.1), (I aF_0.2.2)] [] []]) from (H.sel' [0] rfl rfl))) wn ?_
 rintro _ σ7 ⟨_, ⟨rfl, rfl⟩, H, -⟩
 replace H : Hp S0 σ0 σ7 [Ch.bx n0 b1 0 [(I aF_0.1), (I aF_0.2.1), (I aF_0.2.2)] [] []] := H
 obtain ⟨r8, hx9, h'⟩ := bind_some h
 clear h
 have h := h'; clear h'
 have hc10 := c_spec_ValidFilter hx9
 refine st_call (cx_call hc10 (ent_f hc10.fn rfl) hn0 (show Hp S0 σ0 _ ([] ++ [Ch.bx n0 b1 0 [(I aF_0.1), (I aF_0.2.1), (I aF_0.2.2)] [] []]) from (H.sel' [0] rfl rfl))) wn ?_
 rintro _ σ11 ⟨_, ⟨rfl, rfl⟩, H, -⟩
 replace H : Hp S0 σ0 σ11 [Ch.bx n0 b1 0 [(I aF_0.1), (I aF_0.2.1), (I aF_0.2.2)] [] []] := H
 refine st (v := (B r8)) (rv_assign rfl) ?_
 refine w_end ?_
 refine q_then ?_
 refine c_seq ?_
 refine rg ?_
 have hc12 := H.cells 0 rfl
 refine st (v := (.agg #[(I aF_0.1), (I aF_0.2.1), (I aF_0.2.2)])) (rv_load (cs := [(I aF_0.1), (I aF_0.2.1), (I aF_0.2.2)]) Try.underlying48 rfl ti48 rfl rfl hc12) ?_
 obtain ⟨r13, hx14, h'⟩ := bind_some h
 clear h
 have h := h'; clear h'
 have hc15 := c_laws_toFilter hx14
 refine st_call (cx_call hc15 (ent_f hc15.fn rfl) hn0 (show Hp S0 σ0 _ ([] ++ [Ch.bx n0 b1 0 [(I aF_0.1), (I aF_0.2.1), (I aF_0.2.2)] [] []]) from (H.sel' [0] rfl rfl))) wn ?_
 rintro _ σ16 ⟨_, ⟨rfl, rfl⟩, H, -⟩
 replace H : Hp S0 σ0 σ16 [Ch.bx n0 b1 0 [(I aF_0.1), (I aF_0.2.1), (I aF_0.2.2)] [] []] := H
 obtain ⟨r17, hx18, h'⟩ := bind_some h
 clear h
 have h := h'; clear h'
 have hc19 := c_impl_ValidFilter hx18
 refine st_call (cx_call hc19 (ent_f hc19.fn rfl) hn0 (show Hp S0 σ0 _ ([] ++ [Ch.bx n0 b1 0 [(I aF_0.1), (I aF_0.2.1), (I aF_0.2.2)] [] []]) from (H.sel' [0] rfl rfl))) wn ?_
 rintro _ σ20 ⟨_, ⟨rfl, rfl⟩, H, -⟩
 replace H : Hp S0 σ0 σ20 [Ch.bx n0 b1 0 [(I aF_0.1), (I aF_0.2.1), (I aF_0.2.2)] [] []] := H
 refine st (v := (B r17)) (rv_assign rfl) ?_
 refine w_end ?_
 refine q_then ?_
 refine c_seq ?_
 refine c_seq ?_
 refine rg ?_
 refine st (v := (B r17)) (rv_move rfl) ?_
 refine st (v := (B r8)) (rv_move rfl) ?_
 refine st (v := (B (r17 != r8))) (rv_bneq Try.underlying4 rfl rfl) ?_
 refine w_end ?_
 refine q_then ?_
 refine cd_cond (r17 != r8) rfl (fun hb21 => ?_) (fun hb21 => ?_)
 ·replace h := bif_t hb21 h
  refine c_seq ?_
  refine rg ?_
  refine st (v := (B false)) (rv_assign rfl) ?_
  refine w_end ?_
  refine q_then ?_
  refine c_ret ?_
  refine q_then_r ?_
  obtain rfl := Option.some.inj h
  exact fin_ret (v := (B false)) (results_ok Try.results10 (res_tmp (v := (B false)) rfl res_nil) rfl) ⟨rfl, rfl⟩ (H.sel' [] rfl rfl)
 ·replace h := bif_f hb21 h
  refine c_skip ?_
  refine q_then ?_
  refine c_seq ?_
  refine rg ?_
  refine st (v := (B true)) (rv_assign rfl) ?_
  refine w_end ?_
  refine q_then ?_
  refine c_ret ?_
  obtain rfl := Option.some.inj h
  exact fin_ret (v := (B true)) (results_ok Try.results10 (res_tmp (v := (B true)) rfl res_nil) rfl) ⟨rfl, rfl⟩ (H.sel' [] rfl rfl)

end Go.Vs
