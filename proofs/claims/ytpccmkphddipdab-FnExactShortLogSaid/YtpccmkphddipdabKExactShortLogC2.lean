/- The functions compute what their models say. -/
import Derived.Test.YtpccmkphddipdabKExactShortLogC1
set_option linter.unusedVariables false
set_option linter.unusedSimpArgs false
set_option maxRecDepth 20000
namespace Go.Vs
open Go Go.Proofs
attribute [local irreducible] Code.wp Code.wpIn wpList wpListIn wpQuiet Calls CallsIn

theorem c_impl_ValidVector {v_0 : List Int} {av_0 : Option Addr} {cv_0 : Nat} {r : Bool} (h : M.impl_ValidVector v_0 = some r) :
    Cal2 Try.prog 100 [(Sl av_0 v_0 cv_0)] [Ch.ro 0 (Sl av_0 v_0 cv_0) v_0] (fun n0 v L => v = (B r) ∧ L = []) := by
 refine cal2 (n := 10) Try.func100 rfl rfl rfl rfl ?_
 intro S0 σ0 n0 hn0 H
 unfold M.impl_ValidVector at h
 refine c_seq ?_
 refine rg ?_
 refine st (v := (B false)) (rv_assign rfl) ?_
 refine w_end ?_
 refine q_then ?_
 refine c_seq ?_
 refine rg ?_
 refine st (v := (Sl av_0 v_0 cv_0)) (rv_move rfl) ?_
 refine st (v := (I (v_0.length : Int))) (rv_len Try.underlying26 rfl) ?_
 refine st (v := (B ((v_0.length : Int) == 4))) (rv_eql (a := (v_0.length : Int)) (b := 4) rfl rfl) ?_
 refine st (v := (B ((v_0.length : Int) == 4))) (rv_move rfl) ?_
 rcases Bool.eq_false_or_eq_true ((v_0.length : Int) == 4) with hb1 | hb1
 ·replace h := bif_t hb1 h
  refine st_g (v := (Sl av_0 v_0 cv_0)) (congrArg some hb1) (rv_move rfl) ?_
  obtain ⟨r2, hx3, h'⟩ := bind_some h
  clear h
  have h := h'; clear h'
  have hc4 := c_impl_validCoords (acoords_0 := av_0) (ccoords_0 := cv_0) hx3
  refine st_call (cx_call hc4 (ent_f hc4.fn rfl) hn0 (show Hp S0 σ0 _ ([Ch.ro 0 (Sl av_0 v_0 cv_0) v_0] ++ [Ch.ro 0 (Sl av_0 v_0 cv_0) v_0]) from (H.sel' [0, 0] rfl rfl))) (wanted_yes rfl (by exact (congrArg some hb1))) ?_
  rintro _ σ5 ⟨_, ⟨rfl, rfl⟩, H, -⟩
  replace H : Hp S0 σ0 σ5 [Ch.ro 0 (Sl av_0 v_0 cv_0) v_0] := H
  refine st (v := (B r2)) (rv_pick_t (congrArg B hb1) rfl) ?_
  refine st (v := (B r2)) (rv_assign rfl) ?_
  refine w_end ?_
  refine q_then ?_
  refine c_ret ?_
  obtain rfl := Option.some.inj h
  exact fin_ret (v := (B r2)) (results_ok Try.results100 (res_tmp (v := (B r2)) rfl res_nil) rfl) ⟨rfl, rfl⟩ (H.sel' [] rfl rfl)
 ·replace h := bif_f hb1 h
  refine st_skip (congrArg some hb1) ?_
  refine st_skip (congrArg some hb1) ?_
  refine st (v := (B false)) (rv_pick_f (congrArg B hb1) rfl) ?_
  refine st (v := (B false)) (rv_assign rfl) ?_
  refine w_end ?_
  refine q_then ?_
  refine c_ret ?_
  obtain rfl := Option.some.inj h
  exact fin_ret (v := (B false)) (results_ok Try.results100 (res_tmp (v := (B false)) rfl res_nil) rfl) ⟨rfl, rfl⟩ (H.sel' [] rfl rfl)

theorem c_impl_validTags {tags_0 : Int}  {r : Bool} (h : M.impl_validTags tags_0 = some r) :
    Cal2 Try.prog 101 [(I tags_0)] [] (fun n0 v L => v = (B r) ∧ L = []) := by
 refine cal2 (n := 9) Try.func101 rfl rfl rfl rfl ?_
 intro S0 σ0 n0 hn0 H
 unfold M.impl_validTags at h
 refine c_seq ?_
 refine rg ?_
 refine st (v := (B false)) (rv_assign rfl) ?_
 refine w_end ?_
 refine q_then ?_
 refine c_seq ?_
 refine rg ?_
 refine st (v := (I tags_0)) (rv_move rfl) ?_
 refine st (v := (B (decide (0 ≤ tags_0)))) (rv_geq (a := tags_0) (b := 0) rfl rfl) ?_
 refine st (v := (B (decide (0 ≤ tags_0)))) (rv_move rfl) ?_
 rcases Bool.eq_false_or_eq_true (decide (0 ≤ tags_0)) with hb1 | hb1
 ·replace h := bif_t hb1 h
  refine st_g (v := (I tags_0)) (congrArg some hb1) (rv_move rfl) ?_
  refine st_g (v := (B (decide (tags_0 ≤ 15)))) (congrArg some hb1) (rv_leq (a := tags_0) (b := 15) rfl rfl) ?_
  refine st (v := (B (decide (tags_0 ≤ 15)))) (rv_pick_t (congrArg B hb1) rfl) ?_
  refine st (v := (B (decide (tags_0 ≤ 15)))) (rv_assign rfl) ?_
  refine w_end ?_
  refine q_then ?_
  refine c_ret ?_
  obtain rfl := Option.some.inj h
  exact fin_ret (v := (B (decide (tags_0 ≤ 15)))) (results_ok Try.results101 (res_tmp (v := (B (decide (tags_0 ≤ 15)))) rfl res_nil) rfl) ⟨rfl, rfl⟩ (H.sel' [] rfl rfl)
 ·replace h := bif_f hb1 h
  refine st_skip (congrArg some hb1) ?_
  refine st_skip (congrArg some hb1) ?_
  refine st (v := (B false)) (rv_pick_f (congrArg B hb1) rfl) ?_
  refine st (v := (B false)) (rv_assign rfl) ?_
  refine w_end ?_
  refine q_then ?_
  refine c_ret ?_
  obtain rfl := Option.some.inj h
  exact fin_ret (v := (B false)) (results_ok Try.results101 (res_tmp (v := (B false)) rfl res_nil) rfl) ⟨rfl, rfl⟩ (H.sel' [] rfl rfl)

theorem c_impl_validItem {x_0 : Int × (List Int) × Int} {ax_0_1 : Option Addr} {cx_0_1 : Nat} {r : Bool} (h : M.impl_validItem x_0 = some r) :
    Cal2 Try.prog 68 [(.agg #[(I x_0.1), (Sl ax_0_1 x_0.2.1 cx_0_1), (I x_0.2.2)])] [Ch.ro 0 (Sl ax_0_1 x_0.2.1 cx_0_1) x_0.2.1] (fun n0 v L => v = (B r) ∧ L = []) := by
 refine cal2 (n := 16) Try.func68 rfl rfl rfl rfl ?_
 intro S0 σ0 n0 hn0 H
 unfold M.impl_validItem at h
 refine c_seq ?_
 refine rg ?_
 refine st_ex (ex_box (cs := [(I x_0.1), (Sl ax_0_1 x_0.2.1 cx_0_1), (I x_0.2.2)]) H hn0 rfl rfl) wn ?_
 rintro _ σ2 ⟨b1, rfl, H, -⟩
 refine st (v := (B false)) (rv_assign rfl) ?_
 refine w_end ?_
 refine q_then ?_
 refine c_seq ?_
 refine rg ?_
 refine st (v := (pt b1 0)) (rv_fieldAddr (off := 0) (ft := 3) Try.underlying32 rfl ti3 rfl rfl) ?_
 have hc3 := H.cell (u := (I x_0.1)) (o' := 0) 0 0 rfl rfl rfl
 refine st (v := (I x_0.1)) (rv_load1 Try.underlying3 rfl rfl hc3) ?_
 obtain ⟨r4, hx5, h'⟩ := bind_some h
 clear h
 have h := h'; clear h'
 have hc6 := c_impl_validKey hx5
 refine st_call (cx_call hc6 (ent_f hc6.fn rfl) hn0 (show Hp S0 σ0 _ ([] ++ [Ch.bx n0 b1 0 [(I x_0.1), (Sl ax_0_1 x_0.2.1 cx_0_1), (I x_0.2.2)] [] [], Ch.ro 0 (Sl ax_0_1 x_0.2.1 cx_0_1) x_0.2.1]) from (H.sel' [0, 1] rfl rfl))) wn ?_
 rintro _ σ7 ⟨_, ⟨rfl, rfl⟩, H, -⟩
 replace H : Hp S0 σ0 σ7 [Ch.bx n0 b1 0 [(I x_0.1), (Sl ax_0_1 x_0.2.1 cx_0_1), (I x_0.2.2)] [] [], Ch.ro 0 (Sl ax_0_1 x_0.2.1 cx_0_1) x_0.2.1] := H
 refine st (v := (B r4)) (rv_move rfl) ?_
 rcases Bool.eq_false_or_eq_true r4 with hb8 | hb8
 ·replace h := bif_t hb8 h
  refine st_g (v := (pt b1 1)) (congrArg some hb8) (rv_fieldAddr (off := 1) (ft := 26) Try.underlying32 rfl ti26 rfl rfl) ?_
  have hc9 := H.cell (u := (Sl ax_0_1 x_0.2.1 cx_0_1)) (o' := 1) 0 1 rfl rfl rfl
  refine st_g (v := (Sl ax_0_1 x_0.2.1 cx_0_1)) (congrArg some hb8) (rv_load1 Try.underlying26 rfl rfl hc9) ?_
  obtain ⟨r10, hx11, h'⟩ := bind_some h
  clear h
  have h := h'; clear h'
  have hc12 := c_impl_ValidVector (av_0 := ax_0_1) (cv_0 := cx_0_1) hx11
  refine st_call (cx_call hc12 (ent_f hc12.fn rfl) hn0 (show Hp S0 σ0 _ ([Ch.ro 0 (Sl ax_0_1 x_0.2.1 cx_0_1) x_0.2.1] ++ [Ch.bx n0 b1 0 [(I x_0.1), (Sl ax_0_1 x_0.2.1 cx_0_1), (I x_0.2.2)] [] [], Ch.ro 0 (Sl ax_0_1 x_0.2.1 cx_0_1) x_0.2.1]) from (H.sel' [1, 0, 1] rfl rfl))) (wanted_yes rfl (by exact (congrArg some hb8))) ?_
  rintro _ σ13 ⟨_, ⟨rfl, rfl⟩, H, -⟩
  replace H : Hp S0 σ0 σ13 [Ch.bx n0 b1 0 [(I x_0.1), (Sl ax_0_1 x_0.2.1 cx_0_1), (I x_0.2.2)] [] [], Ch.ro 0 (Sl ax_0_1 x_0.2.1 cx_0_1) x_0.2.1] := H
  refine st (v := (B r10)) (rv_pick_t (congrArg B hb8) rfl) ?_
  refine st (v := (B r10)) (rv_move rfl) ?_
  rcases Bool.eq_false_or_eq_true r10 with hb14 | hb14
  ·replace h := bif_t hb14 h
   refine st_g (v := (pt b1 2)) (congrArg some hb14) (rv_fieldAddr (off := 2) (ft := 3) Try.underlying32 rfl ti3 rfl rfl) ?_
   have hc15 := H.cell (u := (I x_0.2.2)) (o' := 2) 0 2 rfl rfl rfl
   refine st_g (v := (I x_0.2.2)) (congrArg some hb14) (rv_load1 Try.underlying3 rfl rfl hc15) ?_
   obtain ⟨r16, hx17, h'⟩ := bind_some h
   clear h
   have h := h'; clear h'
   have hc18 := c_impl_validTags hx17
   refine st_call (cx_call hc18 (ent_f hc18.fn rfl) hn0 (show Hp S0 σ0 _ ([] ++ [Ch.bx n0 b1 0 [(I x_0.1), (Sl ax_0_1 x_0.2.1 cx_0_1), (I x_0.2.2)] [] [], Ch.ro 0 (Sl ax_0_1 x_0.2.1 cx_0_1) x_0.2.1]) from (H.sel' [0, 1] rfl rfl))) (wanted_yes rfl (by exact (congrArg some hb14))) ?_
   rintro _ σ19 ⟨_, ⟨rfl, rfl⟩, H, -⟩
   replace H : Hp S0 σ0 σ19 [Ch.bx n0 b1 0 [(I x_0.1), (Sl ax_0_1 x_0.2.1 cx_0_1), (I x_0.2.2)] [] [], Ch.ro 0 (Sl ax_0_1 x_0.2.1 cx_0_1) x_0.2.1] := H
   refine st (v := (B r16)) (rv_pick_t (congrArg B hb14) rfl) ?_
   refine st (v := (B r16)) (rv_assign rfl) ?_
   refine w_end ?_
   refine q_then ?_
   refine c_ret ?_
   obtain rfl := Option.some.inj h
   exact fin_ret (v := (B r16)) (results_ok Try.results68 (res_tmp (v := (B r16)) rfl res_nil) rfl) ⟨rfl, rfl⟩ (H.sel' [] rfl rfl)
  ·replace h := bif_f hb14 h
   refine st_skip (congrArg some hb14) ?_
   refine st_skip (congrArg some hb14) ?_
   refine st_skip (congrArg some hb14) ?_
   refine st (v := (B false)) (rv_pick_f (congrArg B hb14) rfl) ?_
   refine st (v := (B false)) (rv_assign rfl) ?_
   refine w_end ?_
   refine q_then ?_
   refine c_ret ?_
   obtain rfl := Option.some.inj h
   exact fin_ret (v := (B false)) (results_ok Try.results68 (res_tmp (v := (B false)) rfl res_nil) rfl) ⟨rfl, rfl⟩ (H.sel' [] rfl rfl)
 ·replace h := bif_f hb8 h
  refine st_skip (congrArg some hb8) ?_
  refine st_skip (congrArg some hb8) ?_
  refine st_skip (congrArg some hb8) ?_
  refine st (v := (B false)) (rv_pick_f (congrArg B hb8) rfl) ?_
  refine st (v := (B false)) (rv_move rfl) ?_
  refine st_skip rfl ?_
  refine st_skip rfl ?_
  refine st_skip rfl ?_
  refine st (v := (B false)) (rv_pick_f rfl rfl) ?_
  refine st (v := (B false)) (rv_assign rfl) ?_
  refine w_end ?_
  refine q_then ?_
  refine c_ret ?_
  obtain rfl := Option.some.inj h
  exact fin_ret (v := (B false)) (results_ok Try.results68 (res_tmp (v := (B false)) rfl res_nil) rfl) ⟨rfl, rfl⟩ (H.sel' [] rfl rfl)

theorem c_impl_onlyKey {x_0 : Int × (List Int) × Int} {ax_0_1 : Option Addr} {cx_0_1 : Nat} {r : Bool} (h : M.impl_onlyKey x_0 = some r) :
    Cal2 Try.prog 116 [(.agg #[(I x_0.1), (Sl ax_0_1 x_0.2.1 cx_0_1), (I x_0.2.2)])] [Ch.ro 0 (Sl ax_0_1 x_0.2.1 cx_0_1) x_0.2.1] (fun n0 v L => v = (B r) ∧ L = []) := by
 refine cal2 (n := 17) Try.func116 rfl rfl rfl rfl ?_
 intro S0 σ0 n0 hn0 H
 unfold M.impl_onlyKey at h
 refine c_seq ?_
 refine rg ?_
 refine st_ex (ex_box (cs := [(I x_0.1), (Sl ax_0_1 x_0.2.1 cx_0_1), (I x_0.2.2)]) H hn0 rfl rfl) wn ?_
 rintro _ σ2 ⟨b1, rfl, H, -⟩
 refine st (v := (B false)) (rv_assign rfl) ?_
 refine w_end ?_
 refine q_then ?_
 refine c_seq ?_
 refine rg ?_
 refine st (v := (pt b1 0)) (rv_fieldAddr (off := 0) (ft := 3) Try.underlying32 rfl ti3 rfl rfl) ?_
 have hc3 := H.cell (u := (I x_0.1)) (o' := 0) 0 0 rfl rfl rfl
 refine st (v := (I x_0.1)) (rv_load1 Try.underlying3 rfl rfl hc3) ?_
 obtain ⟨r4, hx5, h'⟩ := bind_some h
 clear h
 have h := h'; clear h'
 have hc6 := c_impl_validKey hx5
 refine st_call (cx_call hc6 (ent_f hc6.fn rfl) hn0 (show Hp S0 σ0 _ ([] ++ [Ch.bx n0 b1 0 [(I x_0.1), (Sl ax_0_1 x_0.2.1 cx_0_1), (I x_0.2.2)] [] [], Ch.ro 0 (Sl ax_0_1 x_0.2.1 cx_0_1) x_0.2.1]) from (H.sel' [0, 1] rfl rfl))) wn ?_
 rintro _ σ7 ⟨_, ⟨rfl, rfl⟩, H, -⟩
 replace H : Hp S0 σ0 σ7 [Ch.bx n0 b1 0 [(I x_0.1), (Sl ax_0_1 x_0.2.1 cx_0_1), (I x_0.2.2)] [] [], Ch.ro 0 (Sl ax_0_1 x_0.2.1 cx_0_1) x_0.2.1] := H
 refine st (v := (B r4)) (rv_move rfl) ?_
 rcases Bool.eq_false_or_eq_true r4 with hb8 | hb8
 ·replace h := bif_t hb8 h
  refine st_g (v := (pt b1 1)) (congrArg some hb8) (rv_fieldAddr (off := 1) (ft := 26) Try.underlying32 rfl ti26 rfl rfl) ?_
  have hc9 := H.cell (u := (Sl ax_0_1 x_0.2.1 cx_0_1)) (o' := 1) 0 1 rfl rfl rfl
  refine st_g (v := (Sl ax_0_1 x_0.2.1 cx_0_1)) (congrArg some hb8) (rv_load1 Try.underlying26 rfl rfl hc9) ?_
  refine st_g (v := (I (x_0.2.1.length : Int))) (congrArg some hb8) (rv_len Try.underlying26 rfl) ?_
  refine st_g (v := (B ((x_0.2.1.length : Int) == 0))) (congrArg some hb8) (rv_eql (a := (x_0.2.1.length : Int)) (b := 0) rfl rfl) ?_
  refine st (v := (B ((x_0.2.1.length : Int) == 0))) (rv_pick_t (congrArg B hb8) rfl) ?_
  refine st (v := (B ((x_0.2.1.length : Int) == 0))) (rv_move rfl) ?_
  rcases Bool.eq_false_or_eq_true ((x_0.2.1.length : Int) == 0) with hb10 | hb10
  ·replace h := bif_t hb10 h
   refine st_g (v := (pt b1 2)) (congrArg some hb10) (rv_fieldAddr (off := 2) (ft := 3) Try.underlying32 rfl ti3 rfl rfl) ?_
   have hc11 := H.cell (u := (I x_0.2.2)) (o' := 2) 0 2 rfl rfl rfl
   refine st_g (v := (I x_0.2.2)) (congrArg some hb10) (rv_load1 Try.underlying3 rfl rfl hc11) ?_
   refine st_g (v := (B (x_0.2.2 == 0))) (congrArg some hb10) (rv_eql (a := x_0.2.2) (b := 0) rfl rfl) ?_
   refine st (v := (B (x_0.2.2 == 0))) (rv_pick_t (congrArg B hb10) rfl) ?_
   refine st (v := (B (x_0.2.2 == 0))) (rv_assign rfl) ?_
   refine w_end ?_
   refine q_then ?_
   refine c_ret ?_
   obtain rfl := Option.some.inj h
   exact fin_ret (v := (B (x_0.2.2 == 0))) (results_ok Try.results116 (res_tmp (v := (B (x_0.2.2 == 0))) rfl res_nil) rfl) ⟨rfl, rfl⟩ (H.sel' [] rfl rfl)
  ·replace h := bif_f hb10 h
   refine st_skip (congrArg some hb10) ?_
   refine st_skip (congrArg some hb10) ?_
   refine st_skip (congrArg some hb10) ?_
   refine st (v := (B false)) (rv_pick_f (congrArg B hb10) rfl) ?_
   refine st (v := (B false)) (rv_assign rfl) ?_
   refine w_end ?_
   refine q_then ?_
   refine c_ret ?_
   obtain rfl := Option.some.inj h
   exact fin_ret (v := (B false)) (results_ok Try.results116 (res_tmp (v := (B false)) rfl res_nil) rfl) ⟨rfl, rfl⟩ (H.sel' [] rfl rfl)
 ·replace h := bif_f hb8 h
  refine st_skip (congrArg some hb8) ?_
  refine st_skip (congrArg some hb8) ?_
  refine st_skip (congrArg some hb8) ?_
  refine st_skip (congrArg some hb8) ?_
  refine st (v := (B false)) (rv_pick_f (congrArg B hb8) rfl) ?_
  refine st (v := (B false)) (rv_move rfl) ?_
  refine st_skip rfl ?_
  refine st_skip rfl ?_
  refine st_skip rfl ?_
  refine st (v := (B false)) (rv_pick_f rfl rfl) ?_
  refine st (v := (B false)) (rv_assign rfl) ?_
  refine w_end ?_
  refine q_then ?_
  refine c_ret ?_
  obtain rfl := Option.some.inj h
  exact fin_ret (v := (B false)) (results_ok Try.results116 (res_tmp (v := (B false)) rfl res_nil) rfl) ⟨rfl, rfl⟩ (H.sel' [] rfl rfl)

theorem c_impl_changeOf {e_0 : Int × (Int × (List Int) × Int)} {ae_0_1_1 : Option Addr} {ce_0_1_1 : Nat} {r : (If2 Int ((Int × (List Int) × Int))) × Bool} (h : M.impl_changeOf e_0 = some r) :
    Cal2 Try.prog 92 [(.agg #[(I e_0.1), (I e_0.2.1), (Sl ae_0_1_1 e_0.2.2.1 ce_0_1_1), (I e_0.2.2.2)])] [Ch.ro 0 (Sl ae_0_1_1 e_0.2.2.1 ce_0_1_1) e_0.2.2.1] (fun n0 v L => ∃ (az1 : Option Addr), ∃ (cz2 : Nat), v = (.tuple #[(ifs2 r.1.1 (.iface 91 (.agg #[(I r.1.2.1)])) (.iface 95 (.agg #[(I r.1.2.2.1), (Sl az1 r.1.2.2.2.1 cz2), (I r.1.2.2.2.2)]))), (B r.2)]) ∧ L = [Ch.ro 0 (Sl az1 r.1.2.2.2.1 cz2) r.1.2.2.2.1]) := by
 refine cal2 (n := 31) Try.func92 rfl rfl rfl rfl ?_
 intro S0 σ0 n0 hn0 H
 unfold M.impl_changeOf at h
 refine c_seq ?_
 refine rg ?_
 refine st_ex (ex_box (cs := [(I e_0.1), (I e_0.2.1), (Sl ae_0_1_1 e_0.2.2.1 ce_0_1_1), (I e_0.2.2.2)]) H hn0 rfl rfl) wn ?_
 rintro _ σ2 ⟨b1, rfl, H, -⟩
 refine st (v := .nilIface) (rv_assign rfl) ?_
 refine st (v := (B false)) (rv_assign rfl) ?_
 refine w_end ?_
 refine q_then ?_
 refine c_seq ?_
 refine c_blk ?_
 refine c_seq ?_
 obtain ⟨o3, hj, h'⟩ := bind_some h
 clear h
 refine c_cut (fun e a w => e = .normal ∧ ∃ (ρ : Nat → Value) (σ : St), a = fr 31 (updL ρ [(1, (pt b1 0)), (4, (B o3))]) ∧ w = σ.w ∧ Hp S0 σ0 σ [Ch.ro 0 (Sl ae_0_1_1 e_0.2.2.1 ce_0_1_1) e_0.2.2.1, Ch.bx n0 b1 0 [(I e_0.1), (I e_0.2.1), (Sl ae_0_1_1 e_0.2.2.1 ce_0_1_1), (I e_0.2.2.2)] [] []]) ?_ ?_
 ·clear h'
  rename _ = some o3 => h
  refine rg ?_
  refine st (v := (pt b1 0)) (rv_fieldAddr (off := 0) (ft := 3) Try.underlying42 rfl ti3 rfl rfl) ?_
  have hc4 := H.cell (u := (I e_0.1)) (o' := 0) 0 0 rfl rfl rfl
  refine st (v := (I e_0.1)) (rv_load1 Try.underlying3 rfl rfl hc4) ?_
  refine st (v := (B (e_0.1 == 1))) (rv_eql (a := e_0.1) (b := 1) rfl rfl) ?_
  refine st (v := (B (e_0.1 == 1))) (rv_move rfl) ?_
  rcases Bool.eq_false_or_eq_true (e_0.1 == 1) with hb5 | hb5
  ·replace h := bif_t hb5 h
   refine st_g (v := (pt b1 1)) (congrArg some hb5) (rv_fieldAddr (off := 1) (ft := 32) Try.underlying42 rfl ti32 rfl rfl) ?_
   have hc6 := H.part (us := [(I e_0.2.1), (Sl ae_0_1_1 e_0.2.2.1 ce_0_1_1), (I e_0.2.2.2)]) (o' := 1) 0 1 3 rfl rfl rfl rfl
   refine st_g (v := (.agg #[(I e_0.2.1), (Sl ae_0_1_1 e_0.2.2.1 ce_0_1_1), (I e_0.2.2.2)])) (congrArg some hb5) (rv_load (cs := [(I e_0.2.1), (Sl ae_0_1_1 e_0.2.2.1 ce_0_1_1), (I e_0.2.2.2)]) Try.underlying32 rfl ti32 rfl rfl hc6) ?_
   obtain ⟨r7, hx8, h'⟩ := bind_some h
   clear h
   have h := h'; clear h'
   have hc9 := c_impl_validItem (ax_0_1 := ae_0_1_1) (cx_0_1 := ce_0_1_1) hx8
   refine st_call (cx_call hc9 (ent_f hc9.fn rfl) hn0 (show Hp S0 σ0 _ ([Ch.ro 0 (Sl ae_0_1_1 e_0.2.2.1 ce_0_1_1) e_0.2.2.1] ++ [Ch.bx n0 b1 0 [(I e_0.1), (I e_0.2.1), (Sl ae_0_1_1 e_0.2.2.1 ce_0_1_1), (I e_0.2.2.2)] [] [], Ch.ro 0 (Sl ae_0_1_1 e_0.2.2.1 ce_0_1_1) e_0.2.2.1]) from (H.sel' [1, 0, 1] rfl rfl))) (wanted_yes rfl (by exact (congrArg some hb5))) ?_
   rintro _ σ10 ⟨_, ⟨rfl, rfl⟩, H, -⟩
   replace H : Hp S0 σ0 σ10 [Ch.bx n0 b1 0 [(I e_0.1), (I e_0.2.1), (Sl ae_0_1_1 e_0.2.2.1 ce_0_1_1), (I e_0.2.2.2)] [] [], Ch.ro 0 (Sl ae_0_1_1 e_0.2.2.1 ce_0_1_1) e_0.2.2.1] := H
   refine st (v := (B r7)) (rv_pick_t (congrArg B hb5) rfl) ?_
   refine st (v := (B r7)) (rv_assign rfl) ?_
   refine w_end ?_
   obtain rfl := Option.some.inj h
   exact ⟨rfl, _, σ10, fr_join ⟨rfl, rfl, trivial⟩, rfl, H.sel' [1, 0] rfl rfl⟩
  ·replace h := bif_f hb5 h
   refine st_skip (congrArg some hb5) ?_
   refine st_skip (congrArg some hb5) ?_
   refine st_skip (congrArg some hb5) ?_
   refine st (v := (B false)) (rv_pick_f (congrArg B hb5) rfl) ?_
   refine st (v := (B false)) (rv_assign rfl) ?_
   refine w_end ?_
   obtain rfl := Option.some.inj h
   exact ⟨rfl, _, σ2, fr_join ⟨rfl, rfl, trivial⟩, rfl, H.sel' [1, 0] rfl rfl⟩
 ·clear hj
  have h := h'
  clear h' H
  rintro e a w ⟨rfl, ρ, σ11, rfl, rfl, H⟩
  refine q_then ?_
  refine cd_cond o3 rfl (fun hb12 => ?_) (fun hb12 => ?_)
  ·replace h := bif_t hb12 h
   refine c_seq ?_
   refine rg ?_
   refine st (v := (pt b1 1)) (rv_fieldAddr (off := 1) (ft := 32) Try.underlying42 rfl ti32 rfl rfl) ?_
   have hc13 := H.part (us := [(I e_0.2.1), (Sl ae_0_1_1 e_0.2.2.1 ce_0_1_1), (I e_0.2.2.2)]) (o' := 1) 1 1 3 rfl rfl rfl rfl
   refine st (v := (.agg #[(I e_0.2.1), (Sl ae_0_1_1 e_0.2.2.1 ce_0_1_1), (I e_0.2.2.2)])) (rv_load (cs := [(I e_0.2.1), (Sl ae_0_1_1 e_0.2.2.1 ce_0_1_1), (I e_0.2.2.2)]) Try.underlying32 rfl ti32 rfl rfl hc13) ?_
   refine st (v := (.agg #[(I e_0.2.1), (Sl ae_0_1_1 e_0.2.2.1 ce_0_1_1), (I e_0.2.2.2)])) (rv_build (ps := [(0, (.agg #[(I e_0.2.1), (Sl ae_0_1_1 e_0.2.2.1 ce_0_1_1), (I e_0.2.2.2)]))]) Try.underlying95 ti95 (bp95 Try.underlying95) rfl (by kernel_rfl)) ?_
   refine st (v := (.iface 95 (.agg #[(I e_0.2.1), (Sl ae_0_1_1 e_0.2.2.1 ce_0_1_1), (I e_0.2.2.2)]))) (rv_makeInterface Try.underlying95 rfl rfl) ?_
   refine st (v := (.iface 95 (.agg #[(I e_0.2.1), (Sl ae_0_1_1 e_0.2.2.1 ce_0_1_1), (I e_0.2.2.2)]))) (rv_assign rfl) ?_
   refine st (v := (B true)) (rv_assign rfl) ?_
   refine w_end ?_
   refine q_then ?_
   refine c_ret ?_
   refine q_blk_r ?_
   refine q_then_r ?_
   obtain rfl := Option.some.inj h
   exact fin_ret (v := (.tuple #[(ifs2 2 (.iface 91 (.agg #[(I 0)])) (.iface 95 (.agg #[(I e_0.2.1), (Sl ae_0_1_1 e_0.2.2.1 ce_0_1_1), (I e_0.2.2.2)]))), (B true)])) (results_ok Try.results92 (res_tmp (v := (ifs2 2 (.iface 91 (.agg #[(I 0)])) (.iface 95 (.agg #[(I e_0.2.1), (Sl ae_0_1_1 e_0.2.2.1 ce_0_1_1), (I e_0.2.2.2)])))) rfl (res_tmp (v := (B true)) rfl res_nil)) rfl) ⟨ae_0_1_1, ce_0_1_1, rfl, rfl⟩ (H.sel' [0] rfl rfl)
  ·replace h := bif_f hb12 h
   refine c_seq ?_
   obtain ⟨o14, hj, h'⟩ := bind_some h
   clear h
   refine c_cut (fun e a w => e = .normal ∧ ∃ (ρ : Nat → Value) (σ : St), a = fr 31 (updL ρ [(1, (pt b1 0)), (17, (B o14))]) ∧ w = σ.w ∧ Hp S0 σ0 σ [Ch.ro 0 (Sl ae_0_1_1 e_0.2.2.1 ce_0_1_1) e_0.2.2.1, Ch.bx n0 b1 0 [(I e_0.1), (I e_0.2.1), (Sl ae_0_1_1 e_0.2.2.1 ce_0_1_1), (I e_0.2.2.2)] [] []]) ?_ ?_
   ·clear h'
    rename _ = some o14 => h
    refine rg ?_
    refine st (v := (pt b1 0)) (rv_fieldAddr (off := 0) (ft := 3) Try.underlying42 rfl ti3 rfl rfl) ?_
    have hc15 := H.cell (u := (I e_0.1)) (o' := 0) 1 0 rfl rfl rfl
    refine st (v := (I e_0.1)) (rv_load1 Try.underlying3 rfl rfl hc15) ?_
    refine st (v := (B (e_0.1 == 2))) (rv_eql (a := e_0.1) (b := 2) rfl rfl) ?_
    refine st (v := (B (e_0.1 == 2))) (rv_move rfl) ?_
    rcases Bool.eq_false_or_eq_true (e_0.1 == 2) with hb16 | hb16
    ·replace h := bif_t hb16 h
     refine st_g (v := (pt b1 1)) (congrArg some hb16) (rv_fieldAddr (off := 1) (ft := 32) Try.underlying42 rfl ti32 rfl rfl) ?_
     have hc17 := H.part (us := [(I e_0.2.1), (Sl ae_0_1_1 e_0.2.2.1 ce_0_1_1), (I e_0.2.2.2)]) (o' := 1) 1 1 3 rfl rfl rfl rfl
     refine st_g (v := (.agg #[(I e_0.2.1), (Sl ae_0_1_1 e_0.2.2.1 ce_0_1_1), (I e_0.2.2.2)])) (congrArg some hb16) (rv_load (cs := [(I e_0.2.1), (Sl ae_0_1_1 e_0.2.2.1 ce_0_1_1), (I e_0.2.2.2)]) Try.underlying32 rfl ti32 rfl rfl hc17) ?_
     obtain ⟨r18, hx19, h'⟩ := bind_some h
     clear h
     have h := h'; clear h'
     have hc20 := c_impl_onlyKey (ax_0_1 := ae_0_1_1) (cx_0_1 := ce_0_1_1) hx19
     refine st_call (cx_call hc20 (ent_f hc20.fn rfl) hn0 (show Hp S0 σ0 _ ([Ch.ro 0 (Sl ae_0_1_1 e_0.2.2.1 ce_0_1_1) e_0.2.2.1] ++ [Ch.ro 0 (Sl ae_0_1_1 e_0.2.2.1 ce_0_1_1) e_0.2.2.1, Ch.bx n0 b1 0 [(I e_0.1), (I e_0.2.1), (Sl ae_0_1_1 e_0.2.2.1 ce_0_1_1), (I e_0.2.2.2)] [] []]) from (H.sel' [0, 0, 1] rfl rfl))) (wanted_yes rfl (by exact (congrArg some hb16))) ?_
     rintro _ σ21 ⟨_, ⟨rfl, rfl⟩, H, -⟩
     replace H : Hp S0 σ0 σ21 [Ch.ro 0 (Sl ae_0_1_1 e_0.2.2.1 ce_0_1_1) e_0.2.2.1, Ch.bx n0 b1 0 [(I e_0.1), (I e_0.2.1), (Sl ae_0_1_1 e_0.2.2.1 ce_0_1_1), (I e_0.2.2.2)] [] []] := H
     refine st (v := (B r18)) (rv_pick_t (congrArg B hb16) rfl) ?_
     refine st (v := (B r18)) (rv_assign rfl) ?_
     refine w_end ?_
     obtain rfl := Option.some.inj h
     exact ⟨rfl, _, σ21, fr_join ⟨rfl, rfl, trivial⟩, rfl, H.sel' [0, 1] rfl rfl⟩
    ·replace h := bif_f hb16 h
     refine st_skip (congrArg some hb16) ?_
     refine st_skip (congrArg some hb16) ?_
     refine st_skip (congrArg some hb16) ?_
     refine st (v := (B false)) (rv_pick_f (congrArg B hb16) rfl) ?_
     refine st (v := (B false)) (rv_assign rfl) ?_
     refine w_end ?_
     obtain rfl := Option.some.inj h
     exact ⟨rfl, _, σ11, fr_join ⟨rfl, rfl, trivial⟩, rfl, H.sel' [0, 1] rfl rfl⟩
   ·clear hj
    have h := h'
    clear h' H
    rintro e a w ⟨rfl, ρ, σ22, rfl, rfl, H⟩
    refine q_then ?_
    refine cd_cond o14 rfl (fun hb23 => ?_) (fun hb23 => ?_)
    ·replace h := bif_t hb23 h
     refine c_seq ?_
     refine rg ?_
     refine st (v := (pt b1 1)) (rv_fieldAddr (off := 1) (ft := 32) Try.underlying42 rfl ti32 rfl rfl) ?_
     refine st (v := (pt b1 1)) (rv_fieldAddr (off := 0) (ft := 3) Try.underlying32 rfl ti3 rfl rfl) ?_
     have hc24 := H.cell (u := (I e_0.2.1)) (o' := 1) 1 1 rfl rfl rfl
     refine st (v := (I e_0.2.1)) (rv_load1 Try.underlying3 rfl rfl hc24) ?_
     refine st (v := (.agg #[(I e_0.2.1)])) (rv_build (ps := [(0, (I e_0.2.1))]) Try.underlying91 ti91 (bp91 Try.underlying91) rfl (by kernel_rfl)) ?_
     refine st (v := (.iface 91 (.agg #[(I e_0.2.1)]))) (rv_makeInterface Try.underlying91 rfl rfl) ?_
     refine st (v := (.iface 91 (.agg #[(I e_0.2.1)]))) (rv_assign rfl) ?_
     refine st (v := (B true)) (rv_assign rfl) ?_
     refine w_end ?_
     refine q_then ?_
     refine c_ret ?_
     refine q_blk_r ?_
     refine q_then_r ?_
     replace H := H.nilRo Int 0
     obtain rfl := Option.some.inj h
     exact fin_ret (v := (.tuple #[(ifs2 1 (.iface 91 (.agg #[(I e_0.2.1)])) (.iface 95 (.agg #[(I 0), (.slice none 0 0), (I 0)]))), (B true)])) (results_ok Try.results92 (res_tmp (v := (ifs2 1 (.iface 91 (.agg #[(I e_0.2.1)])) (.iface 95 (.agg #[(I 0), (.slice none 0 0), (I 0)])))) rfl (res_tmp (v := (B true)) rfl res_nil)) rfl) ⟨none, 0, rfl, rfl⟩ (H.sel' [0] rfl rfl)
    ·replace h := bif_f hb23 h
     refine c_skip ?_
     refine q_blk ?_
     refine q_then ?_
     refine c_seq ?_
     refine rg ?_
     refine st (v := .nilIface) (rv_assign rfl) ?_
     refine st (v := (B false)) (rv_assign rfl) ?_
     refine w_end ?_
     refine q_then ?_
     refine c_ret ?_
     replace H := H.nilRo Int 0
     obtain rfl := Option.some.inj h
     exact fin_ret (v := (.tuple #[(ifs2 0 (.iface 91 (.agg #[(I 0)])) (.iface 95 (.agg #[(I 0), (.slice none 0 0), (I 0)]))), (B false)])) (results_ok Try.results92 (res_tmp (v := (ifs2 0 (.iface 91 (.agg #[(I 0)])) (.iface 95 (.agg #[(I 0), (.slice none 0 0), (I 0)])))) rfl (res_tmp (v := (B false)) rfl res_nil)) rfl) ⟨none, 0, rfl, rfl⟩ (H.sel' [0] rfl rfl)

theorem c_impl_changesOf {log_0 : List (Int × (Int × (List Int) × Int))} {alog_0 : Option Addr} {clog_0 : Nat} {r : (List (If2 Int ((Int × (List Int) × Int)))) × Bool} (h : M.impl_changesOf log_0 = some r) :
    Cal2 Try.prog 62 [(Sl alog_0 log_0 clog_0)] [Ch.ro 0 (Sl alog_0 log_0 clog_0) log_0] (fun n0 v L => ∃ (az1 : Option Addr), ∃ (cz2 : Nat), v = (.tuple #[(Sl az1 r.1 cz2), (B r.2)]) ∧ L = [Ch.own n0 0 (Sl az1 r.1 cz2) r.1]) := by
 refine cal2 (n := 35) Try.func62 rfl rfl rfl rfl ?_
 intro S0 σ0 n0 hn0 H
 unfold M.impl_changesOf at h
 refine c_seq ?_
 refine rg ?_
 refine st (v := (.slice none 0 0)) (rv_assign rfl) ?_
 refine st (v := (B false)) (rv_assign rfl) ?_
 refine w_end ?_
 refine q_then ?_
 refine c_seq ?_
 refine c_seq ?_
 refine rg ?_
 refine st (v := (Sl alog_0 log_0 clog_0)) (rv_move rfl) ?_
 refine st (v := (I (log_0.length : Int))) (rv_len Try.underlying35 rfl) ?_
 refine st (v := (B (decide (32 < (log_0.length : Int))))) (rv_gtr (a := (log_0.length : Int)) (b := 32) rfl rfl) ?_
 refine w_end ?_
 refine q_then ?_
 refine cd_cond (decide (32 < (log_0.length : Int))) rfl (fun hb1 => ?_) (fun hb1 => ?_)
 ·replace h := bif_t hb1 h
  refine c_seq ?_
  refine rg ?_
  refine st (v := (.slice none 0 0)) (rv_assign rfl) ?_
  refine st (v := (B false)) (rv_assign rfl) ?_
  refine w_end ?_
  refine q_then ?_
  refine c_ret ?_
  refine q_then_r ?_
  replace H := H.nilOwn (If2 Int ((Int × (List Int) × Int))) n0 0
  obtain rfl := Option.some.inj h
  exact fin_ret (v := (.tuple #[(.slice none 0 0), (B false)])) (results_ok Try.results62 (res_tmp (v := (.slice none 0 0)) rfl (res_tmp (v := (B false)) rfl res_nil)) rfl) ⟨none, 0, rfl, rfl⟩ (H.sel' [0] rfl rfl)
 ·replace h := bif_f hb1 h
  refine c_skip ?_
  refine q_then ?_
  refine c_seq ?_
  refine rg ?_
  refine st (v := (Sl alog_0 log_0 clog_0)) (rv_move rfl) ?_
  refine st (v := (I (log_0.length : Int))) (rv_len Try.underlying35 rfl) ?_
  obtain ⟨xs2, hx3, h'⟩ := bind_some h
  clear h
  have h := h'; clear h'
  refine st_ex (ex_make (el := n0) (z0 := ((If2.mk 0 0 (0, [], 0)) : If2 Int ((Int × (List Int) × Int)))) (zs := [(ifs2 0 (.iface 91 (.agg #[(I 0)])) (.iface 95 (.agg #[(I 0), (.slice none 0 0), (I 0)])))]) H hn0 Try.underlying79 ti83 rfl rfl (⟨[(I 0)], [(I 0), (.slice none 0 0), (I 0)], rfl, ⟨[(I 0)], [(.slice none 0 0), (I 0)], rfl, rfl, ⟨[(.slice none 0 0)], [(I 0)], rfl, ⟨_, rfl, RS.nil⟩, rfl⟩⟩, rfl⟩) (by decide) hx3 rfl rfl) wn ?_
  rintro _ σ7 ⟨b4, c5, rfl, ht6, H, -⟩
  replace ht6 := ht6.trans (gmake_len hx3).symm
  refine st (v := (Sl (some ⟨b4, 0, none⟩) xs2 c5)) (rv_assign rfl) ?_
  refine w_end ?_
  refine q_then ?_
  refine c_seq ?_
  refine c_seq ?_
  refine rg ?_
  refine st (v := (Sl alog_0 log_0 clog_0)) (rv_move rfl) ?_
  refine st (v := (I (log_0.length : Int))) (rv_len Try.underlying35 rfl) ?_
  refine st (v := (I 0)) (rv_move rfl) ?_
  refine w_end ?_
  refine q_then ?_
  obtain ⟨o8, hj, h'⟩ := bind_some h
  clear h
  refine c_cut (fun e a w => (∃ t, o8 = (.inl t) ∧ e = .normal ∧ ∃ (ρ : Nat → Value) (σ : St), a = fr 35 (updL ρ [(4, (Sl (some ⟨b4, 0, none⟩) t c5))]) ∧ w = σ.w ∧ Hp S0 σ0 σ [Ch.own n0 0 (Sl (some ⟨b4, 0, none⟩) t c5) t] ∧ c5 = t.length ∧ t.length = xs2.length) ∨ (∃ t, o8 = (.inr t) ∧ e = .ret ∧ ∃ (ρ : Nat → Value) (σ : St) (aj1 : Option Addr) (cj2 : Nat), a = fr 35 (updL ρ [(2, (Sl aj1 t.1 cj2)), (3, (B t.2))]) ∧ w = σ.w ∧ Hp S0 σ0 σ [Ch.own n0 n0 (Sl aj1 t.1 cj2) t.1])) ?_ ?_
  ·clear h'
   rename _ = some o8 => h
   refine c_blk ?_
   replace H := H.ownLow 0 n0 0 rfl (Nat.le_refl _) (Nat.zero_le _)
   refine wp_loopM _ h (fun s9 a w => ∃ (ρ : Nat → Value) (σ : St), a = fr 35 (updL ρ [(4, (Sl (some ⟨b4, 0, none⟩) s9.1 c5)), (15, (Sl alog_0 log_0 clog_0)), (16, (I (log_0.length : Int))), (17, (I s9.2))]) ∧ w = σ.w ∧ Hp S0 σ0 σ [Ch.own n0 0 (Sl (some ⟨b4, 0, none⟩) s9.1 c5) s9.1, Ch.ro 0 (Sl alog_0 log_0 clog_0) log_0] ∧ c5 = s9.1.length ∧ s9.1.length = xs2.length) ⟨_, σ7, fr_join ⟨rfl, rfl, rfl, rfl, trivial⟩, rfl, H.sel' [0, 1] rfl rfl, ht6, rfl⟩ ?_
   clear h H
   rintro s9 a w o ⟨ρ, σ10, rfl, rfl, H, ht11, hn12⟩ h hres
   refine c_seq ?_
   refine rg ?_
   refine st (v := (B (decide (s9.2 < (log_0.length : Int))))) (rv_lss (a := s9.2) (b := (log_0.length : Int)) rfl rfl) ?_
   refine w_end ?_
   refine q_then ?_
   refine c_seq ?_
   refine cd_cond (decide (s9.2 < (log_0.length : Int))) rfl (fun hb13 => ?_) (fun hb13 => ?_)
   ·replace h := bif_t hb13 h
    refine c_skip ?_
    refine q_then ?_
    refine c_seq ?_
    refine c_blk ?_
    refine c_seq ?_
    refine rg ?_
    refine st (v := (I s9.2)) (rv_move rfl) ?_
    obtain ⟨x14, hx15, h'⟩ := bind_some h
    clear h
    have h := h'; clear h'
    obtain ⟨b17, o18, hi16, -⟩ := (H.ro 1 rfl).ix hx15
    refine st (v := (pt b17 o18)) (rv_ix Try.underlying35 ti42 rfl rfl hi16) ?_
    obtain ⟨_, ⟨_, _, rfl, rfl, ⟨_, _, rfl, rfl, ⟨_, _, rfl, ⟨_, rfl, hR23⟩, rfl⟩⟩⟩, hl19, hc20⟩ := ((H.ro 1 rfl).at hx15 hi16).cells
    obtain ⟨a21, c22, rfl⟩ := hR23.isSl
    replace H := H.add (d := Ch.ro 0 (Sl a21 x14.2.2.1 c22) x14.2.2.1) hR23 (fun _ h => h)
    clear hR23
    refine st (v := (.agg #[(I x14.1), (I x14.2.1), (Sl a21 x14.2.2.1 c22), (I x14.2.2.2)])) (rv_load Try.underlying42 rfl ti42 rfl hl19 hc20) ?_
    refine st_ex (ex_alloc (cs := [(I 0), (I 0), (.slice none 0 0), (I 0)]) H hn0 ti42 rfl) wn ?_
    rintro _ σ25 ⟨b24, rfl, H, -⟩
    refine st (v := (I s9.2)) (rv_assign rfl) ?_
    refine st_exS (ex_store_box (k := 0) (cs := [(I 0), (I 0), (.slice none 0 0), (I 0)]) (vs := [(I x14.1), (I x14.2.1), (Sl a21 x14.2.2.1 c22), (I x14.2.2.2)]) (cs' := [(I x14.1), (I x14.2.1), (Sl a21 x14.2.2.1 c22), (I x14.2.2.2)]) H (i := 0) rfl ti42 rfl rfl rfl rfl rfl (Nat.le_of_ble_eq_true rfl) (by simp [plain]) rfl) wn ?_
    rintro σ26 ⟨H, -⟩
    refine w_end ?_
    refine q_then ?_
    refine c_seq ?_
    refine rg ?_
    have hc27 := H.cells 0 rfl
    refine st (v := (.agg #[(I x14.1), (I x14.2.1), (Sl a21 x14.2.2.1 c22), (I x14.2.2.2)])) (rv_load (cs := [(I x14.1), (I x14.2.1), (Sl a21 x14.2.2.1 c22), (I x14.2.2.2)]) Try.underlying42 rfl ti42 rfl rfl hc27) ?_
    obtain ⟨r28, hx29, h'⟩ := bind_some h
    clear h
    have h := h'; clear h'
    have hc30 := c_impl_changeOf (ae_0_1_1 := a21) (ce_0_1_1 := c22) hx29
    refine st_call (cx_call hc30 (ent_f hc30.fn rfl) hn0 (show Hp S0 σ0 _ ([Ch.ro 0 (Sl a21 x14.2.2.1 c22) x14.2.2.1] ++ [Ch.bx n0 b24 0 [(I x14.1), (I x14.2.1), (Sl a21 x14.2.2.1 c22), (I x14.2.2.2)] [] [], Ch.ro 0 (Sl a21 x14.2.2.1 c22) x14.2.2.1, Ch.own n0 0 (Sl (some ⟨b4, 0, none⟩) s9.1 c5) s9.1, Ch.ro 0 (Sl alog_0 log_0 clog_0) log_0]) from (H.sel' [1, 0, 1, 2, 3] rfl rfl))) wn ?_
    rintro _ σ33 ⟨_, ⟨a31, c32, rfl, rfl⟩, H, -⟩
    replace H : Hp S0 σ0 σ33 [Ch.ro 0 (Sl a31 r28.1.2.2.2.1 c32) r28.1.2.2.2.1, Ch.bx n0 b24 0 [(I x14.1), (I x14.2.1), (Sl a21 x14.2.2.1 c22), (I x14.2.2.2)] [] [], Ch.ro 0 (Sl a21 x14.2.2.1 c22) x14.2.2.1, Ch.own n0 0 (Sl (some ⟨b4, 0, none⟩) s9.1 c5) s9.1, Ch.ro 0 (Sl alog_0 log_0 clog_0) log_0] := H
    refine st (v := (.tuple #[(ifs2 r28.1.1 (.iface 91 (.agg #[(I r28.1.2.1)])) (.iface 95 (.agg #[(I r28.1.2.2.1), (Sl a31 r28.1.2.2.2.1 c32), (I r28.1.2.2.2.2)]))), (B r28.2)])) (rv_move rfl) ?_
    refine st (v := (ifs2 r28.1.1 (.iface 91 (.agg #[(I r28.1.2.1)])) (.iface 95 (.agg #[(I r28.1.2.2.1), (Sl a31 r28.1.2.2.2.1 c32), (I r28.1.2.2.2.2)])))) (rv_extract rfl rfl) ?_
    refine st (v := (B r28.2)) (rv_extract rfl rfl) ?_
    refine st (v := (ifs2 r28.1.1 (.iface 91 (.agg #[(I r28.1.2.1)])) (.iface 95 (.agg #[(I r28.1.2.2.1), (Sl a31 r28.1.2.2.2.1 c32), (I r28.1.2.2.2.2)])))) (rv_assign rfl) ?_
    refine st (v := (B r28.2)) (rv_assign rfl) ?_
    refine w_end ?_
    refine q_then ?_
    refine c_seq ?_
    refine c_seq ?_
    refine rg ?_
    refine st (v := (B r28.2)) (rv_move rfl) ?_
    refine st (v := (B (!r28.2))) (rv_not rfl) ?_
    refine w_end ?_
    refine q_then ?_
    refine cd_cond (!r28.2) rfl (fun hb34 => ?_) (fun hb34 => ?_)
    ·replace h := bif_t hb34 h
     refine c_seq ?_
     refine rg ?_
     refine st (v := (.slice none 0 0)) (rv_assign rfl) ?_
     refine st (v := (B false)) (rv_assign rfl) ?_
     refine w_end ?_
     refine q_then ?_
     refine c_ret ?_
     refine q_then_r ?_
     refine q_blk_r ?_
     refine q_then_r ?_
     refine q_then_r ?_
     refine q_blk_r ?_
     obtain rfl := Option.some.inj h
     obtain rfl := hres _ rfl
     replace H := H.nilOwn (If2 Int ((Int × (List Int) × Int))) n0 n0
     exact .inr (⟨_, rfl, rfl, _, σ33, none, 0, fr_join ⟨rfl, rfl, trivial⟩, rfl, H.sel' [0] rfl rfl⟩)
    ·replace h := bif_f hb34 h
     refine c_skip ?_
     refine q_then ?_
     refine rg ?_
     refine st (v := (Sl (some ⟨b4, 0, none⟩) s9.1 c5)) (rv_move rfl) ?_
     refine st (v := (I s9.2)) (rv_move rfl) ?_
     refine st (v := (ifs2 r28.1.1 (.iface 91 (.agg #[(I r28.1.2.1)])) (.iface 95 (.agg #[(I r28.1.2.2.1), (Sl a31 r28.1.2.2.2.1 c32), (I r28.1.2.2.2.2)])))) (rv_move rfl) ?_
     obtain ⟨x35, hx36, h'⟩ := bind_some h
     clear h
     have h := h'; clear h'
     obtain ⟨b38, o39, hi37, -⟩ := (H.own 3 rfl).ix hx36
     refine st (v := (pt b38 o39)) (rv_ix Try.underlying79 ti83 rfl rfl hi37) ?_
     refine st_exS (ex_store_own (e' := (If2.mk r28.1.1 r28.1.2.1 (r28.1.2.2.1, r28.1.2.2.2.1, r28.1.2.2.2.2))) (vs := [(ifs2 r28.1.1 (.iface 91 (.agg #[(I r28.1.2.1)])) (.iface 95 (.agg #[(I r28.1.2.2.1), (Sl a31 r28.1.2.2.2.1 c32), (I r28.1.2.2.2.2)])))]) (k := 0) H (i := 3) rfl ti83 hx36 hi37 rfl rfl rfl ifs2_cells rfl (Nat.le_of_ble_eq_true rfl) plain2 (by rintro _ ⟨_, _, rfl, ⟨_, _, rfl, rfl, ⟨_, _, rfl, ⟨_, rfl, hR42⟩, rfl⟩⟩, rfl⟩; exact ⟨[(I r28.1.2.1)], [(I r28.1.2.2.1), (Sl a31 r28.1.2.2.2.1 c32), (I r28.1.2.2.2.2)], rfl, ⟨[(I r28.1.2.2.1)], [(Sl a31 r28.1.2.2.2.1 c32), (I r28.1.2.2.2.2)], rfl, rfl, ⟨[(Sl a31 r28.1.2.2.2.1 c32)], [(I r28.1.2.2.2.2)], rfl, ⟨_, rfl, (H.ro 0 rfl)⟩, rfl⟩⟩, rfl⟩)) wn ?_
     rintro σ43 ⟨H, -⟩
     have hsl : (Sl (some ⟨b4, 0, none⟩) s9.1 c5) = (Sl (some ⟨b4, 0, none⟩) (s9.1.set s9.2.toNat (If2.mk r28.1.1 r28.1.2.1 (r28.1.2.2.1, r28.1.2.2.2.1, r28.1.2.2.2.2))) c5) := sl_len List.length_set.symm
     rw [hsl]; rw [hsl] at H; clear hsl
     refine w_end ?_
     refine q_blk ?_
     refine q_then ?_
     refine rg ?_
     refine st (v := (I (w64 (s9.2 + 1)))) (rv_add (a := s9.2) (b := 1) rfl rfl) ?_
     refine st (v := (I (w64 (s9.2 + 1)))) (rv_move rfl) ?_
     refine w_end ?_
     refine q_then ?_
     obtain rfl := Option.some.inj h
     exact ⟨_, rfl, _, σ43, fr_join ⟨rfl, rfl, rfl, rfl, trivial⟩, rfl, H.sel' [0, 4] rfl rfl, (ht11.trans List.length_set.symm), (List.length_set.trans hn12)⟩
   ·replace h := bif_f hb13 h
    refine c_exit ?_
    refine q_then_x ?_
    refine q_then_x ?_
    refine q_blk_hit ?_
    obtain rfl := Option.some.inj h
    obtain rfl := hres _ rfl
    exact .inl ⟨_, rfl, rfl, _, σ10, fr_join ⟨rfl, trivial⟩, rfl, H.sel' [0] rfl rfl, ht11, hn12⟩
  ·clear hj
   have h := h'
   clear h' H
   rintro e a w (⟨t44, rfl, rfl, ρ, σ45, rfl, rfl, H, ht46, hn47⟩ | ⟨t48, rfl, rfl, ρ, σ49, a50, c51, rfl, rfl, H⟩)
   ·replace h := selim_l h
    refine q_then ?_
    refine c_seq ?_
    refine rg ?_
    refine st (v := (Sl (some ⟨b4, 0, none⟩) t44 c5)) (rv_move rfl) ?_
    refine st (v := (Sl (some ⟨b4, 0, none⟩) t44 c5)) (rv_assign rfl) ?_
    refine st (v := (B true)) (rv_assign rfl) ?_
    refine w_end ?_
    refine q_then ?_
    refine c_ret ?_
    obtain rfl := Option.some.inj h
    exact fin_ret (v := (.tuple #[(Sl (some ⟨b4, 0, none⟩) t44 c5), (B true)])) (results_ok Try.results62 (res_tmp (v := (Sl (some ⟨b4, 0, none⟩) t44 c5)) rfl (res_tmp (v := (B true)) rfl res_nil)) rfl) ⟨(some ⟨b4, 0, none⟩), c5, rfl, rfl⟩ (H.sel' [0] rfl rfl)
   ·replace h := selim_r h
    refine q_then_r ?_
    replace H := H.ownLow 0 n0 0 rfl (Nat.le_refl _) (Nat.zero_le _)
    obtain rfl := Option.some.inj h
    exact fin_ret (v := (.tuple #[(Sl a50 t48.1 c51), (B t48.2)])) (results_ok Try.results62 (res_tmp (v := (Sl a50 t48.1 c51)) rfl (res_tmp (v := (B t48.2)) rfl res_nil)) rfl) ⟨a50, c51, rfl, rfl⟩ (H.sel' [0] rfl rfl)

theorem c_impl_dropChange_key {c_0 : Int}  {r : Int} (h : M.impl_dropChange_key c_0 = some r) :
    Cal2 Try.prog 143 [(.agg #[(I c_0)])] [] (fun n0 v L => v = (I r) ∧ L = []) := by
 refine cal2 (n := 5) Try.func143 rfl rfl rfl rfl ?_
 intro S0 σ0 n0 hn0 H
 unfold M.impl_dropChange_key at h
 refine c_seq ?_
 refine rg ?_
 refine st_ex (ex_box (cs := [(I c_0)]) H hn0 rfl rfl) wn ?_
 rintro _ σ2 ⟨b1, rfl, H, -⟩
 refine st (v := (I 0)) (rv_assign rfl) ?_
 refine w_end ?_
 refine q_then ?_
 refine c_seq ?_
 refine rg ?_
 refine st (v := (pt b1 0)) (rv_fieldAddr (off := 0) (ft := 3) Try.underlying91 rfl ti3 rfl rfl) ?_
 have hc3 := H.cell (u := (I c_0)) (o' := 0) 0 0 rfl rfl rfl
 refine st (v := (I c_0)) (rv_load1 Try.underlying3 rfl rfl hc3) ?_
 refine st (v := (I c_0)) (rv_assign rfl) ?_
 refine w_end ?_
 refine q_then ?_
 refine c_ret ?_
 obtain rfl := Option.some.inj h
 exact fin_ret (v := (I c_0)) (results_ok Try.results143 (res_tmp (v := (I c_0)) rfl res_nil) rfl) ⟨rfl, rfl⟩ (H.sel' [] rfl rfl)

theorem c_impl_putChange_key {c_0 : (Int × (List Int) × Int)} {ac_0_0_1 : Option Addr} {cc_0_0_1 : Nat} {r : Int} (h : M.impl_putChange_key c_0 = some r) :
    Cal2 Try.prog 147 [(.agg #[(I c_0.1), (Sl ac_0_0_1 c_0.2.1 cc_0_0_1), (I c_0.2.2)])] [Ch.ro 0 (Sl ac_0_0_1 c_0.2.1 cc_0_0_1) c_0.2.1] (fun n0 v L => v = (I r) ∧ L = []) := by
 refine cal2 (n := 6) Try.func147 rfl rfl rfl rfl ?_
 intro S0 σ0 n0 hn0 H
 unfold M.impl_putChange_key at h
 refine c_seq ?_
 refine rg ?_
 refine st_ex (ex_box (cs := [(I c_0.1), (Sl ac_0_0_1 c_0.2.1 cc_0_0_1), (I c_0.2.2)]) H hn0 rfl rfl) wn ?_
 rintro _ σ2 ⟨b1, rfl, H, -⟩
 refine st (v := (I 0)) (rv_assign rfl) ?_
 refine w_end ?_
 refine q_then ?_
 refine c_seq ?_
 refine rg ?_
 refine st (v := (pt b1 0)) (rv_fieldAddr (off := 0) (ft := 32) Try.underlying95 rfl ti32 rfl rfl) ?_
 refine st (v := (pt b1 0)) (rv_fieldAddr (off := 0) (ft := 3) Try.underlying32 rfl ti3 rfl rfl) ?_
 have hc3 := H.cell (u := (I c_0.1)) (o' := 0) 0 0 rfl rfl rfl
 refine st (v := (I c_0.1)) (rv_load1 Try.underlying3 rfl rfl hc3) ?_
 refine st (v := (I c_0.1)) (rv_assign rfl) ?_
 refine w_end ?_
 refine q_then ?_
 refine c_ret ?_
 obtain rfl := Option.some.inj h
 exact fin_ret (v := (I c_0.1)) (results_ok Try.results147 (res_tmp (v := (I c_0.1)) rfl res_nil) rfl) ⟨rfl, rfl⟩ (H.sel' [] rfl rfl)

theorem c_impl_changeKey_1__p3 {c_0 : If2 Int ((Int × (List Int) × Int))} {p_1 : Int} {ac_0_i1_0_1 : Option Addr} {cc_0_i1_0_1 : Nat} {lop_1 bp_1 op_1 : Nat} {prep_1 sufp_1 : List Value} {r : Bool} (h : M.impl_changeKey_1__p3 c_0 p_1 = some r) :
    Cal2 Try.prog 111 [(ifs2 c_0.1 (.iface 91 (.agg #[(I c_0.2.1)])) (.iface 95 (.agg #[(I c_0.2.2.1), (Sl ac_0_i1_0_1 c_0.2.2.2.1 cc_0_i1_0_1), (I c_0.2.2.2.2)]))), (pt bp_1 op_1)] [Ch.ro 0 (Sl ac_0_i1_0_1 c_0.2.2.2.1 cc_0_i1_0_1) c_0.2.2.2.1, Ch.bx lop_1 bp_1 op_1 [(I p_1)] prep_1 sufp_1] (fun n0 v L => v = (B r) ∧ L = [Ch.bx lop_1 bp_1 op_1 [(I p_1)] prep_1 sufp_1]) := by
 refine cal2 (n := 8) Try.func111 rfl rfl rfl rfl ?_
 intro S0 σ0 n0 hn0 H
 unfold M.impl_changeKey_1__p3 at h
 refine c_seq ?_
 refine rg ?_
 refine st (v := (B false)) (rv_assign rfl) ?_
 refine w_end ?_
 refine q_then ?_
 refine c_seq ?_
 rcases Bool.eq_false_or_eq_true (c_0.1 == 1) with hb1 | hb1
 ·replace h := bif_t hb1 h
  have hv3 : (ifs2 c_0.1 (.iface 91 (.agg #[(I c_0.2.1)])) (.iface 95 (.agg #[(I c_0.2.2.1), (Sl ac_0_i1_0_1 c_0.2.2.2.1 cc_0_i1_0_1), (I c_0.2.2.2.2)]))) = (.iface 91 (.agg #[(I c_0.2.1)]) : Value) := ct hb1
  obtain ⟨r4, hx5, h'⟩ := bind_some h
  clear h
  have h := h'; clear h'
  have hc6 := c_impl_dropChange_key hx5
  have hc7 := H.cell (u := (I p_1)) (o' := op_1) 1 0 rfl rfl rfl
  have Hs := H
  refine rg2 (σ := σ0) (Nm := Unit) 3 [1] [[false], [true]] [[(0, 0)], [(0, 1)], [(0, 0), (1, 1)]] 1 [fun _ => fun σm => Hp S0 σ0 σm [Ch.ro 0 (Sl ac_0_i1_0_1 c_0.2.2.2.1 cc_0_i1_0_1) c_0.2.2.2.1, Ch.bx lop_1 bp_1 op_1 [(I p_1)] prep_1 sufp_1] ∧ Md (cov []) σ0 σm, fun _ => fun σm => Hp S0 σ0 σm [Ch.ro 0 (Sl ac_0_i1_0_1 c_0.2.2.2.1 cc_0_i1_0_1) c_0.2.2.2.1, Ch.bx lop_1 bp_1 op_1 [(I p_1)] prep_1 sufp_1] ∧ Md (cov []) σ0 σm] [fun _ => (ifs2 c_0.1 (.iface 91 (.agg #[(I c_0.2.1)])) (.iface 95 (.agg #[(I c_0.2.2.1), (Sl ac_0_i1_0_1 c_0.2.2.2.1 cc_0_i1_0_1), (I c_0.2.2.2.2)]))), fun _ => (I r4), fun _ => (I p_1)] () (by kernel_rfl) (by kernel_rfl) ?_ ?_ ?_
  ·intro σm m0
   exact ⟨H.grow (m0.mono fun _ h => h.elim), m0⟩
  ·refine ac rfl (by
     intro k _nm ρ σm hJ hoff hdep
     have e0 := look_off (N := 8) (hoff 0 rfl) rfl
     exact dp_v (v := (ifs2 c_0.1 (.iface 91 (.agg #[(I c_0.2.1)])) (.iface 95 (.agg #[(I c_0.2.2.1), (Sl ac_0_i1_0_1 c_0.2.2.2.1 cc_0_i1_0_1), (I c_0.2.2.2.2)])))) wn (rv_move e0) rfl hJ) ?_
   refine all_cons (by
     refine ⟨?_, ?_⟩
     ·intro _nm ρ σm hJ hoff hdep
      have e4 := hdep 0 rfl rfl 4 rfl
      obtain ⟨H, m⟩ := id hJ
      refine dp_cx wn (cx_call hc6 ((by exact ent_ix hc6.fn (by kernel_rfl) Try.underlying91 rfl (e4.trans hv3) rfl)) hn0 (show Hp S0 σ0 _ ([] ++ [Ch.ro 0 (Sl ac_0_i1_0_1 c_0.2.2.2.1 cc_0_i1_0_1) c_0.2.2.2.1, Ch.bx lop_1 bp_1 op_1 [(I p_1)] prep_1 sufp_1]) from (H.sel' [0, 1] rfl rfl))) ?_
      rintro _ σq ⟨_, ⟨rfl, rfl⟩, H2, m2⟩
      exact ⟨_, (), rfl, rfl, ⟨H2.sel' [0, 1] rfl rfl, m.comp0 m2⟩, stab [0, 2] (by kernel_rfl) ⟨rfl, rfl, trivial⟩⟩
     trivial) ?_
   refine all_cons (by
     refine ⟨?_, ?_⟩
     ·intro _nm ρ σm hJ hoff hdep
      have e1 := look_off (N := 8) (hoff 1 rfl) rfl
      obtain ⟨H, m⟩ := id hJ
      have hc7 := H.cell (u := (I p_1)) (o' := op_1) 1 0 rfl rfl rfl
      exact dp_v (v := (I p_1)) wn (rv_load1 Try.underlying3 rfl e1 hc7) rfl hJ
     refine ⟨?_, ?_⟩
     ·intro _nm ρ σm hJ hoff hdep
      have e1 := look_off (N := 8) (hoff 1 rfl) rfl
      obtain ⟨H, m⟩ := id hJ
      have hc7 := H.cell (u := (I p_1)) (o' := op_1) 1 0 rfl rfl rfl
      exact dp_v (v := (I p_1)) wn (rv_load1 Try.underlying3 rfl e1 hc7) rfl hJ
     trivial) ?_
   exact all_nil
  ·intro _nm ρ σ8 hJ hoff hrel
   have e1 := look_off (N := 8) (hoff 1 rfl) rfl
   have e5 := hrel 1 rfl 5 rfl
   have e6 := hrel 2 rfl 6 rfl
   obtain ⟨H, -⟩ := (show Hp S0 σ0 σ8 [Ch.ro 0 (Sl ac_0_i1_0_1 c_0.2.2.2.1 cc_0_i1_0_1) c_0.2.2.2.1, Ch.bx lop_1 bp_1 op_1 [(I p_1)] prep_1 sufp_1] ∧ Md (cov []) σ0 σ8 from hJ)
   clear hJ Hs
   rw [fr_lookL (L := [(1, (pt bp_1 op_1)), (5, (I r4)), (6, (I p_1))]) ⟨e1, e5, e6, trivial⟩]
   clear hoff hrel e1 e5 e6
   refine st (v := (B (r4 == p_1))) (rv_eql (a := r4) (b := p_1) rfl rfl) ?_
   refine st (v := (B (r4 == p_1))) (rv_assign rfl) ?_
   refine w_end ?_
   refine q_then ?_
   refine c_ret ?_
   obtain rfl := Option.some.inj h
   exact fin_ret (v := (B (r4 == p_1))) (results_ok Try.results111 (res_tmp (v := (B (r4 == p_1))) rfl res_nil) rfl) ⟨rfl, rfl⟩ (H.sel' [1] rfl rfl)
 ·replace h := bif_f hb1 h
  rcases Bool.eq_false_or_eq_true (c_0.1 == 2) with hb2 | hb2
  ·replace h := bif_t hb2 h
   have hv9 : (ifs2 c_0.1 (.iface 91 (.agg #[(I c_0.2.1)])) (.iface 95 (.agg #[(I c_0.2.2.1), (Sl ac_0_i1_0_1 c_0.2.2.2.1 cc_0_i1_0_1), (I c_0.2.2.2.2)]))) = (.iface 95 (.agg #[(I c_0.2.2.1), (Sl ac_0_i1_0_1 c_0.2.2.2.1 cc_0_i1_0_1), (I c_0.2.2.2.2)]) : Value) := (cf hb1).trans (ct hb2)
   obtain ⟨r10, hx11, h'⟩ := bind_some h
   clear h
   have h := h'; clear h'
   have hc12 := c_impl_putChange_key (ac_0_0_1 := ac_0_i1_0_1) (cc_0_0_1 := cc_0_i1_0_1) hx11
   have hc13 := H.cell (u := (I p_1)) (o' := op_1) 1 0 rfl rfl rfl
   have Hs := H
   refine rg2 (σ := σ0) (Nm := Unit) 3 [1] [[false], [true]] [[(0, 0)], [(0, 1)], [(0, 0), (1, 1)]] 1 [fun _ => fun σm => Hp S0 σ0 σm [Ch.ro 0 (Sl ac_0_i1_0_1 c_0.2.2.2.1 cc_0_i1_0_1) c_0.2.2.2.1, Ch.bx lop_1 bp_1 op_1 [(I p_1)] prep_1 sufp_1] ∧ Md (cov []) σ0 σm, fun _ => fun σm => Hp S0 σ0 σm [Ch.ro 0 (Sl ac_0_i1_0_1 c_0.2.2.2.1 cc_0_i1_0_1) c_0.2.2.2.1, Ch.bx lop_1 bp_1 op_1 [(I p_1)] prep_1 sufp_1] ∧ Md (cov []) σ0 σm] [fun _ => (ifs2 c_0.1 (.iface 91 (.agg #[(I c_0.2.1)])) (.iface 95 (.agg #[(I c_0.2.2.1), (Sl ac_0_i1_0_1 c_0.2.2.2.1 cc_0_i1_0_1), (I c_0.2.2.2.2)]))), fun _ => (I r10), fun _ => (I p_1)] () (by kernel_rfl) (by kernel_rfl) ?_ ?_ ?_
   ·intro σm m0
    exact ⟨H.grow (m0.mono fun _ h => h.elim), m0⟩
   ·refine ac rfl (by
      intro k _nm ρ σm hJ hoff hdep
      have e0 := look_off (N := 8) (hoff 0 rfl) rfl
      exact dp_v (v := (ifs2 c_0.1 (.iface 91 (.agg #[(I c_0.2.1)])) (.iface 95 (.agg #[(I c_0.2.2.1), (Sl ac_0_i1_0_1 c_0.2.2.2.1 cc_0_i1_0_1), (I c_0.2.2.2.2)])))) wn (rv_move e0) rfl hJ) ?_
    refine all_cons (by
      refine ⟨?_, ?_⟩
      ·intro _nm ρ σm hJ hoff hdep
       have e4 := hdep 0 rfl rfl 4 rfl
       obtain ⟨H, m⟩ := id hJ
       refine dp_cx wn (cx_call hc12 ((by exact ent_ix hc12.fn (by kernel_rfl) Try.underlying95 rfl (e4.trans hv9) rfl)) hn0 (show Hp S0 σ0 _ ([Ch.ro 0 (Sl ac_0_i1_0_1 c_0.2.2.2.1 cc_0_i1_0_1) c_0.2.2.2.1] ++ [Ch.ro 0 (Sl ac_0_i1_0_1 c_0.2.2.2.1 cc_0_i1_0_1) c_0.2.2.2.1, Ch.bx lop_1 bp_1 op_1 [(I p_1)] prep_1 sufp_1]) from (H.sel' [0, 0, 1] rfl rfl))) ?_
       rintro _ σq ⟨_, ⟨rfl, rfl⟩, H2, m2⟩
       exact ⟨_, (), rfl, rfl, ⟨H2.sel' [0, 1] rfl rfl, m.comp0 (m2.mono (fun i h => by simp [cov, Ch.ro] at h))⟩, stab [0, 2] (by kernel_rfl) ⟨rfl, rfl, trivial⟩⟩
      trivial) ?_
    refine all_cons (by
      refine ⟨?_, ?_⟩
      ·intro _nm ρ σm hJ hoff hdep
       have e1 := look_off (N := 8) (hoff 1 rfl) rfl
       obtain ⟨H, m⟩ := id hJ
       have hc13 := H.cell (u := (I p_1)) (o' := op_1) 1 0 rfl rfl rfl
       exact dp_v (v := (I p_1)) wn (rv_load1 Try.underlying3 rfl e1 hc13) rfl hJ
      refine ⟨?_, ?_⟩
      ·intro _nm ρ σm hJ hoff hdep
       have e1 := look_off (N := 8) (hoff 1 rfl) rfl
       obtain ⟨H, m⟩ := id hJ
       have hc13 := H.cell (u := (I p_1)) (o' := op_1) 1 0 rfl rfl rfl
       exact dp_v (v := (I p_1)) wn (rv_load1 Try.underlying3 rfl e1 hc13) rfl hJ
      trivial) ?_
    exact all_nil
   ·intro _nm ρ σ14 hJ hoff hrel
    have e1 := look_off (N := 8) (hoff 1 rfl) rfl
    have e5 := hrel 1 rfl 5 rfl
    have e6 := hrel 2 rfl 6 rfl
    obtain ⟨H, -⟩ := (show Hp S0 σ0 σ14 [Ch.ro 0 (Sl ac_0_i1_0_1 c_0.2.2.2.1 cc_0_i1_0_1) c_0.2.2.2.1, Ch.bx lop_1 bp_1 op_1 [(I p_1)] prep_1 sufp_1] ∧ Md (cov []) σ0 σ14 from hJ)
    clear hJ Hs
    rw [fr_lookL (L := [(1, (pt bp_1 op_1)), (5, (I r10)), (6, (I p_1))]) ⟨e1, e5, e6, trivial⟩]
    clear hoff hrel e1 e5 e6
    refine st (v := (B (r10 == p_1))) (rv_eql (a := r10) (b := p_1) rfl rfl) ?_
    refine st (v := (B (r10 == p_1))) (rv_assign rfl) ?_
    refine w_end ?_
    refine q_then ?_
    refine c_ret ?_
    obtain rfl := Option.some.inj h
    exact fin_ret (v := (B (r10 == p_1))) (results_ok Try.results111 (res_tmp (v := (B (r10 == p_1))) rfl res_nil) rfl) ⟨rfl, rfl⟩ (H.sel' [1] rfl rfl)
  ·replace h := bif_f hb2 h
   cases h

theorem c_slices_IndexFunc_impl_change_impl_change__impl_changeKey_1 {s_0 : List (If2 Int ((Int × (List Int) × Int)))} {f_1_0 : Int} {as_0 : Option Addr} {cs_0 : Nat} {lof_1_0 bf_1_0 of_1_0 : Nat} {pref_1_0 suff_1_0 : List Value} {r : Int} (h : M.slices_IndexFunc_impl_change_impl_change__impl_changeKey_1 s_0 f_1_0 = some r) :
    Cal2 Try.prog 124 [(Sl as_0 s_0 cs_0), (.func (.func 111) #[] #[(pt bf_1_0 of_1_0)])] [Ch.ro 0 (Sl as_0 s_0 cs_0) s_0, Ch.bx lof_1_0 bf_1_0 of_1_0 [(I f_1_0)] pref_1_0 suff_1_0] (fun n0 v L => v = (I r) ∧ L = [Ch.bx lof_1_0 bf_1_0 of_1_0 [(I f_1_0)] pref_1_0 suff_1_0]) := by
 refine cal2 (n := 19) Try.func124 rfl rfl rfl rfl ?_
 intro S0 σ0 n0 hn0 H
 unfold M.slices_IndexFunc_impl_change_impl_change__impl_changeKey_1 at h
 refine c_seq ?_
 refine rg ?_
 refine st (v := (I 0)) (rv_assign rfl) ?_
 refine w_end ?_
 refine q_then ?_
 refine c_seq ?_
 refine c_seq ?_
 refine rg ?_
 refine st (v := (Sl as_0 s_0 cs_0)) (rv_move rfl) ?_
 refine st (v := (I (s_0.length : Int))) (rv_len Try.underlying79 rfl) ?_
 refine st (v := (I 0)) (rv_move rfl) ?_
 refine w_end ?_
 refine q_then ?_
 obtain ⟨o1, hj, h'⟩ := bind_some h
 clear h
 refine c_cut (fun e a w => (∃ t, o1 = (.inl t) ∧ e = .normal ∧ ∃ (ρ : Nat → Value) (σ : St), a = fr 19 (updL ρ [(1, (.func (.func 111) #[] #[(pt bf_1_0 of_1_0)]))]) ∧ w = σ.w ∧ Hp S0 σ0 σ [Ch.bx lof_1_0 bf_1_0 of_1_0 [(I f_1_0)] pref_1_0 suff_1_0]) ∨ (∃ t, o1 = (.inr t) ∧ e = .ret ∧ ∃ (ρ : Nat → Value) (σ : St), a = fr 19 (updL ρ [(1, (.func (.func 111) #[] #[(pt bf_1_0 of_1_0)])), (4, (I t))]) ∧ w = σ.w ∧ Hp S0 σ0 σ [Ch.bx lof_1_0 bf_1_0 of_1_0 [(I f_1_0)] pref_1_0 suff_1_0])) ?_ ?_
 ·clear h'
  rename _ = some o1 => h
  refine c_blk ?_
  refine wp_loopM _ h (fun s2 a w => ∃ (ρ : Nat → Value) (σ : St), a = fr 19 (updL ρ [(0, (Sl as_0 s_0 cs_0)), (1, (.func (.func 111) #[] #[(pt bf_1_0 of_1_0)])), (7, (I (s_0.length : Int))), (8, (I s2))]) ∧ w = σ.w ∧ Hp S0 σ0 σ [Ch.ro 0 (Sl as_0 s_0 cs_0) s_0, Ch.bx lof_1_0 bf_1_0 of_1_0 [(I f_1_0)] pref_1_0 suff_1_0]) ⟨_, σ0, fr_join ⟨rfl, rfl, rfl, rfl, trivial⟩, rfl, H.sel' [0, 1] rfl rfl⟩ ?_
  clear h H
  rintro s2 a w o ⟨ρ, σ3, rfl, rfl, H⟩ h hres
  refine c_seq ?_
  refine rg ?_
  refine st (v := (B (decide (s2 < (s_0.length : Int))))) (rv_lss (a := s2) (b := (s_0.length : Int)) rfl rfl) ?_
  refine w_end ?_
  refine q_then ?_
  refine c_seq ?_
  refine cd_cond (decide (s2 < (s_0.length : Int))) rfl (fun hb4 => ?_) (fun hb4 => ?_)
  ·replace h := bif_t hb4 h
   refine c_skip ?_
   refine q_then ?_
   refine c_seq ?_
   refine c_blk ?_
   refine c_seq ?_
   refine rg ?_
   refine st (v := (I s2)) (rv_move rfl) ?_
   refine st (v := (I s2)) (rv_assign rfl) ?_
   refine w_end ?_
   refine q_then ?_
   refine c_seq ?_
   refine rg ?_
   refine st (v := (.func (.func 111) #[] #[(pt bf_1_0 of_1_0)])) (rv_move rfl) ?_
   refine st (v := (Sl as_0 s_0 cs_0)) (rv_move rfl) ?_
   refine st (v := (I s2)) (rv_move rfl) ?_
   obtain ⟨x5, hx6, h'⟩ := bind_some h
   clear h
   have h := h'; clear h'
   obtain ⟨b8, o9, hi7, -⟩ := (H.ro 0 rfl).ix hx6
   refine st (v := (pt b8 o9)) (rv_ix Try.underlying79 ti83 rfl rfl hi7) ?_
   obtain ⟨_, ⟨_, _, rfl, ⟨_, _, rfl, rfl, ⟨_, _, rfl, ⟨_, rfl, hR15⟩, rfl⟩⟩, rfl⟩, hl10, hq11⟩ := ((H.ro 0 rfl).at hx6 hi7).cells
   obtain ⟨a13, c14, rfl⟩ := hR15.isSl
   have hc12 : HCell _ _ _ = some (ifs2 x5.1 (.iface 91 (.agg #[(I x5.2.1)])) (.iface 95 (.agg #[(I x5.2.2.1), (Sl a13 x5.2.2.2.1 c14), (I x5.2.2.2.2)]))) := hq11 0 Nat.zero_lt_one
   clear hq11
   replace H := H.add (d := Ch.ro 0 (Sl a13 x5.2.2.2.1 c14) x5.2.2.2.1) hR15 (fun _ h => h)
   clear hR15
   refine st (v := (ifs2 x5.1 (.iface 91 (.agg #[(I x5.2.1)])) (.iface 95 (.agg #[(I x5.2.2.1), (Sl a13 x5.2.2.2.1 c14), (I x5.2.2.2.2)])))) (rv_load1 Try.underlying83 rfl rfl hc12) ?_
   obtain ⟨r16, hx17, h'⟩ := bind_some h
   clear h
   have h := h'; clear h'
   have hc18 := c_impl_changeKey_1__p3 (ac_0_i1_0_1 := a13) (cc_0_i1_0_1 := c14) (lop_1 := lof_1_0) (bp_1 := bf_1_0) (op_1 := of_1_0) (prep_1 := pref_1_0) (sufp_1 := suff_1_0) hx17
   refine st_call (cx_call hc18 (ent_v (cap := [(pt bf_1_0 of_1_0)]) hc18.fn rfl rfl) hn0 (show Hp S0 σ0 _ ([Ch.ro 0 (Sl a13 x5.2.2.2.1 c14) x5.2.2.2.1, Ch.bx lof_1_0 bf_1_0 of_1_0 [(I f_1_0)] pref_1_0 suff_1_0] ++ [Ch.ro 0 (Sl a13 x5.2.2.2.1 c14) x5.2.2.2.1, Ch.ro 0 (Sl as_0 s_0 cs_0) s_0]) from (H.sel' [0, 2, 0, 1] rfl rfl))) wn ?_
   rintro _ σ19 ⟨_, ⟨rfl, rfl⟩, H, -⟩
   replace H : Hp S0 σ0 σ19 [Ch.bx lof_1_0 bf_1_0 of_1_0 [(I f_1_0)] pref_1_0 suff_1_0, Ch.ro 0 (Sl a13 x5.2.2.2.1 c14) x5.2.2.2.1, Ch.ro 0 (Sl as_0 s_0 cs_0) s_0] := H
   refine w_end ?_
   refine q_then ?_
   refine cd_cond r16 rfl (fun hb20 => ?_) (fun hb20 => ?_)
   ·replace h := bif_t hb20 h
    refine c_seq ?_
    refine rg ?_
    refine st (v := (I s2)) (rv_move rfl) ?_
    refine st (v := (I s2)) (rv_assign rfl) ?_
    refine w_end ?_
    refine q_then ?_
    refine c_ret ?_
    refine q_blk_r ?_
    refine q_then_r ?_
    refine q_then_r ?_
    refine q_blk_r ?_
    obtain rfl := Option.some.inj h
    obtain rfl := hres _ rfl
    exact .inr (⟨_, rfl, rfl, _, σ19, fr_join ⟨rfl, rfl, trivial⟩, rfl, H.sel' [0] rfl rfl⟩)
   ·replace h := bif_f hb20 h
    refine c_skip ?_
    refine q_blk ?_
    refine q_then ?_
    refine rg ?_
    refine st (v := (I (w64 (s2 + 1)))) (rv_add (a := s2) (b := 1) rfl rfl) ?_
    refine st (v := (I (w64 (s2 + 1)))) (rv_move rfl) ?_
    refine w_end ?_
    refine q_then ?_
    obtain rfl := Option.some.inj h
    exact ⟨_, rfl, _, σ19, fr_join ⟨rfl, rfl, rfl, rfl, trivial⟩, rfl, H.sel' [2, 0] rfl rfl⟩
  ·replace h := bif_f hb4 h
   refine c_exit ?_
   refine q_then_x ?_
   refine q_then_x ?_
   refine q_blk_hit ?_
   obtain rfl := Option.some.inj h
   obtain rfl := hres _ rfl
   exact .inl ⟨_, rfl, rfl, _, σ3, fr_join ⟨rfl, trivial⟩, rfl, H.sel' [1] rfl rfl⟩
 ·clear hj
  have h := h'
  clear h' H
  rintro e a w (⟨t21, rfl, rfl, ρ, σ22, rfl, rfl, H⟩ | ⟨t23, rfl, rfl, ρ, σ24, rfl, rfl, H⟩)
  ·replace h := selim_l h
   refine q_then ?_
   refine c_seq ?_
   refine rg ?_
   refine st (v := (I (-1))) (rv_assign rfl) ?_
   refine w_end ?_
   refine q_then ?_
   refine c_ret ?_
   obtain rfl := Option.some.inj h
   exact fin_ret (v := (I (-1))) (results_ok Try.results124 (res_tmp (v := (I (-1))) rfl res_nil) rfl) ⟨rfl, rfl⟩ (H.sel' [0] rfl rfl)
  ·replace h := selim_r h
   refine q_then_r ?_
   obtain rfl := Option.some.inj h
   exact fin_ret (v := (I t23)) (results_ok Try.results124 (res_tmp (v := (I t23)) rfl res_nil) rfl) ⟨rfl, rfl⟩ (H.sel' [0] rfl rfl)

theorem c_slices_ContainsFunc_impl_change_impl_change__impl_changeKey_1 {s_0 : List (If2 Int ((Int × (List Int) × Int)))} {f_1_0 : Int} {as_0 : Option Addr} {cs_0 : Nat} {lof_1_0 bf_1_0 of_1_0 : Nat} {pref_1_0 suff_1_0 : List Value} {r : Bool} (h : M.slices_ContainsFunc_impl_change_impl_change__impl_changeKey_1 s_0 f_1_0 = some r) :
    Cal2 Try.prog 110 [(Sl as_0 s_0 cs_0), (.func (.func 111) #[] #[(pt bf_1_0 of_1_0)])] [Ch.ro 0 (Sl as_0 s_0 cs_0) s_0, Ch.bx lof_1_0 bf_1_0 of_1_0 [(I f_1_0)] pref_1_0 suff_1_0] (fun n0 v L => v = (B r) ∧ L = [Ch.bx lof_1_0 bf_1_0 of_1_0 [(I f_1_0)] pref_1_0 suff_1_0]) := by
 refine cal2 (n := 9) Try.func110 rfl rfl rfl rfl ?_
 intro S0 σ0 n0 hn0 H
 unfold M.slices_ContainsFunc_impl_change_impl_change__impl_changeKey_1 at h
 refine c_seq ?_
 refine rg ?_
 refine st (v := (B false)) (rv_assign rfl) ?_
 refine w_end ?_
 refine q_then ?_
 refine c_seq ?_
 refine rg ?_
 refine st (v := (Sl as_0 s_0 cs_0)) (rv_move rfl) ?_
 refine st (v := (.func (.func 111) #[] #[(pt bf_1_0 of_1_0)])) (rv_move rfl) ?_
 obtain ⟨r1, hx2, h'⟩ := bind_some h
 clear h
 have h := h'; clear h'
 have hc3 := c_slices_IndexFunc_impl_change_impl_change__impl_changeKey_1 (as_0 := as_0) (cs_0 := cs_0) (lof_1_0 := lof_1_0) (bf_1_0 := bf_1_0) (of_1_0 := of_1_0) (pref_1_0 := pref_1_0) (suff_1_0 := suff_1_0) hx2
 refine st_call (cx_call hc3 (ent_f hc3.fn rfl) hn0 (show Hp S0 σ0 _ ([Ch.ro 0 (Sl as_0 s_0 cs_0) s_0, Ch.bx lof_1_0 bf_1_0 of_1_0 [(I f_1_0)] pref_1_0 suff_1_0] ++ [Ch.ro 0 (Sl as_0 s_0 cs_0) s_0]) from (H.sel' [0, 1, 0] rfl rfl))) wn ?_
 rintro _ σ4 ⟨_, ⟨rfl, rfl⟩, H, -⟩
 replace H : Hp S0 σ0 σ4 [Ch.bx lof_1_0 bf_1_0 of_1_0 [(I f_1_0)] pref_1_0 suff_1_0, Ch.ro 0 (Sl as_0 s_0 cs_0) s_0] := H
 refine st (v := (B (decide (0 ≤ r1)))) (rv_geq (a := r1) (b := 0) rfl rfl) ?_
 refine st (v := (B (decide (0 ≤ r1)))) (rv_assign rfl) ?_
 refine w_end ?_
 refine q_then ?_
 refine c_ret ?_
 obtain rfl := Option.some.inj h
 exact fin_ret (v := (B (decide (0 ≤ r1)))) (results_ok Try.results110 (res_tmp (v := (B (decide (0 ≤ r1)))) rfl res_nil) rfl) ⟨rfl, rfl⟩ (H.sel' [0] rfl rfl)

theorem c_impl_changeKey {changes_0 : List (If2 Int ((Int × (List Int) × Int)))} {key_1 : Int} {achanges_0 : Option Addr} {cchanges_0 : Nat} {r : Bool} (h : M.impl_changeKey changes_0 key_1 = some r) :
    Cal2 Try.prog 85 [(Sl achanges_0 changes_0 cchanges_0), (I key_1)] [Ch.ro 0 (Sl achanges_0 changes_0 cchanges_0) changes_0] (fun n0 v L => v = (B r) ∧ L = []) := by
 refine cal2 (n := 8) Try.func85 rfl rfl rfl rfl ?_
 intro S0 σ0 n0 hn0 H
 unfold M.impl_changeKey at h
 refine c_seq ?_
 refine rg ?_
 refine st_ex (ex_box (cs := [(I key_1)]) H hn0 rfl rfl) wn ?_
 rintro _ σ2 ⟨b1, rfl, H, -⟩
 refine st (v := (B false)) (rv_assign rfl) ?_
 refine w_end ?_
 refine q_then ?_
 refine c_seq ?_
 refine rg ?_
 refine st (v := (Sl achanges_0 changes_0 cchanges_0)) (rv_move rfl) ?_
 refine st (v := (.func (.func 111) #[] #[(pt b1 0)])) (rv_makeFunc (vs := [(pt b1 0)]) rfl) ?_
 obtain ⟨r3, hx4, h'⟩ := bind_some h
 clear h
 have h := h'; clear h'
 have hc5 := c_slices_ContainsFunc_impl_change_impl_change__impl_changeKey_1 (as_0 := achanges_0) (cs_0 := cchanges_0) (lof_1_0 := n0) (bf_1_0 := b1) (of_1_0 := 0) (pref_1_0 := []) (suff_1_0 := []) hx4
 refine st_call (cx_call hc5 (ent_f hc5.fn rfl) hn0 (show Hp S0 σ0 _ ([Ch.ro 0 (Sl achanges_0 changes_0 cchanges_0) changes_0, Ch.bx n0 b1 0 [(I key_1)] [] []] ++ [Ch.ro 0 (Sl achanges_0 changes_0 cchanges_0) changes_0]) from (H.sel' [1, 0, 1] rfl rfl))) wn ?_
 rintro _ σ6 ⟨_, ⟨rfl, rfl⟩, H, -⟩
 replace H : Hp S0 σ0 σ6 [Ch.bx n0 b1 0 [(I key_1)] [] [], Ch.ro 0 (Sl achanges_0 changes_0 cchanges_0) changes_0] := H
 refine st (v := (B r3)) (rv_assign rfl) ?_
 refine w_end ?_
 refine q_then ?_
 refine c_ret ?_
 obtain rfl := Option.some.inj h
 exact fin_ret (v := (B r3)) (results_ok Try.results85 (res_tmp (v := (B r3)) rfl res_nil) rfl) ⟨rfl, rfl⟩ (H.sel' [] rfl rfl)

theorem c_impl_dropChange_entry {c_0 : Int}  {r : (Int × (Int × (List Int) × Int))} (h : M.impl_dropChange_entry c_0 = some r) :
    Cal2 Try.prog 69 [(.agg #[(I c_0)])] [] (fun n0 v L => v = (.agg #[(I r.1), (I r.2.1), (.slice none 0 0), (I r.2.2.2)]) ∧ L = []) := by
 refine cal2 (n := 7) Try.func69 rfl rfl rfl rfl ?_
 intro S0 σ0 n0 hn0 H
 unfold M.impl_dropChange_entry at h
 refine c_seq ?_
 refine rg ?_
 refine st_ex (ex_box (cs := [(I c_0)]) H hn0 rfl rfl) wn ?_
 rintro _ σ2 ⟨b1, rfl, H, -⟩
 refine st_ex (ex_alloc (cs := [(I 0), (I 0), (.slice none 0 0), (I 0)]) H hn0 ti42 rfl) wn ?_
 rintro _ σ4 ⟨b3, rfl, H, -⟩
 refine w_end ?_
 refine q_then ?_
 refine c_seq ?_
 refine rg ?_
 refine st (v := (pt b1 0)) (rv_fieldAddr (off := 0) (ft := 3) Try.underlying91 rfl ti3 rfl rfl) ?_
 have hc5 := H.cell (u := (I c_0)) (o' := 0) 1 0 rfl rfl rfl
 refine st (v := (I c_0)) (rv_load1 Try.underlying3 rfl rfl hc5) ?_
 refine st (v := (.agg #[(I c_0), (.slice none 0 0), (I 0)])) (rv_build (ps := [(0, (I c_0))]) Try.underlying32 ti32 (bp32 Try.underlying32) rfl (by kernel_rfl)) ?_
 refine st (v := (.agg #[(I 2), (I c_0), (.slice none 0 0), (I 0)])) (rv_build (ps := [(0, (I 2)), (1, (.agg #[(I c_0), (.slice none 0 0), (I 0)]))]) Try.underlying42 ti42 (bp42 Try.underlying42) rfl (by kernel_rfl)) ?_
 refine st_exS (ex_store_box (k := 0) (cs := [(I 0), (I 0), (.slice none 0 0), (I 0)]) (vs := [(I 2), (I c_0), (.slice none 0 0), (I 0)]) (cs' := [(I 2), (I c_0), (.slice none 0 0), (I 0)]) H (i := 0) rfl ti42 rfl rfl rfl rfl rfl (Nat.le_of_ble_eq_true rfl) (by simp [plain]) rfl) wn ?_
 rintro σ6 ⟨H, -⟩
 refine w_end ?_
 refine q_then ?_
 refine c_ret ?_
 obtain rfl := Option.some.inj h
 exact fin_ret (v := (.agg #[(I 2), (I c_0), (.slice none 0 0), (I 0)])) (results_ok Try.results69 (res_cell rfl (run_cellRes (cs := [(I 2), (I c_0), (.slice none 0 0), (I 0)]) Try.underlying42 rfl ti42 rfl (H.cells 0 rfl)) res_nil) rfl) ⟨rfl, rfl⟩ (H.sel' [] rfl rfl)

theorem c_slices_Clone_int_int {s_0 : List Int} {as_0 : Option Addr} {cs_0 : Nat} {r : (List Int)} (h : M.slices_Clone_int_int s_0 = some r) :
    Cal2 Try.prog 99 [(Sl as_0 s_0 cs_0)] [Ch.ro 0 (Sl as_0 s_0 cs_0) s_0] (fun n0 v L => ∃ (az1 : Option Addr), ∃ (cz2 : Nat), v = (Sl az1 r cz2) ∧ L = [Ch.own n0 n0 (Sl az1 r cz2) r]) := by
 refine cal2 (n := 8) Try.func99 rfl rfl rfl rfl ?_
 intro S0 σ0 n0 hn0 H
 unfold M.slices_Clone_int_int at h
 refine c_seq ?_
 refine rg ?_
 refine st (v := (.slice none 0 0)) (rv_assign rfl) ?_
 refine w_end ?_
 refine q_then ?_
 refine c_seq ?_
 refine c_seq ?_
 refine rg ?_
 refine st (v := (Sl as_0 s_0 cs_0)) (rv_move rfl) ?_
 refine st (v := (B as_0.isNone)) (rv_nilS Try.underlying26 rfl rfl) ?_
 refine w_end ?_
 refine q_then ?_
 refine cd_cond as_0.isNone rfl (fun hb1 => ?_) (fun hb1 => ?_)
 ·have hq := RS.nilOf hb1 (H.ro 0 rfl)
  subst hq
  replace h : some [] = some r := by simpa [gapp] using h
  refine c_seq ?_
  refine rg ?_
  refine st (v := (.slice none 0 0)) (rv_assign rfl) ?_
  refine w_end ?_
  refine q_then ?_
  refine c_ret ?_
  refine q_then_r ?_
  replace H := H.nilOwn Int n0 n0
  obtain rfl := Option.some.inj h
  exact fin_ret (v := (.slice none 0 0)) (results_ok Try.results99 (res_tmp (v := (.slice none 0 0)) rfl res_nil) rfl) ⟨none, 0, rfl, rfl⟩ (H.sel' [0] rfl rfl)
 ·refine c_skip ?_
  refine q_then ?_
  refine c_seq ?_
  refine rg ?_
  refine st_ex (ex_buildSlice (el := n0) (xs := ([] : List Int)) (ps := []) (cs := []) H hn0 Try.underlying26 ti3 rfl rfl (by kernel_rfl) (.nil) rfl) wn ?_
  rintro _ σ3 ⟨b2, rfl, H, -⟩
  refine st (v := (Sl as_0 s_0 cs_0)) (rv_move rfl) ?_
  obtain ⟨xs4, hx5, h'⟩ := bind_some h
  clear h
  have h := h'; clear h'
  refine st_ex (ex_append H (i := 0) rfl Try.underlying26 Try.underlying26 ti3 rfl rfl (by decide) ((H.ro 1 rfl).rd.sc) hx5 hn0 rfl rfl) wn ?_
  rintro _ σ8 ⟨a6, c7, rfl, H, -⟩
  refine st (v := (Sl a6 xs4 c7)) (rv_assign rfl) ?_
  refine w_end ?_
  refine q_then ?_
  refine c_ret ?_
  obtain rfl := Option.some.inj h
  exact fin_ret (v := (Sl a6 xs4 c7)) (results_ok Try.results99 (res_tmp (v := (Sl a6 xs4 c7)) rfl res_nil) rfl) ⟨a6, c7, rfl, rfl⟩ (H.sel' [0] rfl rfl)

theorem c_impl_copyItem {x_0 : Int × (List Int) × Int} {ax_0_1 : Option Addr} {cx_0_1 : Nat} {r : (Int × (List Int) × Int)} (h : M.impl_copyItem x_0 = some r) :
    Cal2 Try.prog 67 [(.agg #[(I x_0.1), (Sl ax_0_1 x_0.2.1 cx_0_1), (I x_0.2.2)])] [Ch.ro 0 (Sl ax_0_1 x_0.2.1 cx_0_1) x_0.2.1] (fun n0 v L => ∃ (az1 : Option Addr), ∃ (cz2 : Nat), v = (.agg #[(I r.1), (Sl az1 r.2.1 cz2), (I r.2.2)]) ∧ L = [Ch.own n0 n0 (Sl az1 r.2.1 cz2) r.2.1]) := by
 refine cal2 (n := 11) Try.func67 rfl rfl rfl rfl ?_
 intro S0 σ0 n0 hn0 H
 unfold M.impl_copyItem at h
 refine c_seq ?_
 refine rg ?_
 refine st_ex (ex_box (cs := [(I x_0.1), (Sl ax_0_1 x_0.2.1 cx_0_1), (I x_0.2.2)]) H hn0 rfl rfl) wn ?_
 rintro _ σ2 ⟨b1, rfl, H, -⟩
 refine st_ex (ex_alloc (cs := [(I 0), (.slice none 0 0), (I 0)]) H hn0 ti32 rfl) wn ?_
 rintro _ σ4 ⟨b3, rfl, H, -⟩
 refine w_end ?_
 refine q_then ?_
 refine c_seq ?_
 have hc5 := H.cell (u := (I x_0.1)) (o' := 0) 1 0 rfl rfl rfl
 have hc6 := H.cell (u := (Sl ax_0_1 x_0.2.1 cx_0_1)) (o' := 1) 1 1 rfl rfl rfl
 obtain ⟨r7, hx8, h'⟩ := bind_some h
 clear h
 have h := h'; clear h'
 have hc9 := c_slices_Clone_int_int (as_0 := ax_0_1) (cs_0 := cx_0_1) hx8
 have hc12 := H.cell (u := (I x_0.2.2)) (o' := 2) 1 2 rfl rfl rfl
 have Hs := H
 refine rg2 (σ := σ4) (Nm := (Option Addr) × (Nat)) 7 [4] [[false], [true]] [[(0, 0), (1, 1)], [(0, 0), (1, 1)], [(0, 0)], [(0, 0)], [(0, 1)], [(0, 0), (1, 1)], [(0, 0), (1, 1)]] 1 [fun ((a10, c11) : (Option Addr) × (Nat)) => fun σm => Hp S0 σ0 σm [Ch.bx n0 b3 0 [(I 0), (.slice none 0 0), (I 0)] [] [], Ch.bx n0 b1 0 [(I x_0.1), (Sl ax_0_1 x_0.2.1 cx_0_1), (I x_0.2.2)] [] [], Ch.ro 0 (Sl ax_0_1 x_0.2.1 cx_0_1) x_0.2.1] ∧ Md (cov []) σ4 σm, fun ((a10, c11) : (Option Addr) × (Nat)) => fun σm => Hp S0 σ0 σm [Ch.own n0 n0 (Sl a10 r7 c11) r7, Ch.bx n0 b3 0 [(I 0), (.slice none 0 0), (I 0)] [] [], Ch.bx n0 b1 0 [(I x_0.1), (Sl ax_0_1 x_0.2.1 cx_0_1), (I x_0.2.2)] [] [], Ch.ro 0 (Sl ax_0_1 x_0.2.1 cx_0_1) x_0.2.1] ∧ Md (cov []) σ4 σm] [fun ((a10, c11) : (Option Addr) × (Nat)) => (pt b1 0), fun ((a10, c11) : (Option Addr) × (Nat)) => (I x_0.1), fun ((a10, c11) : (Option Addr) × (Nat)) => (pt b1 1), fun ((a10, c11) : (Option Addr) × (Nat)) => (Sl ax_0_1 x_0.2.1 cx_0_1), fun ((a10, c11) : (Option Addr) × (Nat)) => (Sl a10 r7 c11), fun ((a10, c11) : (Option Addr) × (Nat)) => (pt b1 2), fun ((a10, c11) : (Option Addr) × (Nat)) => (I x_0.2.2)] (none, 0) (by kernel_rfl) (by kernel_rfl) ?_ ?_ ?_
 ·intro σm m0
  exact ⟨H.grow (m0.mono fun _ h => h.elim), m0⟩
 ·refine ac rfl (by
    intro k; rintro ⟨a10, c11⟩ ρ σm hJ hoff hdep
    have e1 := look_off (N := 11) (hoff 1 rfl) rfl
    exact dp_v (v := (pt b1 0)) wn (rv_fieldAddr (off := 0) (ft := 3) Try.underlying32 rfl ti3 rfl e1) rfl hJ) ?_
  refine all_cons (by
    refine ⟨?_, ?_⟩
    ·rintro ⟨a10, c11⟩ ρ σm hJ hoff hdep
     have e3 := hdep 0 rfl rfl 3 rfl
     obtain ⟨H, m⟩ := id hJ
     have hc5 := H.cell (u := (I x_0.1)) (o' := 0) 1 0 rfl rfl rfl
     exact dp_v (v := (I x_0.1)) wn (rv_load1 Try.underlying3 rfl e3 hc5) rfl hJ
    refine ⟨?_, ?_⟩
    ·rintro ⟨a10, c11⟩ ρ σm hJ hoff hdep
     have e3 := hdep 0 rfl rfl 3 rfl
     obtain ⟨H, m⟩ := id hJ
     have hc5 := H.cell (u := (I x_0.1)) (o' := 0) 2 0 rfl rfl rfl
     exact dp_v (v := (I x_0.1)) wn (rv_load1 Try.underlying3 rfl e3 hc5) rfl hJ
    trivial) ?_
  refine ac rfl (by
    intro k; rintro ⟨a10, c11⟩ ρ σm hJ hoff hdep
    have e1 := look_off (N := 11) (hoff 1 rfl) rfl
    exact dp_v (v := (pt b1 1)) wn (rv_fieldAddr (off := 1) (ft := 26) Try.underlying32 rfl ti26 rfl e1) rfl hJ) ?_
  refine all_cons (by
    refine ⟨?_, ?_⟩
    ·rintro ⟨a10, c11⟩ ρ σm hJ hoff hdep
     have e5 := hdep 2 rfl rfl 5 rfl
     obtain ⟨H, m⟩ := id hJ
     have hc6 := H.cell (u := (Sl ax_0_1 x_0.2.1 cx_0_1)) (o' := 1) 1 1 rfl rfl rfl
     exact dp_v (v := (Sl ax_0_1 x_0.2.1 cx_0_1)) wn (rv_load1 Try.underlying26 rfl e5 hc6) rfl hJ
    trivial) ?_
  refine all_cons (by
    refine ⟨?_, ?_⟩
    ·rintro ⟨a10, c11⟩ ρ σm hJ hoff hdep
     have e6 : look 11 ρ 6 = (Sl ax_0_1 x_0.2.1 cx_0_1) := hdep 3 rfl rfl 6 rfl
     obtain ⟨H, m⟩ := id hJ
     refine dp_cx wn (cx_call hc9 (ent_f hc9.fn (by show [look 11 ρ 6] = _; rw [e6])) hn0 (show Hp S0 σ0 _ ([Ch.ro 0 (Sl ax_0_1 x_0.2.1 cx_0_1) x_0.2.1] ++ [Ch.bx n0 b3 0 [(I 0), (.slice none 0 0), (I 0)] [] [], Ch.bx n0 b1 0 [(I x_0.1), (Sl ax_0_1 x_0.2.1 cx_0_1), (I x_0.2.2)] [] [], Ch.ro 0 (Sl ax_0_1 x_0.2.1 cx_0_1) x_0.2.1]) from (H.sel' [2, 0, 1, 2] rfl rfl))) ?_
     rintro _ σq ⟨_, ⟨a10x, c11x, rfl, rfl⟩, H2, m2⟩
     exact ⟨_, (a10x, c11x), rfl, rfl, ⟨H2.sel' [0, 1, 2, 3] rfl rfl, m.comp0 (m2.mono (fun i h => by simp [cov, Ch.ro] at h))⟩, stab [0, 1, 2, 3, 5, 6] (by kernel_rfl) ⟨rfl, rfl, rfl, rfl, rfl, rfl, trivial⟩⟩
    trivial) ?_
  refine ac rfl (by
    intro k; rintro ⟨a10, c11⟩ ρ σm hJ hoff hdep
    have e1 := look_off (N := 11) (hoff 1 rfl) rfl
    exact dp_v (v := (pt b1 2)) wn (rv_fieldAddr (off := 2) (ft := 3) Try.underlying32 rfl ti3 rfl e1) rfl hJ) ?_
  refine all_cons (by
    refine ⟨?_, ?_⟩
    ·rintro ⟨a10, c11⟩ ρ σm hJ hoff hdep
     have e8 := hdep 5 rfl rfl 8 rfl
     obtain ⟨H, m⟩ := id hJ
     have hc12 := H.cell (u := (I x_0.2.2)) (o' := 2) 1 2 rfl rfl rfl
     exact dp_v (v := (I x_0.2.2)) wn (rv_load1 Try.underlying3 rfl e8 hc12) rfl hJ
    refine ⟨?_, ?_⟩
    ·rintro ⟨a10, c11⟩ ρ σm hJ hoff hdep
     have e8 := hdep 5 rfl rfl 8 rfl
     obtain ⟨H, m⟩ := id hJ
     have hc12 := H.cell (u := (I x_0.2.2)) (o' := 2) 2 2 rfl rfl rfl
     exact dp_v (v := (I x_0.2.2)) wn (rv_load1 Try.underlying3 rfl e8 hc12) rfl hJ
    trivial) ?_
  exact all_nil
 ·rintro ⟨a10, c11⟩ ρ σ13 hJ hoff hrel
  have e2 := look_off (N := 11) (hoff 2 rfl) rfl
  have e4 := hrel 1 rfl 4 rfl
  have e7 := hrel 4 rfl 7 rfl
  have e9 := hrel 6 rfl 9 rfl
  obtain ⟨H, -⟩ := (show Hp S0 σ0 σ13 [Ch.own n0 n0 (Sl a10 r7 c11) r7, Ch.bx n0 b3 0 [(I 0), (.slice none 0 0), (I 0)] [] [], Ch.bx n0 b1 0 [(I x_0.1), (Sl ax_0_1 x_0.2.1 cx_0_1), (I x_0.2.2)] [] [], Ch.ro 0 (Sl ax_0_1 x_0.2.1 cx_0_1) x_0.2.1] ∧ Md (cov []) σ4 σ13 from hJ)
  clear hJ Hs
  rw [fr_lookL (L := [(2, (pt b3 0)), (4, (I x_0.1)), (7, (Sl a10 r7 c11)), (9, (I x_0.2.2))]) ⟨e2, e4, e7, e9, trivial⟩]
  clear hoff hrel e2 e4 e7 e9
  refine st (v := (.agg #[(I x_0.1), (Sl a10 r7 c11), (I x_0.2.2)])) (rv_build (ps := [(0, (I x_0.1)), (1, (Sl a10 r7 c11)), (2, (I x_0.2.2))]) Try.underlying32 ti32 (bp32 Try.underlying32) rfl (by kernel_rfl)) ?_
  refine st_exS (ex_store_box (k := 0) (cs := [(I 0), (.slice none 0 0), (I 0)]) (vs := [(I x_0.1), (Sl a10 r7 c11), (I x_0.2.2)]) (cs' := [(I x_0.1), (Sl a10 r7 c11), (I x_0.2.2)]) H (i := 1) rfl ti32 rfl rfl rfl rfl rfl (Nat.le_of_ble_eq_true rfl) (by simp [plain]) rfl) wn ?_
  rintro σ14 ⟨H, -⟩
  refine w_end ?_
  refine q_then ?_
  refine c_ret ?_
  obtain rfl := Option.some.inj h
  exact fin_ret (v := (.agg #[(I x_0.1), (Sl a10 r7 c11), (I x_0.2.2)])) (results_ok Try.results67 (res_cell rfl (run_cellRes (cs := [(I x_0.1), (Sl a10 r7 c11), (I x_0.2.2)]) Try.underlying32 rfl ti32 rfl (H.cells 0 rfl)) res_nil) rfl) ⟨a10, c11, rfl, rfl⟩ (H.sel' [1] rfl rfl)

theorem c_impl_putChange_entry {c_0 : (Int × (List Int) × Int)} {ac_0_0_1 : Option Addr} {cc_0_0_1 : Nat} {r : (Int × (Int × (List Int) × Int))} (h : M.impl_putChange_entry c_0 = some r) :
    Cal2 Try.prog 71 [(.agg #[(I c_0.1), (Sl ac_0_0_1 c_0.2.1 cc_0_0_1), (I c_0.2.2)])] [Ch.ro 0 (Sl ac_0_0_1 c_0.2.1 cc_0_0_1) c_0.2.1] (fun n0 v L => ∃ (az1 : Option Addr), ∃ (cz2 : Nat), v = (.agg #[(I r.1), (I r.2.1), (Sl az1 r.2.2.1 cz2), (I r.2.2.2)]) ∧ L = [Ch.own n0 n0 (Sl az1 r.2.2.1 cz2) r.2.2.1]) := by
 refine cal2 (n := 7) Try.func71 rfl rfl rfl rfl ?_
 intro S0 σ0 n0 hn0 H
 unfold M.impl_putChange_entry at h
 refine c_seq ?_
 refine rg ?_
 refine st_ex (ex_box (cs := [(I c_0.1), (Sl ac_0_0_1 c_0.2.1 cc_0_0_1), (I c_0.2.2)]) H hn0 rfl rfl) wn ?_
 rintro _ σ2 ⟨b1, rfl, H, -⟩
 refine st_ex (ex_alloc (cs := [(I 0), (I 0), (.slice none 0 0), (I 0)]) H hn0 ti42 rfl) wn ?_
 rintro _ σ4 ⟨b3, rfl, H, -⟩
 refine w_end ?_
 refine q_then ?_
 refine c_seq ?_
 refine rg ?_
 refine st (v := (pt b1 0)) (rv_fieldAddr (off := 0) (ft := 32) Try.underlying95 rfl ti32 rfl rfl) ?_
 have hc5 := H.part (us := [(I c_0.1), (Sl ac_0_0_1 c_0.2.1 cc_0_0_1), (I c_0.2.2)]) (o' := 0) 1 0 3 rfl rfl rfl rfl
 refine st (v := (.agg #[(I c_0.1), (Sl ac_0_0_1 c_0.2.1 cc_0_0_1), (I c_0.2.2)])) (rv_load (cs := [(I c_0.1), (Sl ac_0_0_1 c_0.2.1 cc_0_0_1), (I c_0.2.2)]) Try.underlying32 rfl ti32 rfl rfl hc5) ?_
 obtain ⟨r6, hx7, h'⟩ := bind_some h
 clear h
 have h := h'; clear h'
 have hc8 := c_impl_copyItem (ax_0_1 := ac_0_0_1) (cx_0_1 := cc_0_0_1) hx7
 refine st_call (cx_call hc8 (ent_f hc8.fn rfl) hn0 (show Hp S0 σ0 _ ([Ch.ro 0 (Sl ac_0_0_1 c_0.2.1 cc_0_0_1) c_0.2.1] ++ [Ch.bx n0 b3 0 [(I 0), (I 0), (.slice none 0 0), (I 0)] [] [], Ch.bx n0 b1 0 [(I c_0.1), (Sl ac_0_0_1 c_0.2.1 cc_0_0_1), (I c_0.2.2)] [] [], Ch.ro 0 (Sl ac_0_0_1 c_0.2.1 cc_0_0_1) c_0.2.1]) from (H.sel' [2, 0, 1, 2] rfl rfl))) wn ?_
 rintro _ σ11 ⟨_, ⟨a9, c10, rfl, rfl⟩, H, -⟩
 replace H : Hp S0 σ0 σ11 [Ch.own n0 n0 (Sl a9 r6.2.1 c10) r6.2.1, Ch.bx n0 b3 0 [(I 0), (I 0), (.slice none 0 0), (I 0)] [] [], Ch.bx n0 b1 0 [(I c_0.1), (Sl ac_0_0_1 c_0.2.1 cc_0_0_1), (I c_0.2.2)] [] [], Ch.ro 0 (Sl ac_0_0_1 c_0.2.1 cc_0_0_1) c_0.2.1] := H
 refine st (v := (.agg #[(I 1), (I r6.1), (Sl a9 r6.2.1 c10), (I r6.2.2)])) (rv_build (ps := [(0, (I 1)), (1, (.agg #[(I r6.1), (Sl a9 r6.2.1 c10), (I r6.2.2)]))]) Try.underlying42 ti42 (bp42 Try.underlying42) rfl (by kernel_rfl)) ?_
 refine st_exS (ex_store_box (k := 0) (cs := [(I 0), (I 0), (.slice none 0 0), (I 0)]) (vs := [(I 1), (I r6.1), (Sl a9 r6.2.1 c10), (I r6.2.2)]) (cs' := [(I 1), (I r6.1), (Sl a9 r6.2.1 c10), (I r6.2.2)]) H (i := 1) rfl ti42 rfl rfl rfl rfl rfl (Nat.le_of_ble_eq_true rfl) (by simp [plain]) rfl) wn ?_
 rintro σ12 ⟨H, -⟩
 refine w_end ?_
 refine q_then ?_
 refine c_ret ?_
 obtain rfl := Option.some.inj h
 exact fin_ret (v := (.agg #[(I 1), (I r6.1), (Sl a9 r6.2.1 c10), (I r6.2.2)])) (results_ok Try.results71 (res_cell rfl (run_cellRes (cs := [(I 1), (I r6.1), (Sl a9 r6.2.1 c10), (I r6.2.2)]) Try.underlying42 rfl ti42 rfl (H.cells 0 rfl)) res_nil) rfl) ⟨a9, c10, rfl, rfl⟩ (H.sel' [1] rfl rfl)

theorem c_impl_ShortLog {log_0 : List (Int × (Int × (List Int) × Int))} {alog_0 : Option Addr} {clog_0 : Nat} {r : (List (Int × (Int × (List Int) × Int)))} (h : M.impl_ShortLog log_0 = some r) :
    Cal2 Try.prog 45 [(Sl alog_0 log_0 clog_0)] [Ch.ro 0 (Sl alog_0 log_0 clog_0) log_0] (fun n0 v L => ∃ (az1 : Option Addr), ∃ (cz2 : Nat), ∃ (Kz3 : List Ch), v = (Sl az1 r cz2) ∧ L = [Ch.big Kz3] ∧ Dp 0 (Sl az1 r cz2) r Kz3) := by
 refine cal2 (n := 37) Try.func45 rfl rfl rfl rfl ?_
 intro S0 σ0 n0 hn0 H
 unfold M.impl_ShortLog at h
 refine c_seq ?_
 refine rg ?_
 refine st (v := (.slice none 0 0)) (rv_assign rfl) ?_
 refine w_end ?_
 refine q_then ?_
 refine c_seq ?_
 refine rg ?_
 refine st (v := (Sl alog_0 log_0 clog_0)) (rv_move rfl) ?_
 obtain ⟨r1, hx2, h'⟩ := bind_some h
 clear h
 have h := h'; clear h'
 have hc3 := c_impl_changesOf (alog_0 := alog_0) (clog_0 := clog_0) hx2
 refine st_call (cx_call hc3 (ent_f hc3.fn rfl) hn0 (show Hp S0 σ0 _ ([Ch.ro 0 (Sl alog_0 log_0 clog_0) log_0] ++ [Ch.ro 0 (Sl alog_0 log_0 clog_0) log_0]) from (H.sel' [0, 0] rfl rfl))) wn ?_
 rintro _ σ6 ⟨_, ⟨a4, c5, rfl, rfl⟩, H, -⟩
 replace H : Hp S0 σ0 σ6 [Ch.own n0 0 (Sl a4 r1.1 c5) r1.1, Ch.ro 0 (Sl alog_0 log_0 clog_0) log_0] := H
 refine st (v := (.tuple #[(Sl a4 r1.1 c5), (B r1.2)])) (rv_move rfl) ?_
 refine st (v := (Sl a4 r1.1 c5)) (rv_extract rfl rfl) ?_
 refine st (v := (B r1.2)) (rv_extract rfl rfl) ?_
 refine st (v := (Sl a4 r1.1 c5)) (rv_assign rfl) ?_
 refine st (v := (B r1.2)) (rv_assign rfl) ?_
 refine w_end ?_
 refine q_then ?_
 refine c_seq ?_
 refine c_seq ?_
 refine rg ?_
 refine st (v := (B r1.2)) (rv_move rfl) ?_
 refine st (v := (B (!r1.2))) (rv_not rfl) ?_
 refine w_end ?_
 refine q_then ?_
 refine cd_cond (!r1.2) rfl (fun hb7 => ?_) (fun hb7 => ?_)
 ·replace h := bif_t hb7 h
  refine c_seq ?_
  refine rg ?_
  refine st (v := (.slice none 0 0)) (rv_assign rfl) ?_
  refine w_end ?_
  refine q_then ?_
  refine c_ret ?_
  refine q_then_r ?_
  obtain ⟨K8, hK9, H⟩ := H.nilDp (Int × (Int × (List Int) × Int)) 0
  obtain rfl := Option.some.inj h
  exact fin_ret (v := (.slice none 0 0)) (results_ok Try.results45 (res_tmp (v := (.slice none 0 0)) rfl res_nil) rfl) ⟨none, 0, K8, rfl, rfl, hK9⟩ (H.sel' [0] rfl rfl)
 ·replace h := bif_f hb7 h
  refine c_skip ?_
  refine q_then ?_
  refine c_seq ?_
  refine rg ?_
  refine st (v := (.slice none 0 0)) (rv_assign rfl) ?_
  refine w_end ?_
  refine q_then ?_
  refine c_seq ?_
  refine c_seq ?_
  refine rg ?_
  refine st (v := (Sl a4 r1.1 c5)) (rv_move rfl) ?_
  refine st (v := (I (r1.1.length : Int))) (rv_len Try.underlying79 rfl) ?_
  refine st (v := (I 0)) (rv_move rfl) ?_
  refine w_end ?_
  refine q_then ?_
  obtain ⟨o10, hj, h'⟩ := bind_some h
  clear h
  refine c_cut (fun e a w => e = .normal ∧ ∃ (ρ : Nat → Value) (σ : St) (aj1 : Option Addr) (cj2 : Nat) (Kj3 : List Ch), a = fr 37 (updL ρ [(5, (Sl aj1 o10 cj2))]) ∧ w = σ.w ∧ Hp S0 σ0 σ [Ch.big Kj3] ∧ Dp n0 (Sl aj1 o10 cj2) o10 Kj3) ?_ ?_
  ·clear h'
   rename _ = some o10 => h
   refine c_blk ?_
   obtain ⟨σ12, hw13, H, -⟩ := H.pub 0 rfl (Nat.zero_le _)
   rw [← hw13]; clear hw13
   obtain ⟨K14, hK15, H⟩ := H.nilDp (Int × (Int × (List Int) × Int)) n0
   refine wp_loopM _ h (fun s11 a w => ∃ (ρ : Nat → Value) (σ : St) (aj1 : Option Addr) (cj2 : Nat) (Kj3 : List Ch), a = fr 37 (updL ρ [(3, (Sl a4 r1.1 c5)), (5, (Sl aj1 s11.1 cj2)), (15, (Sl a4 r1.1 c5)), (16, (I (r1.1.length : Int))), (17, (I s11.2))]) ∧ w = σ.w ∧ Hp S0 σ0 σ [Ch.ro 0 (Sl a4 r1.1 c5) r1.1, Ch.big Kj3] ∧ Dp n0 (Sl aj1 s11.1 cj2) s11.1 Kj3) ⟨_, σ12, none, 0, K14, fr_join ⟨rfl, rfl, rfl, rfl, rfl, trivial⟩, rfl, H.sel' [1, 0] rfl rfl, hK15⟩ ?_
   clear h H
   rintro s11 a w o ⟨ρ, σ16, a17, c18, K19, rfl, rfl, H, hK20⟩ h hres
   refine c_seq ?_
   refine rg ?_
   refine st (v := (B (decide (s11.2 < (r1.1.length : Int))))) (rv_lss (a := s11.2) (b := (r1.1.length : Int)) rfl rfl) ?_
   refine w_end ?_
   refine q_then ?_
   refine c_seq ?_
   refine cd_cond (decide (s11.2 < (r1.1.length : Int))) rfl (fun hb21 => ?_) (fun hb21 => ?_)
   ·replace h := bif_t hb21 h
    refine c_skip ?_
    refine q_then ?_
    refine c_seq ?_
    obtain ⟨o22, hj, h'⟩ := bind_some h
    clear h
    refine c_cut (fun e a w => e = .normal ∧ ∃ (ρ : Nat → Value) (σ : St) (aj1 : Option Addr) (cj2 : Nat) (Kj3 : List Ch), a = fr 37 (updL ρ [(3, (Sl a4 r1.1 c5)), (5, (Sl aj1 o22 cj2)), (15, (Sl a4 r1.1 c5)), (16, (I (r1.1.length : Int))), (17, (I s11.2))]) ∧ w = σ.w ∧ Hp S0 σ0 σ [Ch.ro 0 (Sl a4 r1.1 c5) r1.1, Ch.big Kj3] ∧ Dp n0 (Sl aj1 o22 cj2) o22 Kj3) ?_ ?_
    ·clear h'
     rename _ = some o22 => h
     refine c_blk ?_
     refine c_seq ?_
     refine rg ?_
     refine st (v := (I s11.2)) (rv_move rfl) ?_
     obtain ⟨x23, hx24, h'⟩ := bind_some h
     clear h
     have h := h'; clear h'
     obtain ⟨b26, o27, hi25, -⟩ := (H.ro 0 rfl).ix hx24
     refine st (v := (pt b26 o27)) (rv_ix Try.underlying79 ti83 rfl rfl hi25) ?_
     obtain ⟨_, ⟨_, _, rfl, ⟨_, _, rfl, rfl, ⟨_, _, rfl, ⟨_, rfl, hR33⟩, rfl⟩⟩, rfl⟩, hl28, hq29⟩ := ((H.ro 0 rfl).at hx24 hi25).cells
     obtain ⟨a31, c32, rfl⟩ := hR33.isSl
     have hc30 : HCell _ _ _ = some (ifs2 x23.1 (.iface 91 (.agg #[(I x23.2.1)])) (.iface 95 (.agg #[(I x23.2.2.1), (Sl a31 x23.2.2.2.1 c32), (I x23.2.2.2.2)]))) := hq29 0 Nat.zero_lt_one
     clear hq29
     replace H := H.add (d := Ch.ro 0 (Sl a31 x23.2.2.2.1 c32) x23.2.2.2.1) hR33 (fun _ h => h)
     clear hR33
     refine st (v := (ifs2 x23.1 (.iface 91 (.agg #[(I x23.2.1)])) (.iface 95 (.agg #[(I x23.2.2.1), (Sl a31 x23.2.2.2.1 c32), (I x23.2.2.2.2)])))) (rv_load1 Try.underlying83 rfl rfl hc30) ?_
     refine st (v := (I s11.2)) (rv_assign rfl) ?_
     refine st (v := (ifs2 x23.1 (.iface 91 (.agg #[(I x23.2.1)])) (.iface 95 (.agg #[(I x23.2.2.1), (Sl a31 x23.2.2.2.1 c32), (I x23.2.2.2.2)])))) (rv_assign rfl) ?_
     refine w_end ?_
     refine q_then ?_
     refine c_seq ?_
     obtain ⟨o34, hj, h'⟩ := bind_some h
     clear h
     refine c_cut (fun e a w => e = .normal ∧ ∃ (ρ : Nat → Value) (σ : St), a = fr 37 (updL ρ [(3, (Sl a4 r1.1 c5)), (5, (Sl a17 s11.1 c18)), (7, (ifs2 x23.1 (.iface 91 (.agg #[(I x23.2.1)])) (.iface 95 (.agg #[(I x23.2.2.1), (Sl a31 x23.2.2.2.1 c32), (I x23.2.2.2.2)])))), (15, (Sl a4 r1.1 c5)), (16, (I (r1.1.length : Int))), (17, (I s11.2)), (29, (B o34))]) ∧ w = σ.w ∧ Hp S0 σ0 σ [Ch.ro 0 (Sl a4 r1.1 c5) r1.1, Ch.big K19, Ch.ro 0 (Sl a31 x23.2.2.2.1 c32) x23.2.2.2.1]) ?_ ?_
     ·clear h'
      rename _ = some o34 => h
      obtain ⟨xs35, hx36, h'⟩ := bind_some h
      clear h
      have h := h'; clear h'
      obtain ⟨a37, c38, hs39, hR40⟩ := (H.ro 1 rfl).slice hx36
      replace H := H.add (d := Ch.ro 0 (Sl a37 xs35 c38) xs35) hR40 (fun _ h => h)
      clear hR40
      rcases Bool.eq_false_or_eq_true (x23.1 == 1) with hb41 | hb41
      ·replace h := bif_t hb41 h
       have hv43 : (ifs2 x23.1 (.iface 91 (.agg #[(I x23.2.1)])) (.iface 95 (.agg #[(I x23.2.2.1), (Sl a31 x23.2.2.2.1 c32), (I x23.2.2.2.2)]))) = (.iface 91 (.agg #[(I x23.2.1)]) : Value) := ct hb41
       obtain ⟨r44, hx45, h'⟩ := bind_some h
       clear h
       have h := h'; clear h'
       have hc46 := c_impl_dropChange_key hx45
       have Hs := H
       refine rg2 (σ := σ16) (Nm := Unit) 6 [5] [[false], [true]] [[(0, 0), (1, 1)], [(0, 0), (1, 1)], [(0, 0), (1, 1)], [(0, 0), (1, 1)], [(0, 0)], [(0, 1)]] 1 [fun _ => fun σm => Hp S0 σ0 σm [Ch.ro 0 (Sl a37 xs35 c38) xs35, Ch.ro 0 (Sl a31 x23.2.2.2.1 c32) x23.2.2.2.1, Ch.ro 0 (Sl a4 r1.1 c5) r1.1, Ch.big K19] ∧ Md (cov []) σ16 σm, fun _ => fun σm => Hp S0 σ0 σm [Ch.ro 0 (Sl a37 xs35 c38) xs35, Ch.ro 0 (Sl a31 x23.2.2.2.1 c32) x23.2.2.2.1, Ch.ro 0 (Sl a4 r1.1 c5) r1.1, Ch.big K19] ∧ Md (cov []) σ16 σm] [fun _ => (Sl a4 r1.1 c5), fun _ => (I s11.2), fun _ => (I (w64 (s11.2 + 1))), fun _ => (Sl a37 xs35 c38), fun _ => (ifs2 x23.1 (.iface 91 (.agg #[(I x23.2.1)])) (.iface 95 (.agg #[(I x23.2.2.1), (Sl a31 x23.2.2.2.1 c32), (I x23.2.2.2.2)]))), fun _ => (I r44)] () (by kernel_rfl) (by kernel_rfl) ?_ ?_ ?_
       ·intro σm m0
        exact ⟨H.grow (m0.mono fun _ h => h.elim), m0⟩
       ·refine ac rfl (by
          intro k _nm ρ σm hJ hoff hdep
          have e3 := look_off (N := 37) (hoff 3 rfl) rfl
          exact dp_v (v := (Sl a4 r1.1 c5)) wn (rv_move e3) rfl hJ) ?_
        refine ac rfl (by
          intro k _nm ρ σm hJ hoff hdep
          have e6 := look_off (N := 37) (hoff 6 rfl) rfl
          exact dp_v (v := (I s11.2)) wn (rv_move e6) rfl hJ) ?_
        refine ac rfl (by
          intro k _nm ρ σm hJ hoff hdep
          have e23 := hdep 1 rfl rfl 23 rfl
          exact dp_v (v := (I (w64 (s11.2 + 1)))) wn (rv_add (a := s11.2) (b := 1) e23 rfl) rfl hJ) ?_
        refine ac rfl (by
          intro k _nm ρ σm hJ hoff hdep
          have e22 := hdep 0 rfl rfl 22 rfl
          have e24 := hdep 2 rfl rfl 24 rfl
          exact dp_v (v := (Sl a37 xs35 c38)) wn (rv_slice_l Try.underlying79 ti83 hs39 e22 e24) rfl hJ) ?_
        refine ac rfl (by
          intro k _nm ρ σm hJ hoff hdep
          have e7 := look_off (N := 37) (hoff 7 rfl) rfl
          exact dp_v (v := (ifs2 x23.1 (.iface 91 (.agg #[(I x23.2.1)])) (.iface 95 (.agg #[(I x23.2.2.1), (Sl a31 x23.2.2.2.1 c32), (I x23.2.2.2.2)])))) wn (rv_move e7) rfl hJ) ?_
        refine all_cons (by
          refine ⟨?_, ?_⟩
          ·intro _nm ρ σm hJ hoff hdep
           have e26 := hdep 4 rfl rfl 26 rfl
           obtain ⟨H, m⟩ := id hJ
           refine dp_cx wn (cx_call hc46 ((by exact ent_ix hc46.fn (by kernel_rfl) Try.underlying91 rfl (e26.trans hv43) rfl)) hn0 (show Hp S0 σ0 _ ([] ++ [Ch.ro 0 (Sl a37 xs35 c38) xs35, Ch.ro 0 (Sl a31 x23.2.2.2.1 c32) x23.2.2.2.1, Ch.ro 0 (Sl a4 r1.1 c5) r1.1, Ch.big K19]) from (H.sel' [0, 1, 2, 3] rfl rfl))) ?_
           rintro _ σq ⟨_, ⟨rfl, rfl⟩, H2, m2⟩
           exact ⟨_, (), rfl, rfl, ⟨H2.sel' [0, 1, 2, 3] rfl rfl, m.comp0 m2⟩, stab [0, 1, 2, 3, 4] (by kernel_rfl) ⟨rfl, rfl, rfl, rfl, rfl, trivial⟩⟩
          trivial) ?_
        exact all_nil
       ·intro _nm ρ σ47 hJ hoff hrel
        have e3 := look_off (N := 37) (hoff 3 rfl) rfl
        have e5 := look_off (N := 37) (hoff 5 rfl) rfl
        have e7 := look_off (N := 37) (hoff 7 rfl) rfl
        have e15 := look_off (N := 37) (hoff 15 rfl) rfl
        have e16 := look_off (N := 37) (hoff 16 rfl) rfl
        have e17 := look_off (N := 37) (hoff 17 rfl) rfl
        have e25 := hrel 3 rfl 25 rfl
        have e27 := hrel 5 rfl 27 rfl
        obtain ⟨H, -⟩ := (show Hp S0 σ0 σ47 [Ch.ro 0 (Sl a37 xs35 c38) xs35, Ch.ro 0 (Sl a31 x23.2.2.2.1 c32) x23.2.2.2.1, Ch.ro 0 (Sl a4 r1.1 c5) r1.1, Ch.big K19] ∧ Md (cov []) σ16 σ47 from hJ)
        clear hJ Hs
        rw [fr_lookL (L := [(3, (Sl a4 r1.1 c5)), (5, (Sl a17 s11.1 c18)), (7, (ifs2 x23.1 (.iface 91 (.agg #[(I x23.2.1)])) (.iface 95 (.agg #[(I x23.2.2.1), (Sl a31 x23.2.2.2.1 c32), (I x23.2.2.2.2)])))), (15, (Sl a4 r1.1 c5)), (16, (I (r1.1.length : Int))), (17, (I s11.2)), (25, (Sl a37 xs35 c38)), (27, (I r44))]) ⟨e3, e5, e7, e15, e16, e17, e25, e27, trivial⟩]
        clear hoff hrel e3 e5 e7 e15 e16 e17 e25 e27
        obtain ⟨r48, hx49, h'⟩ := bind_some h
        clear h
        have h := h'; clear h'
        have hc50 := c_impl_changeKey (achanges_0 := a37) (cchanges_0 := c38) hx49
        refine st_call (cx_call hc50 (ent_f hc50.fn rfl) hn0 (show Hp S0 σ0 _ ([Ch.ro 0 (Sl a37 xs35 c38) xs35] ++ [Ch.ro 0 (Sl a37 xs35 c38) xs35, Ch.ro 0 (Sl a31 x23.2.2.2.1 c32) x23.2.2.2.1, Ch.ro 0 (Sl a4 r1.1 c5) r1.1, Ch.big K19]) from (H.sel' [0, 0, 1, 2, 3] rfl rfl))) wn ?_
        rintro _ σ51 ⟨_, ⟨rfl, rfl⟩, H, -⟩
        replace H : Hp S0 σ0 σ51 [Ch.ro 0 (Sl a37 xs35 c38) xs35, Ch.ro 0 (Sl a31 x23.2.2.2.1 c32) x23.2.2.2.1, Ch.ro 0 (Sl a4 r1.1 c5) r1.1, Ch.big K19] := H
        refine st (v := (B (!r48))) (rv_not rfl) ?_
        refine w_end ?_
        obtain rfl := Option.some.inj h
        exact ⟨rfl, _, σ51, fr_join ⟨rfl, rfl, rfl, rfl, rfl, rfl, rfl, trivial⟩, rfl, H.sel' [2, 3, 1] rfl rfl⟩
      ·replace h := bif_f hb41 h
       rcases Bool.eq_false_or_eq_true (x23.1 == 2) with hb42 | hb42
       ·replace h := bif_t hb42 h
        have hv52 : (ifs2 x23.1 (.iface 91 (.agg #[(I x23.2.1)])) (.iface 95 (.agg #[(I x23.2.2.1), (Sl a31 x23.2.2.2.1 c32), (I x23.2.2.2.2)]))) = (.iface 95 (.agg #[(I x23.2.2.1), (Sl a31 x23.2.2.2.1 c32), (I x23.2.2.2.2)]) : Value) := (cf hb41).trans (ct hb42)
        obtain ⟨r53, hx54, h'⟩ := bind_some h
        clear h
        have h := h'; clear h'
        have hc55 := c_impl_putChange_key (ac_0_0_1 := a31) (cc_0_0_1 := c32) hx54
        have Hs := H
        refine rg2 (σ := σ16) (Nm := Unit) 6 [5] [[false], [true]] [[(0, 0), (1, 1)], [(0, 0), (1, 1)], [(0, 0), (1, 1)], [(0, 0), (1, 1)], [(0, 0)], [(0, 1)]] 1 [fun _ => fun σm => Hp S0 σ0 σm [Ch.ro 0 (Sl a37 xs35 c38) xs35, Ch.ro 0 (Sl a31 x23.2.2.2.1 c32) x23.2.2.2.1, Ch.ro 0 (Sl a4 r1.1 c5) r1.1, Ch.big K19] ∧ Md (cov []) σ16 σm, fun _ => fun σm => Hp S0 σ0 σm [Ch.ro 0 (Sl a37 xs35 c38) xs35, Ch.ro 0 (Sl a31 x23.2.2.2.1 c32) x23.2.2.2.1, Ch.ro 0 (Sl a4 r1.1 c5) r1.1, Ch.big K19] ∧ Md (cov []) σ16 σm] [fun _ => (Sl a4 r1.1 c5), fun _ => (I s11.2), fun _ => (I (w64 (s11.2 + 1))), fun _ => (Sl a37 xs35 c38), fun _ => (ifs2 x23.1 (.iface 91 (.agg #[(I x23.2.1)])) (.iface 95 (.agg #[(I x23.2.2.1), (Sl a31 x23.2.2.2.1 c32), (I x23.2.2.2.2)]))), fun _ => (I r53)] () (by kernel_rfl) (by kernel_rfl) ?_ ?_ ?_
        ·intro σm m0
         exact ⟨H.grow (m0.mono fun _ h => h.elim), m0⟩
        ·refine ac rfl (by
           intro k _nm ρ σm hJ hoff hdep
           have e3 := look_off (N := 37) (hoff 3 rfl) rfl
           exact dp_v (v := (Sl a4 r1.1 c5)) wn (rv_move e3) rfl hJ) ?_
         refine ac rfl (by
           intro k _nm ρ σm hJ hoff hdep
           have e6 := look_off (N := 37) (hoff 6 rfl) rfl
           exact dp_v (v := (I s11.2)) wn (rv_move e6) rfl hJ) ?_
         refine ac rfl (by
           intro k _nm ρ σm hJ hoff hdep
           have e23 := hdep 1 rfl rfl 23 rfl
           exact dp_v (v := (I (w64 (s11.2 + 1)))) wn (rv_add (a := s11.2) (b := 1) e23 rfl) rfl hJ) ?_
         refine ac rfl (by
           intro k _nm ρ σm hJ hoff hdep
           have e22 := hdep 0 rfl rfl 22 rfl
           have e24 := hdep 2 rfl rfl 24 rfl
           exact dp_v (v := (Sl a37 xs35 c38)) wn (rv_slice_l Try.underlying79 ti83 hs39 e22 e24) rfl hJ) ?_
         refine ac rfl (by
           intro k _nm ρ σm hJ hoff hdep
           have e7 := look_off (N := 37) (hoff 7 rfl) rfl
           exact dp_v (v := (ifs2 x23.1 (.iface 91 (.agg #[(I x23.2.1)])) (.iface 95 (.agg #[(I x23.2.2.1), (Sl a31 x23.2.2.2.1 c32), (I x23.2.2.2.2)])))) wn (rv_move e7) rfl hJ) ?_
         refine all_cons (by
           refine ⟨?_, ?_⟩
           ·intro _nm ρ σm hJ hoff hdep
            have e26 := hdep 4 rfl rfl 26 rfl
            obtain ⟨H, m⟩ := id hJ
            refine dp_cx wn (cx_call hc55 ((by exact ent_ix hc55.fn (by kernel_rfl) Try.underlying95 rfl (e26.trans hv52) rfl)) hn0 (show Hp S0 σ0 _ ([Ch.ro 0 (Sl a31 x23.2.2.2.1 c32) x23.2.2.2.1] ++ [Ch.ro 0 (Sl a37 xs35 c38) xs35, Ch.ro 0 (Sl a31 x23.2.2.2.1 c32) x23.2.2.2.1, Ch.ro 0 (Sl a4 r1.1 c5) r1.1, Ch.big K19]) from (H.sel' [1, 0, 1, 2, 3] rfl rfl))) ?_
            rintro _ σq ⟨_, ⟨rfl, rfl⟩, H2, m2⟩
            exact ⟨_, (), rfl, rfl, ⟨H2.sel' [0, 1, 2, 3] rfl rfl, m.comp0 (m2.mono (fun i h => by simp [cov, Ch.ro] at h))⟩, stab [0, 1, 2, 3, 4] (by kernel_rfl) ⟨rfl, rfl, rfl, rfl, rfl, trivial⟩⟩
           trivial) ?_
         exact all_nil
        ·intro _nm ρ σ56 hJ hoff hrel
         have e3 := look_off (N := 37) (hoff 3 rfl) rfl
         have e5 := look_off (N := 37) (hoff 5 rfl) rfl
         have e7 := look_off (N := 37) (hoff 7 rfl) rfl
         have e15 := look_off (N := 37) (hoff 15 rfl) rfl
         have e16 := look_off (N := 37) (hoff 16 rfl) rfl
         have e17 := look_off (N := 37) (hoff 17 rfl) rfl
         have e25 := hrel 3 rfl 25 rfl
         have e27 := hrel 5 rfl 27 rfl
         obtain ⟨H, -⟩ := (show Hp S0 σ0 σ56 [Ch.ro 0 (Sl a37 xs35 c38) xs35, Ch.ro 0 (Sl a31 x23.2.2.2.1 c32) x23.2.2.2.1, Ch.ro 0 (Sl a4 r1.1 c5) r1.1, Ch.big K19] ∧ Md (cov []) σ16 σ56 from hJ)
         clear hJ Hs
         rw [fr_lookL (L := [(3, (Sl a4 r1.1 c5)), (5, (Sl a17 s11.1 c18)), (7, (ifs2 x23.1 (.iface 91 (.agg #[(I x23.2.1)])) (.iface 95 (.agg #[(I x23.2.2.1), (Sl a31 x23.2.2.2.1 c32), (I x23.2.2.2.2)])))), (15, (Sl a4 r1.1 c5)), (16, (I (r1.1.length : Int))), (17, (I s11.2)), (25, (Sl a37 xs35 c38)), (27, (I r53))]) ⟨e3, e5, e7, e15, e16, e17, e25, e27, trivial⟩]
         clear hoff hrel e3 e5 e7 e15 e16 e17 e25 e27
         obtain ⟨r57, hx58, h'⟩ := bind_some h
         clear h
         have h := h'; clear h'
         have hc59 := c_impl_changeKey (achanges_0 := a37) (cchanges_0 := c38) hx58
         refine st_call (cx_call hc59 (ent_f hc59.fn rfl) hn0 (show Hp S0 σ0 _ ([Ch.ro 0 (Sl a37 xs35 c38) xs35] ++ [Ch.ro 0 (Sl a37 xs35 c38) xs35, Ch.ro 0 (Sl a31 x23.2.2.2.1 c32) x23.2.2.2.1, Ch.ro 0 (Sl a4 r1.1 c5) r1.1, Ch.big K19]) from (H.sel' [0, 0, 1, 2, 3] rfl rfl))) wn ?_
         rintro _ σ60 ⟨_, ⟨rfl, rfl⟩, H, -⟩
         replace H : Hp S0 σ0 σ60 [Ch.ro 0 (Sl a37 xs35 c38) xs35, Ch.ro 0 (Sl a31 x23.2.2.2.1 c32) x23.2.2.2.1, Ch.ro 0 (Sl a4 r1.1 c5) r1.1, Ch.big K19] := H
         refine st (v := (B (!r57))) (rv_not rfl) ?_
         refine w_end ?_
         obtain rfl := Option.some.inj h
         exact ⟨rfl, _, σ60, fr_join ⟨rfl, rfl, rfl, rfl, rfl, rfl, rfl, trivial⟩, rfl, H.sel' [2, 3, 1] rfl rfl⟩
       ·replace h := bif_f hb42 h
        cases h
     ·clear hj
      have h := h'
      clear h' H
      rintro e a w ⟨rfl, ρ, σ62, rfl, rfl, H⟩
      refine q_then ?_
      refine cd_cond o34 rfl (fun hb63 => ?_) (fun hb63 => ?_)
      ·replace h := bif_t hb63 h
       refine rg ?_
       refine st (v := (Sl a17 s11.1 c18)) (rv_move rfl) ?_
       refine st (v := (ifs2 x23.1 (.iface 91 (.agg #[(I x23.2.1)])) (.iface 95 (.agg #[(I x23.2.2.1), (Sl a31 x23.2.2.2.1 c32), (I x23.2.2.2.2)])))) (rv_move rfl) ?_
       rcases Bool.eq_false_or_eq_true (x23.1 == 1) with hb64 | hb64
       ·replace h := bif_t hb64 h
        have hv66 : (ifs2 x23.1 (.iface 91 (.agg #[(I x23.2.1)])) (.iface 95 (.agg #[(I x23.2.2.1), (Sl a31 x23.2.2.2.1 c32), (I x23.2.2.2.2)]))) = (.iface 91 (.agg #[(I x23.2.1)]) : Value) := ct hb64
        obtain ⟨r67, hx68, h'⟩ := bind_some h
        clear h
        have h := h'; clear h'
        have hc69 := c_impl_dropChange_entry hx68
        refine st_call (cx_call hc69 ((by exact ent_ix hc69.fn (by kernel_rfl) Try.underlying91 rfl hv66 rfl)) hn0 (show Hp S0 σ0 _ ([] ++ [Ch.ro 0 (Sl a4 r1.1 c5) r1.1, Ch.big K19, Ch.ro 0 (Sl a31 x23.2.2.2.1 c32) x23.2.2.2.1]) from (H.sel' [0, 1, 2] rfl rfl))) wn ?_
        rintro _ σ70 ⟨_, ⟨rfl, rfl⟩, H, -⟩
        replace H : Hp S0 σ0 σ70 [Ch.ro 0 (Sl a4 r1.1 c5) r1.1, Ch.big K19, Ch.ro 0 (Sl a31 x23.2.2.2.1 c32) x23.2.2.2.1] := H
        replace H := H.nilOwn Int n0 n0
        refine st_ex (ex_buildSlice (el := n0) (xs := ([(r67.1, r67.2.1, (Sl none ([] : List Int) 0), r67.2.2.2)] : List (Int × Int × Value × Int))) (ps := [(0, (.agg #[(I r67.1), (I r67.2.1), (Sl none ([] : List Int) 0), (I r67.2.2.2)]))]) (cs := [(I r67.1), (I r67.2.1), (Sl none ([] : List Int) 0), (I r67.2.2.2)]) H hn0 Try.underlying35 ti42 rfl rfl (by kernel_rfl) (.cons (c := [(I r67.1), (I r67.2.1), (Sl none ([] : List Int) 0), (I r67.2.2.2)]) ⟨[(I r67.1)], [(I r67.2.1), (Sl none ([] : List Int) 0), (I r67.2.2.2)], rfl, rfl, ⟨[(I r67.2.1)], [(Sl none ([] : List Int) 0), (I r67.2.2.2)], rfl, rfl, ⟨[(Sl none ([] : List Int) 0)], [(I r67.2.2.2)], rfl, ⟨rfl, rfl⟩, rfl⟩⟩⟩ .nil) rfl) wn ?_
        rintro _ σ72 ⟨b71, rfl, H, -⟩
        replace H := H.sel' [3, 1, 0, 2, 4] rfl rfl
        obtain ⟨xs75, hx76, h'⟩ := bind_some h
        clear h
        have h := h'; clear h'
        refine st_ex (ex_dpApp (e := (r67.1, (r67.2.1, ([] : List Int), r67.2.2.2))) H hK20 Try.underlying35 Try.underlying35 ti42 rfl rfl (by decide) (H.own 2 rfl).rd hx76 hn0 rfl rfl) wn ?_
        rintro _ σ81 ⟨a77, c78, K79, rfl, hK80, H, -⟩
        refine st (v := (Sl a77 xs75 c78)) (rv_assign rfl) ?_
        refine w_end ?_
        refine q_blk ?_
        obtain rfl := Option.some.inj h
        exact ⟨rfl, _, σ81, a77, c78, K79, fr_join ⟨rfl, rfl, rfl, rfl, rfl, trivial⟩, rfl, H.sel' [2, 0] rfl rfl, hK80⟩
       ·replace h := bif_f hb64 h
        rcases Bool.eq_false_or_eq_true (x23.1 == 2) with hb65 | hb65
        ·replace h := bif_t hb65 h
         have hv82 : (ifs2 x23.1 (.iface 91 (.agg #[(I x23.2.1)])) (.iface 95 (.agg #[(I x23.2.2.1), (Sl a31 x23.2.2.2.1 c32), (I x23.2.2.2.2)]))) = (.iface 95 (.agg #[(I x23.2.2.1), (Sl a31 x23.2.2.2.1 c32), (I x23.2.2.2.2)]) : Value) := (cf hb64).trans (ct hb65)
         obtain ⟨r83, hx84, h'⟩ := bind_some h
         clear h
         have h := h'; clear h'
         have hc85 := c_impl_putChange_entry (ac_0_0_1 := a31) (cc_0_0_1 := c32) hx84
         refine st_call (cx_call hc85 ((by exact ent_ix hc85.fn (by kernel_rfl) Try.underlying95 rfl hv82 rfl)) hn0 (show Hp S0 σ0 _ ([Ch.ro 0 (Sl a31 x23.2.2.2.1 c32) x23.2.2.2.1] ++ [Ch.ro 0 (Sl a4 r1.1 c5) r1.1, Ch.big K19, Ch.ro 0 (Sl a31 x23.2.2.2.1 c32) x23.2.2.2.1]) from (H.sel' [2, 0, 1, 2] rfl rfl))) wn ?_
         rintro _ σ88 ⟨_, ⟨a86, c87, rfl, rfl⟩, H, -⟩
         replace H : Hp S0 σ0 σ88 [Ch.own n0 n0 (Sl a86 r83.2.2.1 c87) r83.2.2.1, Ch.ro 0 (Sl a4 r1.1 c5) r1.1, Ch.big K19, Ch.ro 0 (Sl a31 x23.2.2.2.1 c32) x23.2.2.2.1] := H
         refine st_ex (ex_buildSlice (el := n0) (xs := ([(r83.1, r83.2.1, (Sl a86 r83.2.2.1 c87), r83.2.2.2)] : List (Int × Int × Value × Int))) (ps := [(0, (.agg #[(I r83.1), (I r83.2.1), (Sl a86 r83.2.2.1 c87), (I r83.2.2.2)]))]) (cs := [(I r83.1), (I r83.2.1), (Sl a86 r83.2.2.1 c87), (I r83.2.2.2)]) H hn0 Try.underlying35 ti42 rfl rfl (by kernel_rfl) (.cons (c := [(I r83.1), (I r83.2.1), (Sl a86 r83.2.2.1 c87), (I r83.2.2.2)]) ⟨[(I r83.1)], [(I r83.2.1), (Sl a86 r83.2.2.1 c87), (I r83.2.2.2)], rfl, rfl, ⟨[(I r83.2.1)], [(Sl a86 r83.2.2.1 c87), (I r83.2.2.2)], rfl, rfl, ⟨[(Sl a86 r83.2.2.1 c87)], [(I r83.2.2.2)], rfl, ⟨rfl, rfl⟩, rfl⟩⟩⟩ .nil) rfl) wn ?_
         rintro _ σ90 ⟨b89, rfl, H, -⟩
         replace H := H.sel' [3, 1, 0, 2, 4] rfl rfl
         obtain ⟨xs93, hx94, h'⟩ := bind_some h
         clear h
         have h := h'; clear h'
         refine st_ex (ex_dpApp (e := (r83.1, (r83.2.1, r83.2.2.1, r83.2.2.2))) H hK20 Try.underlying35 Try.underlying35 ti42 rfl rfl (by decide) (H.own 2 rfl).rd hx94 hn0 rfl rfl) wn ?_
         rintro _ σ99 ⟨a95, c96, K97, rfl, hK98, H, -⟩
         refine st (v := (Sl a95 xs93 c96)) (rv_assign rfl) ?_
         refine w_end ?_
         refine q_blk ?_
         obtain rfl := Option.some.inj h
         exact ⟨rfl, _, σ99, a95, c96, K97, fr_join ⟨rfl, rfl, rfl, rfl, rfl, trivial⟩, rfl, H.sel' [2, 0] rfl rfl, hK98⟩
        ·replace h := bif_f hb65 h
         cases h
      ·replace h := bif_f hb63 h
       refine c_skip ?_
       refine q_blk ?_
       obtain rfl := Option.some.inj h
       exact ⟨rfl, _, σ62, a17, c18, K19, fr_join ⟨rfl, rfl, rfl, rfl, rfl, trivial⟩, rfl, H.sel' [0, 1] rfl rfl, hK20⟩
    ·clear hj
     have h := h'
     clear h' H
     rintro e a w ⟨rfl, ρ, σ101, a102, c103, K104, rfl, rfl, H, hK105⟩
     refine q_then ?_
     refine rg ?_
     refine st (v := (I (w64 (s11.2 + 1)))) (rv_add (a := s11.2) (b := 1) rfl rfl) ?_
     refine st (v := (I (w64 (s11.2 + 1)))) (rv_move rfl) ?_
     refine w_end ?_
     refine q_then ?_
     obtain rfl := Option.some.inj h
     exact ⟨_, rfl, _, σ101, a102, c103, K104, fr_join ⟨rfl, rfl, rfl, rfl, rfl, trivial⟩, rfl, H.sel' [0, 1] rfl rfl, hK105⟩
   ·replace h := bif_f hb21 h
    refine c_exit ?_
    refine q_then_x ?_
    refine q_then_x ?_
    refine q_blk_hit ?_
    obtain rfl := Option.some.inj h
    obtain rfl := hres _ rfl
    exact ⟨rfl, _, σ16, a17, c18, K19, fr_join ⟨rfl, trivial⟩, rfl, H.sel' [1] rfl rfl, hK20⟩
  ·clear hj
   have h := h'
   clear h' H
   rintro e a w ⟨rfl, ρ, σ106, a107, c108, K109, rfl, rfl, H, hK110⟩
   refine q_then ?_
   refine c_seq ?_
   refine rg ?_
   refine st (v := (Sl a107 o10 c108)) (rv_move rfl) ?_
   refine st (v := (Sl a107 o10 c108)) (rv_assign rfl) ?_
   refine w_end ?_
   refine q_then ?_
   refine c_ret ?_
   obtain ⟨K111, hK112, H⟩ := H.dpLow (lo' := 0) 0 rfl hK110 (Nat.zero_le _)
   obtain rfl := Option.some.inj h
   exact fin_ret (v := (Sl a107 o10 c108)) (results_ok Try.results45 (res_tmp (v := (Sl a107 o10 c108)) rfl res_nil) rfl) ⟨a107, c108, K111, rfl, rfl, hK112⟩ (H.sel' [0] rfl rfl)

theorem c_laws_heldIntS {a_0 : List Int} {k_1 : Int} {aa_0 : Option Addr} {ca_0 : Nat} {r : Int} (h : M.laws_heldIntS a_0 k_1 = some r) :
    Cal2 Try.prog 83 [(Sl aa_0 a_0 ca_0), (I k_1)] [Ch.ro 0 (Sl aa_0 a_0 ca_0) a_0] (fun n0 v L => v = (I r) ∧ L = []) := by
 refine cal2 (n := 21) Try.func83 rfl rfl rfl rfl ?_
 intro S0 σ0 n0 hn0 H
 unfold M.laws_heldIntS at h
 refine c_seq ?_
 refine rg ?_
 refine st (v := (I 0)) (rv_assign rfl) ?_
 refine w_end ?_
 refine q_then ?_
 refine c_seq ?_
 refine c_seq ?_
 refine rg ?_
 refine st (v := (I 0)) (rv_assign rfl) ?_
 refine w_end ?_
 refine q_then ?_
 obtain ⟨o1, hj, h'⟩ := bind_some h
 clear h
 refine c_cut (fun e a w => (∃ t, o1 = (.inl t) ∧ e = .normal ∧ ∃ (ρ : Nat → Value) (σ : St), a = fr 21 (updL ρ [(1, (I t))]) ∧ w = σ.w ∧ Hp S0 σ0 σ []) ∨ (∃ t, o1 = (.inr t) ∧ e = .ret ∧ ∃ (ρ : Nat → Value) (σ : St), a = fr 21 (updL ρ [(4, (I t))]) ∧ w = σ.w ∧ Hp S0 σ0 σ [])) ?_ ?_
 ·clear h'
  rename _ = some o1 => h
  refine c_blk ?_
  refine wp_loopM _ h (fun s2 a w => ∃ (ρ : Nat → Value) (σ : St), a = fr 21 (updL ρ [(0, (Sl aa_0 a_0 ca_0)), (1, (I s2.1)), (5, (I s2.2))]) ∧ w = σ.w ∧ Hp S0 σ0 σ [Ch.ro 0 (Sl aa_0 a_0 ca_0) a_0]) ⟨_, σ0, fr_join ⟨rfl, rfl, rfl, trivial⟩, rfl, H.sel' [0] rfl rfl⟩ ?_
  clear h H
  rintro s2 a w o ⟨ρ, σ3, rfl, rfl, H⟩ h hres
  refine c_seq ?_
  refine c_seq ?_
  refine rg ?_
  refine st (v := (I s2.2)) (rv_move rfl) ?_
  refine st (v := (Sl aa_0 a_0 ca_0)) (rv_move rfl) ?_
  refine st (v := (I (a_0.length : Int))) (rv_len Try.underlying26 rfl) ?_
  refine st (v := (B (decide (s2.2 < (a_0.length : Int))))) (rv_lss (a := s2.2) (b := (a_0.length : Int)) rfl rfl) ?_
  refine w_end ?_
  refine q_then ?_
  refine cd_cond (decide (s2.2 < (a_0.length : Int))) rfl (fun hb4 => ?_) (fun hb4 => ?_)
  ·replace h := bif_t hb4 h
   refine c_skip ?_
   refine q_then ?_
   refine c_seq ?_
   refine c_blk ?_
   refine c_seq ?_
   refine c_seq ?_
   refine rg ?_
   refine st (v := (Sl aa_0 a_0 ca_0)) (rv_move rfl) ?_
   refine st (v := (I s2.2)) (rv_move rfl) ?_
   obtain ⟨x5, hx6, h'⟩ := bind_some h
   clear h
   have h := h'; clear h'
   obtain ⟨b8, o9, hi7, -⟩ := (H.ro 0 rfl).ix hx6
   refine st (v := (pt b8 o9)) (rv_ix Try.underlying26 ti3 rfl rfl hi7) ?_
   have hc10 := ((H.ro 0 rfl).at hx6 hi7).int
   refine st (v := (I x5)) (rv_load1 Try.underlying3 rfl rfl hc10) ?_
   refine st (v := (I s2.1)) (rv_move rfl) ?_
   refine st (v := (B (x5 != s2.1))) (rv_neq (a := x5) (b := s2.1) rfl rfl) ?_
   refine w_end ?_
   refine q_then ?_
   refine cd_cond (x5 != s2.1) rfl (fun hb11 => ?_) (fun hb11 => ?_)
   ·replace h := bif_t hb11 h
    refine c_seq ?_
    refine rg ?_
    refine st (v := (I (-1))) (rv_assign rfl) ?_
    refine w_end ?_
    refine q_then ?_
    refine c_ret ?_
    refine q_then_r ?_
    refine q_blk_r ?_
    refine q_then_r ?_
    refine q_then_r ?_
    refine q_blk_r ?_
    obtain rfl := Option.some.inj h
    obtain rfl := hres _ rfl
    exact .inr (⟨_, rfl, rfl, _, σ3, fr_join ⟨rfl, trivial⟩, rfl, H.sel' [] rfl rfl⟩)
   ·replace h := bif_f hb11 h
    refine c_skip ?_
    refine q_then ?_
    refine rg ?_
    refine st (v := (I s2.1)) (rv_move rfl) ?_
    refine st (v := (I (w64 (s2.1 + 1)))) (rv_add (a := s2.1) (b := 1) rfl rfl) ?_
    refine st (v := (I (w64 (s2.1 + 1)))) (rv_assign rfl) ?_
    refine w_end ?_
    refine q_blk ?_
    refine q_then ?_
    refine rg ?_
    refine st (v := (I s2.2)) (rv_move rfl) ?_
    refine st (v := (I (w64 (s2.2 + 1)))) (rv_add (a := s2.2) (b := 1) rfl rfl) ?_
    refine st (v := (I (w64 (s2.2 + 1)))) (rv_assign rfl) ?_
    refine w_end ?_
    refine q_then ?_
    obtain rfl := Option.some.inj h
    exact ⟨_, rfl, _, σ3, fr_join ⟨rfl, rfl, rfl, trivial⟩, rfl, H.sel' [0] rfl rfl⟩
  ·replace h := bif_f hb4 h
   refine c_exit ?_
   refine q_then_x ?_
   refine q_then_x ?_
   refine q_blk_hit ?_
   obtain rfl := Option.some.inj h
   obtain rfl := hres _ rfl
   exact .inl ⟨_, rfl, rfl, _, σ3, fr_join ⟨rfl, trivial⟩, rfl, H.sel' [] rfl rfl⟩
 ·clear hj
  have h := h'
  clear h' H
  rintro e a w (⟨t12, rfl, rfl, ρ, σ13, rfl, rfl, H⟩ | ⟨t14, rfl, rfl, ρ, σ15, rfl, rfl, H⟩)
  ·replace h := selim_l h
   refine q_then ?_
   refine c_seq ?_
   refine rg ?_
   refine st (v := (I t12)) (rv_move rfl) ?_
   refine st (v := (I t12)) (rv_assign rfl) ?_
   refine w_end ?_
   refine q_then ?_
   refine c_ret ?_
   obtain rfl := Option.some.inj h
   exact fin_ret (v := (I t12)) (results_ok Try.results83 (res_tmp (v := (I t12)) rfl res_nil) rfl) ⟨rfl, rfl⟩ (H.sel' [] rfl rfl)
  ·replace h := selim_r h
   refine q_then_r ?_
   obtain rfl := Option.some.inj h
   exact fin_ret (v := (I t14)) (results_ok Try.results83 (res_tmp (v := (I t14)) rfl res_nil) rfl) ⟨rfl, rfl⟩ (H.sel' [] rfl rfl)

theorem c_laws_heldEntryS {a_0 : List (Int × (Int × (List Int) × Int))} {k_1 : Int} {aa_0 : Option Addr} {ca_0 : Nat} {r : Int} (h : M.laws_heldEntryS a_0 k_1 = some r) :
    Cal2 Try.prog 46 [(Sl aa_0 a_0 ca_0), (I k_1)] [Ch.ro 0 (Sl aa_0 a_0 ca_0) a_0] (fun n0 v L => v = (I r) ∧ L = []) := by
 refine cal2 (n := 52) Try.func46 rfl rfl rfl rfl ?_
 intro S0 σ0 n0 hn0 H
 unfold M.laws_heldEntryS at h
 refine c_seq ?_
 refine rg ?_
 refine st (v := (I 0)) (rv_assign rfl) ?_
 refine w_end ?_
 refine q_then ?_
 refine c_seq ?_
 refine c_seq ?_
 refine rg ?_
 refine st (v := (I 0)) (rv_assign rfl) ?_
 refine w_end ?_
 refine q_then ?_
 obtain ⟨o1, hj, h'⟩ := bind_some h
 clear h
 refine c_cut (fun e a w => (∃ t, o1 = (.inl t) ∧ e = .normal ∧ ∃ (ρ : Nat → Value) (σ : St), a = fr 52 (updL ρ [(1, (I t))]) ∧ w = σ.w ∧ Hp S0 σ0 σ []) ∨ (∃ t, o1 = (.inr t) ∧ e = .ret ∧ ∃ (ρ : Nat → Value) (σ : St), a = fr 52 (updL ρ [(4, (I t))]) ∧ w = σ.w ∧ Hp S0 σ0 σ [])) ?_ ?_
 ·clear h'
  rename _ = some o1 => h
  refine c_blk ?_
  refine wp_loopM _ h (fun s2 a w => ∃ (ρ : Nat → Value) (σ : St), a = fr 52 (updL ρ [(0, (Sl aa_0 a_0 ca_0)), (1, (I s2.1)), (5, (I s2.2))]) ∧ w = σ.w ∧ Hp S0 σ0 σ [Ch.ro 0 (Sl aa_0 a_0 ca_0) a_0]) ⟨_, σ0, fr_join ⟨rfl, rfl, rfl, trivial⟩, rfl, H.sel' [0] rfl rfl⟩ ?_
  clear h H
  rintro s2 a w o ⟨ρ, σ3, rfl, rfl, H⟩ h hres
  refine c_seq ?_
  refine c_seq ?_
  refine rg ?_
  refine st (v := (I s2.2)) (rv_move rfl) ?_
  refine st (v := (Sl aa_0 a_0 ca_0)) (rv_move rfl) ?_
  refine st (v := (I (a_0.length : Int))) (rv_len Try.underlying35 rfl) ?_
  refine st (v := (B (decide (s2.2 < (a_0.length : Int))))) (rv_lss (a := s2.2) (b := (a_0.length : Int)) rfl rfl) ?_
  refine w_end ?_
  refine q_then ?_
  refine cd_cond (decide (s2.2 < (a_0.length : Int))) rfl (fun hb4 => ?_) (fun hb4 => ?_)
  ·replace h := bif_t hb4 h
   refine c_skip ?_
   refine q_then ?_
   refine c_seq ?_
   refine c_blk ?_
   refine c_seq ?_
   refine c_seq ?_
   refine rg ?_
   refine st (v := (Sl aa_0 a_0 ca_0)) (rv_move rfl) ?_
   refine st (v := (I s2.2)) (rv_move rfl) ?_
   obtain ⟨x5, hx6, h'⟩ := bind_some h
   clear h
   have h := h'; clear h'
   obtain ⟨b8, o9, hi7, -⟩ := (H.ro 0 rfl).ix hx6
   refine st (v := (pt b8 o9)) (rv_ix Try.underlying35 ti42 rfl rfl hi7) ?_
   refine st (v := (pt b8 (o9 + 0))) (rv_fieldAddr (off := 0) (ft := 3) Try.underlying42 rfl ti3 rfl rfl) ?_
   have hc10 := ((H.ro 0 rfl).at hx6 hi7).fst.int
   refine st (v := (I x5.1)) (rv_load1 Try.underlying3 rfl rfl hc10) ?_
   refine st (v := (I s2.1)) (rv_move rfl) ?_
   refine st (v := (B (x5.1 != s2.1))) (rv_neq (a := x5.1) (b := s2.1) rfl rfl) ?_
   refine w_end ?_
   refine q_then ?_
   refine cd_cond (x5.1 != s2.1) rfl (fun hb11 => ?_) (fun hb11 => ?_)
   ·replace h := bif_t hb11 h
    refine c_seq ?_
    refine rg ?_
    refine st (v := (I (-1))) (rv_assign rfl) ?_
    refine w_end ?_
    refine q_then ?_
    refine c_ret ?_
    refine q_then_r ?_
    refine q_blk_r ?_
    refine q_then_r ?_
    refine q_then_r ?_
    refine q_blk_r ?_
    obtain rfl := Option.some.inj h
    obtain rfl := hres _ rfl
    exact .inr (⟨_, rfl, rfl, _, σ3, fr_join ⟨rfl, trivial⟩, rfl, H.sel' [] rfl rfl⟩)
   ·replace h := bif_f hb11 h
    refine c_skip ?_
    refine q_then ?_
    refine c_seq ?_
    refine rg ?_
    refine st (v := (I s2.1)) (rv_move rfl) ?_
    refine st (v := (I (w64 (s2.1 + 1)))) (rv_add (a := s2.1) (b := 1) rfl rfl) ?_
    refine st (v := (I (w64 (s2.1 + 1)))) (rv_assign rfl) ?_
    refine w_end ?_
    refine q_then ?_
    refine c_seq ?_
    refine c_seq ?_
    refine rg ?_
    refine st (v := (Sl aa_0 a_0 ca_0)) (rv_move rfl) ?_
    refine st (v := (I s2.2)) (rv_move rfl) ?_
    obtain ⟨x12, hx13, h'⟩ := bind_some h
    clear h
    have h := h'; clear h'
    obtain ⟨b15, o16, hi14, -⟩ := (H.ro 0 rfl).ix hx13
    refine st (v := (pt b15 o16)) (rv_ix Try.underlying35 ti42 rfl rfl hi14) ?_
    refine st (v := (pt b15 (o16 + 1))) (rv_fieldAddr (off := 1) (ft := 32) Try.underlying42 rfl ti32 rfl rfl) ?_
    refine st (v := (pt b15 (o16 + 1))) (rv_fieldAddr (off := 0) (ft := 3) Try.underlying32 rfl ti3 rfl rfl) ?_
    have hc17 := ((H.ro 0 rfl).at hx13 hi14).snd.fst.int
    refine st (v := (I x12.2.1)) (rv_load1 Try.underlying3 rfl rfl hc17) ?_
    refine st (v := (I (w64 (s2.1 + 1)))) (rv_move rfl) ?_
    refine st (v := (B (x12.2.1 != (w64 (s2.1 + 1))))) (rv_neq (a := x12.2.1) (b := (w64 (s2.1 + 1))) rfl rfl) ?_
    refine w_end ?_
    refine q_then ?_
    refine cd_cond (x12.2.1 != (w64 (s2.1 + 1))) rfl (fun hb18 => ?_) (fun hb18 => ?_)
    ·replace h := bif_t hb18 h
     refine c_seq ?_
     refine rg ?_
     refine st (v := (I (-1))) (rv_assign rfl) ?_
     refine w_end ?_
     refine q_then ?_
     refine c_ret ?_
     refine q_then_r ?_
     refine q_blk_r ?_
     refine q_then_r ?_
     refine q_then_r ?_
     refine q_blk_r ?_
     obtain rfl := Option.some.inj h
     obtain rfl := hres _ rfl
     exact .inr (⟨_, rfl, rfl, _, σ3, fr_join ⟨rfl, trivial⟩, rfl, H.sel' [] rfl rfl⟩)
    ·replace h := bif_f hb18 h
     refine c_skip ?_
     refine q_then ?_
     refine c_seq ?_
     refine rg ?_
     refine st (v := (I (w64 (s2.1 + 1)))) (rv_move rfl) ?_
     refine st (v := (I (w64 ((w64 (s2.1 + 1)) + 1)))) (rv_add (a := (w64 (s2.1 + 1))) (b := 1) rfl rfl) ?_
     refine st (v := (I (w64 ((w64 (s2.1 + 1)) + 1)))) (rv_assign rfl) ?_
     refine w_end ?_
     refine q_then ?_
     refine c_seq ?_
     refine rg ?_
     refine st (v := (Sl aa_0 a_0 ca_0)) (rv_move rfl) ?_
     refine st (v := (I s2.2)) (rv_move rfl) ?_
     obtain ⟨x19, hx20, h'⟩ := bind_some h
     clear h
     have h := h'; clear h'
     obtain ⟨b22, o23, hi21, -⟩ := (H.ro 0 rfl).ix hx20
     refine st (v := (pt b22 o23)) (rv_ix Try.underlying35 ti42 rfl rfl hi21) ?_
     refine st (v := (pt b22 (o23 + 1))) (rv_fieldAddr (off := 1) (ft := 32) Try.underlying42 rfl ti32 rfl rfl) ?_
     refine st (v := (pt b22 (o23 + 2))) (rv_fieldAddr (off := 1) (ft := 26) Try.underlying32 rfl ti26 rfl rfl) ?_
     obtain ⟨v27, hc28, hR26⟩ := ((H.ro 0 rfl).at hx20 hi21).snd.snd.fst.slice
     obtain ⟨a24, c25, rfl⟩ := hR26.isSl
     replace H := H.add (d := Ch.ro 0 (Sl a24 x19.2.2.1 c25) x19.2.2.1) hR26 (fun _ h => h)
     clear hR26
     refine st (v := (Sl a24 x19.2.2.1 c25)) (rv_load1 Try.underlying26 rfl rfl hc28) ?_
     refine st (v := (I (w64 ((w64 (s2.1 + 1)) + 1)))) (rv_move rfl) ?_
     obtain ⟨r29, hx30, h'⟩ := bind_some h
     clear h
     have h := h'; clear h'
     have hc31 := c_laws_heldIntS (aa_0 := a24) (ca_0 := c25) hx30
     refine st_call (cx_call hc31 (ent_f hc31.fn rfl) hn0 (show Hp S0 σ0 _ ([Ch.ro 0 (Sl a24 x19.2.2.1 c25) x19.2.2.1] ++ [Ch.ro 0 (Sl a24 x19.2.2.1 c25) x19.2.2.1, Ch.ro 0 (Sl aa_0 a_0 ca_0) a_0]) from (H.sel' [0, 0, 1] rfl rfl))) wn ?_
     rintro _ σ32 ⟨_, ⟨rfl, rfl⟩, H, -⟩
     replace H : Hp S0 σ0 σ32 [Ch.ro 0 (Sl a24 x19.2.2.1 c25) x19.2.2.1, Ch.ro 0 (Sl aa_0 a_0 ca_0) a_0] := H
     refine st (v := (I r29)) (rv_assign rfl) ?_
     refine w_end ?_
     refine q_then ?_
     refine c_seq ?_
     refine c_seq ?_
     refine rg ?_
     refine st (v := (I r29)) (rv_move rfl) ?_
     refine st (v := (B (decide (r29 < 0)))) (rv_lss (a := r29) (b := 0) rfl rfl) ?_
     refine w_end ?_
     refine q_then ?_
     refine cd_cond (decide (r29 < 0)) rfl (fun hb33 => ?_) (fun hb33 => ?_)
     ·replace h := bif_t hb33 h
      refine c_seq ?_
      refine rg ?_
      refine st (v := (I (-1))) (rv_assign rfl) ?_
      refine w_end ?_
      refine q_then ?_
      refine c_ret ?_
      refine q_then_r ?_
      refine q_blk_r ?_
      refine q_then_r ?_
      refine q_then_r ?_
      refine q_blk_r ?_
      obtain rfl := Option.some.inj h
      obtain rfl := hres _ rfl
      exact .inr (⟨_, rfl, rfl, _, σ32, fr_join ⟨rfl, trivial⟩, rfl, H.sel' [] rfl rfl⟩)
     ·replace h := bif_f hb33 h
      refine c_skip ?_
      refine q_then ?_
      refine c_seq ?_
      refine c_seq ?_
      refine rg ?_
      refine st (v := (Sl aa_0 a_0 ca_0)) (rv_move rfl) ?_
      refine st (v := (I s2.2)) (rv_move rfl) ?_
      obtain ⟨x34, hx35, h'⟩ := bind_some h
      clear h
      have h := h'; clear h'
      obtain ⟨b37, o38, hi36, -⟩ := (H.ro 1 rfl).ix hx35
      refine st (v := (pt b37 o38)) (rv_ix Try.underlying35 ti42 rfl rfl hi36) ?_
      refine st (v := (pt b37 (o38 + 1))) (rv_fieldAddr (off := 1) (ft := 32) Try.underlying42 rfl ti32 rfl rfl) ?_
      refine st (v := (pt b37 (o38 + 3))) (rv_fieldAddr (off := 2) (ft := 3) Try.underlying32 rfl ti3 rfl rfl) ?_
      have hc39 := ((H.ro 1 rfl).at hx35 hi36).snd.snd.snd.int
      refine st (v := (I x34.2.2.2)) (rv_load1 Try.underlying3 rfl rfl hc39) ?_
      refine st (v := (I r29)) (rv_move rfl) ?_
      refine st (v := (B (x34.2.2.2 != r29))) (rv_neq (a := x34.2.2.2) (b := r29) rfl rfl) ?_
      refine w_end ?_
      refine q_then ?_
      refine cd_cond (x34.2.2.2 != r29) rfl (fun hb40 => ?_) (fun hb40 => ?_)
      ·replace h := bif_t hb40 h
       refine c_seq ?_
       refine rg ?_
       refine st (v := (I (-1))) (rv_assign rfl) ?_
       refine w_end ?_
       refine q_then ?_
       refine c_ret ?_
       refine q_then_r ?_
       refine q_blk_r ?_
       refine q_then_r ?_
       refine q_then_r ?_
       refine q_blk_r ?_
       obtain rfl := Option.some.inj h
       obtain rfl := hres _ rfl
       exact .inr (⟨_, rfl, rfl, _, σ32, fr_join ⟨rfl, trivial⟩, rfl, H.sel' [] rfl rfl⟩)
      ·replace h := bif_f hb40 h
       refine c_skip ?_
       refine q_then ?_
       refine rg ?_
       refine st (v := (I r29)) (rv_move rfl) ?_
       refine st (v := (I (w64 (r29 + 1)))) (rv_add (a := r29) (b := 1) rfl rfl) ?_
       refine st (v := (I (w64 (r29 + 1)))) (rv_assign rfl) ?_
       refine w_end ?_
       refine q_blk ?_
       refine q_then ?_
       refine rg ?_
       refine st (v := (I s2.2)) (rv_move rfl) ?_
       refine st (v := (I (w64 (s2.2 + 1)))) (rv_add (a := s2.2) (b := 1) rfl rfl) ?_
       refine st (v := (I (w64 (s2.2 + 1)))) (rv_assign rfl) ?_
       refine w_end ?_
       refine q_then ?_
       obtain rfl := Option.some.inj h
       exact ⟨_, rfl, _, σ32, fr_join ⟨rfl, rfl, rfl, trivial⟩, rfl, H.sel' [1] rfl rfl⟩
  ·replace h := bif_f hb4 h
   refine c_exit ?_
   refine q_then_x ?_
   refine q_then_x ?_
   refine q_blk_hit ?_
   obtain rfl := Option.some.inj h
   obtain rfl := hres _ rfl
   exact .inl ⟨_, rfl, rfl, _, σ3, fr_join ⟨rfl, trivial⟩, rfl, H.sel' [] rfl rfl⟩
 ·clear hj
  have h := h'
  clear h' H
  rintro e a w (⟨t41, rfl, rfl, ρ, σ42, rfl, rfl, H⟩ | ⟨t43, rfl, rfl, ρ, σ44, rfl, rfl, H⟩)
  ·replace h := selim_l h
   refine q_then ?_
   refine c_seq ?_
   refine rg ?_
   refine st (v := (I t41)) (rv_move rfl) ?_
   refine st (v := (I t41)) (rv_assign rfl) ?_
   refine w_end ?_
   refine q_then ?_
   refine c_ret ?_
   obtain rfl := Option.some.inj h
   exact fin_ret (v := (I t41)) (results_ok Try.results46 (res_tmp (v := (I t41)) rfl res_nil) rfl) ⟨rfl, rfl⟩ (H.sel' [] rfl rfl)
  ·replace h := selim_r h
   refine q_then_r ?_
   obtain rfl := Option.some.inj h
   exact fin_ret (v := (I t43)) (results_ok Try.results46 (res_tmp (v := (I t43)) rfl res_nil) rfl) ⟨rfl, rfl⟩ (H.sel' [] rfl rfl)

theorem c_laws_FnExactShortLog {aLog_0 : List (Int × (Int × (List Int) × Int))} {aaLog_0 : Option Addr} {caLog_0 : Nat} {r : Bool} (h : M.laws_FnExactShortLog aLog_0 = some r) :
    Cal2 Try.prog 10 [(Sl aaLog_0 aLog_0 caLog_0)] [Ch.ro 0 (Sl aaLog_0 aLog_0 caLog_0) aLog_0] (fun n0 v L => v = (B r) ∧ L = []) := by
 refine cal2 (n := 69) Try.func10 rfl rfl rfl rfl ?_
 intro S0 σ0 n0 hn0 H
 unfold M.laws_FnExactShortLog at h
 refine c_seq ?_
 refine rg ?_
 refine st (v := (B false)) (rv_assign rfl) ?_
 refine w_end ?_
 refine q_then ?_
 refine c_seq ?_
 refine rg ?_
 refine st (v := (I 1048576)) (rv_assign rfl) ?_
 refine w_end ?_
 refine q_then ?_
 refine c_seq ?_
 refine rg ?_
 refine st (v := (Sl aaLog_0 aLog_0 caLog_0)) (rv_move rfl) ?_
 refine st (v := (I 1048576)) (rv_move rfl) ?_
 obtain ⟨r1, hx2, h'⟩ := bind_some h
 clear h
 have h := h'; clear h'
 have hc3 := c_laws_szEntryS (aa_0 := aaLog_0) (ca_0 := caLog_0) hx2
 refine st_call (cx_call hc3 (ent_f hc3.fn rfl) hn0 (show Hp S0 σ0 _ ([Ch.ro 0 (Sl aaLog_0 aLog_0 caLog_0) aLog_0] ++ [Ch.ro 0 (Sl aaLog_0 aLog_0 caLog_0) aLog_0]) from (H.sel' [0, 0] rfl rfl))) wn ?_
 rintro _ σ4 ⟨_, ⟨rfl, rfl⟩, H, -⟩
 replace H : Hp S0 σ0 σ4 [Ch.ro 0 (Sl aaLog_0 aLog_0 caLog_0) aLog_0] := H
 refine st (v := (I r1)) (rv_assign rfl) ?_
 refine w_end ?_
 refine q_then ?_
 refine c_seq ?_
 refine c_seq ?_
 refine rg ?_
 refine st (v := (I r1)) (rv_move rfl) ?_
 refine st (v := (B (decide (r1 < 0)))) (rv_lss (a := r1) (b := 0) rfl rfl) ?_
 refine w_end ?_
 refine q_then ?_
 refine cd_cond (decide (r1 < 0)) rfl (fun hb5 => ?_) (fun hb5 => ?_)
 ·replace h := bif_t hb5 h
  refine c_seq ?_
  refine rg ?_
  refine st (v := (B true)) (rv_assign rfl) ?_
  refine w_end ?_
  refine q_then ?_
  refine c_ret ?_
  refine q_then_r ?_
  obtain rfl := Option.some.inj h
  exact fin_ret (v := (B true)) (results_ok Try.results10 (res_tmp (v := (B true)) rfl res_nil) rfl) ⟨rfl, rfl⟩ (H.sel' [] rfl rfl)
 ·replace h := bif_f hb5 h
  refine c_skip ?_
  refine q_then ?_
  refine c_seq ?_
  refine rg ?_
  refine st (v := (Sl aaLog_0 aLog_0 caLog_0)) (rv_move rfl) ?_
  obtain ⟨r6, hx7, h'⟩ := bind_some h
  clear h
  have h := h'; clear h'
  have hc8 := c_laws_toEntryS (aa_0 := aaLog_0) (ca_0 := caLog_0) hx7
  refine st_call (cx_call hc8 (ent_f hc8.fn rfl) hn0 (show Hp S0 σ0 _ ([Ch.ro 0 (Sl aaLog_0 aLog_0 caLog_0) aLog_0] ++ [Ch.ro 0 (Sl aaLog_0 aLog_0 caLog_0) aLog_0]) from (H.sel' [0, 0] rfl rfl))) wn ?_
  rintro _ σ13 ⟨_, ⟨a9, c10, K11, rfl, rfl, hK12⟩, H, -⟩
  replace H : Hp S0 σ0 σ13 [Ch.big K11, Ch.ro 0 (Sl aaLog_0 aLog_0 caLog_0) aLog_0] := H
  obtain ⟨r14, hx15, h'⟩ := bind_some h
  clear h
  have h := h'; clear h'
  have hc16 := c_spec_ShortLog (alog_0 := a9) (clog_0 := c10) hx15
  have hle := Nat.le_trans hn0 H.size
  refine st_call (cx_lend (Loan.lendB hK12.lends Loan.nil) hc16 (ent_f hc16.fn rfl) (show Hp S0 σ0 _ ([Ch.big K11] ++ ([] ++ [Ch.ro 0 (Sl aaLog_0 aLog_0 caLog_0) aLog_0])) from (H.sel' [0, 1] rfl rfl)) (by rintro _ _ _ ⟨_, _, rfl, rfl⟩; exact ⟨Ab.own (Nat.le_refl _), trivial⟩)) wn ?_
  rintro _ σ19 ⟨_, ⟨a17, c18, rfl, rfl⟩, H, -, -⟩
  replace H : Hp S0 σ0 σ19 [Ch.own σ13.size σ13.size (Sl a17 r14 c18) r14, Ch.big K11, Ch.ro 0 (Sl aaLog_0 aLog_0 caLog_0) aLog_0] := H
  replace H := H.ownLow 0 n0 n0 rfl hle hle
  clear hle
  replace H : Hp S0 σ0 σ19 [Ch.own n0 n0 (Sl a17 r14 c18) r14, Ch.big K11, Ch.ro 0 (Sl aaLog_0 aLog_0 caLog_0) aLog_0] := H
  refine st (v := (Sl a17 r14 c18)) (rv_assign rfl) ?_
  refine w_end ?_
  refine q_then ?_
  refine c_seq ?_
  refine rg ?_
  refine st (v := (Sl aaLog_0 aLog_0 caLog_0)) (rv_move rfl) ?_
  obtain ⟨r20, hx21, h'⟩ := bind_some h
  clear h
  have h := h'; clear h'
  have hc22 := c_laws_toEntryS (aa_0 := aaLog_0) (ca_0 := caLog_0) hx21
  refine st_call (cx_call hc22 (ent_f hc22.fn rfl) hn0 (show Hp S0 σ0 _ ([Ch.ro 0 (Sl aaLog_0 aLog_0 caLog_0) aLog_0] ++ [Ch.own n0 n0 (Sl a17 r14 c18) r14, Ch.big K11, Ch.ro 0 (Sl aaLog_0 aLog_0 caLog_0) aLog_0]) from (H.sel' [2, 0, 1, 2] rfl rfl))) wn ?_
  rintro _ σ27 ⟨_, ⟨a23, c24, K25, rfl, rfl, hK26⟩, H, -⟩
  replace H : Hp S0 σ0 σ27 [Ch.big K25, Ch.own n0 n0 (Sl a17 r14 c18) r14, Ch.big K11, Ch.ro 0 (Sl aaLog_0 aLog_0 caLog_0) aLog_0] := H
  refine st (v := (Sl a23 r20 c24)) (rv_assign rfl) ?_
  refine w_end ?_
  refine q_then ?_
  refine c_seq ?_
  refine rg ?_
  refine st (v := (Sl a23 r20 c24)) (rv_move rfl) ?_
  obtain ⟨r28, hx29, h'⟩ := bind_some h
  clear h
  have h := h'; clear h'
  have hc30 := c_impl_ShortLog (alog_0 := a23) (clog_0 := c24) hx29
  have hle := Nat.le_trans hn0 H.size
  refine st_call (cx_lend (Loan.lendB hK26.lends Loan.nil) hc30 (ent_f hc30.fn rfl) (show Hp S0 σ0 _ ([Ch.big K25] ++ ([] ++ [Ch.own n0 n0 (Sl a17 r14 c18) r14, Ch.big K11, Ch.ro 0 (Sl aaLog_0 aLog_0 caLog_0) aLog_0])) from (H.sel' [0, 1, 2, 3] rfl rfl)) (by rintro _ _ _ ⟨_, _, _, rfl, rfl, hK34⟩; exact ⟨Dp.abSc hK34, trivial⟩)) wn ?_
  rintro _ σ35 ⟨_, ⟨a31, c32, K33, rfl, rfl, hK34⟩, H, -, -⟩
  replace H : Hp S0 σ0 σ35 [Ch.big K33, Ch.big K25, Ch.own n0 n0 (Sl a17 r14 c18) r14, Ch.big K11, Ch.ro 0 (Sl aaLog_0 aLog_0 caLog_0) aLog_0] := H
  clear hle
  replace H : Hp S0 σ0 σ35 [Ch.big K33, Ch.big K25, Ch.own n0 n0 (Sl a17 r14 c18) r14, Ch.big K11, Ch.ro 0 (Sl aaLog_0 aLog_0 caLog_0) aLog_0] := H
  refine st (v := (Sl a31 r28 c32)) (rv_assign rfl) ?_
  refine w_end ?_
  refine q_then ?_
  refine c_seq ?_
  refine c_seq ?_
  refine rg ?_
  refine st (v := (Sl a31 r28 c32)) (rv_move rfl) ?_
  refine st (v := (Sl a17 r14 c18)) (rv_move rfl) ?_
  obtain ⟨r36, hx37, h'⟩ := bind_some h
  clear h
  have h := h'; clear h'
  have hc38 := c_laws_eqEntryS (aa_0 := a31) (ca_0 := c32) (ab_1 := a17) (cb_1 := c18) hx37
  have hle := Nat.le_trans hn0 H.size
  refine st_call (cx_lend (Loan.lendB hK34.lends (Loan.lend Loan.nil)) hc38 (ent_f hc38.fn rfl) (show Hp S0 σ0 _ ([Ch.big K33, Ch.own n0 n0 (Sl a17 r14 c18) r14] ++ ([] ++ [Ch.big K25, Ch.big K11, Ch.ro 0 (Sl aaLog_0 aLog_0 caLog_0) aLog_0])) from (H.sel' [0, 2, 1, 3, 4] rfl rfl)) (by rintro _ _ _ ⟨rfl, rfl⟩; exact trivial)) wn ?_
  rintro _ σ39 ⟨_, ⟨rfl, rfl⟩, H, -, -⟩
  replace H : Hp S0 σ0 σ39 [Ch.big K33, Ch.own n0 n0 (Sl a17 r14 c18) r14, Ch.big K25, Ch.big K11, Ch.ro 0 (Sl aaLog_0 aLog_0 caLog_0) aLog_0] := H
  clear hle
  replace H : Hp S0 σ0 σ39 [Ch.big K33, Ch.own n0 n0 (Sl a17 r14 c18) r14, Ch.big K25, Ch.big K11, Ch.ro 0 (Sl aaLog_0 aLog_0 caLog_0) aLog_0] := H
  refine st (v := (B (!r36))) (rv_not rfl) ?_
  refine w_end ?_
  refine q_then ?_
  refine cd_cond (!r36) rfl (fun hb40 => ?_) (fun hb40 => ?_)
  ·replace h := bif_t hb40 h
   refine c_seq ?_
   refine rg ?_
   refine st (v := (B false)) (rv_assign rfl) ?_
   refine w_end ?_
   refine q_then ?_
   refine c_ret ?_
   refine q_then_r ?_
   obtain rfl := Option.some.inj h
   exact fin_ret (v := (B false)) (results_ok Try.results10 (res_tmp (v := (B false)) rfl res_nil) rfl) ⟨rfl, rfl⟩ (H.sel' [] rfl rfl)
  ·replace h := bif_f hb40 h
   refine c_skip ?_
   refine q_then ?_
   refine c_seq ?_
   refine c_seq ?_
   refine rg ?_
   refine st (v := (Sl a23 r20 c24)) (rv_move rfl) ?_
   refine st (v := (Sl aaLog_0 aLog_0 caLog_0)) (rv_move rfl) ?_
   obtain ⟨r41, hx42, h'⟩ := bind_some h
   clear h
   have h := h'; clear h'
   have hc43 := c_laws_toEntryS (aa_0 := aaLog_0) (ca_0 := caLog_0) hx42
   refine st_call (cx_call hc43 (ent_f hc43.fn rfl) hn0 (show Hp S0 σ0 _ ([Ch.ro 0 (Sl aaLog_0 aLog_0 caLog_0) aLog_0] ++ [Ch.big K33, Ch.own n0 n0 (Sl a17 r14 c18) r14, Ch.big K25, Ch.big K11, Ch.ro 0 (Sl aaLog_0 aLog_0 caLog_0) aLog_0]) from (H.sel' [4, 0, 1, 2, 3, 4] rfl rfl))) wn ?_
   rintro _ σ48 ⟨_, ⟨a44, c45, K46, rfl, rfl, hK47⟩, H, -⟩
   replace H : Hp S0 σ0 σ48 [Ch.big K46, Ch.big K33, Ch.own n0 n0 (Sl a17 r14 c18) r14, Ch.big K25, Ch.big K11, Ch.ro 0 (Sl aaLog_0 aLog_0 caLog_0) aLog_0] := H
   obtain ⟨r49, hx50, h'⟩ := bind_some h
   clear h
   have h := h'; clear h'
   have hc51 := c_laws_eqEntryS (aa_0 := a23) (ca_0 := c24) (ab_1 := a44) (cb_1 := c45) hx50
   have hle := Nat.le_trans hn0 H.size
   refine st_call (cx_lend (Loan.lendB hK26.lends (Loan.lendB hK47.lends Loan.nil)) hc51 (ent_f hc51.fn rfl) (show Hp S0 σ0 _ ([Ch.big K25, Ch.big K46] ++ ([] ++ [Ch.big K33, Ch.own n0 n0 (Sl a17 r14 c18) r14, Ch.big K11, Ch.ro 0 (Sl aaLog_0 aLog_0 caLog_0) aLog_0])) from (H.sel' [3, 0, 1, 2, 4, 5] rfl rfl)) (by rintro _ _ _ ⟨rfl, rfl⟩; exact trivial)) wn ?_
   rintro _ σ52 ⟨_, ⟨rfl, rfl⟩, H, -, -⟩
   replace H : Hp S0 σ0 σ52 [Ch.big K25, Ch.big K46, Ch.big K33, Ch.own n0 n0 (Sl a17 r14 c18) r14, Ch.big K11, Ch.ro 0 (Sl aaLog_0 aLog_0 caLog_0) aLog_0] := H
   clear hle
   replace H : Hp S0 σ0 σ52 [Ch.big K25, Ch.big K46, Ch.big K33, Ch.own n0 n0 (Sl a17 r14 c18) r14, Ch.big K11, Ch.ro 0 (Sl aaLog_0 aLog_0 caLog_0) aLog_0] := H
   refine st (v := (B (!r49))) (rv_not rfl) ?_
   refine w_end ?_
   refine q_then ?_
   refine cd_cond (!r49) rfl (fun hb53 => ?_) (fun hb53 => ?_)
   ·replace h := bif_t hb53 h
    refine c_seq ?_
    refine rg ?_
    refine st (v := (B false)) (rv_assign rfl) ?_
    refine w_end ?_
    refine q_then ?_
    refine c_ret ?_
    refine q_then_r ?_
    obtain rfl := Option.some.inj h
    exact fin_ret (v := (B false)) (results_ok Try.results10 (res_tmp (v := (B false)) rfl res_nil) rfl) ⟨rfl, rfl⟩ (H.sel' [] rfl rfl)
   ·replace h := bif_f hb53 h
    refine c_skip ?_
    refine q_then ?_
    refine c_seq ?_
    refine rg ?_
    refine st (v := (I 1)) (rv_assign rfl) ?_
    refine w_end ?_
    refine q_then ?_
    refine c_seq ?_
    refine rg ?_
    refine st (v := (Sl a23 r20 c24)) (rv_move rfl) ?_
    refine st (v := (I 1)) (rv_move rfl) ?_
    obtain ⟨r54, hx55, h'⟩ := bind_some h
    clear h
    have h := h'; clear h'
    have hc56 := c_laws_markEntryS (aa_0 := a23) (ca_0 := c24) (hK := hK26) hx55
    refine st_call (cx_call hc56 (ent_f hc56.fn rfl) hn0 (show Hp S0 σ0 _ ([Ch.big K25] ++ [Ch.big K46, Ch.big K33, Ch.own n0 n0 (Sl a17 r14 c18) r14, Ch.big K11, Ch.ro 0 (Sl aaLog_0 aLog_0 caLog_0) aLog_0]) from (H.sel' [0, 1, 2, 3, 4, 5] rfl rfl))) wn ?_
    rintro _ σ58 ⟨_, ⟨rfl, rfl, hn57⟩, H, -⟩
    replace H : Hp S0 σ0 σ58 [Ch.ro 0 (Sl a23 r54.2 c24) r54.2, Ch.big K46, Ch.big K33, Ch.own n0 n0 (Sl a17 r14 c18) r14, Ch.big K11, Ch.ro 0 (Sl aaLog_0 aLog_0 caLog_0) aLog_0] := H
    have hsl : (Sl a23 r20 c24) = (Sl a23 r54.2 c24) := sl_len hn57.symm
    try rw [hsl]
    try rw [hsl] at H
    clear hsl
    refine st (v := (I r54.1)) (rv_assign rfl) ?_
    refine w_end ?_
    refine q_then ?_
    refine c_seq ?_
    refine c_seq ?_
    obtain ⟨o59, hj, h'⟩ := bind_some h
    clear h
    refine c_cut (fun e a w => e = .normal ∧ ∃ (ρ : Nat → Value) (σ : St), a = fr 69 (updL ρ [(0, (Sl aaLog_0 aLog_0 caLog_0)), (4, (Sl a17 r14 c18)), (6, (Sl a31 r28 c32)), (42, (B o59))]) ∧ w = σ.w ∧ Hp S0 σ0 σ [Ch.ro 0 (Sl aaLog_0 aLog_0 caLog_0) aLog_0, Ch.own n0 n0 (Sl a17 r14 c18) r14, Ch.big K33]) ?_ ?_
    ·clear h'
     rename _ = some o59 => h
     refine rg ?_
     refine st (v := (I r54.1)) (rv_move rfl) ?_
     refine st (v := (B (decide (r54.1 < 0)))) (rv_lss (a := r54.1) (b := 0) rfl rfl) ?_
     refine st (v := (B (decide (r54.1 < 0)))) (rv_move rfl) ?_
     rcases Bool.eq_false_or_eq_true (decide (r54.1 < 0)) with hb60 | hb60
     ·replace h := bif_t hb60 h
      refine st_skip (congrArg some hb60) ?_
      refine st_skip (congrArg some hb60) ?_
      refine st_skip (congrArg some hb60) ?_
      refine st_skip (congrArg some hb60) ?_
      refine st (v := (B true)) (rv_pick_t (congrArg B hb60) rfl) ?_
      refine w_end ?_
      obtain rfl := Option.some.inj h
      exact ⟨rfl, _, σ58, fr_join ⟨rfl, rfl, rfl, rfl, trivial⟩, rfl, H.sel' [5, 3, 2] rfl rfl⟩
     ·replace h := bif_f hb60 h
      refine st_g (v := (Sl a31 r28 c32)) (congrArg some hb60) (rv_move rfl) ?_
      refine st_g (v := (Sl a17 r14 c18)) (congrArg some hb60) (rv_move rfl) ?_
      obtain ⟨r61, hx62, h'⟩ := bind_some h
      clear h
      have h := h'; clear h'
      have hc63 := c_laws_eqEntryS (aa_0 := a31) (ca_0 := c32) (ab_1 := a17) (cb_1 := c18) hx62
      have hle := Nat.le_trans hn0 H.size
      refine st_call (cx_lend (Loan.lendB hK34.lends (Loan.lend Loan.nil)) hc63 (ent_f hc63.fn rfl) (show Hp S0 σ0 _ ([Ch.big K33, Ch.own n0 n0 (Sl a17 r14 c18) r14] ++ ([] ++ [Ch.ro 0 (Sl a23 r54.2 c24) r54.2, Ch.big K46, Ch.big K11, Ch.ro 0 (Sl aaLog_0 aLog_0 caLog_0) aLog_0])) from (H.sel' [2, 3, 0, 1, 4, 5] rfl rfl)) (by rintro _ _ _ ⟨rfl, rfl⟩; exact trivial)) (wanted_yes rfl (by exact (congrArg some hb60))) ?_
      rintro _ σ64 ⟨_, ⟨rfl, rfl⟩, H, -, -⟩
      replace H : Hp S0 σ0 σ64 [Ch.big K33, Ch.own n0 n0 (Sl a17 r14 c18) r14, Ch.ro 0 (Sl a23 r54.2 c24) r54.2, Ch.big K46, Ch.big K11, Ch.ro 0 (Sl aaLog_0 aLog_0 caLog_0) aLog_0] := H
      clear hle
      replace H : Hp S0 σ0 σ64 [Ch.big K33, Ch.own n0 n0 (Sl a17 r14 c18) r14, Ch.ro 0 (Sl a23 r54.2 c24) r54.2, Ch.big K46, Ch.big K11, Ch.ro 0 (Sl aaLog_0 aLog_0 caLog_0) aLog_0] := H
      refine st_g (v := (B (!r61))) (congrArg some hb60) (rv_not rfl) ?_
      refine st (v := (B (!r61))) (rv_pick_f (congrArg B hb60) rfl) ?_
      refine w_end ?_
      obtain rfl := Option.some.inj h
      exact ⟨rfl, _, σ64, fr_join ⟨rfl, rfl, rfl, rfl, trivial⟩, rfl, H.sel' [5, 1, 0] rfl rfl⟩
    ·clear hj
     have h := h'
     clear h' H
     rintro e a w ⟨rfl, ρ, σ65, rfl, rfl, H⟩
     refine q_then ?_
     refine cd_cond o59 rfl (fun hb66 => ?_) (fun hb66 => ?_)
     ·replace h := bif_t hb66 h
      refine c_seq ?_
      refine rg ?_
      refine st (v := (B false)) (rv_assign rfl) ?_
      refine w_end ?_
      refine q_then ?_
      refine c_ret ?_
      refine q_then_r ?_
      obtain rfl := Option.some.inj h
      exact fin_ret (v := (B false)) (results_ok Try.results10 (res_tmp (v := (B false)) rfl res_nil) rfl) ⟨rfl, rfl⟩ (H.sel' [] rfl rfl)
     ·replace h := bif_f hb66 h
      refine c_skip ?_
      refine q_then ?_
      refine c_seq ?_
      refine rg ?_
      refine st (v := (I 1)) (rv_assign rfl) ?_
      refine w_end ?_
      refine q_then ?_
      refine c_seq ?_
      refine rg ?_
      refine st (v := (Sl a31 r28 c32)) (rv_move rfl) ?_
      refine st (v := (I 1)) (rv_move rfl) ?_
      obtain ⟨r67, hx68, h'⟩ := bind_some h
      clear h
      have h := h'; clear h'
      have hc69 := c_laws_markEntryS (aa_0 := a31) (ca_0 := c32) (hK := hK34) hx68
      refine st_call (cx_call hc69 (ent_f hc69.fn rfl) hn0 (show Hp S0 σ0 _ ([Ch.big K33] ++ [Ch.ro 0 (Sl aaLog_0 aLog_0 caLog_0) aLog_0, Ch.own n0 n0 (Sl a17 r14 c18) r14]) from (H.sel' [2, 0, 1] rfl rfl))) wn ?_
      rintro _ σ71 ⟨_, ⟨rfl, rfl, hn70⟩, H, -⟩
      replace H : Hp S0 σ0 σ71 [Ch.ro 0 (Sl a31 r67.2 c32) r67.2, Ch.ro 0 (Sl aaLog_0 aLog_0 caLog_0) aLog_0, Ch.own n0 n0 (Sl a17 r14 c18) r14] := H
      have hsl : (Sl a31 r28 c32) = (Sl a31 r67.2 c32) := sl_len hn70.symm
      try rw [hsl]
      try rw [hsl] at H
      clear hsl
      refine st (v := (I r67.1)) (rv_assign rfl) ?_
      refine w_end ?_
      refine q_then ?_
      refine c_seq ?_
      refine rg ?_
      refine st (v := (I 1)) (rv_assign rfl) ?_
      refine w_end ?_
      refine q_then ?_
      refine c_seq ?_
      refine rg ?_
      refine st (v := (Sl a31 r67.2 c32)) (rv_move rfl) ?_
      refine st (v := (I 1)) (rv_move rfl) ?_
      obtain ⟨r72, hx73, h'⟩ := bind_some h
      clear h
      have h := h'; clear h'
      have hc74 := c_laws_heldEntryS (aa_0 := a31) (ca_0 := c32) hx73
      refine st_call (cx_call hc74 (ent_f hc74.fn rfl) hn0 (show Hp S0 σ0 _ ([Ch.ro 0 (Sl a31 r67.2 c32) r67.2] ++ [Ch.ro 0 (Sl a31 r67.2 c32) r67.2, Ch.ro 0 (Sl aaLog_0 aLog_0 caLog_0) aLog_0, Ch.own n0 n0 (Sl a17 r14 c18) r14]) from (H.sel' [0, 0, 1, 2] rfl rfl))) wn ?_
      rintro _ σ75 ⟨_, ⟨rfl, rfl⟩, H, -⟩
      replace H : Hp S0 σ0 σ75 [Ch.ro 0 (Sl a31 r67.2 c32) r67.2, Ch.ro 0 (Sl aaLog_0 aLog_0 caLog_0) aLog_0, Ch.own n0 n0 (Sl a17 r14 c18) r14] := H
      refine st (v := (I r72)) (rv_assign rfl) ?_
      refine w_end ?_
      refine q_then ?_
      refine c_seq ?_
      refine c_seq ?_
      refine rg ?_
      refine st (v := (I r72)) (rv_move rfl) ?_
      refine st (v := (B (decide (r72 < 0)))) (rv_lss (a := r72) (b := 0) rfl rfl) ?_
      refine w_end ?_
      refine q_then ?_
      refine cd_cond (decide (r72 < 0)) rfl (fun hb76 => ?_) (fun hb76 => ?_)
      ·replace h := bif_t hb76 h
       refine c_seq ?_
       refine rg ?_
       refine st (v := (B false)) (rv_assign rfl) ?_
       refine w_end ?_
       refine q_then ?_
       refine c_ret ?_
       refine q_then_r ?_
       obtain rfl := Option.some.inj h
       exact fin_ret (v := (B false)) (results_ok Try.results10 (res_tmp (v := (B false)) rfl res_nil) rfl) ⟨rfl, rfl⟩ (H.sel' [] rfl rfl)
      ·replace h := bif_f hb76 h
       refine c_skip ?_
       refine q_then ?_
       refine c_seq ?_
       refine c_seq ?_
       refine rg ?_
       refine st (v := (I r72)) (rv_move rfl) ?_
       refine st (v := (I r67.1)) (rv_move rfl) ?_
       refine st (v := (B (r72 != r67.1))) (rv_neq (a := r72) (b := r67.1) rfl rfl) ?_
       refine w_end ?_
       refine q_then ?_
       refine cd_cond (r72 != r67.1) rfl (fun hb77 => ?_) (fun hb77 => ?_)
       ·replace h := bif_t hb77 h
        refine c_seq ?_
        refine rg ?_
        refine st (v := (B false)) (rv_assign rfl) ?_
        refine w_end ?_
        refine q_then ?_
        refine c_ret ?_
        refine q_then_r ?_
        obtain rfl := Option.some.inj h
        exact fin_ret (v := (B false)) (results_ok Try.results10 (res_tmp (v := (B false)) rfl res_nil) rfl) ⟨rfl, rfl⟩ (H.sel' [] rfl rfl)
       ·replace h := bif_f hb77 h
        refine c_skip ?_
        refine q_then ?_
        refine c_seq ?_
        refine rg ?_
        refine st (v := (Sl aaLog_0 aLog_0 caLog_0)) (rv_move rfl) ?_
        obtain ⟨r78, hx79, h'⟩ := bind_some h
        clear h
        have h := h'; clear h'
        have hc80 := c_laws_toEntryS (aa_0 := aaLog_0) (ca_0 := caLog_0) hx79
        refine st_call (cx_call hc80 (ent_f hc80.fn rfl) hn0 (show Hp S0 σ0 _ ([Ch.ro 0 (Sl aaLog_0 aLog_0 caLog_0) aLog_0] ++ [Ch.ro 0 (Sl a31 r67.2 c32) r67.2, Ch.ro 0 (Sl aaLog_0 aLog_0 caLog_0) aLog_0, Ch.own n0 n0 (Sl a17 r14 c18) r14]) from (H.sel' [1, 0, 1, 2] rfl rfl))) wn ?_
        rintro _ σ85 ⟨_, ⟨a81, c82, K83, rfl, rfl, hK84⟩, H, -⟩
        replace H : Hp S0 σ0 σ85 [Ch.big K83, Ch.ro 0 (Sl a31 r67.2 c32) r67.2, Ch.ro 0 (Sl aaLog_0 aLog_0 caLog_0) aLog_0, Ch.own n0 n0 (Sl a17 r14 c18) r14] := H
        obtain ⟨r86, hx87, h'⟩ := bind_some h
        clear h
        have h := h'; clear h'
        have hc88 := c_impl_ShortLog (alog_0 := a81) (clog_0 := c82) hx87
        have hle := Nat.le_trans hn0 H.size
        refine st_call (cx_lend (Loan.lendB hK84.lends Loan.nil) hc88 (ent_f hc88.fn rfl) (show Hp S0 σ0 _ ([Ch.big K83] ++ ([] ++ [Ch.ro 0 (Sl a31 r67.2 c32) r67.2, Ch.ro 0 (Sl aaLog_0 aLog_0 caLog_0) aLog_0, Ch.own n0 n0 (Sl a17 r14 c18) r14])) from (H.sel' [0, 1, 2, 3] rfl rfl)) (by rintro _ _ _ ⟨_, _, _, rfl, rfl, hK92⟩; exact ⟨Dp.abSc hK92, trivial⟩)) wn ?_
        rintro _ σ93 ⟨_, ⟨a89, c90, K91, rfl, rfl, hK92⟩, H, -, -⟩
        replace H : Hp S0 σ0 σ93 [Ch.big K91, Ch.big K83, Ch.ro 0 (Sl a31 r67.2 c32) r67.2, Ch.ro 0 (Sl aaLog_0 aLog_0 caLog_0) aLog_0, Ch.own n0 n0 (Sl a17 r14 c18) r14] := H
        clear hle
        replace H : Hp S0 σ0 σ93 [Ch.big K91, Ch.big K83, Ch.ro 0 (Sl a31 r67.2 c32) r67.2, Ch.ro 0 (Sl aaLog_0 aLog_0 caLog_0) aLog_0, Ch.own n0 n0 (Sl a17 r14 c18) r14] := H
        refine st (v := (Sl a89 r86 c90)) (rv_assign rfl) ?_
        refine w_end ?_
        refine q_then ?_
        refine c_seq ?_
        refine c_seq ?_
        refine rg ?_
        refine st (v := (Sl a89 r86 c90)) (rv_move rfl) ?_
        refine st (v := (Sl a17 r14 c18)) (rv_move rfl) ?_
        obtain ⟨σ94, hw95, H, -⟩ := H.pub 4 rfl (Nat.le_refl _)
        rw [← hw95]; clear hw95
        replace H := H.roLow 0 0 rfl (Nat.zero_le _)
        obtain ⟨r96, hx97, h'⟩ := bind_some h
        clear h
        have h := h'; clear h'
        have hc98 := c_laws_eqEntryS (aa_0 := a89) (ca_0 := c90) (ab_1 := a17) (cb_1 := c18) hx97
        have hle := Nat.le_trans hn0 H.size
        refine st_call (cx_lend (Loan.lendB hK92.lends (Loan.same Loan.nil)) hc98 (ent_f hc98.fn rfl) (show Hp S0 σ0 _ ([Ch.big K91] ++ ([Ch.ro 0 (Sl a17 r14 c18) r14] ++ [Ch.ro 0 (Sl a17 r14 c18) r14, Ch.ro n0 (Sl a17 r14 c18) r14, Ch.big K83, Ch.ro 0 (Sl a31 r67.2 c32) r67.2, Ch.ro 0 (Sl aaLog_0 aLog_0 caLog_0) aLog_0])) from (H.sel' [2, 0, 0, 1, 3, 4, 5] rfl rfl)) (by rintro _ _ _ ⟨rfl, rfl⟩; exact trivial)) wn ?_
        rintro _ σ99 ⟨_, ⟨rfl, rfl⟩, H, -, -⟩
        replace H : Hp S0 σ0 σ99 [Ch.big K91, Ch.ro 0 (Sl a17 r14 c18) r14, Ch.ro n0 (Sl a17 r14 c18) r14, Ch.big K83, Ch.ro 0 (Sl a31 r67.2 c32) r67.2, Ch.ro 0 (Sl aaLog_0 aLog_0 caLog_0) aLog_0] := H
        clear hle
        replace H : Hp S0 σ0 σ99 [Ch.big K91, Ch.ro 0 (Sl a17 r14 c18) r14, Ch.ro n0 (Sl a17 r14 c18) r14, Ch.big K83, Ch.ro 0 (Sl a31 r67.2 c32) r67.2, Ch.ro 0 (Sl aaLog_0 aLog_0 caLog_0) aLog_0] := H
        refine st (v := (B (!r96))) (rv_not rfl) ?_
        refine w_end ?_
        refine q_then ?_
        refine cd_cond (!r96) rfl (fun hb100 => ?_) (fun hb100 => ?_)
        ·replace h := bif_t hb100 h
         refine c_seq ?_
         refine rg ?_
         refine st (v := (B false)) (rv_assign rfl) ?_
         refine w_end ?_
         refine q_then ?_
         refine c_ret ?_
         refine q_then_r ?_
         obtain rfl := Option.some.inj h
         exact fin_ret (v := (B false)) (results_ok Try.results10 (res_tmp (v := (B false)) rfl res_nil) rfl) ⟨rfl, rfl⟩ (H.sel' [] rfl rfl)
        ·replace h := bif_f hb100 h
         refine c_skip ?_
         refine q_then ?_
         refine c_seq ?_
         refine rg ?_
         refine st (v := (I 1)) (rv_assign rfl) ?_
         refine w_end ?_
         refine q_then ?_
         refine c_seq ?_
         refine rg ?_
         refine st (v := (Sl a31 r67.2 c32)) (rv_move rfl) ?_
         refine st (v := (I 1)) (rv_move rfl) ?_
         obtain ⟨r101, hx102, h'⟩ := bind_some h
         clear h
         have h := h'; clear h'
         have hc103 := c_laws_heldEntryS (aa_0 := a31) (ca_0 := c32) hx102
         refine st_call (cx_call hc103 (ent_f hc103.fn rfl) hn0 (show Hp S0 σ0 _ ([Ch.ro 0 (Sl a31 r67.2 c32) r67.2] ++ [Ch.big K91, Ch.ro 0 (Sl a17 r14 c18) r14, Ch.ro n0 (Sl a17 r14 c18) r14, Ch.big K83, Ch.ro 0 (Sl a31 r67.2 c32) r67.2, Ch.ro 0 (Sl aaLog_0 aLog_0 caLog_0) aLog_0]) from (H.sel' [4, 0, 1, 2, 3, 4, 5] rfl rfl))) wn ?_
         rintro _ σ104 ⟨_, ⟨rfl, rfl⟩, H, -⟩
         replace H : Hp S0 σ0 σ104 [Ch.big K91, Ch.ro 0 (Sl a17 r14 c18) r14, Ch.ro n0 (Sl a17 r14 c18) r14, Ch.big K83, Ch.ro 0 (Sl a31 r67.2 c32) r67.2, Ch.ro 0 (Sl aaLog_0 aLog_0 caLog_0) aLog_0] := H
         refine st (v := (I r101)) (rv_assign rfl) ?_
         refine w_end ?_
         refine q_then ?_
         refine c_seq ?_
         refine c_seq ?_
         refine rg ?_
         refine st (v := (I r101)) (rv_move rfl) ?_
         refine st (v := (B (decide (r101 < 0)))) (rv_lss (a := r101) (b := 0) rfl rfl) ?_
         refine w_end ?_
         refine q_then ?_
         refine cd_cond (decide (r101 < 0)) rfl (fun hb105 => ?_) (fun hb105 => ?_)
         ·replace h := bif_t hb105 h
          refine c_seq ?_
          refine rg ?_
          refine st (v := (B false)) (rv_assign rfl) ?_
          refine w_end ?_
          refine q_then ?_
          refine c_ret ?_
          refine q_then_r ?_
          obtain rfl := Option.some.inj h
          exact fin_ret (v := (B false)) (results_ok Try.results10 (res_tmp (v := (B false)) rfl res_nil) rfl) ⟨rfl, rfl⟩ (H.sel' [] rfl rfl)
         ·replace h := bif_f hb105 h
          refine c_skip ?_
          refine q_then ?_
          refine c_seq ?_
          refine c_seq ?_
          refine rg ?_
          refine st (v := (I r101)) (rv_move rfl) ?_
          refine st (v := (I r67.1)) (rv_move rfl) ?_
          refine st (v := (B (r101 != r67.1))) (rv_neq (a := r101) (b := r67.1) rfl rfl) ?_
          refine w_end ?_
          refine q_then ?_
          refine cd_cond (r101 != r67.1) rfl (fun hb106 => ?_) (fun hb106 => ?_)
          ·replace h := bif_t hb106 h
           refine c_seq ?_
           refine rg ?_
           refine st (v := (B false)) (rv_assign rfl) ?_
           refine w_end ?_
           refine q_then ?_
           refine c_ret ?_
           refine q_then_r ?_
           obtain rfl := Option.some.inj h
           exact fin_ret (v := (B false)) (results_ok Try.results10 (res_tmp (v := (B false)) rfl res_nil) rfl) ⟨rfl, rfl⟩ (H.sel' [] rfl rfl)
          ·replace h := bif_f hb106 h
           refine c_skip ?_
           refine q_then ?_
           refine c_seq ?_
           refine rg ?_
           refine st (v := (B true)) (rv_assign rfl) ?_
           refine w_end ?_
           refine q_then ?_
           refine c_ret ?_
           obtain rfl := Option.some.inj h
           exact fin_ret (v := (B true)) (results_ok Try.results10 (res_tmp (v := (B true)) rfl res_nil) rfl) ⟨rfl, rfl⟩ (H.sel' [] rfl rfl)

end Go.Vs
