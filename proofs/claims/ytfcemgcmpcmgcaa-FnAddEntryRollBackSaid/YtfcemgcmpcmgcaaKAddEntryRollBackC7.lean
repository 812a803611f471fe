/- The functions compute what their models say. -/
import Derived.Test.YtfcemgcmpcmgcaaKAddEntryRollBackC6
set_option linter.unusedVariables false
set_option linter.unusedSimpArgs false
set_option maxRecDepth 20000
namespace Go.Vs
open Go Go.Proofs
attribute [local irreducible] Code.wp Code.wpIn wpList wpListIn wpQuiet Calls CallsIn

theorem c_slices_BinarySearch_int_int {x_0 : List Int} {target_1 : Int} {ax_0 : Option Addr} {cx_0 : Nat} {r : Int × Bool} (h : M.slices_BinarySearch_int_int x_0 target_1 = some r) :
    Cal2 Try.prog 79 [(Sl ax_0 x_0 cx_0), (I target_1)] [Ch.ro 0 (Sl ax_0 x_0 cx_0) x_0] (fun n0 v L => v = (.tuple #[(I r.1), (B r.2)]) ∧ L = []) := by
 refine cal2 (n := 54) Try.func79 rfl rfl rfl rfl ?_
 intro S0 σ0 n0 hn0 H
 unfold M.slices_BinarySearch_int_int at h
 refine c_seq ?_
 refine rg ?_
 refine st (v := (I 0)) (rv_assign rfl) ?_
 refine st (v := (B false)) (rv_assign rfl) ?_
 refine w_end ?_
 refine q_then ?_
 refine c_seq ?_
 refine rg ?_
 refine st (v := (Sl ax_0 x_0 cx_0)) (rv_move rfl) ?_
 refine st (v := (I (x_0.length : Int))) (rv_len Try.underlying24 rfl) ?_
 refine st (v := (I (x_0.length : Int))) (rv_assign rfl) ?_
 refine w_end ?_
 refine q_then ?_
 refine c_seq ?_
 refine rg ?_
 refine st (v := (I (x_0.length : Int))) (rv_move rfl) ?_
 refine st (v := (I 0)) (rv_assign rfl) ?_
 refine st (v := (I (x_0.length : Int))) (rv_assign rfl) ?_
 refine w_end ?_
 refine q_then ?_
 refine c_seq ?_
 obtain ⟨o1, hj, h'⟩ := bind_some h
 clear h
 refine c_cut (fun e a w => e = .normal ∧ ∃ (ρ : Nat → Value) (σ : St), a = fr 54 (updL ρ [(0, (Sl ax_0 x_0 cx_0)), (1, (I target_1)), (6, (I (x_0.length : Int))), (7, (I o1))]) ∧ w = σ.w ∧ Hp S0 σ0 σ [Ch.ro 0 (Sl ax_0 x_0 cx_0) x_0]) ?_ ?_
 ·clear h'
  rename _ = some o1 => h
  refine c_blk ?_
  refine wp_loopM _ h (fun s2 a w => ∃ (ρ : Nat → Value) (σ : St), a = fr 54 (updL ρ [(0, (Sl ax_0 x_0 cx_0)), (1, (I target_1)), (6, (I (x_0.length : Int))), (7, (I s2.1)), (8, (I s2.2))]) ∧ w = σ.w ∧ Hp S0 σ0 σ [Ch.ro 0 (Sl ax_0 x_0 cx_0) x_0]) ⟨_, σ0, fr_join ⟨rfl, rfl, rfl, rfl, rfl, trivial⟩, rfl, H.sel' [0] rfl rfl⟩ ?_
  clear h H
  rintro s2 a w o ⟨ρ, σ3, rfl, rfl, H⟩ h hres
  refine c_seq ?_
  refine c_seq ?_
  refine rg ?_
  refine st (v := (I s2.1)) (rv_move rfl) ?_
  refine st (v := (I s2.2)) (rv_move rfl) ?_
  refine st (v := (B (decide (s2.1 < s2.2)))) (rv_lss (a := s2.1) (b := s2.2) rfl rfl) ?_
  refine w_end ?_
  refine q_then ?_
  refine cd_cond (decide (s2.1 < s2.2)) rfl (fun hb4 => ?_) (fun hb4 => ?_)
  ·replace h := bif_t hb4 h
   refine c_skip ?_
   refine q_then ?_
   refine c_blk ?_
   refine c_seq ?_
   refine rg ?_
   refine st (v := (I s2.1)) (rv_move rfl) ?_
   refine st (v := (I s2.2)) (rv_move rfl) ?_
   refine st (v := (I (w64 (s2.1 + s2.2)))) (rv_add (a := s2.1) (b := s2.2) rfl rfl) ?_
   refine st (v := (.int .u64 (wk .u64 (w64 (s2.1 + s2.2))))) (rvk_conv (k := .i64) (k' := .u64) (a := (w64 (s2.1 + s2.2))) Try.underlying3 Try.underlying121 rfl) ?_
   refine st (v := (.int .u64 (gshr .u64 (wk .u64 (w64 (s2.1 + s2.2))) 1))) (rvk_shr (k := .u64) (k' := .u64) (a := (wk .u64 (w64 (s2.1 + s2.2)))) (b := 1) rfl rfl (by decide)) ?_
   refine st (v := (I (wk .i64 (gshr .u64 (wk .u64 (w64 (s2.1 + s2.2))) 1)))) (rvk_conv (k := .u64) (k' := .i64) (a := (gshr .u64 (wk .u64 (w64 (s2.1 + s2.2))) 1)) Try.underlying121 Try.underlying3 rfl) ?_
   refine st (v := (I (wk .i64 (gshr .u64 (wk .u64 (w64 (s2.1 + s2.2))) 1)))) (rv_assign rfl) ?_
   refine w_end ?_
   refine q_then ?_
   refine c_seq ?_
   refine rg ?_
   refine st (v := (Sl ax_0 x_0 cx_0)) (rv_move rfl) ?_
   refine st (v := (I (wk .i64 (gshr .u64 (wk .u64 (w64 (s2.1 + s2.2))) 1)))) (rv_move rfl) ?_
   obtain ⟨x5, hx6, h'⟩ := bind_some h
   clear h
   have h := h'; clear h'
   obtain ⟨b8, o9, hi7, -⟩ := (H.ro 0 rfl).ix hx6
   refine st (v := (pt b8 o9)) (rv_ix Try.underlying24 ti3 rfl rfl hi7) ?_
   have hc10 := ((H.ro 0 rfl).at hx6 hi7).int
   refine st (v := (I x5)) (rv_load1 Try.underlying3 rfl rfl hc10) ?_
   refine st (v := (I target_1)) (rv_move rfl) ?_
   obtain ⟨r11, hx12, h'⟩ := bind_some h
   clear h
   have h := h'; clear h'
   have hc13 := c_cmp_Less_int hx12
   refine st_call (cx_call hc13 (ent_f hc13.fn rfl) hn0 (show Hp S0 σ0 _ ([] ++ [Ch.ro 0 (Sl ax_0 x_0 cx_0) x_0]) from (H.sel' [0] rfl rfl))) wn ?_
   rintro _ σ14 ⟨_, ⟨rfl, rfl⟩, H, -⟩
   replace H : Hp S0 σ0 σ14 [Ch.ro 0 (Sl ax_0 x_0 cx_0) x_0] := H
   refine w_end ?_
   refine q_then ?_
   refine cd_cond r11 rfl (fun hb15 => ?_) (fun hb15 => ?_)
   ·replace h := bif_t hb15 h
    refine rg ?_
    refine st (v := (I (wk .i64 (gshr .u64 (wk .u64 (w64 (s2.1 + s2.2))) 1)))) (rv_move rfl) ?_
    refine st (v := (I (w64 ((wk .i64 (gshr .u64 (wk .u64 (w64 (s2.1 + s2.2))) 1)) + 1)))) (rv_add (a := (wk .i64 (gshr .u64 (wk .u64 (w64 (s2.1 + s2.2))) 1))) (b := 1) rfl rfl) ?_
    refine st (v := (I (w64 ((wk .i64 (gshr .u64 (wk .u64 (w64 (s2.1 + s2.2))) 1)) + 1)))) (rv_assign rfl) ?_
    refine w_end ?_
    refine q_blk ?_
    refine q_then ?_
    obtain rfl := Option.some.inj h
    exact ⟨_, rfl, _, σ14, fr_join ⟨rfl, rfl, rfl, rfl, rfl, trivial⟩, rfl, H.sel' [0] rfl rfl⟩
   ·replace h := bif_f hb15 h
    refine rg ?_
    refine st (v := (I (wk .i64 (gshr .u64 (wk .u64 (w64 (s2.1 + s2.2))) 1)))) (rv_move rfl) ?_
    refine st (v := (I (wk .i64 (gshr .u64 (wk .u64 (w64 (s2.1 + s2.2))) 1)))) (rv_assign rfl) ?_
    refine w_end ?_
    refine q_blk ?_
    refine q_then ?_
    obtain rfl := Option.some.inj h
    exact ⟨_, rfl, _, σ14, fr_join ⟨rfl, rfl, rfl, rfl, rfl, trivial⟩, rfl, H.sel' [0] rfl rfl⟩
  ·replace h := bif_f hb4 h
   refine c_exit ?_
   refine q_then_x ?_
   refine q_then_x ?_
   refine q_blk_hit ?_
   obtain rfl := Option.some.inj h
   obtain rfl := hres _ rfl
   exact ⟨rfl, _, σ3, fr_join ⟨rfl, rfl, rfl, rfl, trivial⟩, rfl, H.sel' [0] rfl rfl⟩
 ·clear hj
  have h := h'
  clear h' H
  rintro e a w ⟨rfl, ρ, σ16, rfl, rfl, H⟩
  refine q_then ?_
  refine c_seq ?_
  refine rg ?_
  refine st (v := (I o1)) (rv_move rfl) ?_
  refine st (v := (I o1)) (rv_move rfl) ?_
  refine st (v := (I (x_0.length : Int))) (rv_move rfl) ?_
  refine st (v := (B (decide (o1 < (x_0.length : Int))))) (rv_lss (a := o1) (b := (x_0.length : Int)) rfl rfl) ?_
  refine st (v := (B (decide (o1 < (x_0.length : Int))))) (rv_move rfl) ?_
  rcases Bool.eq_false_or_eq_true (decide (o1 < (x_0.length : Int))) with hb17 | hb17
  ·replace h := bif_t hb17 h
   refine st_g (v := (Sl ax_0 x_0 cx_0)) (congrArg some hb17) (rv_move rfl) ?_
   refine st_g (v := (I o1)) (congrArg some hb17) (rv_move rfl) ?_
   obtain ⟨x18, hx19, h'⟩ := bind_some h
   clear h
   have h := h'; clear h'
   obtain ⟨b21, o22, hi20, -⟩ := (H.ro 0 rfl).ix hx19
   refine st_g (v := (pt b21 o22)) (congrArg some hb17) (rv_ix Try.underlying24 ti3 rfl rfl hi20) ?_
   have hc23 := ((H.ro 0 rfl).at hx19 hi20).int
   refine st_g (v := (I x18)) (congrArg some hb17) (rv_load1 Try.underlying3 rfl rfl hc23) ?_
   refine st_g (v := (I target_1)) (congrArg some hb17) (rv_move rfl) ?_
   refine st_g (v := (B (x18 == target_1))) (congrArg some hb17) (rv_eql (a := x18) (b := target_1) rfl rfl) ?_
   refine st_g (v := (B (x18 == target_1))) (congrArg some hb17) (rv_move rfl) ?_
   rcases Bool.eq_false_or_eq_true (x18 == target_1) with hb24 | hb24
   ·replace h := bif_t hb24 h
    refine st_skip (congrArg some hb24) ?_
    refine st_skip (congrArg some hb24) ?_
    refine st_skip (congrArg some hb24) ?_
    refine st_skip (congrArg some hb24) ?_
    refine st_skip (congrArg some hb24) ?_
    refine st_skip (congrArg some hb24) ?_
    refine st_skip_u rfl ?_
    refine st_skip_u rfl ?_
    refine st_skip (congrArg some hb24) ?_
    refine st_g (v := (B true)) (congrArg some hb17) (rv_pick_t (congrArg B hb24) rfl) ?_
    refine st (v := (B true)) (rv_pick_t (congrArg B hb17) rfl) ?_
    refine st (v := (I o1)) (rv_assign rfl) ?_
    refine st (v := (B true)) (rv_assign rfl) ?_
    refine w_end ?_
    refine q_then ?_
    refine c_ret ?_
    obtain rfl := Option.some.inj h
    exact fin_ret (v := (.tuple #[(I o1), (B true)])) (results_ok Try.results79 (res_tmp (v := (I o1)) rfl (res_tmp (v := (B true)) rfl res_nil)) rfl) ⟨rfl, rfl⟩ (H.sel' [] rfl rfl)
   ·replace h := bif_f hb24 h
    refine st_g (v := (Sl ax_0 x_0 cx_0)) (congrArg some hb24) (rv_move rfl) ?_
    refine st_g (v := (I o1)) (congrArg some hb24) (rv_move rfl) ?_
    obtain ⟨x25, hx26, h'⟩ := bind_some h
    clear h
    have h := h'; clear h'
    obtain ⟨b28, o29, hi27, -⟩ := (H.ro 0 rfl).ix hx26
    refine st_g (v := (pt b28 o29)) (congrArg some hb24) (rv_ix Try.underlying24 ti3 rfl rfl hi27) ?_
    have hc30 := ((H.ro 0 rfl).at hx26 hi27).int
    refine st_g (v := (I x25)) (congrArg some hb24) (rv_load1 Try.underlying3 rfl rfl hc30) ?_
    obtain ⟨r31, hx32, h'⟩ := bind_some h
    clear h
    have h := h'; clear h'
    have hc33 := c_slices_isNaN_int hx32
    refine st_call (cx_call hc33 (ent_f hc33.fn rfl) hn0 (show Hp S0 σ0 _ ([] ++ [Ch.ro 0 (Sl ax_0 x_0 cx_0) x_0]) from (H.sel' [0] rfl rfl))) (wanted_yes rfl (by exact (congrArg some hb24))) ?_
    rintro _ σ34 ⟨_, ⟨rfl, rfl⟩, H, -⟩
    replace H : Hp S0 σ0 σ34 [Ch.ro 0 (Sl ax_0 x_0 cx_0) x_0] := H
    refine st_g (v := (B r31)) (congrArg some hb24) (rv_move rfl) ?_
    rcases Bool.eq_false_or_eq_true r31 with hb35 | hb35
    ·replace h := bif_t hb35 h
     refine st_g (v := (I target_1)) (congrArg some hb35) (rv_move rfl) ?_
     obtain ⟨r36, hx37, h'⟩ := bind_some h
     clear h
     have h := h'; clear h'
     have hc38 := c_slices_isNaN_int hx37
     refine st_call (cx_call hc38 (ent_f hc38.fn rfl) hn0 (show Hp S0 σ0 _ ([] ++ [Ch.ro 0 (Sl ax_0 x_0 cx_0) x_0]) from (H.sel' [0] rfl rfl))) (wanted_yes rfl (by exact (congrArg some hb35))) ?_
     rintro _ σ39 ⟨_, ⟨rfl, rfl⟩, H, -⟩
     replace H : Hp S0 σ0 σ39 [Ch.ro 0 (Sl ax_0 x_0 cx_0) x_0] := H
     refine st_g (v := (B r36)) (congrArg some hb24) (rv_pick_t (congrArg B hb35) rfl) ?_
     refine st_g (v := (B r36)) (congrArg some hb17) (rv_pick_f (congrArg B hb24) rfl) ?_
     refine st (v := (B r36)) (rv_pick_t (congrArg B hb17) rfl) ?_
     refine st (v := (I o1)) (rv_assign rfl) ?_
     refine st (v := (B r36)) (rv_assign rfl) ?_
     refine w_end ?_
     refine q_then ?_
     refine c_ret ?_
     obtain rfl := Option.some.inj h
     exact fin_ret (v := (.tuple #[(I o1), (B r36)])) (results_ok Try.results79 (res_tmp (v := (I o1)) rfl (res_tmp (v := (B r36)) rfl res_nil)) rfl) ⟨rfl, rfl⟩ (H.sel' [] rfl rfl)
    ·replace h := bif_f hb35 h
     refine st_skip (congrArg some hb35) ?_
     refine st_skip (congrArg some hb35) ?_
     refine st_g (v := (B false)) (congrArg some hb24) (rv_pick_f (congrArg B hb35) rfl) ?_
     refine st_g (v := (B false)) (congrArg some hb17) (rv_pick_f (congrArg B hb24) rfl) ?_
     refine st (v := (B false)) (rv_pick_t (congrArg B hb17) rfl) ?_
     refine st (v := (I o1)) (rv_assign rfl) ?_
     refine st (v := (B false)) (rv_assign rfl) ?_
     refine w_end ?_
     refine q_then ?_
     refine c_ret ?_
     obtain rfl := Option.some.inj h
     exact fin_ret (v := (.tuple #[(I o1), (B false)])) (results_ok Try.results79 (res_tmp (v := (I o1)) rfl (res_tmp (v := (B false)) rfl res_nil)) rfl) ⟨rfl, rfl⟩ (H.sel' [] rfl rfl)
  ·replace h := bif_f hb17 h
   refine st_skip (congrArg some hb17) ?_
   refine st_skip (congrArg some hb17) ?_
   refine st_skip (congrArg some hb17) ?_
   refine st_skip (congrArg some hb17) ?_
   refine st_skip (congrArg some hb17) ?_
   refine st_skip (congrArg some hb17) ?_
   refine st_skip (congrArg some hb17) ?_
   refine st_skip_u rfl ?_
   refine st_skip_u rfl ?_
   refine st_skip_u rfl ?_
   refine st_skip_u rfl ?_
   refine st_skip_u rfl ?_
   refine st_skip_u rfl ?_
   refine st_skip_u rfl ?_
   refine st_skip_u rfl ?_
   refine st_skip_u rfl ?_
   refine st_skip (congrArg some hb17) ?_
   refine st (v := (B false)) (rv_pick_f (congrArg B hb17) rfl) ?_
   refine st (v := (I o1)) (rv_assign rfl) ?_
   refine st (v := (B false)) (rv_assign rfl) ?_
   refine w_end ?_
   refine q_then ?_
   refine c_ret ?_
   obtain rfl := Option.some.inj h
   exact fin_ret (v := (.tuple #[(I o1), (B false)])) (results_ok Try.results79 (res_tmp (v := (I o1)) rfl (res_tmp (v := (B false)) rfl res_nil)) rfl) ⟨rfl, rfl⟩ (H.sel' [] rfl rfl)

theorem c_impl_History_entriesUntil {h_0 : (List (Int × (Int × (List Int) × Int))) × (List Int)} {t_1 : Int} {ah_0_0 : Option Addr} {ch_0_0 : Nat} {ah_0_1 : Option Addr} {ch_0_1 : Nat} {r : Int} (h : M.impl_History_entriesUntil h_0 t_1 = some r) :
    Cal2 Try.prog 48 [(.agg #[(Sl ah_0_0 h_0.1 ch_0_0), (Sl ah_0_1 h_0.2 ch_0_1)]), (I t_1)] [Ch.ro 0 (Sl ah_0_0 h_0.1 ch_0_0) h_0.1, Ch.ro 0 (Sl ah_0_1 h_0.2 ch_0_1) h_0.2] (fun n0 v L => v = (I r) ∧ L = []) := by
 refine cal2 (n := 16) Try.func48 rfl rfl rfl rfl ?_
 intro S0 σ0 n0 hn0 H
 unfold M.impl_History_entriesUntil at h
 refine c_seq ?_
 refine rg ?_
 refine st_ex (ex_box (cs := [(Sl ah_0_0 h_0.1 ch_0_0), (Sl ah_0_1 h_0.2 ch_0_1)]) H hn0 rfl rfl) wn ?_
 rintro _ σ2 ⟨b1, rfl, H, -⟩
 refine st (v := (I 0)) (rv_assign rfl) ?_
 refine w_end ?_
 refine q_then ?_
 refine c_seq ?_
 refine rg ?_
 refine st (v := (pt b1 1)) (rv_fieldAddr (off := 1) (ft := 24) Try.underlying26 rfl ti24 rfl rfl) ?_
 have hc3 := H.cell (u := (Sl ah_0_1 h_0.2 ch_0_1)) (o' := 1) 0 1 rfl rfl rfl
 refine st (v := (Sl ah_0_1 h_0.2 ch_0_1)) (rv_load1 Try.underlying24 rfl rfl hc3) ?_
 refine st (v := (I t_1)) (rv_move rfl) ?_
 refine st (v := (I (w64 (t_1 + 1)))) (rv_add (a := t_1) (b := 1) rfl rfl) ?_
 obtain ⟨r4, hx5, h'⟩ := bind_some h
 clear h
 have h := h'; clear h'
 have hc6 := c_slices_BinarySearch_int_int (ax_0 := ah_0_1) (cx_0 := ch_0_1) hx5
 refine st_call (cx_call hc6 (ent_f hc6.fn rfl) hn0 (show Hp S0 σ0 _ ([Ch.ro 0 (Sl ah_0_1 h_0.2 ch_0_1) h_0.2] ++ [Ch.bx n0 b1 0 [(Sl ah_0_0 h_0.1 ch_0_0), (Sl ah_0_1 h_0.2 ch_0_1)] [] [], Ch.ro 0 (Sl ah_0_0 h_0.1 ch_0_0) h_0.1, Ch.ro 0 (Sl ah_0_1 h_0.2 ch_0_1) h_0.2]) from (H.sel' [2, 0, 1, 2] rfl rfl))) wn ?_
 rintro _ σ7 ⟨_, ⟨rfl, rfl⟩, H, -⟩
 replace H : Hp S0 σ0 σ7 [Ch.bx n0 b1 0 [(Sl ah_0_0 h_0.1 ch_0_0), (Sl ah_0_1 h_0.2 ch_0_1)] [] [], Ch.ro 0 (Sl ah_0_0 h_0.1 ch_0_0) h_0.1, Ch.ro 0 (Sl ah_0_1 h_0.2 ch_0_1) h_0.2] := H
 refine st (v := (.tuple #[(I r4.1), (B r4.2)])) (rv_move rfl) ?_
 refine st (v := (I r4.1)) (rv_extract rfl rfl) ?_
 refine st (v := (B r4.2)) (rv_extract rfl rfl) ?_
 refine st (v := (I r4.1)) (rv_assign rfl) ?_
 refine st (v := (B r4.2)) (rv_assign rfl) ?_
 refine w_end ?_
 refine q_then ?_
 refine c_seq ?_
 refine rg ?_
 refine st (v := (I r4.1)) (rv_move rfl) ?_
 refine st (v := (I r4.1)) (rv_assign rfl) ?_
 refine w_end ?_
 refine q_then ?_
 refine c_ret ?_
 obtain rfl := Option.some.inj h
 exact fin_ret (v := (I r4.1)) (results_ok Try.results48 (res_tmp (v := (I r4.1)) rfl res_nil) rfl) ⟨rfl, rfl⟩ (H.sel' [] rfl rfl)

theorem c_impl_RollBack {h_0 : (List (Int × (Int × (List Int) × Int))) × (List Int)} {t_1 : Int} {ah_0_0 : Option Addr} {ch_0_0 : Nat} {ah_0_1 : Option Addr} {ch_0_1 : Nat} {r : ((List (Int × (Int × (List Int) × Int))) × (List Int)) × Bool} (h : M.impl_RollBack h_0 t_1 = some r) :
    Cal2 Try.prog 32 [(.agg #[(Sl ah_0_0 h_0.1 ch_0_0), (Sl ah_0_1 h_0.2 ch_0_1)]), (I t_1)] [Ch.ro 0 (Sl ah_0_0 h_0.1 ch_0_0) h_0.1, Ch.ro 0 (Sl ah_0_1 h_0.2 ch_0_1) h_0.2] (fun n0 v L => ∃ (az1 : Option Addr), ∃ (cz2 : Nat), ∃ (az4 : Option Addr), ∃ (cz5 : Nat), v = (.tuple #[(.agg #[(Sl az1 r.1.1 cz2), (Sl az4 r.1.2 cz5)]), (B r.2)]) ∧ L = [Ch.own n0 n0 (Sl az1 r.1.1 cz2) r.1.1, Ch.own n0 n0 (Sl az4 r.1.2 cz5) r.1.2] ∧ cz2 = r.1.1.length) := by
 refine cal2 (n := 20) Try.func32 rfl rfl rfl rfl ?_
 intro S0 σ0 n0 hn0 H
 unfold M.impl_RollBack at h
 refine c_seq ?_
 refine rg ?_
 refine st_ex (ex_box (cs := [(Sl ah_0_0 h_0.1 ch_0_0), (Sl ah_0_1 h_0.2 ch_0_1)]) H hn0 rfl rfl) wn ?_
 rintro _ σ2 ⟨b1, rfl, H, -⟩
 refine st_ex (ex_alloc (cs := [(.slice none 0 0), (.slice none 0 0)]) H hn0 ti26 rfl) wn ?_
 rintro _ σ4 ⟨b3, rfl, H, -⟩
 refine st (v := (B false)) (rv_assign rfl) ?_
 refine w_end ?_
 refine q_then ?_
 refine c_seq ?_
 refine c_seq ?_
 obtain ⟨o5, hj, h'⟩ := bind_some h
 clear h
 refine c_cut (fun e a w => e = .normal ∧ ∃ (ρ : Nat → Value) (σ : St), a = fr 20 (updL ρ [(1, (I t_1)), (2, (pt b1 0)), (4, (pt b3 0)), (13, (B o5))]) ∧ w = σ.w ∧ Hp S0 σ0 σ [Ch.ro 0 (Sl ah_0_0 h_0.1 ch_0_0) h_0.1, Ch.ro 0 (Sl ah_0_1 h_0.2 ch_0_1) h_0.2, Ch.bx n0 b1 0 [(Sl ah_0_0 h_0.1 ch_0_0), (Sl ah_0_1 h_0.2 ch_0_1)] [] [], Ch.bx n0 b3 0 [(.slice none 0 0), (.slice none 0 0)] [] []]) ?_ ?_
 ·clear h'
  rename _ = some o5 => h
  refine rg ?_
  have hc6 := H.cells 1 rfl
  refine st (v := (.agg #[(Sl ah_0_0 h_0.1 ch_0_0), (Sl ah_0_1 h_0.2 ch_0_1)])) (rv_load (cs := [(Sl ah_0_0 h_0.1 ch_0_0), (Sl ah_0_1 h_0.2 ch_0_1)]) Try.underlying26 rfl ti26 rfl rfl hc6) ?_
  obtain ⟨r7, hx8, h'⟩ := bind_some h
  clear h
  have h := h'; clear h'
  have hc9 := c_impl_ValidHistory (ah_0_0 := ah_0_0) (ch_0_0 := ch_0_0) (ah_0_1 := ah_0_1) (ch_0_1 := ch_0_1) hx8
  refine st_call (cx_call hc9 (ent_f hc9.fn rfl) hn0 (show Hp S0 σ0 _ ([Ch.ro 0 (Sl ah_0_0 h_0.1 ch_0_0) h_0.1, Ch.ro 0 (Sl ah_0_1 h_0.2 ch_0_1) h_0.2] ++ [Ch.bx n0 b3 0 [(.slice none 0 0), (.slice none 0 0)] [] [], Ch.bx n0 b1 0 [(Sl ah_0_0 h_0.1 ch_0_0), (Sl ah_0_1 h_0.2 ch_0_1)] [] [], Ch.ro 0 (Sl ah_0_0 h_0.1 ch_0_0) h_0.1, Ch.ro 0 (Sl ah_0_1 h_0.2 ch_0_1) h_0.2]) from (H.sel' [2, 3, 0, 1, 2, 3] rfl rfl))) wn ?_
  rintro _ σ10 ⟨_, ⟨rfl, rfl⟩, H, -⟩
  replace H : Hp S0 σ0 σ10 [Ch.bx n0 b3 0 [(.slice none 0 0), (.slice none 0 0)] [] [], Ch.bx n0 b1 0 [(Sl ah_0_0 h_0.1 ch_0_0), (Sl ah_0_1 h_0.2 ch_0_1)] [] [], Ch.ro 0 (Sl ah_0_0 h_0.1 ch_0_0) h_0.1, Ch.ro 0 (Sl ah_0_1 h_0.2 ch_0_1) h_0.2] := H
  refine st (v := (B (!r7))) (rv_not rfl) ?_
  refine st (v := (B (!r7))) (rv_move rfl) ?_
  rcases Bool.eq_false_or_eq_true (!r7) with hb11 | hb11
  ·replace h := bif_t hb11 h
   refine st_skip (congrArg some hb11) ?_
   refine st_skip (congrArg some hb11) ?_
   refine st_skip (congrArg some hb11) ?_
   refine st (v := (B true)) (rv_pick_t (congrArg B hb11) rfl) ?_
   refine w_end ?_
   obtain rfl := Option.some.inj h
   exact ⟨rfl, _, σ10, fr_join ⟨rfl, rfl, rfl, rfl, trivial⟩, rfl, H.sel' [2, 3, 1, 0] rfl rfl⟩
  ·replace h := bif_f hb11 h
   refine st_g (v := (I t_1)) (congrArg some hb11) (rv_move rfl) ?_
   obtain ⟨r12, hx13, h'⟩ := bind_some h
   clear h
   have h := h'; clear h'
   have hc14 := c_impl_validMoment hx13
   refine st_call (cx_call hc14 (ent_f hc14.fn rfl) hn0 (show Hp S0 σ0 _ ([] ++ [Ch.bx n0 b3 0 [(.slice none 0 0), (.slice none 0 0)] [] [], Ch.bx n0 b1 0 [(Sl ah_0_0 h_0.1 ch_0_0), (Sl ah_0_1 h_0.2 ch_0_1)] [] [], Ch.ro 0 (Sl ah_0_0 h_0.1 ch_0_0) h_0.1, Ch.ro 0 (Sl ah_0_1 h_0.2 ch_0_1) h_0.2]) from (H.sel' [0, 1, 2, 3] rfl rfl))) (wanted_yes rfl (by exact (congrArg some hb11))) ?_
   rintro _ σ15 ⟨_, ⟨rfl, rfl⟩, H, -⟩
   replace H : Hp S0 σ0 σ15 [Ch.bx n0 b3 0 [(.slice none 0 0), (.slice none 0 0)] [] [], Ch.bx n0 b1 0 [(Sl ah_0_0 h_0.1 ch_0_0), (Sl ah_0_1 h_0.2 ch_0_1)] [] [], Ch.ro 0 (Sl ah_0_0 h_0.1 ch_0_0) h_0.1, Ch.ro 0 (Sl ah_0_1 h_0.2 ch_0_1) h_0.2] := H
   refine st_g (v := (B (!r12))) (congrArg some hb11) (rv_not rfl) ?_
   refine st (v := (B (!r12))) (rv_pick_f (congrArg B hb11) rfl) ?_
   refine w_end ?_
   obtain rfl := Option.some.inj h
   exact ⟨rfl, _, σ15, fr_join ⟨rfl, rfl, rfl, rfl, trivial⟩, rfl, H.sel' [2, 3, 1, 0] rfl rfl⟩
 ·clear hj
  have h := h'
  clear h' H
  rintro e a w ⟨rfl, ρ, σ16, rfl, rfl, H⟩
  refine q_then ?_
  refine cd_cond o5 rfl (fun hb17 => ?_) (fun hb17 => ?_)
  ·replace h := bif_t hb17 h
   refine c_seq ?_
   refine rg ?_
   refine st (v := (.agg #[(.slice none 0 0), (.slice none 0 0)])) (rv_build (ps := []) Try.underlying26 ti26 (bp26 Try.underlying26) rfl (by kernel_rfl)) ?_
   refine st_exS (ex_store_box (k := 0) (cs := [(.slice none 0 0), (.slice none 0 0)]) (vs := [(.slice none 0 0), (.slice none 0 0)]) (cs' := [(.slice none 0 0), (.slice none 0 0)]) H (i := 3) rfl ti26 rfl rfl rfl rfl rfl (Nat.le_of_ble_eq_true rfl) (by simp [plain]) rfl) wn ?_
   rintro σ18 ⟨H, -⟩
   refine st (v := (B false)) (rv_assign rfl) ?_
   refine w_end ?_
   refine q_then ?_
   refine c_ret ?_
   refine q_then_r ?_
   replace H := H.nilOwn (Int × (Int × (List Int) × Int)) n0 n0
   replace H := H.nilOwn Int n0 n0
   obtain rfl := Option.some.inj h
   exact fin_ret (v := (.tuple #[(.agg #[(.slice none 0 0), (.slice none 0 0)]), (B false)])) (results_ok Try.results32 (res_cell rfl (run_cellRes (cs := [(.slice none 0 0), (.slice none 0 0)]) Try.underlying26 rfl ti26 rfl (H.cells 2 rfl)) (res_tmp (v := (B false)) rfl res_nil)) rfl) ⟨none, 0, none, 0, rfl, rfl, rfl⟩ (H.sel' [1, 0] rfl rfl)
  ·replace h := bif_f hb17 h
   refine c_skip ?_
   refine q_then ?_
   refine c_seq ?_
   have hc19 := H.cells 2 rfl
   have hc20 := H.cells 2 rfl
   obtain ⟨r21, hx22, h'⟩ := bind_some h
   clear h
   have h := h'; clear h'
   have hc23 := c_impl_History_entriesUntil (ah_0_0 := ah_0_0) (ch_0_0 := ch_0_0) (ah_0_1 := ah_0_1) (ch_0_1 := ch_0_1) hx22
   have Hs := H
   refine rg2 (σ := σ16) (Nm := Unit) 4 [3] [[false], [true]] [[(0, 0), (1, 1)], [(0, 0)], [(0, 0)], [(0, 1)]] 1 [fun _ => fun σm => Hp S0 σ0 σm [Ch.ro 0 (Sl ah_0_0 h_0.1 ch_0_0) h_0.1, Ch.ro 0 (Sl ah_0_1 h_0.2 ch_0_1) h_0.2, Ch.bx n0 b1 0 [(Sl ah_0_0 h_0.1 ch_0_0), (Sl ah_0_1 h_0.2 ch_0_1)] [] [], Ch.bx n0 b3 0 [(.slice none 0 0), (.slice none 0 0)] [] []] ∧ Md (cov []) σ16 σm, fun _ => fun σm => Hp S0 σ0 σm [Ch.ro 0 (Sl ah_0_0 h_0.1 ch_0_0) h_0.1, Ch.ro 0 (Sl ah_0_1 h_0.2 ch_0_1) h_0.2, Ch.bx n0 b1 0 [(Sl ah_0_0 h_0.1 ch_0_0), (Sl ah_0_1 h_0.2 ch_0_1)] [] [], Ch.bx n0 b3 0 [(.slice none 0 0), (.slice none 0 0)] [] []] ∧ Md (cov []) σ16 σm] [fun _ => (.agg #[(Sl ah_0_0 h_0.1 ch_0_0), (Sl ah_0_1 h_0.2 ch_0_1)]), fun _ => (.agg #[(Sl ah_0_0 h_0.1 ch_0_0), (Sl ah_0_1 h_0.2 ch_0_1)]), fun _ => (I t_1), fun _ => (I r21)] () (by kernel_rfl) (by kernel_rfl) ?_ ?_ ?_
   ·intro σm m0
    exact ⟨H.grow (m0.mono fun _ h => h.elim), m0⟩
   ·refine all_cons (by
      refine ⟨?_, ?_⟩
      ·intro _nm ρ σm hJ hoff hdep
       have e2 := look_off (N := 20) (hoff 2 rfl) rfl
       obtain ⟨H, m⟩ := id hJ
       have hc19 := H.cells 2 rfl
       exact dp_v (v := (.agg #[(Sl ah_0_0 h_0.1 ch_0_0), (Sl ah_0_1 h_0.2 ch_0_1)])) wn (rv_load (cs := [(Sl ah_0_0 h_0.1 ch_0_0), (Sl ah_0_1 h_0.2 ch_0_1)]) Try.underlying26 rfl ti26 e2 rfl hc19) rfl hJ
      refine ⟨?_, ?_⟩
      ·intro _nm ρ σm hJ hoff hdep
       have e2 := look_off (N := 20) (hoff 2 rfl) rfl
       obtain ⟨H, m⟩ := id hJ
       have hc19 := H.cells 2 rfl
       exact dp_v (v := (.agg #[(Sl ah_0_0 h_0.1 ch_0_0), (Sl ah_0_1 h_0.2 ch_0_1)])) wn (rv_load (cs := [(Sl ah_0_0 h_0.1 ch_0_0), (Sl ah_0_1 h_0.2 ch_0_1)]) Try.underlying26 rfl ti26 e2 rfl hc19) rfl hJ
      trivial) ?_
    refine all_cons (by
      refine ⟨?_, ?_⟩
      ·intro _nm ρ σm hJ hoff hdep
       have e2 := look_off (N := 20) (hoff 2 rfl) rfl
       obtain ⟨H, m⟩ := id hJ
       have hc20 := H.cells 2 rfl
       exact dp_v (v := (.agg #[(Sl ah_0_0 h_0.1 ch_0_0), (Sl ah_0_1 h_0.2 ch_0_1)])) wn (rv_load (cs := [(Sl ah_0_0 h_0.1 ch_0_0), (Sl ah_0_1 h_0.2 ch_0_1)]) Try.underlying26 rfl ti26 e2 rfl hc20) rfl hJ
      trivial) ?_
    refine ac rfl (by
      intro k _nm ρ σm hJ hoff hdep
      have e1 := look_off (N := 20) (hoff 1 rfl) rfl
      exact dp_v (v := (I t_1)) wn (rv_move e1) rfl hJ) ?_
    refine all_cons (by
      refine ⟨?_, ?_⟩
      ·intro _nm ρ σm hJ hoff hdep
       have e16 : look 20 ρ 16 = (.agg #[(Sl ah_0_0 h_0.1 ch_0_0), (Sl ah_0_1 h_0.2 ch_0_1)]) := hdep 1 rfl rfl 16 rfl
       have e17 : look 20 ρ 17 = (I t_1) := hdep 2 rfl rfl 17 rfl
       obtain ⟨H, m⟩ := id hJ
       refine dp_cx wn (cx_call hc23 (ent_f hc23.fn (by show [look 20 ρ 16, look 20 ρ 17] = _; rw [e16, e17])) hn0 (show Hp S0 σ0 _ ([Ch.ro 0 (Sl ah_0_0 h_0.1 ch_0_0) h_0.1, Ch.ro 0 (Sl ah_0_1 h_0.2 ch_0_1) h_0.2] ++ [Ch.ro 0 (Sl ah_0_0 h_0.1 ch_0_0) h_0.1, Ch.ro 0 (Sl ah_0_1 h_0.2 ch_0_1) h_0.2, Ch.bx n0 b1 0 [(Sl ah_0_0 h_0.1 ch_0_0), (Sl ah_0_1 h_0.2 ch_0_1)] [] [], Ch.bx n0 b3 0 [(.slice none 0 0), (.slice none 0 0)] [] []]) from (H.sel' [0, 1, 0, 1, 2, 3] rfl rfl))) ?_
       rintro _ σq ⟨_, ⟨rfl, rfl⟩, H2, m2⟩
       exact ⟨_, (), rfl, rfl, ⟨H2.sel' [0, 1, 2, 3] rfl rfl, m.comp0 (m2.mono (fun i h => by simp [cov, Ch.ro] at h))⟩, stab [0, 1, 2] (by kernel_rfl) ⟨rfl, rfl, rfl, trivial⟩⟩
      trivial) ?_
    exact all_nil
   ·intro _nm ρ σ24 hJ hoff hrel
    have e4 := look_off (N := 20) (hoff 4 rfl) rfl
    have e15 := hrel 0 rfl 15 rfl
    have e18 := hrel 3 rfl 18 rfl
    obtain ⟨H, -⟩ := (show Hp S0 σ0 σ24 [Ch.ro 0 (Sl ah_0_0 h_0.1 ch_0_0) h_0.1, Ch.ro 0 (Sl ah_0_1 h_0.2 ch_0_1) h_0.2, Ch.bx n0 b1 0 [(Sl ah_0_0 h_0.1 ch_0_0), (Sl ah_0_1 h_0.2 ch_0_1)] [] [], Ch.bx n0 b3 0 [(.slice none 0 0), (.slice none 0 0)] [] []] ∧ Md (cov []) σ16 σ24 from hJ)
    clear hJ Hs
    rw [fr_lookL (L := [(4, (pt b3 0)), (15, (.agg #[(Sl ah_0_0 h_0.1 ch_0_0), (Sl ah_0_1 h_0.2 ch_0_1)])), (18, (I r21))]) ⟨e4, e15, e18, trivial⟩]
    clear hoff hrel e4 e15 e18
    obtain ⟨r25, hx26, h'⟩ := bind_some h
    clear h
    have h := h'; clear h'
    have hc27 := c_impl_History_firstEntries (ah_0_0 := ah_0_0) (ch_0_0 := ch_0_0) (ah_0_1 := ah_0_1) (ch_0_1 := ch_0_1) hx26
    refine st_call (cx_call hc27 (ent_f hc27.fn rfl) hn0 (show Hp S0 σ0 _ ([Ch.ro 0 (Sl ah_0_0 h_0.1 ch_0_0) h_0.1, Ch.ro 0 (Sl ah_0_1 h_0.2 ch_0_1) h_0.2] ++ [Ch.ro 0 (Sl ah_0_0 h_0.1 ch_0_0) h_0.1, Ch.ro 0 (Sl ah_0_1 h_0.2 ch_0_1) h_0.2, Ch.bx n0 b1 0 [(Sl ah_0_0 h_0.1 ch_0_0), (Sl ah_0_1 h_0.2 ch_0_1)] [] [], Ch.bx n0 b3 0 [(.slice none 0 0), (.slice none 0 0)] [] []]) from (H.sel' [0, 1, 0, 1, 2, 3] rfl rfl))) wn ?_
    rintro _ σ33 ⟨_, ⟨a28, c29, a31, c32, rfl, rfl, ht30⟩, H, -⟩
    replace H : Hp S0 σ0 σ33 [Ch.own n0 n0 (Sl a28 r25.1 c29) r25.1, Ch.own n0 n0 (Sl a31 r25.2 c32) r25.2, Ch.ro 0 (Sl ah_0_0 h_0.1 ch_0_0) h_0.1, Ch.ro 0 (Sl ah_0_1 h_0.2 ch_0_1) h_0.2, Ch.bx n0 b1 0 [(Sl ah_0_0 h_0.1 ch_0_0), (Sl ah_0_1 h_0.2 ch_0_1)] [] [], Ch.bx n0 b3 0 [(.slice none 0 0), (.slice none 0 0)] [] []] := H
    refine st_exS (ex_store_box (k := 0) (cs := [(.slice none 0 0), (.slice none 0 0)]) (vs := [(Sl a28 r25.1 c29), (Sl a31 r25.2 c32)]) (cs' := [(Sl a28 r25.1 c29), (Sl a31 r25.2 c32)]) H (i := 5) rfl ti26 rfl rfl rfl rfl rfl (Nat.le_of_ble_eq_true rfl) (by simp [plain]) rfl) wn ?_
    rintro σ34 ⟨H, -⟩
    refine st (v := (B true)) (rv_assign rfl) ?_
    refine w_end ?_
    refine q_then ?_
    refine c_ret ?_
    obtain rfl := Option.some.inj h
    exact fin_ret (v := (.tuple #[(.agg #[(Sl a28 r25.1 c29), (Sl a31 r25.2 c32)]), (B true)])) (results_ok Try.results32 (res_cell rfl (run_cellRes (cs := [(Sl a28 r25.1 c29), (Sl a31 r25.2 c32)]) Try.underlying26 rfl ti26 rfl (H.cells 0 rfl)) (res_tmp (v := (B true)) rfl res_nil)) rfl) ⟨a28, c29, a31, c32, rfl, rfl, ht30⟩ (H.sel' [1, 2] rfl rfl)

theorem c_laws_FnAddEntryRollBack {code_0 : List UInt8} {acode_0 : Option Addr} {ccode_0 : Nat} {r : Bool} (h : M.laws_FnAddEntryRollBack code_0 = some r) :
    Cal2 Try.prog 7 [(Sl acode_0 code_0 ccode_0)] [Ch.ro 0 (Sl acode_0 code_0 ccode_0) code_0] (fun n0 v L => v = (B r) ∧ L = []) := by
 refine cal2 (n := 81) Try.func7 rfl rfl rfl rfl ?_
 intro S0 σ0 n0 hn0 H
 unfold M.laws_FnAddEntryRollBack at h
 refine c_seq ?_
 refine rg ?_
 refine st (v := (B false)) (rv_assign rfl) ?_
 refine w_end ?_
 refine q_then ?_
 refine c_seq ?_
 refine c_seq ?_
 refine rg ?_
 refine st (v := (Sl acode_0 code_0 ccode_0)) (rv_move rfl) ?_
 refine st (v := (I (code_0.length : Int))) (rv_len Try.underlying22 rfl) ?_
 refine st (v := (B (decide (1048576 < (code_0.length : Int))))) (rv_gtr (a := (code_0.length : Int)) (b := 1048576) rfl rfl) ?_
 refine w_end ?_
 refine q_then ?_
 refine cd_cond (decide (1048576 < (code_0.length : Int))) rfl (fun hb1 => ?_) (fun hb1 => ?_)
 ·replace h := bif_t hb1 h
  refine c_seq ?_
  refine rg ?_
  refine st (v := (B true)) (rv_assign rfl) ?_
  refine w_end ?_
  refine q_then ?_
  refine c_ret ?_
  refine q_then_r ?_
  obtain rfl := Option.some.inj h
  exact fin_ret (v := (B true)) (results_ok Try.results7 (res_tmp (v := (B true)) rfl res_nil) rfl) ⟨rfl, rfl⟩ (H.sel' [] rfl rfl)
 ·replace h := bif_f hb1 h
  refine c_skip ?_
  refine q_then ?_
  refine c_seq ?_
  refine rg ?_
  refine st (v := (Sl acode_0 code_0 ccode_0)) (rv_move rfl) ?_
  obtain ⟨r2, hx3, h'⟩ := bind_some h
  clear h
  have h := h'; clear h'
  have hc4 := c_spec_DrawAddEntry (acode_0 := acode_0) (ccode_0 := ccode_0) hx3
  refine st_call (cx_call hc4 (ent_f hc4.fn rfl) hn0 (show Hp S0 σ0 _ ([Ch.ro 0 (Sl acode_0 code_0 ccode_0) code_0] ++ [Ch.ro 0 (Sl acode_0 code_0 ccode_0) code_0]) from (H.sel' [0, 0] rfl rfl))) wn ?_
  rintro _ σ11 ⟨_, ⟨a5, c6, a7, c8, a9, c10, rfl, rfl⟩, H, -⟩
  replace H : Hp S0 σ0 σ11 [Ch.own n0 n0 (Sl a5 r2.1.1 c6) r2.1.1, Ch.own n0 n0 (Sl a7 r2.1.2 c8) r2.1.2, Ch.own n0 n0 (Sl a9 r2.2.1.2.2.1 c10) r2.2.1.2.2.1, Ch.ro 0 (Sl acode_0 code_0 ccode_0) code_0] := H
  refine st (v := (.tuple #[(.agg #[(Sl a5 r2.1.1 c6), (Sl a7 r2.1.2 c8)]), (.agg #[(I r2.2.1.1), (I r2.2.1.2.1), (Sl a9 r2.2.1.2.2.1 c10), (I r2.2.1.2.2.2)]), (I r2.2.2)])) (rv_move rfl) ?_
  refine st (v := (.agg #[(Sl a5 r2.1.1 c6), (Sl a7 r2.1.2 c8)])) (rv_extract rfl rfl) ?_
  refine st (v := (.agg #[(I r2.2.1.1), (I r2.2.1.2.1), (Sl a9 r2.2.1.2.2.1 c10), (I r2.2.1.2.2.2)])) (rv_extract rfl rfl) ?_
  refine st (v := (I r2.2.2)) (rv_extract rfl rfl) ?_
  refine st_ex (ex_alloc (cs := [(.slice none 0 0), (.slice none 0 0)]) H hn0 ti26 rfl) wn ?_
  rintro _ σ13 ⟨b12, rfl, H, -⟩
  refine st_ex (ex_alloc (cs := [(I 0), (I 0), (.slice none 0 0), (I 0)]) H hn0 ti43 rfl) wn ?_
  rintro _ σ15 ⟨b14, rfl, H, -⟩
  refine st_exS (ex_store_box (k := 0) (cs := [(.slice none 0 0), (.slice none 0 0)]) (vs := [(Sl a5 r2.1.1 c6), (Sl a7 r2.1.2 c8)]) (cs' := [(Sl a5 r2.1.1 c6), (Sl a7 r2.1.2 c8)]) H (i := 1) rfl ti26 rfl rfl rfl rfl rfl (Nat.le_of_ble_eq_true rfl) (by simp [plain]) rfl) wn ?_
  rintro σ16 ⟨H, -⟩
  refine st_exS (ex_store_box (k := 0) (cs := [(I 0), (I 0), (.slice none 0 0), (I 0)]) (vs := [(I r2.2.1.1), (I r2.2.1.2.1), (Sl a9 r2.2.1.2.2.1 c10), (I r2.2.1.2.2.2)]) (cs' := [(I r2.2.1.1), (I r2.2.1.2.1), (Sl a9 r2.2.1.2.2.1 c10), (I r2.2.1.2.2.2)]) H (i := 1) rfl ti43 rfl rfl rfl rfl rfl (Nat.le_of_ble_eq_true rfl) (by simp [plain]) rfl) wn ?_
  rintro σ17 ⟨H, -⟩
  refine st (v := (I r2.2.2)) (rv_assign rfl) ?_
  refine w_end ?_
  refine q_then ?_
  refine c_seq ?_
  refine rg ?_
  have hc18 := H.cells 1 rfl
  refine st (v := (.agg #[(Sl a5 r2.1.1 c6), (Sl a7 r2.1.2 c8)])) (rv_load (cs := [(Sl a5 r2.1.1 c6), (Sl a7 r2.1.2 c8)]) Try.underlying26 rfl ti26 rfl rfl hc18) ?_
  have hc19 := H.cells 0 rfl
  refine st (v := (.agg #[(I r2.2.1.1), (I r2.2.1.2.1), (Sl a9 r2.2.1.2.2.1 c10), (I r2.2.1.2.2.2)])) (rv_load (cs := [(I r2.2.1.1), (I r2.2.1.2.1), (Sl a9 r2.2.1.2.2.1 c10), (I r2.2.1.2.2.2)]) Try.underlying43 rfl ti43 rfl rfl hc19) ?_
  refine st (v := (I r2.2.2)) (rv_move rfl) ?_
  obtain ⟨r20, hx21, h'⟩ := bind_some h
  clear h
  have h := h'; clear h'
  have hc22 := c_impl_AddEntry (ah_0_0 := a5) (ch_0_0 := c6) (ah_0_1 := a7) (ch_0_1 := c8) (ae_1_1_1 := a9) (ce_1_1_1 := c10) hx21
  have hle := Nat.le_trans hn0 H.size
  refine st_call (cx_lend (Loan.lend (Loan.lend (Loan.lend Loan.nil))) hc22 (ent_f hc22.fn rfl) (show Hp S0 σ0 _ ([Ch.own n0 n0 (Sl a5 r2.1.1 c6) r2.1.1, Ch.own n0 n0 (Sl a7 r2.1.2 c8) r2.1.2, Ch.own n0 n0 (Sl a9 r2.2.1.2.2.1 c10) r2.2.1.2.2.1] ++ ([] ++ [Ch.bx n0 b14 0 [(I r2.2.1.1), (I r2.2.1.2.1), (Sl a9 r2.2.1.2.2.1 c10), (I r2.2.1.2.2.2)] [] [], Ch.bx n0 b12 0 [(Sl a5 r2.1.1 c6), (Sl a7 r2.1.2 c8)] [] [], Ch.ro 0 (Sl acode_0 code_0 ccode_0) code_0])) from (H.sel' [2, 3, 4, 0, 1, 5] rfl rfl)) (by rintro _ _ _ ⟨_, _, _, _, rfl, rfl, _⟩; exact ⟨Ab.own (Nat.le_refl _), Ab.ownSc, trivial⟩)) wn ?_
  rintro _ σ28 ⟨_, ⟨a23, c24, a26, c27, rfl, rfl, ht25⟩, H, -, -⟩
  replace H : Hp S0 σ0 σ28 [Ch.own σ17.size σ17.size (Sl a23 r20.1.1 c24) r20.1.1, Ch.own σ17.size σ17.size (Sl a26 r20.1.2 c27) r20.1.2, Ch.own n0 n0 (Sl a5 r2.1.1 c6) r2.1.1, Ch.own n0 n0 (Sl a7 r2.1.2 c8) r2.1.2, Ch.own n0 n0 (Sl a9 r2.2.1.2.2.1 c10) r2.2.1.2.2.1, Ch.bx n0 b14 0 [(I r2.2.1.1), (I r2.2.1.2.1), (Sl a9 r2.2.1.2.2.1 c10), (I r2.2.1.2.2.2)] [] [], Ch.bx n0 b12 0 [(Sl a5 r2.1.1 c6), (Sl a7 r2.1.2 c8)] [] [], Ch.ro 0 (Sl acode_0 code_0 ccode_0) code_0] := H
  replace H := H.ownLow 0 n0 n0 rfl hle hle
  replace H := H.ownLow 1 n0 n0 rfl hle hle
  clear hle
  replace H : Hp S0 σ0 σ28 [Ch.own n0 n0 (Sl a26 r20.1.2 c27) r20.1.2, Ch.own n0 n0 (Sl a23 r20.1.1 c24) r20.1.1, Ch.own n0 n0 (Sl a5 r2.1.1 c6) r2.1.1, Ch.own n0 n0 (Sl a7 r2.1.2 c8) r2.1.2, Ch.own n0 n0 (Sl a9 r2.2.1.2.2.1 c10) r2.2.1.2.2.1, Ch.bx n0 b14 0 [(I r2.2.1.1), (I r2.2.1.2.1), (Sl a9 r2.2.1.2.2.1 c10), (I r2.2.1.2.2.2)] [] [], Ch.bx n0 b12 0 [(Sl a5 r2.1.1 c6), (Sl a7 r2.1.2 c8)] [] [], Ch.ro 0 (Sl acode_0 code_0 ccode_0) code_0] := H
  replace H : Hp S0 σ0 σ28 [Ch.own n0 n0 (Sl a26 r20.1.2 c27) r20.1.2, Ch.own n0 n0 (Sl a23 r20.1.1 c24) r20.1.1, Ch.own n0 n0 (Sl a5 r2.1.1 c6) r2.1.1, Ch.own n0 n0 (Sl a7 r2.1.2 c8) r2.1.2, Ch.own n0 n0 (Sl a9 r2.2.1.2.2.1 c10) r2.2.1.2.2.1, Ch.bx n0 b14 0 [(I r2.2.1.1), (I r2.2.1.2.1), (Sl a9 r2.2.1.2.2.1 c10), (I r2.2.1.2.2.2)] [] [], Ch.bx n0 b12 0 [(Sl a5 r2.1.1 c6), (Sl a7 r2.1.2 c8)] [] []] := H.sel' [0, 1, 2, 3, 4, 5, 6] rfl rfl
  refine st (v := (.tuple #[(.agg #[(Sl a23 r20.1.1 c24), (Sl a26 r20.1.2 c27)]), (B r20.2)])) (rv_move rfl) ?_
  refine st (v := (.agg #[(Sl a23 r20.1.1 c24), (Sl a26 r20.1.2 c27)])) (rv_extract rfl rfl) ?_
  refine st (v := (B r20.2)) (rv_extract rfl rfl) ?_
  refine st_ex (ex_alloc (cs := [(.slice none 0 0), (.slice none 0 0)]) H hn0 ti26 rfl) wn ?_
  rintro _ σ30 ⟨b29, rfl, H, -⟩
  refine st_exS (ex_store_box (k := 0) (cs := [(.slice none 0 0), (.slice none 0 0)]) (vs := [(Sl a23 r20.1.1 c24), (Sl a26 r20.1.2 c27)]) (cs' := [(Sl a23 r20.1.1 c24), (Sl a26 r20.1.2 c27)]) H (i := 0) rfl ti26 rfl rfl rfl rfl rfl (Nat.le_of_ble_eq_true rfl) (by simp [plain]) rfl) wn ?_
  rintro σ31 ⟨H, -⟩
  refine st (v := (B r20.2)) (rv_assign rfl) ?_
  refine w_end ?_
  refine q_then ?_
  refine c_seq ?_
  refine rg ?_
  have hc32 := H.cells 7 rfl
  refine st (v := (.agg #[(Sl a5 r2.1.1 c6), (Sl a7 r2.1.2 c8)])) (rv_load (cs := [(Sl a5 r2.1.1 c6), (Sl a7 r2.1.2 c8)]) Try.underlying26 rfl ti26 rfl rfl hc32) ?_
  have hc33 := H.cells 6 rfl
  refine st (v := (.agg #[(I r2.2.1.1), (I r2.2.1.2.1), (Sl a9 r2.2.1.2.2.1 c10), (I r2.2.1.2.2.2)])) (rv_load (cs := [(I r2.2.1.1), (I r2.2.1.2.1), (Sl a9 r2.2.1.2.2.1 c10), (I r2.2.1.2.2.2)]) Try.underlying43 rfl ti43 rfl rfl hc33) ?_
  refine st (v := (I r2.2.2)) (rv_move rfl) ?_
  obtain ⟨σ34, hw35, H, -⟩ := H.pub 5 rfl (Nat.le_refl _)
  rw [← hw35]; clear hw35
  replace H := H.roLow 0 0 rfl (Nat.zero_le _)
  obtain ⟨r36, hx37, h'⟩ := bind_some h
  clear h
  have h := h'; clear h'
  have hc38 := c_spec_AddEntry (ah_0_0 := a5) (ch_0_0 := c6) (ah_0_1 := a7) (ch_0_1 := c8) (ae_1_1_1 := a9) (ce_1_1_1 := c10) hx37
  have hle := Nat.le_trans hn0 H.size
  refine st_call (cx_lend (Loan.lend (Loan.lend (Loan.same Loan.nil))) hc38 (ent_f hc38.fn rfl) (show Hp S0 σ0 _ ([Ch.own n0 n0 (Sl a5 r2.1.1 c6) r2.1.1, Ch.own n0 n0 (Sl a7 r2.1.2 c8) r2.1.2] ++ ([Ch.ro 0 (Sl a9 r2.2.1.2.2.1 c10) r2.2.1.2.2.1] ++ [Ch.ro 0 (Sl a9 r2.2.1.2.2.1 c10) r2.2.1.2.2.1, Ch.ro n0 (Sl a9 r2.2.1.2.2.1 c10) r2.2.1.2.2.1, Ch.bx n0 b29 0 [(Sl a23 r20.1.1 c24), (Sl a26 r20.1.2 c27)] [] [], Ch.own n0 n0 (Sl a26 r20.1.2 c27) r20.1.2, Ch.own n0 n0 (Sl a23 r20.1.1 c24) r20.1.1, Ch.bx n0 b14 0 [(I r2.2.1.1), (I r2.2.1.2.1), (Sl a9 r2.2.1.2.2.1 c10), (I r2.2.1.2.2.2)] [] [], Ch.bx n0 b12 0 [(Sl a5 r2.1.1 c6), (Sl a7 r2.1.2 c8)] [] []])) from (H.sel' [5, 6, 0, 0, 1, 2, 3, 4, 7, 8] rfl rfl)) (by rintro _ _ _ ⟨_, _, _, _, rfl, rfl⟩; exact ⟨Ab.own (Nat.le_refl _), Ab.ownSc, trivial⟩)) wn ?_
  rintro _ σ43 ⟨_, ⟨a39, c40, a41, c42, rfl, rfl⟩, H, -, -⟩
  replace H : Hp S0 σ0 σ43 [Ch.own σ34.size σ34.size (Sl a39 r36.1.1 c40) r36.1.1, Ch.own σ34.size σ34.size (Sl a41 r36.1.2 c42) r36.1.2, Ch.own n0 n0 (Sl a5 r2.1.1 c6) r2.1.1, Ch.own n0 n0 (Sl a7 r2.1.2 c8) r2.1.2, Ch.ro 0 (Sl a9 r2.2.1.2.2.1 c10) r2.2.1.2.2.1, Ch.ro n0 (Sl a9 r2.2.1.2.2.1 c10) r2.2.1.2.2.1, Ch.bx n0 b29 0 [(Sl a23 r20.1.1 c24), (Sl a26 r20.1.2 c27)] [] [], Ch.own n0 n0 (Sl a26 r20.1.2 c27) r20.1.2, Ch.own n0 n0 (Sl a23 r20.1.1 c24) r20.1.1, Ch.bx n0 b14 0 [(I r2.2.1.1), (I r2.2.1.2.1), (Sl a9 r2.2.1.2.2.1 c10), (I r2.2.1.2.2.2)] [] [], Ch.bx n0 b12 0 [(Sl a5 r2.1.1 c6), (Sl a7 r2.1.2 c8)] [] []] := H
  replace H := H.ownLow 0 n0 n0 rfl hle hle
  replace H := H.ownLow 1 n0 n0 rfl hle hle
  clear hle
  replace H : Hp S0 σ0 σ43 [Ch.own n0 n0 (Sl a41 r36.1.2 c42) r36.1.2, Ch.own n0 n0 (Sl a39 r36.1.1 c40) r36.1.1, Ch.own n0 n0 (Sl a5 r2.1.1 c6) r2.1.1, Ch.own n0 n0 (Sl a7 r2.1.2 c8) r2.1.2, Ch.ro 0 (Sl a9 r2.2.1.2.2.1 c10) r2.2.1.2.2.1, Ch.ro n0 (Sl a9 r2.2.1.2.2.1 c10) r2.2.1.2.2.1, Ch.bx n0 b29 0 [(Sl a23 r20.1.1 c24), (Sl a26 r20.1.2 c27)] [] [], Ch.own n0 n0 (Sl a26 r20.1.2 c27) r20.1.2, Ch.own n0 n0 (Sl a23 r20.1.1 c24) r20.1.1, Ch.bx n0 b14 0 [(I r2.2.1.1), (I r2.2.1.2.1), (Sl a9 r2.2.1.2.2.1 c10), (I r2.2.1.2.2.2)] [] [], Ch.bx n0 b12 0 [(Sl a5 r2.1.1 c6), (Sl a7 r2.1.2 c8)] [] []] := H
  replace H : Hp S0 σ0 σ43 [Ch.own n0 n0 (Sl a41 r36.1.2 c42) r36.1.2, Ch.own n0 n0 (Sl a39 r36.1.1 c40) r36.1.1, Ch.own n0 n0 (Sl a5 r2.1.1 c6) r2.1.1, Ch.own n0 n0 (Sl a7 r2.1.2 c8) r2.1.2, Ch.bx n0 b29 0 [(Sl a23 r20.1.1 c24), (Sl a26 r20.1.2 c27)] [] [], Ch.own n0 n0 (Sl a26 r20.1.2 c27) r20.1.2, Ch.own n0 n0 (Sl a23 r20.1.1 c24) r20.1.1, Ch.bx n0 b12 0 [(Sl a5 r2.1.1 c6), (Sl a7 r2.1.2 c8)] [] []] := H.sel' [0, 1, 2, 3, 6, 7, 8, 10] rfl rfl
  refine st (v := (.tuple #[(.agg #[(Sl a39 r36.1.1 c40), (Sl a41 r36.1.2 c42)]), (B r36.2)])) (rv_move rfl) ?_
  refine st (v := (.agg #[(Sl a39 r36.1.1 c40), (Sl a41 r36.1.2 c42)])) (rv_extract rfl rfl) ?_
  refine st (v := (B r36.2)) (rv_extract rfl rfl) ?_
  refine st_ex (ex_alloc (cs := [(.slice none 0 0), (.slice none 0 0)]) H hn0 ti26 rfl) wn ?_
  rintro _ σ45 ⟨b44, rfl, H, -⟩
  refine st_exS (ex_store_box (k := 0) (cs := [(.slice none 0 0), (.slice none 0 0)]) (vs := [(Sl a39 r36.1.1 c40), (Sl a41 r36.1.2 c42)]) (cs' := [(Sl a39 r36.1.1 c40), (Sl a41 r36.1.2 c42)]) H (i := 0) rfl ti26 rfl rfl rfl rfl rfl (Nat.le_of_ble_eq_true rfl) (by simp [plain]) rfl) wn ?_
  rintro σ46 ⟨H, -⟩
  refine st (v := (B r36.2)) (rv_assign rfl) ?_
  refine w_end ?_
  refine q_then ?_
  refine c_seq ?_
  refine c_seq ?_
  obtain ⟨o47, hj, h'⟩ := bind_some h
  clear h
  refine c_cut (fun e a w => e = .normal ∧ ∃ (ρ : Nat → Value) (σ : St), a = fr 81 (updL ρ [(3, (pt b12 0)), (5, (I r2.2.2)), (6, (pt b29 0)), (7, (B r20.2)), (8, (pt b44 0)), (9, (B r36.2)), (49, (B o47))]) ∧ w = σ.w ∧ Hp S0 σ0 σ [Ch.own n0 n0 (Sl a5 r2.1.1 c6) r2.1.1, Ch.own n0 n0 (Sl a7 r2.1.2 c8) r2.1.2, Ch.bx n0 b12 0 [(Sl a5 r2.1.1 c6), (Sl a7 r2.1.2 c8)] [] [], Ch.own n0 n0 (Sl a23 r20.1.1 c24) r20.1.1, Ch.own n0 n0 (Sl a26 r20.1.2 c27) r20.1.2, Ch.bx n0 b29 0 [(Sl a23 r20.1.1 c24), (Sl a26 r20.1.2 c27)] [] [], Ch.own n0 n0 (Sl a39 r36.1.1 c40) r36.1.1, Ch.own n0 n0 (Sl a41 r36.1.2 c42) r36.1.2, Ch.bx n0 b44 0 [(Sl a39 r36.1.1 c40), (Sl a41 r36.1.2 c42)] [] []]) ?_ ?_
  ·clear h'
   rename _ = some o47 => h
   refine rg ?_
   have hc48 := H.cells 5 rfl
   refine st (v := (.agg #[(Sl a23 r20.1.1 c24), (Sl a26 r20.1.2 c27)])) (rv_load (cs := [(Sl a23 r20.1.1 c24), (Sl a26 r20.1.2 c27)]) Try.underlying26 rfl ti26 rfl rfl hc48) ?_
   have hc49 := H.cells 0 rfl
   refine st (v := (.agg #[(Sl a39 r36.1.1 c40), (Sl a41 r36.1.2 c42)])) (rv_load (cs := [(Sl a39 r36.1.1 c40), (Sl a41 r36.1.2 c42)]) Try.underlying26 rfl ti26 rfl rfl hc49) ?_
   obtain ⟨r50, hx51, h'⟩ := bind_some h
   clear h
   have h := h'; clear h'
   have hc52 := c_laws_equalHistory (aa_0_0 := a23) (ca_0_0 := c24) (aa_0_1 := a26) (ca_0_1 := c27) (ab_1_0 := a39) (cb_1_0 := c40) (ab_1_1 := a41) (cb_1_1 := c42) hx51
   have hle := Nat.le_trans hn0 H.size
   refine st_call (cx_lend (Loan.lend (Loan.lend (Loan.lend (Loan.lend Loan.nil)))) hc52 (ent_f hc52.fn rfl) (show Hp S0 σ0 _ ([Ch.own n0 n0 (Sl a23 r20.1.1 c24) r20.1.1, Ch.own n0 n0 (Sl a26 r20.1.2 c27) r20.1.2, Ch.own n0 n0 (Sl a39 r36.1.1 c40) r36.1.1, Ch.own n0 n0 (Sl a41 r36.1.2 c42) r36.1.2] ++ ([] ++ [Ch.bx n0 b44 0 [(Sl a39 r36.1.1 c40), (Sl a41 r36.1.2 c42)] [] [], Ch.own n0 n0 (Sl a5 r2.1.1 c6) r2.1.1, Ch.own n0 n0 (Sl a7 r2.1.2 c8) r2.1.2, Ch.bx n0 b29 0 [(Sl a23 r20.1.1 c24), (Sl a26 r20.1.2 c27)] [] [], Ch.bx n0 b12 0 [(Sl a5 r2.1.1 c6), (Sl a7 r2.1.2 c8)] [] []])) from (H.sel' [7, 6, 2, 1, 0, 3, 4, 5, 8] rfl rfl)) (by rintro _ _ _ ⟨rfl, rfl⟩; exact trivial)) wn ?_
   rintro _ σ53 ⟨_, ⟨rfl, rfl⟩, H, -, -⟩
   replace H : Hp S0 σ0 σ53 [Ch.own n0 n0 (Sl a23 r20.1.1 c24) r20.1.1, Ch.own n0 n0 (Sl a26 r20.1.2 c27) r20.1.2, Ch.own n0 n0 (Sl a39 r36.1.1 c40) r36.1.1, Ch.own n0 n0 (Sl a41 r36.1.2 c42) r36.1.2, Ch.bx n0 b44 0 [(Sl a39 r36.1.1 c40), (Sl a41 r36.1.2 c42)] [] [], Ch.own n0 n0 (Sl a5 r2.1.1 c6) r2.1.1, Ch.own n0 n0 (Sl a7 r2.1.2 c8) r2.1.2, Ch.bx n0 b29 0 [(Sl a23 r20.1.1 c24), (Sl a26 r20.1.2 c27)] [] [], Ch.bx n0 b12 0 [(Sl a5 r2.1.1 c6), (Sl a7 r2.1.2 c8)] [] []] := H
   clear hle
   replace H : Hp S0 σ0 σ53 [Ch.own n0 n0 (Sl a23 r20.1.1 c24) r20.1.1, Ch.own n0 n0 (Sl a26 r20.1.2 c27) r20.1.2, Ch.own n0 n0 (Sl a39 r36.1.1 c40) r36.1.1, Ch.own n0 n0 (Sl a41 r36.1.2 c42) r36.1.2, Ch.bx n0 b44 0 [(Sl a39 r36.1.1 c40), (Sl a41 r36.1.2 c42)] [] [], Ch.own n0 n0 (Sl a5 r2.1.1 c6) r2.1.1, Ch.own n0 n0 (Sl a7 r2.1.2 c8) r2.1.2, Ch.bx n0 b29 0 [(Sl a23 r20.1.1 c24), (Sl a26 r20.1.2 c27)] [] [], Ch.bx n0 b12 0 [(Sl a5 r2.1.1 c6), (Sl a7 r2.1.2 c8)] [] []] := H
   refine st (v := (B (!r50))) (rv_not rfl) ?_
   refine st (v := (B (!r50))) (rv_move rfl) ?_
   rcases Bool.eq_false_or_eq_true (!r50) with hb54 | hb54
   ·replace h := bif_t hb54 h
    refine st_skip (congrArg some hb54) ?_
    refine st_skip (congrArg some hb54) ?_
    refine st_skip (congrArg some hb54) ?_
    refine st (v := (B true)) (rv_pick_t (congrArg B hb54) rfl) ?_
    refine st (v := (B true)) (rv_move rfl) ?_
    refine st_skip rfl ?_
    refine st_skip rfl ?_
    refine st (v := (B true)) (rv_pick_t rfl rfl) ?_
    refine w_end ?_
    obtain rfl := Option.some.inj h
    exact ⟨rfl, _, σ53, fr_join ⟨rfl, rfl, rfl, rfl, rfl, rfl, rfl, trivial⟩, rfl, H.sel' [5, 6, 8, 0, 1, 7, 2, 3, 4] rfl rfl⟩
   ·replace h := bif_f hb54 h
    refine st_g (v := (B r20.2)) (congrArg some hb54) (rv_move rfl) ?_
    refine st_g (v := (B r36.2)) (congrArg some hb54) (rv_move rfl) ?_
    refine st_g (v := (B (r20.2 != r36.2))) (congrArg some hb54) (rv_bneq Try.underlying4 rfl rfl) ?_
    refine st (v := (B (r20.2 != r36.2))) (rv_pick_f (congrArg B hb54) rfl) ?_
    refine st (v := (B (r20.2 != r36.2))) (rv_move rfl) ?_
    rcases Bool.eq_false_or_eq_true (r20.2 != r36.2) with hb55 | hb55
    ·replace h := bif_t hb55 h
     refine st_skip (congrArg some hb55) ?_
     refine st_skip (congrArg some hb55) ?_
     refine st (v := (B true)) (rv_pick_t (congrArg B hb55) rfl) ?_
     refine w_end ?_
     obtain rfl := Option.some.inj h
     exact ⟨rfl, _, σ53, fr_join ⟨rfl, rfl, rfl, rfl, rfl, rfl, rfl, trivial⟩, rfl, H.sel' [5, 6, 8, 0, 1, 7, 2, 3, 4] rfl rfl⟩
    ·replace h := bif_f hb55 h
     refine st_g (v := (B r20.2)) (congrArg some hb55) (rv_move rfl) ?_
     refine st_g (v := (B (!r20.2))) (congrArg some hb55) (rv_not rfl) ?_
     refine st (v := (B (!r20.2))) (rv_pick_f (congrArg B hb55) rfl) ?_
     refine w_end ?_
     obtain rfl := Option.some.inj h
     exact ⟨rfl, _, σ53, fr_join ⟨rfl, rfl, rfl, rfl, rfl, rfl, rfl, trivial⟩, rfl, H.sel' [5, 6, 8, 0, 1, 7, 2, 3, 4] rfl rfl⟩
  ·clear hj
   have h := h'
   clear h' H
   rintro e a w ⟨rfl, ρ, σ56, rfl, rfl, H⟩
   refine q_then ?_
   refine cd_cond o47 rfl (fun hb57 => ?_) (fun hb57 => ?_)
   ·replace h := bif_t hb57 h
    refine c_seq ?_
    refine rg ?_
    have hc58 := H.cells 5 rfl
    refine st (v := (.agg #[(Sl a23 r20.1.1 c24), (Sl a26 r20.1.2 c27)])) (rv_load (cs := [(Sl a23 r20.1.1 c24), (Sl a26 r20.1.2 c27)]) Try.underlying26 rfl ti26 rfl rfl hc58) ?_
    have hc59 := H.cells 8 rfl
    refine st (v := (.agg #[(Sl a39 r36.1.1 c40), (Sl a41 r36.1.2 c42)])) (rv_load (cs := [(Sl a39 r36.1.1 c40), (Sl a41 r36.1.2 c42)]) Try.underlying26 rfl ti26 rfl rfl hc59) ?_
    obtain ⟨σ60, hw61, H, -⟩ := H.pub 3 rfl (Nat.le_refl _)
    rw [← hw61]; clear hw61
    obtain ⟨σ62, hw63, H, -⟩ := H.pub 4 rfl (Nat.le_refl _)
    rw [← hw63]; clear hw63
    obtain ⟨σ64, hw65, H, -⟩ := H.pub 6 rfl (Nat.le_refl _)
    rw [← hw65]; clear hw65
    obtain ⟨σ66, hw67, H, -⟩ := H.pub 7 rfl (Nat.le_refl _)
    rw [← hw67]; clear hw67
    replace H := H.roLow 3 0 rfl (Nat.zero_le _)
    replace H := H.roLow 3 0 rfl (Nat.zero_le _)
    replace H := H.roLow 3 0 rfl (Nat.zero_le _)
    replace H := H.roLow 3 0 rfl (Nat.zero_le _)
    obtain ⟨r68, hx69, h'⟩ := bind_some h
    clear h
    have h := h'; clear h'
    have hc70 := c_laws_equalHistory (aa_0_0 := a23) (ca_0_0 := c24) (aa_0_1 := a26) (ca_0_1 := c27) (ab_1_0 := a39) (cb_1_0 := c40) (ab_1_1 := a41) (cb_1_1 := c42) hx69
    refine st_call (cx_call hc70 (ent_f hc70.fn rfl) hn0 (show Hp S0 σ0 _ ([Ch.ro 0 (Sl a23 r20.1.1 c24) r20.1.1, Ch.ro 0 (Sl a26 r20.1.2 c27) r20.1.2, Ch.ro 0 (Sl a39 r36.1.1 c40) r36.1.1, Ch.ro 0 (Sl a41 r36.1.2 c42) r36.1.2] ++ [Ch.ro 0 (Sl a41 r36.1.2 c42) r36.1.2, Ch.ro 0 (Sl a39 r36.1.1 c40) r36.1.1, Ch.ro 0 (Sl a26 r20.1.2 c27) r20.1.2, Ch.ro 0 (Sl a23 r20.1.1 c24) r20.1.1, Ch.ro n0 (Sl a41 r36.1.2 c42) r36.1.2, Ch.ro n0 (Sl a39 r36.1.1 c40) r36.1.1, Ch.ro n0 (Sl a26 r20.1.2 c27) r20.1.2, Ch.ro n0 (Sl a23 r20.1.1 c24) r20.1.1, Ch.own n0 n0 (Sl a5 r2.1.1 c6) r2.1.1, Ch.own n0 n0 (Sl a7 r2.1.2 c8) r2.1.2, Ch.bx n0 b12 0 [(Sl a5 r2.1.1 c6), (Sl a7 r2.1.2 c8)] [] [], Ch.bx n0 b29 0 [(Sl a23 r20.1.1 c24), (Sl a26 r20.1.2 c27)] [] [], Ch.bx n0 b44 0 [(Sl a39 r36.1.1 c40), (Sl a41 r36.1.2 c42)] [] []]) from (H.sel' [3, 2, 1, 0, 0, 1, 2, 3, 4, 5, 6, 7, 8, 9, 10, 11, 12] rfl rfl))) wn ?_
    rintro _ σ71 ⟨_, ⟨rfl, rfl⟩, H, -⟩
    replace H : Hp S0 σ0 σ71 [Ch.ro 0 (Sl a41 r36.1.2 c42) r36.1.2, Ch.ro 0 (Sl a39 r36.1.1 c40) r36.1.1, Ch.ro 0 (Sl a26 r20.1.2 c27) r20.1.2, Ch.ro 0 (Sl a23 r20.1.1 c24) r20.1.1, Ch.ro n0 (Sl a41 r36.1.2 c42) r36.1.2, Ch.ro n0 (Sl a39 r36.1.1 c40) r36.1.1, Ch.ro n0 (Sl a26 r20.1.2 c27) r20.1.2, Ch.ro n0 (Sl a23 r20.1.1 c24) r20.1.1, Ch.own n0 n0 (Sl a5 r2.1.1 c6) r2.1.1, Ch.own n0 n0 (Sl a7 r2.1.2 c8) r2.1.2, Ch.bx n0 b12 0 [(Sl a5 r2.1.1 c6), (Sl a7 r2.1.2 c8)] [] [], Ch.bx n0 b29 0 [(Sl a23 r20.1.1 c24), (Sl a26 r20.1.2 c27)] [] [], Ch.bx n0 b44 0 [(Sl a39 r36.1.1 c40), (Sl a41 r36.1.2 c42)] [] []] := H
    replace H : Hp S0 σ0 σ71 [] := H.sel' [] rfl rfl
    refine st (v := (B r68)) (rv_move rfl) ?_
    rcases Bool.eq_false_or_eq_true r68 with hb72 | hb72
    ·replace h := bif_t hb72 h
     refine st_g (v := (B r20.2)) (congrArg some hb72) (rv_move rfl) ?_
     refine st_g (v := (B r36.2)) (congrArg some hb72) (rv_move rfl) ?_
     refine st_g (v := (B (r20.2 == r36.2))) (congrArg some hb72) (rv_beql Try.underlying4 rfl rfl) ?_
     refine st (v := (B (r20.2 == r36.2))) (rv_pick_t (congrArg B hb72) rfl) ?_
     refine st (v := (B (r20.2 == r36.2))) (rv_assign rfl) ?_
     refine w_end ?_
     refine q_then ?_
     refine c_ret ?_
     refine q_then_r ?_
     obtain rfl := Option.some.inj h
     exact fin_ret (v := (B (r20.2 == r36.2))) (results_ok Try.results7 (res_tmp (v := (B (r20.2 == r36.2))) rfl res_nil) rfl) ⟨rfl, rfl⟩ (H.sel' [] rfl rfl)
    ·replace h := bif_f hb72 h
     refine st_skip (congrArg some hb72) ?_
     refine st_skip (congrArg some hb72) ?_
     refine st_skip (congrArg some hb72) ?_
     refine st (v := (B false)) (rv_pick_f (congrArg B hb72) rfl) ?_
     refine st (v := (B false)) (rv_assign rfl) ?_
     refine w_end ?_
     refine q_then ?_
     refine c_ret ?_
     refine q_then_r ?_
     obtain rfl := Option.some.inj h
     exact fin_ret (v := (B false)) (results_ok Try.results7 (res_tmp (v := (B false)) rfl res_nil) rfl) ⟨rfl, rfl⟩ (H.sel' [] rfl rfl)
   ·replace h := bif_f hb57 h
    refine c_skip ?_
    refine q_then ?_
    refine c_seq ?_
    refine rg ?_
    have hc73 := H.cells 5 rfl
    refine st (v := (.agg #[(Sl a23 r20.1.1 c24), (Sl a26 r20.1.2 c27)])) (rv_load (cs := [(Sl a23 r20.1.1 c24), (Sl a26 r20.1.2 c27)]) Try.underlying26 rfl ti26 rfl rfl hc73) ?_
    refine st (v := (I r2.2.2)) (rv_move rfl) ?_
    refine st (v := (I (w64 (r2.2.2 - 1)))) (rv_sub (a := r2.2.2) (b := 1) rfl rfl) ?_
    obtain ⟨σ74, hw75, H, -⟩ := H.pub 3 rfl (Nat.le_refl _)
    rw [← hw75]; clear hw75
    obtain ⟨σ76, hw77, H, -⟩ := H.pub 4 rfl (Nat.le_refl _)
    rw [← hw77]; clear hw77
    replace H := H.roLow 1 0 rfl (Nat.zero_le _)
    replace H := H.roLow 1 0 rfl (Nat.zero_le _)
    obtain ⟨r78, hx79, h'⟩ := bind_some h
    clear h
    have h := h'; clear h'
    have hc80 := c_impl_RollBack (ah_0_0 := a23) (ch_0_0 := c24) (ah_0_1 := a26) (ch_0_1 := c27) hx79
    refine st_call (cx_call hc80 (ent_f hc80.fn rfl) hn0 (show Hp S0 σ0 _ ([Ch.ro 0 (Sl a23 r20.1.1 c24) r20.1.1, Ch.ro 0 (Sl a26 r20.1.2 c27) r20.1.2] ++ [Ch.ro 0 (Sl a26 r20.1.2 c27) r20.1.2, Ch.ro 0 (Sl a23 r20.1.1 c24) r20.1.1, Ch.ro n0 (Sl a26 r20.1.2 c27) r20.1.2, Ch.ro n0 (Sl a23 r20.1.1 c24) r20.1.1, Ch.own n0 n0 (Sl a5 r2.1.1 c6) r2.1.1, Ch.own n0 n0 (Sl a7 r2.1.2 c8) r2.1.2, Ch.bx n0 b12 0 [(Sl a5 r2.1.1 c6), (Sl a7 r2.1.2 c8)] [] [], Ch.bx n0 b29 0 [(Sl a23 r20.1.1 c24), (Sl a26 r20.1.2 c27)] [] [], Ch.own n0 n0 (Sl a39 r36.1.1 c40) r36.1.1, Ch.own n0 n0 (Sl a41 r36.1.2 c42) r36.1.2, Ch.bx n0 b44 0 [(Sl a39 r36.1.1 c40), (Sl a41 r36.1.2 c42)] [] []]) from (H.sel' [1, 0, 0, 1, 2, 3, 4, 5, 6, 7, 8, 9, 10] rfl rfl))) wn ?_
    rintro _ σ86 ⟨_, ⟨a81, c82, a84, c85, rfl, rfl, ht83⟩, H, -⟩
    replace H : Hp S0 σ0 σ86 [Ch.own n0 n0 (Sl a81 r78.1.1 c82) r78.1.1, Ch.own n0 n0 (Sl a84 r78.1.2 c85) r78.1.2, Ch.ro 0 (Sl a26 r20.1.2 c27) r20.1.2, Ch.ro 0 (Sl a23 r20.1.1 c24) r20.1.1, Ch.ro n0 (Sl a26 r20.1.2 c27) r20.1.2, Ch.ro n0 (Sl a23 r20.1.1 c24) r20.1.1, Ch.own n0 n0 (Sl a5 r2.1.1 c6) r2.1.1, Ch.own n0 n0 (Sl a7 r2.1.2 c8) r2.1.2, Ch.bx n0 b12 0 [(Sl a5 r2.1.1 c6), (Sl a7 r2.1.2 c8)] [] [], Ch.bx n0 b29 0 [(Sl a23 r20.1.1 c24), (Sl a26 r20.1.2 c27)] [] [], Ch.own n0 n0 (Sl a39 r36.1.1 c40) r36.1.1, Ch.own n0 n0 (Sl a41 r36.1.2 c42) r36.1.2, Ch.bx n0 b44 0 [(Sl a39 r36.1.1 c40), (Sl a41 r36.1.2 c42)] [] []] := H
    replace H : Hp S0 σ0 σ86 [Ch.own n0 n0 (Sl a81 r78.1.1 c82) r78.1.1, Ch.own n0 n0 (Sl a84 r78.1.2 c85) r78.1.2, Ch.own n0 n0 (Sl a5 r2.1.1 c6) r2.1.1, Ch.own n0 n0 (Sl a7 r2.1.2 c8) r2.1.2, Ch.bx n0 b12 0 [(Sl a5 r2.1.1 c6), (Sl a7 r2.1.2 c8)] [] []] := H.sel' [0, 1, 6, 7, 8] rfl rfl
    refine st (v := (.tuple #[(.agg #[(Sl a81 r78.1.1 c82), (Sl a84 r78.1.2 c85)]), (B r78.2)])) (rv_move rfl) ?_
    refine st (v := (.agg #[(Sl a81 r78.1.1 c82), (Sl a84 r78.1.2 c85)])) (rv_extract rfl rfl) ?_
    refine st (v := (B r78.2)) (rv_extract rfl rfl) ?_
    refine st_ex (ex_alloc (cs := [(.slice none 0 0), (.slice none 0 0)]) H hn0 ti26 rfl) wn ?_
    rintro _ σ88 ⟨b87, rfl, H, -⟩
    refine st_exS (ex_store_box (k := 0) (cs := [(.slice none 0 0), (.slice none 0 0)]) (vs := [(Sl a81 r78.1.1 c82), (Sl a84 r78.1.2 c85)]) (cs' := [(Sl a81 r78.1.1 c82), (Sl a84 r78.1.2 c85)]) H (i := 0) rfl ti26 rfl rfl rfl rfl rfl (Nat.le_of_ble_eq_true rfl) (by simp [plain]) rfl) wn ?_
    rintro σ89 ⟨H, -⟩
    refine st (v := (B r78.2)) (rv_assign rfl) ?_
    refine w_end ?_
    refine q_then ?_
    refine c_seq ?_
    refine rg ?_
    have hc90 := H.cells 5 rfl
    refine st (v := (.agg #[(Sl a5 r2.1.1 c6), (Sl a7 r2.1.2 c8)])) (rv_load (cs := [(Sl a5 r2.1.1 c6), (Sl a7 r2.1.2 c8)]) Try.underlying26 rfl ti26 rfl rfl hc90) ?_
    refine st (v := (I r2.2.2)) (rv_move rfl) ?_
    refine st (v := (I (w64 (r2.2.2 - 1)))) (rv_sub (a := r2.2.2) (b := 1) rfl rfl) ?_
    obtain ⟨σ91, hw92, H, -⟩ := H.pub 3 rfl (Nat.le_refl _)
    rw [← hw92]; clear hw92
    obtain ⟨σ93, hw94, H, -⟩ := H.pub 4 rfl (Nat.le_refl _)
    rw [← hw94]; clear hw94
    replace H := H.roLow 1 0 rfl (Nat.zero_le _)
    replace H := H.roLow 1 0 rfl (Nat.zero_le _)
    obtain ⟨r95, hx96, h'⟩ := bind_some h
    clear h
    have h := h'; clear h'
    have hc97 := c_impl_RollBack (ah_0_0 := a5) (ch_0_0 := c6) (ah_0_1 := a7) (ch_0_1 := c8) hx96
    refine st_call (cx_call hc97 (ent_f hc97.fn rfl) hn0 (show Hp S0 σ0 _ ([Ch.ro 0 (Sl a5 r2.1.1 c6) r2.1.1, Ch.ro 0 (Sl a7 r2.1.2 c8) r2.1.2] ++ [Ch.ro 0 (Sl a7 r2.1.2 c8) r2.1.2, Ch.ro 0 (Sl a5 r2.1.1 c6) r2.1.1, Ch.ro n0 (Sl a7 r2.1.2 c8) r2.1.2, Ch.ro n0 (Sl a5 r2.1.1 c6) r2.1.1, Ch.bx n0 b87 0 [(Sl a81 r78.1.1 c82), (Sl a84 r78.1.2 c85)] [] [], Ch.own n0 n0 (Sl a81 r78.1.1 c82) r78.1.1, Ch.own n0 n0 (Sl a84 r78.1.2 c85) r78.1.2, Ch.bx n0 b12 0 [(Sl a5 r2.1.1 c6), (Sl a7 r2.1.2 c8)] [] []]) from (H.sel' [1, 0, 0, 1, 2, 3, 4, 5, 6, 7] rfl rfl))) wn ?_
    rintro _ σ103 ⟨_, ⟨a98, c99, a101, c102, rfl, rfl, ht100⟩, H, -⟩
    replace H : Hp S0 σ0 σ103 [Ch.own n0 n0 (Sl a98 r95.1.1 c99) r95.1.1, Ch.own n0 n0 (Sl a101 r95.1.2 c102) r95.1.2, Ch.ro 0 (Sl a7 r2.1.2 c8) r2.1.2, Ch.ro 0 (Sl a5 r2.1.1 c6) r2.1.1, Ch.ro n0 (Sl a7 r2.1.2 c8) r2.1.2, Ch.ro n0 (Sl a5 r2.1.1 c6) r2.1.1, Ch.bx n0 b87 0 [(Sl a81 r78.1.1 c82), (Sl a84 r78.1.2 c85)] [] [], Ch.own n0 n0 (Sl a81 r78.1.1 c82) r78.1.1, Ch.own n0 n0 (Sl a84 r78.1.2 c85) r78.1.2, Ch.bx n0 b12 0 [(Sl a5 r2.1.1 c6), (Sl a7 r2.1.2 c8)] [] []] := H
    replace H : Hp S0 σ0 σ103 [Ch.own n0 n0 (Sl a98 r95.1.1 c99) r95.1.1, Ch.own n0 n0 (Sl a101 r95.1.2 c102) r95.1.2, Ch.bx n0 b87 0 [(Sl a81 r78.1.1 c82), (Sl a84 r78.1.2 c85)] [] [], Ch.own n0 n0 (Sl a81 r78.1.1 c82) r78.1.1, Ch.own n0 n0 (Sl a84 r78.1.2 c85) r78.1.2] := H.sel' [0, 1, 6, 7, 8] rfl rfl
    refine st (v := (.tuple #[(.agg #[(Sl a98 r95.1.1 c99), (Sl a101 r95.1.2 c102)]), (B r95.2)])) (rv_move rfl) ?_
    refine st (v := (.agg #[(Sl a98 r95.1.1 c99), (Sl a101 r95.1.2 c102)])) (rv_extract rfl rfl) ?_
    refine st (v := (B r95.2)) (rv_extract rfl rfl) ?_
    refine st_ex (ex_alloc (cs := [(.slice none 0 0), (.slice none 0 0)]) H hn0 ti26 rfl) wn ?_
    rintro _ σ105 ⟨b104, rfl, H, -⟩
    refine st_exS (ex_store_box (k := 0) (cs := [(.slice none 0 0), (.slice none 0 0)]) (vs := [(Sl a98 r95.1.1 c99), (Sl a101 r95.1.2 c102)]) (cs' := [(Sl a98 r95.1.1 c99), (Sl a101 r95.1.2 c102)]) H (i := 0) rfl ti26 rfl rfl rfl rfl rfl (Nat.le_of_ble_eq_true rfl) (by simp [plain]) rfl) wn ?_
    rintro σ106 ⟨H, -⟩
    refine st (v := (B r95.2)) (rv_assign rfl) ?_
    refine w_end ?_
    refine q_then ?_
    refine c_seq ?_
    refine rg ?_
    refine st (v := (B r78.2)) (rv_move rfl) ?_
    refine st (v := (B r78.2)) (rv_move rfl) ?_
    rcases Bool.eq_false_or_eq_true r78.2 with hb107 | hb107
    ·replace h := bif_t hb107 h
     refine st_g (v := (B r95.2)) (congrArg some hb107) (rv_move rfl) ?_
     refine st (v := (B r95.2)) (rv_pick_t (congrArg B hb107) rfl) ?_
     refine st (v := (B r95.2)) (rv_move rfl) ?_
     rcases Bool.eq_false_or_eq_true r95.2 with hb108 | hb108
     ·replace h := bif_t hb108 h
      have hc109 := H.cells 3 rfl
      refine st_g (v := (.agg #[(Sl a81 r78.1.1 c82), (Sl a84 r78.1.2 c85)])) (congrArg some hb108) (rv_load (cs := [(Sl a81 r78.1.1 c82), (Sl a84 r78.1.2 c85)]) Try.underlying26 rfl ti26 rfl rfl hc109) ?_
      have hc110 := H.cells 0 rfl
      refine st_g (v := (.agg #[(Sl a98 r95.1.1 c99), (Sl a101 r95.1.2 c102)])) (congrArg some hb108) (rv_load (cs := [(Sl a98 r95.1.1 c99), (Sl a101 r95.1.2 c102)]) Try.underlying26 rfl ti26 rfl rfl hc110) ?_
      obtain ⟨σ111, hw112, H, -⟩ := H.pub 4 rfl (Nat.le_refl _)
      rw [← hw112]; clear hw112
      obtain ⟨σ113, hw114, H, -⟩ := H.pub 5 rfl (Nat.le_refl _)
      rw [← hw114]; clear hw114
      obtain ⟨σ115, hw116, H, -⟩ := H.pub 3 rfl (Nat.le_refl _)
      rw [← hw116]; clear hw116
      obtain ⟨σ117, hw118, H, -⟩ := H.pub 4 rfl (Nat.le_refl _)
      rw [← hw118]; clear hw118
      replace H := H.roLow 3 0 rfl (Nat.zero_le _)
      replace H := H.roLow 3 0 rfl (Nat.zero_le _)
      replace H := H.roLow 3 0 rfl (Nat.zero_le _)
      replace H := H.roLow 3 0 rfl (Nat.zero_le _)
      obtain ⟨r119, hx120, h'⟩ := bind_some h
      clear h
      have h := h'; clear h'
      have hc121 := c_laws_equalHistory (aa_0_0 := a81) (ca_0_0 := c82) (aa_0_1 := a84) (ca_0_1 := c85) (ab_1_0 := a98) (cb_1_0 := c99) (ab_1_1 := a101) (cb_1_1 := c102) hx120
      refine st_call (cx_call hc121 (ent_f hc121.fn rfl) hn0 (show Hp S0 σ0 _ ([Ch.ro 0 (Sl a81 r78.1.1 c82) r78.1.1, Ch.ro 0 (Sl a84 r78.1.2 c85) r78.1.2, Ch.ro 0 (Sl a98 r95.1.1 c99) r95.1.1, Ch.ro 0 (Sl a101 r95.1.2 c102) r95.1.2] ++ [Ch.ro 0 (Sl a101 r95.1.2 c102) r95.1.2, Ch.ro 0 (Sl a98 r95.1.1 c99) r95.1.1, Ch.ro 0 (Sl a84 r78.1.2 c85) r78.1.2, Ch.ro 0 (Sl a81 r78.1.1 c82) r78.1.1, Ch.ro n0 (Sl a101 r95.1.2 c102) r95.1.2, Ch.ro n0 (Sl a98 r95.1.1 c99) r95.1.1, Ch.ro n0 (Sl a84 r78.1.2 c85) r78.1.2, Ch.ro n0 (Sl a81 r78.1.1 c82) r78.1.1, Ch.bx n0 b104 0 [(Sl a98 r95.1.1 c99), (Sl a101 r95.1.2 c102)] [] [], Ch.bx n0 b87 0 [(Sl a81 r78.1.1 c82), (Sl a84 r78.1.2 c85)] [] []]) from (H.sel' [3, 2, 1, 0, 0, 1, 2, 3, 4, 5, 6, 7, 8, 9] rfl rfl))) (wanted_yes rfl (by exact (congrArg some hb108))) ?_
      rintro _ σ122 ⟨_, ⟨rfl, rfl⟩, H, -⟩
      replace H : Hp S0 σ0 σ122 [Ch.ro 0 (Sl a101 r95.1.2 c102) r95.1.2, Ch.ro 0 (Sl a98 r95.1.1 c99) r95.1.1, Ch.ro 0 (Sl a84 r78.1.2 c85) r78.1.2, Ch.ro 0 (Sl a81 r78.1.1 c82) r78.1.1, Ch.ro n0 (Sl a101 r95.1.2 c102) r95.1.2, Ch.ro n0 (Sl a98 r95.1.1 c99) r95.1.1, Ch.ro n0 (Sl a84 r78.1.2 c85) r78.1.2, Ch.ro n0 (Sl a81 r78.1.1 c82) r78.1.1, Ch.bx n0 b104 0 [(Sl a98 r95.1.1 c99), (Sl a101 r95.1.2 c102)] [] [], Ch.bx n0 b87 0 [(Sl a81 r78.1.1 c82), (Sl a84 r78.1.2 c85)] [] []] := H
      replace H : Hp S0 σ0 σ122 [] := H.sel' [] rfl rfl
      refine st (v := (B r119)) (rv_pick_t (congrArg B hb108) rfl) ?_
      refine st (v := (B r119)) (rv_assign rfl) ?_
      refine w_end ?_
      refine q_then ?_
      refine c_ret ?_
      obtain rfl := Option.some.inj h
      exact fin_ret (v := (B r119)) (results_ok Try.results7 (res_tmp (v := (B r119)) rfl res_nil) rfl) ⟨rfl, rfl⟩ (H.sel' [] rfl rfl)
     ·replace h := bif_f hb108 h
      refine st_skip (congrArg some hb108) ?_
      refine st_skip (congrArg some hb108) ?_
      refine st_skip (congrArg some hb108) ?_
      refine st (v := (B false)) (rv_pick_f (congrArg B hb108) rfl) ?_
      refine st (v := (B false)) (rv_assign rfl) ?_
      refine w_end ?_
      refine q_then ?_
      refine c_ret ?_
      obtain rfl := Option.some.inj h
      exact fin_ret (v := (B false)) (results_ok Try.results7 (res_tmp (v := (B false)) rfl res_nil) rfl) ⟨rfl, rfl⟩ (H.sel' [] rfl rfl)
    ·replace h := bif_f hb107 h
     refine st_skip (congrArg some hb107) ?_
     refine st (v := (B false)) (rv_pick_f (congrArg B hb107) rfl) ?_
     refine st (v := (B false)) (rv_move rfl) ?_
     refine st_skip rfl ?_
     refine st_skip rfl ?_
     refine st_skip rfl ?_
     refine st (v := (B false)) (rv_pick_f rfl rfl) ?_
     refine st (v := (B false)) (rv_assign rfl) ?_
     refine w_end ?_
     refine q_then ?_
     refine c_ret ?_
     obtain rfl := Option.some.inj h
     exact fin_ret (v := (B false)) (results_ok Try.results7 (res_tmp (v := (B false)) rfl res_nil) rfl) ⟨rfl, rfl⟩ (H.sel' [] rfl rfl)

end Go.Vs
