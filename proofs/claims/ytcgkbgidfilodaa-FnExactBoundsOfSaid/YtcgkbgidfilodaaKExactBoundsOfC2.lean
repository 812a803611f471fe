/- The functions compute what their models say. -/
import Derived.Test.YtcgkbgidfilodaaKExactBoundsOfC1
set_option linter.unusedVariables false
set_option linter.unusedSimpArgs false
set_option maxRecDepth 20000
namespace Go.Vs
open Go Go.Proofs
attribute [local irreducible] Code.wp Code.wpIn wpList wpListIn wpQuiet Calls CallsIn

theorem c_impl_validItem {x_0 : Int × (List Int) × Int} {ax_0_1 : Option Addr} {cx_0_1 : Nat} {r : Bool} (h : M.impl_validItem x_0 = some r) :
    Cal2 Try.prog 82 [(.agg #[(I x_0.1), (Sl ax_0_1 x_0.2.1 cx_0_1), (I x_0.2.2)])] [Ch.ro 0 (Sl ax_0_1 x_0.2.1 cx_0_1) x_0.2.1] (fun n0 v L => v = (B r) ∧ L = []) := by
 refine cal2 (n := 21) Try.func82 rfl rfl rfl rfl ?_
 intro S0 σ0 n0 hn0 H
 unfold M.impl_validItem at h
 refine c_seq ?_
 refine rg ?_
 refine st_ex (ex_box (cs := [(I x_0.1), (Sl ax_0_1 x_0.2.1 cx_0_1), (I x_0.2.2)]) H hn0 rfl rfl) (wanted_none _ rfl _) ?_
 rintro _ σ2 ⟨b1, rfl, H, -⟩
 refine st (v := (B false)) (rv_assign rfl) ?_
 refine w_end ?_
 refine q_then ?_
 refine c_seq ?_
 refine rg ?_
 refine st (v := (pt b1 0)) (rv_fieldAddr (off := 0) (ft := 3) Try.underlying31 rfl ti3 rfl rfl) ?_
 have hc3 := H.cell (u := (I x_0.1)) (o' := 0) 0 0 rfl rfl rfl
 refine st (v := (I x_0.1)) (rv_load1 Try.underlying3 rfl rfl hc3) ?_
 obtain ⟨r4, hx5, h'⟩ := bind_some h
 clear h
 have h := h'; clear h'
 have hc6 := c_impl_validKey hx5
 refine st_call (cx_call hc6 (ent_f hc6.fn rfl) hn0 (show Hp S0 σ0 _ ([] ++ [Ch.bx n0 b1 0 [(I x_0.1), (Sl ax_0_1 x_0.2.1 cx_0_1), (I x_0.2.2)] [] [], Ch.ro 0 (Sl ax_0_1 x_0.2.1 cx_0_1) x_0.2.1]) from (H.sel' [0, 1] rfl rfl))) (wanted_none _ rfl _) ?_
 rintro _ σ7 ⟨_, ⟨rfl, rfl⟩, H, -⟩
 replace H : Hp S0 σ0 σ7 [Ch.bx n0 b1 0 [(I x_0.1), (Sl ax_0_1 x_0.2.1 cx_0_1), (I x_0.2.2)] [] [], Ch.ro 0 (Sl ax_0_1 x_0.2.1 cx_0_1) x_0.2.1] := H
 refine st (v := (B r4)) (rv_move rfl) ?_
 rcases Bool.eq_false_or_eq_true r4 with hb8 | hb8
 ·replace h := bif_t hb8 h
  refine st_g (v := (pt b1 1)) (congrArg some hb8) (rv_fieldAddr (off := 1) (ft := 24) Try.underlying31 rfl ti24 rfl rfl) ?_
  have hc9 := H.cell (u := (Sl ax_0_1 x_0.2.1 cx_0_1)) (o' := 1) 0 1 rfl rfl rfl
  refine st_g (v := (Sl ax_0_1 x_0.2.1 cx_0_1)) (congrArg some hb8) (rv_load1 Try.underlying24 rfl rfl hc9) ?_
  obtain ⟨r10, hx11, h'⟩ := bind_some h
  clear h
  have h := h'; clear h'
  have hc12 := c_impl_ValidVector (av_0 := ax_0_1) (cv_0 := cx_0_1) hx11
  refine st_call (cx_call hc12 (ent_f hc12.fn rfl) hn0 (show Hp S0 σ0 _ ([Ch.ro 0 (Sl ax_0_1 x_0.2.1 cx_0_1) x_0.2.1] ++ [Ch.bx n0 b1 0 [(I x_0.1), (Sl ax_0_1 x_0.2.1 cx_0_1), (I x_0.2.2)] [] [], Ch.ro 0 (Sl ax_0_1 x_0.2.1 cx_0_1) x_0.2.1]) from (H.sel' [1, 0, 1] rfl rfl))) (wanted_yes rfl (by exact (congrArg some hb8))) ?_
  rintro _ σ13 ⟨_, ⟨rfl, rfl⟩, H, -⟩
  replace H : Hp S0 σ0 σ13 [Ch.bx n0 b1 0 [(I x_0.1), (Sl ax_0_1 x_0.2.1 cx_0_1), (I x_0.2.2)] [] [], Ch.ro 0 (Sl ax_0_1 x_0.2.1 cx_0_1) x_0.2.1] := H
  refine st (v := (B r10)) (rv_pick_t (congrArg B hb8) rfl) ?_
  refine st (v := (B r10)) (rv_move rfl) ?_
  rcases Bool.eq_false_or_eq_true r10 with hb14 | hb14
  ·replace h := bif_t hb14 h
   refine st_g (v := (pt b1 2)) (congrArg some hb14) (rv_fieldAddr (off := 2) (ft := 3) Try.underlying31 rfl ti3 rfl rfl) ?_
   have hc15 := H.cell (u := (I x_0.2.2)) (o' := 2) 0 2 rfl rfl rfl
   refine st_g (v := (I x_0.2.2)) (congrArg some hb14) (rv_load1 Try.underlying3 rfl rfl hc15) ?_
   refine st_g (v := (B (decide (0 ≤ x_0.2.2)))) (congrArg some hb14) (rv_geq (a := x_0.2.2) (b := 0) rfl rfl) ?_
   refine st (v := (B (decide (0 ≤ x_0.2.2)))) (rv_pick_t (congrArg B hb14) rfl) ?_
   refine st (v := (B (decide (0 ≤ x_0.2.2)))) (rv_move rfl) ?_
   rcases Bool.eq_false_or_eq_true (decide (0 ≤ x_0.2.2)) with hb16 | hb16
   ·replace h := bif_t hb16 h
    refine st_g (v := (pt b1 2)) (congrArg some hb16) (rv_fieldAddr (off := 2) (ft := 3) Try.underlying31 rfl ti3 rfl rfl) ?_
    have hc17 := H.cell (u := (I x_0.2.2)) (o' := 2) 0 2 rfl rfl rfl
    refine st_g (v := (I x_0.2.2)) (congrArg some hb16) (rv_load1 Try.underlying3 rfl rfl hc17) ?_
    refine st_g (v := (B (decide (x_0.2.2 ≤ 15)))) (congrArg some hb16) (rv_leq (a := x_0.2.2) (b := 15) rfl rfl) ?_
    refine st (v := (B (decide (x_0.2.2 ≤ 15)))) (rv_pick_t (congrArg B hb16) rfl) ?_
    refine st (v := (B (decide (x_0.2.2 ≤ 15)))) (rv_assign rfl) ?_
    refine w_end ?_
    refine q_then ?_
    refine c_ret ?_
    obtain rfl := Option.some.inj h
    exact fin_ret (v := (B (decide (x_0.2.2 ≤ 15)))) (results_ok Try.results82 (res_tmp (v := (B (decide (x_0.2.2 ≤ 15)))) rfl res_nil) rfl) ⟨rfl, rfl⟩ (H.sel' [] rfl rfl)
   ·replace h := bif_f hb16 h
    refine st_skip (congrArg some hb16) ?_
    refine st_skip (congrArg some hb16) ?_
    refine st_skip (congrArg some hb16) ?_
    refine st (v := (B false)) (rv_pick_f (congrArg B hb16) rfl) ?_
    refine st (v := (B false)) (rv_assign rfl) ?_
    refine w_end ?_
    refine q_then ?_
    refine c_ret ?_
    obtain rfl := Option.some.inj h
    exact fin_ret (v := (B false)) (results_ok Try.results82 (res_tmp (v := (B false)) rfl res_nil) rfl) ⟨rfl, rfl⟩ (H.sel' [] rfl rfl)
  ·replace h := bif_f hb14 h
   refine st_skip (congrArg some hb14) ?_
   refine st_skip (congrArg some hb14) ?_
   refine st_skip (congrArg some hb14) ?_
   refine st (v := (B false)) (rv_pick_f (congrArg B hb14) rfl) ?_
   refine st (v := (B false)) (rv_move rfl) ?_
   refine st_skip rfl ?_
   refine st_skip rfl ?_
   refine st_skip rfl ?_
   refine st (v := (B false)) (rv_pick_f rfl rfl) ?_
   refine st (v := (B false)) (rv_assign rfl) ?_
   refine w_end ?_
   refine q_then ?_
   refine c_ret ?_
   obtain rfl := Option.some.inj h
   exact fin_ret (v := (B false)) (results_ok Try.results82 (res_tmp (v := (B false)) rfl res_nil) rfl) ⟨rfl, rfl⟩ (H.sel' [] rfl rfl)
 ·replace h := bif_f hb8 h
  refine st_skip (congrArg some hb8) ?_
  refine st_skip (congrArg some hb8) ?_
  refine st_skip (congrArg some hb8) ?_
  refine st (v := (B false)) (rv_pick_f (congrArg B hb8) rfl) ?_
  refine st (v := (B false)) (rv_move rfl) ?_
  refine st_skip rfl ?_
  refine st_skip rfl ?_
  refine st_skip rfl ?_
  refine st (v := (B false)) (rv_pick_f rfl rfl) ?_
  refine st (v := (B false)) (rv_move rfl) ?_
  refine st_skip rfl ?_
  refine st_skip rfl ?_
  refine st_skip rfl ?_
  refine st (v := (B false)) (rv_pick_f rfl rfl) ?_
  refine st (v := (B false)) (rv_assign rfl) ?_
  refine w_end ?_
  refine q_then ?_
  refine c_ret ?_
  obtain rfl := Option.some.inj h
  exact fin_ret (v := (B false)) (results_ok Try.results82 (res_tmp (v := (B false)) rfl res_nil) rfl) ⟨rfl, rfl⟩ (H.sel' [] rfl rfl)

theorem c_impl_ValidStore {list_0 : List (Int × (List Int) × Int)} {alist_0 : Option Addr} {clist_0 : Nat} {r : Bool} (h : M.impl_ValidStore list_0 = some r) :
    Cal2 Try.prog 25 [(Sl alist_0 list_0 clist_0)] [Ch.ro 0 (Sl alist_0 list_0 clist_0) list_0] (fun n0 v L => v = (B r) ∧ L = []) := by
 refine cal2 (n := 27) Try.func25 rfl rfl rfl rfl ?_
 intro S0 σ0 n0 hn0 H
 unfold M.impl_ValidStore at h
 refine c_seq ?_
 refine rg ?_
 refine st (v := (B false)) (rv_assign rfl) ?_
 refine w_end ?_
 refine q_then ?_
 refine c_seq ?_
 refine c_seq ?_
 refine rg ?_
 refine st (v := (Sl alist_0 list_0 clist_0)) (rv_move rfl) ?_
 refine st (v := (I (list_0.length : Int))) (rv_len Try.underlying23 rfl) ?_
 refine st (v := (B (decide (16 < (list_0.length : Int))))) (rv_gtr (a := (list_0.length : Int)) (b := 16) rfl rfl) ?_
 refine w_end ?_
 refine q_then ?_
 refine cd_cond (decide (16 < (list_0.length : Int))) rfl (fun hb1 => ?_) (fun hb1 => ?_)
 ·replace h := bif_t hb1 h
  refine c_seq ?_
  refine rg ?_
  refine st (v := (B false)) (rv_assign rfl) ?_
  refine w_end ?_
  refine q_then ?_
  refine c_ret ?_
  refine q_then_r ?_
  obtain rfl := Option.some.inj h
  exact fin_ret (v := (B false)) (results_ok Try.results25 (res_tmp (v := (B false)) rfl res_nil) rfl) ⟨rfl, rfl⟩ (H.sel' [] rfl rfl)
 ·replace h := bif_f hb1 h
  refine c_skip ?_
  refine q_then ?_
  refine c_seq ?_
  refine rg ?_
  refine st (v := (I 0)) (rv_assign rfl) ?_
  refine w_end ?_
  refine q_then ?_
  refine c_seq ?_
  refine c_seq ?_
  refine rg ?_
  refine st (v := (Sl alist_0 list_0 clist_0)) (rv_move rfl) ?_
  refine st (v := (I (list_0.length : Int))) (rv_len Try.underlying23 rfl) ?_
  refine st (v := (I 0)) (rv_move rfl) ?_
  refine w_end ?_
  refine q_then ?_
  obtain ⟨o2, hj, h'⟩ := bind_some h
  clear h
  refine c_cut (fun e a w => (∃ t, o2 = (.inl t) ∧ e = .normal ∧ ∃ (ρ : Nat → Value) (σ : St), a = fr 27 (updL ρ []) ∧ w = σ.w ∧ Hp S0 σ0 σ []) ∨ (∃ t, o2 = (.inr t) ∧ e = .ret ∧ ∃ (ρ : Nat → Value) (σ : St), a = fr 27 (updL ρ [(2, (B t))]) ∧ w = σ.w ∧ Hp S0 σ0 σ [])) ?_ ?_
  ·clear h'
   rename _ = some o2 => h
   refine c_blk ?_
   refine wp_loopM _ h (fun s3 a w => ∃ (ρ : Nat → Value) (σ : St), a = fr 27 (updL ρ [(3, (I s3.1)), (9, (Sl alist_0 list_0 clist_0)), (10, (I (list_0.length : Int))), (11, (I s3.2))]) ∧ w = σ.w ∧ Hp S0 σ0 σ [Ch.ro 0 (Sl alist_0 list_0 clist_0) list_0]) ⟨_, σ0, fr_join ⟨rfl, rfl, rfl, rfl, trivial⟩, rfl, H.sel' [0] rfl rfl⟩ ?_
   clear h H
   rintro s3 a w o ⟨ρ, σ4, rfl, rfl, H⟩ h hres
   refine c_seq ?_
   refine rg ?_
   refine st (v := (B (decide (s3.2 < (list_0.length : Int))))) (rv_lss (a := s3.2) (b := (list_0.length : Int)) rfl rfl) ?_
   refine w_end ?_
   refine q_then ?_
   refine c_seq ?_
   refine cd_cond (decide (s3.2 < (list_0.length : Int))) rfl (fun hb5 => ?_) (fun hb5 => ?_)
   ·replace h := bif_t hb5 h
    refine c_skip ?_
    refine q_then ?_
    refine c_seq ?_
    refine c_blk ?_
    refine c_seq ?_
    refine rg ?_
    obtain ⟨x6, hx7, h'⟩ := bind_some h
    clear h
    have h := h'; clear h'
    obtain ⟨b9, o10, hi8, -⟩ := (H.ro 0 rfl).ix hx7
    refine st (v := (pt b9 o10)) (rv_ix Try.underlying23 ti31 rfl rfl hi8) ?_
    obtain ⟨_, ⟨_, _, rfl, rfl, ⟨_, _, rfl, ⟨_, rfl, hR15⟩, rfl⟩⟩, hl11, hc12⟩ := ((H.ro 0 rfl).at hx7 hi8).cells
    obtain ⟨a13, c14, rfl⟩ := hR15.isSl
    replace H := H.add (d := Ch.ro 0 (Sl a13 x6.2.1 c14) x6.2.1) hR15 (fun _ h => h)
    clear hR15
    refine st (v := (.agg #[(I x6.1), (Sl a13 x6.2.1 c14), (I x6.2.2)])) (rv_load Try.underlying31 rfl ti31 rfl hl11 hc12) ?_
    refine st_ex (ex_alloc (cs := [(I 0), (.slice none 0 0), (I 0)]) H hn0 ti31 rfl) (wanted_none _ rfl _) ?_
    rintro _ σ17 ⟨b16, rfl, H, -⟩
    refine st_exS (ex_store_box (k := 0) (cs := [(I 0), (.slice none 0 0), (I 0)]) (vs := [(I x6.1), (Sl a13 x6.2.1 c14), (I x6.2.2)]) (cs' := [(I x6.1), (Sl a13 x6.2.1 c14), (I x6.2.2)]) H (i := 0) rfl ti31 rfl rfl rfl rfl rfl (Nat.le_of_ble_eq_true rfl) (by simp [plain]) rfl) (wanted_none _ rfl _) ?_
    rintro σ18 ⟨H, -⟩
    refine w_end ?_
    refine q_then ?_
    refine c_seq ?_
    refine c_seq ?_
    obtain ⟨o19, hj, h'⟩ := bind_some h
    clear h
    refine c_cut (fun e a w => e = .normal ∧ ∃ (ρ : Nat → Value) (σ : St), a = fr 27 (updL ρ [(5, (pt b16 0)), (9, (Sl alist_0 list_0 clist_0)), (10, (I (list_0.length : Int))), (11, (I s3.2)), (23, (B o19))]) ∧ w = σ.w ∧ Hp S0 σ0 σ [Ch.ro 0 (Sl a13 x6.2.1 c14) x6.2.1, Ch.bx n0 b16 0 [(I x6.1), (Sl a13 x6.2.1 c14), (I x6.2.2)] [] [], Ch.ro 0 (Sl alist_0 list_0 clist_0) list_0]) ?_ ?_
    ·clear h'
     rename _ = some o19 => h
     refine rg ?_
     have hc20 := H.cells 0 rfl
     refine st (v := (.agg #[(I x6.1), (Sl a13 x6.2.1 c14), (I x6.2.2)])) (rv_load (cs := [(I x6.1), (Sl a13 x6.2.1 c14), (I x6.2.2)]) Try.underlying31 rfl ti31 rfl rfl hc20) ?_
     obtain ⟨r21, hx22, h'⟩ := bind_some h
     clear h
     have h := h'; clear h'
     have hc23 := c_impl_validItem (ax_0_1 := a13) (cx_0_1 := c14) hx22
     refine st_call (cx_call hc23 (ent_f hc23.fn rfl) hn0 (show Hp S0 σ0 _ ([Ch.ro 0 (Sl a13 x6.2.1 c14) x6.2.1] ++ [Ch.bx n0 b16 0 [(I x6.1), (Sl a13 x6.2.1 c14), (I x6.2.2)] [] [], Ch.ro 0 (Sl a13 x6.2.1 c14) x6.2.1, Ch.ro 0 (Sl alist_0 list_0 clist_0) list_0]) from (H.sel' [1, 0, 1, 2] rfl rfl))) (wanted_none _ rfl _) ?_
     rintro _ σ24 ⟨_, ⟨rfl, rfl⟩, H, -⟩
     replace H : Hp S0 σ0 σ24 [Ch.bx n0 b16 0 [(I x6.1), (Sl a13 x6.2.1 c14), (I x6.2.2)] [] [], Ch.ro 0 (Sl a13 x6.2.1 c14) x6.2.1, Ch.ro 0 (Sl alist_0 list_0 clist_0) list_0] := H
     refine st (v := (B (!r21))) (rv_not rfl) ?_
     refine st (v := (B (!r21))) (rv_move rfl) ?_
     rcases Bool.eq_false_or_eq_true (!r21) with hb25 | hb25
     ·replace h := bif_t hb25 h
      refine st_skip (congrArg some hb25) ?_
      refine st_skip (congrArg some hb25) ?_
      refine st_skip (congrArg some hb25) ?_
      refine st_skip (congrArg some hb25) ?_
      refine st (v := (B true)) (rv_pick_t (congrArg B hb25) rfl) ?_
      refine w_end ?_
      obtain rfl := Option.some.inj h
      exact ⟨rfl, _, σ24, fr_join ⟨rfl, rfl, rfl, rfl, rfl, trivial⟩, rfl, H.sel' [1, 0, 2] rfl rfl⟩
     ·replace h := bif_f hb25 h
      refine st_g (v := (pt b16 0)) (congrArg some hb25) (rv_fieldAddr (off := 0) (ft := 3) Try.underlying31 rfl ti3 rfl rfl) ?_
      have hc26 := H.cell (u := (I x6.1)) (o' := 0) 0 0 rfl rfl rfl
      refine st_g (v := (I x6.1)) (congrArg some hb25) (rv_load1 Try.underlying3 rfl rfl hc26) ?_
      refine st_g (v := (I s3.1)) (congrArg some hb25) (rv_move rfl) ?_
      refine st_g (v := (B (decide (x6.1 ≤ s3.1)))) (congrArg some hb25) (rv_leq (a := x6.1) (b := s3.1) rfl rfl) ?_
      refine st (v := (B (decide (x6.1 ≤ s3.1)))) (rv_pick_f (congrArg B hb25) rfl) ?_
      refine w_end ?_
      obtain rfl := Option.some.inj h
      exact ⟨rfl, _, σ24, fr_join ⟨rfl, rfl, rfl, rfl, rfl, trivial⟩, rfl, H.sel' [1, 0, 2] rfl rfl⟩
    ·clear hj
     have h := h'
     clear h' H
     rintro e a w ⟨rfl, ρ, σ27, rfl, rfl, H⟩
     refine q_then ?_
     refine cd_cond o19 rfl (fun hb28 => ?_) (fun hb28 => ?_)
     ·replace h := bif_t hb28 h
      refine c_seq ?_
      refine rg ?_
      refine st (v := (B false)) (rv_assign rfl) ?_
      refine w_end ?_
      refine q_then ?_
      refine c_ret ?_
      refine q_then_r ?_
      refine q_blk_r ?_
      refine q_then_r ?_
      refine q_then_r ?_
      refine q_blk_r ?_
      obtain rfl := Option.some.inj h
      obtain rfl := hres _ rfl
      exact .inr (⟨_, rfl, rfl, _, σ27, fr_join ⟨rfl, trivial⟩, rfl, H.sel' [] rfl rfl⟩)
     ·replace h := bif_f hb28 h
      refine c_skip ?_
      refine q_then ?_
      refine rg ?_
      refine st (v := (pt b16 0)) (rv_fieldAddr (off := 0) (ft := 3) Try.underlying31 rfl ti3 rfl rfl) ?_
      have hc29 := H.cell (u := (I x6.1)) (o' := 0) 1 0 rfl rfl rfl
      refine st (v := (I x6.1)) (rv_load1 Try.underlying3 rfl rfl hc29) ?_
      refine st (v := (I x6.1)) (rv_assign rfl) ?_
      refine w_end ?_
      refine q_blk ?_
      refine q_then ?_
      refine rg ?_
      refine st (v := (I (w64 (s3.2 + 1)))) (rv_add (a := s3.2) (b := 1) rfl rfl) ?_
      refine st (v := (I (w64 (s3.2 + 1)))) (rv_move rfl) ?_
      refine w_end ?_
      refine q_then ?_
      obtain rfl := Option.some.inj h
      exact ⟨_, rfl, _, σ27, fr_join ⟨rfl, rfl, rfl, rfl, trivial⟩, rfl, H.sel' [2] rfl rfl⟩
   ·replace h := bif_f hb5 h
    refine c_exit ?_
    refine q_then_x ?_
    refine q_then_x ?_
    refine q_blk_hit ?_
    obtain rfl := Option.some.inj h
    obtain rfl := hres _ rfl
    exact .inl ⟨_, rfl, rfl, _, σ4, fr_join trivial, rfl, H.sel' [] rfl rfl⟩
  ·clear hj
   have h := h'
   clear h' H
   rintro e a w (⟨t30, rfl, rfl, ρ, σ31, rfl, rfl, H⟩ | ⟨t32, rfl, rfl, ρ, σ33, rfl, rfl, H⟩)
   ·replace h := selim_l h
    refine q_then ?_
    refine c_seq ?_
    refine rg ?_
    refine st (v := (B true)) (rv_assign rfl) ?_
    refine w_end ?_
    refine q_then ?_
    refine c_ret ?_
    obtain rfl := Option.some.inj h
    exact fin_ret (v := (B true)) (results_ok Try.results25 (res_tmp (v := (B true)) rfl res_nil) rfl) ⟨rfl, rfl⟩ (H.sel' [] rfl rfl)
   ·replace h := selim_r h
    refine q_then_r ?_
    obtain rfl := Option.some.inj h
    exact fin_ret (v := (B t32)) (results_ok Try.results25 (res_tmp (v := (B t32)) rfl res_nil) rfl) ⟨rfl, rfl⟩ (H.sel' [] rfl rfl)

theorem c_impl_BoundsOf {list_0 : List (Int × (List Int) × Int)} {alist_0 : Option Addr} {clist_0 : Nat} {r : (List Int) × (List Int) × Bool} (h : M.impl_BoundsOf list_0 = some r) :
    Cal2 Try.prog 60 [(Sl alist_0 list_0 clist_0)] [Ch.ro 0 (Sl alist_0 list_0 clist_0) list_0] (fun n0 v L => ∃ (az1 : Option Addr), ∃ (cz2 : Nat), ∃ (az4 : Option Addr), ∃ (cz5 : Nat), v = (.tuple #[(Sl az1 r.1 cz2), (Sl az4 r.2.1 cz5), (B r.2.2)]) ∧ L = [Ch.own n0 n0 (Sl az1 r.1 cz2) r.1, Ch.own n0 n0 (Sl az4 r.2.1 cz5) r.2.1] ∧ cz2 = r.1.length ∧ cz5 = r.2.1.length) := by
 refine cal2 (n := 64) Try.func60 rfl rfl rfl rfl ?_
 intro S0 σ0 n0 hn0 H
 unfold M.impl_BoundsOf at h
 refine c_seq ?_
 refine rg ?_
 refine st (v := (.slice none 0 0)) (rv_assign rfl) ?_
 refine st (v := (.slice none 0 0)) (rv_assign rfl) ?_
 refine st (v := (B false)) (rv_assign rfl) ?_
 refine w_end ?_
 refine q_then ?_
 refine c_seq ?_
 refine c_seq ?_
 obtain ⟨o1, hj, h'⟩ := bind_some h
 clear h
 refine c_cut (fun e a w => e = .normal ∧ ∃ (ρ : Nat → Value) (σ : St), a = fr 64 (updL ρ [(0, (Sl alist_0 list_0 clist_0)), (18, (B o1))]) ∧ w = σ.w ∧ Hp S0 σ0 σ [Ch.ro 0 (Sl alist_0 list_0 clist_0) list_0]) ?_ ?_
 ·clear h'
  rename _ = some o1 => h
  refine rg ?_
  refine st (v := (Sl alist_0 list_0 clist_0)) (rv_move rfl) ?_
  obtain ⟨r2, hx3, h'⟩ := bind_some h
  clear h
  have h := h'; clear h'
  have hc4 := c_impl_ValidStore (alist_0 := alist_0) (clist_0 := clist_0) hx3
  refine st_call (cx_call hc4 (ent_f hc4.fn rfl) hn0 (show Hp S0 σ0 _ ([Ch.ro 0 (Sl alist_0 list_0 clist_0) list_0] ++ [Ch.ro 0 (Sl alist_0 list_0 clist_0) list_0]) from (H.sel' [0, 0] rfl rfl))) (wanted_none _ rfl _) ?_
  rintro _ σ5 ⟨_, ⟨rfl, rfl⟩, H, -⟩
  replace H : Hp S0 σ0 σ5 [Ch.ro 0 (Sl alist_0 list_0 clist_0) list_0] := H
  refine st (v := (B (!r2))) (rv_not rfl) ?_
  refine st (v := (B (!r2))) (rv_move rfl) ?_
  rcases Bool.eq_false_or_eq_true (!r2) with hb6 | hb6
  ·replace h := bif_t hb6 h
   refine st_skip (congrArg some hb6) ?_
   refine st_skip (congrArg some hb6) ?_
   refine st_skip (congrArg some hb6) ?_
   refine st (v := (B true)) (rv_pick_t (congrArg B hb6) rfl) ?_
   refine w_end ?_
   obtain rfl := Option.some.inj h
   exact ⟨rfl, _, σ5, fr_join ⟨rfl, rfl, trivial⟩, rfl, H.sel' [0] rfl rfl⟩
  ·replace h := bif_f hb6 h
   refine st_g (v := (Sl alist_0 list_0 clist_0)) (congrArg some hb6) (rv_move rfl) ?_
   refine st_g (v := (I (list_0.length : Int))) (congrArg some hb6) (rv_len Try.underlying23 rfl) ?_
   refine st_g (v := (B ((list_0.length : Int) == 0))) (congrArg some hb6) (rv_eql (a := (list_0.length : Int)) (b := 0) rfl rfl) ?_
   refine st (v := (B ((list_0.length : Int) == 0))) (rv_pick_f (congrArg B hb6) rfl) ?_
   refine w_end ?_
   obtain rfl := Option.some.inj h
   exact ⟨rfl, _, σ5, fr_join ⟨rfl, rfl, trivial⟩, rfl, H.sel' [0] rfl rfl⟩
 ·clear hj
  have h := h'
  clear h' H
  rintro e a w ⟨rfl, ρ, σ7, rfl, rfl, H⟩
  refine q_then ?_
  refine cd_cond o1 rfl (fun hb8 => ?_) (fun hb8 => ?_)
  ·replace h := bif_t hb8 h
   refine c_seq ?_
   refine rg ?_
   refine st (v := (.slice none 0 0)) (rv_assign rfl) ?_
   refine st (v := (.slice none 0 0)) (rv_assign rfl) ?_
   refine st (v := (B false)) (rv_assign rfl) ?_
   refine w_end ?_
   refine q_then ?_
   refine c_ret ?_
   refine q_then_r ?_
   replace H := H.nilOwn Int n0 n0
   replace H := H.nilOwn Int n0 n0
   obtain rfl := Option.some.inj h
   exact fin_ret (v := (.tuple #[(.slice none 0 0), (.slice none 0 0), (B false)])) (results_ok Try.results60 (res_tmp (v := (.slice none 0 0)) rfl (res_tmp (v := (.slice none 0 0)) rfl (res_tmp (v := (B false)) rfl res_nil))) rfl) ⟨none, 0, none, 0, rfl, rfl, rfl, rfl⟩ (H.sel' [1, 0] rfl rfl)
  ·replace h := bif_f hb8 h
   refine c_skip ?_
   refine q_then ?_
   refine c_seq ?_
   obtain ⟨x9, hx10, h'⟩ := bind_some h
   clear h
   have h := h'; clear h'
   obtain ⟨b12, o13, hi11, -⟩ := (H.ro 0 rfl).ix hx10
   obtain ⟨v17, hc18, hR16⟩ := ((H.ro 0 rfl).at hx10 hi11).snd.fst.slice
   obtain ⟨a14, c15, rfl⟩ := hR16.isSl
   replace H := H.add (d := Ch.ro 0 (Sl a14 x9.2.1 c15) x9.2.1) hR16 (fun _ h => h)
   clear hR16
   obtain ⟨xs19, hx20, h'⟩ := bind_some h
   clear h
   have h := h'; clear h'
   obtain ⟨hl24, hq25⟩ := garr_some hx20
   clear hx20 hq25
   obtain ⟨b21, o22, rfl, hc23⟩ := (H.ro 0 rfl).arr (Nat.lt_of_lt_of_le (by decide) hl24)
   obtain ⟨x26, hx27, h'⟩ := bind_some h
   clear h
   have h := h'; clear h'
   obtain ⟨b29, o30, hi28, -⟩ := (H.ro 1 rfl).ix hx27
   obtain ⟨v34, hc35, hR33⟩ := ((H.ro 1 rfl).at hx27 hi28).snd.fst.slice
   obtain ⟨a31, c32, rfl⟩ := hR33.isSl
   replace H := H.add (d := Ch.ro 0 (Sl a31 x26.2.1 c32) x26.2.1) hR33 (fun _ h => h)
   clear hR33
   obtain ⟨xs36, hx37, h'⟩ := bind_some h
   clear h
   have h := h'; clear h'
   obtain ⟨hl41, hq42⟩ := garr_some hx37
   clear hx37 hq42
   obtain ⟨b38, o39, rfl, hc40⟩ := (H.ro 0 rfl).arr (Nat.lt_of_lt_of_le (by decide) hl41)
   have Hs := H
   refine rg2 (σ := σ7) (Nm := (Nat) × (Nat)) 14 [12, 13] [[false, false], [true, false], [false, true], [true, true]] [[(0, 0), (1, 1), (2, 2), (3, 3)], [(0, 0), (1, 1), (2, 2), (3, 3)], [(0, 0), (1, 1), (2, 2), (3, 3)], [(0, 0), (1, 1), (2, 2), (3, 3)], [(0, 0), (1, 1), (2, 2), (3, 3)], [(0, 0), (1, 1), (2, 2), (3, 3)], [(0, 0), (1, 1), (2, 2), (3, 3)], [(0, 0), (1, 1), (2, 2), (3, 3)], [(0, 0), (1, 1), (2, 2), (3, 3)], [(0, 0), (1, 1), (2, 2), (3, 3)], [(0, 0), (1, 1), (2, 2), (3, 3)], [(0, 0), (1, 1), (2, 2), (3, 3)], [(0, 1), (2, 3)], [(0, 2), (1, 3)]] 3 [fun ((b43, b44) : (Nat) × (Nat)) => fun σm => Hp S0 σ0 σm [Ch.ro 0 (Sl (some ⟨b38, o39, none⟩) x26.2.1 c32) x26.2.1, Ch.ro 0 (Sl (some ⟨b21, o22, none⟩) x9.2.1 c15) x9.2.1, Ch.ro 0 (Sl alist_0 list_0 clist_0) list_0] ∧ Md (cov []) σ7 σm, fun ((b43, b44) : (Nat) × (Nat)) => fun σm => Hp S0 σ0 σm [Ch.bx n0 b43 0 (List.map I (List.replicate 4 0)) [] [], Ch.ro 0 (Sl (some ⟨b38, o39, none⟩) x26.2.1 c32) x26.2.1, Ch.ro 0 (Sl (some ⟨b21, o22, none⟩) x9.2.1 c15) x9.2.1, Ch.ro 0 (Sl alist_0 list_0 clist_0) list_0] ∧ Md (cov []) σ7 σm, fun ((b43, b44) : (Nat) × (Nat)) => fun σm => Hp S0 σ0 σm [Ch.bx n0 b44 0 (List.map I (List.replicate 4 0)) [] [], Ch.ro 0 (Sl (some ⟨b38, o39, none⟩) x26.2.1 c32) x26.2.1, Ch.ro 0 (Sl (some ⟨b21, o22, none⟩) x9.2.1 c15) x9.2.1, Ch.ro 0 (Sl alist_0 list_0 clist_0) list_0] ∧ Md (cov []) σ7 σm, fun ((b43, b44) : (Nat) × (Nat)) => fun σm => Hp S0 σ0 σm [Ch.bx n0 b44 0 (List.map I (List.replicate 4 0)) [] [], Ch.bx n0 b43 0 (List.map I (List.replicate 4 0)) [] [], Ch.ro 0 (Sl (some ⟨b38, o39, none⟩) x26.2.1 c32) x26.2.1, Ch.ro 0 (Sl (some ⟨b21, o22, none⟩) x9.2.1 c15) x9.2.1, Ch.ro 0 (Sl alist_0 list_0 clist_0) list_0] ∧ Md (cov []) σ7 σm] [fun ((b43, b44) : (Nat) × (Nat)) => (Sl alist_0 list_0 clist_0), fun ((b43, b44) : (Nat) × (Nat)) => (pt b12 o13), fun ((b43, b44) : (Nat) × (Nat)) => (pt b12 (o13 + 1)), fun ((b43, b44) : (Nat) × (Nat)) => (Sl (some ⟨b21, o22, none⟩) x9.2.1 c15), fun ((b43, b44) : (Nat) × (Nat)) => (.pointer (some ⟨b21, o22, none⟩)), fun ((b43, b44) : (Nat) × (Nat)) => (.agg (List.map I (List.take 4 x9.2.1)).toArray), fun ((b43, b44) : (Nat) × (Nat)) => (Sl alist_0 list_0 clist_0), fun ((b43, b44) : (Nat) × (Nat)) => (pt b29 o30), fun ((b43, b44) : (Nat) × (Nat)) => (pt b29 (o30 + 1)), fun ((b43, b44) : (Nat) × (Nat)) => (Sl (some ⟨b38, o39, none⟩) x26.2.1 c32), fun ((b43, b44) : (Nat) × (Nat)) => (.pointer (some ⟨b38, o39, none⟩)), fun ((b43, b44) : (Nat) × (Nat)) => (.agg (List.map I (List.take 4 x26.2.1)).toArray), fun ((b43, b44) : (Nat) × (Nat)) => (pt b43 0), fun ((b43, b44) : (Nat) × (Nat)) => (pt b44 0)] (0, 0) (by kernel_rfl) (by kernel_rfl) ?_ ?_ ?_
   ·intro σm m0
    exact ⟨H.grow (m0.mono fun _ h => h.elim), m0⟩
   ·refine all_cons (obs_v rfl (by
      intro k; rintro ⟨b43, b44⟩ ρ σm hJ hoff hdep
      have e0 : look 64 ρ 0 = (Sl alist_0 list_0 clist_0) := look_off (hoff 0 rfl) rfl
      exact dp_v (v := (Sl alist_0 list_0 clist_0)) (wanted_none _ rfl _) (rv_move e0) rfl hJ)) ?_
    refine all_cons (obs_v rfl (by
      intro k; rintro ⟨b43, b44⟩ ρ σm hJ hoff hdep
      have e19 : look 64 ρ 19 = (Sl alist_0 list_0 clist_0) := hdep 0 rfl rfl 19 rfl
      exact dp_v (v := (pt b12 o13)) (wanted_none _ rfl _) (rv_ix Try.underlying23 ti31 e19 rfl hi11) rfl hJ)) ?_
    refine all_cons (obs_v rfl (by
      intro k; rintro ⟨b43, b44⟩ ρ σm hJ hoff hdep
      have e20 : look 64 ρ 20 = (pt b12 o13) := hdep 1 rfl rfl 20 rfl
      exact dp_v (v := (pt b12 (o13 + 1))) (wanted_none _ rfl _) (rv_fieldAddr (off := 1) (ft := 24) Try.underlying31 rfl ti24 rfl e20) rfl hJ)) ?_
    refine all_cons (by
      refine ⟨?_, ?_⟩
      ·rintro ⟨b43, b44⟩ ρ σm hJ hoff hdep
       have e21 : look 64 ρ 21 = (pt b12 (o13 + 1)) := hdep 2 rfl rfl 21 rfl
       obtain ⟨H, m⟩ := id hJ
       replace hc18 := (Hs.ro 2 rfl).hmd hx10 hi11 (k := 1) (by decide) hc18 m
       exact dp_v (v := (Sl (some ⟨b21, o22, none⟩) x9.2.1 c15)) (wanted_none _ rfl _) (rv_load1 Try.underlying24 rfl e21 hc18) rfl hJ
      refine ⟨?_, ?_⟩
      ·rintro ⟨b43, b44⟩ ρ σm hJ hoff hdep
       have e21 : look 64 ρ 21 = (pt b12 (o13 + 1)) := hdep 2 rfl rfl 21 rfl
       obtain ⟨H, m⟩ := id hJ
       replace hc18 := (Hs.ro 2 rfl).hmd hx10 hi11 (k := 1) (by decide) hc18 m
       exact dp_v (v := (Sl (some ⟨b21, o22, none⟩) x9.2.1 c15)) (wanted_none _ rfl _) (rv_load1 Try.underlying24 rfl e21 hc18) rfl hJ
      refine ⟨?_, ?_⟩
      ·rintro ⟨b43, b44⟩ ρ σm hJ hoff hdep
       have e21 : look 64 ρ 21 = (pt b12 (o13 + 1)) := hdep 2 rfl rfl 21 rfl
       obtain ⟨H, m⟩ := id hJ
       replace hc18 := (Hs.ro 2 rfl).hmd hx10 hi11 (k := 1) (by decide) hc18 m
       exact dp_v (v := (Sl (some ⟨b21, o22, none⟩) x9.2.1 c15)) (wanted_none _ rfl _) (rv_load1 Try.underlying24 rfl e21 hc18) rfl hJ
      refine ⟨?_, ?_⟩
      ·rintro ⟨b43, b44⟩ ρ σm hJ hoff hdep
       have e21 : look 64 ρ 21 = (pt b12 (o13 + 1)) := hdep 2 rfl rfl 21 rfl
       obtain ⟨H, m⟩ := id hJ
       replace hc18 := (Hs.ro 2 rfl).hmd hx10 hi11 (k := 1) (by decide) hc18 m
       exact dp_v (v := (Sl (some ⟨b21, o22, none⟩) x9.2.1 c15)) (wanted_none _ rfl _) (rv_load1 Try.underlying24 rfl e21 hc18) rfl hJ
      trivial) ?_
    refine all_cons (obs_v rfl (by
      intro k; rintro ⟨b43, b44⟩ ρ σm hJ hoff hdep
      have e22 : look 64 ρ 22 = (Sl (some ⟨b21, o22, none⟩) x9.2.1 c15) := hdep 3 rfl rfl 22 rfl
      exact dp_v (v := (.pointer (some ⟨b21, o22, none⟩))) (wanted_none _ rfl _) (rv_arrPtr Try.underlying98 e22 hl24) rfl hJ)) ?_
    refine all_cons (by
      refine ⟨?_, ?_⟩
      ·rintro ⟨b43, b44⟩ ρ σm hJ hoff hdep
       have e23 : look 64 ρ 23 = (.pointer (some ⟨b21, o22, none⟩)) := hdep 4 rfl rfl 23 rfl
       obtain ⟨H, m⟩ := id hJ
       replace hc23 := (Hs.ro 1 rfl).arr_md hc23 m
       exact dp_v (v := (.agg (List.map I (List.take 4 x9.2.1)).toArray)) (wanted_none _ rfl _) (rv_load (cs := List.map I (List.take 4 x9.2.1)) Try.underlying98 rfl ti98 e23 (by rw [List.length_map, List.length_take]; have := hl24; omega) (arr_take hc23)) rfl hJ
      refine ⟨?_, ?_⟩
      ·rintro ⟨b43, b44⟩ ρ σm hJ hoff hdep
       have e23 : look 64 ρ 23 = (.pointer (some ⟨b21, o22, none⟩)) := hdep 4 rfl rfl 23 rfl
       obtain ⟨H, m⟩ := id hJ
       replace hc23 := (Hs.ro 1 rfl).arr_md hc23 m
       exact dp_v (v := (.agg (List.map I (List.take 4 x9.2.1)).toArray)) (wanted_none _ rfl _) (rv_load (cs := List.map I (List.take 4 x9.2.1)) Try.underlying98 rfl ti98 e23 (by rw [List.length_map, List.length_take]; have := hl24; omega) (arr_take hc23)) rfl hJ
      refine ⟨?_, ?_⟩
      ·rintro ⟨b43, b44⟩ ρ σm hJ hoff hdep
       have e23 : look 64 ρ 23 = (.pointer (some ⟨b21, o22, none⟩)) := hdep 4 rfl rfl 23 rfl
       obtain ⟨H, m⟩ := id hJ
       replace hc23 := (Hs.ro 1 rfl).arr_md hc23 m
       exact dp_v (v := (.agg (List.map I (List.take 4 x9.2.1)).toArray)) (wanted_none _ rfl _) (rv_load (cs := List.map I (List.take 4 x9.2.1)) Try.underlying98 rfl ti98 e23 (by rw [List.length_map, List.length_take]; have := hl24; omega) (arr_take hc23)) rfl hJ
      refine ⟨?_, ?_⟩
      ·rintro ⟨b43, b44⟩ ρ σm hJ hoff hdep
       have e23 : look 64 ρ 23 = (.pointer (some ⟨b21, o22, none⟩)) := hdep 4 rfl rfl 23 rfl
       obtain ⟨H, m⟩ := id hJ
       replace hc23 := (Hs.ro 1 rfl).arr_md hc23 m
       exact dp_v (v := (.agg (List.map I (List.take 4 x9.2.1)).toArray)) (wanted_none _ rfl _) (rv_load (cs := List.map I (List.take 4 x9.2.1)) Try.underlying98 rfl ti98 e23 (by rw [List.length_map, List.length_take]; have := hl24; omega) (arr_take hc23)) rfl hJ
      trivial) ?_
    refine all_cons (obs_v rfl (by
      intro k; rintro ⟨b43, b44⟩ ρ σm hJ hoff hdep
      have e0 : look 64 ρ 0 = (Sl alist_0 list_0 clist_0) := look_off (hoff 0 rfl) rfl
      exact dp_v (v := (Sl alist_0 list_0 clist_0)) (wanted_none _ rfl _) (rv_move e0) rfl hJ)) ?_
    refine all_cons (obs_v rfl (by
      intro k; rintro ⟨b43, b44⟩ ρ σm hJ hoff hdep
      have e25 : look 64 ρ 25 = (Sl alist_0 list_0 clist_0) := hdep 6 rfl rfl 25 rfl
      exact dp_v (v := (pt b29 o30)) (wanted_none _ rfl _) (rv_ix Try.underlying23 ti31 e25 rfl hi28) rfl hJ)) ?_
    refine all_cons (obs_v rfl (by
      intro k; rintro ⟨b43, b44⟩ ρ σm hJ hoff hdep
      have e26 : look 64 ρ 26 = (pt b29 o30) := hdep 7 rfl rfl 26 rfl
      exact dp_v (v := (pt b29 (o30 + 1))) (wanted_none _ rfl _) (rv_fieldAddr (off := 1) (ft := 24) Try.underlying31 rfl ti24 rfl e26) rfl hJ)) ?_
    refine all_cons (by
      refine ⟨?_, ?_⟩
      ·rintro ⟨b43, b44⟩ ρ σm hJ hoff hdep
       have e27 : look 64 ρ 27 = (pt b29 (o30 + 1)) := hdep 8 rfl rfl 27 rfl
       obtain ⟨H, m⟩ := id hJ
       replace hc35 := (Hs.ro 2 rfl).hmd hx27 hi28 (k := 1) (by decide) hc35 m
       exact dp_v (v := (Sl (some ⟨b38, o39, none⟩) x26.2.1 c32)) (wanted_none _ rfl _) (rv_load1 Try.underlying24 rfl e27 hc35) rfl hJ
      refine ⟨?_, ?_⟩
      ·rintro ⟨b43, b44⟩ ρ σm hJ hoff hdep
       have e27 : look 64 ρ 27 = (pt b29 (o30 + 1)) := hdep 8 rfl rfl 27 rfl
       obtain ⟨H, m⟩ := id hJ
       replace hc35 := (Hs.ro 2 rfl).hmd hx27 hi28 (k := 1) (by decide) hc35 m
       exact dp_v (v := (Sl (some ⟨b38, o39, none⟩) x26.2.1 c32)) (wanted_none _ rfl _) (rv_load1 Try.underlying24 rfl e27 hc35) rfl hJ
      refine ⟨?_, ?_⟩
      ·rintro ⟨b43, b44⟩ ρ σm hJ hoff hdep
       have e27 : look 64 ρ 27 = (pt b29 (o30 + 1)) := hdep 8 rfl rfl 27 rfl
       obtain ⟨H, m⟩ := id hJ
       replace hc35 := (Hs.ro 2 rfl).hmd hx27 hi28 (k := 1) (by decide) hc35 m
       exact dp_v (v := (Sl (some ⟨b38, o39, none⟩) x26.2.1 c32)) (wanted_none _ rfl _) (rv_load1 Try.underlying24 rfl e27 hc35) rfl hJ
      refine ⟨?_, ?_⟩
      ·rintro ⟨b43, b44⟩ ρ σm hJ hoff hdep
       have e27 : look 64 ρ 27 = (pt b29 (o30 + 1)) := hdep 8 rfl rfl 27 rfl
       obtain ⟨H, m⟩ := id hJ
       replace hc35 := (Hs.ro 2 rfl).hmd hx27 hi28 (k := 1) (by decide) hc35 m
       exact dp_v (v := (Sl (some ⟨b38, o39, none⟩) x26.2.1 c32)) (wanted_none _ rfl _) (rv_load1 Try.underlying24 rfl e27 hc35) rfl hJ
      trivial) ?_
    refine all_cons (obs_v rfl (by
      intro k; rintro ⟨b43, b44⟩ ρ σm hJ hoff hdep
      have e28 : look 64 ρ 28 = (Sl (some ⟨b38, o39, none⟩) x26.2.1 c32) := hdep 9 rfl rfl 28 rfl
      exact dp_v (v := (.pointer (some ⟨b38, o39, none⟩))) (wanted_none _ rfl _) (rv_arrPtr Try.underlying98 e28 hl41) rfl hJ)) ?_
    refine all_cons (by
      refine ⟨?_, ?_⟩
      ·rintro ⟨b43, b44⟩ ρ σm hJ hoff hdep
       have e29 : look 64 ρ 29 = (.pointer (some ⟨b38, o39, none⟩)) := hdep 10 rfl rfl 29 rfl
       obtain ⟨H, m⟩ := id hJ
       replace hc40 := (Hs.ro 0 rfl).arr_md hc40 m
       exact dp_v (v := (.agg (List.map I (List.take 4 x26.2.1)).toArray)) (wanted_none _ rfl _) (rv_load (cs := List.map I (List.take 4 x26.2.1)) Try.underlying98 rfl ti98 e29 (by rw [List.length_map, List.length_take]; have := hl41; omega) (arr_take hc40)) rfl hJ
      refine ⟨?_, ?_⟩
      ·rintro ⟨b43, b44⟩ ρ σm hJ hoff hdep
       have e29 : look 64 ρ 29 = (.pointer (some ⟨b38, o39, none⟩)) := hdep 10 rfl rfl 29 rfl
       obtain ⟨H, m⟩ := id hJ
       replace hc40 := (Hs.ro 0 rfl).arr_md hc40 m
       exact dp_v (v := (.agg (List.map I (List.take 4 x26.2.1)).toArray)) (wanted_none _ rfl _) (rv_load (cs := List.map I (List.take 4 x26.2.1)) Try.underlying98 rfl ti98 e29 (by rw [List.length_map, List.length_take]; have := hl41; omega) (arr_take hc40)) rfl hJ
      refine ⟨?_, ?_⟩
      ·rintro ⟨b43, b44⟩ ρ σm hJ hoff hdep
       have e29 : look 64 ρ 29 = (.pointer (some ⟨b38, o39, none⟩)) := hdep 10 rfl rfl 29 rfl
       obtain ⟨H, m⟩ := id hJ
       replace hc40 := (Hs.ro 0 rfl).arr_md hc40 m
       exact dp_v (v := (.agg (List.map I (List.take 4 x26.2.1)).toArray)) (wanted_none _ rfl _) (rv_load (cs := List.map I (List.take 4 x26.2.1)) Try.underlying98 rfl ti98 e29 (by rw [List.length_map, List.length_take]; have := hl41; omega) (arr_take hc40)) rfl hJ
      refine ⟨?_, ?_⟩
      ·rintro ⟨b43, b44⟩ ρ σm hJ hoff hdep
       have e29 : look 64 ρ 29 = (.pointer (some ⟨b38, o39, none⟩)) := hdep 10 rfl rfl 29 rfl
       obtain ⟨H, m⟩ := id hJ
       replace hc40 := (Hs.ro 0 rfl).arr_md hc40 m
       exact dp_v (v := (.agg (List.map I (List.take 4 x26.2.1)).toArray)) (wanted_none _ rfl _) (rv_load (cs := List.map I (List.take 4 x26.2.1)) Try.underlying98 rfl ti98 e29 (by rw [List.length_map, List.length_take]; have := hl41; omega) (arr_take hc40)) rfl hJ
      trivial) ?_
    refine all_cons (by
      refine ⟨?_, ?_⟩
      ·rintro ⟨b43, b44⟩ ρ σm hJ hoff hdep
       obtain ⟨H, m⟩ := id hJ
       refine dp_ex (wanted_none _ rfl _) (ex_alloc (cs := (List.map I (List.replicate 4 0))) H hn0 ti98 rfl) ?_
       rintro _ σq ⟨b43x, rfl, H2, m2⟩
       exact ⟨_, (b43x, b44), rfl, rfl, ⟨H2.sel' [0, 1, 2, 3] rfl rfl, m.comp0 m2⟩, stab [0, 1, 2, 3, 4, 5, 6, 7, 8, 9, 10, 11, 13] (by kernel_rfl) ⟨rfl, rfl, rfl, rfl, rfl, rfl, rfl, rfl, rfl, rfl, rfl, rfl, rfl, trivial⟩⟩
      refine ⟨?_, ?_⟩
      ·rintro ⟨b43, b44⟩ ρ σm hJ hoff hdep
       obtain ⟨H, m⟩ := id hJ
       refine dp_ex (wanted_none _ rfl _) (ex_alloc (cs := (List.map I (List.replicate 4 0))) H hn0 ti98 rfl) ?_
       rintro _ σq ⟨b43x, rfl, H2, m2⟩
       exact ⟨_, (b43x, b44), rfl, rfl, ⟨H2.sel' [1, 0, 2, 3, 4] rfl rfl, m.comp0 m2⟩, stab [0, 1, 2, 3, 4, 5, 6, 7, 8, 9, 10, 11, 13] (by kernel_rfl) ⟨rfl, rfl, rfl, rfl, rfl, rfl, rfl, rfl, rfl, rfl, rfl, rfl, rfl, trivial⟩⟩
      trivial) ?_
    refine all_cons (by
      refine ⟨?_, ?_⟩
      ·rintro ⟨b43, b44⟩ ρ σm hJ hoff hdep
       obtain ⟨H, m⟩ := id hJ
       refine dp_ex (wanted_none _ rfl _) (ex_alloc (cs := (List.map I (List.replicate 4 0))) H hn0 ti98 rfl) ?_
       rintro _ σq ⟨b44x, rfl, H2, m2⟩
       exact ⟨_, (b43, b44x), rfl, rfl, ⟨H2.sel' [0, 1, 2, 3] rfl rfl, m.comp0 m2⟩, stab [0, 1, 2, 3, 4, 5, 6, 7, 8, 9, 10, 11, 12] (by kernel_rfl) ⟨rfl, rfl, rfl, rfl, rfl, rfl, rfl, rfl, rfl, rfl, rfl, rfl, rfl, trivial⟩⟩
      refine ⟨?_, ?_⟩
      ·rintro ⟨b43, b44⟩ ρ σm hJ hoff hdep
       obtain ⟨H, m⟩ := id hJ
       refine dp_ex (wanted_none _ rfl _) (ex_alloc (cs := (List.map I (List.replicate 4 0))) H hn0 ti98 rfl) ?_
       rintro _ σq ⟨b44x, rfl, H2, m2⟩
       exact ⟨_, (b43, b44x), rfl, rfl, ⟨H2.sel' [0, 1, 2, 3, 4] rfl rfl, m.comp0 m2⟩, stab [0, 1, 2, 3, 4, 5, 6, 7, 8, 9, 10, 11, 12] (by kernel_rfl) ⟨rfl, rfl, rfl, rfl, rfl, rfl, rfl, rfl, rfl, rfl, rfl, rfl, rfl, trivial⟩⟩
      trivial) ?_
    exact all_nil
   ·rintro ⟨b43, b44⟩ ρ σ45 hJ hoff hrel
    have e0 : look 64 ρ 0 = (Sl alist_0 list_0 clist_0) := look_off (hoff 0 rfl) rfl
    have e5 : look 64 ρ 5 = (pt b43 0) := hrel 12 rfl 5 rfl
    have e6 : look 64 ρ 6 = (pt b44 0) := hrel 13 rfl 6 rfl
    have e24 : look 64 ρ 24 = (.agg (List.map I (List.take 4 x9.2.1)).toArray) := hrel 5 rfl 24 rfl
    have e30 : look 64 ρ 30 = (.agg (List.map I (List.take 4 x26.2.1)).toArray) := hrel 11 rfl 30 rfl
    obtain ⟨H, -⟩ := (show Hp S0 σ0 σ45 [Ch.bx n0 b44 0 (List.map I (List.replicate 4 0)) [] [], Ch.bx n0 b43 0 (List.map I (List.replicate 4 0)) [] [], Ch.ro 0 (Sl (some ⟨b38, o39, none⟩) x26.2.1 c32) x26.2.1, Ch.ro 0 (Sl (some ⟨b21, o22, none⟩) x9.2.1 c15) x9.2.1, Ch.ro 0 (Sl alist_0 list_0 clist_0) list_0] ∧ Md (cov []) σ7 σ45 from hJ)
    clear hJ Hs
    rw [fr_lookL (L := [(0, (Sl alist_0 list_0 clist_0)), (5, (pt b43 0)), (6, (pt b44 0)), (24, (.agg (List.map I (List.take 4 x9.2.1)).toArray)), (30, (.agg (List.map I (List.take 4 x26.2.1)).toArray))]) ⟨e0, e5, e6, e24, e30, trivial⟩]
    clear hoff hrel e0 e5 e6 e24 e30
    refine st_exS (ex_store_box (k := 0) (cs := (List.map I (List.replicate 4 0))) (vs := (List.map I (List.take 4 x9.2.1))) (cs' := (List.map I (List.take 4 x9.2.1))) H (i := 1) rfl ti98 rfl rfl rfl rfl ((List.length_map _).trans (by rw [List.length_take]; have := hl24; omega)) (arr_fits (k := 4) (by rw [List.length_take]; have := hl24; omega) rfl) (plain_ints _) (arr_all (k := 4) (by rw [List.length_take]; have := hl24; omega) rfl)) (wanted_none _ rfl _) ?_
    rintro σ46 ⟨H, -⟩
    refine st_exS (ex_store_box (k := 0) (cs := (List.map I (List.replicate 4 0))) (vs := (List.map I (List.take 4 x26.2.1))) (cs' := (List.map I (List.take 4 x26.2.1))) H (i := 1) rfl ti98 rfl rfl rfl rfl ((List.length_map _).trans (by rw [List.length_take]; have := hl41; omega)) (arr_fits (k := 4) (by rw [List.length_take]; have := hl41; omega) rfl) (plain_ints _) (arr_all (k := 4) (by rw [List.length_take]; have := hl41; omega) rfl)) (wanted_none _ rfl _) ?_
    rintro σ47 ⟨H, -⟩
    refine w_end ?_
    refine q_then ?_
    refine c_seq ?_
    refine c_seq ?_
    refine rg ?_
    refine st (v := (Sl alist_0 list_0 clist_0)) (rv_move rfl) ?_
    obtain ⟨xs48, hx49, h'⟩ := bind_some h
    clear h
    have h := h'; clear h'
    obtain ⟨a50, c51, hs52, hR53⟩ := (H.ro 4 rfl).slice hx49
    replace H := H.add (d := Ch.ro 0 (Sl a50 xs48 c51) xs48) hR53 (fun _ h => h)
    clear hR53
    refine st (v := (Sl a50 xs48 c51)) (rv_slice_l Try.underlying23 ti31 hs52 rfl rfl) ?_
    refine st (v := (I (xs48.length : Int))) (rv_len Try.underlying23 rfl) ?_
    refine st (v := (I 0)) (rv_move rfl) ?_
    refine w_end ?_
    refine q_then ?_
    obtain ⟨o54, hj, h'⟩ := bind_some h
    clear h
    refine c_cut (fun e a w => e = .normal ∧ ∃ (ρ : Nat → Value) (σ : St), a = fr 64 (updL ρ [(5, (pt b43 0)), (6, (pt b44 0))]) ∧ w = σ.w ∧ Hp S0 σ0 σ [Ch.bx n0 b43 0 (List.map I o54.1) [] [], Ch.bx n0 b44 0 (List.map I o54.2) [] []] ∧ o54.1.length = 4 ∧ o54.2.length = 4) ?_ ?_
    ·clear h'
     rename _ = some o54 => h
     refine c_blk ?_
     refine wp_loopM _ h (fun s55 a w => ∃ (ρ : Nat → Value) (σ : St), a = fr 64 (updL ρ [(5, (pt b43 0)), (6, (pt b44 0)), (32, (Sl a50 xs48 c51)), (33, (I (xs48.length : Int))), (34, (I s55.2.2))]) ∧ w = σ.w ∧ Hp S0 σ0 σ [Ch.bx n0 b43 0 (List.map I s55.1) [] [], Ch.bx n0 b44 0 (List.map I s55.2.1) [] [], Ch.ro 0 (Sl a50 xs48 c51) xs48] ∧ s55.1.length = 4 ∧ s55.2.1.length = 4) ⟨_, σ47, fr_join ⟨rfl, rfl, rfl, rfl, rfl, trivial⟩, rfl, H.sel' [2, 1, 0] rfl rfl, (by rw [List.length_take]; have := hl24; omega), (by rw [List.length_take]; have := hl41; omega)⟩ ?_
     clear h H
     rintro s55 a w o ⟨ρ, σ56, rfl, rfl, H, hl57, hl58⟩ h hres
     refine c_seq ?_
     refine rg ?_
     refine st (v := (B (decide (s55.2.2 < (xs48.length : Int))))) (rv_lss (a := s55.2.2) (b := (xs48.length : Int)) rfl rfl) ?_
     refine w_end ?_
     refine q_then ?_
     refine c_seq ?_
     refine cd_cond (decide (s55.2.2 < (xs48.length : Int))) rfl (fun hb59 => ?_) (fun hb59 => ?_)
     ·replace h := bif_t hb59 h
      refine c_skip ?_
      refine q_then ?_
      refine c_seq ?_
      refine c_blk ?_
      refine c_seq ?_
      refine rg ?_
      obtain ⟨x60, hx61, h'⟩ := bind_some h
      clear h
      have h := h'; clear h'
      obtain ⟨b63, o64, hi62, -⟩ := (H.ro 2 rfl).ix hx61
      refine st (v := (pt b63 o64)) (rv_ix Try.underlying23 ti31 rfl rfl hi62) ?_
      obtain ⟨_, ⟨_, _, rfl, rfl, ⟨_, _, rfl, ⟨_, rfl, hR69⟩, rfl⟩⟩, hl65, hc66⟩ := ((H.ro 2 rfl).at hx61 hi62).cells
      obtain ⟨a67, c68, rfl⟩ := hR69.isSl
      replace H := H.add (d := Ch.ro 0 (Sl a67 x60.2.1 c68) x60.2.1) hR69 (fun _ h => h)
      clear hR69
      refine st (v := (.agg #[(I x60.1), (Sl a67 x60.2.1 c68), (I x60.2.2)])) (rv_load Try.underlying31 rfl ti31 rfl hl65 hc66) ?_
      refine st_ex (ex_alloc (cs := [(I 0), (.slice none 0 0), (I 0)]) H hn0 ti31 rfl) (wanted_none _ rfl _) ?_
      rintro _ σ71 ⟨b70, rfl, H, -⟩
      refine st_exS (ex_store_box (k := 0) (cs := [(I 0), (.slice none 0 0), (I 0)]) (vs := [(I x60.1), (Sl a67 x60.2.1 c68), (I x60.2.2)]) (cs' := [(I x60.1), (Sl a67 x60.2.1 c68), (I x60.2.2)]) H (i := 0) rfl ti31 rfl rfl rfl rfl rfl (Nat.le_of_ble_eq_true rfl) (by simp [plain]) rfl) (wanted_none _ rfl _) ?_
      rintro σ72 ⟨H, -⟩
      refine w_end ?_
      refine q_then ?_
      refine c_seq ?_
      refine rg ?_
      refine st (v := (pt b70 1)) (rv_fieldAddr (off := 1) (ft := 24) Try.underlying31 rfl ti24 rfl rfl) ?_
      have hc73 := H.cell (u := (Sl a67 x60.2.1 c68)) (o' := 1) 0 1 rfl rfl rfl
      refine st (v := (Sl a67 x60.2.1 c68)) (rv_load1 Try.underlying24 rfl rfl hc73) ?_
      refine st (v := (I (x60.2.1.length : Int))) (rv_len Try.underlying24 rfl) ?_
      refine st (v := (I 0)) (rv_move rfl) ?_
      refine w_end ?_
      refine q_then ?_
      obtain ⟨o74, hj, h'⟩ := bind_some h
      clear h
      refine c_cut (fun e a w => e = .normal ∧ ∃ (ρ : Nat → Value) (σ : St), a = fr 64 (updL ρ [(5, (pt b43 0)), (6, (pt b44 0)), (32, (Sl a50 xs48 c51)), (33, (I (xs48.length : Int))), (34, (I s55.2.2))]) ∧ w = σ.w ∧ Hp S0 σ0 σ [Ch.bx n0 b43 0 (List.map I o74.1) [] [], Ch.bx n0 b44 0 (List.map I o74.2) [] [], Ch.ro 0 (Sl a50 xs48 c51) xs48] ∧ o74.1.length = 4 ∧ o74.2.length = 4) ?_ ?_
      ·clear h'
       rename _ = some o74 => h
       refine c_blk ?_
       refine wp_loopM _ h (fun s75 a w => ∃ (ρ : Nat → Value) (σ : St), a = fr 64 (updL ρ [(5, (pt b43 0)), (6, (pt b44 0)), (32, (Sl a50 xs48 c51)), (33, (I (xs48.length : Int))), (34, (I s55.2.2)), (39, (Sl a67 x60.2.1 c68)), (40, (I (x60.2.1.length : Int))), (41, (I s75.2.2))]) ∧ w = σ.w ∧ Hp S0 σ0 σ [Ch.bx n0 b43 0 (List.map I s75.1) [] [], Ch.bx n0 b44 0 (List.map I s75.2.1) [] [], Ch.ro 0 (Sl a50 xs48 c51) xs48, Ch.ro 0 (Sl a67 x60.2.1 c68) x60.2.1] ∧ s75.1.length = 4 ∧ s75.2.1.length = 4) ⟨_, σ72, fr_join ⟨rfl, rfl, rfl, rfl, rfl, rfl, rfl, rfl, trivial⟩, rfl, H.sel' [2, 3, 4, 1] rfl rfl, hl57, hl58⟩ ?_
       clear h H
       rintro s75 a w o ⟨ρ, σ76, rfl, rfl, H, hl77, hl78⟩ h hres
       refine c_seq ?_
       refine rg ?_
       refine st (v := (B (decide (s75.2.2 < (x60.2.1.length : Int))))) (rv_lss (a := s75.2.2) (b := (x60.2.1.length : Int)) rfl rfl) ?_
       refine w_end ?_
       refine q_then ?_
       refine c_seq ?_
       refine cd_cond (decide (s75.2.2 < (x60.2.1.length : Int))) rfl (fun hb79 => ?_) (fun hb79 => ?_)
       ·replace h := bif_t hb79 h
        refine c_skip ?_
        refine q_then ?_
        refine c_seq ?_
        refine c_blk ?_
        refine c_seq ?_
        refine rg ?_
        refine st (v := (I s75.2.2)) (rv_move rfl) ?_
        obtain ⟨x80, hx81, h'⟩ := bind_some h
        clear h
        have h := h'; clear h'
        obtain ⟨b83, o84, hi82, -⟩ := (H.ro 3 rfl).ix hx81
        refine st (v := (pt b83 o84)) (rv_ix Try.underlying24 ti3 rfl rfl hi82) ?_
        have hc85 := ((H.ro 3 rfl).at hx81 hi82).int
        refine st (v := (I x80)) (rv_load1 Try.underlying3 rfl rfl hc85) ?_
        refine st (v := (I s75.2.2)) (rv_assign rfl) ?_
        refine st (v := (I x80)) (rv_assign rfl) ?_
        refine w_end ?_
        refine q_then ?_
        refine c_seq ?_
        refine rg ?_
        refine st (v := (I s75.2.2)) (rv_move rfl) ?_
        refine st (v := (I s75.2.2)) (rv_move rfl) ?_
        obtain ⟨x86, hx87, h'⟩ := bind_some h
        clear h
        have h := h'; clear h'
        have hl88 := gidx_lt hx87 hl77
        refine st (v := (pt b43 (0 + s75.2.2.toNat * 1))) (rv_indexAddr_array Try.underlying98 ti3 rfl rfl hl88.1 hl88.2) ?_
        have hc89 := Hp.arrCell H 0 rfl hx87
        refine st (v := (I x86)) (rv_load1 Try.underlying3 rfl rfl hc89) ?_
        refine st (v := (I x80)) (rv_move rfl) ?_
        refine st (v := (I (min x86 x80))) (rv_min rfl rfl) ?_
        obtain ⟨x90, hx91, h'⟩ := bind_some h
        clear h
        have h := h'; clear h'
        have hl92 := gidx_lt hx91 hl77
        refine st (v := (pt b43 (0 + s75.2.2.toNat * 1))) (rv_indexAddr_array Try.underlying98 ti3 rfl rfl hl92.1 hl92.2) ?_
        have hl93 := gidx_lt hx91 hl77
        refine st_exS (ex_store_box (k := s75.2.2.toNat * 1) (vs := [(I (min x86 x80))]) (cs' := (List.map I (s75.1.set s75.2.2.toNat (min x86 x80)))) H (i := 0) rfl ti3 rfl rfl rfl rfl rfl (by rw [List.length_map, hl77]; simp; omega) (by simp [plain]) (arr_set' _ _ _)) (wanted_none _ rfl _) ?_
        rintro σ94 ⟨H, -⟩
        refine w_end ?_
        refine q_then ?_
        refine rg ?_
        refine st (v := (I s75.2.2)) (rv_move rfl) ?_
        refine st (v := (I s75.2.2)) (rv_move rfl) ?_
        obtain ⟨x95, hx96, h'⟩ := bind_some h
        clear h
        have h := h'; clear h'
        have hl97 := gidx_lt hx96 hl78
        refine st (v := (pt b44 (0 + s75.2.2.toNat * 1))) (rv_indexAddr_array Try.underlying98 ti3 rfl rfl hl97.1 hl97.2) ?_
        have hc98 := Hp.arrCell H 1 rfl hx96
        refine st (v := (I x95)) (rv_load1 Try.underlying3 rfl rfl hc98) ?_
        refine st (v := (I x80)) (rv_move rfl) ?_
        refine st (v := (I (max x95 x80))) (rv_max rfl rfl) ?_
        obtain ⟨x99, hx100, h'⟩ := bind_some h
        clear h
        have h := h'; clear h'
        have hl101 := gidx_lt hx100 hl78
        refine st (v := (pt b44 (0 + s75.2.2.toNat * 1))) (rv_indexAddr_array Try.underlying98 ti3 rfl rfl hl101.1 hl101.2) ?_
        have hl102 := gidx_lt hx100 hl78
        refine st_exS (ex_store_box (k := s75.2.2.toNat * 1) (vs := [(I (max x95 x80))]) (cs' := (List.map I (s75.2.1.set s75.2.2.toNat (max x95 x80)))) H (i := 1) rfl ti3 rfl rfl rfl rfl rfl (by rw [List.length_map, hl78]; simp; omega) (by simp [plain]) (arr_set' _ _ _)) (wanted_none _ rfl _) ?_
        rintro σ103 ⟨H, -⟩
        refine w_end ?_
        refine q_blk ?_
        refine q_then ?_
        refine rg ?_
        refine st (v := (I (w64 (s75.2.2 + 1)))) (rv_add (a := s75.2.2) (b := 1) rfl rfl) ?_
        refine st (v := (I (w64 (s75.2.2 + 1)))) (rv_move rfl) ?_
        refine w_end ?_
        refine q_then ?_
        obtain rfl := Option.some.inj h
        exact ⟨_, rfl, _, σ103, fr_join ⟨rfl, rfl, rfl, rfl, rfl, rfl, rfl, rfl, trivial⟩, rfl, H.sel' [1, 0, 2, 3] rfl rfl, (set_len hl77), (set_len hl78)⟩
       ·replace h := bif_f hb79 h
        refine c_exit ?_
        refine q_then_x ?_
        refine q_then_x ?_
        refine q_blk_hit ?_
        obtain rfl := Option.some.inj h
        obtain rfl := hres _ rfl
        exact ⟨rfl, _, σ76, fr_join ⟨rfl, rfl, rfl, rfl, rfl, trivial⟩, rfl, H.sel' [0, 1, 2] rfl rfl, hl77, hl78⟩
      ·clear hj
       have h := h'
       clear h' H
       rintro e a w ⟨rfl, ρ, σ104, rfl, rfl, H, hl105, hl106⟩
       refine q_blk ?_
       refine q_then ?_
       refine rg ?_
       refine st (v := (I (w64 (s55.2.2 + 1)))) (rv_add (a := s55.2.2) (b := 1) rfl rfl) ?_
       refine st (v := (I (w64 (s55.2.2 + 1)))) (rv_move rfl) ?_
       refine w_end ?_
       refine q_then ?_
       obtain rfl := Option.some.inj h
       exact ⟨_, rfl, _, σ104, fr_join ⟨rfl, rfl, rfl, rfl, rfl, trivial⟩, rfl, H.sel' [0, 1, 2] rfl rfl, hl105, hl106⟩
     ·replace h := bif_f hb59 h
      refine c_exit ?_
      refine q_then_x ?_
      refine q_then_x ?_
      refine q_blk_hit ?_
      obtain rfl := Option.some.inj h
      obtain rfl := hres _ rfl
      exact ⟨rfl, _, σ56, fr_join ⟨rfl, rfl, trivial⟩, rfl, H.sel' [0, 1] rfl rfl, hl57, hl58⟩
    ·clear hj
     have h := h'
     clear h' H
     rintro e a w ⟨rfl, ρ, σ107, rfl, rfl, H, hl108, hl109⟩
     refine q_then ?_
     refine c_seq ?_
     refine rgP (σ := σ107) 3 (by kernel_rfl) (by kernel_rfl) (by kernel_rfl) ?_
     replace H := Hp.arr (el := n0) H (i := 0) rfl hl108
     refine sq (v := (Sl (some ⟨b43, 0, none⟩) o54.1 4)) (rv_slice_arrL Try.underlying98 ti3 (by decide) rfl hl108) ?_
     replace H := Hp.arr (el := n0) H (i := 1) rfl hl109
     refine sq (v := (Sl (some ⟨b44, 0, none⟩) o54.2 4)) (rv_slice_arrL Try.underlying98 ti3 (by decide) rfl hl109) ?_
     refine sq (v := (Sl (some ⟨b43, 0, none⟩) o54.1 4)) (rv_assign rfl) ?_
     refine sq_end ?_
     intro σ110 hm111
     replace H := H.grow (hm111.mono fun _ h => h); clear hm111
     refine st (v := (Sl (some ⟨b44, 0, none⟩) o54.2 4)) (rv_assign rfl) ?_
     refine st (v := (B true)) (rv_assign rfl) ?_
     refine w_end ?_
     refine q_then ?_
     refine c_ret ?_
     obtain rfl := Option.some.inj h
     exact fin_ret (v := (.tuple #[(Sl (some ⟨b43, 0, none⟩) o54.1 4), (Sl (some ⟨b44, 0, none⟩) o54.2 4), (B true)])) (results_ok Try.results60 (res_tmp (v := (Sl (some ⟨b43, 0, none⟩) o54.1 4)) rfl (res_tmp (v := (Sl (some ⟨b44, 0, none⟩) o54.2 4)) rfl (res_tmp (v := (B true)) rfl res_nil))) rfl) ⟨(some ⟨b43, 0, none⟩), 4, (some ⟨b44, 0, none⟩), 4, rfl, rfl, hl108.symm, hl109.symm⟩ (H.sel' [1, 0] rfl rfl)

theorem c_laws_FnExactBoundsOf {aList_0 : List (Int × (List Int) × Int)} {aaList_0 : Option Addr} {caList_0 : Nat} {r : Bool} (h : M.laws_FnExactBoundsOf aList_0 = some r) :
    Cal2 Try.prog 12 [(Sl aaList_0 aList_0 caList_0)] [Ch.ro 0 (Sl aaList_0 aList_0 caList_0) aList_0] (fun n0 v L => v = (B r) ∧ L = []) := by
 refine cal2 (n := 133) Try.func12 rfl rfl rfl rfl ?_
 intro S0 σ0 n0 hn0 H
 unfold M.laws_FnExactBoundsOf at h
 refine c_seq ?_
 refine rg ?_
 refine st (v := (B false)) (rv_assign rfl) ?_
 refine w_end ?_
 refine q_then ?_
 refine c_seq ?_
 refine rg ?_
 refine st (v := (I 1048576)) (rv_assign rfl) ?_
 refine w_end ?_
 refine q_then ?_
 refine c_seq ?_
 refine rg ?_
 refine st (v := (Sl aaList_0 aList_0 caList_0)) (rv_move rfl) ?_
 refine st (v := (I 1048576)) (rv_move rfl) ?_
 obtain ⟨r1, hx2, h'⟩ := bind_some h
 clear h
 have h := h'; clear h'
 have hc3 := c_laws_szItemS (aa_0 := aaList_0) (ca_0 := caList_0) hx2
 refine st_call (cx_call hc3 (ent_f hc3.fn rfl) hn0 (show Hp S0 σ0 _ ([Ch.ro 0 (Sl aaList_0 aList_0 caList_0) aList_0] ++ [Ch.ro 0 (Sl aaList_0 aList_0 caList_0) aList_0]) from (H.sel' [0, 0] rfl rfl))) (wanted_none _ rfl _) ?_
 rintro _ σ4 ⟨_, ⟨rfl, rfl⟩, H, -⟩
 replace H : Hp S0 σ0 σ4 [Ch.ro 0 (Sl aaList_0 aList_0 caList_0) aList_0] := H
 refine st (v := (I r1)) (rv_assign rfl) ?_
 refine w_end ?_
 refine q_then ?_
 refine c_seq ?_
 refine c_seq ?_
 refine rg ?_
 refine st (v := (I r1)) (rv_move rfl) ?_
 refine st (v := (B (decide (r1 < 0)))) (rv_lss (a := r1) (b := 0) rfl rfl) ?_
 refine w_end ?_
 refine q_then ?_
 refine cd_cond (decide (r1 < 0)) rfl (fun hb5 => ?_) (fun hb5 => ?_)
 ·replace h := bif_t hb5 h
  refine c_seq ?_
  refine rg ?_
  refine st (v := (B true)) (rv_assign rfl) ?_
  refine w_end ?_
  refine q_then ?_
  refine c_ret ?_
  refine q_then_r ?_
  obtain rfl := Option.some.inj h
  exact fin_ret (v := (B true)) (results_ok Try.results12 (res_tmp (v := (B true)) rfl res_nil) rfl) ⟨rfl, rfl⟩ (H.sel' [] rfl rfl)
 ·replace h := bif_f hb5 h
  refine c_skip ?_
  refine q_then ?_
  refine c_seq ?_
  refine rg ?_
  refine st (v := (Sl aaList_0 aList_0 caList_0)) (rv_move rfl) ?_
  obtain ⟨r6, hx7, h'⟩ := bind_some h
  clear h
  have h := h'; clear h'
  have hc8 := c_laws_toItemS (aa_0 := aaList_0) (ca_0 := caList_0) hx7
  refine st_call (cx_call hc8 (ent_f hc8.fn rfl) hn0 (show Hp S0 σ0 _ ([Ch.ro 0 (Sl aaList_0 aList_0 caList_0) aList_0] ++ [Ch.ro 0 (Sl aaList_0 aList_0 caList_0) aList_0]) from (H.sel' [0, 0] rfl rfl))) (wanted_none _ rfl _) ?_
  rintro _ σ13 ⟨_, ⟨a9, c10, K11, rfl, rfl, hK12⟩, H, -⟩
  replace H : Hp S0 σ0 σ13 [Ch.big K11, Ch.ro 0 (Sl aaList_0 aList_0 caList_0) aList_0] := H
  obtain ⟨r14, hx15, h'⟩ := bind_some h
  clear h
  have h := h'; clear h'
  have hc16 := c_spec_BoundsOf (alist_0 := a9) (clist_0 := c10) hx15
  have hle := Nat.le_trans hn0 H.size
  refine st_call (cx_lend (Loan.lendB hK12.lends Loan.nil) hc16 (ent_f hc16.fn rfl) (show Hp S0 σ0 _ ([Ch.big K11] ++ ([] ++ [Ch.ro 0 (Sl aaList_0 aList_0 caList_0) aList_0])) from (H.sel' [0, 1] rfl rfl)) (by rintro _ _ _ ⟨_, _, _, _, rfl, rfl⟩; exact ⟨Ab.ownSc, Ab.ownSc, trivial⟩)) (wanted_none _ rfl _) ?_
  rintro _ σ21 ⟨_, ⟨a17, c18, a19, c20, rfl, rfl⟩, H, -, -⟩
  replace H : Hp S0 σ0 σ21 [Ch.own σ13.size σ13.size (Sl a17 r14.1 c18) r14.1, Ch.own σ13.size σ13.size (Sl a19 r14.2.1 c20) r14.2.1, Ch.big K11, Ch.ro 0 (Sl aaList_0 aList_0 caList_0) aList_0] := H
  replace H := H.ownLow 0 n0 n0 rfl hle hle
  replace H := H.ownLow 1 n0 n0 rfl hle hle
  clear hle
  replace H : Hp S0 σ0 σ21 [Ch.own n0 n0 (Sl a19 r14.2.1 c20) r14.2.1, Ch.own n0 n0 (Sl a17 r14.1 c18) r14.1, Ch.big K11, Ch.ro 0 (Sl aaList_0 aList_0 caList_0) aList_0] := H
  refine st (v := (.tuple #[(Sl a17 r14.1 c18), (Sl a19 r14.2.1 c20), (B r14.2.2)])) (rv_move rfl) ?_
  refine st (v := (Sl a17 r14.1 c18)) (rv_extract rfl rfl) ?_
  refine st (v := (Sl a19 r14.2.1 c20)) (rv_extract rfl rfl) ?_
  refine st (v := (B r14.2.2)) (rv_extract rfl rfl) ?_
  refine st (v := (Sl a17 r14.1 c18)) (rv_assign rfl) ?_
  refine st (v := (Sl a19 r14.2.1 c20)) (rv_assign rfl) ?_
  refine st (v := (B r14.2.2)) (rv_assign rfl) ?_
  refine w_end ?_
  refine q_then ?_
  refine c_seq ?_
  refine rg ?_
  refine st (v := (Sl aaList_0 aList_0 caList_0)) (rv_move rfl) ?_
  obtain ⟨r22, hx23, h'⟩ := bind_some h
  clear h
  have h := h'; clear h'
  have hc24 := c_laws_toItemS (aa_0 := aaList_0) (ca_0 := caList_0) hx23
  refine st_call (cx_call hc24 (ent_f hc24.fn rfl) hn0 (show Hp S0 σ0 _ ([Ch.ro 0 (Sl aaList_0 aList_0 caList_0) aList_0] ++ [Ch.own n0 n0 (Sl a19 r14.2.1 c20) r14.2.1, Ch.own n0 n0 (Sl a17 r14.1 c18) r14.1, Ch.big K11, Ch.ro 0 (Sl aaList_0 aList_0 caList_0) aList_0]) from (H.sel' [3, 0, 1, 2, 3] rfl rfl))) (wanted_none _ rfl _) ?_
  rintro _ σ29 ⟨_, ⟨a25, c26, K27, rfl, rfl, hK28⟩, H, -⟩
  replace H : Hp S0 σ0 σ29 [Ch.big K27, Ch.own n0 n0 (Sl a19 r14.2.1 c20) r14.2.1, Ch.own n0 n0 (Sl a17 r14.1 c18) r14.1, Ch.big K11, Ch.ro 0 (Sl aaList_0 aList_0 caList_0) aList_0] := H
  refine st (v := (Sl a25 r22 c26)) (rv_assign rfl) ?_
  refine w_end ?_
  refine q_then ?_
  refine c_seq ?_
  refine rg ?_
  refine st (v := (Sl a25 r22 c26)) (rv_move rfl) ?_
  obtain ⟨r30, hx31, h'⟩ := bind_some h
  clear h
  have h := h'; clear h'
  have hc32 := c_impl_BoundsOf (alist_0 := a25) (clist_0 := c26) hx31
  have hle := Nat.le_trans hn0 H.size
  refine st_call (cx_lend (Loan.lendB hK28.lends Loan.nil) hc32 (ent_f hc32.fn rfl) (show Hp S0 σ0 _ ([Ch.big K27] ++ ([] ++ [Ch.own n0 n0 (Sl a19 r14.2.1 c20) r14.2.1, Ch.own n0 n0 (Sl a17 r14.1 c18) r14.1, Ch.big K11, Ch.ro 0 (Sl aaList_0 aList_0 caList_0) aList_0])) from (H.sel' [0, 1, 2, 3, 4] rfl rfl)) (by rintro _ _ _ ⟨_, _, _, _, rfl, rfl, _, _⟩; exact ⟨Ab.ownSc, Ab.ownSc, trivial⟩)) (wanted_none _ rfl _) ?_
  rintro _ σ39 ⟨_, ⟨a33, c34, a36, c37, rfl, rfl, ht35, ht38⟩, H, -, -⟩
  replace H : Hp S0 σ0 σ39 [Ch.own σ29.size σ29.size (Sl a33 r30.1 c34) r30.1, Ch.own σ29.size σ29.size (Sl a36 r30.2.1 c37) r30.2.1, Ch.big K27, Ch.own n0 n0 (Sl a19 r14.2.1 c20) r14.2.1, Ch.own n0 n0 (Sl a17 r14.1 c18) r14.1, Ch.big K11, Ch.ro 0 (Sl aaList_0 aList_0 caList_0) aList_0] := H
  replace H := H.ownLow 0 n0 n0 rfl hle hle
  replace H := H.ownLow 1 n0 n0 rfl hle hle
  clear hle
  replace H : Hp S0 σ0 σ39 [Ch.own n0 n0 (Sl a36 r30.2.1 c37) r30.2.1, Ch.own n0 n0 (Sl a33 r30.1 c34) r30.1, Ch.big K27, Ch.own n0 n0 (Sl a19 r14.2.1 c20) r14.2.1, Ch.own n0 n0 (Sl a17 r14.1 c18) r14.1, Ch.big K11, Ch.ro 0 (Sl aaList_0 aList_0 caList_0) aList_0] := H
  refine st (v := (.tuple #[(Sl a33 r30.1 c34), (Sl a36 r30.2.1 c37), (B r30.2.2)])) (rv_move rfl) ?_
  refine st (v := (Sl a33 r30.1 c34)) (rv_extract rfl rfl) ?_
  refine st (v := (Sl a36 r30.2.1 c37)) (rv_extract rfl rfl) ?_
  refine st (v := (B r30.2.2)) (rv_extract rfl rfl) ?_
  refine st (v := (Sl a33 r30.1 c34)) (rv_assign rfl) ?_
  refine st (v := (Sl a36 r30.2.1 c37)) (rv_assign rfl) ?_
  refine st (v := (B r30.2.2)) (rv_assign rfl) ?_
  refine w_end ?_
  refine q_then ?_
  refine c_seq ?_
  refine c_seq ?_
  obtain ⟨o40, hj, h'⟩ := bind_some h
  clear h
  refine c_cut (fun e a w => e = .normal ∧ ∃ (ρ : Nat → Value) (σ : St), a = fr 133 (updL ρ [(0, (Sl aaList_0 aList_0 caList_0)), (4, (Sl a17 r14.1 c18)), (5, (Sl a19 r14.2.1 c20)), (6, (B r14.2.2)), (7, (Sl a25 r22 c26)), (8, (Sl a33 r30.1 c34)), (9, (Sl a36 r30.2.1 c37)), (10, (B r30.2.2)), (51, (B o40))]) ∧ w = σ.w ∧ Hp S0 σ0 σ [Ch.ro 0 (Sl aaList_0 aList_0 caList_0) aList_0, Ch.own n0 n0 (Sl a17 r14.1 c18) r14.1, Ch.own n0 n0 (Sl a19 r14.2.1 c20) r14.2.1, Ch.big K27, Ch.own n0 n0 (Sl a33 r30.1 c34) r30.1, Ch.own n0 n0 (Sl a36 r30.2.1 c37) r30.2.1]) ?_ ?_
  ·clear h'
   rename _ = some o40 => h
   refine rg ?_
   refine st (v := (Sl a33 r30.1 c34)) (rv_move rfl) ?_
   refine st (v := (Sl a17 r14.1 c18)) (rv_move rfl) ?_
   obtain ⟨r41, hx42, h'⟩ := bind_some h
   clear h
   have h := h'; clear h'
   have hc43 := c_laws_eqIntS (aa_0 := a33) (ca_0 := c34) (ab_1 := a17) (cb_1 := c18) hx42
   have hle := Nat.le_trans hn0 H.size
   refine st_call (cx_lend (Loan.lend (Loan.lend Loan.nil)) hc43 (ent_f hc43.fn rfl) (show Hp S0 σ0 _ ([Ch.own n0 n0 (Sl a33 r30.1 c34) r30.1, Ch.own n0 n0 (Sl a17 r14.1 c18) r14.1] ++ ([] ++ [Ch.own n0 n0 (Sl a36 r30.2.1 c37) r30.2.1, Ch.big K27, Ch.own n0 n0 (Sl a19 r14.2.1 c20) r14.2.1, Ch.big K11, Ch.ro 0 (Sl aaList_0 aList_0 caList_0) aList_0])) from (H.sel' [1, 4, 0, 2, 3, 5, 6] rfl rfl)) (by rintro _ _ _ ⟨rfl, rfl⟩; exact trivial)) (wanted_none _ rfl _) ?_
   rintro _ σ44 ⟨_, ⟨rfl, rfl⟩, H, -, -⟩
   replace H : Hp S0 σ0 σ44 [Ch.own n0 n0 (Sl a33 r30.1 c34) r30.1, Ch.own n0 n0 (Sl a17 r14.1 c18) r14.1, Ch.own n0 n0 (Sl a36 r30.2.1 c37) r30.2.1, Ch.big K27, Ch.own n0 n0 (Sl a19 r14.2.1 c20) r14.2.1, Ch.big K11, Ch.ro 0 (Sl aaList_0 aList_0 caList_0) aList_0] := H
   clear hle
   replace H : Hp S0 σ0 σ44 [Ch.own n0 n0 (Sl a33 r30.1 c34) r30.1, Ch.own n0 n0 (Sl a17 r14.1 c18) r14.1, Ch.own n0 n0 (Sl a36 r30.2.1 c37) r30.2.1, Ch.big K27, Ch.own n0 n0 (Sl a19 r14.2.1 c20) r14.2.1, Ch.big K11, Ch.ro 0 (Sl aaList_0 aList_0 caList_0) aList_0] := H
   refine st (v := (B (!r41))) (rv_not rfl) ?_
   refine st (v := (B (!r41))) (rv_move rfl) ?_
   rcases Bool.eq_false_or_eq_true (!r41) with hb45 | hb45
   ·replace h := bif_t hb45 h
    refine st_skip (congrArg some hb45) ?_
    refine st_skip (congrArg some hb45) ?_
    refine st_skip (congrArg some hb45) ?_
    refine st_skip (congrArg some hb45) ?_
    refine st (v := (B true)) (rv_pick_t (congrArg B hb45) rfl) ?_
    refine st (v := (B true)) (rv_move rfl) ?_
    refine st_skip rfl ?_
    refine st_skip rfl ?_
    refine st_skip rfl ?_
    refine st (v := (B true)) (rv_pick_t rfl rfl) ?_
    refine w_end ?_
    obtain rfl := Option.some.inj h
    exact ⟨rfl, _, σ44, fr_join ⟨rfl, rfl, rfl, rfl, rfl, rfl, rfl, rfl, rfl, trivial⟩, rfl, H.sel' [6, 1, 4, 3, 0, 2] rfl rfl⟩
   ·replace h := bif_f hb45 h
    refine st_g (v := (Sl a36 r30.2.1 c37)) (congrArg some hb45) (rv_move rfl) ?_
    refine st_g (v := (Sl a19 r14.2.1 c20)) (congrArg some hb45) (rv_move rfl) ?_
    obtain ⟨r46, hx47, h'⟩ := bind_some h
    clear h
    have h := h'; clear h'
    have hc48 := c_laws_eqIntS (aa_0 := a36) (ca_0 := c37) (ab_1 := a19) (cb_1 := c20) hx47
    have hle := Nat.le_trans hn0 H.size
    refine st_call (cx_lend (Loan.lend (Loan.lend Loan.nil)) hc48 (ent_f hc48.fn rfl) (show Hp S0 σ0 _ ([Ch.own n0 n0 (Sl a36 r30.2.1 c37) r30.2.1, Ch.own n0 n0 (Sl a19 r14.2.1 c20) r14.2.1] ++ ([] ++ [Ch.own n0 n0 (Sl a33 r30.1 c34) r30.1, Ch.own n0 n0 (Sl a17 r14.1 c18) r14.1, Ch.big K27, Ch.big K11, Ch.ro 0 (Sl aaList_0 aList_0 caList_0) aList_0])) from (H.sel' [2, 4, 0, 1, 3, 5, 6] rfl rfl)) (by rintro _ _ _ ⟨rfl, rfl⟩; exact trivial)) (wanted_yes rfl (by exact (congrArg some hb45))) ?_
    rintro _ σ49 ⟨_, ⟨rfl, rfl⟩, H, -, -⟩
    replace H : Hp S0 σ0 σ49 [Ch.own n0 n0 (Sl a36 r30.2.1 c37) r30.2.1, Ch.own n0 n0 (Sl a19 r14.2.1 c20) r14.2.1, Ch.own n0 n0 (Sl a33 r30.1 c34) r30.1, Ch.own n0 n0 (Sl a17 r14.1 c18) r14.1, Ch.big K27, Ch.big K11, Ch.ro 0 (Sl aaList_0 aList_0 caList_0) aList_0] := H
    clear hle
    replace H : Hp S0 σ0 σ49 [Ch.own n0 n0 (Sl a36 r30.2.1 c37) r30.2.1, Ch.own n0 n0 (Sl a19 r14.2.1 c20) r14.2.1, Ch.own n0 n0 (Sl a33 r30.1 c34) r30.1, Ch.own n0 n0 (Sl a17 r14.1 c18) r14.1, Ch.big K27, Ch.big K11, Ch.ro 0 (Sl aaList_0 aList_0 caList_0) aList_0] := H
    refine st_g (v := (B (!r46))) (congrArg some hb45) (rv_not rfl) ?_
    refine st (v := (B (!r46))) (rv_pick_f (congrArg B hb45) rfl) ?_
    refine st (v := (B (!r46))) (rv_move rfl) ?_
    rcases Bool.eq_false_or_eq_true (!r46) with hb50 | hb50
    ·replace h := bif_t hb50 h
     refine st_skip (congrArg some hb50) ?_
     refine st_skip (congrArg some hb50) ?_
     refine st_skip (congrArg some hb50) ?_
     refine st (v := (B true)) (rv_pick_t (congrArg B hb50) rfl) ?_
     refine w_end ?_
     obtain rfl := Option.some.inj h
     exact ⟨rfl, _, σ49, fr_join ⟨rfl, rfl, rfl, rfl, rfl, rfl, rfl, rfl, rfl, trivial⟩, rfl, H.sel' [6, 3, 1, 4, 2, 0] rfl rfl⟩
    ·replace h := bif_f hb50 h
     refine st_g (v := (B r30.2.2)) (congrArg some hb50) (rv_move rfl) ?_
     refine st_g (v := (B r14.2.2)) (congrArg some hb50) (rv_move rfl) ?_
     refine st_g (v := (B (r30.2.2 != r14.2.2))) (congrArg some hb50) (rv_bneq Try.underlying4 rfl rfl) ?_
     refine st (v := (B (r30.2.2 != r14.2.2))) (rv_pick_f (congrArg B hb50) rfl) ?_
     refine w_end ?_
     obtain rfl := Option.some.inj h
     exact ⟨rfl, _, σ49, fr_join ⟨rfl, rfl, rfl, rfl, rfl, rfl, rfl, rfl, rfl, trivial⟩, rfl, H.sel' [6, 3, 1, 4, 2, 0] rfl rfl⟩
  ·clear hj
   have h := h'
   clear h' H
   rintro e a w ⟨rfl, ρ, σ51, rfl, rfl, H⟩
   refine q_then ?_
   refine cd_cond o40 rfl (fun hb52 => ?_) (fun hb52 => ?_)
   ·replace h := bif_t hb52 h
    refine c_seq ?_
    refine rg ?_
    refine st (v := (B false)) (rv_assign rfl) ?_
    refine w_end ?_
    refine q_then ?_
    refine c_ret ?_
    refine q_then_r ?_
    obtain rfl := Option.some.inj h
    exact fin_ret (v := (B false)) (results_ok Try.results12 (res_tmp (v := (B false)) rfl res_nil) rfl) ⟨rfl, rfl⟩ (H.sel' [] rfl rfl)
   ·replace h := bif_f hb52 h
    refine c_skip ?_
    refine q_then ?_
    refine c_seq ?_
    refine c_seq ?_
    refine rg ?_
    refine st (v := (Sl a25 r22 c26)) (rv_move rfl) ?_
    refine st (v := (Sl aaList_0 aList_0 caList_0)) (rv_move rfl) ?_
    obtain ⟨r53, hx54, h'⟩ := bind_some h
    clear h
    have h := h'; clear h'
    have hc55 := c_laws_toItemS (aa_0 := aaList_0) (ca_0 := caList_0) hx54
    refine st_call (cx_call hc55 (ent_f hc55.fn rfl) hn0 (show Hp S0 σ0 _ ([Ch.ro 0 (Sl aaList_0 aList_0 caList_0) aList_0] ++ [Ch.ro 0 (Sl aaList_0 aList_0 caList_0) aList_0, Ch.own n0 n0 (Sl a17 r14.1 c18) r14.1, Ch.own n0 n0 (Sl a19 r14.2.1 c20) r14.2.1, Ch.big K27, Ch.own n0 n0 (Sl a33 r30.1 c34) r30.1, Ch.own n0 n0 (Sl a36 r30.2.1 c37) r30.2.1]) from (H.sel' [0, 0, 1, 2, 3, 4, 5] rfl rfl))) (wanted_none _ rfl _) ?_
    rintro _ σ60 ⟨_, ⟨a56, c57, K58, rfl, rfl, hK59⟩, H, -⟩
    replace H : Hp S0 σ0 σ60 [Ch.big K58, Ch.ro 0 (Sl aaList_0 aList_0 caList_0) aList_0, Ch.own n0 n0 (Sl a17 r14.1 c18) r14.1, Ch.own n0 n0 (Sl a19 r14.2.1 c20) r14.2.1, Ch.big K27, Ch.own n0 n0 (Sl a33 r30.1 c34) r30.1, Ch.own n0 n0 (Sl a36 r30.2.1 c37) r30.2.1] := H
    obtain ⟨r61, hx62, h'⟩ := bind_some h
    clear h
    have h := h'; clear h'
    have hc63 := c_laws_eqItemS (aa_0 := a25) (ca_0 := c26) (ab_1 := a56) (cb_1 := c57) hx62
    have hle := Nat.le_trans hn0 H.size
    refine st_call (cx_lend (Loan.lendB hK28.lends (Loan.lendB hK59.lends Loan.nil)) hc63 (ent_f hc63.fn rfl) (show Hp S0 σ0 _ ([Ch.big K27, Ch.big K58] ++ ([] ++ [Ch.ro 0 (Sl aaList_0 aList_0 caList_0) aList_0, Ch.own n0 n0 (Sl a17 r14.1 c18) r14.1, Ch.own n0 n0 (Sl a19 r14.2.1 c20) r14.2.1, Ch.own n0 n0 (Sl a33 r30.1 c34) r30.1, Ch.own n0 n0 (Sl a36 r30.2.1 c37) r30.2.1])) from (H.sel' [4, 0, 1, 2, 3, 5, 6] rfl rfl)) (by rintro _ _ _ ⟨rfl, rfl⟩; exact trivial)) (wanted_none _ rfl _) ?_
    rintro _ σ64 ⟨_, ⟨rfl, rfl⟩, H, -, -⟩
    replace H : Hp S0 σ0 σ64 [Ch.big K27, Ch.big K58, Ch.ro 0 (Sl aaList_0 aList_0 caList_0) aList_0, Ch.own n0 n0 (Sl a17 r14.1 c18) r14.1, Ch.own n0 n0 (Sl a19 r14.2.1 c20) r14.2.1, Ch.own n0 n0 (Sl a33 r30.1 c34) r30.1, Ch.own n0 n0 (Sl a36 r30.2.1 c37) r30.2.1] := H
    clear hle
    replace H : Hp S0 σ0 σ64 [Ch.big K27, Ch.big K58, Ch.ro 0 (Sl aaList_0 aList_0 caList_0) aList_0, Ch.own n0 n0 (Sl a17 r14.1 c18) r14.1, Ch.own n0 n0 (Sl a19 r14.2.1 c20) r14.2.1, Ch.own n0 n0 (Sl a33 r30.1 c34) r30.1, Ch.own n0 n0 (Sl a36 r30.2.1 c37) r30.2.1] := H
    refine st (v := (B (!r61))) (rv_not rfl) ?_
    refine w_end ?_
    refine q_then ?_
    refine cd_cond (!r61) rfl (fun hb65 => ?_) (fun hb65 => ?_)
    ·replace h := bif_t hb65 h
     refine c_seq ?_
     refine rg ?_
     refine st (v := (B false)) (rv_assign rfl) ?_
     refine w_end ?_
     refine q_then ?_
     refine c_ret ?_
     refine q_then_r ?_
     obtain rfl := Option.some.inj h
     exact fin_ret (v := (B false)) (results_ok Try.results12 (res_tmp (v := (B false)) rfl res_nil) rfl) ⟨rfl, rfl⟩ (H.sel' [] rfl rfl)
    ·replace h := bif_f hb65 h
     refine c_skip ?_
     refine q_then ?_
     refine c_seq ?_
     refine rg ?_
     refine st (v := (I 1)) (rv_assign rfl) ?_
     refine w_end ?_
     refine q_then ?_
     refine c_seq ?_
     refine rg ?_
     refine st (v := (Sl a25 r22 c26)) (rv_move rfl) ?_
     refine st (v := (I 1)) (rv_move rfl) ?_
     obtain ⟨r66, hx67, h'⟩ := bind_some h
     clear h
     have h := h'; clear h'
     have hc68 := c_laws_markItemS (aa_0 := a25) (ca_0 := c26) (hK := hK28) hx67
     refine st_call (cx_call hc68 (ent_f hc68.fn rfl) hn0 (show Hp S0 σ0 _ ([Ch.big K27] ++ [Ch.big K58, Ch.ro 0 (Sl aaList_0 aList_0 caList_0) aList_0, Ch.own n0 n0 (Sl a17 r14.1 c18) r14.1, Ch.own n0 n0 (Sl a19 r14.2.1 c20) r14.2.1, Ch.own n0 n0 (Sl a33 r30.1 c34) r30.1, Ch.own n0 n0 (Sl a36 r30.2.1 c37) r30.2.1]) from (H.sel' [0, 1, 2, 3, 4, 5, 6] rfl rfl))) (wanted_none _ rfl _) ?_
     rintro _ σ69 ⟨_, ⟨rfl, rfl⟩, H, -⟩
     replace H : Hp S0 σ0 σ69 [Ch.big K58, Ch.ro 0 (Sl aaList_0 aList_0 caList_0) aList_0, Ch.own n0 n0 (Sl a17 r14.1 c18) r14.1, Ch.own n0 n0 (Sl a19 r14.2.1 c20) r14.2.1, Ch.own n0 n0 (Sl a33 r30.1 c34) r30.1, Ch.own n0 n0 (Sl a36 r30.2.1 c37) r30.2.1] := H
     refine st (v := (I r66)) (rv_assign rfl) ?_
     refine w_end ?_
     refine q_then ?_
     refine c_seq ?_
     refine c_seq ?_
     obtain ⟨o70, hj, h'⟩ := bind_some h
     clear h
     refine c_cut (fun e a w => e = .normal ∧ ∃ (ρ : Nat → Value) (σ : St), a = fr 133 (updL ρ [(0, (Sl aaList_0 aList_0 caList_0)), (4, (Sl a17 r14.1 c18)), (5, (Sl a19 r14.2.1 c20)), (6, (B r14.2.2)), (8, (Sl a33 r30.1 c34)), (9, (Sl a36 r30.2.1 c37)), (78, (B o70))]) ∧ w = σ.w ∧ Hp S0 σ0 σ [Ch.ro 0 (Sl aaList_0 aList_0 caList_0) aList_0, Ch.own n0 n0 (Sl a17 r14.1 c18) r14.1, Ch.own n0 n0 (Sl a19 r14.2.1 c20) r14.2.1, Ch.own n0 n0 (Sl a33 r30.1 c34) r30.1, Ch.own n0 n0 (Sl a36 r30.2.1 c37) r30.2.1]) ?_ ?_
     ·clear h'
      rename _ = some o70 => h
      refine rg ?_
      refine st (v := (I r66)) (rv_move rfl) ?_
      refine st (v := (B (decide (r66 < 0)))) (rv_lss (a := r66) (b := 0) rfl rfl) ?_
      refine st (v := (B (decide (r66 < 0)))) (rv_move rfl) ?_
      rcases Bool.eq_false_or_eq_true (decide (r66 < 0)) with hb71 | hb71
      ·replace h := bif_t hb71 h
       refine st_skip (congrArg some hb71) ?_
       refine st_skip (congrArg some hb71) ?_
       refine st_skip (congrArg some hb71) ?_
       refine st_skip (congrArg some hb71) ?_
       refine st (v := (B true)) (rv_pick_t (congrArg B hb71) rfl) ?_
       refine st (v := (B true)) (rv_move rfl) ?_
       refine st_skip rfl ?_
       refine st_skip rfl ?_
       refine st_skip rfl ?_
       refine st_skip rfl ?_
       refine st (v := (B true)) (rv_pick_t rfl rfl) ?_
       refine st (v := (B true)) (rv_move rfl) ?_
       refine st_skip rfl ?_
       refine st_skip rfl ?_
       refine st_skip rfl ?_
       refine st (v := (B true)) (rv_pick_t rfl rfl) ?_
       refine w_end ?_
       obtain rfl := Option.some.inj h
       exact ⟨rfl, _, σ69, fr_join ⟨rfl, rfl, rfl, rfl, rfl, rfl, rfl, trivial⟩, rfl, H.sel' [1, 2, 3, 4, 5] rfl rfl⟩
      ·replace h := bif_f hb71 h
       refine st_g (v := (Sl a33 r30.1 c34)) (congrArg some hb71) (rv_move rfl) ?_
       refine st_g (v := (Sl a17 r14.1 c18)) (congrArg some hb71) (rv_move rfl) ?_
       obtain ⟨r72, hx73, h'⟩ := bind_some h
       clear h
       have h := h'; clear h'
       have hc74 := c_laws_eqIntS (aa_0 := a33) (ca_0 := c34) (ab_1 := a17) (cb_1 := c18) hx73
       have hle := Nat.le_trans hn0 H.size
       refine st_call (cx_lend (Loan.lend (Loan.lend Loan.nil)) hc74 (ent_f hc74.fn rfl) (show Hp S0 σ0 _ ([Ch.own n0 n0 (Sl a33 r30.1 c34) r30.1, Ch.own n0 n0 (Sl a17 r14.1 c18) r14.1] ++ ([] ++ [Ch.big K58, Ch.ro 0 (Sl aaList_0 aList_0 caList_0) aList_0, Ch.own n0 n0 (Sl a19 r14.2.1 c20) r14.2.1, Ch.own n0 n0 (Sl a36 r30.2.1 c37) r30.2.1])) from (H.sel' [4, 2, 0, 1, 3, 5] rfl rfl)) (by rintro _ _ _ ⟨rfl, rfl⟩; exact trivial)) (wanted_yes rfl (by exact (congrArg some hb71))) ?_
       rintro _ σ75 ⟨_, ⟨rfl, rfl⟩, H, -, -⟩
       replace H : Hp S0 σ0 σ75 [Ch.own n0 n0 (Sl a33 r30.1 c34) r30.1, Ch.own n0 n0 (Sl a17 r14.1 c18) r14.1, Ch.big K58, Ch.ro 0 (Sl aaList_0 aList_0 caList_0) aList_0, Ch.own n0 n0 (Sl a19 r14.2.1 c20) r14.2.1, Ch.own n0 n0 (Sl a36 r30.2.1 c37) r30.2.1] := H
       clear hle
       replace H : Hp S0 σ0 σ75 [Ch.own n0 n0 (Sl a33 r30.1 c34) r30.1, Ch.own n0 n0 (Sl a17 r14.1 c18) r14.1, Ch.big K58, Ch.ro 0 (Sl aaList_0 aList_0 caList_0) aList_0, Ch.own n0 n0 (Sl a19 r14.2.1 c20) r14.2.1, Ch.own n0 n0 (Sl a36 r30.2.1 c37) r30.2.1] := H
       refine st_g (v := (B (!r72))) (congrArg some hb71) (rv_not rfl) ?_
       refine st (v := (B (!r72))) (rv_pick_f (congrArg B hb71) rfl) ?_
       refine st (v := (B (!r72))) (rv_move rfl) ?_
       rcases Bool.eq_false_or_eq_true (!r72) with hb76 | hb76
       ·replace h := bif_t hb76 h
        refine st_skip (congrArg some hb76) ?_
        refine st_skip (congrArg some hb76) ?_
        refine st_skip (congrArg some hb76) ?_
        refine st_skip (congrArg some hb76) ?_
        refine st (v := (B true)) (rv_pick_t (congrArg B hb76) rfl) ?_
        refine st (v := (B true)) (rv_move rfl) ?_
        refine st_skip rfl ?_
        refine st_skip rfl ?_
        refine st_skip rfl ?_
        refine st (v := (B true)) (rv_pick_t rfl rfl) ?_
        refine w_end ?_
        obtain rfl := Option.some.inj h
        exact ⟨rfl, _, σ75, fr_join ⟨rfl, rfl, rfl, rfl, rfl, rfl, rfl, trivial⟩, rfl, H.sel' [3, 1, 4, 0, 5] rfl rfl⟩
       ·replace h := bif_f hb76 h
        refine st_g (v := (Sl a36 r30.2.1 c37)) (congrArg some hb76) (rv_move rfl) ?_
        refine st_g (v := (Sl a19 r14.2.1 c20)) (congrArg some hb76) (rv_move rfl) ?_
        obtain ⟨r77, hx78, h'⟩ := bind_some h
        clear h
        have h := h'; clear h'
        have hc79 := c_laws_eqIntS (aa_0 := a36) (ca_0 := c37) (ab_1 := a19) (cb_1 := c20) hx78
        have hle := Nat.le_trans hn0 H.size
        refine st_call (cx_lend (Loan.lend (Loan.lend Loan.nil)) hc79 (ent_f hc79.fn rfl) (show Hp S0 σ0 _ ([Ch.own n0 n0 (Sl a36 r30.2.1 c37) r30.2.1, Ch.own n0 n0 (Sl a19 r14.2.1 c20) r14.2.1] ++ ([] ++ [Ch.own n0 n0 (Sl a33 r30.1 c34) r30.1, Ch.own n0 n0 (Sl a17 r14.1 c18) r14.1, Ch.big K58, Ch.ro 0 (Sl aaList_0 aList_0 caList_0) aList_0])) from (H.sel' [5, 4, 0, 1, 2, 3] rfl rfl)) (by rintro _ _ _ ⟨rfl, rfl⟩; exact trivial)) (wanted_yes rfl (by exact (congrArg some hb76))) ?_
        rintro _ σ80 ⟨_, ⟨rfl, rfl⟩, H, -, -⟩
        replace H : Hp S0 σ0 σ80 [Ch.own n0 n0 (Sl a36 r30.2.1 c37) r30.2.1, Ch.own n0 n0 (Sl a19 r14.2.1 c20) r14.2.1, Ch.own n0 n0 (Sl a33 r30.1 c34) r30.1, Ch.own n0 n0 (Sl a17 r14.1 c18) r14.1, Ch.big K58, Ch.ro 0 (Sl aaList_0 aList_0 caList_0) aList_0] := H
        clear hle
        replace H : Hp S0 σ0 σ80 [Ch.own n0 n0 (Sl a36 r30.2.1 c37) r30.2.1, Ch.own n0 n0 (Sl a19 r14.2.1 c20) r14.2.1, Ch.own n0 n0 (Sl a33 r30.1 c34) r30.1, Ch.own n0 n0 (Sl a17 r14.1 c18) r14.1, Ch.big K58, Ch.ro 0 (Sl aaList_0 aList_0 caList_0) aList_0] := H
        refine st_g (v := (B (!r77))) (congrArg some hb76) (rv_not rfl) ?_
        refine st (v := (B (!r77))) (rv_pick_f (congrArg B hb76) rfl) ?_
        refine st (v := (B (!r77))) (rv_move rfl) ?_
        rcases Bool.eq_false_or_eq_true (!r77) with hb81 | hb81
        ·replace h := bif_t hb81 h
         refine st_skip (congrArg some hb81) ?_
         refine st_skip (congrArg some hb81) ?_
         refine st_skip (congrArg some hb81) ?_
         refine st (v := (B true)) (rv_pick_t (congrArg B hb81) rfl) ?_
         refine w_end ?_
         obtain rfl := Option.some.inj h
         exact ⟨rfl, _, σ80, fr_join ⟨rfl, rfl, rfl, rfl, rfl, rfl, rfl, trivial⟩, rfl, H.sel' [5, 3, 1, 2, 0] rfl rfl⟩
        ·replace h := bif_f hb81 h
         refine st_g (v := (B r30.2.2)) (congrArg some hb81) (rv_move rfl) ?_
         refine st_g (v := (B r14.2.2)) (congrArg some hb81) (rv_move rfl) ?_
         refine st_g (v := (B (r30.2.2 != r14.2.2))) (congrArg some hb81) (rv_bneq Try.underlying4 rfl rfl) ?_
         refine st (v := (B (r30.2.2 != r14.2.2))) (rv_pick_f (congrArg B hb81) rfl) ?_
         refine w_end ?_
         obtain rfl := Option.some.inj h
         exact ⟨rfl, _, σ80, fr_join ⟨rfl, rfl, rfl, rfl, rfl, rfl, rfl, trivial⟩, rfl, H.sel' [5, 3, 1, 2, 0] rfl rfl⟩
     ·clear hj
      have h := h'
      clear h' H
      rintro e a w ⟨rfl, ρ, σ82, rfl, rfl, H⟩
      refine q_then ?_
      refine cd_cond o70 rfl (fun hb83 => ?_) (fun hb83 => ?_)
      ·replace h := bif_t hb83 h
       refine c_seq ?_
       refine rg ?_
       refine st (v := (B false)) (rv_assign rfl) ?_
       refine w_end ?_
       refine q_then ?_
       refine c_ret ?_
       refine q_then_r ?_
       obtain rfl := Option.some.inj h
       exact fin_ret (v := (B false)) (results_ok Try.results12 (res_tmp (v := (B false)) rfl res_nil) rfl) ⟨rfl, rfl⟩ (H.sel' [] rfl rfl)
      ·replace h := bif_f hb83 h
       refine c_skip ?_
       refine q_then ?_
       refine c_seq ?_
       refine rg ?_
       refine st (v := (I 1)) (rv_assign rfl) ?_
       refine w_end ?_
       refine q_then ?_
       refine c_seq ?_
       refine rg ?_
       refine st (v := (Sl a33 r30.1 c34)) (rv_move rfl) ?_
       refine st (v := (I 1)) (rv_move rfl) ?_
       replace H := H.ownLow 3 0 0 rfl (Nat.zero_le _) (Nat.zero_le _)
       obtain ⟨r84, hx85, h'⟩ := bind_some h
       clear h
       have h := h'; clear h'
       have hc86 := c_laws_markIntS (aa_0 := a33) (ca_0 := c34) hx85
       refine st_call (cx_call hc86 (ent_f hc86.fn rfl) hn0 (show Hp S0 σ0 _ ([Ch.own 0 0 (Sl a33 r30.1 c34) r30.1] ++ [Ch.ro 0 (Sl aaList_0 aList_0 caList_0) aList_0, Ch.own n0 n0 (Sl a17 r14.1 c18) r14.1, Ch.own n0 n0 (Sl a19 r14.2.1 c20) r14.2.1, Ch.own n0 n0 (Sl a36 r30.2.1 c37) r30.2.1]) from (H.sel' [0, 1, 2, 3, 4] rfl rfl))) (wanted_none _ rfl _) ?_
       rintro _ σ88 ⟨_, ⟨rfl, rfl, hn87⟩, H, -⟩
       replace H : Hp S0 σ0 σ88 [Ch.own 0 0 (Sl a33 r84.2 c34) r84.2, Ch.ro 0 (Sl aaList_0 aList_0 caList_0) aList_0, Ch.own n0 n0 (Sl a17 r14.1 c18) r14.1, Ch.own n0 n0 (Sl a19 r14.2.1 c20) r14.2.1, Ch.own n0 n0 (Sl a36 r30.2.1 c37) r30.2.1] := H
       have hsl : (Sl a33 r30.1 c34) = (Sl a33 r84.2 c34) := sl_len hn87.symm
       try rw [hsl]
       try rw [hsl] at H
       clear hsl
       refine st (v := (I r84.1)) (rv_assign rfl) ?_
       refine w_end ?_
       refine q_then ?_
       refine c_seq ?_
       refine rg ?_
       refine st (v := (Sl a36 r30.2.1 c37)) (rv_move rfl) ?_
       refine st (v := (I r84.1)) (rv_move rfl) ?_
       replace H := H.ownLow 4 0 0 rfl (Nat.zero_le _) (Nat.zero_le _)
       obtain ⟨r89, hx90, h'⟩ := bind_some h
       clear h
       have h := h'; clear h'
       have hc91 := c_laws_markIntS (aa_0 := a36) (ca_0 := c37) hx90
       refine st_call (cx_call hc91 (ent_f hc91.fn rfl) hn0 (show Hp S0 σ0 _ ([Ch.own 0 0 (Sl a36 r30.2.1 c37) r30.2.1] ++ [Ch.own 0 0 (Sl a33 r84.2 c34) r84.2, Ch.ro 0 (Sl aaList_0 aList_0 caList_0) aList_0, Ch.own n0 n0 (Sl a17 r14.1 c18) r14.1, Ch.own n0 n0 (Sl a19 r14.2.1 c20) r14.2.1]) from (H.sel' [0, 1, 2, 3, 4] rfl rfl))) (wanted_none _ rfl _) ?_
       rintro _ σ93 ⟨_, ⟨rfl, rfl, hn92⟩, H, -⟩
       replace H : Hp S0 σ0 σ93 [Ch.own 0 0 (Sl a36 r89.2 c37) r89.2, Ch.own 0 0 (Sl a33 r84.2 c34) r84.2, Ch.ro 0 (Sl aaList_0 aList_0 caList_0) aList_0, Ch.own n0 n0 (Sl a17 r14.1 c18) r14.1, Ch.own n0 n0 (Sl a19 r14.2.1 c20) r14.2.1] := H
       have hsl : (Sl a36 r30.2.1 c37) = (Sl a36 r89.2 c37) := sl_len hn92.symm
       try rw [hsl]
       try rw [hsl] at H
       clear hsl
       refine st (v := (I r89.1)) (rv_assign rfl) ?_
       refine w_end ?_
       refine q_then ?_
       refine c_seq ?_
       refine rg ?_
       refine st (v := (I 1)) (rv_assign rfl) ?_
       refine w_end ?_
       refine q_then ?_
       refine c_seq ?_
       refine rg ?_
       refine st (v := (Sl a33 r84.2 c34)) (rv_move rfl) ?_
       refine st (v := (I 1)) (rv_move rfl) ?_
       obtain ⟨r94, hx95, h'⟩ := bind_some h
       clear h
       have h := h'; clear h'
       have hc96 := c_laws_heldIntS (aa_0 := a33) (ca_0 := c34) hx95
       have hle := Nat.le_trans hn0 H.size
       refine st_call (cx_lend (Loan.lend Loan.nil) hc96 (ent_f hc96.fn rfl) (show Hp S0 σ0 _ ([Ch.own 0 0 (Sl a33 r84.2 c34) r84.2] ++ ([] ++ [Ch.own 0 0 (Sl a36 r89.2 c37) r89.2, Ch.ro 0 (Sl aaList_0 aList_0 caList_0) aList_0, Ch.own n0 n0 (Sl a17 r14.1 c18) r14.1, Ch.own n0 n0 (Sl a19 r14.2.1 c20) r14.2.1])) from (H.sel' [1, 0, 2, 3, 4] rfl rfl)) (by rintro _ _ _ ⟨rfl, rfl⟩; exact trivial)) (wanted_none _ rfl _) ?_
       rintro _ σ97 ⟨_, ⟨rfl, rfl⟩, H, -, -⟩
       replace H : Hp S0 σ0 σ97 [Ch.own 0 0 (Sl a33 r84.2 c34) r84.2, Ch.own 0 0 (Sl a36 r89.2 c37) r89.2, Ch.ro 0 (Sl aaList_0 aList_0 caList_0) aList_0, Ch.own n0 n0 (Sl a17 r14.1 c18) r14.1, Ch.own n0 n0 (Sl a19 r14.2.1 c20) r14.2.1] := H
       clear hle
       replace H : Hp S0 σ0 σ97 [Ch.own 0 0 (Sl a33 r84.2 c34) r84.2, Ch.own 0 0 (Sl a36 r89.2 c37) r89.2, Ch.ro 0 (Sl aaList_0 aList_0 caList_0) aList_0, Ch.own n0 n0 (Sl a17 r14.1 c18) r14.1, Ch.own n0 n0 (Sl a19 r14.2.1 c20) r14.2.1] := H
       refine st (v := (I r94)) (rv_assign rfl) ?_
       refine w_end ?_
       refine q_then ?_
       refine c_seq ?_
       refine c_seq ?_
       refine rg ?_
       refine st (v := (I r94)) (rv_move rfl) ?_
       refine st (v := (B (decide (r94 < 0)))) (rv_lss (a := r94) (b := 0) rfl rfl) ?_
       refine w_end ?_
       refine q_then ?_
       refine cd_cond (decide (r94 < 0)) rfl (fun hb98 => ?_) (fun hb98 => ?_)
       ·replace h := bif_t hb98 h
        refine c_seq ?_
        refine rg ?_
        refine st (v := (B false)) (rv_assign rfl) ?_
        refine w_end ?_
        refine q_then ?_
        refine c_ret ?_
        refine q_then_r ?_
        obtain rfl := Option.some.inj h
        exact fin_ret (v := (B false)) (results_ok Try.results12 (res_tmp (v := (B false)) rfl res_nil) rfl) ⟨rfl, rfl⟩ (H.sel' [] rfl rfl)
       ·replace h := bif_f hb98 h
        refine c_skip ?_
        refine q_then ?_
        refine c_seq ?_
        refine rg ?_
        refine st (v := (Sl a36 r89.2 c37)) (rv_move rfl) ?_
        refine st (v := (I r94)) (rv_move rfl) ?_
        obtain ⟨r99, hx100, h'⟩ := bind_some h
        clear h
        have h := h'; clear h'
        have hc101 := c_laws_heldIntS (aa_0 := a36) (ca_0 := c37) hx100
        have hle := Nat.le_trans hn0 H.size
        refine st_call (cx_lend (Loan.lend Loan.nil) hc101 (ent_f hc101.fn rfl) (show Hp S0 σ0 _ ([Ch.own 0 0 (Sl a36 r89.2 c37) r89.2] ++ ([] ++ [Ch.own 0 0 (Sl a33 r84.2 c34) r84.2, Ch.ro 0 (Sl aaList_0 aList_0 caList_0) aList_0, Ch.own n0 n0 (Sl a17 r14.1 c18) r14.1, Ch.own n0 n0 (Sl a19 r14.2.1 c20) r14.2.1])) from (H.sel' [1, 0, 2, 3, 4] rfl rfl)) (by rintro _ _ _ ⟨rfl, rfl⟩; exact trivial)) (wanted_none _ rfl _) ?_
        rintro _ σ102 ⟨_, ⟨rfl, rfl⟩, H, -, -⟩
        replace H : Hp S0 σ0 σ102 [Ch.own 0 0 (Sl a36 r89.2 c37) r89.2, Ch.own 0 0 (Sl a33 r84.2 c34) r84.2, Ch.ro 0 (Sl aaList_0 aList_0 caList_0) aList_0, Ch.own n0 n0 (Sl a17 r14.1 c18) r14.1, Ch.own n0 n0 (Sl a19 r14.2.1 c20) r14.2.1] := H
        clear hle
        replace H : Hp S0 σ0 σ102 [Ch.own 0 0 (Sl a36 r89.2 c37) r89.2, Ch.own 0 0 (Sl a33 r84.2 c34) r84.2, Ch.ro 0 (Sl aaList_0 aList_0 caList_0) aList_0, Ch.own n0 n0 (Sl a17 r14.1 c18) r14.1, Ch.own n0 n0 (Sl a19 r14.2.1 c20) r14.2.1] := H
        refine st (v := (I r99)) (rv_assign rfl) ?_
        refine w_end ?_
        refine q_then ?_
        refine c_seq ?_
        refine c_seq ?_
        refine rg ?_
        refine st (v := (I r99)) (rv_move rfl) ?_
        refine st (v := (B (decide (r99 < 0)))) (rv_lss (a := r99) (b := 0) rfl rfl) ?_
        refine w_end ?_
        refine q_then ?_
        refine cd_cond (decide (r99 < 0)) rfl (fun hb103 => ?_) (fun hb103 => ?_)
        ·replace h := bif_t hb103 h
         refine c_seq ?_
         refine rg ?_
         refine st (v := (B false)) (rv_assign rfl) ?_
         refine w_end ?_
         refine q_then ?_
         refine c_ret ?_
         refine q_then_r ?_
         obtain rfl := Option.some.inj h
         exact fin_ret (v := (B false)) (results_ok Try.results12 (res_tmp (v := (B false)) rfl res_nil) rfl) ⟨rfl, rfl⟩ (H.sel' [] rfl rfl)
        ·replace h := bif_f hb103 h
         refine c_skip ?_
         refine q_then ?_
         refine c_seq ?_
         refine c_seq ?_
         refine rg ?_
         refine st (v := (I r99)) (rv_move rfl) ?_
         refine st (v := (I r89.1)) (rv_move rfl) ?_
         refine st (v := (B (r99 != r89.1))) (rv_neq (a := r99) (b := r89.1) rfl rfl) ?_
         refine w_end ?_
         refine q_then ?_
         refine cd_cond (r99 != r89.1) rfl (fun hb104 => ?_) (fun hb104 => ?_)
         ·replace h := bif_t hb104 h
          refine c_seq ?_
          refine rg ?_
          refine st (v := (B false)) (rv_assign rfl) ?_
          refine w_end ?_
          refine q_then ?_
          refine c_ret ?_
          refine q_then_r ?_
          obtain rfl := Option.some.inj h
          exact fin_ret (v := (B false)) (results_ok Try.results12 (res_tmp (v := (B false)) rfl res_nil) rfl) ⟨rfl, rfl⟩ (H.sel' [] rfl rfl)
         ·replace h := bif_f hb104 h
          refine c_skip ?_
          refine q_then ?_
          refine c_seq ?_
          refine rg ?_
          refine st (v := (Sl aaList_0 aList_0 caList_0)) (rv_move rfl) ?_
          obtain ⟨r105, hx106, h'⟩ := bind_some h
          clear h
          have h := h'; clear h'
          have hc107 := c_laws_toItemS (aa_0 := aaList_0) (ca_0 := caList_0) hx106
          refine st_call (cx_call hc107 (ent_f hc107.fn rfl) hn0 (show Hp S0 σ0 _ ([Ch.ro 0 (Sl aaList_0 aList_0 caList_0) aList_0] ++ [Ch.own 0 0 (Sl a36 r89.2 c37) r89.2, Ch.own 0 0 (Sl a33 r84.2 c34) r84.2, Ch.ro 0 (Sl aaList_0 aList_0 caList_0) aList_0, Ch.own n0 n0 (Sl a17 r14.1 c18) r14.1, Ch.own n0 n0 (Sl a19 r14.2.1 c20) r14.2.1]) from (H.sel' [2, 0, 1, 2, 3, 4] rfl rfl))) (wanted_none _ rfl _) ?_
          rintro _ σ112 ⟨_, ⟨a108, c109, K110, rfl, rfl, hK111⟩, H, -⟩
          replace H : Hp S0 σ0 σ112 [Ch.big K110, Ch.own 0 0 (Sl a36 r89.2 c37) r89.2, Ch.own 0 0 (Sl a33 r84.2 c34) r84.2, Ch.ro 0 (Sl aaList_0 aList_0 caList_0) aList_0, Ch.own n0 n0 (Sl a17 r14.1 c18) r14.1, Ch.own n0 n0 (Sl a19 r14.2.1 c20) r14.2.1] := H
          obtain ⟨r113, hx114, h'⟩ := bind_some h
          clear h
          have h := h'; clear h'
          have hc115 := c_impl_BoundsOf (alist_0 := a108) (clist_0 := c109) hx114
          have hle := Nat.le_trans hn0 H.size
          refine st_call (cx_lend (Loan.lendB hK111.lends Loan.nil) hc115 (ent_f hc115.fn rfl) (show Hp S0 σ0 _ ([Ch.big K110] ++ ([] ++ [Ch.own 0 0 (Sl a36 r89.2 c37) r89.2, Ch.own 0 0 (Sl a33 r84.2 c34) r84.2, Ch.ro 0 (Sl aaList_0 aList_0 caList_0) aList_0, Ch.own n0 n0 (Sl a17 r14.1 c18) r14.1, Ch.own n0 n0 (Sl a19 r14.2.1 c20) r14.2.1])) from (H.sel' [0, 1, 2, 3, 4, 5] rfl rfl)) (by rintro _ _ _ ⟨_, _, _, _, rfl, rfl, _, _⟩; exact ⟨Ab.ownSc, Ab.ownSc, trivial⟩)) (wanted_none _ rfl _) ?_
          rintro _ σ122 ⟨_, ⟨a116, c117, a119, c120, rfl, rfl, ht118, ht121⟩, H, -, -⟩
          replace H : Hp S0 σ0 σ122 [Ch.own σ112.size σ112.size (Sl a116 r113.1 c117) r113.1, Ch.own σ112.size σ112.size (Sl a119 r113.2.1 c120) r113.2.1, Ch.big K110, Ch.own 0 0 (Sl a36 r89.2 c37) r89.2, Ch.own 0 0 (Sl a33 r84.2 c34) r84.2, Ch.ro 0 (Sl aaList_0 aList_0 caList_0) aList_0, Ch.own n0 n0 (Sl a17 r14.1 c18) r14.1, Ch.own n0 n0 (Sl a19 r14.2.1 c20) r14.2.1] := H
          replace H := H.ownLow 0 n0 n0 rfl hle hle
          replace H := H.ownLow 1 n0 n0 rfl hle hle
          clear hle
          replace H : Hp S0 σ0 σ122 [Ch.own n0 n0 (Sl a119 r113.2.1 c120) r113.2.1, Ch.own n0 n0 (Sl a116 r113.1 c117) r113.1, Ch.big K110, Ch.own 0 0 (Sl a36 r89.2 c37) r89.2, Ch.own 0 0 (Sl a33 r84.2 c34) r84.2, Ch.ro 0 (Sl aaList_0 aList_0 caList_0) aList_0, Ch.own n0 n0 (Sl a17 r14.1 c18) r14.1, Ch.own n0 n0 (Sl a19 r14.2.1 c20) r14.2.1] := H
          replace H : Hp S0 σ0 σ122 [Ch.own n0 n0 (Sl a119 r113.2.1 c120) r113.2.1, Ch.own n0 n0 (Sl a116 r113.1 c117) r113.1, Ch.own 0 0 (Sl a36 r89.2 c37) r89.2, Ch.own 0 0 (Sl a33 r84.2 c34) r84.2, Ch.own n0 n0 (Sl a17 r14.1 c18) r14.1, Ch.own n0 n0 (Sl a19 r14.2.1 c20) r14.2.1] := H.sel' [0, 1, 3, 4, 6, 7] rfl rfl
          refine st (v := (.tuple #[(Sl a116 r113.1 c117), (Sl a119 r113.2.1 c120), (B r113.2.2)])) (rv_move rfl) ?_
          refine st (v := (Sl a116 r113.1 c117)) (rv_extract rfl rfl) ?_
          refine st (v := (Sl a119 r113.2.1 c120)) (rv_extract rfl rfl) ?_
          refine st (v := (B r113.2.2)) (rv_extract rfl rfl) ?_
          refine st (v := (Sl a116 r113.1 c117)) (rv_assign rfl) ?_
          refine st (v := (Sl a119 r113.2.1 c120)) (rv_assign rfl) ?_
          refine st (v := (B r113.2.2)) (rv_assign rfl) ?_
          refine w_end ?_
          refine q_then ?_
          refine c_seq ?_
          refine c_seq ?_
          obtain ⟨o123, hj, h'⟩ := bind_some h
          clear h
          refine c_cut (fun e a w => e = .normal ∧ ∃ (ρ : Nat → Value) (σ : St), a = fr 133 (updL ρ [(8, (Sl a33 r84.2 c34)), (9, (Sl a36 r89.2 c37)), (12, (I r89.1)), (119, (B o123))]) ∧ w = σ.w ∧ Hp S0 σ0 σ [Ch.own 0 0 (Sl a33 r84.2 c34) r84.2, Ch.own 0 0 (Sl a36 r89.2 c37) r89.2]) ?_ ?_
          ·clear h'
           rename _ = some o123 => h
           refine rg ?_
           refine st (v := (Sl a116 r113.1 c117)) (rv_move rfl) ?_
           refine st (v := (Sl a17 r14.1 c18)) (rv_move rfl) ?_
           obtain ⟨σ124, hw125, H, -⟩ := H.pub 1 rfl (Nat.le_refl _)
           rw [← hw125]; clear hw125
           obtain ⟨σ126, hw127, H, -⟩ := H.pub 4 rfl (Nat.le_refl _)
           rw [← hw127]; clear hw127
           replace H := H.roLow 1 0 rfl (Nat.zero_le _)
           replace H := H.roLow 1 0 rfl (Nat.zero_le _)
           obtain ⟨r128, hx129, h'⟩ := bind_some h
           clear h
           have h := h'; clear h'
           have hc130 := c_laws_eqIntS (aa_0 := a116) (ca_0 := c117) (ab_1 := a17) (cb_1 := c18) hx129
           refine st_call (cx_call hc130 (ent_f hc130.fn rfl) hn0 (show Hp S0 σ0 _ ([Ch.ro 0 (Sl a116 r113.1 c117) r113.1, Ch.ro 0 (Sl a17 r14.1 c18) r14.1] ++ [Ch.ro 0 (Sl a17 r14.1 c18) r14.1, Ch.ro 0 (Sl a116 r113.1 c117) r113.1, Ch.ro n0 (Sl a17 r14.1 c18) r14.1, Ch.ro n0 (Sl a116 r113.1 c117) r113.1, Ch.own n0 n0 (Sl a119 r113.2.1 c120) r113.2.1, Ch.own 0 0 (Sl a36 r89.2 c37) r89.2, Ch.own 0 0 (Sl a33 r84.2 c34) r84.2, Ch.own n0 n0 (Sl a19 r14.2.1 c20) r14.2.1]) from (H.sel' [1, 0, 0, 1, 2, 3, 4, 5, 6, 7] rfl rfl))) (wanted_none _ rfl _) ?_
           rintro _ σ131 ⟨_, ⟨rfl, rfl⟩, H, -⟩
           replace H : Hp S0 σ0 σ131 [Ch.ro 0 (Sl a17 r14.1 c18) r14.1, Ch.ro 0 (Sl a116 r113.1 c117) r113.1, Ch.ro n0 (Sl a17 r14.1 c18) r14.1, Ch.ro n0 (Sl a116 r113.1 c117) r113.1, Ch.own n0 n0 (Sl a119 r113.2.1 c120) r113.2.1, Ch.own 0 0 (Sl a36 r89.2 c37) r89.2, Ch.own 0 0 (Sl a33 r84.2 c34) r84.2, Ch.own n0 n0 (Sl a19 r14.2.1 c20) r14.2.1] := H
           replace H : Hp S0 σ0 σ131 [Ch.own n0 n0 (Sl a119 r113.2.1 c120) r113.2.1, Ch.own 0 0 (Sl a36 r89.2 c37) r89.2, Ch.own 0 0 (Sl a33 r84.2 c34) r84.2, Ch.own n0 n0 (Sl a19 r14.2.1 c20) r14.2.1] := H.sel' [4, 5, 6, 7] rfl rfl
           refine st (v := (B (!r128))) (rv_not rfl) ?_
           refine st (v := (B (!r128))) (rv_move rfl) ?_
           rcases Bool.eq_false_or_eq_true (!r128) with hb132 | hb132
           ·replace h := bif_t hb132 h
            refine st_skip (congrArg some hb132) ?_
            refine st_skip (congrArg some hb132) ?_
            refine st_skip (congrArg some hb132) ?_
            refine st_skip (congrArg some hb132) ?_
            refine st (v := (B true)) (rv_pick_t (congrArg B hb132) rfl) ?_
            refine st (v := (B true)) (rv_move rfl) ?_
            refine st_skip rfl ?_
            refine st_skip rfl ?_
            refine st_skip rfl ?_
            refine st (v := (B true)) (rv_pick_t rfl rfl) ?_
            refine w_end ?_
            obtain rfl := Option.some.inj h
            exact ⟨rfl, _, σ131, fr_join ⟨rfl, rfl, rfl, rfl, trivial⟩, rfl, H.sel' [2, 1] rfl rfl⟩
           ·replace h := bif_f hb132 h
            refine st_g (v := (Sl a119 r113.2.1 c120)) (congrArg some hb132) (rv_move rfl) ?_
            refine st_g (v := (Sl a19 r14.2.1 c20)) (congrArg some hb132) (rv_move rfl) ?_
            obtain ⟨σ133, hw134, H, -⟩ := H.pub 0 rfl (Nat.le_refl _)
            rw [← hw134]; clear hw134
            obtain ⟨σ135, hw136, H, -⟩ := H.pub 3 rfl (Nat.le_refl _)
            rw [← hw136]; clear hw136
            replace H := H.roLow 1 0 rfl (Nat.zero_le _)
            replace H := H.roLow 1 0 rfl (Nat.zero_le _)
            obtain ⟨r137, hx138, h'⟩ := bind_some h
            clear h
            have h := h'; clear h'
            have hc139 := c_laws_eqIntS (aa_0 := a119) (ca_0 := c120) (ab_1 := a19) (cb_1 := c20) hx138
            refine st_call (cx_call hc139 (ent_f hc139.fn rfl) hn0 (show Hp S0 σ0 _ ([Ch.ro 0 (Sl a119 r113.2.1 c120) r113.2.1, Ch.ro 0 (Sl a19 r14.2.1 c20) r14.2.1] ++ [Ch.ro 0 (Sl a19 r14.2.1 c20) r14.2.1, Ch.ro 0 (Sl a119 r113.2.1 c120) r113.2.1, Ch.ro n0 (Sl a19 r14.2.1 c20) r14.2.1, Ch.ro n0 (Sl a119 r113.2.1 c120) r113.2.1, Ch.own 0 0 (Sl a36 r89.2 c37) r89.2, Ch.own 0 0 (Sl a33 r84.2 c34) r84.2]) from (H.sel' [1, 0, 0, 1, 2, 3, 4, 5] rfl rfl))) (wanted_yes rfl (by exact (congrArg some hb132))) ?_
            rintro _ σ140 ⟨_, ⟨rfl, rfl⟩, H, -⟩
            replace H : Hp S0 σ0 σ140 [Ch.ro 0 (Sl a19 r14.2.1 c20) r14.2.1, Ch.ro 0 (Sl a119 r113.2.1 c120) r113.2.1, Ch.ro n0 (Sl a19 r14.2.1 c20) r14.2.1, Ch.ro n0 (Sl a119 r113.2.1 c120) r113.2.1, Ch.own 0 0 (Sl a36 r89.2 c37) r89.2, Ch.own 0 0 (Sl a33 r84.2 c34) r84.2] := H
            refine st_g (v := (B (!r137))) (congrArg some hb132) (rv_not rfl) ?_
            refine st (v := (B (!r137))) (rv_pick_f (congrArg B hb132) rfl) ?_
            refine st (v := (B (!r137))) (rv_move rfl) ?_
            rcases Bool.eq_false_or_eq_true (!r137) with hb141 | hb141
            ·replace h := bif_t hb141 h
             refine st_skip (congrArg some hb141) ?_
             refine st_skip (congrArg some hb141) ?_
             refine st_skip (congrArg some hb141) ?_
             refine st (v := (B true)) (rv_pick_t (congrArg B hb141) rfl) ?_
             refine w_end ?_
             obtain rfl := Option.some.inj h
             exact ⟨rfl, _, σ140, fr_join ⟨rfl, rfl, rfl, rfl, trivial⟩, rfl, H.sel' [5, 4] rfl rfl⟩
            ·replace h := bif_f hb141 h
             refine st_g (v := (B r113.2.2)) (congrArg some hb141) (rv_move rfl) ?_
             refine st_g (v := (B r14.2.2)) (congrArg some hb141) (rv_move rfl) ?_
             refine st_g (v := (B (r113.2.2 != r14.2.2))) (congrArg some hb141) (rv_bneq Try.underlying4 rfl rfl) ?_
             refine st (v := (B (r113.2.2 != r14.2.2))) (rv_pick_f (congrArg B hb141) rfl) ?_
             refine w_end ?_
             obtain rfl := Option.some.inj h
             exact ⟨rfl, _, σ140, fr_join ⟨rfl, rfl, rfl, rfl, trivial⟩, rfl, H.sel' [5, 4] rfl rfl⟩
          ·clear hj
           have h := h'
           clear h' H
           rintro e a w ⟨rfl, ρ, σ142, rfl, rfl, H⟩
           refine q_then ?_
           refine cd_cond o123 rfl (fun hb143 => ?_) (fun hb143 => ?_)
           ·replace h := bif_t hb143 h
            refine c_seq ?_
            refine rg ?_
            refine st (v := (B false)) (rv_assign rfl) ?_
            refine w_end ?_
            refine q_then ?_
            refine c_ret ?_
            refine q_then_r ?_
            obtain rfl := Option.some.inj h
            exact fin_ret (v := (B false)) (results_ok Try.results12 (res_tmp (v := (B false)) rfl res_nil) rfl) ⟨rfl, rfl⟩ (H.sel' [] rfl rfl)
           ·replace h := bif_f hb143 h
            refine c_skip ?_
            refine q_then ?_
            refine c_seq ?_
            refine rg ?_
            refine st (v := (I 1)) (rv_assign rfl) ?_
            refine w_end ?_
            refine q_then ?_
            refine c_seq ?_
            refine rg ?_
            refine st (v := (Sl a33 r84.2 c34)) (rv_move rfl) ?_
            refine st (v := (I 1)) (rv_move rfl) ?_
            obtain ⟨σ144, hw145, H, -⟩ := H.pub 0 rfl (Nat.le_refl _)
            rw [← hw145]; clear hw145
            obtain ⟨r146, hx147, h'⟩ := bind_some h
            clear h
            have h := h'; clear h'
            have hc148 := c_laws_heldIntS (aa_0 := a33) (ca_0 := c34) hx147
            refine st_call (cx_call hc148 (ent_f hc148.fn rfl) hn0 (show Hp S0 σ0 _ ([Ch.ro 0 (Sl a33 r84.2 c34) r84.2] ++ [Ch.ro 0 (Sl a33 r84.2 c34) r84.2, Ch.own 0 0 (Sl a36 r89.2 c37) r89.2]) from (H.sel' [0, 0, 1] rfl rfl))) (wanted_none _ rfl _) ?_
            rintro _ σ149 ⟨_, ⟨rfl, rfl⟩, H, -⟩
            replace H : Hp S0 σ0 σ149 [Ch.ro 0 (Sl a33 r84.2 c34) r84.2, Ch.own 0 0 (Sl a36 r89.2 c37) r89.2] := H
            refine st (v := (I r146)) (rv_assign rfl) ?_
            refine w_end ?_
            refine q_then ?_
            refine c_seq ?_
            refine c_seq ?_
            refine rg ?_
            refine st (v := (I r146)) (rv_move rfl) ?_
            refine st (v := (B (decide (r146 < 0)))) (rv_lss (a := r146) (b := 0) rfl rfl) ?_
            refine w_end ?_
            refine q_then ?_
            refine cd_cond (decide (r146 < 0)) rfl (fun hb150 => ?_) (fun hb150 => ?_)
            ·replace h := bif_t hb150 h
             refine c_seq ?_
             refine rg ?_
             refine st (v := (B false)) (rv_assign rfl) ?_
             refine w_end ?_
             refine q_then ?_
             refine c_ret ?_
             refine q_then_r ?_
             obtain rfl := Option.some.inj h
             exact fin_ret (v := (B false)) (results_ok Try.results12 (res_tmp (v := (B false)) rfl res_nil) rfl) ⟨rfl, rfl⟩ (H.sel' [] rfl rfl)
            ·replace h := bif_f hb150 h
             refine c_skip ?_
             refine q_then ?_
             refine c_seq ?_
             refine rg ?_
             refine st (v := (Sl a36 r89.2 c37)) (rv_move rfl) ?_
             refine st (v := (I r146)) (rv_move rfl) ?_
             obtain ⟨σ151, hw152, H, -⟩ := H.pub 1 rfl (Nat.le_refl _)
             rw [← hw152]; clear hw152
             obtain ⟨r153, hx154, h'⟩ := bind_some h
             clear h
             have h := h'; clear h'
             have hc155 := c_laws_heldIntS (aa_0 := a36) (ca_0 := c37) hx154
             refine st_call (cx_call hc155 (ent_f hc155.fn rfl) hn0 (show Hp S0 σ0 _ ([Ch.ro 0 (Sl a36 r89.2 c37) r89.2] ++ [Ch.ro 0 (Sl a36 r89.2 c37) r89.2, Ch.ro 0 (Sl a33 r84.2 c34) r84.2]) from (H.sel' [0, 0, 1] rfl rfl))) (wanted_none _ rfl _) ?_
             rintro _ σ156 ⟨_, ⟨rfl, rfl⟩, H, -⟩
             replace H : Hp S0 σ0 σ156 [Ch.ro 0 (Sl a36 r89.2 c37) r89.2, Ch.ro 0 (Sl a33 r84.2 c34) r84.2] := H
             refine st (v := (I r153)) (rv_assign rfl) ?_
             refine w_end ?_
             refine q_then ?_
             refine c_seq ?_
             refine c_seq ?_
             refine rg ?_
             refine st (v := (I r153)) (rv_move rfl) ?_
             refine st (v := (B (decide (r153 < 0)))) (rv_lss (a := r153) (b := 0) rfl rfl) ?_
             refine w_end ?_
             refine q_then ?_
             refine cd_cond (decide (r153 < 0)) rfl (fun hb157 => ?_) (fun hb157 => ?_)
             ·replace h := bif_t hb157 h
              refine c_seq ?_
              refine rg ?_
              refine st (v := (B false)) (rv_assign rfl) ?_
              refine w_end ?_
              refine q_then ?_
              refine c_ret ?_
              refine q_then_r ?_
              obtain rfl := Option.some.inj h
              exact fin_ret (v := (B false)) (results_ok Try.results12 (res_tmp (v := (B false)) rfl res_nil) rfl) ⟨rfl, rfl⟩ (H.sel' [] rfl rfl)
             ·replace h := bif_f hb157 h
              refine c_skip ?_
              refine q_then ?_
              refine c_seq ?_
              refine c_seq ?_
              refine rg ?_
              refine st (v := (I r153)) (rv_move rfl) ?_
              refine st (v := (I r89.1)) (rv_move rfl) ?_
              refine st (v := (B (r153 != r89.1))) (rv_neq (a := r153) (b := r89.1) rfl rfl) ?_
              refine w_end ?_
              refine q_then ?_
              refine cd_cond (r153 != r89.1) rfl (fun hb158 => ?_) (fun hb158 => ?_)
              ·replace h := bif_t hb158 h
               refine c_seq ?_
               refine rg ?_
               refine st (v := (B false)) (rv_assign rfl) ?_
               refine w_end ?_
               refine q_then ?_
               refine c_ret ?_
               refine q_then_r ?_
               obtain rfl := Option.some.inj h
               exact fin_ret (v := (B false)) (results_ok Try.results12 (res_tmp (v := (B false)) rfl res_nil) rfl) ⟨rfl, rfl⟩ (H.sel' [] rfl rfl)
              ·replace h := bif_f hb158 h
               refine c_skip ?_
               refine q_then ?_
               refine c_seq ?_
               refine rg ?_
               refine st (v := (B true)) (rv_assign rfl) ?_
               refine w_end ?_
               refine q_then ?_
               refine c_ret ?_
               obtain rfl := Option.some.inj h
               exact fin_ret (v := (B true)) (results_ok Try.results12 (res_tmp (v := (B true)) rfl res_nil) rfl) ⟨rfl, rfl⟩ (H.sel' [] rfl rfl)

end Go.Vs
