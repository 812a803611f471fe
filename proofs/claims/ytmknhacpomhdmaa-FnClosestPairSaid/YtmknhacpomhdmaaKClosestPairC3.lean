/- The functions compute what their models say. -/
import Derived.Test.YtmknhacpomhdmaaKClosestPairC2
set_option linter.unusedVariables false
set_option linter.unusedSimpArgs false
set_option maxRecDepth 20000
namespace Go.Vs
open Go Go.Proofs
attribute [local irreducible] Code.wp wpList wpQuiet Calls

theorem c_impl_validItem {x_0 : Int × (List Int) × Int} {ax_0_1 : Option Addr} {cx_0_1 : Nat} {r : Bool} (h : M.impl_validItem x_0 = some r) :
    Cal2 Try.prog 65 [(.agg #[(I x_0.1), (Sl ax_0_1 x_0.2.1 cx_0_1), (I x_0.2.2)])] [Ch.ro 0 (Sl ax_0_1 x_0.2.1 cx_0_1) x_0.2.1] (fun n0 v L => v = (B r) ∧ L = []) := by
  refine cal2 (n := 21) Try.func65 rfl rfl rfl rfl ?_
  intro S0 σ0 n0 hn0 H
  unfold M.impl_validItem at h
  refine c_seq ?_
  refine rg ?_
  refine st_ex (ex_box (cs := [(I x_0.1), (Sl ax_0_1 x_0.2.1 cx_0_1), (I x_0.2.2)]) H hn0 rfl rfl) (wanted_none _ rfl _) ?_
  rintro _ σ2 ⟨b1, rfl, H, -⟩
  refine st (v := (B false)) (rv_assign rfl) ?_
  refine w_end ?_
  refine q_then ?_
  refine c_seq ?_
  refine rg ?_
  refine st (v := (pt b1 0)) (rv_fieldAddr (off := 0) (ft := 3) Try.underlying38 rfl ti3 rfl rfl) ?_
  have hc3 := H.cell (u := (I x_0.1)) (o' := 0) 0 0 rfl rfl rfl
  refine st (v := (I x_0.1)) (rv_load1 Try.underlying3 rfl rfl hc3) ?_
  obtain ⟨r4, hx5, h'⟩ := bind_some h
  clear h
  have h := h'; clear h'
  have hc6 := c_impl_validKey hx5
  refine st_call (cx_call hc6 (ent_f hc6.fn rfl) hn0 (show Hp S0 σ0 _ ([] ++ [Ch.bx n0 b1 0 [(I x_0.1), (Sl ax_0_1 x_0.2.1 cx_0_1), (I x_0.2.2)] [] [], Ch.ro 0 (Sl ax_0_1 x_0.2.1 cx_0_1) x_0.2.1]) from (H.sel' [0, 1] rfl rfl))) (wanted_none _ rfl _) ?_
  rintro _ σ7 ⟨_, ⟨rfl, rfl⟩, H, -⟩
  replace H : Hp S0 σ0 σ7 [Ch.bx n0 b1 0 [(I x_0.1), (Sl ax_0_1 x_0.2.1 cx_0_1), (I x_0.2.2)] [] [], Ch.ro 0 (Sl ax_0_1 x_0.2.1 cx_0_1) x_0.2.1] := H
  refine st (v := (B r4)) (rv_move rfl) ?_
  rcases Bool.eq_false_or_eq_true r4 with hb8 | hb8
  · replace h := bif_t hb8 h
    refine st_g (v := (pt b1 1)) (congrArg some hb8) (rv_fieldAddr (off := 1) (ft := 25) Try.underlying38 rfl ti25 rfl rfl) ?_
    have hc9 := H.cell (u := (Sl ax_0_1 x_0.2.1 cx_0_1)) (o' := 1) 0 1 rfl rfl rfl
    refine st_g (v := (Sl ax_0_1 x_0.2.1 cx_0_1)) (congrArg some hb8) (rv_load1 Try.underlying25 rfl rfl hc9) ?_
    obtain ⟨r10, hx11, h'⟩ := bind_some h
    clear h
    have h := h'; clear h'
    have hc12 := c_impl_ValidVector (av_0 := ax_0_1) (cv_0 := cx_0_1) hx11
    refine st_call (cx_call hc12 (ent_f hc12.fn rfl) hn0 (show Hp S0 σ0 _ ([Ch.ro 0 (Sl ax_0_1 x_0.2.1 cx_0_1) x_0.2.1] ++ [Ch.bx n0 b1 0 [(I x_0.1), (Sl ax_0_1 x_0.2.1 cx_0_1), (I x_0.2.2)] [] [], Ch.ro 0 (Sl ax_0_1 x_0.2.1 cx_0_1) x_0.2.1]) from (H.sel' [1, 0, 1] rfl rfl))) (wanted_yes rfl (by exact (congrArg some hb8))) ?_
    rintro _ σ13 ⟨_, ⟨rfl, rfl⟩, H, -⟩
    replace H : Hp S0 σ0 σ13 [Ch.bx n0 b1 0 [(I x_0.1), (Sl ax_0_1 x_0.2.1 cx_0_1), (I x_0.2.2)] [] [], Ch.ro 0 (Sl ax_0_1 x_0.2.1 cx_0_1) x_0.2.1] := H
    refine st (v := (B r10)) (rv_pick_t (congrArg B hb8) rfl) ?_
    refine st (v := (B r10)) (rv_move rfl) ?_
    rcases Bool.eq_false_or_eq_true r10 with hb14 | hb14
    · replace h := bif_t hb14 h
      refine st_g (v := (pt b1 2)) (congrArg some hb14) (rv_fieldAddr (off := 2) (ft := 3) Try.underlying38 rfl ti3 rfl rfl) ?_
      have hc15 := H.cell (u := (I x_0.2.2)) (o' := 2) 0 2 rfl rfl rfl
      refine st_g (v := (I x_0.2.2)) (congrArg some hb14) (rv_load1 Try.underlying3 rfl rfl hc15) ?_
      refine st_g (v := (B (decide (0 ≤ x_0.2.2)))) (congrArg some hb14) (rv_geq (a := x_0.2.2) (b := 0) rfl rfl) ?_
      refine st (v := (B (decide (0 ≤ x_0.2.2)))) (rv_pick_t (congrArg B hb14) rfl) ?_
      refine st (v := (B (decide (0 ≤ x_0.2.2)))) (rv_move rfl) ?_
      rcases Bool.eq_false_or_eq_true (decide (0 ≤ x_0.2.2)) with hb16 | hb16
      · replace h := bif_t hb16 h
        refine st_g (v := (pt b1 2)) (congrArg some hb16) (rv_fieldAddr (off := 2) (ft := 3) Try.underlying38 rfl ti3 rfl rfl) ?_
        have hc17 := H.cell (u := (I x_0.2.2)) (o' := 2) 0 2 rfl rfl rfl
        refine st_g (v := (I x_0.2.2)) (congrArg some hb16) (rv_load1 Try.underlying3 rfl rfl hc17) ?_
        refine st_g (v := (B (decide (x_0.2.2 ≤ 15)))) (congrArg some hb16) (rv_leq (a := x_0.2.2) (b := 15) rfl rfl) ?_
        refine st (v := (B (decide (x_0.2.2 ≤ 15)))) (rv_pick_t (congrArg B hb16) rfl) ?_
        refine st (v := (B (decide (x_0.2.2 ≤ 15)))) (rv_assign rfl) ?_
        refine w_end ?_
        refine q_then ?_
        refine c_ret ?_
        obtain rfl := Option.some.inj h
        exact fin_ret (v := (B (decide (x_0.2.2 ≤ 15)))) (results_ok Try.results65 (res_tmp (v := (B (decide (x_0.2.2 ≤ 15)))) rfl res_nil) rfl) ⟨rfl, rfl⟩ (H.sel' [] rfl rfl)
      · replace h := bif_f hb16 h
        refine st_skip (congrArg some hb16) ?_
        refine st_skip (congrArg some hb16) ?_
        refine st_skip (congrArg some hb16) ?_
        refine st (v := (B false)) (rv_pick_f (congrArg B hb16) rfl) ?_
        refine st (v := (B false)) (rv_assign rfl) ?_
        refine w_end ?_
        refine q_then ?_
        refine c_ret ?_
        obtain rfl := Option.some.inj h
        exact fin_ret (v := (B false)) (results_ok Try.results65 (res_tmp (v := (B false)) rfl res_nil) rfl) ⟨rfl, rfl⟩ (H.sel' [] rfl rfl)
    · replace h := bif_f hb14 h
      refine st_skip (congrArg some hb14) ?_
      refine st_skip (congrArg some hb14) ?_
      refine st_skip (congrArg some hb14) ?_
      refine st (v := (B false)) (rv_pick_f (congrArg B hb14) rfl) ?_
      refine st (v := (B false)) (rv_move rfl) ?_
      refine st_skip rfl ?_
      refine st_skip rfl ?_
      refine st_skip rfl ?_
      refine st (v := (B false)) (rv_pick_f rfl rfl) ?_
      refine st (v := (B false)) (rv_assign rfl) ?_
      refine w_end ?_
      refine q_then ?_
      refine c_ret ?_
      obtain rfl := Option.some.inj h
      exact fin_ret (v := (B false)) (results_ok Try.results65 (res_tmp (v := (B false)) rfl res_nil) rfl) ⟨rfl, rfl⟩ (H.sel' [] rfl rfl)
  · replace h := bif_f hb8 h
    refine st_skip (congrArg some hb8) ?_
    refine st_skip (congrArg some hb8) ?_
    refine st_skip (congrArg some hb8) ?_
    refine st (v := (B false)) (rv_pick_f (congrArg B hb8) rfl) ?_
    refine st (v := (B false)) (rv_move rfl) ?_
    refine st_skip rfl ?_
    refine st_skip rfl ?_
    refine st_skip rfl ?_
    refine st (v := (B false)) (rv_pick_f rfl rfl) ?_
    refine st (v := (B false)) (rv_move rfl) ?_
    refine st_skip rfl ?_
    refine st_skip rfl ?_
    refine st_skip rfl ?_
    refine st (v := (B false)) (rv_pick_f rfl rfl) ?_
    refine st (v := (B false)) (rv_assign rfl) ?_
    refine w_end ?_
    refine q_then ?_
    refine c_ret ?_
    obtain rfl := Option.some.inj h
    exact fin_ret (v := (B false)) (results_ok Try.results65 (res_tmp (v := (B false)) rfl res_nil) rfl) ⟨rfl, rfl⟩ (H.sel' [] rfl rfl)

theorem c_impl_ValidStore {list_0 : List (Int × (List Int) × Int)} {alist_0 : Option Addr} {clist_0 : Nat} {r : Bool} (h : M.impl_ValidStore list_0 = some r) :
    Cal2 Try.prog 33 [(Sl alist_0 list_0 clist_0)] [Ch.ro 0 (Sl alist_0 list_0 clist_0) list_0] (fun n0 v L => v = (B r) ∧ L = []) := by
  refine cal2 (n := 27) Try.func33 rfl rfl rfl rfl ?_
  intro S0 σ0 n0 hn0 H
  unfold M.impl_ValidStore at h
  refine c_seq ?_
  refine rg ?_
  refine st (v := (B false)) (rv_assign rfl) ?_
  refine w_end ?_
  refine q_then ?_
  refine c_seq ?_
  refine c_seq ?_
  refine rg ?_
  refine st (v := (Sl alist_0 list_0 clist_0)) (rv_move rfl) ?_
  refine st (v := (I (list_0.length : Int))) (rv_len Try.underlying23 rfl) ?_
  refine st (v := (B (decide (16 < (list_0.length : Int))))) (rv_gtr (a := (list_0.length : Int)) (b := 16) rfl rfl) ?_
  refine w_end ?_
  refine q_then ?_
  refine cd_cond (decide (16 < (list_0.length : Int))) rfl (fun hb1 => ?_) (fun hb1 => ?_)
  · replace h := bif_t hb1 h
    refine c_seq ?_
    refine rg ?_
    refine st (v := (B false)) (rv_assign rfl) ?_
    refine w_end ?_
    refine q_then ?_
    refine c_ret ?_
    refine q_then_r ?_
    obtain rfl := Option.some.inj h
    exact fin_ret (v := (B false)) (results_ok Try.results33 (res_tmp (v := (B false)) rfl res_nil) rfl) ⟨rfl, rfl⟩ (H.sel' [] rfl rfl)
  · replace h := bif_f hb1 h
    refine c_skip ?_
    refine q_then ?_
    refine c_seq ?_
    refine rg ?_
    refine st (v := (I 0)) (rv_assign rfl) ?_
    refine w_end ?_
    refine q_then ?_
    refine c_seq ?_
    refine c_seq ?_
    refine rg ?_
    refine st (v := (Sl alist_0 list_0 clist_0)) (rv_move rfl) ?_
    refine st (v := (I (list_0.length : Int))) (rv_len Try.underlying23 rfl) ?_
    refine st (v := (I 0)) (rv_move rfl) ?_
    refine w_end ?_
    refine q_then ?_
    obtain ⟨o2, hj, h'⟩ := bind_some h
    clear h
    refine c_cut (fun e a w => (∃ t, o2 = (.inl t) ∧ e = .normal ∧ ∃ (ρ : Nat → Value) (σ : St), a = fr 27 (updL ρ []) ∧ w = σ.w ∧ Hp S0 σ0 σ []) ∨ (∃ t, o2 = (.inr t) ∧ e = .ret ∧ ∃ (ρ : Nat → Value) (σ : St), a = fr 27 (updL ρ [(2, (B t))]) ∧ w = σ.w ∧ Hp S0 σ0 σ [])) ?_ ?_
    · clear h'
      rename _ = some o2 => h
      refine c_blk ?_
      refine wp_loopM _ h (fun s3 a w => ∃ (ρ : Nat → Value) (σ : St), a = fr 27 (updL ρ [(3, (I s3.1)), (9, (Sl alist_0 list_0 clist_0)), (10, (I (list_0.length : Int))), (11, (I s3.2))]) ∧ w = σ.w ∧ Hp S0 σ0 σ [Ch.ro 0 (Sl alist_0 list_0 clist_0) list_0]) ⟨_, σ0, fr_join ⟨rfl, rfl, rfl, rfl, trivial⟩, rfl, H.sel' [0] rfl rfl⟩ ?_
      clear h H
      rintro s3 a w o ⟨ρ, σ4, rfl, rfl, H⟩ h hres
      refine c_seq ?_
      refine rg ?_
      refine st (v := (B (decide (s3.2 < (list_0.length : Int))))) (rv_lss (a := s3.2) (b := (list_0.length : Int)) rfl rfl) ?_
      refine w_end ?_
      refine q_then ?_
      refine c_seq ?_
      refine cd_cond (decide (s3.2 < (list_0.length : Int))) rfl (fun hb5 => ?_) (fun hb5 => ?_)
      · replace h := bif_t hb5 h
        refine c_skip ?_
        refine q_then ?_
        refine c_seq ?_
        refine c_blk ?_
        refine c_seq ?_
        refine rg ?_
        obtain ⟨x6, hx7, h'⟩ := bind_some h
        clear h
        have h := h'; clear h'
        obtain ⟨b9, o10, hi8, -⟩ := (H.ro 0 rfl).ix hx7
        refine st (v := (pt b9 o10)) (rv_ix Try.underlying23 ti38 rfl rfl hi8) ?_
        obtain ⟨_, ⟨_, _, rfl, rfl, ⟨_, _, rfl, ⟨_, rfl, hR15⟩, rfl⟩⟩, hl11, hc12⟩ := ((H.ro 0 rfl).at hx7 hi8).cells
        obtain ⟨a13, c14, rfl⟩ := hR15.isSl
        replace H := H.add (d := Ch.ro 0 (Sl a13 x6.2.1 c14) x6.2.1) hR15 (fun _ h => h)
        clear hR15
        refine st (v := (.agg #[(I x6.1), (Sl a13 x6.2.1 c14), (I x6.2.2)])) (rv_load Try.underlying38 rfl ti38 rfl hl11 hc12) ?_
        refine st_ex (ex_alloc (cs := [(I 0), (.slice none 0 0), (I 0)]) H hn0 ti38 rfl) (wanted_none _ rfl _) ?_
        rintro _ σ17 ⟨b16, rfl, H, -⟩
        refine st_exS (ex_store_box (k := 0) (cs := [(I 0), (.slice none 0 0), (I 0)]) (vs := [(I x6.1), (Sl a13 x6.2.1 c14), (I x6.2.2)]) (cs' := [(I x6.1), (Sl a13 x6.2.1 c14), (I x6.2.2)]) H (i := 0) rfl ti38 rfl rfl rfl rfl rfl (Nat.le_of_ble_eq_true rfl) (by simp [plain]) rfl) (wanted_none _ rfl _) ?_
        rintro σ18 ⟨H, -⟩
        refine w_end ?_
        refine q_then ?_
        refine c_seq ?_
        refine c_seq ?_
        obtain ⟨o19, hj, h'⟩ := bind_some h
        clear h
        refine c_cut (fun e a w => e = .normal ∧ ∃ (ρ : Nat → Value) (σ : St), a = fr 27 (updL ρ [(5, (pt b16 0)), (9, (Sl alist_0 list_0 clist_0)), (10, (I (list_0.length : Int))), (11, (I s3.2)), (23, (B o19))]) ∧ w = σ.w ∧ Hp S0 σ0 σ [Ch.ro 0 (Sl a13 x6.2.1 c14) x6.2.1, Ch.bx n0 b16 0 [(I x6.1), (Sl a13 x6.2.1 c14), (I x6.2.2)] [] [], Ch.ro 0 (Sl alist_0 list_0 clist_0) list_0]) ?_ ?_
        · clear h'
          rename _ = some o19 => h
          refine rg ?_
          have hc20 := H.cells 0 rfl
          refine st (v := (.agg #[(I x6.1), (Sl a13 x6.2.1 c14), (I x6.2.2)])) (rv_load (cs := [(I x6.1), (Sl a13 x6.2.1 c14), (I x6.2.2)]) Try.underlying38 rfl ti38 rfl rfl hc20) ?_
          obtain ⟨r21, hx22, h'⟩ := bind_some h
          clear h
          have h := h'; clear h'
          have hc23 := c_impl_validItem (ax_0_1 := a13) (cx_0_1 := c14) hx22
          refine st_call (cx_call hc23 (ent_f hc23.fn rfl) hn0 (show Hp S0 σ0 _ ([Ch.ro 0 (Sl a13 x6.2.1 c14) x6.2.1] ++ [Ch.bx n0 b16 0 [(I x6.1), (Sl a13 x6.2.1 c14), (I x6.2.2)] [] [], Ch.ro 0 (Sl a13 x6.2.1 c14) x6.2.1, Ch.ro 0 (Sl alist_0 list_0 clist_0) list_0]) from (H.sel' [1, 0, 1, 2] rfl rfl))) (wanted_none _ rfl _) ?_
          rintro _ σ24 ⟨_, ⟨rfl, rfl⟩, H, -⟩
          replace H : Hp S0 σ0 σ24 [Ch.bx n0 b16 0 [(I x6.1), (Sl a13 x6.2.1 c14), (I x6.2.2)] [] [], Ch.ro 0 (Sl a13 x6.2.1 c14) x6.2.1, Ch.ro 0 (Sl alist_0 list_0 clist_0) list_0] := H
          refine st (v := (B (!r21))) (rv_not rfl) ?_
          refine st (v := (B (!r21))) (rv_move rfl) ?_
          rcases Bool.eq_false_or_eq_true (!r21) with hb25 | hb25
          · replace h := bif_t hb25 h
            refine st_skip (congrArg some hb25) ?_
            refine st_skip (congrArg some hb25) ?_
            refine st_skip (congrArg some hb25) ?_
            refine st_skip (congrArg some hb25) ?_
            refine st (v := (B true)) (rv_pick_t (congrArg B hb25) rfl) ?_
            refine w_end ?_
            obtain rfl := Option.some.inj h
            exact ⟨rfl, _, σ24, fr_join ⟨rfl, rfl, rfl, rfl, rfl, trivial⟩, rfl, H.sel' [1, 0, 2] rfl rfl⟩
          · replace h := bif_f hb25 h
            refine st_g (v := (pt b16 0)) (congrArg some hb25) (rv_fieldAddr (off := 0) (ft := 3) Try.underlying38 rfl ti3 rfl rfl) ?_
            have hc26 := H.cell (u := (I x6.1)) (o' := 0) 0 0 rfl rfl rfl
            refine st_g (v := (I x6.1)) (congrArg some hb25) (rv_load1 Try.underlying3 rfl rfl hc26) ?_
            refine st_g (v := (I s3.1)) (congrArg some hb25) (rv_move rfl) ?_
            refine st_g (v := (B (decide (x6.1 ≤ s3.1)))) (congrArg some hb25) (rv_leq (a := x6.1) (b := s3.1) rfl rfl) ?_
            refine st (v := (B (decide (x6.1 ≤ s3.1)))) (rv_pick_f (congrArg B hb25) rfl) ?_
            refine w_end ?_
            obtain rfl := Option.some.inj h
            exact ⟨rfl, _, σ24, fr_join ⟨rfl, rfl, rfl, rfl, rfl, trivial⟩, rfl, H.sel' [1, 0, 2] rfl rfl⟩
        · clear hj
          have h := h'
          clear h' H
          rintro e a w ⟨rfl, ρ, σ27, rfl, rfl, H⟩
          refine q_then ?_
          refine cd_cond o19 rfl (fun hb28 => ?_) (fun hb28 => ?_)
          · replace h := bif_t hb28 h
            refine c_seq ?_
            refine rg ?_
            refine st (v := (B false)) (rv_assign rfl) ?_
            refine w_end ?_
            refine q_then ?_
            refine c_ret ?_
            refine q_then_r ?_
            refine q_blk_r ?_
            refine q_then_r ?_
            refine q_then_r ?_
            refine q_blk_r ?_
            obtain rfl := Option.some.inj h
            obtain rfl := hres _ rfl
            exact .inr (⟨_, rfl, rfl, _, σ27, fr_join ⟨rfl, trivial⟩, rfl, H.sel' [] rfl rfl⟩)
          · replace h := bif_f hb28 h
            refine c_skip ?_
            refine q_then ?_
            refine rg ?_
            refine st (v := (pt b16 0)) (rv_fieldAddr (off := 0) (ft := 3) Try.underlying38 rfl ti3 rfl rfl) ?_
            have hc29 := H.cell (u := (I x6.1)) (o' := 0) 1 0 rfl rfl rfl
            refine st (v := (I x6.1)) (rv_load1 Try.underlying3 rfl rfl hc29) ?_
            refine st (v := (I x6.1)) (rv_assign rfl) ?_
            refine w_end ?_
            refine q_blk ?_
            refine q_then ?_
            refine rg ?_
            refine st (v := (I (w64 (s3.2 + 1)))) (rv_add (a := s3.2) (b := 1) rfl rfl) ?_
            refine st (v := (I (w64 (s3.2 + 1)))) (rv_move rfl) ?_
            refine w_end ?_
            refine q_then ?_
            obtain rfl := Option.some.inj h
            exact ⟨_, rfl, _, σ27, fr_join ⟨rfl, rfl, rfl, rfl, trivial⟩, rfl, H.sel' [2] rfl rfl⟩
      · replace h := bif_f hb5 h
        refine c_exit ?_
        refine q_then_x ?_
        refine q_then_x ?_
        refine q_blk_hit ?_
        obtain rfl := Option.some.inj h
        obtain rfl := hres _ rfl
        exact .inl ⟨_, rfl, rfl, _, σ4, fr_join trivial, rfl, H.sel' [] rfl rfl⟩
    · clear hj
      have h := h'
      clear h' H
      rintro e a w (⟨t30, rfl, rfl, ρ, σ31, rfl, rfl, H⟩ | ⟨t32, rfl, rfl, ρ, σ33, rfl, rfl, H⟩)
      · replace h := selim_l h
        refine q_then ?_
        refine c_seq ?_
        refine rg ?_
        refine st (v := (B true)) (rv_assign rfl) ?_
        refine w_end ?_
        refine q_then ?_
        refine c_ret ?_
        obtain rfl := Option.some.inj h
        exact fin_ret (v := (B true)) (results_ok Try.results33 (res_tmp (v := (B true)) rfl res_nil) rfl) ⟨rfl, rfl⟩ (H.sel' [] rfl rfl)
      · replace h := selim_r h
        refine q_then_r ?_
        obtain rfl := Option.some.inj h
        exact fin_ret (v := (B t32)) (results_ok Try.results33 (res_tmp (v := (B t32)) rfl res_nil) rfl) ⟨rfl, rfl⟩ (H.sel' [] rfl rfl)

theorem c_impl_validKind {kind_0 : Int}  {r : Bool} (h : M.impl_validKind kind_0 = some r) :
    Cal2 Try.prog 66 [(I kind_0)] [] (fun n0 v L => v = (B r) ∧ L = []) := by
  refine cal2 (n := 9) Try.func66 rfl rfl rfl rfl ?_
  intro S0 σ0 n0 hn0 H
  unfold M.impl_validKind at h
  refine c_seq ?_
  refine rg ?_
  refine st (v := (B false)) (rv_assign rfl) ?_
  refine w_end ?_
  refine q_then ?_
  refine c_seq ?_
  refine rg ?_
  refine st (v := (I kind_0)) (rv_move rfl) ?_
  refine st (v := (B (decide (1 ≤ kind_0)))) (rv_geq (a := kind_0) (b := 1) rfl rfl) ?_
  refine st (v := (B (decide (1 ≤ kind_0)))) (rv_move rfl) ?_
  rcases Bool.eq_false_or_eq_true (decide (1 ≤ kind_0)) with hb1 | hb1
  · replace h := bif_t hb1 h
    refine st_g (v := (I kind_0)) (congrArg some hb1) (rv_move rfl) ?_
    refine st_g (v := (B (decide (kind_0 ≤ 4)))) (congrArg some hb1) (rv_leq (a := kind_0) (b := 4) rfl rfl) ?_
    refine st (v := (B (decide (kind_0 ≤ 4)))) (rv_pick_t (congrArg B hb1) rfl) ?_
    refine st (v := (B (decide (kind_0 ≤ 4)))) (rv_assign rfl) ?_
    refine w_end ?_
    refine q_then ?_
    refine c_ret ?_
    obtain rfl := Option.some.inj h
    exact fin_ret (v := (B (decide (kind_0 ≤ 4)))) (results_ok Try.results66 (res_tmp (v := (B (decide (kind_0 ≤ 4)))) rfl res_nil) rfl) ⟨rfl, rfl⟩ (H.sel' [] rfl rfl)
  · replace h := bif_f hb1 h
    refine st_skip (congrArg some hb1) ?_
    refine st_skip (congrArg some hb1) ?_
    refine st (v := (B false)) (rv_pick_f (congrArg B hb1) rfl) ?_
    refine st (v := (B false)) (rv_assign rfl) ?_
    refine w_end ?_
    refine q_then ?_
    refine c_ret ?_
    obtain rfl := Option.some.inj h
    exact fin_ret (v := (B false)) (results_ok Try.results66 (res_tmp (v := (B false)) rfl res_nil) rfl) ⟨rfl, rfl⟩ (H.sel' [] rfl rfl)

theorem c_impl_ClosestPair {list_0 : List (Int × (List Int) × Int)} {kind_1 : Int} {alist_0 : Option Addr} {clist_0 : Nat} {r : Int × Int × Bool} (h : M.impl_ClosestPair list_0 kind_1 = some r) :
    Cal2 Try.prog 35 [(Sl alist_0 list_0 clist_0), (I kind_1)] [Ch.ro 0 (Sl alist_0 list_0 clist_0) list_0] (fun n0 v L => v = (.tuple #[(I r.1), (I r.2.1), (B r.2.2)]) ∧ L = []) := by
  refine cal2 (n := 62) Try.func35 rfl rfl rfl rfl ?_
  intro S0 σ0 n0 hn0 H
  unfold M.impl_ClosestPair at h
  refine c_seq ?_
  refine rg ?_
  refine st (v := (I 0)) (rv_assign rfl) ?_
  refine st (v := (I 0)) (rv_assign rfl) ?_
  refine st (v := (B false)) (rv_assign rfl) ?_
  refine w_end ?_
  refine q_then ?_
  refine c_seq ?_
  refine c_seq ?_
  obtain ⟨o1, hj, h'⟩ := bind_some h
  clear h
  refine c_cut (fun e a w => e = .normal ∧ ∃ (ρ : Nat → Value) (σ : St), a = fr 62 (updL ρ [(0, (Sl alist_0 list_0 clist_0)), (1, (I kind_1)), (27, (B o1))]) ∧ w = σ.w ∧ Hp S0 σ0 σ [Ch.ro 0 (Sl alist_0 list_0 clist_0) list_0]) ?_ ?_
  · clear h'
    rename _ = some o1 => h
    refine rg ?_
    refine st (v := (Sl alist_0 list_0 clist_0)) (rv_move rfl) ?_
    obtain ⟨r2, hx3, h'⟩ := bind_some h
    clear h
    have h := h'; clear h'
    have hc4 := c_impl_ValidStore (alist_0 := alist_0) (clist_0 := clist_0) hx3
    refine st_call (cx_call hc4 (ent_f hc4.fn rfl) hn0 (show Hp S0 σ0 _ ([Ch.ro 0 (Sl alist_0 list_0 clist_0) list_0] ++ [Ch.ro 0 (Sl alist_0 list_0 clist_0) list_0]) from (H.sel' [0, 0] rfl rfl))) (wanted_none _ rfl _) ?_
    rintro _ σ5 ⟨_, ⟨rfl, rfl⟩, H, -⟩
    replace H : Hp S0 σ0 σ5 [Ch.ro 0 (Sl alist_0 list_0 clist_0) list_0] := H
    refine st (v := (B (!r2))) (rv_not rfl) ?_
    refine st (v := (B (!r2))) (rv_move rfl) ?_
    rcases Bool.eq_false_or_eq_true (!r2) with hb6 | hb6
    · replace h := bif_t hb6 h
      refine st_skip (congrArg some hb6) ?_
      refine st_skip (congrArg some hb6) ?_
      refine st_skip (congrArg some hb6) ?_
      refine st (v := (B true)) (rv_pick_t (congrArg B hb6) rfl) ?_
      refine st (v := (B true)) (rv_move rfl) ?_
      refine st_skip rfl ?_
      refine st_skip rfl ?_
      refine st_skip rfl ?_
      refine st (v := (B true)) (rv_pick_t rfl rfl) ?_
      refine w_end ?_
      obtain rfl := Option.some.inj h
      exact ⟨rfl, _, σ5, fr_join ⟨rfl, rfl, rfl, trivial⟩, rfl, H.sel' [0] rfl rfl⟩
    · replace h := bif_f hb6 h
      refine st_g (v := (I kind_1)) (congrArg some hb6) (rv_move rfl) ?_
      obtain ⟨r7, hx8, h'⟩ := bind_some h
      clear h
      have h := h'; clear h'
      have hc9 := c_impl_validKind hx8
      refine st_call (cx_call hc9 (ent_f hc9.fn rfl) hn0 (show Hp S0 σ0 _ ([] ++ [Ch.ro 0 (Sl alist_0 list_0 clist_0) list_0]) from (H.sel' [0] rfl rfl))) (wanted_yes rfl (by exact (congrArg some hb6))) ?_
      rintro _ σ10 ⟨_, ⟨rfl, rfl⟩, H, -⟩
      replace H : Hp S0 σ0 σ10 [Ch.ro 0 (Sl alist_0 list_0 clist_0) list_0] := H
      refine st_g (v := (B (!r7))) (congrArg some hb6) (rv_not rfl) ?_
      refine st (v := (B (!r7))) (rv_pick_f (congrArg B hb6) rfl) ?_
      refine st (v := (B (!r7))) (rv_move rfl) ?_
      rcases Bool.eq_false_or_eq_true (!r7) with hb11 | hb11
      · replace h := bif_t hb11 h
        refine st_skip (congrArg some hb11) ?_
        refine st_skip (congrArg some hb11) ?_
        refine st_skip (congrArg some hb11) ?_
        refine st (v := (B true)) (rv_pick_t (congrArg B hb11) rfl) ?_
        refine w_end ?_
        obtain rfl := Option.some.inj h
        exact ⟨rfl, _, σ10, fr_join ⟨rfl, rfl, rfl, trivial⟩, rfl, H.sel' [0] rfl rfl⟩
      · replace h := bif_f hb11 h
        refine st_g (v := (Sl alist_0 list_0 clist_0)) (congrArg some hb11) (rv_move rfl) ?_
        refine st_g (v := (I (list_0.length : Int))) (congrArg some hb11) (rv_len Try.underlying23 rfl) ?_
        refine st_g (v := (B (decide ((list_0.length : Int) < 2)))) (congrArg some hb11) (rv_lss (a := (list_0.length : Int)) (b := 2) rfl rfl) ?_
        refine st (v := (B (decide ((list_0.length : Int) < 2)))) (rv_pick_f (congrArg B hb11) rfl) ?_
        refine w_end ?_
        obtain rfl := Option.some.inj h
        exact ⟨rfl, _, σ10, fr_join ⟨rfl, rfl, rfl, trivial⟩, rfl, H.sel' [0] rfl rfl⟩
  · clear hj
    have h := h'
    clear h' H
    rintro e a w ⟨rfl, ρ, σ12, rfl, rfl, H⟩
    refine q_then ?_
    refine cd_cond o1 rfl (fun hb13 => ?_) (fun hb13 => ?_)
    · replace h := bif_t hb13 h
      refine c_seq ?_
      refine rg ?_
      refine st (v := (I 0)) (rv_assign rfl) ?_
      refine st (v := (I 0)) (rv_assign rfl) ?_
      refine st (v := (B false)) (rv_assign rfl) ?_
      refine w_end ?_
      refine q_then ?_
      refine c_ret ?_
      refine q_then_r ?_
      obtain rfl := Option.some.inj h
      exact fin_ret (v := (.tuple #[(I 0), (I 0), (B false)])) (results_ok Try.results35 (res_tmp (v := (I 0)) rfl (res_tmp (v := (I 0)) rfl (res_tmp (v := (B false)) rfl res_nil))) rfl) ⟨rfl, rfl⟩ (H.sel' [] rfl rfl)
    · replace h := bif_f hb13 h
      refine c_skip ?_
      refine q_then ?_
      refine c_seq ?_
      refine rg ?_
      refine st (v := (I 0)) (rv_assign rfl) ?_
      refine st (v := (I 0)) (rv_assign rfl) ?_
      refine st (v := (I 1000000)) (rv_assign rfl) ?_
      refine w_end ?_
      refine q_then ?_
      refine c_seq ?_
      refine c_seq ?_
      refine rg ?_
      refine st (v := (Sl alist_0 list_0 clist_0)) (rv_move rfl) ?_
      refine st (v := (I (list_0.length : Int))) (rv_len Try.underlying23 rfl) ?_
      refine st (v := (I 0)) (rv_move rfl) ?_
      refine w_end ?_
      refine q_then ?_
      obtain ⟨o14, hj, h'⟩ := bind_some h
      clear h
      refine c_cut (fun e a w => e = .normal ∧ ∃ (ρ : Nat → Value) (σ : St), a = fr 62 (updL ρ [(7, (I o14.1)), (8, (I o14.2))]) ∧ w = σ.w ∧ Hp S0 σ0 σ []) ?_ ?_
      · clear h'
        rename _ = some o14 => h
        refine c_blk ?_
        refine wp_loopM _ h (fun s15 a w => ∃ (ρ : Nat → Value) (σ : St), a = fr 62 (updL ρ [(0, (Sl alist_0 list_0 clist_0)), (1, (I kind_1)), (7, (I s15.1)), (8, (I s15.2.1)), (9, (I s15.2.2.1)), (28, (Sl alist_0 list_0 clist_0)), (29, (I (list_0.length : Int))), (30, (I s15.2.2.2))]) ∧ w = σ.w ∧ Hp S0 σ0 σ [Ch.ro 0 (Sl alist_0 list_0 clist_0) list_0]) ⟨_, σ12, fr_join ⟨rfl, rfl, rfl, rfl, rfl, rfl, rfl, rfl, trivial⟩, rfl, H.sel' [0] rfl rfl⟩ ?_
        clear h H
        rintro s15 a w o ⟨ρ, σ16, rfl, rfl, H⟩ h hres
        refine c_seq ?_
        refine rg ?_
        refine st (v := (B (decide (s15.2.2.2 < (list_0.length : Int))))) (rv_lss (a := s15.2.2.2) (b := (list_0.length : Int)) rfl rfl) ?_
        refine w_end ?_
        refine q_then ?_
        refine c_seq ?_
        refine cd_cond (decide (s15.2.2.2 < (list_0.length : Int))) rfl (fun hb17 => ?_) (fun hb17 => ?_)
        · replace h := bif_t hb17 h
          refine c_skip ?_
          refine q_then ?_
          refine c_seq ?_
          refine c_blk ?_
          refine c_seq ?_
          refine rg ?_
          refine st (v := (I s15.2.2.2)) (rv_move rfl) ?_
          obtain ⟨x18, hx19, h'⟩ := bind_some h
          clear h
          have h := h'; clear h'
          obtain ⟨b21, o22, hi20, -⟩ := (H.ro 0 rfl).ix hx19
          refine st (v := (pt b21 o22)) (rv_ix Try.underlying23 ti38 rfl rfl hi20) ?_
          obtain ⟨_, ⟨_, _, rfl, rfl, ⟨_, _, rfl, ⟨_, rfl, hR27⟩, rfl⟩⟩, hl23, hc24⟩ := ((H.ro 0 rfl).at hx19 hi20).cells
          obtain ⟨a25, c26, rfl⟩ := hR27.isSl
          replace H := H.add (d := Ch.ro 0 (Sl a25 x18.2.1 c26) x18.2.1) hR27 (fun _ h => h)
          clear hR27
          refine st (v := (.agg #[(I x18.1), (Sl a25 x18.2.1 c26), (I x18.2.2)])) (rv_load Try.underlying38 rfl ti38 rfl hl23 hc24) ?_
          refine st_ex (ex_alloc (cs := [(I 0), (.slice none 0 0), (I 0)]) H hn0 ti38 rfl) (wanted_none _ rfl _) ?_
          rintro _ σ29 ⟨b28, rfl, H, -⟩
          refine st (v := (I s15.2.2.2)) (rv_assign rfl) ?_
          refine st_exS (ex_store_box (k := 0) (cs := [(I 0), (.slice none 0 0), (I 0)]) (vs := [(I x18.1), (Sl a25 x18.2.1 c26), (I x18.2.2)]) (cs' := [(I x18.1), (Sl a25 x18.2.1 c26), (I x18.2.2)]) H (i := 0) rfl ti38 rfl rfl rfl rfl rfl (Nat.le_of_ble_eq_true rfl) (by simp [plain]) rfl) (wanted_none _ rfl _) ?_
          rintro σ30 ⟨H, -⟩
          refine w_end ?_
          refine q_then ?_
          refine c_seq ?_
          refine rg ?_
          refine st (v := (Sl alist_0 list_0 clist_0)) (rv_move rfl) ?_
          refine st (v := (I s15.2.2.2)) (rv_move rfl) ?_
          refine st (v := (I (w64 (s15.2.2.2 + 1)))) (rv_add (a := s15.2.2.2) (b := 1) rfl rfl) ?_
          obtain ⟨xs31, hx32, h'⟩ := bind_some h
          clear h
          have h := h'; clear h'
          obtain ⟨a33, c34, hs35, hR36⟩ := (H.ro 2 rfl).slice hx32
          replace H := H.add (d := Ch.ro 0 (Sl a33 xs31 c34) xs31) hR36 (fun _ h => h)
          clear hR36
          refine st (v := (Sl a33 xs31 c34)) (rv_slice_l Try.underlying23 ti38 hs35 rfl rfl) ?_
          refine st (v := (I (xs31.length : Int))) (rv_len Try.underlying23 rfl) ?_
          refine st (v := (I 0)) (rv_move rfl) ?_
          refine w_end ?_
          refine q_then ?_
          obtain ⟨o37, hj, h'⟩ := bind_some h
          clear h
          refine c_cut (fun e a w => e = .normal ∧ ∃ (ρ : Nat → Value) (σ : St), a = fr 62 (updL ρ [(0, (Sl alist_0 list_0 clist_0)), (1, (I kind_1)), (7, (I o37.1)), (8, (I o37.2.1)), (9, (I o37.2.2)), (28, (Sl alist_0 list_0 clist_0)), (29, (I (list_0.length : Int))), (30, (I s15.2.2.2))]) ∧ w = σ.w ∧ Hp S0 σ0 σ [Ch.ro 0 (Sl alist_0 list_0 clist_0) list_0]) ?_ ?_
          · clear h'
            rename _ = some o37 => h
            refine c_blk ?_
            refine wp_loopM _ h (fun s38 a w => ∃ (ρ : Nat → Value) (σ : St), a = fr 62 (updL ρ [(0, (Sl alist_0 list_0 clist_0)), (1, (I kind_1)), (7, (I s38.1)), (8, (I s38.2.1)), (9, (I s38.2.2.1)), (11, (pt b28 0)), (28, (Sl alist_0 list_0 clist_0)), (29, (I (list_0.length : Int))), (30, (I s15.2.2.2)), (38, (Sl a33 xs31 c34)), (39, (I (xs31.length : Int))), (40, (I s38.2.2.2))]) ∧ w = σ.w ∧ Hp S0 σ0 σ [Ch.ro 0 (Sl alist_0 list_0 clist_0) list_0, Ch.ro 0 (Sl a25 x18.2.1 c26) x18.2.1, Ch.bx n0 b28 0 [(I x18.1), (Sl a25 x18.2.1 c26), (I x18.2.2)] [] [], Ch.ro 0 (Sl a33 xs31 c34) xs31]) ⟨_, σ30, fr_join ⟨rfl, rfl, rfl, rfl, rfl, rfl, rfl, rfl, rfl, rfl, rfl, rfl, trivial⟩, rfl, H.sel' [3, 2, 1, 0] rfl rfl⟩ ?_
            clear h H
            rintro s38 a w o ⟨ρ, σ39, rfl, rfl, H⟩ h hres
            refine c_seq ?_
            refine rg ?_
            refine st (v := (B (decide (s38.2.2.2 < (xs31.length : Int))))) (rv_lss (a := s38.2.2.2) (b := (xs31.length : Int)) rfl rfl) ?_
            refine w_end ?_
            refine q_then ?_
            refine c_seq ?_
            refine cd_cond (decide (s38.2.2.2 < (xs31.length : Int))) rfl (fun hb40 => ?_) (fun hb40 => ?_)
            · replace h := bif_t hb40 h
              refine c_skip ?_
              refine q_then ?_
              refine c_seq ?_
              obtain ⟨o41, hj, h'⟩ := bind_some h
              clear h
              refine c_cut (fun e a w => e = .normal ∧ ∃ (ρ : Nat → Value) (σ : St), a = fr 62 (updL ρ [(0, (Sl alist_0 list_0 clist_0)), (1, (I kind_1)), (7, (I o41.1)), (8, (I o41.2.1)), (9, (I o41.2.2)), (11, (pt b28 0)), (28, (Sl alist_0 list_0 clist_0)), (29, (I (list_0.length : Int))), (30, (I s15.2.2.2)), (38, (Sl a33 xs31 c34)), (39, (I (xs31.length : Int))), (40, (I s38.2.2.2))]) ∧ w = σ.w ∧ Hp S0 σ0 σ [Ch.ro 0 (Sl alist_0 list_0 clist_0) list_0, Ch.ro 0 (Sl a25 x18.2.1 c26) x18.2.1, Ch.bx n0 b28 0 [(I x18.1), (Sl a25 x18.2.1 c26), (I x18.2.2)] [] [], Ch.ro 0 (Sl a33 xs31 c34) xs31]) ?_ ?_
              · clear h'
                rename _ = some o41 => h
                refine c_blk ?_
                refine c_seq ?_
                refine rg ?_
                obtain ⟨x42, hx43, h'⟩ := bind_some h
                clear h
                have h := h'; clear h'
                obtain ⟨b45, o46, hi44, -⟩ := (H.ro 3 rfl).ix hx43
                refine st (v := (pt b45 o46)) (rv_ix Try.underlying23 ti38 rfl rfl hi44) ?_
                obtain ⟨_, ⟨_, _, rfl, rfl, ⟨_, _, rfl, ⟨_, rfl, hR51⟩, rfl⟩⟩, hl47, hc48⟩ := ((H.ro 3 rfl).at hx43 hi44).cells
                obtain ⟨a49, c50, rfl⟩ := hR51.isSl
                replace H := H.add (d := Ch.ro 0 (Sl a49 x42.2.1 c50) x42.2.1) hR51 (fun _ h => h)
                clear hR51
                refine st (v := (.agg #[(I x42.1), (Sl a49 x42.2.1 c50), (I x42.2.2)])) (rv_load Try.underlying38 rfl ti38 rfl hl47 hc48) ?_
                refine st_ex (ex_alloc (cs := [(I 0), (.slice none 0 0), (I 0)]) H hn0 ti38 rfl) (wanted_none _ rfl _) ?_
                rintro _ σ53 ⟨b52, rfl, H, -⟩
                refine st_exS (ex_store_box (k := 0) (cs := [(I 0), (.slice none 0 0), (I 0)]) (vs := [(I x42.1), (Sl a49 x42.2.1 c50), (I x42.2.2)]) (cs' := [(I x42.1), (Sl a49 x42.2.1 c50), (I x42.2.2)]) H (i := 0) rfl ti38 rfl rfl rfl rfl rfl (Nat.le_of_ble_eq_true rfl) (by simp [plain]) rfl) (wanted_none _ rfl _) ?_
                rintro σ54 ⟨H, -⟩
                refine w_end ?_
                refine q_then ?_
                refine c_seq ?_
                refine rg ?_
                refine st (v := (I kind_1)) (rv_move rfl) ?_
                refine st (v := (pt b28 1)) (rv_fieldAddr (off := 1) (ft := 25) Try.underlying38 rfl ti25 rfl rfl) ?_
                have hc55 := H.cell (u := (Sl a25 x18.2.1 c26)) (o' := 1) 4 1 rfl rfl rfl
                refine st (v := (Sl a25 x18.2.1 c26)) (rv_load1 Try.underlying25 rfl rfl hc55) ?_
                refine st (v := (pt b52 1)) (rv_fieldAddr (off := 1) (ft := 25) Try.underlying38 rfl ti25 rfl rfl) ?_
                have hc56 := H.cell (u := (Sl a49 x42.2.1 c50)) (o' := 1) 0 1 rfl rfl rfl
                refine st (v := (Sl a49 x42.2.1 c50)) (rv_load1 Try.underlying25 rfl rfl hc56) ?_
                obtain ⟨r57, hx58, h'⟩ := bind_some h
                clear h
                have h := h'; clear h'
                have hc59 := c_impl_Distance (aa_1 := a25) (ca_1 := c26) (ab_2 := a49) (cb_2 := c50) hx58
                refine st_call (cx_call hc59 (ent_f hc59.fn rfl) hn0 (show Hp S0 σ0 _ ([Ch.ro 0 (Sl a25 x18.2.1 c26) x18.2.1, Ch.ro 0 (Sl a49 x42.2.1 c50) x42.2.1] ++ [Ch.bx n0 b52 0 [(I x42.1), (Sl a49 x42.2.1 c50), (I x42.2.2)] [] [], Ch.ro 0 (Sl a49 x42.2.1 c50) x42.2.1, Ch.ro 0 (Sl alist_0 list_0 clist_0) list_0, Ch.ro 0 (Sl a25 x18.2.1 c26) x18.2.1, Ch.bx n0 b28 0 [(I x18.1), (Sl a25 x18.2.1 c26), (I x18.2.2)] [] [], Ch.ro 0 (Sl a33 xs31 c34) xs31]) from (H.sel' [3, 1, 0, 1, 2, 3, 4, 5] rfl rfl))) (wanted_none _ rfl _) ?_
                rintro _ σ60 ⟨_, ⟨rfl, rfl⟩, H, -⟩
                replace H : Hp S0 σ0 σ60 [Ch.bx n0 b52 0 [(I x42.1), (Sl a49 x42.2.1 c50), (I x42.2.2)] [] [], Ch.ro 0 (Sl a49 x42.2.1 c50) x42.2.1, Ch.ro 0 (Sl alist_0 list_0 clist_0) list_0, Ch.ro 0 (Sl a25 x18.2.1 c26) x18.2.1, Ch.bx n0 b28 0 [(I x18.1), (Sl a25 x18.2.1 c26), (I x18.2.2)] [] [], Ch.ro 0 (Sl a33 xs31 c34) xs31] := H
                refine st (v := (I r57)) (rv_assign rfl) ?_
                refine w_end ?_
                refine q_then ?_
                refine c_seq ?_
                refine rg ?_
                refine st (v := (I r57)) (rv_move rfl) ?_
                refine st (v := (I s38.2.2.1)) (rv_move rfl) ?_
                refine st (v := (B (decide (r57 < s38.2.2.1)))) (rv_lss (a := r57) (b := s38.2.2.1) rfl rfl) ?_
                refine w_end ?_
                refine q_then ?_
                refine cd_cond (decide (r57 < s38.2.2.1)) rfl (fun hb61 => ?_) (fun hb61 => ?_)
                · replace h := bif_t hb61 h
                  have hc62 := H.cell (u := (I x18.1)) (o' := 0) 4 0 rfl rfl rfl
                  have hc63 := H.cell (u := (I x42.1)) (o' := 0) 0 0 rfl rfl rfl
                  have Hs := H
                  refine rg2 (σ := σ60) (Nm := Unit) 7 [] [[]] [[(0, 0)], [(0, 0)], [(0, 0)], [(0, 0)], [(0, 0)], [(0, 0)], [(0, 0)]] 0 [fun (_nm : Unit) => fun σm => Hp S0 σ0 σm [Ch.bx n0 b52 0 [(I x42.1), (Sl a49 x42.2.1 c50), (I x42.2.2)] [] [], Ch.ro 0 (Sl a49 x42.2.1 c50) x42.2.1, Ch.ro 0 (Sl alist_0 list_0 clist_0) list_0, Ch.ro 0 (Sl a25 x18.2.1 c26) x18.2.1, Ch.bx n0 b28 0 [(I x18.1), (Sl a25 x18.2.1 c26), (I x18.2.2)] [] [], Ch.ro 0 (Sl a33 xs31 c34) xs31] ∧ Md (cov []) σ60 σm] [fun (_nm : Unit) => (pt b28 0), fun (_nm : Unit) => (I x18.1), fun (_nm : Unit) => (pt b52 0), fun (_nm : Unit) => (I x42.1), fun (_nm : Unit) => (I r57), fun (_nm : Unit) => (I x18.1), fun (_nm : Unit) => (I x42.1)] () (by kernel_rfl) (by kernel_rfl) ?_ ?_ ?_
                  · intro σm m0
                    exact ⟨H.grow (m0.mono fun _ h => h.elim), m0⟩
                  · refine all_cons (obs_v rfl (by
                        intro k; intro _nm ρ σm hJ hoff hdep
                        have e11 : look 62 ρ 11 = (pt b28 0) := look_off (hoff 11 rfl) rfl
                        exact dp_v (v := (pt b28 0)) (wanted_none _ rfl _) (rv_fieldAddr (off := 0) (ft := 3) Try.underlying38 rfl ti3 rfl e11) rfl hJ)) ?_
                    refine all_cons (by
                        refine ⟨?_, ?_⟩
                        · intro _nm ρ σm hJ hoff hdep
                          have e53 : look 62 ρ 53 = (pt b28 0) := hdep 0 rfl rfl 53 rfl
                          obtain ⟨H, m⟩ := (show Hp S0 σ0 σm [Ch.bx n0 b52 0 [(I x42.1), (Sl a49 x42.2.1 c50), (I x42.2.2)] [] [], Ch.ro 0 (Sl a49 x42.2.1 c50) x42.2.1, Ch.ro 0 (Sl alist_0 list_0 clist_0) list_0, Ch.ro 0 (Sl a25 x18.2.1 c26) x18.2.1, Ch.bx n0 b28 0 [(I x18.1), (Sl a25 x18.2.1 c26), (I x18.2.2)] [] [], Ch.ro 0 (Sl a33 xs31 c34) xs31] ∧ Md (cov []) σ60 σm from hJ)
                          have hc62 := H.cell (u := (I x18.1)) (o' := 0) 4 0 rfl rfl rfl
                          exact dp_v (v := (I x18.1)) (wanted_none _ rfl _) (rv_load1 Try.underlying3 rfl e53 hc62) rfl hJ
                        trivial) ?_
                    refine all_cons (obs_v rfl (by
                        intro k; intro _nm ρ σm hJ hoff hdep
                        have e13 : look 62 ρ 13 = (pt b52 0) := look_off (hoff 13 rfl) rfl
                        exact dp_v (v := (pt b52 0)) (wanted_none _ rfl _) (rv_fieldAddr (off := 0) (ft := 3) Try.underlying38 rfl ti3 rfl e13) rfl hJ)) ?_
                    refine all_cons (by
                        refine ⟨?_, ?_⟩
                        · intro _nm ρ σm hJ hoff hdep
                          have e55 : look 62 ρ 55 = (pt b52 0) := hdep 2 rfl rfl 55 rfl
                          obtain ⟨H, m⟩ := (show Hp S0 σ0 σm [Ch.bx n0 b52 0 [(I x42.1), (Sl a49 x42.2.1 c50), (I x42.2.2)] [] [], Ch.ro 0 (Sl a49 x42.2.1 c50) x42.2.1, Ch.ro 0 (Sl alist_0 list_0 clist_0) list_0, Ch.ro 0 (Sl a25 x18.2.1 c26) x18.2.1, Ch.bx n0 b28 0 [(I x18.1), (Sl a25 x18.2.1 c26), (I x18.2.2)] [] [], Ch.ro 0 (Sl a33 xs31 c34) xs31] ∧ Md (cov []) σ60 σm from hJ)
                          have hc63 := H.cell (u := (I x42.1)) (o' := 0) 0 0 rfl rfl rfl
                          exact dp_v (v := (I x42.1)) (wanted_none _ rfl _) (rv_load1 Try.underlying3 rfl e55 hc63) rfl hJ
                        trivial) ?_
                    refine all_cons (obs_v rfl (by
                        intro k; intro _nm ρ σm hJ hoff hdep
                        have e14 : look 62 ρ 14 = (I r57) := look_off (hoff 14 rfl) rfl
                        exact dp_v (v := (I r57)) (wanted_none _ rfl _) (rv_move e14) rfl hJ)) ?_
                    refine all_cons (obs_v rfl (by
                        intro k; intro _nm ρ σm hJ hoff hdep
                        have e54 : look 62 ρ 54 = (I x18.1) := hdep 1 rfl rfl 54 rfl
                        exact dp_v (v := (I x18.1)) (wanted_none _ rfl _) (rv_assign e54) rfl hJ)) ?_
                    refine all_cons (obs_v rfl (by
                        intro k; intro _nm ρ σm hJ hoff hdep
                        have e56 : look 62 ρ 56 = (I x42.1) := hdep 3 rfl rfl 56 rfl
                        exact dp_v (v := (I x42.1)) (wanted_none _ rfl _) (rv_assign e56) rfl hJ)) ?_
                    exact all_nil
                  · intro _nm ρ σ64 hJ hoff hrel
                    have e0 : look 62 ρ 0 = (Sl alist_0 list_0 clist_0) := look_off (hoff 0 rfl) rfl
                    have e1 : look 62 ρ 1 = (I kind_1) := look_off (hoff 1 rfl) rfl
                    have e7 : look 62 ρ 7 = (I x18.1) := hrel 5 rfl 7 rfl
                    have e8 : look 62 ρ 8 = (I x42.1) := hrel 6 rfl 8 rfl
                    have e11 : look 62 ρ 11 = (pt b28 0) := look_off (hoff 11 rfl) rfl
                    have e28 : look 62 ρ 28 = (Sl alist_0 list_0 clist_0) := look_off (hoff 28 rfl) rfl
                    have e29 : look 62 ρ 29 = (I (list_0.length : Int)) := look_off (hoff 29 rfl) rfl
                    have e30 : look 62 ρ 30 = (I s15.2.2.2) := look_off (hoff 30 rfl) rfl
                    have e38 : look 62 ρ 38 = (Sl a33 xs31 c34) := look_off (hoff 38 rfl) rfl
                    have e39 : look 62 ρ 39 = (I (xs31.length : Int)) := look_off (hoff 39 rfl) rfl
                    have e40 : look 62 ρ 40 = (I s38.2.2.2) := look_off (hoff 40 rfl) rfl
                    have e57 : look 62 ρ 57 = (I r57) := hrel 4 rfl 57 rfl
                    obtain ⟨H, -⟩ := (show Hp S0 σ0 σ64 [Ch.bx n0 b52 0 [(I x42.1), (Sl a49 x42.2.1 c50), (I x42.2.2)] [] [], Ch.ro 0 (Sl a49 x42.2.1 c50) x42.2.1, Ch.ro 0 (Sl alist_0 list_0 clist_0) list_0, Ch.ro 0 (Sl a25 x18.2.1 c26) x18.2.1, Ch.bx n0 b28 0 [(I x18.1), (Sl a25 x18.2.1 c26), (I x18.2.2)] [] [], Ch.ro 0 (Sl a33 xs31 c34) xs31] ∧ Md (cov []) σ60 σ64 from hJ)
                    clear hJ Hs
                    rw [fr_lookL (L := [(0, (Sl alist_0 list_0 clist_0)), (1, (I kind_1)), (7, (I x18.1)), (8, (I x42.1)), (11, (pt b28 0)), (28, (Sl alist_0 list_0 clist_0)), (29, (I (list_0.length : Int))), (30, (I s15.2.2.2)), (38, (Sl a33 xs31 c34)), (39, (I (xs31.length : Int))), (40, (I s38.2.2.2)), (57, (I r57))]) ⟨e0, e1, e7, e8, e11, e28, e29, e30, e38, e39, e40, e57, trivial⟩]
                    clear hoff hrel e0 e1 e7 e8 e11 e28 e29 e30 e38 e39 e40 e57
                    refine st (v := (I r57)) (rv_assign rfl) ?_
                    refine w_end ?_
                    refine q_blk ?_
                    obtain rfl := Option.some.inj h
                    exact ⟨rfl, _, σ64, fr_join ⟨rfl, rfl, rfl, rfl, rfl, rfl, rfl, rfl, rfl, rfl, rfl, rfl, trivial⟩, rfl, H.sel' [2, 3, 4, 5] rfl rfl⟩
                · replace h := bif_f hb61 h
                  refine c_skip ?_
                  refine q_blk ?_
                  obtain rfl := Option.some.inj h
                  exact ⟨rfl, _, σ60, fr_join ⟨rfl, rfl, rfl, rfl, rfl, rfl, rfl, rfl, rfl, rfl, rfl, rfl, trivial⟩, rfl, H.sel' [2, 3, 4, 5] rfl rfl⟩
              · clear hj
                have h := h'
                clear h' H
                rintro e a w ⟨rfl, ρ, σ65, rfl, rfl, H⟩
                refine q_then ?_
                refine rg ?_
                refine st (v := (I (w64 (s38.2.2.2 + 1)))) (rv_add (a := s38.2.2.2) (b := 1) rfl rfl) ?_
                refine st (v := (I (w64 (s38.2.2.2 + 1)))) (rv_move rfl) ?_
                refine w_end ?_
                refine q_then ?_
                obtain rfl := Option.some.inj h
                exact ⟨_, rfl, _, σ65, fr_join ⟨rfl, rfl, rfl, rfl, rfl, rfl, rfl, rfl, rfl, rfl, rfl, rfl, trivial⟩, rfl, H.sel' [0, 1, 2, 3] rfl rfl⟩
            · replace h := bif_f hb40 h
              refine c_exit ?_
              refine q_then_x ?_
              refine q_then_x ?_
              refine q_blk_hit ?_
              obtain rfl := Option.some.inj h
              obtain rfl := hres _ rfl
              exact ⟨rfl, _, σ39, fr_join ⟨rfl, rfl, rfl, rfl, rfl, rfl, rfl, rfl, trivial⟩, rfl, H.sel' [0] rfl rfl⟩
          · clear hj
            have h := h'
            clear h' H
            rintro e a w ⟨rfl, ρ, σ66, rfl, rfl, H⟩
            refine q_blk ?_
            refine q_then ?_
            refine rg ?_
            refine st (v := (I (w64 (s15.2.2.2 + 1)))) (rv_add (a := s15.2.2.2) (b := 1) rfl rfl) ?_
            refine st (v := (I (w64 (s15.2.2.2 + 1)))) (rv_move rfl) ?_
            refine w_end ?_
            refine q_then ?_
            obtain rfl := Option.some.inj h
            exact ⟨_, rfl, _, σ66, fr_join ⟨rfl, rfl, rfl, rfl, rfl, rfl, rfl, rfl, trivial⟩, rfl, H.sel' [0] rfl rfl⟩
        · replace h := bif_f hb17 h
          refine c_exit ?_
          refine q_then_x ?_
          refine q_then_x ?_
          refine q_blk_hit ?_
          obtain rfl := Option.some.inj h
          obtain rfl := hres _ rfl
          exact ⟨rfl, _, σ16, fr_join ⟨rfl, rfl, trivial⟩, rfl, H.sel' [] rfl rfl⟩
      · clear hj
        have h := h'
        clear h' H
        rintro e a w ⟨rfl, ρ, σ67, rfl, rfl, H⟩
        refine q_then ?_
        refine c_seq ?_
        refine rg ?_
        refine st (v := (I o14.1)) (rv_move rfl) ?_
        refine st (v := (I o14.2)) (rv_move rfl) ?_
        refine st (v := (I o14.1)) (rv_assign rfl) ?_
        refine st (v := (I o14.2)) (rv_assign rfl) ?_
        refine st (v := (B true)) (rv_assign rfl) ?_
        refine w_end ?_
        refine q_then ?_
        refine c_ret ?_
        obtain rfl := Option.some.inj h
        exact fin_ret (v := (.tuple #[(I o14.1), (I o14.2), (B true)])) (results_ok Try.results35 (res_tmp (v := (I o14.1)) rfl (res_tmp (v := (I o14.2)) rfl (res_tmp (v := (B true)) rfl res_nil))) rfl) ⟨rfl, rfl⟩ (H.sel' [] rfl rfl)

theorem c_spec_validKind {kind_0 : Int}  {r : Bool} (h : M.spec_validKind kind_0 = some r) :
    Cal2 Try.prog 67 [(I kind_0)] [] (fun n0 v L => v = (B r) ∧ L = []) := by
  refine cal2 (n := 5) Try.func67 rfl rfl rfl rfl ?_
  intro S0 σ0 n0 hn0 H
  unfold M.spec_validKind at h
  refine c_seq ?_
  refine rg ?_
  refine st (v := (B false)) (rv_assign rfl) ?_
  refine w_end ?_
  refine q_then ?_
  refine c_seq ?_
  refine rg ?_
  refine st (v := (I kind_0)) (rv_move rfl) ?_
  obtain ⟨r1, hx2, h'⟩ := bind_some h
  clear h
  have h := h'; clear h'
  have hc3 := c_spec_inRange hx2
  refine st_call (cx_call hc3 (ent_f hc3.fn rfl) hn0 (show Hp S0 σ0 _ ([] ++ []) from (H.sel' [] rfl rfl))) (wanted_none _ rfl _) ?_
  rintro _ σ4 ⟨_, ⟨rfl, rfl⟩, H, -⟩
  replace H : Hp S0 σ0 σ4 [] := H
  refine st (v := (B r1)) (rv_assign rfl) ?_
  refine w_end ?_
  refine q_then ?_
  refine c_ret ?_
  obtain rfl := Option.some.inj h
  exact fin_ret (v := (B r1)) (results_ok Try.results67 (res_tmp (v := (B r1)) rfl res_nil) rfl) ⟨rfl, rfl⟩ (H.sel' [] rfl rfl)

theorem c_spec_size {n_0 : Int}  {r : Int} (h : M.spec_size n_0 = some r) :
    Cal2 Try.prog 90 [(I n_0)] [] (fun n0 v L => v = (I r) ∧ L = []) := by
  refine cal2 (n := 7) Try.func90 rfl rfl rfl rfl ?_
  intro S0 σ0 n0 hn0 H
  unfold M.spec_size at h
  refine c_seq ?_
  refine rg ?_
  refine st (v := (I 0)) (rv_assign rfl) ?_
  refine w_end ?_
  refine q_then ?_
  refine c_seq ?_
  refine rg ?_
  refine st (v := (I n_0)) (rv_move rfl) ?_
  refine st (v := (I n_0)) (rv_move rfl) ?_
  refine st (v := (I (w64 (0 - n_0)))) (rv_neg (a := n_0) rfl) ?_
  refine st (v := (I (max n_0 (w64 (0 - n_0))))) (rv_max rfl rfl) ?_
  refine st (v := (I (max n_0 (w64 (0 - n_0))))) (rv_assign rfl) ?_
  refine w_end ?_
  refine q_then ?_
  refine c_ret ?_
  obtain rfl := Option.some.inj h
  exact fin_ret (v := (I (max n_0 (w64 (0 - n_0))))) (results_ok Try.results90 (res_tmp (v := (I (max n_0 (w64 (0 - n_0))))) rfl res_nil) rfl) ⟨rfl, rfl⟩ (H.sel' [] rfl rfl)

theorem c_spec_toInt {b_0 : Bool}  {r : Int} (h : M.spec_toInt b_0 = some r) :
    Cal2 Try.prog 91 [(B b_0)] [] (fun n0 v L => v = (I r) ∧ L = []) := by
  refine cal2 (n := 4) Try.func91 rfl rfl rfl rfl ?_
  intro S0 σ0 n0 hn0 H
  unfold M.spec_toInt at h
  refine c_seq ?_
  refine rg ?_
  refine st (v := (I 0)) (rv_assign rfl) ?_
  refine w_end ?_
  refine q_then ?_
  refine c_seq ?_
  refine c_seq ?_
  refine rg ?_
  refine st (v := (B b_0)) (rv_move rfl) ?_
  refine w_end ?_
  refine q_then ?_
  refine cd_cond b_0 rfl (fun hb1 => ?_) (fun hb1 => ?_)
  · replace h := bif_t hb1 h
    refine c_seq ?_
    refine rg ?_
    refine st (v := (I 1)) (rv_assign rfl) ?_
    refine w_end ?_
    refine q_then ?_
    refine c_ret ?_
    refine q_then_r ?_
    obtain rfl := Option.some.inj h
    exact fin_ret (v := (I 1)) (results_ok Try.results91 (res_tmp (v := (I 1)) rfl res_nil) rfl) ⟨rfl, rfl⟩ (H.sel' [] rfl rfl)
  · replace h := bif_f hb1 h
    refine c_skip ?_
    refine q_then ?_
    refine c_seq ?_
    refine rg ?_
    refine st (v := (I 0)) (rv_assign rfl) ?_
    refine w_end ?_
    refine q_then ?_
    refine c_ret ?_
    obtain rfl := Option.some.inj h
    exact fin_ret (v := (I 0)) (results_ok Try.results91 (res_tmp (v := (I 0)) rfl res_nil) rfl) ⟨rfl, rfl⟩ (H.sel' [] rfl rfl)

theorem c_spec_dist {kind_0 : Int} {a_1 : List Int} {b_2 : List Int} {aa_1 : Option Addr} {ca_1 : Nat} {ab_2 : Option Addr} {cb_2 : Nat} {r : Int} (h : M.spec_dist kind_0 a_1 b_2 = some r) :
    Cal2 Try.prog 68 [(I kind_0), (Sl aa_1 a_1 ca_1), (Sl ab_2 b_2 cb_2)] [Ch.ro 0 (Sl aa_1 a_1 ca_1) a_1, Ch.ro 0 (Sl ab_2 b_2 cb_2) b_2] (fun n0 v L => v = (I r) ∧ L = []) := by
  refine cal2 (n := 50) Try.func68 rfl rfl rfl rfl ?_
  intro S0 σ0 n0 hn0 H
  unfold M.spec_dist at h
  refine c_seq ?_
  refine rg ?_
  refine st (v := (I 0)) (rv_assign rfl) ?_
  refine w_end ?_
  refine q_then ?_
  refine c_seq ?_
  refine rg ?_
  refine st (v := (I 0)) (rv_assign rfl) ?_
  refine w_end ?_
  refine q_then ?_
  refine c_seq ?_
  refine c_seq ?_
  refine rg ?_
  refine st (v := (I 0)) (rv_assign rfl) ?_
  refine w_end ?_
  refine q_then ?_
  obtain ⟨o1, hj, h'⟩ := bind_some h
  clear h
  refine c_cut (fun e a w => e = .normal ∧ ∃ (ρ : Nat → Value) (σ : St), a = fr 50 (updL ρ [(7, (I o1))]) ∧ w = σ.w ∧ Hp S0 σ0 σ []) ?_ ?_
  · clear h'
    rename _ = some o1 => h
    refine c_blk ?_
    refine wp_loopM _ h (fun s2 a w => ∃ (ρ : Nat → Value) (σ : St), a = fr 50 (updL ρ [(0, (I kind_0)), (1, (Sl aa_1 a_1 ca_1)), (2, (Sl ab_2 b_2 cb_2)), (7, (I s2.1)), (8, (I s2.2))]) ∧ w = σ.w ∧ Hp S0 σ0 σ [Ch.ro 0 (Sl aa_1 a_1 ca_1) a_1, Ch.ro 0 (Sl ab_2 b_2 cb_2) b_2]) ⟨_, σ0, fr_join ⟨rfl, rfl, rfl, rfl, rfl, trivial⟩, rfl, H.sel' [0, 1] rfl rfl⟩ ?_
    clear h H
    rintro s2 a w o ⟨ρ, σ3, rfl, rfl, H⟩ h hres
    refine c_seq ?_
    refine c_seq ?_
    refine rg ?_
    refine st (v := (I s2.2)) (rv_move rfl) ?_
    refine st (v := (Sl aa_1 a_1 ca_1)) (rv_move rfl) ?_
    refine st (v := (I (a_1.length : Int))) (rv_len Try.underlying25 rfl) ?_
    refine st (v := (B (decide (s2.2 < (a_1.length : Int))))) (rv_lss (a := s2.2) (b := (a_1.length : Int)) rfl rfl) ?_
    refine w_end ?_
    refine q_then ?_
    refine cd_cond (decide (s2.2 < (a_1.length : Int))) rfl (fun hb4 => ?_) (fun hb4 => ?_)
    · replace h := bif_t hb4 h
      refine c_skip ?_
      refine q_then ?_
      refine c_seq ?_
      obtain ⟨o5, hj, h'⟩ := bind_some h
      clear h
      refine c_cut (fun e a w => e = .normal ∧ ∃ (ρ : Nat → Value) (σ : St), a = fr 50 (updL ρ [(0, (I kind_0)), (1, (Sl aa_1 a_1 ca_1)), (2, (Sl ab_2 b_2 cb_2)), (7, (I o5)), (8, (I s2.2))]) ∧ w = σ.w ∧ Hp S0 σ0 σ [Ch.ro 0 (Sl aa_1 a_1 ca_1) a_1, Ch.ro 0 (Sl ab_2 b_2 cb_2) b_2]) ?_ ?_
      · clear h'
        rename _ = some o5 => h
        refine c_blk ?_
        refine c_seq ?_
        obtain ⟨x6, hx7, h'⟩ := bind_some h
        clear h
        have h := h'; clear h'
        obtain ⟨b9, o10, hi8, -⟩ := (H.ro 0 rfl).ix hx7
        have hc11 := ((H.ro 0 rfl).at hx7 hi8).int
        obtain ⟨x12, hx13, h'⟩ := bind_some h
        clear h
        have h := h'; clear h'
        obtain ⟨b15, o16, hi14, -⟩ := (H.ro 1 rfl).ix hx13
        have hc17 := ((H.ro 1 rfl).at hx13 hi14).int
        have Hs := H
        refine rg2 (σ := σ3) (Nm := Unit) 8 [] [[]] [[(0, 0)], [(0, 0)], [(0, 0)], [(0, 0)], [(0, 0)], [(0, 0)], [(0, 0)], [(0, 0)]] 0 [fun (_nm : Unit) => fun σm => Hp S0 σ0 σm [Ch.ro 0 (Sl aa_1 a_1 ca_1) a_1, Ch.ro 0 (Sl ab_2 b_2 cb_2) b_2] ∧ Md (cov []) σ3 σm] [fun (_nm : Unit) => (Sl aa_1 a_1 ca_1), fun (_nm : Unit) => (I s2.2), fun (_nm : Unit) => (pt b9 o10), fun (_nm : Unit) => (I x6), fun (_nm : Unit) => (Sl ab_2 b_2 cb_2), fun (_nm : Unit) => (I s2.2), fun (_nm : Unit) => (pt b15 o16), fun (_nm : Unit) => (I x12)] () (by kernel_rfl) (by kernel_rfl) ?_ ?_ ?_
        · intro σm m0
          exact ⟨H.grow (m0.mono fun _ h => h.elim), m0⟩
        · refine all_cons (obs_v rfl (by
              intro k; intro _nm ρ σm hJ hoff hdep
              have e1 : look 50 ρ 1 = (Sl aa_1 a_1 ca_1) := look_off (hoff 1 rfl) rfl
              exact dp_v (v := (Sl aa_1 a_1 ca_1)) (wanted_none _ rfl _) (rv_move e1) rfl hJ)) ?_
          refine all_cons (obs_v rfl (by
              intro k; intro _nm ρ σm hJ hoff hdep
              have e8 : look 50 ρ 8 = (I s2.2) := look_off (hoff 8 rfl) rfl
              exact dp_v (v := (I s2.2)) (wanted_none _ rfl _) (rv_move e8) rfl hJ)) ?_
          refine all_cons (obs_v rfl (by
              intro k; intro _nm ρ σm hJ hoff hdep
              have e16 : look 50 ρ 16 = (Sl aa_1 a_1 ca_1) := hdep 0 rfl rfl 16 rfl
              have e17 : look 50 ρ 17 = (I s2.2) := hdep 1 rfl rfl 17 rfl
              exact dp_v (v := (pt b9 o10)) (wanted_none _ rfl _) (rv_ix Try.underlying25 ti3 e16 e17 hi8) rfl hJ)) ?_
          refine all_cons (by
              refine ⟨?_, ?_⟩
              · intro _nm ρ σm hJ hoff hdep
                have e18 : look 50 ρ 18 = (pt b9 o10) := hdep 2 rfl rfl 18 rfl
                obtain ⟨H, m⟩ := (show Hp S0 σ0 σm [Ch.ro 0 (Sl aa_1 a_1 ca_1) a_1, Ch.ro 0 (Sl ab_2 b_2 cb_2) b_2] ∧ Md (cov []) σ3 σm from hJ)
                replace hc11 := (Hs.ro 0 rfl).hmd hx7 hi8 (k := 0) (by decide) hc11 m
                exact dp_v (v := (I x6)) (wanted_none _ rfl _) (rv_load1 Try.underlying3 rfl e18 hc11) rfl hJ
              trivial) ?_
          refine all_cons (obs_v rfl (by
              intro k; intro _nm ρ σm hJ hoff hdep
              have e2 : look 50 ρ 2 = (Sl ab_2 b_2 cb_2) := look_off (hoff 2 rfl) rfl
              exact dp_v (v := (Sl ab_2 b_2 cb_2)) (wanted_none _ rfl _) (rv_move e2) rfl hJ)) ?_
          refine all_cons (obs_v rfl (by
              intro k; intro _nm ρ σm hJ hoff hdep
              have e8 : look 50 ρ 8 = (I s2.2) := look_off (hoff 8 rfl) rfl
              exact dp_v (v := (I s2.2)) (wanted_none _ rfl _) (rv_move e8) rfl hJ)) ?_
          refine all_cons (obs_v rfl (by
              intro k; intro _nm ρ σm hJ hoff hdep
              have e20 : look 50 ρ 20 = (Sl ab_2 b_2 cb_2) := hdep 4 rfl rfl 20 rfl
              have e21 : look 50 ρ 21 = (I s2.2) := hdep 5 rfl rfl 21 rfl
              exact dp_v (v := (pt b15 o16)) (wanted_none _ rfl _) (rv_ix Try.underlying25 ti3 e20 e21 hi14) rfl hJ)) ?_
          refine all_cons (by
              refine ⟨?_, ?_⟩
              · intro _nm ρ σm hJ hoff hdep
                have e22 : look 50 ρ 22 = (pt b15 o16) := hdep 6 rfl rfl 22 rfl
                obtain ⟨H, m⟩ := (show Hp S0 σ0 σm [Ch.ro 0 (Sl aa_1 a_1 ca_1) a_1, Ch.ro 0 (Sl ab_2 b_2 cb_2) b_2] ∧ Md (cov []) σ3 σm from hJ)
                replace hc17 := (Hs.ro 1 rfl).hmd hx13 hi14 (k := 0) (by decide) hc17 m
                exact dp_v (v := (I x12)) (wanted_none _ rfl _) (rv_load1 Try.underlying3 rfl e22 hc17) rfl hJ
              trivial) ?_
          exact all_nil
        · intro _nm ρ σ18 hJ hoff hrel
          have e0 : look 50 ρ 0 = (I kind_0) := look_off (hoff 0 rfl) rfl
          have e1 : look 50 ρ 1 = (Sl aa_1 a_1 ca_1) := look_off (hoff 1 rfl) rfl
          have e2 : look 50 ρ 2 = (Sl ab_2 b_2 cb_2) := look_off (hoff 2 rfl) rfl
          have e7 : look 50 ρ 7 = (I s2.1) := look_off (hoff 7 rfl) rfl
          have e8 : look 50 ρ 8 = (I s2.2) := look_off (hoff 8 rfl) rfl
          have e19 : look 50 ρ 19 = (I x6) := hrel 3 rfl 19 rfl
          have e23 : look 50 ρ 23 = (I x12) := hrel 7 rfl 23 rfl
          obtain ⟨H, -⟩ := (show Hp S0 σ0 σ18 [Ch.ro 0 (Sl aa_1 a_1 ca_1) a_1, Ch.ro 0 (Sl ab_2 b_2 cb_2) b_2] ∧ Md (cov []) σ3 σ18 from hJ)
          clear hJ Hs
          rw [fr_lookL (L := [(0, (I kind_0)), (1, (Sl aa_1 a_1 ca_1)), (2, (Sl ab_2 b_2 cb_2)), (7, (I s2.1)), (8, (I s2.2)), (19, (I x6)), (23, (I x12))]) ⟨e0, e1, e2, e7, e8, e19, e23, trivial⟩]
          clear hoff hrel e0 e1 e2 e7 e8 e19 e23
          refine st (v := (I (w64 (x6 - x12)))) (rv_sub (a := x6) (b := x12) rfl rfl) ?_
          obtain ⟨r19, hx20, h'⟩ := bind_some h
          clear h
          have h := h'; clear h'
          have hc21 := c_spec_size hx20
          refine st_call (cx_call hc21 (ent_f hc21.fn rfl) hn0 (show Hp S0 σ0 _ ([] ++ [Ch.ro 0 (Sl aa_1 a_1 ca_1) a_1, Ch.ro 0 (Sl ab_2 b_2 cb_2) b_2]) from (H.sel' [0, 1] rfl rfl))) (wanted_none _ rfl _) ?_
          rintro _ σ22 ⟨_, ⟨rfl, rfl⟩, H, -⟩
          replace H : Hp S0 σ0 σ22 [Ch.ro 0 (Sl aa_1 a_1 ca_1) a_1, Ch.ro 0 (Sl ab_2 b_2 cb_2) b_2] := H
          refine st (v := (I r19)) (rv_assign rfl) ?_
          refine w_end ?_
          refine q_then ?_
          refine c_seq ?_
          refine rg ?_
          refine st (v := (I kind_0)) (rv_move rfl) ?_
          refine w_end ?_
          refine q_then ?_
          refine c_blk ?_
          refine c_seq ?_
          refine rg ?_
          refine st (v := (B (kind_0 == 1))) (rv_eql (a := kind_0) (b := 1) rfl rfl) ?_
          refine st (v := (B (kind_0 == 1))) (rv_assign rfl) ?_
          refine w_end ?_
          refine q_then ?_
          refine cd_cond (kind_0 == 1) rfl (fun hb23 => ?_) (fun hb23 => ?_)
          · replace h := bif_t hb23 h
            refine rg ?_
            refine st (v := (I s2.1)) (rv_move rfl) ?_
            refine st (v := (I r19)) (rv_move rfl) ?_
            refine st (v := (I (w64 (s2.1 + r19)))) (rv_add (a := s2.1) (b := r19) rfl rfl) ?_
            refine st (v := (I (w64 (s2.1 + r19)))) (rv_assign rfl) ?_
            refine w_end ?_
            refine q_blk ?_
            refine q_blk ?_
            obtain rfl := Option.some.inj h
            exact ⟨rfl, _, σ22, fr_join ⟨rfl, rfl, rfl, rfl, rfl, trivial⟩, rfl, H.sel' [0, 1] rfl rfl⟩
          · replace h := bif_f hb23 h
            refine c_seq ?_
            refine rg ?_
            refine st (v := (B (kind_0 == 2))) (rv_eql (a := kind_0) (b := 2) rfl rfl) ?_
            refine st (v := (B (kind_0 == 2))) (rv_assign rfl) ?_
            refine w_end ?_
            refine q_then ?_
            refine cd_cond (kind_0 == 2) rfl (fun hb24 => ?_) (fun hb24 => ?_)
            · replace h := bif_t hb24 h
              refine rg ?_
              refine st (v := (I s2.1)) (rv_move rfl) ?_
              refine st (v := (I r19)) (rv_move rfl) ?_
              refine st (v := (I (max s2.1 r19))) (rv_max rfl rfl) ?_
              refine st (v := (I (max s2.1 r19))) (rv_assign rfl) ?_
              refine w_end ?_
              refine q_blk ?_
              refine q_blk ?_
              obtain rfl := Option.some.inj h
              exact ⟨rfl, _, σ22, fr_join ⟨rfl, rfl, rfl, rfl, rfl, trivial⟩, rfl, H.sel' [0, 1] rfl rfl⟩
            · replace h := bif_f hb24 h
              refine c_seq ?_
              refine rg ?_
              refine st (v := (B (kind_0 == 3))) (rv_eql (a := kind_0) (b := 3) rfl rfl) ?_
              refine st (v := (B (kind_0 == 3))) (rv_assign rfl) ?_
              refine w_end ?_
              refine q_then ?_
              refine cd_cond (kind_0 == 3) rfl (fun hb25 => ?_) (fun hb25 => ?_)
              · replace h := bif_t hb25 h
                refine rg ?_
                refine st (v := (I s2.1)) (rv_move rfl) ?_
                refine st (v := (I r19)) (rv_move rfl) ?_
                refine st (v := (I r19)) (rv_move rfl) ?_
                refine st (v := (I (w64 (r19 * r19)))) (rv_mul (a := r19) (b := r19) rfl rfl) ?_
                refine st (v := (I (w64 (s2.1 + (w64 (r19 * r19)))))) (rv_add (a := s2.1) (b := (w64 (r19 * r19))) rfl rfl) ?_
                refine st (v := (I (w64 (s2.1 + (w64 (r19 * r19)))))) (rv_assign rfl) ?_
                refine w_end ?_
                refine q_blk ?_
                refine q_blk ?_
                obtain rfl := Option.some.inj h
                exact ⟨rfl, _, σ22, fr_join ⟨rfl, rfl, rfl, rfl, rfl, trivial⟩, rfl, H.sel' [0, 1] rfl rfl⟩
              · replace h := bif_f hb25 h
                refine rg ?_
                refine st (v := (I s2.1)) (rv_move rfl) ?_
                refine st (v := (I r19)) (rv_move rfl) ?_
                refine st (v := (B (decide (0 < r19)))) (rv_gtr (a := r19) (b := 0) rfl rfl) ?_
                obtain ⟨r26, hx27, h'⟩ := bind_some h
                clear h
                have h := h'; clear h'
                have hc28 := c_spec_toInt hx27
                refine st_call (cx_call hc28 (ent_f hc28.fn rfl) hn0 (show Hp S0 σ0 _ ([] ++ [Ch.ro 0 (Sl aa_1 a_1 ca_1) a_1, Ch.ro 0 (Sl ab_2 b_2 cb_2) b_2]) from (H.sel' [0, 1] rfl rfl))) (wanted_none _ rfl _) ?_
                rintro _ σ29 ⟨_, ⟨rfl, rfl⟩, H, -⟩
                replace H : Hp S0 σ0 σ29 [Ch.ro 0 (Sl aa_1 a_1 ca_1) a_1, Ch.ro 0 (Sl ab_2 b_2 cb_2) b_2] := H
                refine st (v := (I (w64 (s2.1 + r26)))) (rv_add (a := s2.1) (b := r26) rfl rfl) ?_
                refine st (v := (I (w64 (s2.1 + r26)))) (rv_assign rfl) ?_
                refine w_end ?_
                refine q_blk ?_
                refine q_blk ?_
                obtain rfl := Option.some.inj h
                exact ⟨rfl, _, σ29, fr_join ⟨rfl, rfl, rfl, rfl, rfl, trivial⟩, rfl, H.sel' [0, 1] rfl rfl⟩
      · clear hj
        have h := h'
        clear h' H
        rintro e a w ⟨rfl, ρ, σ30, rfl, rfl, H⟩
        refine q_then ?_
        refine rg ?_
        refine st (v := (I s2.2)) (rv_move rfl) ?_
        refine st (v := (I (w64 (s2.2 + 1)))) (rv_add (a := s2.2) (b := 1) rfl rfl) ?_
        refine st (v := (I (w64 (s2.2 + 1)))) (rv_assign rfl) ?_
        refine w_end ?_
        refine q_then ?_
        obtain rfl := Option.some.inj h
        exact ⟨_, rfl, _, σ30, fr_join ⟨rfl, rfl, rfl, rfl, rfl, trivial⟩, rfl, H.sel' [0, 1] rfl rfl⟩
    · replace h := bif_f hb4 h
      refine c_exit ?_
      refine q_then_x ?_
      refine q_then_x ?_
      refine q_blk_hit ?_
      obtain rfl := Option.some.inj h
      obtain rfl := hres _ rfl
      exact ⟨rfl, _, σ3, fr_join ⟨rfl, trivial⟩, rfl, H.sel' [] rfl rfl⟩
  · clear hj
    have h := h'
    clear h' H
    rintro e a w ⟨rfl, ρ, σ31, rfl, rfl, H⟩
    refine q_then ?_
    refine c_seq ?_
    refine rg ?_
    refine st (v := (I o1)) (rv_move rfl) ?_
    refine st (v := (I o1)) (rv_assign rfl) ?_
    refine w_end ?_
    refine q_then ?_
    refine c_ret ?_
    obtain rfl := Option.some.inj h
    exact fin_ret (v := (I o1)) (results_ok Try.results68 (res_tmp (v := (I o1)) rfl res_nil) rfl) ⟨rfl, rfl⟩ (H.sel' [] rfl rfl)

theorem c_spec_ClosestPair {list_0 : List (Int × (List Int) × Int)} {kind_1 : Int} {alist_0 : Option Addr} {clist_0 : Nat} {r : Int × Int × Bool} (h : M.spec_ClosestPair list_0 kind_1 = some r) :
    Cal2 Try.prog 36 [(Sl alist_0 list_0 clist_0), (I kind_1)] [Ch.ro 0 (Sl alist_0 list_0 clist_0) list_0] (fun n0 v L => v = (.tuple #[(I r.1), (I r.2.1), (B r.2.2)]) ∧ L = []) := by
  refine cal2 (n := 75) Try.func36 rfl rfl rfl rfl ?_
  intro S0 σ0 n0 hn0 H
  unfold M.spec_ClosestPair at h
  refine c_seq ?_
  refine rg ?_
  refine st (v := (I 0)) (rv_assign rfl) ?_
  refine st (v := (I 0)) (rv_assign rfl) ?_
  refine st (v := (B false)) (rv_assign rfl) ?_
  refine w_end ?_
  refine q_then ?_
  refine c_seq ?_
  refine c_seq ?_
  obtain ⟨o1, hj, h'⟩ := bind_some h
  clear h
  refine c_cut (fun e a w => e = .normal ∧ ∃ (ρ : Nat → Value) (σ : St), a = fr 75 (updL ρ [(0, (Sl alist_0 list_0 clist_0)), (1, (I kind_1)), (23, (B o1))]) ∧ w = σ.w ∧ Hp S0 σ0 σ [Ch.ro 0 (Sl alist_0 list_0 clist_0) list_0]) ?_ ?_
  · clear h'
    rename _ = some o1 => h
    refine rg ?_
    refine st (v := (Sl alist_0 list_0 clist_0)) (rv_move rfl) ?_
    obtain ⟨r2, hx3, h'⟩ := bind_some h
    clear h
    have h := h'; clear h'
    have hc4 := c_spec_validStore (alist_0 := alist_0) (clist_0 := clist_0) hx3
    refine st_call (cx_call hc4 (ent_f hc4.fn rfl) hn0 (show Hp S0 σ0 _ ([Ch.ro 0 (Sl alist_0 list_0 clist_0) list_0] ++ [Ch.ro 0 (Sl alist_0 list_0 clist_0) list_0]) from (H.sel' [0, 0] rfl rfl))) (wanted_none _ rfl _) ?_
    rintro _ σ5 ⟨_, ⟨rfl, rfl⟩, H, -⟩
    replace H : Hp S0 σ0 σ5 [Ch.ro 0 (Sl alist_0 list_0 clist_0) list_0] := H
    refine st (v := (B (!r2))) (rv_not rfl) ?_
    refine st (v := (B (!r2))) (rv_move rfl) ?_
    rcases Bool.eq_false_or_eq_true (!r2) with hb6 | hb6
    · replace h := bif_t hb6 h
      refine st_skip (congrArg some hb6) ?_
      refine st_skip (congrArg some hb6) ?_
      refine st_skip (congrArg some hb6) ?_
      refine st (v := (B true)) (rv_pick_t (congrArg B hb6) rfl) ?_
      refine st (v := (B true)) (rv_move rfl) ?_
      refine st_skip rfl ?_
      refine st_skip rfl ?_
      refine st_skip rfl ?_
      refine st (v := (B true)) (rv_pick_t rfl rfl) ?_
      refine w_end ?_
      obtain rfl := Option.some.inj h
      exact ⟨rfl, _, σ5, fr_join ⟨rfl, rfl, rfl, trivial⟩, rfl, H.sel' [0] rfl rfl⟩
    · replace h := bif_f hb6 h
      refine st_g (v := (I kind_1)) (congrArg some hb6) (rv_move rfl) ?_
      obtain ⟨r7, hx8, h'⟩ := bind_some h
      clear h
      have h := h'; clear h'
      have hc9 := c_spec_validKind hx8
      refine st_call (cx_call hc9 (ent_f hc9.fn rfl) hn0 (show Hp S0 σ0 _ ([] ++ [Ch.ro 0 (Sl alist_0 list_0 clist_0) list_0]) from (H.sel' [0] rfl rfl))) (wanted_yes rfl (by exact (congrArg some hb6))) ?_
      rintro _ σ10 ⟨_, ⟨rfl, rfl⟩, H, -⟩
      replace H : Hp S0 σ0 σ10 [Ch.ro 0 (Sl alist_0 list_0 clist_0) list_0] := H
      refine st_g (v := (B (!r7))) (congrArg some hb6) (rv_not rfl) ?_
      refine st (v := (B (!r7))) (rv_pick_f (congrArg B hb6) rfl) ?_
      refine st (v := (B (!r7))) (rv_move rfl) ?_
      rcases Bool.eq_false_or_eq_true (!r7) with hb11 | hb11
      · replace h := bif_t hb11 h
        refine st_skip (congrArg some hb11) ?_
        refine st_skip (congrArg some hb11) ?_
        refine st_skip (congrArg some hb11) ?_
        refine st (v := (B true)) (rv_pick_t (congrArg B hb11) rfl) ?_
        refine w_end ?_
        obtain rfl := Option.some.inj h
        exact ⟨rfl, _, σ10, fr_join ⟨rfl, rfl, rfl, trivial⟩, rfl, H.sel' [0] rfl rfl⟩
      · replace h := bif_f hb11 h
        refine st_g (v := (Sl alist_0 list_0 clist_0)) (congrArg some hb11) (rv_move rfl) ?_
        refine st_g (v := (I (list_0.length : Int))) (congrArg some hb11) (rv_len Try.underlying23 rfl) ?_
        refine st_g (v := (B (decide ((list_0.length : Int) < 2)))) (congrArg some hb11) (rv_lss (a := (list_0.length : Int)) (b := 2) rfl rfl) ?_
        refine st (v := (B (decide ((list_0.length : Int) < 2)))) (rv_pick_f (congrArg B hb11) rfl) ?_
        refine w_end ?_
        obtain rfl := Option.some.inj h
        exact ⟨rfl, _, σ10, fr_join ⟨rfl, rfl, rfl, trivial⟩, rfl, H.sel' [0] rfl rfl⟩
  · clear hj
    have h := h'
    clear h' H
    rintro e a w ⟨rfl, ρ, σ12, rfl, rfl, H⟩
    refine q_then ?_
    refine cd_cond o1 rfl (fun hb13 => ?_) (fun hb13 => ?_)
    · replace h := bif_t hb13 h
      refine c_seq ?_
      refine rg ?_
      refine st (v := (I 0)) (rv_assign rfl) ?_
      refine st (v := (I 0)) (rv_assign rfl) ?_
      refine st (v := (B false)) (rv_assign rfl) ?_
      refine w_end ?_
      refine q_then ?_
      refine c_ret ?_
      refine q_then_r ?_
      obtain rfl := Option.some.inj h
      exact fin_ret (v := (.tuple #[(I 0), (I 0), (B false)])) (results_ok Try.results36 (res_tmp (v := (I 0)) rfl (res_tmp (v := (I 0)) rfl (res_tmp (v := (B false)) rfl res_nil))) rfl) ⟨rfl, rfl⟩ (H.sel' [] rfl rfl)
    · replace h := bif_f hb13 h
      refine c_skip ?_
      refine q_then ?_
      refine c_seq ?_
      refine rg ?_
      refine st (v := (I 0)) (rv_assign rfl) ?_
      refine w_end ?_
      refine q_then ?_
      refine c_seq ?_
      refine rg ?_
      refine st (v := (I 1)) (rv_assign rfl) ?_
      refine w_end ?_
      refine q_then ?_
      refine c_seq ?_
      refine c_seq ?_
      refine rg ?_
      refine st (v := (I 0)) (rv_assign rfl) ?_
      refine w_end ?_
      refine q_then ?_
      obtain ⟨o14, hj, h'⟩ := bind_some h
      clear h
      refine c_cut (fun e a w => e = .normal ∧ ∃ (ρ : Nat → Value) (σ : St), a = fr 75 (updL ρ [(0, (Sl alist_0 list_0 clist_0)), (7, (I o14.1)), (8, (I o14.2))]) ∧ w = σ.w ∧ Hp S0 σ0 σ [Ch.ro 0 (Sl alist_0 list_0 clist_0) list_0]) ?_ ?_
      · clear h'
        rename _ = some o14 => h
        refine c_blk ?_
        refine wp_loopM _ h (fun s15 a w => ∃ (ρ : Nat → Value) (σ : St), a = fr 75 (updL ρ [(0, (Sl alist_0 list_0 clist_0)), (1, (I kind_1)), (7, (I s15.1)), (8, (I s15.2.1)), (9, (I s15.2.2))]) ∧ w = σ.w ∧ Hp S0 σ0 σ [Ch.ro 0 (Sl alist_0 list_0 clist_0) list_0]) ⟨_, σ12, fr_join ⟨rfl, rfl, rfl, rfl, rfl, trivial⟩, rfl, H.sel' [0] rfl rfl⟩ ?_
        clear h H
        rintro s15 a w o ⟨ρ, σ16, rfl, rfl, H⟩ h hres
        refine c_seq ?_
        refine c_seq ?_
        refine rg ?_
        refine st (v := (I s15.2.2)) (rv_move rfl) ?_
        refine st (v := (Sl alist_0 list_0 clist_0)) (rv_move rfl) ?_
        refine st (v := (I (list_0.length : Int))) (rv_len Try.underlying23 rfl) ?_
        refine st (v := (B (decide (s15.2.2 < (list_0.length : Int))))) (rv_lss (a := s15.2.2) (b := (list_0.length : Int)) rfl rfl) ?_
        refine w_end ?_
        refine q_then ?_
        refine cd_cond (decide (s15.2.2 < (list_0.length : Int))) rfl (fun hb17 => ?_) (fun hb17 => ?_)
        · replace h := bif_t hb17 h
          refine c_skip ?_
          refine q_then ?_
          refine c_seq ?_
          refine c_blk ?_
          refine c_seq ?_
          refine rg ?_
          refine st (v := (I s15.2.2)) (rv_move rfl) ?_
          refine st (v := (I (w64 (s15.2.2 + 1)))) (rv_add (a := s15.2.2) (b := 1) rfl rfl) ?_
          refine st (v := (I (w64 (s15.2.2 + 1)))) (rv_assign rfl) ?_
          refine w_end ?_
          refine q_then ?_
          obtain ⟨o18, hj, h'⟩ := bind_some h
          clear h
          refine c_cut (fun e a w => e = .normal ∧ ∃ (ρ : Nat → Value) (σ : St), a = fr 75 (updL ρ [(0, (Sl alist_0 list_0 clist_0)), (1, (I kind_1)), (7, (I o18.1)), (8, (I o18.2)), (9, (I s15.2.2))]) ∧ w = σ.w ∧ Hp S0 σ0 σ [Ch.ro 0 (Sl alist_0 list_0 clist_0) list_0]) ?_ ?_
          · clear h'
            rename _ = some o18 => h
            refine c_blk ?_
            refine wp_loopM _ h (fun s19 a w => ∃ (ρ : Nat → Value) (σ : St), a = fr 75 (updL ρ [(0, (Sl alist_0 list_0 clist_0)), (1, (I kind_1)), (7, (I s19.1)), (8, (I s19.2.1)), (9, (I s15.2.2)), (10, (I s19.2.2))]) ∧ w = σ.w ∧ Hp S0 σ0 σ [Ch.ro 0 (Sl alist_0 list_0 clist_0) list_0]) ⟨_, σ16, fr_join ⟨rfl, rfl, rfl, rfl, rfl, rfl, trivial⟩, rfl, H.sel' [0] rfl rfl⟩ ?_
            clear h H
            rintro s19 a w o ⟨ρ, σ20, rfl, rfl, H⟩ h hres
            refine c_seq ?_
            refine c_seq ?_
            refine rg ?_
            refine st (v := (I s19.2.2)) (rv_move rfl) ?_
            refine st (v := (Sl alist_0 list_0 clist_0)) (rv_move rfl) ?_
            refine st (v := (I (list_0.length : Int))) (rv_len Try.underlying23 rfl) ?_
            refine st (v := (B (decide (s19.2.2 < (list_0.length : Int))))) (rv_lss (a := s19.2.2) (b := (list_0.length : Int)) rfl rfl) ?_
            refine w_end ?_
            refine q_then ?_
            refine cd_cond (decide (s19.2.2 < (list_0.length : Int))) rfl (fun hb21 => ?_) (fun hb21 => ?_)
            · replace h := bif_t hb21 h
              refine c_skip ?_
              refine q_then ?_
              refine c_seq ?_
              obtain ⟨o22, hj, h'⟩ := bind_some h
              clear h
              refine c_cut (fun e a w => e = .normal ∧ ∃ (ρ : Nat → Value) (σ : St), a = fr 75 (updL ρ [(0, (Sl alist_0 list_0 clist_0)), (1, (I kind_1)), (7, (I o22.1)), (8, (I o22.2)), (9, (I s15.2.2)), (10, (I s19.2.2))]) ∧ w = σ.w ∧ Hp S0 σ0 σ [Ch.ro 0 (Sl alist_0 list_0 clist_0) list_0]) ?_ ?_
              · clear h'
                rename _ = some o22 => h
                refine c_blk ?_
                refine c_seq ?_
                obtain ⟨x23, hx24, h'⟩ := bind_some h
                clear h
                have h := h'; clear h'
                obtain ⟨b26, o27, hi25, -⟩ := (H.ro 0 rfl).ix hx24
                obtain ⟨v31, hc32, hR30⟩ := ((H.ro 0 rfl).at hx24 hi25).snd.fst.slice
                obtain ⟨a28, c29, rfl⟩ := hR30.isSl
                replace H := H.add (d := Ch.ro 0 (Sl a28 x23.2.1 c29) x23.2.1) hR30 (fun _ h => h)
                clear hR30
                obtain ⟨x33, hx34, h'⟩ := bind_some h
                clear h
                have h := h'; clear h'
                obtain ⟨b36, o37, hi35, -⟩ := (H.ro 1 rfl).ix hx34
                obtain ⟨v41, hc42, hR40⟩ := ((H.ro 1 rfl).at hx34 hi35).snd.fst.slice
                obtain ⟨a38, c39, rfl⟩ := hR40.isSl
                replace H := H.add (d := Ch.ro 0 (Sl a38 x33.2.1 c39) x33.2.1) hR40 (fun _ h => h)
                clear hR40
                obtain ⟨r43, hx44, h'⟩ := bind_some h
                clear h
                have h := h'; clear h'
                have hc45 := c_spec_dist (aa_1 := a28) (ca_1 := c29) (ab_2 := a38) (cb_2 := c39) hx44
                obtain ⟨x46, hx47, h'⟩ := bind_some h
                clear h
                have h := h'; clear h'
                obtain ⟨b49, o50, hi48, -⟩ := (H.ro 2 rfl).ix hx47
                obtain ⟨v54, hc55, hR53⟩ := ((H.ro 2 rfl).at hx47 hi48).snd.fst.slice
                obtain ⟨a51, c52, rfl⟩ := hR53.isSl
                replace H := H.add (d := Ch.ro 0 (Sl a51 x46.2.1 c52) x46.2.1) hR53 (fun _ h => h)
                clear hR53
                obtain ⟨x56, hx57, h'⟩ := bind_some h
                clear h
                have h := h'; clear h'
                obtain ⟨b59, o60, hi58, -⟩ := (H.ro 3 rfl).ix hx57
                obtain ⟨v64, hc65, hR63⟩ := ((H.ro 3 rfl).at hx57 hi58).snd.fst.slice
                obtain ⟨a61, c62, rfl⟩ := hR63.isSl
                replace H := H.add (d := Ch.ro 0 (Sl a61 x56.2.1 c62) x56.2.1) hR63 (fun _ h => h)
                clear hR63
                have Hs := H
                refine rg2 (σ := σ20) (Nm := Unit) 23 [11] [[false], [true]] [[(0, 0)], [(0, 0)], [(0, 0)], [(0, 0)], [(0, 0)], [(0, 0)], [(0, 0)], [(0, 0)], [(0, 0)], [(0, 0)], [(0, 0)], [(0, 1)], [(0, 0), (1, 1)], [(0, 0), (1, 1)], [(0, 0), (1, 1)], [(0, 0), (1, 1)], [(0, 0), (1, 1)], [(0, 0), (1, 1)], [(0, 0), (1, 1)], [(0, 0), (1, 1)], [(0, 0), (1, 1)], [(0, 0), (1, 1)], [(0, 0), (1, 1)]] 1 [fun (_nm : Unit) => fun σm => Hp S0 σ0 σm [Ch.ro 0 (Sl a61 x56.2.1 c62) x56.2.1, Ch.ro 0 (Sl a51 x46.2.1 c52) x46.2.1, Ch.ro 0 (Sl a38 x33.2.1 c39) x33.2.1, Ch.ro 0 (Sl a28 x23.2.1 c29) x23.2.1, Ch.ro 0 (Sl alist_0 list_0 clist_0) list_0] ∧ Md (cov []) σ20 σm, fun (_nm : Unit) => fun σm => Hp S0 σ0 σm [Ch.ro 0 (Sl a61 x56.2.1 c62) x56.2.1, Ch.ro 0 (Sl a51 x46.2.1 c52) x46.2.1, Ch.ro 0 (Sl a38 x33.2.1 c39) x33.2.1, Ch.ro 0 (Sl a28 x23.2.1 c29) x23.2.1, Ch.ro 0 (Sl alist_0 list_0 clist_0) list_0] ∧ Md (cov []) σ20 σm] [fun (_nm : Unit) => (I kind_1), fun (_nm : Unit) => (Sl alist_0 list_0 clist_0), fun (_nm : Unit) => (I s15.2.2), fun (_nm : Unit) => (pt b26 o27), fun (_nm : Unit) => (pt b26 (o27 + 1)), fun (_nm : Unit) => (Sl a28 x23.2.1 c29), fun (_nm : Unit) => (Sl alist_0 list_0 clist_0), fun (_nm : Unit) => (I s19.2.2), fun (_nm : Unit) => (pt b36 o37), fun (_nm : Unit) => (pt b36 (o37 + 1)), fun (_nm : Unit) => (Sl a38 x33.2.1 c39), fun (_nm : Unit) => (I r43), fun (_nm : Unit) => (I kind_1), fun (_nm : Unit) => (Sl alist_0 list_0 clist_0), fun (_nm : Unit) => (I s19.1), fun (_nm : Unit) => (pt b49 o50), fun (_nm : Unit) => (pt b49 (o50 + 1)), fun (_nm : Unit) => (Sl a51 x46.2.1 c52), fun (_nm : Unit) => (Sl alist_0 list_0 clist_0), fun (_nm : Unit) => (I s19.2.1), fun (_nm : Unit) => (pt b59 o60), fun (_nm : Unit) => (pt b59 (o60 + 1)), fun (_nm : Unit) => (Sl a61 x56.2.1 c62)] () (by kernel_rfl) (by kernel_rfl) ?_ ?_ ?_
                · intro σm m0
                  exact ⟨H.grow (m0.mono fun _ h => h.elim), m0⟩
                · refine all_cons (obs_v rfl (by
                      intro k; intro _nm ρ σm hJ hoff hdep
                      have e1 : look 75 ρ 1 = (I kind_1) := look_off (hoff 1 rfl) rfl
                      exact dp_v (v := (I kind_1)) (wanted_none _ rfl _) (rv_move e1) rfl hJ)) ?_
                  refine all_cons (obs_v rfl (by
                      intro k; intro _nm ρ σm hJ hoff hdep
                      have e0 : look 75 ρ 0 = (Sl alist_0 list_0 clist_0) := look_off (hoff 0 rfl) rfl
                      exact dp_v (v := (Sl alist_0 list_0 clist_0)) (wanted_none _ rfl _) (rv_move e0) rfl hJ)) ?_
                  refine all_cons (obs_v rfl (by
                      intro k; intro _nm ρ σm hJ hoff hdep
                      have e9 : look 75 ρ 9 = (I s15.2.2) := look_off (hoff 9 rfl) rfl
                      exact dp_v (v := (I s15.2.2)) (wanted_none _ rfl _) (rv_move e9) rfl hJ)) ?_
                  refine all_cons (obs_v rfl (by
                      intro k; intro _nm ρ σm hJ hoff hdep
                      have e39 : look 75 ρ 39 = (Sl alist_0 list_0 clist_0) := hdep 1 rfl rfl 39 rfl
                      have e40 : look 75 ρ 40 = (I s15.2.2) := hdep 2 rfl rfl 40 rfl
                      exact dp_v (v := (pt b26 o27)) (wanted_none _ rfl _) (rv_ix Try.underlying23 ti38 e39 e40 hi25) rfl hJ)) ?_
                  refine all_cons (obs_v rfl (by
                      intro k; intro _nm ρ σm hJ hoff hdep
                      have e41 : look 75 ρ 41 = (pt b26 o27) := hdep 3 rfl rfl 41 rfl
                      exact dp_v (v := (pt b26 (o27 + 1))) (wanted_none _ rfl _) (rv_fieldAddr (off := 1) (ft := 25) Try.underlying38 rfl ti25 rfl e41) rfl hJ)) ?_
                  refine all_cons (by
                      refine ⟨?_, ?_⟩
                      · intro _nm ρ σm hJ hoff hdep
                        have e42 : look 75 ρ 42 = (pt b26 (o27 + 1)) := hdep 4 rfl rfl 42 rfl
                        obtain ⟨H, m⟩ := (show Hp S0 σ0 σm [Ch.ro 0 (Sl a61 x56.2.1 c62) x56.2.1, Ch.ro 0 (Sl a51 x46.2.1 c52) x46.2.1, Ch.ro 0 (Sl a38 x33.2.1 c39) x33.2.1, Ch.ro 0 (Sl a28 x23.2.1 c29) x23.2.1, Ch.ro 0 (Sl alist_0 list_0 clist_0) list_0] ∧ Md (cov []) σ20 σm from hJ)
                        replace hc32 := (Hs.ro 4 rfl).hmd hx24 hi25 (k := 1) (by decide) hc32 m
                        exact dp_v (v := (Sl a28 x23.2.1 c29)) (wanted_none _ rfl _) (rv_load1 Try.underlying25 rfl e42 hc32) rfl hJ
                      trivial) ?_
                  refine all_cons (obs_v rfl (by
                      intro k; intro _nm ρ σm hJ hoff hdep
                      have e0 : look 75 ρ 0 = (Sl alist_0 list_0 clist_0) := look_off (hoff 0 rfl) rfl
                      exact dp_v (v := (Sl alist_0 list_0 clist_0)) (wanted_none _ rfl _) (rv_move e0) rfl hJ)) ?_
                  refine all_cons (obs_v rfl (by
                      intro k; intro _nm ρ σm hJ hoff hdep
                      have e10 : look 75 ρ 10 = (I s19.2.2) := look_off (hoff 10 rfl) rfl
                      exact dp_v (v := (I s19.2.2)) (wanted_none _ rfl _) (rv_move e10) rfl hJ)) ?_
                  refine all_cons (obs_v rfl (by
                      intro k; intro _nm ρ σm hJ hoff hdep
                      have e44 : look 75 ρ 44 = (Sl alist_0 list_0 clist_0) := hdep 6 rfl rfl 44 rfl
                      have e45 : look 75 ρ 45 = (I s19.2.2) := hdep 7 rfl rfl 45 rfl
                      exact dp_v (v := (pt b36 o37)) (wanted_none _ rfl _) (rv_ix Try.underlying23 ti38 e44 e45 hi35) rfl hJ)) ?_
                  refine all_cons (obs_v rfl (by
                      intro k; intro _nm ρ σm hJ hoff hdep
                      have e46 : look 75 ρ 46 = (pt b36 o37) := hdep 8 rfl rfl 46 rfl
                      exact dp_v (v := (pt b36 (o37 + 1))) (wanted_none _ rfl _) (rv_fieldAddr (off := 1) (ft := 25) Try.underlying38 rfl ti25 rfl e46) rfl hJ)) ?_
                  refine all_cons (by
                      refine ⟨?_, ?_⟩
                      · intro _nm ρ σm hJ hoff hdep
                        have e47 : look 75 ρ 47 = (pt b36 (o37 + 1)) := hdep 9 rfl rfl 47 rfl
                        obtain ⟨H, m⟩ := (show Hp S0 σ0 σm [Ch.ro 0 (Sl a61 x56.2.1 c62) x56.2.1, Ch.ro 0 (Sl a51 x46.2.1 c52) x46.2.1, Ch.ro 0 (Sl a38 x33.2.1 c39) x33.2.1, Ch.ro 0 (Sl a28 x23.2.1 c29) x23.2.1, Ch.ro 0 (Sl alist_0 list_0 clist_0) list_0] ∧ Md (cov []) σ20 σm from hJ)
                        replace hc42 := (Hs.ro 4 rfl).hmd hx34 hi35 (k := 1) (by decide) hc42 m
                        exact dp_v (v := (Sl a38 x33.2.1 c39)) (wanted_none _ rfl _) (rv_load1 Try.underlying25 rfl e47 hc42) rfl hJ
                      trivial) ?_
                  refine all_cons (by
                      refine ⟨?_, ?_⟩
                      · intro _nm ρ σm hJ hoff hdep
                        have e38 : look 75 ρ 38 = (I kind_1) := hdep 0 rfl rfl 38 rfl
                        have e43 : look 75 ρ 43 = (Sl a28 x23.2.1 c29) := hdep 5 rfl rfl 43 rfl
                        have e48 : look 75 ρ 48 = (Sl a38 x33.2.1 c39) := hdep 10 rfl rfl 48 rfl
                        obtain ⟨H, m⟩ := (show Hp S0 σ0 σm [Ch.ro 0 (Sl a61 x56.2.1 c62) x56.2.1, Ch.ro 0 (Sl a51 x46.2.1 c52) x46.2.1, Ch.ro 0 (Sl a38 x33.2.1 c39) x33.2.1, Ch.ro 0 (Sl a28 x23.2.1 c29) x23.2.1, Ch.ro 0 (Sl alist_0 list_0 clist_0) list_0] ∧ Md (cov []) σ20 σm from hJ)
                        refine dp_cx (wanted_none _ rfl _) (cx_call hc45 (ent_f hc45.fn (by show [look 75 ρ 38, look 75 ρ 43, look 75 ρ 48] = _; rw [e38, e43, e48])) hn0 (show Hp S0 σ0 _ ([Ch.ro 0 (Sl a28 x23.2.1 c29) x23.2.1, Ch.ro 0 (Sl a38 x33.2.1 c39) x33.2.1] ++ [Ch.ro 0 (Sl a61 x56.2.1 c62) x56.2.1, Ch.ro 0 (Sl a51 x46.2.1 c52) x46.2.1, Ch.ro 0 (Sl a38 x33.2.1 c39) x33.2.1, Ch.ro 0 (Sl a28 x23.2.1 c29) x23.2.1, Ch.ro 0 (Sl alist_0 list_0 clist_0) list_0]) from (H.sel' [3, 2, 0, 1, 2, 3, 4] rfl rfl))) ?_
                        rintro _ σq ⟨_, ⟨rfl, rfl⟩, H2, m2⟩
                        exact ⟨_, (), rfl, rfl, ⟨H2.sel' [0, 1, 2, 3, 4] rfl rfl, m.comp0 (m2.mono (fun i h => by simp [cov, Ch.ro] at h))⟩, stab [0, 1, 2, 3, 4, 5, 6, 7, 8, 9, 10, 12, 13, 14, 15, 16, 17, 18, 19, 20, 21, 22] (by kernel_rfl) ⟨rfl, rfl, rfl, rfl, rfl, rfl, rfl, rfl, rfl, rfl, rfl, rfl, rfl, rfl, rfl, rfl, rfl, rfl, rfl, rfl, rfl, rfl, trivial⟩⟩
                      trivial) ?_
                  refine all_cons (obs_v rfl (by
                      intro k; intro _nm ρ σm hJ hoff hdep
                      have e1 : look 75 ρ 1 = (I kind_1) := look_off (hoff 1 rfl) rfl
                      exact dp_v (v := (I kind_1)) (wanted_none _ rfl _) (rv_move e1) rfl hJ)) ?_
                  refine all_cons (obs_v rfl (by
                      intro k; intro _nm ρ σm hJ hoff hdep
                      have e0 : look 75 ρ 0 = (Sl alist_0 list_0 clist_0) := look_off (hoff 0 rfl) rfl
                      exact dp_v (v := (Sl alist_0 list_0 clist_0)) (wanted_none _ rfl _) (rv_move e0) rfl hJ)) ?_
                  refine all_cons (obs_v rfl (by
                      intro k; intro _nm ρ σm hJ hoff hdep
                      have e7 : look 75 ρ 7 = (I s19.1) := look_off (hoff 7 rfl) rfl
                      exact dp_v (v := (I s19.1)) (wanted_none _ rfl _) (rv_move e7) rfl hJ)) ?_
                  refine all_cons (obs_v rfl (by
                      intro k; intro _nm ρ σm hJ hoff hdep
                      have e51 : look 75 ρ 51 = (Sl alist_0 list_0 clist_0) := hdep 13 rfl rfl 51 rfl
                      have e52 : look 75 ρ 52 = (I s19.1) := hdep 14 rfl rfl 52 rfl
                      exact dp_v (v := (pt b49 o50)) (wanted_none _ rfl _) (rv_ix Try.underlying23 ti38 e51 e52 hi48) rfl hJ)) ?_
                  refine all_cons (obs_v rfl (by
                      intro k; intro _nm ρ σm hJ hoff hdep
                      have e53 : look 75 ρ 53 = (pt b49 o50) := hdep 15 rfl rfl 53 rfl
                      exact dp_v (v := (pt b49 (o50 + 1))) (wanted_none _ rfl _) (rv_fieldAddr (off := 1) (ft := 25) Try.underlying38 rfl ti25 rfl e53) rfl hJ)) ?_
                  refine all_cons (by
                      refine ⟨?_, ?_⟩
                      · intro _nm ρ σm hJ hoff hdep
                        have e54 : look 75 ρ 54 = (pt b49 (o50 + 1)) := hdep 16 rfl rfl 54 rfl
                        obtain ⟨H, m⟩ := (show Hp S0 σ0 σm [Ch.ro 0 (Sl a61 x56.2.1 c62) x56.2.1, Ch.ro 0 (Sl a51 x46.2.1 c52) x46.2.1, Ch.ro 0 (Sl a38 x33.2.1 c39) x33.2.1, Ch.ro 0 (Sl a28 x23.2.1 c29) x23.2.1, Ch.ro 0 (Sl alist_0 list_0 clist_0) list_0] ∧ Md (cov []) σ20 σm from hJ)
                        replace hc55 := (Hs.ro 4 rfl).hmd hx47 hi48 (k := 1) (by decide) hc55 m
                        exact dp_v (v := (Sl a51 x46.2.1 c52)) (wanted_none _ rfl _) (rv_load1 Try.underlying25 rfl e54 hc55) rfl hJ
                      refine ⟨?_, ?_⟩
                      · intro _nm ρ σm hJ hoff hdep
                        have e54 : look 75 ρ 54 = (pt b49 (o50 + 1)) := hdep 16 rfl rfl 54 rfl
                        obtain ⟨H, m⟩ := (show Hp S0 σ0 σm [Ch.ro 0 (Sl a61 x56.2.1 c62) x56.2.1, Ch.ro 0 (Sl a51 x46.2.1 c52) x46.2.1, Ch.ro 0 (Sl a38 x33.2.1 c39) x33.2.1, Ch.ro 0 (Sl a28 x23.2.1 c29) x23.2.1, Ch.ro 0 (Sl alist_0 list_0 clist_0) list_0] ∧ Md (cov []) σ20 σm from hJ)
                        replace hc55 := (Hs.ro 4 rfl).hmd hx47 hi48 (k := 1) (by decide) hc55 m
                        exact dp_v (v := (Sl a51 x46.2.1 c52)) (wanted_none _ rfl _) (rv_load1 Try.underlying25 rfl e54 hc55) rfl hJ
                      trivial) ?_
                  refine all_cons (obs_v rfl (by
                      intro k; intro _nm ρ σm hJ hoff hdep
                      have e0 : look 75 ρ 0 = (Sl alist_0 list_0 clist_0) := look_off (hoff 0 rfl) rfl
                      exact dp_v (v := (Sl alist_0 list_0 clist_0)) (wanted_none _ rfl _) (rv_move e0) rfl hJ)) ?_
                  refine all_cons (obs_v rfl (by
                      intro k; intro _nm ρ σm hJ hoff hdep
                      have e8 : look 75 ρ 8 = (I s19.2.1) := look_off (hoff 8 rfl) rfl
                      exact dp_v (v := (I s19.2.1)) (wanted_none _ rfl _) (rv_move e8) rfl hJ)) ?_
                  refine all_cons (obs_v rfl (by
                      intro k; intro _nm ρ σm hJ hoff hdep
                      have e56 : look 75 ρ 56 = (Sl alist_0 list_0 clist_0) := hdep 18 rfl rfl 56 rfl
                      have e57 : look 75 ρ 57 = (I s19.2.1) := hdep 19 rfl rfl 57 rfl
                      exact dp_v (v := (pt b59 o60)) (wanted_none _ rfl _) (rv_ix Try.underlying23 ti38 e56 e57 hi58) rfl hJ)) ?_
                  refine all_cons (obs_v rfl (by
                      intro k; intro _nm ρ σm hJ hoff hdep
                      have e58 : look 75 ρ 58 = (pt b59 o60) := hdep 20 rfl rfl 58 rfl
                      exact dp_v (v := (pt b59 (o60 + 1))) (wanted_none _ rfl _) (rv_fieldAddr (off := 1) (ft := 25) Try.underlying38 rfl ti25 rfl e58) rfl hJ)) ?_
                  refine all_cons (by
                      refine ⟨?_, ?_⟩
                      · intro _nm ρ σm hJ hoff hdep
                        have e59 : look 75 ρ 59 = (pt b59 (o60 + 1)) := hdep 21 rfl rfl 59 rfl
                        obtain ⟨H, m⟩ := (show Hp S0 σ0 σm [Ch.ro 0 (Sl a61 x56.2.1 c62) x56.2.1, Ch.ro 0 (Sl a51 x46.2.1 c52) x46.2.1, Ch.ro 0 (Sl a38 x33.2.1 c39) x33.2.1, Ch.ro 0 (Sl a28 x23.2.1 c29) x23.2.1, Ch.ro 0 (Sl alist_0 list_0 clist_0) list_0] ∧ Md (cov []) σ20 σm from hJ)
                        replace hc65 := (Hs.ro 4 rfl).hmd hx57 hi58 (k := 1) (by decide) hc65 m
                        exact dp_v (v := (Sl a61 x56.2.1 c62)) (wanted_none _ rfl _) (rv_load1 Try.underlying25 rfl e59 hc65) rfl hJ
                      refine ⟨?_, ?_⟩
                      · intro _nm ρ σm hJ hoff hdep
                        have e59 : look 75 ρ 59 = (pt b59 (o60 + 1)) := hdep 21 rfl rfl 59 rfl
                        obtain ⟨H, m⟩ := (show Hp S0 σ0 σm [Ch.ro 0 (Sl a61 x56.2.1 c62) x56.2.1, Ch.ro 0 (Sl a51 x46.2.1 c52) x46.2.1, Ch.ro 0 (Sl a38 x33.2.1 c39) x33.2.1, Ch.ro 0 (Sl a28 x23.2.1 c29) x23.2.1, Ch.ro 0 (Sl alist_0 list_0 clist_0) list_0] ∧ Md (cov []) σ20 σm from hJ)
                        replace hc65 := (Hs.ro 4 rfl).hmd hx57 hi58 (k := 1) (by decide) hc65 m
                        exact dp_v (v := (Sl a61 x56.2.1 c62)) (wanted_none _ rfl _) (rv_load1 Try.underlying25 rfl e59 hc65) rfl hJ
                      trivial) ?_
                  exact all_nil
                · intro _nm ρ σ66 hJ hoff hrel
                  have e0 : look 75 ρ 0 = (Sl alist_0 list_0 clist_0) := look_off (hoff 0 rfl) rfl
                  have e1 : look 75 ρ 1 = (I kind_1) := look_off (hoff 1 rfl) rfl
                  have e7 : look 75 ρ 7 = (I s19.1) := look_off (hoff 7 rfl) rfl
                  have e8 : look 75 ρ 8 = (I s19.2.1) := look_off (hoff 8 rfl) rfl
                  have e9 : look 75 ρ 9 = (I s15.2.2) := look_off (hoff 9 rfl) rfl
                  have e10 : look 75 ρ 10 = (I s19.2.2) := look_off (hoff 10 rfl) rfl
                  have e49 : look 75 ρ 49 = (I r43) := hrel 11 rfl 49 rfl
                  have e50 : look 75 ρ 50 = (I kind_1) := hrel 12 rfl 50 rfl
                  have e55 : look 75 ρ 55 = (Sl a51 x46.2.1 c52) := hrel 17 rfl 55 rfl
                  have e60 : look 75 ρ 60 = (Sl a61 x56.2.1 c62) := hrel 22 rfl 60 rfl
                  obtain ⟨H, -⟩ := (show Hp S0 σ0 σ66 [Ch.ro 0 (Sl a61 x56.2.1 c62) x56.2.1, Ch.ro 0 (Sl a51 x46.2.1 c52) x46.2.1, Ch.ro 0 (Sl a38 x33.2.1 c39) x33.2.1, Ch.ro 0 (Sl a28 x23.2.1 c29) x23.2.1, Ch.ro 0 (Sl alist_0 list_0 clist_0) list_0] ∧ Md (cov []) σ20 σ66 from hJ)
                  clear hJ Hs
                  rw [fr_lookL (L := [(0, (Sl alist_0 list_0 clist_0)), (1, (I kind_1)), (7, (I s19.1)), (8, (I s19.2.1)), (9, (I s15.2.2)), (10, (I s19.2.2)), (49, (I r43)), (50, (I kind_1)), (55, (Sl a51 x46.2.1 c52)), (60, (Sl a61 x56.2.1 c62))]) ⟨e0, e1, e7, e8, e9, e10, e49, e50, e55, e60, trivial⟩]
                  clear hoff hrel e0 e1 e7 e8 e9 e10 e49 e50 e55 e60
                  obtain ⟨r67, hx68, h'⟩ := bind_some h
                  clear h
                  have h := h'; clear h'
                  have hc69 := c_spec_dist (aa_1 := a51) (ca_1 := c52) (ab_2 := a61) (cb_2 := c62) hx68
                  refine st_call (cx_call hc69 (ent_f hc69.fn rfl) hn0 (show Hp S0 σ0 _ ([Ch.ro 0 (Sl a51 x46.2.1 c52) x46.2.1, Ch.ro 0 (Sl a61 x56.2.1 c62) x56.2.1] ++ [Ch.ro 0 (Sl a61 x56.2.1 c62) x56.2.1, Ch.ro 0 (Sl a51 x46.2.1 c52) x46.2.1, Ch.ro 0 (Sl a38 x33.2.1 c39) x33.2.1, Ch.ro 0 (Sl a28 x23.2.1 c29) x23.2.1, Ch.ro 0 (Sl alist_0 list_0 clist_0) list_0]) from (H.sel' [1, 0, 0, 1, 2, 3, 4] rfl rfl))) (wanted_none _ rfl _) ?_
                  rintro _ σ70 ⟨_, ⟨rfl, rfl⟩, H, -⟩
                  replace H : Hp S0 σ0 σ70 [Ch.ro 0 (Sl a61 x56.2.1 c62) x56.2.1, Ch.ro 0 (Sl a51 x46.2.1 c52) x46.2.1, Ch.ro 0 (Sl a38 x33.2.1 c39) x33.2.1, Ch.ro 0 (Sl a28 x23.2.1 c29) x23.2.1, Ch.ro 0 (Sl alist_0 list_0 clist_0) list_0] := H
                  refine st (v := (B (decide (r43 < r67)))) (rv_lss (a := r43) (b := r67) rfl rfl) ?_
                  refine w_end ?_
                  refine q_then ?_
                  refine cd_cond (decide (r43 < r67)) rfl (fun hb71 => ?_) (fun hb71 => ?_)
                  · replace h := bif_t hb71 h
                    refine c_seq ?_
                    refine rg ?_
                    refine st (v := (I s15.2.2)) (rv_move rfl) ?_
                    refine st (v := (I s15.2.2)) (rv_assign rfl) ?_
                    refine w_end ?_
                    refine q_then ?_
                    refine rg ?_
                    refine st (v := (I s19.2.2)) (rv_move rfl) ?_
                    refine st (v := (I s19.2.2)) (rv_assign rfl) ?_
                    refine w_end ?_
                    refine q_blk ?_
                    obtain rfl := Option.some.inj h
                    exact ⟨rfl, _, σ70, fr_join ⟨rfl, rfl, rfl, rfl, rfl, rfl, trivial⟩, rfl, H.sel' [4] rfl rfl⟩
                  · replace h := bif_f hb71 h
                    refine c_skip ?_
                    refine q_blk ?_
                    obtain rfl := Option.some.inj h
                    exact ⟨rfl, _, σ70, fr_join ⟨rfl, rfl, rfl, rfl, rfl, rfl, trivial⟩, rfl, H.sel' [4] rfl rfl⟩
              · clear hj
                have h := h'
                clear h' H
                rintro e a w ⟨rfl, ρ, σ72, rfl, rfl, H⟩
                refine q_then ?_
                refine rg ?_
                refine st (v := (I s19.2.2)) (rv_move rfl) ?_
                refine st (v := (I (w64 (s19.2.2 + 1)))) (rv_add (a := s19.2.2) (b := 1) rfl rfl) ?_
                refine st (v := (I (w64 (s19.2.2 + 1)))) (rv_assign rfl) ?_
                refine w_end ?_
                refine q_then ?_
                obtain rfl := Option.some.inj h
                exact ⟨_, rfl, _, σ72, fr_join ⟨rfl, rfl, rfl, rfl, rfl, rfl, trivial⟩, rfl, H.sel' [0] rfl rfl⟩
            · replace h := bif_f hb21 h
              refine c_exit ?_
              refine q_then_x ?_
              refine q_then_x ?_
              refine q_blk_hit ?_
              obtain rfl := Option.some.inj h
              obtain rfl := hres _ rfl
              exact ⟨rfl, _, σ20, fr_join ⟨rfl, rfl, rfl, rfl, rfl, trivial⟩, rfl, H.sel' [0] rfl rfl⟩
          · clear hj
            have h := h'
            clear h' H
            rintro e a w ⟨rfl, ρ, σ73, rfl, rfl, H⟩
            refine q_blk ?_
            refine q_then ?_
            refine rg ?_
            refine st (v := (I s15.2.2)) (rv_move rfl) ?_
            refine st (v := (I (w64 (s15.2.2 + 1)))) (rv_add (a := s15.2.2) (b := 1) rfl rfl) ?_
            refine st (v := (I (w64 (s15.2.2 + 1)))) (rv_assign rfl) ?_
            refine w_end ?_
            refine q_then ?_
            obtain rfl := Option.some.inj h
            exact ⟨_, rfl, _, σ73, fr_join ⟨rfl, rfl, rfl, rfl, rfl, trivial⟩, rfl, H.sel' [0] rfl rfl⟩
        · replace h := bif_f hb17 h
          refine c_exit ?_
          refine q_then_x ?_
          refine q_then_x ?_
          refine q_blk_hit ?_
          obtain rfl := Option.some.inj h
          obtain rfl := hres _ rfl
          exact ⟨rfl, _, σ16, fr_join ⟨rfl, rfl, rfl, trivial⟩, rfl, H.sel' [0] rfl rfl⟩
      · clear hj
        have h := h'
        clear h' H
        rintro e a w ⟨rfl, ρ, σ74, rfl, rfl, H⟩
        refine q_then ?_
        refine c_seq ?_
        obtain ⟨x75, hx76, h'⟩ := bind_some h
        clear h
        have h := h'; clear h'
        obtain ⟨b78, o79, hi77, -⟩ := (H.ro 0 rfl).ix hx76
        have hc80 := ((H.ro 0 rfl).at hx76 hi77).fst.int
        obtain ⟨x81, hx82, h'⟩ := bind_some h
        clear h
        have h := h'; clear h'
        obtain ⟨b84, o85, hi83, -⟩ := (H.ro 0 rfl).ix hx82
        have hc86 := ((H.ro 0 rfl).at hx82 hi83).fst.int
        have Hs := H
        refine rg2 (σ := σ74) (Nm := Unit) 11 [] [[]] [[(0, 0)], [(0, 0)], [(0, 0)], [(0, 0)], [(0, 0)], [(0, 0)], [(0, 0)], [(0, 0)], [(0, 0)], [(0, 0)], [(0, 0)]] 0 [fun (_nm : Unit) => fun σm => Hp S0 σ0 σm [Ch.ro 0 (Sl alist_0 list_0 clist_0) list_0] ∧ Md (cov []) σ74 σm] [fun (_nm : Unit) => (Sl alist_0 list_0 clist_0), fun (_nm : Unit) => (I o14.1), fun (_nm : Unit) => (pt b78 o79), fun (_nm : Unit) => (pt b78 (o79 + 0)), fun (_nm : Unit) => (I x75.1), fun (_nm : Unit) => (Sl alist_0 list_0 clist_0), fun (_nm : Unit) => (I o14.2), fun (_nm : Unit) => (pt b84 o85), fun (_nm : Unit) => (pt b84 (o85 + 0)), fun (_nm : Unit) => (I x81.1), fun (_nm : Unit) => (I x75.1)] () (by kernel_rfl) (by kernel_rfl) ?_ ?_ ?_
        · intro σm m0
          exact ⟨H.grow (m0.mono fun _ h => h.elim), m0⟩
        · refine all_cons (obs_v rfl (by
              intro k; intro _nm ρ σm hJ hoff hdep
              have e0 : look 75 ρ 0 = (Sl alist_0 list_0 clist_0) := look_off (hoff 0 rfl) rfl
              exact dp_v (v := (Sl alist_0 list_0 clist_0)) (wanted_none _ rfl _) (rv_move e0) rfl hJ)) ?_
          refine all_cons (obs_v rfl (by
              intro k; intro _nm ρ σm hJ hoff hdep
              have e7 : look 75 ρ 7 = (I o14.1) := look_off (hoff 7 rfl) rfl
              exact dp_v (v := (I o14.1)) (wanted_none _ rfl _) (rv_move e7) rfl hJ)) ?_
          refine all_cons (obs_v rfl (by
              intro k; intro _nm ρ σm hJ hoff hdep
              have e65 : look 75 ρ 65 = (Sl alist_0 list_0 clist_0) := hdep 0 rfl rfl 65 rfl
              have e66 : look 75 ρ 66 = (I o14.1) := hdep 1 rfl rfl 66 rfl
              exact dp_v (v := (pt b78 o79)) (wanted_none _ rfl _) (rv_ix Try.underlying23 ti38 e65 e66 hi77) rfl hJ)) ?_
          refine all_cons (obs_v rfl (by
              intro k; intro _nm ρ σm hJ hoff hdep
              have e67 : look 75 ρ 67 = (pt b78 o79) := hdep 2 rfl rfl 67 rfl
              exact dp_v (v := (pt b78 (o79 + 0))) (wanted_none _ rfl _) (rv_fieldAddr (off := 0) (ft := 3) Try.underlying38 rfl ti3 rfl e67) rfl hJ)) ?_
          refine all_cons (by
              refine ⟨?_, ?_⟩
              · intro _nm ρ σm hJ hoff hdep
                have e68 : look 75 ρ 68 = (pt b78 (o79 + 0)) := hdep 3 rfl rfl 68 rfl
                obtain ⟨H, m⟩ := (show Hp S0 σ0 σm [Ch.ro 0 (Sl alist_0 list_0 clist_0) list_0] ∧ Md (cov []) σ74 σm from hJ)
                replace hc80 := (Hs.ro 0 rfl).hmd hx76 hi77 (k := 0) (by decide) hc80 m
                exact dp_v (v := (I x75.1)) (wanted_none _ rfl _) (rv_load1 Try.underlying3 rfl e68 hc80) rfl hJ
              trivial) ?_
          refine all_cons (obs_v rfl (by
              intro k; intro _nm ρ σm hJ hoff hdep
              have e0 : look 75 ρ 0 = (Sl alist_0 list_0 clist_0) := look_off (hoff 0 rfl) rfl
              exact dp_v (v := (Sl alist_0 list_0 clist_0)) (wanted_none _ rfl _) (rv_move e0) rfl hJ)) ?_
          refine all_cons (obs_v rfl (by
              intro k; intro _nm ρ σm hJ hoff hdep
              have e8 : look 75 ρ 8 = (I o14.2) := look_off (hoff 8 rfl) rfl
              exact dp_v (v := (I o14.2)) (wanted_none _ rfl _) (rv_move e8) rfl hJ)) ?_
          refine all_cons (obs_v rfl (by
              intro k; intro _nm ρ σm hJ hoff hdep
              have e70 : look 75 ρ 70 = (Sl alist_0 list_0 clist_0) := hdep 5 rfl rfl 70 rfl
              have e71 : look 75 ρ 71 = (I o14.2) := hdep 6 rfl rfl 71 rfl
              exact dp_v (v := (pt b84 o85)) (wanted_none _ rfl _) (rv_ix Try.underlying23 ti38 e70 e71 hi83) rfl hJ)) ?_
          refine all_cons (obs_v rfl (by
              intro k; intro _nm ρ σm hJ hoff hdep
              have e72 : look 75 ρ 72 = (pt b84 o85) := hdep 7 rfl rfl 72 rfl
              exact dp_v (v := (pt b84 (o85 + 0))) (wanted_none _ rfl _) (rv_fieldAddr (off := 0) (ft := 3) Try.underlying38 rfl ti3 rfl e72) rfl hJ)) ?_
          refine all_cons (by
              refine ⟨?_, ?_⟩
              · intro _nm ρ σm hJ hoff hdep
                have e73 : look 75 ρ 73 = (pt b84 (o85 + 0)) := hdep 8 rfl rfl 73 rfl
                obtain ⟨H, m⟩ := (show Hp S0 σ0 σm [Ch.ro 0 (Sl alist_0 list_0 clist_0) list_0] ∧ Md (cov []) σ74 σm from hJ)
                replace hc86 := (Hs.ro 0 rfl).hmd hx82 hi83 (k := 0) (by decide) hc86 m
                exact dp_v (v := (I x81.1)) (wanted_none _ rfl _) (rv_load1 Try.underlying3 rfl e73 hc86) rfl hJ
              trivial) ?_
          refine all_cons (obs_v rfl (by
              intro k; intro _nm ρ σm hJ hoff hdep
              have e69 : look 75 ρ 69 = (I x75.1) := hdep 4 rfl rfl 69 rfl
              exact dp_v (v := (I x75.1)) (wanted_none _ rfl _) (rv_assign e69) rfl hJ)) ?_
          exact all_nil
        · intro _nm ρ σ87 hJ hoff hrel
          have e4 : look 75 ρ 4 = (I x75.1) := hrel 10 rfl 4 rfl
          have e74 : look 75 ρ 74 = (I x81.1) := hrel 9 rfl 74 rfl
          obtain ⟨H, -⟩ := (show Hp S0 σ0 σ87 [Ch.ro 0 (Sl alist_0 list_0 clist_0) list_0] ∧ Md (cov []) σ74 σ87 from hJ)
          clear hJ Hs
          rw [fr_lookL (L := [(4, (I x75.1)), (74, (I x81.1))]) ⟨e4, e74, trivial⟩]
          clear hoff hrel e4 e74
          refine st (v := (I x81.1)) (rv_assign rfl) ?_
          refine st (v := (B true)) (rv_assign rfl) ?_
          refine w_end ?_
          refine q_then ?_
          refine c_ret ?_
          obtain rfl := Option.some.inj h
          exact fin_ret (v := (.tuple #[(I x75.1), (I x81.1), (B true)])) (results_ok Try.results36 (res_tmp (v := (I x75.1)) rfl (res_tmp (v := (I x81.1)) rfl (res_tmp (v := (B true)) rfl res_nil))) rfl) ⟨rfl, rfl⟩ (H.sel' [] rfl rfl)

theorem c_laws_itemOf {list_0 : List (Int × (List Int) × Int)} {key_1 : Int} {alist_0 : Option Addr} {clist_0 : Nat} {r : (Int × (List Int) × Int)} (h : M.laws_itemOf list_0 key_1 = some r) :
    Cal2 Try.prog 37 [(Sl alist_0 list_0 clist_0), (I key_1)] [Ch.ro 0 (Sl alist_0 list_0 clist_0) list_0] (fun n0 v L => ∃ (az1 : Option Addr), ∃ (cz2 : Nat), v = (.agg #[(I r.1), (Sl az1 r.2.1 cz2), (I r.2.2)]) ∧ L = [Ch.ro 0 (Sl az1 r.2.1 cz2) r.2.1]) := by
  refine cal2 (n := 24) Try.func37 rfl rfl rfl rfl ?_
  intro S0 σ0 n0 hn0 H
  unfold M.laws_itemOf at h
  refine c_seq ?_
  refine rg ?_
  refine st_ex (ex_alloc (cs := [(I 0), (.slice none 0 0), (I 0)]) H hn0 ti38 rfl) (wanted_none _ rfl _) ?_
  rintro _ σ2 ⟨b1, rfl, H, -⟩
  refine w_end ?_
  refine q_then ?_
  refine c_seq ?_
  refine c_seq ?_
  refine rg ?_
  refine st (v := (I 0)) (rv_assign rfl) ?_
  refine w_end ?_
  refine q_then ?_
  obtain ⟨o3, hj, h'⟩ := bind_some h
  clear h
  refine c_cut (fun e a w => (∃ t, o3 = (.inl t) ∧ e = .normal ∧ ∃ (ρ : Nat → Value) (σ : St) (aj1 : Option Addr) (cj2 : Nat), a = fr 24 (updL ρ [(4, (pt b1 0))]) ∧ w = σ.w ∧ Hp S0 σ0 σ [Ch.bx n0 b1 0 [(I t.1), (Sl aj1 t.2.1 cj2), (I t.2.2)] [] [], Ch.own n0 n0 (Sl aj1 t.2.1 cj2) t.2.1]) ∨ (∃ t, o3 = (.inr t) ∧ e = .ret ∧ ∃ (ρ : Nat → Value) (σ : St) (aj1 : Option Addr) (cj2 : Nat), a = fr 24 (updL ρ [(4, (pt b1 0))]) ∧ w = σ.w ∧ Hp S0 σ0 σ [Ch.bx n0 b1 0 [(I t.1), (Sl aj1 t.2.1 cj2), (I t.2.2)] [] [], Ch.ro 0 (Sl aj1 t.2.1 cj2) t.2.1])) ?_ ?_
  · clear h'
    rename _ = some o3 => h
    refine c_blk ?_
    replace H := H.nilOwn Int n0 n0
    refine wp_loopM _ h (fun s4 a w => ∃ (ρ : Nat → Value) (σ : St) (aj1 : Option Addr) (cj2 : Nat), a = fr 24 (updL ρ [(0, (Sl alist_0 list_0 clist_0)), (1, (I key_1)), (4, (pt b1 0)), (5, (I s4.2))]) ∧ w = σ.w ∧ Hp S0 σ0 σ [Ch.bx n0 b1 0 [(I s4.1.1), (Sl aj1 s4.1.2.1 cj2), (I s4.1.2.2)] [] [], Ch.own n0 n0 (Sl aj1 s4.1.2.1 cj2) s4.1.2.1, Ch.ro 0 (Sl alist_0 list_0 clist_0) list_0]) ⟨_, σ2, none, 0, fr_join ⟨rfl, rfl, rfl, rfl, trivial⟩, rfl, H.sel' [1, 0, 2] rfl rfl⟩ ?_
    clear h H
    rintro s4 a w o ⟨ρ, σ5, a6, c7, rfl, rfl, H⟩ h hres
    refine c_seq ?_
    refine c_seq ?_
    refine rg ?_
    refine st (v := (I s4.2)) (rv_move rfl) ?_
    refine st (v := (Sl alist_0 list_0 clist_0)) (rv_move rfl) ?_
    refine st (v := (I (list_0.length : Int))) (rv_len Try.underlying23 rfl) ?_
    refine st (v := (B (decide (s4.2 < (list_0.length : Int))))) (rv_lss (a := s4.2) (b := (list_0.length : Int)) rfl rfl) ?_
    refine w_end ?_
    refine q_then ?_
    refine cd_cond (decide (s4.2 < (list_0.length : Int))) rfl (fun hb8 => ?_) (fun hb8 => ?_)
    · replace h := bif_t hb8 h
      refine c_skip ?_
      refine q_then ?_
      refine c_seq ?_
      refine c_blk ?_
      refine c_seq ?_
      refine rg ?_
      refine st (v := (Sl alist_0 list_0 clist_0)) (rv_move rfl) ?_
      refine st (v := (I s4.2)) (rv_move rfl) ?_
      obtain ⟨x9, hx10, h'⟩ := bind_some h
      clear h
      have h := h'; clear h'
      obtain ⟨b12, o13, hi11, -⟩ := (H.ro 2 rfl).ix hx10
      refine st (v := (pt b12 o13)) (rv_ix Try.underlying23 ti38 rfl rfl hi11) ?_
      refine st (v := (pt b12 (o13 + 0))) (rv_fieldAddr (off := 0) (ft := 3) Try.underlying38 rfl ti3 rfl rfl) ?_
      have hc14 := ((H.ro 2 rfl).at hx10 hi11).fst.int
      refine st (v := (I x9.1)) (rv_load1 Try.underlying3 rfl rfl hc14) ?_
      refine st (v := (I key_1)) (rv_move rfl) ?_
      refine st (v := (B (x9.1 == key_1))) (rv_eql (a := x9.1) (b := key_1) rfl rfl) ?_
      refine w_end ?_
      refine q_then ?_
      refine cd_cond (x9.1 == key_1) rfl (fun hb15 => ?_) (fun hb15 => ?_)
      · replace h := bif_t hb15 h
        refine c_seq ?_
        refine rg ?_
        refine st (v := (Sl alist_0 list_0 clist_0)) (rv_move rfl) ?_
        refine st (v := (I s4.2)) (rv_move rfl) ?_
        obtain ⟨x16, hx17, h'⟩ := bind_some h
        clear h
        have h := h'; clear h'
        obtain ⟨b19, o20, hi18, -⟩ := (H.ro 2 rfl).ix hx17
        refine st (v := (pt b19 o20)) (rv_ix Try.underlying23 ti38 rfl rfl hi18) ?_
        obtain ⟨_, ⟨_, _, rfl, rfl, ⟨_, _, rfl, ⟨_, rfl, hR25⟩, rfl⟩⟩, hl21, hc22⟩ := ((H.ro 2 rfl).at hx17 hi18).cells
        obtain ⟨a23, c24, rfl⟩ := hR25.isSl
        replace H := H.add (d := Ch.ro 0 (Sl a23 x16.2.1 c24) x16.2.1) hR25 (fun _ h => h)
        clear hR25
        refine st (v := (.agg #[(I x16.1), (Sl a23 x16.2.1 c24), (I x16.2.2)])) (rv_load Try.underlying38 rfl ti38 rfl hl21 hc22) ?_
        refine st_exS (ex_store_box (k := 0) (cs := [(I s4.1.1), (Sl a6 s4.1.2.1 c7), (I s4.1.2.2)]) (vs := [(I x16.1), (Sl a23 x16.2.1 c24), (I x16.2.2)]) (cs' := [(I x16.1), (Sl a23 x16.2.1 c24), (I x16.2.2)]) H (i := 1) rfl ti38 rfl rfl rfl rfl rfl (Nat.le_of_ble_eq_true rfl) (by simp [plain]) rfl) (wanted_none _ rfl _) ?_
        rintro σ26 ⟨H, -⟩
        refine w_end ?_
        refine q_then ?_
        refine c_ret ?_
        refine q_blk_r ?_
        refine q_then_r ?_
        refine q_then_r ?_
        refine q_blk_r ?_
        obtain rfl := Option.some.inj h
        obtain rfl := hres _ rfl
        exact .inr (⟨_, rfl, rfl, _, σ26, a23, c24, fr_join ⟨rfl, trivial⟩, rfl, H.sel' [0, 1] rfl rfl⟩)
      · replace h := bif_f hb15 h
        refine c_skip ?_
        refine q_blk ?_
        refine q_then ?_
        refine rg ?_
        refine st (v := (I s4.2)) (rv_move rfl) ?_
        refine st (v := (I (w64 (s4.2 + 1)))) (rv_add (a := s4.2) (b := 1) rfl rfl) ?_
        refine st (v := (I (w64 (s4.2 + 1)))) (rv_assign rfl) ?_
        refine w_end ?_
        refine q_then ?_
        obtain rfl := Option.some.inj h
        exact ⟨_, rfl, _, σ5, a6, c7, fr_join ⟨rfl, rfl, rfl, rfl, trivial⟩, rfl, H.sel' [0, 1, 2] rfl rfl⟩
    · replace h := bif_f hb8 h
      refine c_exit ?_
      refine q_then_x ?_
      refine q_then_x ?_
      refine q_blk_hit ?_
      obtain rfl := Option.some.inj h
      obtain rfl := hres _ rfl
      exact .inl ⟨_, rfl, rfl, _, σ5, a6, c7, fr_join ⟨rfl, trivial⟩, rfl, H.sel' [0, 1] rfl rfl⟩
  · clear hj
    have h := h'
    clear h' H
    rintro e a w (⟨t27, rfl, rfl, ρ, σ28, a29, c30, rfl, rfl, H⟩ | ⟨t32, rfl, rfl, ρ, σ33, a34, c35, rfl, rfl, H⟩)
    · replace h := selim_l h
      refine q_then ?_
      refine c_seq ?_
      refine rg ?_
      refine st (v := (.agg #[(I 0), (.slice none 0 0), (I 0)])) (rv_build (ps := []) Try.underlying38 ti38 (bp38 Try.underlying38) rfl (by kernel_rfl)) ?_
      refine st_exS (ex_store_box (k := 0) (cs := [(I t27.1), (Sl a29 t27.2.1 c30), (I t27.2.2)]) (vs := [(I 0), (.slice none 0 0), (I 0)]) (cs' := [(I 0), (.slice none 0 0), (I 0)]) H (i := 0) rfl ti38 rfl rfl rfl rfl rfl (Nat.le_of_ble_eq_true rfl) (by simp [plain]) rfl) (wanted_none _ rfl _) ?_
      rintro σ31 ⟨H, -⟩
      refine w_end ?_
      refine q_then ?_
      refine c_ret ?_
      replace H := H.nilRo Int 0
      obtain rfl := Option.some.inj h
      exact fin_ret (v := (.agg #[(I 0), (.slice none 0 0), (I 0)])) (results_ok Try.results37 (res_cell rfl (run_cellRes (cs := [(I 0), (.slice none 0 0), (I 0)]) Try.underlying38 rfl ti38 rfl (H.cells 1 rfl)) res_nil) rfl) ⟨none, 0, rfl, rfl⟩ (H.sel' [0] rfl rfl)
    · replace h := selim_r h
      refine q_then_r ?_
      obtain rfl := Option.some.inj h
      exact fin_ret (v := (.agg #[(I t32.1), (Sl a34 t32.2.1 c35), (I t32.2.2)])) (results_ok Try.results37 (res_cell rfl (run_cellRes (cs := [(I t32.1), (Sl a34 t32.2.1 c35), (I t32.2.2)]) Try.underlying38 rfl ti38 rfl (H.cells 0 rfl)) res_nil) rfl) ⟨a34, c35, rfl, rfl⟩ (H.sel' [1] rfl rfl)

theorem c_laws_FnClosestPair {code_0 : List UInt8} {acode_0 : Option Addr} {ccode_0 : Nat} {r : Bool} (h : M.laws_FnClosestPair code_0 = some r) :
    Cal2 Try.prog 10 [(Sl acode_0 code_0 ccode_0)] [Ch.ro 0 (Sl acode_0 code_0 ccode_0) code_0] (fun n0 v L => v = (B r) ∧ L = []) := by
  refine cal2 (n := 111) Try.func10 rfl rfl rfl rfl ?_
  intro S0 σ0 n0 hn0 H
  unfold M.laws_FnClosestPair at h
  refine c_seq ?_
  refine rg ?_
  refine st (v := (B false)) (rv_assign rfl) ?_
  refine w_end ?_
  refine q_then ?_
  refine c_seq ?_
  refine c_seq ?_
  refine rg ?_
  refine st (v := (Sl acode_0 code_0 ccode_0)) (rv_move rfl) ?_
  refine st (v := (I (code_0.length : Int))) (rv_len Try.underlying22 rfl) ?_
  refine st (v := (B (decide (1048576 < (code_0.length : Int))))) (rv_gtr (a := (code_0.length : Int)) (b := 1048576) rfl rfl) ?_
  refine w_end ?_
  refine q_then ?_
  refine cd_cond (decide (1048576 < (code_0.length : Int))) rfl (fun hb1 => ?_) (fun hb1 => ?_)
  · replace h := bif_t hb1 h
    refine c_seq ?_
    refine rg ?_
    refine st (v := (B true)) (rv_assign rfl) ?_
    refine w_end ?_
    refine q_then ?_
    refine c_ret ?_
    refine q_then_r ?_
    obtain rfl := Option.some.inj h
    exact fin_ret (v := (B true)) (results_ok Try.results10 (res_tmp (v := (B true)) rfl res_nil) rfl) ⟨rfl, rfl⟩ (H.sel' [] rfl rfl)
  · replace h := bif_f hb1 h
    refine c_skip ?_
    refine q_then ?_
    refine c_seq ?_
    refine rg ?_
    refine st (v := (Sl acode_0 code_0 ccode_0)) (rv_move rfl) ?_
    obtain ⟨r2, hx3, h'⟩ := bind_some h
    clear h
    have h := h'; clear h'
    have hc4 := c_spec_DrawClosestPair (acode_0 := acode_0) (ccode_0 := ccode_0) hx3
    refine st_call (cx_call hc4 (ent_f hc4.fn rfl) hn0 (show Hp S0 σ0 _ ([Ch.ro 0 (Sl acode_0 code_0 ccode_0) code_0] ++ [Ch.ro 0 (Sl acode_0 code_0 ccode_0) code_0]) from (H.sel' [0, 0] rfl rfl))) (wanted_none _ rfl _) ?_
    rintro _ σ7 ⟨_, ⟨a5, c6, rfl, rfl⟩, H, -⟩
    replace H : Hp S0 σ0 σ7 [Ch.own n0 n0 (Sl a5 r2.1 c6) r2.1, Ch.ro 0 (Sl acode_0 code_0 ccode_0) code_0] := H
    refine st (v := (.tuple #[(Sl a5 r2.1 c6), (I r2.2)])) (rv_move rfl) ?_
    refine st (v := (Sl a5 r2.1 c6)) (rv_extract rfl rfl) ?_
    refine st (v := (I r2.2)) (rv_extract rfl rfl) ?_
    refine st (v := (Sl a5 r2.1 c6)) (rv_assign rfl) ?_
    refine st (v := (I r2.2)) (rv_assign rfl) ?_
    refine w_end ?_
    refine q_then ?_
    refine c_seq ?_
    refine rg ?_
    refine st (v := (Sl a5 r2.1 c6)) (rv_move rfl) ?_
    refine st (v := (I r2.2)) (rv_move rfl) ?_
    obtain ⟨r8, hx9, h'⟩ := bind_some h
    clear h
    have h := h'; clear h'
    have hc10 := c_impl_ClosestPair (alist_0 := a5) (clist_0 := c6) hx9
    have hle := Nat.le_trans hn0 H.size
    refine st_call (cx_lend (Loan.lend Loan.nil) hc10 (ent_f hc10.fn rfl) (show Hp S0 σ0 _ ([Ch.own n0 n0 (Sl a5 r2.1 c6) r2.1] ++ ([] ++ [Ch.ro 0 (Sl acode_0 code_0 ccode_0) code_0])) from (H.sel' [0, 1] rfl rfl)) (by rintro _ _ _ ⟨rfl, rfl⟩; exact trivial)) (wanted_none _ rfl _) ?_
    rintro _ σ11 ⟨_, ⟨rfl, rfl⟩, H, -, -⟩
    replace H : Hp S0 σ0 σ11 [Ch.own n0 n0 (Sl a5 r2.1 c6) r2.1, Ch.ro 0 (Sl acode_0 code_0 ccode_0) code_0] := H
    clear hle
    replace H : Hp S0 σ0 σ11 [Ch.own n0 n0 (Sl a5 r2.1 c6) r2.1, Ch.ro 0 (Sl acode_0 code_0 ccode_0) code_0] := H
    refine st (v := (.tuple #[(I r8.1), (I r8.2.1), (B r8.2.2)])) (rv_move rfl) ?_
    refine st (v := (I r8.1)) (rv_extract rfl rfl) ?_
    refine st (v := (I r8.2.1)) (rv_extract rfl rfl) ?_
    refine st (v := (B r8.2.2)) (rv_extract rfl rfl) ?_
    refine st (v := (I r8.1)) (rv_assign rfl) ?_
    refine st (v := (I r8.2.1)) (rv_assign rfl) ?_
    refine st (v := (B r8.2.2)) (rv_assign rfl) ?_
    refine w_end ?_
    refine q_then ?_
    refine c_seq ?_
    refine rg ?_
    refine st (v := (Sl a5 r2.1 c6)) (rv_move rfl) ?_
    refine st (v := (I r2.2)) (rv_move rfl) ?_
    obtain ⟨r12, hx13, h'⟩ := bind_some h
    clear h
    have h := h'; clear h'
    have hc14 := c_spec_ClosestPair (alist_0 := a5) (clist_0 := c6) hx13
    have hle := Nat.le_trans hn0 H.size
    refine st_call (cx_lend (Loan.lend Loan.nil) hc14 (ent_f hc14.fn rfl) (show Hp S0 σ0 _ ([Ch.own n0 n0 (Sl a5 r2.1 c6) r2.1] ++ ([] ++ [Ch.ro 0 (Sl acode_0 code_0 ccode_0) code_0])) from (H.sel' [0, 1] rfl rfl)) (by rintro _ _ _ ⟨rfl, rfl⟩; exact trivial)) (wanted_none _ rfl _) ?_
    rintro _ σ15 ⟨_, ⟨rfl, rfl⟩, H, -, -⟩
    replace H : Hp S0 σ0 σ15 [Ch.own n0 n0 (Sl a5 r2.1 c6) r2.1, Ch.ro 0 (Sl acode_0 code_0 ccode_0) code_0] := H
    clear hle
    replace H : Hp S0 σ0 σ15 [Ch.own n0 n0 (Sl a5 r2.1 c6) r2.1, Ch.ro 0 (Sl acode_0 code_0 ccode_0) code_0] := H
    refine st (v := (.tuple #[(I r12.1), (I r12.2.1), (B r12.2.2)])) (rv_move rfl) ?_
    refine st (v := (I r12.1)) (rv_extract rfl rfl) ?_
    refine st (v := (I r12.2.1)) (rv_extract rfl rfl) ?_
    refine st (v := (B r12.2.2)) (rv_extract rfl rfl) ?_
    refine st (v := (I r12.1)) (rv_assign rfl) ?_
    refine st (v := (I r12.2.1)) (rv_assign rfl) ?_
    refine st (v := (B r12.2.2)) (rv_assign rfl) ?_
    refine w_end ?_
    refine q_then ?_
    refine c_seq ?_
    refine c_seq ?_
    obtain ⟨o16, hj, h'⟩ := bind_some h
    clear h
    refine c_cut (fun e a w => e = .normal ∧ ∃ (ρ : Nat → Value) (σ : St), a = fr 111 (updL ρ [(3, (Sl a5 r2.1 c6)), (4, (I r2.2)), (5, (I r8.1)), (6, (I r8.2.1)), (7, (B r8.2.2)), (8, (I r12.1)), (9, (I r12.2.1)), (10, (B r12.2.2)), (52, (B o16))]) ∧ w = σ.w ∧ Hp S0 σ0 σ [Ch.own n0 n0 (Sl a5 r2.1 c6) r2.1]) ?_ ?_
    · clear h'
      rename _ = some o16 => h
      refine rg ?_
      refine st (v := (I r8.1)) (rv_move rfl) ?_
      refine st (v := (I r12.1)) (rv_move rfl) ?_
      refine st (v := (B (r8.1 != r12.1))) (rv_neq (a := r8.1) (b := r12.1) rfl rfl) ?_
      refine st (v := (B (r8.1 != r12.1))) (rv_move rfl) ?_
      rcases Bool.eq_false_or_eq_true (r8.1 != r12.1) with hb17 | hb17
      · replace h := bif_t hb17 h
        refine st_skip (congrArg some hb17) ?_
        refine st_skip (congrArg some hb17) ?_
        refine st_skip (congrArg some hb17) ?_
        refine st (v := (B true)) (rv_pick_t (congrArg B hb17) rfl) ?_
        refine st (v := (B true)) (rv_move rfl) ?_
        refine st_skip rfl ?_
        refine st_skip rfl ?_
        refine st_skip rfl ?_
        refine st (v := (B true)) (rv_pick_t rfl rfl) ?_
        refine st (v := (B true)) (rv_move rfl) ?_
        refine st_skip rfl ?_
        refine st_skip rfl ?_
        refine st (v := (B true)) (rv_pick_t rfl rfl) ?_
        refine w_end ?_
        obtain rfl := Option.some.inj h
        exact ⟨rfl, _, σ15, fr_join ⟨rfl, rfl, rfl, rfl, rfl, rfl, rfl, rfl, rfl, trivial⟩, rfl, H.sel' [0] rfl rfl⟩
      · replace h := bif_f hb17 h
        refine st_g (v := (I r8.2.1)) (congrArg some hb17) (rv_move rfl) ?_
        refine st_g (v := (I r12.2.1)) (congrArg some hb17) (rv_move rfl) ?_
        refine st_g (v := (B (r8.2.1 != r12.2.1))) (congrArg some hb17) (rv_neq (a := r8.2.1) (b := r12.2.1) rfl rfl) ?_
        refine st (v := (B (r8.2.1 != r12.2.1))) (rv_pick_f (congrArg B hb17) rfl) ?_
        refine st (v := (B (r8.2.1 != r12.2.1))) (rv_move rfl) ?_
        rcases Bool.eq_false_or_eq_true (r8.2.1 != r12.2.1) with hb18 | hb18
        · replace h := bif_t hb18 h
          refine st_skip (congrArg some hb18) ?_
          refine st_skip (congrArg some hb18) ?_
          refine st_skip (congrArg some hb18) ?_
          refine st (v := (B true)) (rv_pick_t (congrArg B hb18) rfl) ?_
          refine st (v := (B true)) (rv_move rfl) ?_
          refine st_skip rfl ?_
          refine st_skip rfl ?_
          refine st (v := (B true)) (rv_pick_t rfl rfl) ?_
          refine w_end ?_
          obtain rfl := Option.some.inj h
          exact ⟨rfl, _, σ15, fr_join ⟨rfl, rfl, rfl, rfl, rfl, rfl, rfl, rfl, rfl, trivial⟩, rfl, H.sel' [0] rfl rfl⟩
        · replace h := bif_f hb18 h
          refine st_g (v := (B r8.2.2)) (congrArg some hb18) (rv_move rfl) ?_
          refine st_g (v := (B r12.2.2)) (congrArg some hb18) (rv_move rfl) ?_
          refine st_g (v := (B (r8.2.2 != r12.2.2))) (congrArg some hb18) (rv_bneq Try.underlying4 rfl rfl) ?_
          refine st (v := (B (r8.2.2 != r12.2.2))) (rv_pick_f (congrArg B hb18) rfl) ?_
          refine st (v := (B (r8.2.2 != r12.2.2))) (rv_move rfl) ?_
          rcases Bool.eq_false_or_eq_true (r8.2.2 != r12.2.2) with hb19 | hb19
          · replace h := bif_t hb19 h
            refine st_skip (congrArg some hb19) ?_
            refine st_skip (congrArg some hb19) ?_
            refine st (v := (B true)) (rv_pick_t (congrArg B hb19) rfl) ?_
            refine w_end ?_
            obtain rfl := Option.some.inj h
            exact ⟨rfl, _, σ15, fr_join ⟨rfl, rfl, rfl, rfl, rfl, rfl, rfl, rfl, rfl, trivial⟩, rfl, H.sel' [0] rfl rfl⟩
          · replace h := bif_f hb19 h
            refine st_g (v := (B r8.2.2)) (congrArg some hb19) (rv_move rfl) ?_
            refine st_g (v := (B (!r8.2.2))) (congrArg some hb19) (rv_not rfl) ?_
            refine st (v := (B (!r8.2.2))) (rv_pick_f (congrArg B hb19) rfl) ?_
            refine w_end ?_
            obtain rfl := Option.some.inj h
            exact ⟨rfl, _, σ15, fr_join ⟨rfl, rfl, rfl, rfl, rfl, rfl, rfl, rfl, rfl, trivial⟩, rfl, H.sel' [0] rfl rfl⟩
    · clear hj
      have h := h'
      clear h' H
      rintro e a w ⟨rfl, ρ, σ20, rfl, rfl, H⟩
      refine q_then ?_
      refine cd_cond o16 rfl (fun hb21 => ?_) (fun hb21 => ?_)
      · replace h := bif_t hb21 h
        refine c_seq ?_
        refine rg ?_
        refine st (v := (I r8.1)) (rv_move rfl) ?_
        refine st (v := (I r12.1)) (rv_move rfl) ?_
        refine st (v := (B (r8.1 == r12.1))) (rv_eql (a := r8.1) (b := r12.1) rfl rfl) ?_
        refine st (v := (B (r8.1 == r12.1))) (rv_move rfl) ?_
        rcases Bool.eq_false_or_eq_true (r8.1 == r12.1) with hb22 | hb22
        · replace h := bif_t hb22 h
          refine st_g (v := (I r8.2.1)) (congrArg some hb22) (rv_move rfl) ?_
          refine st_g (v := (I r12.2.1)) (congrArg some hb22) (rv_move rfl) ?_
          refine st_g (v := (B (r8.2.1 == r12.2.1))) (congrArg some hb22) (rv_eql (a := r8.2.1) (b := r12.2.1) rfl rfl) ?_
          refine st (v := (B (r8.2.1 == r12.2.1))) (rv_pick_t (congrArg B hb22) rfl) ?_
          refine st (v := (B (r8.2.1 == r12.2.1))) (rv_move rfl) ?_
          rcases Bool.eq_false_or_eq_true (r8.2.1 == r12.2.1) with hb23 | hb23
          · replace h := bif_t hb23 h
            refine st_g (v := (B r8.2.2)) (congrArg some hb23) (rv_move rfl) ?_
            refine st_g (v := (B r12.2.2)) (congrArg some hb23) (rv_move rfl) ?_
            refine st_g (v := (B (r8.2.2 == r12.2.2))) (congrArg some hb23) (rv_beql Try.underlying4 rfl rfl) ?_
            refine st (v := (B (r8.2.2 == r12.2.2))) (rv_pick_t (congrArg B hb23) rfl) ?_
            refine st (v := (B (r8.2.2 == r12.2.2))) (rv_assign rfl) ?_
            refine w_end ?_
            refine q_then ?_
            refine c_ret ?_
            refine q_then_r ?_
            obtain rfl := Option.some.inj h
            exact fin_ret (v := (B (r8.2.2 == r12.2.2))) (results_ok Try.results10 (res_tmp (v := (B (r8.2.2 == r12.2.2))) rfl res_nil) rfl) ⟨rfl, rfl⟩ (H.sel' [] rfl rfl)
          · replace h := bif_f hb23 h
            refine st_skip (congrArg some hb23) ?_
            refine st_skip (congrArg some hb23) ?_
            refine st_skip (congrArg some hb23) ?_
            refine st (v := (B false)) (rv_pick_f (congrArg B hb23) rfl) ?_
            refine st (v := (B false)) (rv_assign rfl) ?_
            refine w_end ?_
            refine q_then ?_
            refine c_ret ?_
            refine q_then_r ?_
            obtain rfl := Option.some.inj h
            exact fin_ret (v := (B false)) (results_ok Try.results10 (res_tmp (v := (B false)) rfl res_nil) rfl) ⟨rfl, rfl⟩ (H.sel' [] rfl rfl)
        · replace h := bif_f hb22 h
          refine st_skip (congrArg some hb22) ?_
          refine st_skip (congrArg some hb22) ?_
          refine st_skip (congrArg some hb22) ?_
          refine st (v := (B false)) (rv_pick_f (congrArg B hb22) rfl) ?_
          refine st (v := (B false)) (rv_move rfl) ?_
          refine st_skip rfl ?_
          refine st_skip rfl ?_
          refine st_skip rfl ?_
          refine st (v := (B false)) (rv_pick_f rfl rfl) ?_
          refine st (v := (B false)) (rv_assign rfl) ?_
          refine w_end ?_
          refine q_then ?_
          refine c_ret ?_
          refine q_then_r ?_
          obtain rfl := Option.some.inj h
          exact fin_ret (v := (B false)) (results_ok Try.results10 (res_tmp (v := (B false)) rfl res_nil) rfl) ⟨rfl, rfl⟩ (H.sel' [] rfl rfl)
      · replace h := bif_f hb21 h
        refine c_skip ?_
        refine q_then ?_
        refine c_seq ?_
        refine rg ?_
        refine st (v := (I r2.2)) (rv_move rfl) ?_
        refine st (v := (Sl a5 r2.1 c6)) (rv_move rfl) ?_
        refine st (v := (I r8.1)) (rv_move rfl) ?_
        obtain ⟨σ24, hw25, H, -⟩ := H.pub 0 rfl (Nat.le_refl _)
        rw [← hw25]; clear hw25
        replace H := H.roLow 0 0 rfl (Nat.zero_le _)
        obtain ⟨r26, hx27, h'⟩ := bind_some h
        clear h
        have h := h'; clear h'
        have hc28 := c_laws_itemOf (alist_0 := a5) (clist_0 := c6) hx27
        refine st_call (cx_call hc28 (ent_f hc28.fn rfl) hn0 (show Hp S0 σ0 _ ([Ch.ro 0 (Sl a5 r2.1 c6) r2.1] ++ [Ch.ro 0 (Sl a5 r2.1 c6) r2.1, Ch.ro n0 (Sl a5 r2.1 c6) r2.1]) from (H.sel' [0, 0, 1] rfl rfl))) (wanted_none _ rfl _) ?_
        rintro _ σ31 ⟨_, ⟨a29, c30, rfl, rfl⟩, H, -⟩
        replace H : Hp S0 σ0 σ31 [Ch.ro 0 (Sl a29 r26.2.1 c30) r26.2.1, Ch.ro 0 (Sl a5 r2.1 c6) r2.1, Ch.ro n0 (Sl a5 r2.1 c6) r2.1] := H
        refine st (v := (Sl a29 r26.2.1 c30)) (rv_field (off := 1) (ft := 25) Try.underlying38 rfl Try.underlying25 rfl rfl rfl) ?_
        refine st (v := (Sl a5 r2.1 c6)) (rv_move rfl) ?_
        refine st (v := (I r8.2.1)) (rv_move rfl) ?_
        replace H := H.roLow 2 0 rfl (Nat.zero_le _)
        obtain ⟨r32, hx33, h'⟩ := bind_some h
        clear h
        have h := h'; clear h'
        have hc34 := c_laws_itemOf (alist_0 := a5) (clist_0 := c6) hx33
        refine st_call (cx_call hc34 (ent_f hc34.fn rfl) hn0 (show Hp S0 σ0 _ ([Ch.ro 0 (Sl a5 r2.1 c6) r2.1] ++ [Ch.ro 0 (Sl a5 r2.1 c6) r2.1, Ch.ro 0 (Sl a29 r26.2.1 c30) r26.2.1, Ch.ro 0 (Sl a5 r2.1 c6) r2.1, Ch.ro n0 (Sl a5 r2.1 c6) r2.1]) from (H.sel' [0, 0, 1, 2, 3] rfl rfl))) (wanted_none _ rfl _) ?_
        rintro _ σ37 ⟨_, ⟨a35, c36, rfl, rfl⟩, H, -⟩
        replace H : Hp S0 σ0 σ37 [Ch.ro 0 (Sl a35 r32.2.1 c36) r32.2.1, Ch.ro 0 (Sl a5 r2.1 c6) r2.1, Ch.ro 0 (Sl a29 r26.2.1 c30) r26.2.1, Ch.ro 0 (Sl a5 r2.1 c6) r2.1, Ch.ro n0 (Sl a5 r2.1 c6) r2.1] := H
        refine st (v := (Sl a35 r32.2.1 c36)) (rv_field (off := 1) (ft := 25) Try.underlying38 rfl Try.underlying25 rfl rfl rfl) ?_
        obtain ⟨r38, hx39, h'⟩ := bind_some h
        clear h
        have h := h'; clear h'
        have hc40 := c_impl_Distance (aa_1 := a29) (ca_1 := c30) (ab_2 := a35) (cb_2 := c36) hx39
        refine st_call (cx_call hc40 (ent_f hc40.fn rfl) hn0 (show Hp S0 σ0 _ ([Ch.ro 0 (Sl a29 r26.2.1 c30) r26.2.1, Ch.ro 0 (Sl a35 r32.2.1 c36) r32.2.1] ++ [Ch.ro 0 (Sl a35 r32.2.1 c36) r32.2.1, Ch.ro 0 (Sl a5 r2.1 c6) r2.1, Ch.ro 0 (Sl a29 r26.2.1 c30) r26.2.1, Ch.ro 0 (Sl a5 r2.1 c6) r2.1, Ch.ro n0 (Sl a5 r2.1 c6) r2.1]) from (H.sel' [2, 0, 0, 1, 2, 3, 4] rfl rfl))) (wanted_none _ rfl _) ?_
        rintro _ σ41 ⟨_, ⟨rfl, rfl⟩, H, -⟩
        replace H : Hp S0 σ0 σ41 [Ch.ro 0 (Sl a35 r32.2.1 c36) r32.2.1, Ch.ro 0 (Sl a5 r2.1 c6) r2.1, Ch.ro 0 (Sl a29 r26.2.1 c30) r26.2.1, Ch.ro 0 (Sl a5 r2.1 c6) r2.1, Ch.ro n0 (Sl a5 r2.1 c6) r2.1] := H
        refine st (v := (I r38)) (rv_assign rfl) ?_
        refine w_end ?_
        refine q_then ?_
        refine c_seq ?_
        refine c_seq ?_
        refine rg ?_
        refine st (v := (I 0)) (rv_assign rfl) ?_
        refine w_end ?_
        refine q_then ?_
        obtain ⟨o42, hj, h'⟩ := bind_some h
        clear h
        refine c_cut (fun e a w => (∃ t, o42 = (.inl t) ∧ e = .normal ∧ ∃ (ρ : Nat → Value) (σ : St), a = fr 111 (updL ρ [(5, (I r8.1)), (6, (I r8.2.1)), (11, (I r38))]) ∧ w = σ.w ∧ Hp S0 σ0 σ []) ∨ (∃ t, o42 = (.inr t) ∧ e = .ret ∧ ∃ (ρ : Nat → Value) (σ : St), a = fr 111 (updL ρ [(2, (B t))]) ∧ w = σ.w ∧ Hp S0 σ0 σ [])) ?_ ?_
        · clear h'
          rename _ = some o42 => h
          refine c_blk ?_
          refine wp_loopM _ h (fun s43 a w => ∃ (ρ : Nat → Value) (σ : St), a = fr 111 (updL ρ [(3, (Sl a5 r2.1 c6)), (4, (I r2.2)), (5, (I r8.1)), (6, (I r8.2.1)), (11, (I r38)), (12, (I s43))]) ∧ w = σ.w ∧ Hp S0 σ0 σ [Ch.ro n0 (Sl a5 r2.1 c6) r2.1]) ⟨_, σ41, fr_join ⟨rfl, rfl, rfl, rfl, rfl, rfl, trivial⟩, rfl, H.sel' [4] rfl rfl⟩ ?_
          clear h H
          rintro s43 a w o ⟨ρ, σ44, rfl, rfl, H⟩ h hres
          refine c_seq ?_
          refine c_seq ?_
          refine rg ?_
          refine st (v := (I s43)) (rv_move rfl) ?_
          refine st (v := (Sl a5 r2.1 c6)) (rv_move rfl) ?_
          refine st (v := (I (r2.1.length : Int))) (rv_len Try.underlying23 rfl) ?_
          refine st (v := (B (decide (s43 < (r2.1.length : Int))))) (rv_lss (a := s43) (b := (r2.1.length : Int)) rfl rfl) ?_
          refine w_end ?_
          refine q_then ?_
          refine cd_cond (decide (s43 < (r2.1.length : Int))) rfl (fun hb45 => ?_) (fun hb45 => ?_)
          · replace h := bif_t hb45 h
            refine c_skip ?_
            refine q_then ?_
            refine c_seq ?_
            refine c_blk ?_
            refine c_seq ?_
            refine rg ?_
            refine st (v := (I s43)) (rv_move rfl) ?_
            refine st (v := (I (w64 (s43 + 1)))) (rv_add (a := s43) (b := 1) rfl rfl) ?_
            refine st (v := (I (w64 (s43 + 1)))) (rv_assign rfl) ?_
            refine w_end ?_
            refine q_then ?_
            obtain ⟨o46, hj, h'⟩ := bind_some h
            clear h
            refine c_cut (fun e a w => (∃ t, o46 = (.inl t) ∧ e = .normal ∧ ∃ (ρ : Nat → Value) (σ : St), a = fr 111 (updL ρ [(3, (Sl a5 r2.1 c6)), (4, (I r2.2)), (5, (I r8.1)), (6, (I r8.2.1)), (11, (I r38)), (12, (I s43))]) ∧ w = σ.w ∧ Hp S0 σ0 σ [Ch.ro n0 (Sl a5 r2.1 c6) r2.1]) ∨ (∃ t, o46 = (.inr t) ∧ e = .ret ∧ ∃ (ρ : Nat → Value) (σ : St), a = fr 111 (updL ρ [(2, (B t))]) ∧ w = σ.w ∧ Hp S0 σ0 σ [])) ?_ ?_
            · clear h'
              rename _ = some o46 => h
              refine c_blk ?_
              refine wp_loopM _ h (fun s47 a w => ∃ (ρ : Nat → Value) (σ : St), a = fr 111 (updL ρ [(3, (Sl a5 r2.1 c6)), (4, (I r2.2)), (5, (I r8.1)), (6, (I r8.2.1)), (11, (I r38)), (12, (I s43)), (13, (I s47))]) ∧ w = σ.w ∧ Hp S0 σ0 σ [Ch.ro n0 (Sl a5 r2.1 c6) r2.1]) ⟨_, σ44, fr_join ⟨rfl, rfl, rfl, rfl, rfl, rfl, rfl, trivial⟩, rfl, H.sel' [0] rfl rfl⟩ ?_
              clear h H
              rintro s47 a w o ⟨ρ, σ48, rfl, rfl, H⟩ h hres
              refine c_seq ?_
              refine c_seq ?_
              refine rg ?_
              refine st (v := (I s47)) (rv_move rfl) ?_
              refine st (v := (Sl a5 r2.1 c6)) (rv_move rfl) ?_
              refine st (v := (I (r2.1.length : Int))) (rv_len Try.underlying23 rfl) ?_
              refine st (v := (B (decide (s47 < (r2.1.length : Int))))) (rv_lss (a := s47) (b := (r2.1.length : Int)) rfl rfl) ?_
              refine w_end ?_
              refine q_then ?_
              refine cd_cond (decide (s47 < (r2.1.length : Int))) rfl (fun hb49 => ?_) (fun hb49 => ?_)
              · replace h := bif_t hb49 h
                refine c_skip ?_
                refine q_then ?_
                refine c_seq ?_
                refine c_blk ?_
                refine c_seq ?_
                obtain ⟨x50, hx51, h'⟩ := bind_some h
                clear h
                have h := h'; clear h'
                obtain ⟨b53, o54, hi52, -⟩ := (H.ro 0 rfl).ix hx51
                obtain ⟨v58, hc59, hR57⟩ := ((H.ro 0 rfl).at hx51 hi52).snd.fst.slice
                obtain ⟨a55, c56, rfl⟩ := hR57.isSl
                replace H := H.add (d := Ch.ro n0 (Sl a55 x50.2.1 c56) x50.2.1) hR57 (fun _ h => h)
                clear hR57
                obtain ⟨x60, hx61, h'⟩ := bind_some h
                clear h
                have h := h'; clear h'
                obtain ⟨b63, o64, hi62, -⟩ := (H.ro 1 rfl).ix hx61
                obtain ⟨v68, hc69, hR67⟩ := ((H.ro 1 rfl).at hx61 hi62).snd.fst.slice
                obtain ⟨a65, c66, rfl⟩ := hR67.isSl
                replace H := H.add (d := Ch.ro n0 (Sl a65 x60.2.1 c66) x60.2.1) hR67 (fun _ h => h)
                clear hR67
                replace H := H.roLow 1 0 rfl (Nat.zero_le _)
                replace H := H.roLow 1 0 rfl (Nat.zero_le _)
                obtain ⟨r70, hx71, h'⟩ := bind_some h
                clear h
                have h := h'; clear h'
                have hc72 := c_impl_Distance (aa_1 := a55) (ca_1 := c56) (ab_2 := a65) (cb_2 := c66) hx71
                have Hs := H
                refine rg2 (σ := σ48) (Nm := Unit) 13 [11] [[false], [true]] [[(0, 0)], [(0, 0)], [(0, 0)], [(0, 0)], [(0, 0)], [(0, 0)], [(0, 0)], [(0, 0)], [(0, 0)], [(0, 0)], [(0, 0)], [(0, 1)], [(0, 0), (1, 1)]] 1 [fun (_nm : Unit) => fun σm => Hp S0 σ0 σm [Ch.ro 0 (Sl a65 x60.2.1 c66) x60.2.1, Ch.ro 0 (Sl a55 x50.2.1 c56) x50.2.1, Ch.ro n0 (Sl a65 x60.2.1 c66) x60.2.1, Ch.ro n0 (Sl a55 x50.2.1 c56) x50.2.1, Ch.ro n0 (Sl a5 r2.1 c6) r2.1] ∧ Md (cov []) σ48 σm, fun (_nm : Unit) => fun σm => Hp S0 σ0 σm [Ch.ro 0 (Sl a65 x60.2.1 c66) x60.2.1, Ch.ro 0 (Sl a55 x50.2.1 c56) x50.2.1, Ch.ro n0 (Sl a65 x60.2.1 c66) x60.2.1, Ch.ro n0 (Sl a55 x50.2.1 c56) x50.2.1, Ch.ro n0 (Sl a5 r2.1 c6) r2.1] ∧ Md (cov []) σ48 σm] [fun (_nm : Unit) => (I r2.2), fun (_nm : Unit) => (Sl a5 r2.1 c6), fun (_nm : Unit) => (I s43), fun (_nm : Unit) => (pt b53 o54), fun (_nm : Unit) => (pt b53 (o54 + 1)), fun (_nm : Unit) => (Sl a55 x50.2.1 c56), fun (_nm : Unit) => (Sl a5 r2.1 c6), fun (_nm : Unit) => (I s47), fun (_nm : Unit) => (pt b63 o64), fun (_nm : Unit) => (pt b63 (o64 + 1)), fun (_nm : Unit) => (Sl a65 x60.2.1 c66), fun (_nm : Unit) => (I r70), fun (_nm : Unit) => (I r38)] () (by kernel_rfl) (by kernel_rfl) ?_ ?_ ?_
                · intro σm m0
                  exact ⟨H.grow (m0.mono fun _ h => h.elim), m0⟩
                · refine all_cons (obs_v rfl (by
                      intro k; intro _nm ρ σm hJ hoff hdep
                      have e4 : look 111 ρ 4 = (I r2.2) := look_off (hoff 4 rfl) rfl
                      exact dp_v (v := (I r2.2)) (wanted_none _ rfl _) (rv_move e4) rfl hJ)) ?_
                  refine all_cons (obs_v rfl (by
                      intro k; intro _nm ρ σm hJ hoff hdep
                      have e3 : look 111 ρ 3 = (Sl a5 r2.1 c6) := look_off (hoff 3 rfl) rfl
                      exact dp_v (v := (Sl a5 r2.1 c6)) (wanted_none _ rfl _) (rv_move e3) rfl hJ)) ?_
                  refine all_cons (obs_v rfl (by
                      intro k; intro _nm ρ σm hJ hoff hdep
                      have e12 : look 111 ρ 12 = (I s43) := look_off (hoff 12 rfl) rfl
                      exact dp_v (v := (I s43)) (wanted_none _ rfl _) (rv_move e12) rfl hJ)) ?_
                  refine all_cons (obs_v rfl (by
                      intro k; intro _nm ρ σm hJ hoff hdep
                      have e91 : look 111 ρ 91 = (Sl a5 r2.1 c6) := hdep 1 rfl rfl 91 rfl
                      have e92 : look 111 ρ 92 = (I s43) := hdep 2 rfl rfl 92 rfl
                      exact dp_v (v := (pt b53 o54)) (wanted_none _ rfl _) (rv_ix Try.underlying23 ti38 e91 e92 hi52) rfl hJ)) ?_
                  refine all_cons (obs_v rfl (by
                      intro k; intro _nm ρ σm hJ hoff hdep
                      have e93 : look 111 ρ 93 = (pt b53 o54) := hdep 3 rfl rfl 93 rfl
                      exact dp_v (v := (pt b53 (o54 + 1))) (wanted_none _ rfl _) (rv_fieldAddr (off := 1) (ft := 25) Try.underlying38 rfl ti25 rfl e93) rfl hJ)) ?_
                  refine all_cons (by
                      refine ⟨?_, ?_⟩
                      · intro _nm ρ σm hJ hoff hdep
                        have e94 : look 111 ρ 94 = (pt b53 (o54 + 1)) := hdep 4 rfl rfl 94 rfl
                        obtain ⟨H, m⟩ := (show Hp S0 σ0 σm [Ch.ro 0 (Sl a65 x60.2.1 c66) x60.2.1, Ch.ro 0 (Sl a55 x50.2.1 c56) x50.2.1, Ch.ro n0 (Sl a65 x60.2.1 c66) x60.2.1, Ch.ro n0 (Sl a55 x50.2.1 c56) x50.2.1, Ch.ro n0 (Sl a5 r2.1 c6) r2.1] ∧ Md (cov []) σ48 σm from hJ)
                        replace hc59 := (Hs.ro 4 rfl).hmd hx51 hi52 (k := 1) (by decide) hc59 m
                        exact dp_v (v := (Sl a55 x50.2.1 c56)) (wanted_none _ rfl _) (rv_load1 Try.underlying25 rfl e94 hc59) rfl hJ
                      trivial) ?_
                  refine all_cons (obs_v rfl (by
                      intro k; intro _nm ρ σm hJ hoff hdep
                      have e3 : look 111 ρ 3 = (Sl a5 r2.1 c6) := look_off (hoff 3 rfl) rfl
                      exact dp_v (v := (Sl a5 r2.1 c6)) (wanted_none _ rfl _) (rv_move e3) rfl hJ)) ?_
                  refine all_cons (obs_v rfl (by
                      intro k; intro _nm ρ σm hJ hoff hdep
                      have e13 : look 111 ρ 13 = (I s47) := look_off (hoff 13 rfl) rfl
                      exact dp_v (v := (I s47)) (wanted_none _ rfl _) (rv_move e13) rfl hJ)) ?_
                  refine all_cons (obs_v rfl (by
                      intro k; intro _nm ρ σm hJ hoff hdep
                      have e96 : look 111 ρ 96 = (Sl a5 r2.1 c6) := hdep 6 rfl rfl 96 rfl
                      have e97 : look 111 ρ 97 = (I s47) := hdep 7 rfl rfl 97 rfl
                      exact dp_v (v := (pt b63 o64)) (wanted_none _ rfl _) (rv_ix Try.underlying23 ti38 e96 e97 hi62) rfl hJ)) ?_
                  refine all_cons (obs_v rfl (by
                      intro k; intro _nm ρ σm hJ hoff hdep
                      have e98 : look 111 ρ 98 = (pt b63 o64) := hdep 8 rfl rfl 98 rfl
                      exact dp_v (v := (pt b63 (o64 + 1))) (wanted_none _ rfl _) (rv_fieldAddr (off := 1) (ft := 25) Try.underlying38 rfl ti25 rfl e98) rfl hJ)) ?_
                  refine all_cons (by
                      refine ⟨?_, ?_⟩
                      · intro _nm ρ σm hJ hoff hdep
                        have e99 : look 111 ρ 99 = (pt b63 (o64 + 1)) := hdep 9 rfl rfl 99 rfl
                        obtain ⟨H, m⟩ := (show Hp S0 σ0 σm [Ch.ro 0 (Sl a65 x60.2.1 c66) x60.2.1, Ch.ro 0 (Sl a55 x50.2.1 c56) x50.2.1, Ch.ro n0 (Sl a65 x60.2.1 c66) x60.2.1, Ch.ro n0 (Sl a55 x50.2.1 c56) x50.2.1, Ch.ro n0 (Sl a5 r2.1 c6) r2.1] ∧ Md (cov []) σ48 σm from hJ)
                        replace hc69 := (Hs.ro 4 rfl).hmd hx61 hi62 (k := 1) (by decide) hc69 m
                        exact dp_v (v := (Sl a65 x60.2.1 c66)) (wanted_none _ rfl _) (rv_load1 Try.underlying25 rfl e99 hc69) rfl hJ
                      trivial) ?_
                  refine all_cons (by
                      refine ⟨?_, ?_⟩
                      · intro _nm ρ σm hJ hoff hdep
                        have e90 : look 111 ρ 90 = (I r2.2) := hdep 0 rfl rfl 90 rfl
                        have e95 : look 111 ρ 95 = (Sl a55 x50.2.1 c56) := hdep 5 rfl rfl 95 rfl
                        have e100 : look 111 ρ 100 = (Sl a65 x60.2.1 c66) := hdep 10 rfl rfl 100 rfl
                        obtain ⟨H, m⟩ := (show Hp S0 σ0 σm [Ch.ro 0 (Sl a65 x60.2.1 c66) x60.2.1, Ch.ro 0 (Sl a55 x50.2.1 c56) x50.2.1, Ch.ro n0 (Sl a65 x60.2.1 c66) x60.2.1, Ch.ro n0 (Sl a55 x50.2.1 c56) x50.2.1, Ch.ro n0 (Sl a5 r2.1 c6) r2.1] ∧ Md (cov []) σ48 σm from hJ)
                        refine dp_cx (wanted_none _ rfl _) (cx_call hc72 (ent_f hc72.fn (by show [look 111 ρ 90, look 111 ρ 95, look 111 ρ 100] = _; rw [e90, e95, e100])) hn0 (show Hp S0 σ0 _ ([Ch.ro 0 (Sl a55 x50.2.1 c56) x50.2.1, Ch.ro 0 (Sl a65 x60.2.1 c66) x60.2.1] ++ [Ch.ro 0 (Sl a65 x60.2.1 c66) x60.2.1, Ch.ro 0 (Sl a55 x50.2.1 c56) x50.2.1, Ch.ro n0 (Sl a65 x60.2.1 c66) x60.2.1, Ch.ro n0 (Sl a55 x50.2.1 c56) x50.2.1, Ch.ro n0 (Sl a5 r2.1 c6) r2.1]) from (H.sel' [1, 0, 0, 1, 2, 3, 4] rfl rfl))) ?_
                        rintro _ σq ⟨_, ⟨rfl, rfl⟩, H2, m2⟩
                        exact ⟨_, (), rfl, rfl, ⟨H2.sel' [0, 1, 2, 3, 4] rfl rfl, m.comp0 (m2.mono (fun i h => by simp [cov, Ch.ro] at h))⟩, stab [0, 1, 2, 3, 4, 5, 6, 7, 8, 9, 10, 12] (by kernel_rfl) ⟨rfl, rfl, rfl, rfl, rfl, rfl, rfl, rfl, rfl, rfl, rfl, rfl, trivial⟩⟩
                      trivial) ?_
                  refine all_cons (obs_v rfl (by
                      intro k; intro _nm ρ σm hJ hoff hdep
                      have e11 : look 111 ρ 11 = (I r38) := look_off (hoff 11 rfl) rfl
                      exact dp_v (v := (I r38)) (wanted_none _ rfl _) (rv_move e11) rfl hJ)) ?_
                  exact all_nil
                · intro _nm ρ σ73 hJ hoff hrel
                  have e3 : look 111 ρ 3 = (Sl a5 r2.1 c6) := look_off (hoff 3 rfl) rfl
                  have e4 : look 111 ρ 4 = (I r2.2) := look_off (hoff 4 rfl) rfl
                  have e5 : look 111 ρ 5 = (I r8.1) := look_off (hoff 5 rfl) rfl
                  have e6 : look 111 ρ 6 = (I r8.2.1) := look_off (hoff 6 rfl) rfl
                  have e11 : look 111 ρ 11 = (I r38) := look_off (hoff 11 rfl) rfl
                  have e12 : look 111 ρ 12 = (I s43) := look_off (hoff 12 rfl) rfl
                  have e13 : look 111 ρ 13 = (I s47) := look_off (hoff 13 rfl) rfl
                  have e101 : look 111 ρ 101 = (I r70) := hrel 11 rfl 101 rfl
                  have e102 : look 111 ρ 102 = (I r38) := hrel 12 rfl 102 rfl
                  obtain ⟨H, -⟩ := (show Hp S0 σ0 σ73 [Ch.ro 0 (Sl a65 x60.2.1 c66) x60.2.1, Ch.ro 0 (Sl a55 x50.2.1 c56) x50.2.1, Ch.ro n0 (Sl a65 x60.2.1 c66) x60.2.1, Ch.ro n0 (Sl a55 x50.2.1 c56) x50.2.1, Ch.ro n0 (Sl a5 r2.1 c6) r2.1] ∧ Md (cov []) σ48 σ73 from hJ)
                  clear hJ Hs
                  rw [fr_lookL (L := [(3, (Sl a5 r2.1 c6)), (4, (I r2.2)), (5, (I r8.1)), (6, (I r8.2.1)), (11, (I r38)), (12, (I s43)), (13, (I s47)), (101, (I r70)), (102, (I r38))]) ⟨e3, e4, e5, e6, e11, e12, e13, e101, e102, trivial⟩]
                  clear hoff hrel e3 e4 e5 e6 e11 e12 e13 e101 e102
                  refine st (v := (B (decide (r70 < r38)))) (rv_lss (a := r70) (b := r38) rfl rfl) ?_
                  refine w_end ?_
                  refine q_then ?_
                  refine cd_cond (decide (r70 < r38)) rfl (fun hb74 => ?_) (fun hb74 => ?_)
                  · replace h := bif_t hb74 h
                    refine c_seq ?_
                    refine rg ?_
                    refine st (v := (B false)) (rv_assign rfl) ?_
                    refine w_end ?_
                    refine q_then ?_
                    refine c_ret ?_
                    refine q_blk_r ?_
                    refine q_then_r ?_
                    refine q_then_r ?_
                    refine q_blk_r ?_
                    obtain rfl := Option.some.inj h
                    obtain rfl := hres _ rfl
                    exact .inr (⟨_, rfl, rfl, _, σ73, fr_join ⟨rfl, trivial⟩, rfl, H.sel' [] rfl rfl⟩)
                  · replace h := bif_f hb74 h
                    refine c_skip ?_
                    refine q_blk ?_
                    refine q_then ?_
                    refine rg ?_
                    refine st (v := (I s47)) (rv_move rfl) ?_
                    refine st (v := (I (w64 (s47 + 1)))) (rv_add (a := s47) (b := 1) rfl rfl) ?_
                    refine st (v := (I (w64 (s47 + 1)))) (rv_assign rfl) ?_
                    refine w_end ?_
                    refine q_then ?_
                    obtain rfl := Option.some.inj h
                    exact ⟨_, rfl, _, σ73, fr_join ⟨rfl, rfl, rfl, rfl, rfl, rfl, rfl, trivial⟩, rfl, H.sel' [4] rfl rfl⟩
              · replace h := bif_f hb49 h
                refine c_exit ?_
                refine q_then_x ?_
                refine q_then_x ?_
                refine q_blk_hit ?_
                obtain rfl := Option.some.inj h
                obtain rfl := hres _ rfl
                exact .inl ⟨_, rfl, rfl, _, σ48, fr_join ⟨rfl, rfl, rfl, rfl, rfl, rfl, trivial⟩, rfl, H.sel' [0] rfl rfl⟩
            · clear hj
              have h := h'
              clear h' H
              rintro e a w (⟨t75, rfl, rfl, ρ, σ76, rfl, rfl, H⟩ | ⟨t77, rfl, rfl, ρ, σ78, rfl, rfl, H⟩)
              · replace h := selim_l h
                refine q_blk ?_
                refine q_then ?_
                refine rg ?_
                refine st (v := (I s43)) (rv_move rfl) ?_
                refine st (v := (I (w64 (s43 + 1)))) (rv_add (a := s43) (b := 1) rfl rfl) ?_
                refine st (v := (I (w64 (s43 + 1)))) (rv_assign rfl) ?_
                refine w_end ?_
                refine q_then ?_
                obtain rfl := Option.some.inj h
                exact ⟨_, rfl, _, σ76, fr_join ⟨rfl, rfl, rfl, rfl, rfl, rfl, trivial⟩, rfl, H.sel' [0] rfl rfl⟩
              · replace h := selim_r h
                refine q_blk_r ?_
                refine q_then_r ?_
                refine q_then_r ?_
                refine q_blk_r ?_
                obtain rfl := Option.some.inj h
                obtain rfl := hres _ rfl
                exact .inr (⟨_, rfl, rfl, _, σ78, fr_join ⟨rfl, trivial⟩, rfl, H.sel' [] rfl rfl⟩)
          · replace h := bif_f hb45 h
            refine c_exit ?_
            refine q_then_x ?_
            refine q_then_x ?_
            refine q_blk_hit ?_
            obtain rfl := Option.some.inj h
            obtain rfl := hres _ rfl
            exact .inl ⟨_, rfl, rfl, _, σ44, fr_join ⟨rfl, rfl, rfl, trivial⟩, rfl, H.sel' [] rfl rfl⟩
        · clear hj
          have h := h'
          clear h' H
          rintro e a w (⟨t79, rfl, rfl, ρ, σ80, rfl, rfl, H⟩ | ⟨t82, rfl, rfl, ρ, σ83, rfl, rfl, H⟩)
          · replace h := selim_l h
            refine q_then ?_
            refine c_seq ?_
            refine rg ?_
            refine st (v := (I r8.1)) (rv_move rfl) ?_
            refine st (v := (I r8.2.1)) (rv_move rfl) ?_
            refine st (v := (B (decide (r8.1 < r8.2.1)))) (rv_lss (a := r8.1) (b := r8.2.1) rfl rfl) ?_
            refine st (v := (B (decide (r8.1 < r8.2.1)))) (rv_move rfl) ?_
            rcases Bool.eq_false_or_eq_true (decide (r8.1 < r8.2.1)) with hb81 | hb81
            · replace h := bif_t hb81 h
              refine st_g (v := (I r38)) (congrArg some hb81) (rv_move rfl) ?_
              refine st_g (v := (B (decide (0 ≤ r38)))) (congrArg some hb81) (rv_geq (a := r38) (b := 0) rfl rfl) ?_
              refine st (v := (B (decide (0 ≤ r38)))) (rv_pick_t (congrArg B hb81) rfl) ?_
              refine st (v := (B (decide (0 ≤ r38)))) (rv_assign rfl) ?_
              refine w_end ?_
              refine q_then ?_
              refine c_ret ?_
              obtain rfl := Option.some.inj h
              exact fin_ret (v := (B (decide (0 ≤ r38)))) (results_ok Try.results10 (res_tmp (v := (B (decide (0 ≤ r38)))) rfl res_nil) rfl) ⟨rfl, rfl⟩ (H.sel' [] rfl rfl)
            · replace h := bif_f hb81 h
              refine st_skip (congrArg some hb81) ?_
              refine st_skip (congrArg some hb81) ?_
              refine st (v := (B false)) (rv_pick_f (congrArg B hb81) rfl) ?_
              refine st (v := (B false)) (rv_assign rfl) ?_
              refine w_end ?_
              refine q_then ?_
              refine c_ret ?_
              obtain rfl := Option.some.inj h
              exact fin_ret (v := (B false)) (results_ok Try.results10 (res_tmp (v := (B false)) rfl res_nil) rfl) ⟨rfl, rfl⟩ (H.sel' [] rfl rfl)
          · replace h := selim_r h
            refine q_then_r ?_
            obtain rfl := Option.some.inj h
            exact fin_ret (v := (B t82)) (results_ok Try.results10 (res_tmp (v := (B t82)) rfl res_nil) rfl) ⟨rfl, rfl⟩ (H.sel' [] rfl rfl)

end Go.Vs
