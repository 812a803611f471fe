/- The functions compute what their models say. -/
import Derived.Test.YtbnhppnkdmnneaaKExactClosestPairC1
set_option linter.unusedVariables false
set_option linter.unusedSimpArgs false
set_option maxRecDepth 20000
namespace Go.Vs
open Go Go.Proofs
attribute [local irreducible] Code.wp Code.wpIn wpList wpListIn wpQuiet Calls CallsIn

theorem c_impl_ValidStore {list_0 : List (Int × (List Int) × Int)} {alist_0 : Option Addr} {clist_0 : Nat} {r : Bool} (h : M.impl_ValidStore list_0 = some r) :
    Cal2 Try.prog 57 [(Sl alist_0 list_0 clist_0)] [Ch.ro 0 (Sl alist_0 list_0 clist_0) list_0] (fun n0 v L => v = (B r) ∧ L = []) := by
 refine cal2 (n := 27) Try.func57 rfl rfl rfl rfl ?_
 intro S0 σ0 n0 hn0 H
 unfold M.impl_ValidStore at h
 refine c_seq ?_
 refine rg ?_
 refine st (v := (B false)) (rv_assign rfl) ?_
 refine w_end ?_
 refine q_then ?_
 refine c_seq ?_
 refine c_seq ?_
 refine rg ?_
 refine st (v := (Sl alist_0 list_0 clist_0)) (rv_move rfl) ?_
 refine st (v := (I (list_0.length : Int))) (rv_len Try.underlying37 rfl) ?_
 refine st (v := (B (decide (16 < (list_0.length : Int))))) (rv_gtr (a := (list_0.length : Int)) (b := 16) rfl rfl) ?_
 refine w_end ?_
 refine q_then ?_
 refine cd_cond (decide (16 < (list_0.length : Int))) rfl (fun hb1 => ?_) (fun hb1 => ?_)
 ·replace h := bif_t hb1 h
  refine c_seq ?_
  refine rg ?_
  refine st (v := (B false)) (rv_assign rfl) ?_
  refine w_end ?_
  refine q_then ?_
  refine c_ret ?_
  refine q_then_r ?_
  obtain rfl := Option.some.inj h
  exact fin_ret (v := (B false)) (results_ok Try.results57 (res_tmp (v := (B false)) rfl res_nil) rfl) ⟨rfl, rfl⟩ (H.sel' [] rfl rfl)
 ·replace h := bif_f hb1 h
  refine c_skip ?_
  refine q_then ?_
  refine c_seq ?_
  refine rg ?_
  refine st (v := (I 0)) (rv_assign rfl) ?_
  refine w_end ?_
  refine q_then ?_
  refine c_seq ?_
  refine c_seq ?_
  refine rg ?_
  refine st (v := (Sl alist_0 list_0 clist_0)) (rv_move rfl) ?_
  refine st (v := (I (list_0.length : Int))) (rv_len Try.underlying37 rfl) ?_
  refine st (v := (I 0)) (rv_move rfl) ?_
  refine w_end ?_
  refine q_then ?_
  obtain ⟨o2, hj, h'⟩ := bind_some h
  clear h
  refine c_cut (fun e a w => (∃ t, o2 = (.inl t) ∧ e = .normal ∧ ∃ (ρ : Nat → Value) (σ : St), a = fr 27 (updL ρ []) ∧ w = σ.w ∧ Hp S0 σ0 σ []) ∨ (∃ t, o2 = (.inr t) ∧ e = .ret ∧ ∃ (ρ : Nat → Value) (σ : St), a = fr 27 (updL ρ [(2, (B t))]) ∧ w = σ.w ∧ Hp S0 σ0 σ [])) ?_ ?_
  ·clear h'
   rename _ = some o2 => h
   refine c_blk ?_
   refine wp_loopM _ h (fun s3 a w => ∃ (ρ : Nat → Value) (σ : St), a = fr 27 (updL ρ [(3, (I s3.1)), (9, (Sl alist_0 list_0 clist_0)), (10, (I (list_0.length : Int))), (11, (I s3.2))]) ∧ w = σ.w ∧ Hp S0 σ0 σ [Ch.ro 0 (Sl alist_0 list_0 clist_0) list_0]) ⟨_, σ0, fr_join ⟨rfl, rfl, rfl, rfl, trivial⟩, rfl, H.sel' [0] rfl rfl⟩ ?_
   clear h H
   rintro s3 a w o ⟨ρ, σ4, rfl, rfl, H⟩ h hres
   refine c_seq ?_
   refine rg ?_
   refine st (v := (B (decide (s3.2 < (list_0.length : Int))))) (rv_lss (a := s3.2) (b := (list_0.length : Int)) rfl rfl) ?_
   refine w_end ?_
   refine q_then ?_
   refine c_seq ?_
   refine cd_cond (decide (s3.2 < (list_0.length : Int))) rfl (fun hb5 => ?_) (fun hb5 => ?_)
   ·replace h := bif_t hb5 h
    refine c_skip ?_
    refine q_then ?_
    refine c_seq ?_
    refine c_blk ?_
    refine c_seq ?_
    refine rg ?_
    obtain ⟨x6, hx7, h'⟩ := bind_some h
    clear h
    have h := h'; clear h'
    obtain ⟨b9, o10, hi8, -⟩ := (H.ro 0 rfl).ix hx7
    refine st (v := (pt b9 o10)) (rv_ix Try.underlying37 ti63 rfl rfl hi8) ?_
    obtain ⟨_, ⟨_, _, rfl, rfl, ⟨_, _, rfl, ⟨_, rfl, hR15⟩, rfl⟩⟩, hl11, hc12⟩ := ((H.ro 0 rfl).at hx7 hi8).cells
    obtain ⟨a13, c14, rfl⟩ := hR15.isSl
    replace H := H.add (d := Ch.ro 0 (Sl a13 x6.2.1 c14) x6.2.1) hR15 (fun _ h => h)
    clear hR15
    refine st (v := (.agg #[(I x6.1), (Sl a13 x6.2.1 c14), (I x6.2.2)])) (rv_load Try.underlying63 rfl ti63 rfl hl11 hc12) ?_
    refine st_ex (ex_alloc (cs := [(I 0), (.slice none 0 0), (I 0)]) H hn0 ti63 rfl) wn ?_
    rintro _ σ17 ⟨b16, rfl, H, -⟩
    refine st_exS (ex_store_box (k := 0) (cs := [(I 0), (.slice none 0 0), (I 0)]) (vs := [(I x6.1), (Sl a13 x6.2.1 c14), (I x6.2.2)]) (cs' := [(I x6.1), (Sl a13 x6.2.1 c14), (I x6.2.2)]) H (i := 0) rfl ti63 rfl rfl rfl rfl rfl (Nat.le_of_ble_eq_true rfl) (by simp [plain]) rfl) wn ?_
    rintro σ18 ⟨H, -⟩
    refine w_end ?_
    refine q_then ?_
    refine c_seq ?_
    refine c_seq ?_
    obtain ⟨o19, hj, h'⟩ := bind_some h
    clear h
    refine c_cut (fun e a w => e = .normal ∧ ∃ (ρ : Nat → Value) (σ : St), a = fr 27 (updL ρ [(5, (pt b16 0)), (9, (Sl alist_0 list_0 clist_0)), (10, (I (list_0.length : Int))), (11, (I s3.2)), (23, (B o19))]) ∧ w = σ.w ∧ Hp S0 σ0 σ [Ch.ro 0 (Sl a13 x6.2.1 c14) x6.2.1, Ch.bx n0 b16 0 [(I x6.1), (Sl a13 x6.2.1 c14), (I x6.2.2)] [] [], Ch.ro 0 (Sl alist_0 list_0 clist_0) list_0]) ?_ ?_
    ·clear h'
     rename _ = some o19 => h
     refine rg ?_
     have hc20 := H.cells 0 rfl
     refine st (v := (.agg #[(I x6.1), (Sl a13 x6.2.1 c14), (I x6.2.2)])) (rv_load (cs := [(I x6.1), (Sl a13 x6.2.1 c14), (I x6.2.2)]) Try.underlying63 rfl ti63 rfl rfl hc20) ?_
     obtain ⟨r21, hx22, h'⟩ := bind_some h
     clear h
     have h := h'; clear h'
     have hc23 := c_impl_validItem (ax_0_1 := a13) (cx_0_1 := c14) hx22
     refine st_call (cx_call hc23 (ent_f hc23.fn rfl) hn0 (show Hp S0 σ0 _ ([Ch.ro 0 (Sl a13 x6.2.1 c14) x6.2.1] ++ [Ch.bx n0 b16 0 [(I x6.1), (Sl a13 x6.2.1 c14), (I x6.2.2)] [] [], Ch.ro 0 (Sl a13 x6.2.1 c14) x6.2.1, Ch.ro 0 (Sl alist_0 list_0 clist_0) list_0]) from (H.sel' [1, 0, 1, 2] rfl rfl))) wn ?_
     rintro _ σ24 ⟨_, ⟨rfl, rfl⟩, H, -⟩
     replace H : Hp S0 σ0 σ24 [Ch.bx n0 b16 0 [(I x6.1), (Sl a13 x6.2.1 c14), (I x6.2.2)] [] [], Ch.ro 0 (Sl a13 x6.2.1 c14) x6.2.1, Ch.ro 0 (Sl alist_0 list_0 clist_0) list_0] := H
     refine st (v := (B (!r21))) (rv_not rfl) ?_
     refine st (v := (B (!r21))) (rv_move rfl) ?_
     rcases Bool.eq_false_or_eq_true (!r21) with hb25 | hb25
     ·replace h := bif_t hb25 h
      refine st_skip (congrArg some hb25) ?_
      refine st_skip (congrArg some hb25) ?_
      refine st_skip (congrArg some hb25) ?_
      refine st_skip (congrArg some hb25) ?_
      refine st (v := (B true)) (rv_pick_t (congrArg B hb25) rfl) ?_
      refine w_end ?_
      obtain rfl := Option.some.inj h
      exact ⟨rfl, _, σ24, fr_join ⟨rfl, rfl, rfl, rfl, rfl, trivial⟩, rfl, H.sel' [1, 0, 2] rfl rfl⟩
     ·replace h := bif_f hb25 h
      refine st_g (v := (pt b16 0)) (congrArg some hb25) (rv_fieldAddr (off := 0) (ft := 3) Try.underlying63 rfl ti3 rfl rfl) ?_
      have hc26 := H.cell (u := (I x6.1)) (o' := 0) 0 0 rfl rfl rfl
      refine st_g (v := (I x6.1)) (congrArg some hb25) (rv_load1 Try.underlying3 rfl rfl hc26) ?_
      refine st_g (v := (I s3.1)) (congrArg some hb25) (rv_move rfl) ?_
      refine st_g (v := (B (decide (x6.1 ≤ s3.1)))) (congrArg some hb25) (rv_leq (a := x6.1) (b := s3.1) rfl rfl) ?_
      refine st (v := (B (decide (x6.1 ≤ s3.1)))) (rv_pick_f (congrArg B hb25) rfl) ?_
      refine w_end ?_
      obtain rfl := Option.some.inj h
      exact ⟨rfl, _, σ24, fr_join ⟨rfl, rfl, rfl, rfl, rfl, trivial⟩, rfl, H.sel' [1, 0, 2] rfl rfl⟩
    ·clear hj
     have h := h'
     clear h' H
     rintro e a w ⟨rfl, ρ, σ27, rfl, rfl, H⟩
     refine q_then ?_
     refine cd_cond o19 rfl (fun hb28 => ?_) (fun hb28 => ?_)
     ·replace h := bif_t hb28 h
      refine c_seq ?_
      refine rg ?_
      refine st (v := (B false)) (rv_assign rfl) ?_
      refine w_end ?_
      refine q_then ?_
      refine c_ret ?_
      refine q_then_r ?_
      refine q_blk_r ?_
      refine q_then_r ?_
      refine q_then_r ?_
      refine q_blk_r ?_
      obtain rfl := Option.some.inj h
      obtain rfl := hres _ rfl
      exact .inr (⟨_, rfl, rfl, _, σ27, fr_join ⟨rfl, trivial⟩, rfl, H.sel' [] rfl rfl⟩)
     ·replace h := bif_f hb28 h
      refine c_skip ?_
      refine q_then ?_
      refine rg ?_
      refine st (v := (pt b16 0)) (rv_fieldAddr (off := 0) (ft := 3) Try.underlying63 rfl ti3 rfl rfl) ?_
      have hc29 := H.cell (u := (I x6.1)) (o' := 0) 1 0 rfl rfl rfl
      refine st (v := (I x6.1)) (rv_load1 Try.underlying3 rfl rfl hc29) ?_
      refine st (v := (I x6.1)) (rv_assign rfl) ?_
      refine w_end ?_
      refine q_blk ?_
      refine q_then ?_
      refine rg ?_
      refine st (v := (I (w64 (s3.2 + 1)))) (rv_add (a := s3.2) (b := 1) rfl rfl) ?_
      refine st (v := (I (w64 (s3.2 + 1)))) (rv_move rfl) ?_
      refine w_end ?_
      refine q_then ?_
      obtain rfl := Option.some.inj h
      exact ⟨_, rfl, _, σ27, fr_join ⟨rfl, rfl, rfl, rfl, trivial⟩, rfl, H.sel' [2] rfl rfl⟩
   ·replace h := bif_f hb5 h
    refine c_exit ?_
    refine q_then_x ?_
    refine q_then_x ?_
    refine q_blk_hit ?_
    obtain rfl := Option.some.inj h
    obtain rfl := hres _ rfl
    exact .inl ⟨_, rfl, rfl, _, σ4, fr_join trivial, rfl, H.sel' [] rfl rfl⟩
  ·clear hj
   have h := h'
   clear h' H
   rintro e a w (⟨t30, rfl, rfl, ρ, σ31, rfl, rfl, H⟩ | ⟨t32, rfl, rfl, ρ, σ33, rfl, rfl, H⟩)
   ·replace h := selim_l h
    refine q_then ?_
    refine c_seq ?_
    refine rg ?_
    refine st (v := (B true)) (rv_assign rfl) ?_
    refine w_end ?_
    refine q_then ?_
    refine c_ret ?_
    obtain rfl := Option.some.inj h
    exact fin_ret (v := (B true)) (results_ok Try.results57 (res_tmp (v := (B true)) rfl res_nil) rfl) ⟨rfl, rfl⟩ (H.sel' [] rfl rfl)
   ·replace h := selim_r h
    refine q_then_r ?_
    obtain rfl := Option.some.inj h
    exact fin_ret (v := (B t32)) (results_ok Try.results57 (res_tmp (v := (B t32)) rfl res_nil) rfl) ⟨rfl, rfl⟩ (H.sel' [] rfl rfl)

theorem c_impl_validKind {kind_0 : Int}  {r : Bool} (h : M.impl_validKind kind_0 = some r) :
    Cal2 Try.prog 65 [(I kind_0)] [] (fun n0 v L => v = (B r) ∧ L = []) := by
 refine cal2 (n := 9) Try.func65 rfl rfl rfl rfl ?_
 intro S0 σ0 n0 hn0 H
 unfold M.impl_validKind at h
 refine c_seq ?_
 refine rg ?_
 refine st (v := (B false)) (rv_assign rfl) ?_
 refine w_end ?_
 refine q_then ?_
 refine c_seq ?_
 refine rg ?_
 refine st (v := (I kind_0)) (rv_move rfl) ?_
 refine st (v := (B (decide (1 ≤ kind_0)))) (rv_geq (a := kind_0) (b := 1) rfl rfl) ?_
 refine st (v := (B (decide (1 ≤ kind_0)))) (rv_move rfl) ?_
 rcases Bool.eq_false_or_eq_true (decide (1 ≤ kind_0)) with hb1 | hb1
 ·replace h := bif_t hb1 h
  refine st_g (v := (I kind_0)) (congrArg some hb1) (rv_move rfl) ?_
  refine st_g (v := (B (decide (kind_0 ≤ 4)))) (congrArg some hb1) (rv_leq (a := kind_0) (b := 4) rfl rfl) ?_
  refine st (v := (B (decide (kind_0 ≤ 4)))) (rv_pick_t (congrArg B hb1) rfl) ?_
  refine st (v := (B (decide (kind_0 ≤ 4)))) (rv_assign rfl) ?_
  refine w_end ?_
  refine q_then ?_
  refine c_ret ?_
  obtain rfl := Option.some.inj h
  exact fin_ret (v := (B (decide (kind_0 ≤ 4)))) (results_ok Try.results65 (res_tmp (v := (B (decide (kind_0 ≤ 4)))) rfl res_nil) rfl) ⟨rfl, rfl⟩ (H.sel' [] rfl rfl)
 ·replace h := bif_f hb1 h
  refine st_skip (congrArg some hb1) ?_
  refine st_skip (congrArg some hb1) ?_
  refine st (v := (B false)) (rv_pick_f (congrArg B hb1) rfl) ?_
  refine st (v := (B false)) (rv_assign rfl) ?_
  refine w_end ?_
  refine q_then ?_
  refine c_ret ?_
  obtain rfl := Option.some.inj h
  exact fin_ret (v := (B false)) (results_ok Try.results65 (res_tmp (v := (B false)) rfl res_nil) rfl) ⟨rfl, rfl⟩ (H.sel' [] rfl rfl)

theorem c_impl_distanceOf {kind_0 : Int} {gaps_1 : List Int} (hlgaps_1 : gaps_1.length = 4) {r : Int} (h : M.impl_distanceOf kind_0 gaps_1 = some r) :
    Cal2 Try.prog 92 [(I kind_0), (.agg (List.map I gaps_1).toArray)] [] (fun n0 v L => v = (I r) ∧ L = []) := by
 refine cal2 (n := 38) Try.func92 rfl rfl rfl rfl ?_
 intro S0 σ0 n0 hn0 H
 unfold M.impl_distanceOf at h
 refine c_seq ?_
 refine rg ?_
 refine st_ex (ex_box (cs := (List.map I gaps_1)) H hn0 rfl rfl) wn ?_
 rintro _ σ2 ⟨b1, rfl, H, -⟩
 refine st (v := (I 0)) (rv_assign rfl) ?_
 refine w_end ?_
 refine q_then ?_
 refine c_seq ?_
 refine rg ?_
 refine st (v := (I 0)) (rv_assign rfl) ?_
 refine w_end ?_
 refine q_then ?_
 refine c_seq ?_
 refine c_seq ?_
 refine rg ?_
 have hc3 := H.cells 0 rfl
 refine st (v := (.agg (List.map I gaps_1).toArray)) (rv_load (cs := (List.map I gaps_1)) Try.underlying57 rfl ti57 rfl (by rw [List.length_map]; exact hlgaps_1) hc3) ?_
 refine st (v := (I 0)) (rv_move rfl) ?_
 refine w_end ?_
 refine q_then ?_
 obtain ⟨o4, hj, h'⟩ := bind_some h
 clear h
 refine c_cut (fun e a w => (∃ t, o4 = (.inl t) ∧ e = .normal ∧ ∃ (ρ : Nat → Value) (σ : St), a = fr 38 (updL ρ [(5, (I t))]) ∧ w = σ.w ∧ Hp S0 σ0 σ []) ∨ (∃ t, o4 = (.inr t) ∧ e = .ret ∧ ∃ (ρ : Nat → Value) (σ : St), a = fr 38 (updL ρ [(4, (I t))]) ∧ w = σ.w ∧ Hp S0 σ0 σ [])) ?_ ?_
 ·clear h'
  rename _ = some o4 => h
  refine c_blk ?_
  refine wp_loopM _ h (fun s5 a w => ∃ (ρ : Nat → Value) (σ : St), a = fr 38 (updL ρ [(0, (I kind_0)), (5, (I s5.1)), (8, (.agg (List.map I gaps_1).toArray)), (9, (I s5.2))]) ∧ w = σ.w ∧ Hp S0 σ0 σ []) ⟨_, σ2, fr_join ⟨rfl, rfl, rfl, rfl, trivial⟩, rfl, H.sel' [] rfl rfl⟩ ?_
  clear h H
  rintro s5 a w o ⟨ρ, σ6, rfl, rfl, H⟩ h hres
  refine c_seq ?_
  refine rg ?_
  refine st (v := (B (decide (s5.2 < 4)))) (rv_lss (a := s5.2) (b := 4) rfl rfl) ?_
  refine w_end ?_
  refine q_then ?_
  refine c_seq ?_
  refine cd_cond (decide (s5.2 < 4)) rfl (fun hb7 => ?_) (fun hb7 => ?_)
  ·replace h := bif_t hb7 h
   refine c_skip ?_
   refine q_then ?_
   refine c_seq ?_
   obtain ⟨o8, hj, h'⟩ := bind_some h
   clear h
   refine c_cut (fun e a w => (∃ t, o8 = (.inl t) ∧ e = .normal ∧ ∃ (ρ : Nat → Value) (σ : St), a = fr 38 (updL ρ [(0, (I kind_0)), (5, (I t)), (8, (.agg (List.map I gaps_1).toArray)), (9, (I s5.2))]) ∧ w = σ.w ∧ Hp S0 σ0 σ []) ∨ (∃ t, o8 = (.inr t) ∧ e = .ret ∧ ∃ (ρ : Nat → Value) (σ : St), a = fr 38 (updL ρ [(4, (I t))]) ∧ w = σ.w ∧ Hp S0 σ0 σ [])) ?_ ?_
   ·clear h'
    rename _ = some o8 => h
    refine c_blk ?_
    refine c_seq ?_
    refine rg ?_
    obtain ⟨x9, hx10, h'⟩ := bind_some h
    clear h
    have h := h'; clear h'
    refine st (v := (I x9)) (rv_idx Try.underlying57 ti3 Try.underlying3 rfl rfl hx10 hlgaps_1) ?_
    refine st (v := (I x9)) (rv_assign rfl) ?_
    refine w_end ?_
    refine q_then ?_
    refine c_seq ?_
    refine rg ?_
    refine st (v := (I kind_0)) (rv_move rfl) ?_
    refine w_end ?_
    refine q_then ?_
    refine c_blk ?_
    refine c_seq ?_
    refine rg ?_
    refine st (v := (B (kind_0 == 1))) (rv_eql (a := kind_0) (b := 1) rfl rfl) ?_
    refine st (v := (B (kind_0 == 1))) (rv_assign rfl) ?_
    refine w_end ?_
    refine q_then ?_
    refine cd_cond (kind_0 == 1) rfl (fun hb11 => ?_) (fun hb11 => ?_)
    ·replace h := bif_t hb11 h
     refine rg ?_
     refine st (v := (I s5.1)) (rv_move rfl) ?_
     refine st (v := (I x9)) (rv_move rfl) ?_
     refine st (v := (I (w64 (s5.1 + x9)))) (rv_add (a := s5.1) (b := x9) rfl rfl) ?_
     refine st (v := (I (w64 (s5.1 + x9)))) (rv_assign rfl) ?_
     refine w_end ?_
     refine q_blk ?_
     refine q_blk ?_
     obtain rfl := Option.some.inj h
     exact .inl ⟨_, rfl, rfl, _, σ6, fr_join ⟨rfl, rfl, rfl, rfl, trivial⟩, rfl, H.sel' [] rfl rfl⟩
    ·replace h := bif_f hb11 h
     refine c_seq ?_
     refine rg ?_
     refine st (v := (B (kind_0 == 2))) (rv_eql (a := kind_0) (b := 2) rfl rfl) ?_
     refine st (v := (B (kind_0 == 2))) (rv_assign rfl) ?_
     refine w_end ?_
     refine q_then ?_
     refine cd_cond (kind_0 == 2) rfl (fun hb12 => ?_) (fun hb12 => ?_)
     ·replace h := bif_t hb12 h
      refine rg ?_
      refine st (v := (I s5.1)) (rv_move rfl) ?_
      refine st (v := (I x9)) (rv_move rfl) ?_
      refine st (v := (I (max s5.1 x9))) (rv_max rfl rfl) ?_
      refine st (v := (I (max s5.1 x9))) (rv_assign rfl) ?_
      refine w_end ?_
      refine q_blk ?_
      refine q_blk ?_
      obtain rfl := Option.some.inj h
      exact .inl ⟨_, rfl, rfl, _, σ6, fr_join ⟨rfl, rfl, rfl, rfl, trivial⟩, rfl, H.sel' [] rfl rfl⟩
     ·replace h := bif_f hb12 h
      refine c_seq ?_
      refine rg ?_
      refine st (v := (B (kind_0 == 3))) (rv_eql (a := kind_0) (b := 3) rfl rfl) ?_
      refine st (v := (B (kind_0 == 3))) (rv_assign rfl) ?_
      refine w_end ?_
      refine q_then ?_
      refine cd_cond (kind_0 == 3) rfl (fun hb13 => ?_) (fun hb13 => ?_)
      ·replace h := bif_t hb13 h
       refine rg ?_
       refine st (v := (I s5.1)) (rv_move rfl) ?_
       refine st (v := (I x9)) (rv_move rfl) ?_
       refine st (v := (I x9)) (rv_move rfl) ?_
       refine st (v := (I (w64 (x9 * x9)))) (rv_mul (a := x9) (b := x9) rfl rfl) ?_
       refine st (v := (I (w64 (s5.1 + (w64 (x9 * x9)))))) (rv_add (a := s5.1) (b := (w64 (x9 * x9))) rfl rfl) ?_
       refine st (v := (I (w64 (s5.1 + (w64 (x9 * x9)))))) (rv_assign rfl) ?_
       refine w_end ?_
       refine q_blk ?_
       refine q_blk ?_
       obtain rfl := Option.some.inj h
       exact .inl ⟨_, rfl, rfl, _, σ6, fr_join ⟨rfl, rfl, rfl, rfl, trivial⟩, rfl, H.sel' [] rfl rfl⟩
      ·replace h := bif_f hb13 h
       refine c_seq ?_
       refine rg ?_
       refine st (v := (B (kind_0 == 4))) (rv_eql (a := kind_0) (b := 4) rfl rfl) ?_
       refine st (v := (B (kind_0 == 4))) (rv_assign rfl) ?_
       refine w_end ?_
       refine q_then ?_
       refine cd_cond (kind_0 == 4) rfl (fun hb14 => ?_) (fun hb14 => ?_)
       ·replace h := bif_t hb14 h
        refine rg ?_
        refine st (v := (I s5.1)) (rv_move rfl) ?_
        refine st (v := (I x9)) (rv_move rfl) ?_
        refine st (v := (I (min x9 1))) (rv_min rfl rfl) ?_
        refine st (v := (I (w64 (s5.1 + (min x9 1))))) (rv_add (a := s5.1) (b := (min x9 1)) rfl rfl) ?_
        refine st (v := (I (w64 (s5.1 + (min x9 1))))) (rv_assign rfl) ?_
        refine w_end ?_
        refine q_blk ?_
        refine q_blk ?_
        obtain rfl := Option.some.inj h
        exact .inl ⟨_, rfl, rfl, _, σ6, fr_join ⟨rfl, rfl, rfl, rfl, trivial⟩, rfl, H.sel' [] rfl rfl⟩
       ·replace h := bif_f hb14 h
        refine c_seq ?_
        refine rg ?_
        refine st (v := (I (-1))) (rv_assign rfl) ?_
        refine w_end ?_
        refine q_then ?_
        refine c_ret ?_
        refine q_blk_r ?_
        refine q_blk_r ?_
        obtain rfl := Option.some.inj h
        exact .inr (⟨_, rfl, rfl, _, σ6, fr_join ⟨rfl, trivial⟩, rfl, H.sel' [] rfl rfl⟩)
   ·clear hj
    have h := h'
    clear h' H
    rintro e a w (⟨t15, rfl, rfl, ρ, σ16, rfl, rfl, H⟩ | ⟨t17, rfl, rfl, ρ, σ18, rfl, rfl, H⟩)
    ·replace h := selim_l h
     refine q_then ?_
     refine rg ?_
     refine st (v := (I (w64 (s5.2 + 1)))) (rv_add (a := s5.2) (b := 1) rfl rfl) ?_
     refine st (v := (I (w64 (s5.2 + 1)))) (rv_move rfl) ?_
     refine w_end ?_
     refine q_then ?_
     obtain rfl := Option.some.inj h
     exact ⟨_, rfl, _, σ16, fr_join ⟨rfl, rfl, rfl, rfl, trivial⟩, rfl, H.sel' [] rfl rfl⟩
    ·replace h := selim_r h
     refine q_then_r ?_
     refine q_then_r ?_
     refine q_blk_r ?_
     obtain rfl := Option.some.inj h
     obtain rfl := hres _ rfl
     exact .inr (⟨_, rfl, rfl, _, σ18, fr_join ⟨rfl, trivial⟩, rfl, H.sel' [] rfl rfl⟩)
  ·replace h := bif_f hb7 h
   refine c_exit ?_
   refine q_then_x ?_
   refine q_then_x ?_
   refine q_blk_hit ?_
   obtain rfl := Option.some.inj h
   obtain rfl := hres _ rfl
   exact .inl ⟨_, rfl, rfl, _, σ6, fr_join ⟨rfl, trivial⟩, rfl, H.sel' [] rfl rfl⟩
 ·clear hj
  have h := h'
  clear h' H
  rintro e a w (⟨t19, rfl, rfl, ρ, σ20, rfl, rfl, H⟩ | ⟨t21, rfl, rfl, ρ, σ22, rfl, rfl, H⟩)
  ·replace h := selim_l h
   refine q_then ?_
   refine c_seq ?_
   refine rg ?_
   refine st (v := (I t19)) (rv_move rfl) ?_
   refine st (v := (I t19)) (rv_assign rfl) ?_
   refine w_end ?_
   refine q_then ?_
   refine c_ret ?_
   obtain rfl := Option.some.inj h
   exact fin_ret (v := (I t19)) (results_ok Try.results92 (res_tmp (v := (I t19)) rfl res_nil) rfl) ⟨rfl, rfl⟩ (H.sel' [] rfl rfl)
  ·replace h := selim_r h
   refine q_then_r ?_
   obtain rfl := Option.some.inj h
   exact fin_ret (v := (I t21)) (results_ok Try.results92 (res_tmp (v := (I t21)) rfl res_nil) rfl) ⟨rfl, rfl⟩ (H.sel' [] rfl rfl)

theorem c_impl_gapsOf {a_0 : List Int} {b_1 : List Int} (hla_0 : a_0.length = 4) (hlb_1 : b_1.length = 4) {r : (List Int)} (h : M.impl_gapsOf a_0 b_1 = some r) :
    Cal2 Try.prog 93 [(.agg (List.map I a_0).toArray), (.agg (List.map I b_1).toArray)] [] (fun n0 v L => v = (.agg (List.map I r).toArray) ∧ L = [] ∧ r.length = 4) := by
 refine cal2 (n := 29) Try.func93 rfl rfl rfl rfl ?_
 intro S0 σ0 n0 hn0 H
 unfold M.impl_gapsOf at h
 refine c_seq ?_
 refine rg ?_
 refine st_ex (ex_box (cs := (List.map I a_0)) H hn0 rfl rfl) wn ?_
 rintro _ σ2 ⟨b1, rfl, H, -⟩
 refine st_ex (ex_box (cs := (List.map I b_1)) H hn0 rfl rfl) wn ?_
 rintro _ σ4 ⟨b3, rfl, H, -⟩
 refine st_ex (ex_alloc (cs := (List.map I (List.replicate 4 0))) H hn0 ti57 rfl) wn ?_
 rintro _ σ6 ⟨b5, rfl, H, -⟩
 refine w_end ?_
 refine q_then ?_
 refine c_seq ?_
 refine rg ?_
 refine st_ex (ex_alloc (cs := (List.map I (List.replicate 4 0))) H hn0 ti57 rfl) wn ?_
 rintro _ σ8 ⟨b7, rfl, H, -⟩
 refine w_end ?_
 refine q_then ?_
 refine c_seq ?_
 refine c_seq ?_
 refine rg ?_
 refine st (v := (I 0)) (rv_move rfl) ?_
 refine w_end ?_
 refine q_then ?_
 obtain ⟨o9, hj, h'⟩ := bind_some h
 clear h
 refine c_cut (fun e a w => e = .normal ∧ ∃ (ρ : Nat → Value) (σ : St), a = fr 29 (updL ρ [(4, (pt b5 0)), (5, (pt b7 0))]) ∧ w = σ.w ∧ Hp S0 σ0 σ [Ch.bx n0 b7 0 (List.map I o9) [] [], Ch.bx n0 b5 0 (List.map I (List.replicate 4 0)) [] []] ∧ o9.length = 4) ?_ ?_
 ·clear h'
  rename _ = some o9 => h
  refine c_blk ?_
  refine wp_loopM _ h (fun s10 a w => ∃ (ρ : Nat → Value) (σ : St), a = fr 29 (updL ρ [(2, (pt b1 0)), (3, (pt b3 0)), (4, (pt b5 0)), (5, (pt b7 0)), (7, (I s10.2))]) ∧ w = σ.w ∧ Hp S0 σ0 σ [Ch.bx n0 b7 0 (List.map I s10.1) [] [], Ch.bx n0 b1 0 (List.map I a_0) [] [], Ch.bx n0 b3 0 (List.map I b_1) [] [], Ch.bx n0 b5 0 (List.map I (List.replicate 4 0)) [] []] ∧ s10.1.length = 4) ⟨_, σ8, fr_join ⟨rfl, rfl, rfl, rfl, rfl, trivial⟩, rfl, H.sel' [0, 3, 2, 1] rfl rfl, rfl⟩ ?_
  clear h H
  rintro s10 a w o ⟨ρ, σ11, rfl, rfl, H, hl12⟩ h hres
  refine c_seq ?_
  refine rg ?_
  refine st (v := (B (decide (s10.2 < 4)))) (rv_lss (a := s10.2) (b := 4) rfl rfl) ?_
  refine w_end ?_
  refine q_then ?_
  refine c_seq ?_
  refine cd_cond (decide (s10.2 < 4)) rfl (fun hb13 => ?_) (fun hb13 => ?_)
  ·replace h := bif_t hb13 h
   refine c_skip ?_
   refine q_then ?_
   refine c_seq ?_
   refine c_blk ?_
   refine c_seq ?_
   refine rg ?_
   refine st (v := (I s10.2)) (rv_move rfl) ?_
   refine st (v := (I s10.2)) (rv_assign rfl) ?_
   refine w_end ?_
   refine q_then ?_
   refine rgP (σ := σ11) 16 (by kernel_rfl) (by kernel_rfl) (by kernel_rfl) ?_
   refine sq (v := (I s10.2)) (rv_move rfl) ?_
   refine sq (v := (I s10.2)) (rv_move rfl) ?_
   obtain ⟨x14, hx15, h'⟩ := bind_some h
   clear h
   have h := h'; clear h'
   have hl16 := gidx_lt hx15 hla_0
   refine sq (v := (pt b1 (0 + s10.2.toNat * 1))) (rv_indexAddr_array Try.underlying57 ti3 rfl rfl hl16.1 hl16.2) ?_
   have hc17 := Hp.arrCell H 1 rfl hx15
   refine sq (v := (I x14)) (rv_load1 Try.underlying3 rfl rfl hc17) ?_
   refine sq (v := (I s10.2)) (rv_move rfl) ?_
   obtain ⟨x18, hx19, h'⟩ := bind_some h
   clear h
   have h := h'; clear h'
   have hl20 := gidx_lt hx19 hlb_1
   refine sq (v := (pt b3 (0 + s10.2.toNat * 1))) (rv_indexAddr_array Try.underlying57 ti3 rfl rfl hl20.1 hl20.2) ?_
   have hc21 := Hp.arrCell H 2 rfl hx19
   refine sq (v := (I x18)) (rv_load1 Try.underlying3 rfl rfl hc21) ?_
   refine sq (v := (I (w64 (x14 - x18)))) (rv_sub (a := x14) (b := x18) rfl rfl) ?_
   refine sq (v := (I s10.2)) (rv_move rfl) ?_
   obtain ⟨x22, hx23, h'⟩ := bind_some h
   clear h
   have h := h'; clear h'
   have hl24 := gidx_lt hx23 hlb_1
   refine sq (v := (pt b3 (0 + s10.2.toNat * 1))) (rv_indexAddr_array Try.underlying57 ti3 rfl rfl hl24.1 hl24.2) ?_
   have hc25 := Hp.arrCell H 2 rfl hx23
   refine sq (v := (I x22)) (rv_load1 Try.underlying3 rfl rfl hc25) ?_
   refine sq (v := (I s10.2)) (rv_move rfl) ?_
   obtain ⟨x26, hx27, h'⟩ := bind_some h
   clear h
   have h := h'; clear h'
   have hl28 := gidx_lt hx27 hla_0
   refine sq (v := (pt b1 (0 + s10.2.toNat * 1))) (rv_indexAddr_array Try.underlying57 ti3 rfl rfl hl28.1 hl28.2) ?_
   have hc29 := Hp.arrCell H 1 rfl hx27
   refine sq (v := (I x26)) (rv_load1 Try.underlying3 rfl rfl hc29) ?_
   refine sq (v := (I (w64 (x22 - x26)))) (rv_sub (a := x22) (b := x26) rfl rfl) ?_
   refine sq (v := (I (max (w64 (x14 - x18)) (w64 (x22 - x26))))) (rv_max rfl rfl) ?_
   refine sq_end ?_
   intro σ30 hm31
   replace H := H.grow (hm31.mono fun _ h => h); clear hm31
   obtain ⟨x32, hx33, h'⟩ := bind_some h
   clear h
   have h := h'; clear h'
   have hl34 := gidx_lt hx33 hl12
   refine st (v := (pt b7 (0 + s10.2.toNat * 1))) (rv_indexAddr_array Try.underlying57 ti3 rfl rfl hl34.1 hl34.2) ?_
   have hl35 := gidx_lt hx33 hl12
   refine st_exS (ex_store_box (k := s10.2.toNat * 1) (vs := [(I (max (w64 (x14 - x18)) (w64 (x22 - x26))))]) (cs' := (List.map I (s10.1.set s10.2.toNat (max (w64 (x14 - x18)) (w64 (x22 - x26)))))) H (i := 0) rfl ti3 rfl rfl rfl rfl rfl (by rw [List.length_map, hl12]; simp; omega) (by simp [plain]) (arr_set' _ _ _)) wn ?_
   rintro σ36 ⟨H, -⟩
   refine w_end ?_
   refine q_blk ?_
   refine q_then ?_
   refine rg ?_
   refine st (v := (I (w64 (s10.2 + 1)))) (rv_add (a := s10.2) (b := 1) rfl rfl) ?_
   refine st (v := (I (w64 (s10.2 + 1)))) (rv_move rfl) ?_
   refine w_end ?_
   refine q_then ?_
   obtain rfl := Option.some.inj h
   exact ⟨_, rfl, _, σ36, fr_join ⟨rfl, rfl, rfl, rfl, rfl, trivial⟩, rfl, H.sel' [0, 1, 2, 3] rfl rfl, (set_len hl12)⟩
  ·replace h := bif_f hb13 h
   refine c_exit ?_
   refine q_then_x ?_
   refine q_then_x ?_
   refine q_blk_hit ?_
   obtain rfl := Option.some.inj h
   obtain rfl := hres _ rfl
   exact ⟨rfl, _, σ11, fr_join ⟨rfl, rfl, trivial⟩, rfl, H.sel' [0, 3] rfl rfl, hl12⟩
 ·clear hj
  have h := h'
  clear h' H
  rintro e a w ⟨rfl, ρ, σ37, rfl, rfl, H, hl38⟩
  refine q_then ?_
  refine c_seq ?_
  refine rg ?_
  have hc39 := H.cells 0 rfl
  refine st (v := (.agg (List.map I o9).toArray)) (rv_load (cs := (List.map I o9)) Try.underlying57 rfl ti57 rfl (by rw [List.length_map]; exact hl38) hc39) ?_
  refine st_exS (ex_store_box (k := 0) (cs := (List.map I (List.replicate 4 0))) (vs := (List.map I o9)) (cs' := (List.map I o9)) H (i := 1) rfl ti57 rfl rfl rfl rfl ((List.length_map _).trans hl38) (arr_fits (k := 4) hl38 rfl) (plain_ints _) (arr_all (k := 4) hl38 rfl)) wn ?_
  rintro σ40 ⟨H, -⟩
  refine w_end ?_
  refine q_then ?_
  refine c_ret ?_
  obtain rfl := Option.some.inj h
  exact fin_ret (v := (.agg (List.map I o9).toArray)) (results_ok Try.results93 (res_cell rfl (run_cellRes (cs := (List.map I o9)) Try.underlying57 rfl ti57 (by rw [List.length_map]; exact hl38) (H.cells 0 rfl)) res_nil) rfl) ⟨rfl, rfl, hl38⟩ (H.sel' [] rfl rfl)

theorem c_impl_Distance {kind_0 : Int} {a_1 : List Int} {b_2 : List Int} {aa_1 : Option Addr} {ca_1 : Nat} {ab_2 : Option Addr} {cb_2 : Nat} {r : Int} (h : M.impl_Distance kind_0 a_1 b_2 = some r) :
    Cal2 Try.prog 66 [(I kind_0), (Sl aa_1 a_1 ca_1), (Sl ab_2 b_2 cb_2)] [Ch.ro 0 (Sl aa_1 a_1 ca_1) a_1, Ch.ro 0 (Sl ab_2 b_2 cb_2) b_2] (fun n0 v L => v = (I r) ∧ L = []) := by
 refine cal2 (n := 24) Try.func66 rfl rfl rfl rfl ?_
 intro S0 σ0 n0 hn0 H
 unfold M.impl_Distance at h
 refine c_seq ?_
 refine rg ?_
 refine st (v := (I 0)) (rv_assign rfl) ?_
 refine w_end ?_
 refine q_then ?_
 refine c_seq ?_
 refine c_seq ?_
 obtain ⟨o1, hj, h'⟩ := bind_some h
 clear h
 refine c_cut (fun e a w => e = .normal ∧ ∃ (ρ : Nat → Value) (σ : St), a = fr 24 (updL ρ [(0, (I kind_0)), (1, (Sl aa_1 a_1 ca_1)), (2, (Sl ab_2 b_2 cb_2)), (14, (B o1))]) ∧ w = σ.w ∧ Hp S0 σ0 σ [Ch.ro 0 (Sl aa_1 a_1 ca_1) a_1, Ch.ro 0 (Sl ab_2 b_2 cb_2) b_2]) ?_ ?_
 ·clear h'
  rename _ = some o1 => h
  refine rg ?_
  refine st (v := (Sl aa_1 a_1 ca_1)) (rv_move rfl) ?_
  obtain ⟨r2, hx3, h'⟩ := bind_some h
  clear h
  have h := h'; clear h'
  have hc4 := c_impl_ValidVector (av_0 := aa_1) (cv_0 := ca_1) hx3
  refine st_call (cx_call hc4 (ent_f hc4.fn rfl) hn0 (show Hp S0 σ0 _ ([Ch.ro 0 (Sl aa_1 a_1 ca_1) a_1] ++ [Ch.ro 0 (Sl aa_1 a_1 ca_1) a_1, Ch.ro 0 (Sl ab_2 b_2 cb_2) b_2]) from (H.sel' [0, 0, 1] rfl rfl))) wn ?_
  rintro _ σ5 ⟨_, ⟨rfl, rfl⟩, H, -⟩
  replace H : Hp S0 σ0 σ5 [Ch.ro 0 (Sl aa_1 a_1 ca_1) a_1, Ch.ro 0 (Sl ab_2 b_2 cb_2) b_2] := H
  refine st (v := (B (!r2))) (rv_not rfl) ?_
  refine st (v := (B (!r2))) (rv_move rfl) ?_
  rcases Bool.eq_false_or_eq_true (!r2) with hb6 | hb6
  ·replace h := bif_t hb6 h
   refine st_skip (congrArg some hb6) ?_
   refine st_skip (congrArg some hb6) ?_
   refine st_skip (congrArg some hb6) ?_
   refine st (v := (B true)) (rv_pick_t (congrArg B hb6) rfl) ?_
   refine w_end ?_
   obtain rfl := Option.some.inj h
   exact ⟨rfl, _, σ5, fr_join ⟨rfl, rfl, rfl, rfl, trivial⟩, rfl, H.sel' [0, 1] rfl rfl⟩
  ·replace h := bif_f hb6 h
   refine st_g (v := (Sl ab_2 b_2 cb_2)) (congrArg some hb6) (rv_move rfl) ?_
   obtain ⟨r7, hx8, h'⟩ := bind_some h
   clear h
   have h := h'; clear h'
   have hc9 := c_impl_ValidVector (av_0 := ab_2) (cv_0 := cb_2) hx8
   refine st_call (cx_call hc9 (ent_f hc9.fn rfl) hn0 (show Hp S0 σ0 _ ([Ch.ro 0 (Sl ab_2 b_2 cb_2) b_2] ++ [Ch.ro 0 (Sl aa_1 a_1 ca_1) a_1, Ch.ro 0 (Sl ab_2 b_2 cb_2) b_2]) from (H.sel' [1, 0, 1] rfl rfl))) (wanted_yes rfl (by exact (congrArg some hb6))) ?_
   rintro _ σ10 ⟨_, ⟨rfl, rfl⟩, H, -⟩
   replace H : Hp S0 σ0 σ10 [Ch.ro 0 (Sl aa_1 a_1 ca_1) a_1, Ch.ro 0 (Sl ab_2 b_2 cb_2) b_2] := H
   refine st_g (v := (B (!r7))) (congrArg some hb6) (rv_not rfl) ?_
   refine st (v := (B (!r7))) (rv_pick_f (congrArg B hb6) rfl) ?_
   refine w_end ?_
   obtain rfl := Option.some.inj h
   exact ⟨rfl, _, σ10, fr_join ⟨rfl, rfl, rfl, rfl, trivial⟩, rfl, H.sel' [0, 1] rfl rfl⟩
 ·clear hj
  have h := h'
  clear h' H
  rintro e a w ⟨rfl, ρ, σ11, rfl, rfl, H⟩
  refine q_then ?_
  refine cd_cond o1 rfl (fun hb12 => ?_) (fun hb12 => ?_)
  ·replace h := bif_t hb12 h
   refine c_seq ?_
   refine rg ?_
   refine st (v := (I (-1))) (rv_assign rfl) ?_
   refine w_end ?_
   refine q_then ?_
   refine c_ret ?_
   refine q_then_r ?_
   obtain rfl := Option.some.inj h
   exact fin_ret (v := (I (-1))) (results_ok Try.results66 (res_tmp (v := (I (-1))) rfl res_nil) rfl) ⟨rfl, rfl⟩ (H.sel' [] rfl rfl)
  ·replace h := bif_f hb12 h
   refine c_skip ?_
   refine q_then ?_
   refine c_seq ?_
   obtain ⟨xs13, hx14, h'⟩ := bind_some h
   clear h
   have h := h'; clear h'
   obtain ⟨hl18, hq19⟩ := garr_some hx14
   clear hx14 hq19
   obtain ⟨b15, o16, rfl, hc17⟩ := (H.ro 0 rfl).arr (Nat.lt_of_lt_of_le (by decide) hl18)
   obtain ⟨xs20, hx21, h'⟩ := bind_some h
   clear h
   have h := h'; clear h'
   obtain ⟨hl25, hq26⟩ := garr_some hx21
   clear hx21 hq26
   obtain ⟨b22, o23, rfl, hc24⟩ := (H.ro 1 rfl).arr (Nat.lt_of_lt_of_le (by decide) hl25)
   obtain ⟨r27, hx28, h'⟩ := bind_some h
   clear h
   have h := h'; clear h'
   have hc29 := c_impl_gapsOf (by rw [List.length_take]; have := hl18; omega) (by rw [List.length_take]; have := hl25; omega) hx28
   have Hs := H
   refine rg2 (σ := σ11) (Nm := Unit) 8 [7] [[false], [true]] [[(0, 0), (1, 1)], [(0, 0)], [(0, 0)], [(0, 0)], [(0, 0)], [(0, 0)], [(0, 0)], [(0, 1)]] 1 [fun _ => fun σm => Hp S0 σ0 σm [Ch.ro 0 (Sl (some ⟨b15, o16, none⟩) a_1 ca_1) a_1, Ch.ro 0 (Sl (some ⟨b22, o23, none⟩) b_2 cb_2) b_2] ∧ Md (cov []) σ11 σm, fun _ => fun σm => Hp S0 σ0 σm [Ch.ro 0 (Sl (some ⟨b15, o16, none⟩) a_1 ca_1) a_1, Ch.ro 0 (Sl (some ⟨b22, o23, none⟩) b_2 cb_2) b_2] ∧ Md (cov []) σ11 σm ∧ r27.length = 4] [fun _ => (I kind_0), fun _ => (Sl (some ⟨b15, o16, none⟩) a_1 ca_1), fun _ => (.pointer (some ⟨b15, o16, none⟩)), fun _ => (.agg (List.map I (List.take 4 a_1)).toArray), fun _ => (Sl (some ⟨b22, o23, none⟩) b_2 cb_2), fun _ => (.pointer (some ⟨b22, o23, none⟩)), fun _ => (.agg (List.map I (List.take 4 b_2)).toArray), fun _ => (.agg (List.map I r27).toArray)] () (by kernel_rfl) (by kernel_rfl) ?_ ?_ ?_
   ·intro σm m0
    exact ⟨H.grow (m0.mono fun _ h => h.elim), m0⟩
   ·refine ac rfl (by
      intro k _nm ρ σm hJ hoff hdep
      have e0 := look_off (N := 24) (hoff 0 rfl) rfl
      exact dp_v (v := (I kind_0)) wn (rv_move e0) rfl hJ) ?_
    refine ac rfl (by
      intro k _nm ρ σm hJ hoff hdep
      have e1 := look_off (N := 24) (hoff 1 rfl) rfl
      exact dp_v (v := (Sl (some ⟨b15, o16, none⟩) a_1 ca_1)) wn (rv_move e1) rfl hJ) ?_
    refine ac rfl (by
      intro k _nm ρ σm hJ hoff hdep
      have e16 := hdep 1 rfl rfl 16 rfl
      exact dp_v (v := (.pointer (some ⟨b15, o16, none⟩))) wn (rv_arrPtr Try.underlying57 e16 hl18) rfl hJ) ?_
    refine all_cons (by
      refine ⟨?_, ?_⟩
      ·intro _nm ρ σm hJ hoff hdep
       have e17 := hdep 2 rfl rfl 17 rfl
       obtain ⟨H, m⟩ := id hJ
       replace hc17 := (Hs.ro 0 rfl).arr_md hc17 m
       exact dp_v (v := (.agg (List.map I (List.take 4 a_1)).toArray)) wn (rv_load (cs := List.map I (List.take 4 a_1)) Try.underlying57 rfl ti57 e17 (by rw [List.length_map, List.length_take]; have := hl18; omega) (arr_take hc17)) rfl hJ
      trivial) ?_
    refine ac rfl (by
      intro k _nm ρ σm hJ hoff hdep
      have e2 := look_off (N := 24) (hoff 2 rfl) rfl
      exact dp_v (v := (Sl (some ⟨b22, o23, none⟩) b_2 cb_2)) wn (rv_move e2) rfl hJ) ?_
    refine ac rfl (by
      intro k _nm ρ σm hJ hoff hdep
      have e19 := hdep 4 rfl rfl 19 rfl
      exact dp_v (v := (.pointer (some ⟨b22, o23, none⟩))) wn (rv_arrPtr Try.underlying57 e19 hl25) rfl hJ) ?_
    refine all_cons (by
      refine ⟨?_, ?_⟩
      ·intro _nm ρ σm hJ hoff hdep
       have e20 := hdep 5 rfl rfl 20 rfl
       obtain ⟨H, m⟩ := id hJ
       replace hc24 := (Hs.ro 1 rfl).arr_md hc24 m
       exact dp_v (v := (.agg (List.map I (List.take 4 b_2)).toArray)) wn (rv_load (cs := List.map I (List.take 4 b_2)) Try.underlying57 rfl ti57 e20 (by rw [List.length_map, List.length_take]; have := hl25; omega) (arr_take hc24)) rfl hJ
      trivial) ?_
    refine all_cons (by
      refine ⟨?_, ?_⟩
      ·intro _nm ρ σm hJ hoff hdep
       have e18 : look 24 ρ 18 = (.agg (List.map I (List.take 4 a_1)).toArray) := hdep 3 rfl rfl 18 rfl
       have e21 : look 24 ρ 21 = (.agg (List.map I (List.take 4 b_2)).toArray) := hdep 6 rfl rfl 21 rfl
       obtain ⟨H, m⟩ := id hJ
       refine dp_cx wn (cx_call hc29 (ent_f hc29.fn (by show [look 24 ρ 18, look 24 ρ 21] = _; rw [e18, e21])) hn0 (show Hp S0 σ0 _ ([] ++ [Ch.ro 0 (Sl (some ⟨b15, o16, none⟩) a_1 ca_1) a_1, Ch.ro 0 (Sl (some ⟨b22, o23, none⟩) b_2 cb_2) b_2]) from (H.sel' [0, 1] rfl rfl))) ?_
       rintro _ σq ⟨_, ⟨rfl, rfl, hl30⟩, H2, m2⟩
       exact ⟨_, (), rfl, rfl, ⟨H2.sel' [0, 1] rfl rfl, m.comp0 m2, hl30⟩, stab [0, 1, 2, 3, 4, 5, 6] (by kernel_rfl) ⟨rfl, rfl, rfl, rfl, rfl, rfl, rfl, trivial⟩⟩
      trivial) ?_
    exact all_nil
   ·intro _nm ρ σ31 hJ hoff hrel
    have e15 := hrel 0 rfl 15 rfl
    have e22 := hrel 7 rfl 22 rfl
    obtain ⟨H, -, hl30⟩ := (show Hp S0 σ0 σ31 [Ch.ro 0 (Sl (some ⟨b15, o16, none⟩) a_1 ca_1) a_1, Ch.ro 0 (Sl (some ⟨b22, o23, none⟩) b_2 cb_2) b_2] ∧ Md (cov []) σ11 σ31 ∧ r27.length = 4 from hJ)
    clear hJ Hs
    rw [fr_lookL (L := [(15, (I kind_0)), (22, (.agg (List.map I r27).toArray))]) ⟨e15, e22, trivial⟩]
    clear hoff hrel e15 e22
    obtain ⟨r32, hx33, h'⟩ := bind_some h
    clear h
    have h := h'; clear h'
    have hc34 := c_impl_distanceOf hl30 hx33
    refine st_call (cx_call hc34 (ent_f hc34.fn rfl) hn0 (show Hp S0 σ0 _ ([] ++ [Ch.ro 0 (Sl (some ⟨b15, o16, none⟩) a_1 ca_1) a_1, Ch.ro 0 (Sl (some ⟨b22, o23, none⟩) b_2 cb_2) b_2]) from (H.sel' [0, 1] rfl rfl))) wn ?_
    rintro _ σ35 ⟨_, ⟨rfl, rfl⟩, H, -⟩
    replace H : Hp S0 σ0 σ35 [Ch.ro 0 (Sl (some ⟨b15, o16, none⟩) a_1 ca_1) a_1, Ch.ro 0 (Sl (some ⟨b22, o23, none⟩) b_2 cb_2) b_2] := H
    refine st (v := (I r32)) (rv_assign rfl) ?_
    refine w_end ?_
    refine q_then ?_
    refine c_ret ?_
    obtain rfl := Option.some.inj h
    exact fin_ret (v := (I r32)) (results_ok Try.results66 (res_tmp (v := (I r32)) rfl res_nil) rfl) ⟨rfl, rfl⟩ (H.sel' [] rfl rfl)

theorem c_impl_ClosestPair {list_0 : List (Int × (List Int) × Int)} {kind_1 : Int} {alist_0 : Option Addr} {clist_0 : Nat} {r : Int × Int × Bool} (h : M.impl_ClosestPair list_0 kind_1 = some r) :
    Cal2 Try.prog 32 [(Sl alist_0 list_0 clist_0), (I kind_1)] [Ch.ro 0 (Sl alist_0 list_0 clist_0) list_0] (fun n0 v L => v = (.tuple #[(I r.1), (I r.2.1), (B r.2.2)]) ∧ L = []) := by
 refine cal2 (n := 62) Try.func32 rfl rfl rfl rfl ?_
 intro S0 σ0 n0 hn0 H
 unfold M.impl_ClosestPair at h
 refine c_seq ?_
 refine rg ?_
 refine st (v := (I 0)) (rv_assign rfl) ?_
 refine st (v := (I 0)) (rv_assign rfl) ?_
 refine st (v := (B false)) (rv_assign rfl) ?_
 refine w_end ?_
 refine q_then ?_
 refine c_seq ?_
 refine c_seq ?_
 obtain ⟨o1, hj, h'⟩ := bind_some h
 clear h
 refine c_cut (fun e a w => e = .normal ∧ ∃ (ρ : Nat → Value) (σ : St), a = fr 62 (updL ρ [(0, (Sl alist_0 list_0 clist_0)), (1, (I kind_1)), (27, (B o1))]) ∧ w = σ.w ∧ Hp S0 σ0 σ [Ch.ro 0 (Sl alist_0 list_0 clist_0) list_0]) ?_ ?_
 ·clear h'
  rename _ = some o1 => h
  refine rg ?_
  refine st (v := (Sl alist_0 list_0 clist_0)) (rv_move rfl) ?_
  obtain ⟨r2, hx3, h'⟩ := bind_some h
  clear h
  have h := h'; clear h'
  have hc4 := c_impl_ValidStore (alist_0 := alist_0) (clist_0 := clist_0) hx3
  refine st_call (cx_call hc4 (ent_f hc4.fn rfl) hn0 (show Hp S0 σ0 _ ([Ch.ro 0 (Sl alist_0 list_0 clist_0) list_0] ++ [Ch.ro 0 (Sl alist_0 list_0 clist_0) list_0]) from (H.sel' [0, 0] rfl rfl))) wn ?_
  rintro _ σ5 ⟨_, ⟨rfl, rfl⟩, H, -⟩
  replace H : Hp S0 σ0 σ5 [Ch.ro 0 (Sl alist_0 list_0 clist_0) list_0] := H
  refine st (v := (B (!r2))) (rv_not rfl) ?_
  refine st (v := (B (!r2))) (rv_move rfl) ?_
  rcases Bool.eq_false_or_eq_true (!r2) with hb6 | hb6
  ·replace h := bif_t hb6 h
   refine st_skip (congrArg some hb6) ?_
   refine st_skip (congrArg some hb6) ?_
   refine st_skip (congrArg some hb6) ?_
   refine st (v := (B true)) (rv_pick_t (congrArg B hb6) rfl) ?_
   refine st (v := (B true)) (rv_move rfl) ?_
   refine st_skip rfl ?_
   refine st_skip rfl ?_
   refine st_skip rfl ?_
   refine st (v := (B true)) (rv_pick_t rfl rfl) ?_
   refine w_end ?_
   obtain rfl := Option.some.inj h
   exact ⟨rfl, _, σ5, fr_join ⟨rfl, rfl, rfl, trivial⟩, rfl, H.sel' [0] rfl rfl⟩
  ·replace h := bif_f hb6 h
   refine st_g (v := (I kind_1)) (congrArg some hb6) (rv_move rfl) ?_
   obtain ⟨r7, hx8, h'⟩ := bind_some h
   clear h
   have h := h'; clear h'
   have hc9 := c_impl_validKind hx8
   refine st_call (cx_call hc9 (ent_f hc9.fn rfl) hn0 (show Hp S0 σ0 _ ([] ++ [Ch.ro 0 (Sl alist_0 list_0 clist_0) list_0]) from (H.sel' [0] rfl rfl))) (wanted_yes rfl (by exact (congrArg some hb6))) ?_
   rintro _ σ10 ⟨_, ⟨rfl, rfl⟩, H, -⟩
   replace H : Hp S0 σ0 σ10 [Ch.ro 0 (Sl alist_0 list_0 clist_0) list_0] := H
   refine st_g (v := (B (!r7))) (congrArg some hb6) (rv_not rfl) ?_
   refine st (v := (B (!r7))) (rv_pick_f (congrArg B hb6) rfl) ?_
   refine st (v := (B (!r7))) (rv_move rfl) ?_
   rcases Bool.eq_false_or_eq_true (!r7) with hb11 | hb11
   ·replace h := bif_t hb11 h
    refine st_skip (congrArg some hb11) ?_
    refine st_skip (congrArg some hb11) ?_
    refine st_skip (congrArg some hb11) ?_
    refine st (v := (B true)) (rv_pick_t (congrArg B hb11) rfl) ?_
    refine w_end ?_
    obtain rfl := Option.some.inj h
    exact ⟨rfl, _, σ10, fr_join ⟨rfl, rfl, rfl, trivial⟩, rfl, H.sel' [0] rfl rfl⟩
   ·replace h := bif_f hb11 h
    refine st_g (v := (Sl alist_0 list_0 clist_0)) (congrArg some hb11) (rv_move rfl) ?_
    refine st_g (v := (I (list_0.length : Int))) (congrArg some hb11) (rv_len Try.underlying37 rfl) ?_
    refine st_g (v := (B (decide ((list_0.length : Int) < 2)))) (congrArg some hb11) (rv_lss (a := (list_0.length : Int)) (b := 2) rfl rfl) ?_
    refine st (v := (B (decide ((list_0.length : Int) < 2)))) (rv_pick_f (congrArg B hb11) rfl) ?_
    refine w_end ?_
    obtain rfl := Option.some.inj h
    exact ⟨rfl, _, σ10, fr_join ⟨rfl, rfl, rfl, trivial⟩, rfl, H.sel' [0] rfl rfl⟩
 ·clear hj
  have h := h'
  clear h' H
  rintro e a w ⟨rfl, ρ, σ12, rfl, rfl, H⟩
  refine q_then ?_
  refine cd_cond o1 rfl (fun hb13 => ?_) (fun hb13 => ?_)
  ·replace h := bif_t hb13 h
   refine c_seq ?_
   refine rg ?_
   refine st (v := (I 0)) (rv_assign rfl) ?_
   refine st (v := (I 0)) (rv_assign rfl) ?_
   refine st (v := (B false)) (rv_assign rfl) ?_
   refine w_end ?_
   refine q_then ?_
   refine c_ret ?_
   refine q_then_r ?_
   obtain rfl := Option.some.inj h
   exact fin_ret (v := (.tuple #[(I 0), (I 0), (B false)])) (results_ok Try.results32 (res_tmp (v := (I 0)) rfl (res_tmp (v := (I 0)) rfl (res_tmp (v := (B false)) rfl res_nil))) rfl) ⟨rfl, rfl⟩ (H.sel' [] rfl rfl)
  ·replace h := bif_f hb13 h
   refine c_skip ?_
   refine q_then ?_
   refine c_seq ?_
   refine rg ?_
   refine st (v := (I 0)) (rv_assign rfl) ?_
   refine st (v := (I 0)) (rv_assign rfl) ?_
   refine st (v := (I 1000000)) (rv_assign rfl) ?_
   refine w_end ?_
   refine q_then ?_
   refine c_seq ?_
   refine c_seq ?_
   refine rg ?_
   refine st (v := (Sl alist_0 list_0 clist_0)) (rv_move rfl) ?_
   refine st (v := (I (list_0.length : Int))) (rv_len Try.underlying37 rfl) ?_
   refine st (v := (I 0)) (rv_move rfl) ?_
   refine w_end ?_
   refine q_then ?_
   obtain ⟨o14, hj, h'⟩ := bind_some h
   clear h
   refine c_cut (fun e a w => e = .normal ∧ ∃ (ρ : Nat → Value) (σ : St), a = fr 62 (updL ρ [(7, (I o14.1)), (8, (I o14.2))]) ∧ w = σ.w ∧ Hp S0 σ0 σ []) ?_ ?_
   ·clear h'
    rename _ = some o14 => h
    refine c_blk ?_
    refine wp_loopM _ h (fun s15 a w => ∃ (ρ : Nat → Value) (σ : St), a = fr 62 (updL ρ [(0, (Sl alist_0 list_0 clist_0)), (1, (I kind_1)), (7, (I s15.1)), (8, (I s15.2.1)), (9, (I s15.2.2.1)), (28, (Sl alist_0 list_0 clist_0)), (29, (I (list_0.length : Int))), (30, (I s15.2.2.2))]) ∧ w = σ.w ∧ Hp S0 σ0 σ [Ch.ro 0 (Sl alist_0 list_0 clist_0) list_0]) ⟨_, σ12, fr_join ⟨rfl, rfl, rfl, rfl, rfl, rfl, rfl, rfl, trivial⟩, rfl, H.sel' [0] rfl rfl⟩ ?_
    clear h H
    rintro s15 a w o ⟨ρ, σ16, rfl, rfl, H⟩ h hres
    refine c_seq ?_
    refine rg ?_
    refine st (v := (B (decide (s15.2.2.2 < (list_0.length : Int))))) (rv_lss (a := s15.2.2.2) (b := (list_0.length : Int)) rfl rfl) ?_
    refine w_end ?_
    refine q_then ?_
    refine c_seq ?_
    refine cd_cond (decide (s15.2.2.2 < (list_0.length : Int))) rfl (fun hb17 => ?_) (fun hb17 => ?_)
    ·replace h := bif_t hb17 h
     refine c_skip ?_
     refine q_then ?_
     refine c_seq ?_
     refine c_blk ?_
     refine c_seq ?_
     refine rg ?_
     refine st (v := (I s15.2.2.2)) (rv_move rfl) ?_
     obtain ⟨x18, hx19, h'⟩ := bind_some h
     clear h
     have h := h'; clear h'
     obtain ⟨b21, o22, hi20, -⟩ := (H.ro 0 rfl).ix hx19
     refine st (v := (pt b21 o22)) (rv_ix Try.underlying37 ti63 rfl rfl hi20) ?_
     obtain ⟨_, ⟨_, _, rfl, rfl, ⟨_, _, rfl, ⟨_, rfl, hR27⟩, rfl⟩⟩, hl23, hc24⟩ := ((H.ro 0 rfl).at hx19 hi20).cells
     obtain ⟨a25, c26, rfl⟩ := hR27.isSl
     replace H := H.add (d := Ch.ro 0 (Sl a25 x18.2.1 c26) x18.2.1) hR27 (fun _ h => h)
     clear hR27
     refine st (v := (.agg #[(I x18.1), (Sl a25 x18.2.1 c26), (I x18.2.2)])) (rv_load Try.underlying63 rfl ti63 rfl hl23 hc24) ?_
     refine st_ex (ex_alloc (cs := [(I 0), (.slice none 0 0), (I 0)]) H hn0 ti63 rfl) wn ?_
     rintro _ σ29 ⟨b28, rfl, H, -⟩
     refine st (v := (I s15.2.2.2)) (rv_assign rfl) ?_
     refine st_exS (ex_store_box (k := 0) (cs := [(I 0), (.slice none 0 0), (I 0)]) (vs := [(I x18.1), (Sl a25 x18.2.1 c26), (I x18.2.2)]) (cs' := [(I x18.1), (Sl a25 x18.2.1 c26), (I x18.2.2)]) H (i := 0) rfl ti63 rfl rfl rfl rfl rfl (Nat.le_of_ble_eq_true rfl) (by simp [plain]) rfl) wn ?_
     rintro σ30 ⟨H, -⟩
     refine w_end ?_
     refine q_then ?_
     refine c_seq ?_
     refine rg ?_
     refine st (v := (Sl alist_0 list_0 clist_0)) (rv_move rfl) ?_
     refine st (v := (I s15.2.2.2)) (rv_move rfl) ?_
     refine st (v := (I (w64 (s15.2.2.2 + 1)))) (rv_add (a := s15.2.2.2) (b := 1) rfl rfl) ?_
     obtain ⟨xs31, hx32, h'⟩ := bind_some h
     clear h
     have h := h'; clear h'
     obtain ⟨a33, c34, hs35, hR36⟩ := (H.ro 2 rfl).slice hx32
     replace H := H.add (d := Ch.ro 0 (Sl a33 xs31 c34) xs31) hR36 (fun _ h => h)
     clear hR36
     refine st (v := (Sl a33 xs31 c34)) (rv_slice_l Try.underlying37 ti63 hs35 rfl rfl) ?_
     refine st (v := (I (xs31.length : Int))) (rv_len Try.underlying37 rfl) ?_
     refine st (v := (I 0)) (rv_move rfl) ?_
     refine w_end ?_
     refine q_then ?_
     obtain ⟨o37, hj, h'⟩ := bind_some h
     clear h
     refine c_cut (fun e a w => e = .normal ∧ ∃ (ρ : Nat → Value) (σ : St), a = fr 62 (updL ρ [(0, (Sl alist_0 list_0 clist_0)), (1, (I kind_1)), (7, (I o37.1)), (8, (I o37.2.1)), (9, (I o37.2.2)), (28, (Sl alist_0 list_0 clist_0)), (29, (I (list_0.length : Int))), (30, (I s15.2.2.2))]) ∧ w = σ.w ∧ Hp S0 σ0 σ [Ch.ro 0 (Sl alist_0 list_0 clist_0) list_0]) ?_ ?_
     ·clear h'
      rename _ = some o37 => h
      refine c_blk ?_
      refine wp_loopM _ h (fun s38 a w => ∃ (ρ : Nat → Value) (σ : St), a = fr 62 (updL ρ [(0, (Sl alist_0 list_0 clist_0)), (1, (I kind_1)), (7, (I s38.1)), (8, (I s38.2.1)), (9, (I s38.2.2.1)), (11, (pt b28 0)), (28, (Sl alist_0 list_0 clist_0)), (29, (I (list_0.length : Int))), (30, (I s15.2.2.2)), (38, (Sl a33 xs31 c34)), (39, (I (xs31.length : Int))), (40, (I s38.2.2.2))]) ∧ w = σ.w ∧ Hp S0 σ0 σ [Ch.ro 0 (Sl alist_0 list_0 clist_0) list_0, Ch.ro 0 (Sl a25 x18.2.1 c26) x18.2.1, Ch.bx n0 b28 0 [(I x18.1), (Sl a25 x18.2.1 c26), (I x18.2.2)] [] [], Ch.ro 0 (Sl a33 xs31 c34) xs31]) ⟨_, σ30, fr_join ⟨rfl, rfl, rfl, rfl, rfl, rfl, rfl, rfl, rfl, rfl, rfl, rfl, trivial⟩, rfl, H.sel' [3, 2, 1, 0] rfl rfl⟩ ?_
      clear h H
      rintro s38 a w o ⟨ρ, σ39, rfl, rfl, H⟩ h hres
      refine c_seq ?_
      refine rg ?_
      refine st (v := (B (decide (s38.2.2.2 < (xs31.length : Int))))) (rv_lss (a := s38.2.2.2) (b := (xs31.length : Int)) rfl rfl) ?_
      refine w_end ?_
      refine q_then ?_
      refine c_seq ?_
      refine cd_cond (decide (s38.2.2.2 < (xs31.length : Int))) rfl (fun hb40 => ?_) (fun hb40 => ?_)
      ·replace h := bif_t hb40 h
       refine c_skip ?_
       refine q_then ?_
       refine c_seq ?_
       obtain ⟨o41, hj, h'⟩ := bind_some h
       clear h
       refine c_cut (fun e a w => e = .normal ∧ ∃ (ρ : Nat → Value) (σ : St), a = fr 62 (updL ρ [(0, (Sl alist_0 list_0 clist_0)), (1, (I kind_1)), (7, (I o41.1)), (8, (I o41.2.1)), (9, (I o41.2.2)), (11, (pt b28 0)), (28, (Sl alist_0 list_0 clist_0)), (29, (I (list_0.length : Int))), (30, (I s15.2.2.2)), (38, (Sl a33 xs31 c34)), (39, (I (xs31.length : Int))), (40, (I s38.2.2.2))]) ∧ w = σ.w ∧ Hp S0 σ0 σ [Ch.ro 0 (Sl alist_0 list_0 clist_0) list_0, Ch.ro 0 (Sl a25 x18.2.1 c26) x18.2.1, Ch.bx n0 b28 0 [(I x18.1), (Sl a25 x18.2.1 c26), (I x18.2.2)] [] [], Ch.ro 0 (Sl a33 xs31 c34) xs31]) ?_ ?_
       ·clear h'
        rename _ = some o41 => h
        refine c_blk ?_
        refine c_seq ?_
        refine rg ?_
        obtain ⟨x42, hx43, h'⟩ := bind_some h
        clear h
        have h := h'; clear h'
        obtain ⟨b45, o46, hi44, -⟩ := (H.ro 3 rfl).ix hx43
        refine st (v := (pt b45 o46)) (rv_ix Try.underlying37 ti63 rfl rfl hi44) ?_
        obtain ⟨_, ⟨_, _, rfl, rfl, ⟨_, _, rfl, ⟨_, rfl, hR51⟩, rfl⟩⟩, hl47, hc48⟩ := ((H.ro 3 rfl).at hx43 hi44).cells
        obtain ⟨a49, c50, rfl⟩ := hR51.isSl
        replace H := H.add (d := Ch.ro 0 (Sl a49 x42.2.1 c50) x42.2.1) hR51 (fun _ h => h)
        clear hR51
        refine st (v := (.agg #[(I x42.1), (Sl a49 x42.2.1 c50), (I x42.2.2)])) (rv_load Try.underlying63 rfl ti63 rfl hl47 hc48) ?_
        refine st_ex (ex_alloc (cs := [(I 0), (.slice none 0 0), (I 0)]) H hn0 ti63 rfl) wn ?_
        rintro _ σ53 ⟨b52, rfl, H, -⟩
        refine st_exS (ex_store_box (k := 0) (cs := [(I 0), (.slice none 0 0), (I 0)]) (vs := [(I x42.1), (Sl a49 x42.2.1 c50), (I x42.2.2)]) (cs' := [(I x42.1), (Sl a49 x42.2.1 c50), (I x42.2.2)]) H (i := 0) rfl ti63 rfl rfl rfl rfl rfl (Nat.le_of_ble_eq_true rfl) (by simp [plain]) rfl) wn ?_
        rintro σ54 ⟨H, -⟩
        refine w_end ?_
        refine q_then ?_
        refine c_seq ?_
        refine rg ?_
        refine st (v := (I kind_1)) (rv_move rfl) ?_
        refine st (v := (pt b28 1)) (rv_fieldAddr (off := 1) (ft := 24) Try.underlying63 rfl ti24 rfl rfl) ?_
        have hc55 := H.cell (u := (Sl a25 x18.2.1 c26)) (o' := 1) 4 1 rfl rfl rfl
        refine st (v := (Sl a25 x18.2.1 c26)) (rv_load1 Try.underlying24 rfl rfl hc55) ?_
        refine st (v := (pt b52 1)) (rv_fieldAddr (off := 1) (ft := 24) Try.underlying63 rfl ti24 rfl rfl) ?_
        have hc56 := H.cell (u := (Sl a49 x42.2.1 c50)) (o' := 1) 0 1 rfl rfl rfl
        refine st (v := (Sl a49 x42.2.1 c50)) (rv_load1 Try.underlying24 rfl rfl hc56) ?_
        obtain ⟨r57, hx58, h'⟩ := bind_some h
        clear h
        have h := h'; clear h'
        have hc59 := c_impl_Distance (aa_1 := a25) (ca_1 := c26) (ab_2 := a49) (cb_2 := c50) hx58
        refine st_call (cx_call hc59 (ent_f hc59.fn rfl) hn0 (show Hp S0 σ0 _ ([Ch.ro 0 (Sl a25 x18.2.1 c26) x18.2.1, Ch.ro 0 (Sl a49 x42.2.1 c50) x42.2.1] ++ [Ch.bx n0 b52 0 [(I x42.1), (Sl a49 x42.2.1 c50), (I x42.2.2)] [] [], Ch.ro 0 (Sl a49 x42.2.1 c50) x42.2.1, Ch.ro 0 (Sl alist_0 list_0 clist_0) list_0, Ch.ro 0 (Sl a25 x18.2.1 c26) x18.2.1, Ch.bx n0 b28 0 [(I x18.1), (Sl a25 x18.2.1 c26), (I x18.2.2)] [] [], Ch.ro 0 (Sl a33 xs31 c34) xs31]) from (H.sel' [3, 1, 0, 1, 2, 3, 4, 5] rfl rfl))) wn ?_
        rintro _ σ60 ⟨_, ⟨rfl, rfl⟩, H, -⟩
        replace H : Hp S0 σ0 σ60 [Ch.bx n0 b52 0 [(I x42.1), (Sl a49 x42.2.1 c50), (I x42.2.2)] [] [], Ch.ro 0 (Sl a49 x42.2.1 c50) x42.2.1, Ch.ro 0 (Sl alist_0 list_0 clist_0) list_0, Ch.ro 0 (Sl a25 x18.2.1 c26) x18.2.1, Ch.bx n0 b28 0 [(I x18.1), (Sl a25 x18.2.1 c26), (I x18.2.2)] [] [], Ch.ro 0 (Sl a33 xs31 c34) xs31] := H
        refine st (v := (I r57)) (rv_assign rfl) ?_
        refine w_end ?_
        refine q_then ?_
        refine c_seq ?_
        refine rg ?_
        refine st (v := (I r57)) (rv_move rfl) ?_
        refine st (v := (I s38.2.2.1)) (rv_move rfl) ?_
        refine st (v := (B (decide (r57 < s38.2.2.1)))) (rv_lss (a := r57) (b := s38.2.2.1) rfl rfl) ?_
        refine w_end ?_
        refine q_then ?_
        refine cd_cond (decide (r57 < s38.2.2.1)) rfl (fun hb61 => ?_) (fun hb61 => ?_)
        ·replace h := bif_t hb61 h
         refine rgP (σ := σ60) 7 (by kernel_rfl) (by kernel_rfl) (by kernel_rfl) ?_
         refine sq (v := (pt b28 0)) (rv_fieldAddr (off := 0) (ft := 3) Try.underlying63 rfl ti3 rfl rfl) ?_
         have hc62 := H.cell (u := (I x18.1)) (o' := 0) 4 0 rfl rfl rfl
         refine sq (v := (I x18.1)) (rv_load1 Try.underlying3 rfl rfl hc62) ?_
         refine sq (v := (pt b52 0)) (rv_fieldAddr (off := 0) (ft := 3) Try.underlying63 rfl ti3 rfl rfl) ?_
         have hc63 := H.cell (u := (I x42.1)) (o' := 0) 0 0 rfl rfl rfl
         refine sq (v := (I x42.1)) (rv_load1 Try.underlying3 rfl rfl hc63) ?_
         refine sq (v := (I r57)) (rv_move rfl) ?_
         refine sq (v := (I x18.1)) (rv_assign rfl) ?_
         refine sq (v := (I x42.1)) (rv_assign rfl) ?_
         refine sq_end ?_
         intro σ64 hm65
         replace H := H.grow (hm65.mono fun _ h => h); clear hm65
         refine st (v := (I r57)) (rv_assign rfl) ?_
         refine w_end ?_
         refine q_blk ?_
         obtain rfl := Option.some.inj h
         exact ⟨rfl, _, σ64, fr_join ⟨rfl, rfl, rfl, rfl, rfl, rfl, rfl, rfl, rfl, rfl, rfl, rfl, trivial⟩, rfl, H.sel' [2, 3, 4, 5] rfl rfl⟩
        ·replace h := bif_f hb61 h
         refine c_skip ?_
         refine q_blk ?_
         obtain rfl := Option.some.inj h
         exact ⟨rfl, _, σ60, fr_join ⟨rfl, rfl, rfl, rfl, rfl, rfl, rfl, rfl, rfl, rfl, rfl, rfl, trivial⟩, rfl, H.sel' [2, 3, 4, 5] rfl rfl⟩
       ·clear hj
        have h := h'
        clear h' H
        rintro e a w ⟨rfl, ρ, σ66, rfl, rfl, H⟩
        refine q_then ?_
        refine rg ?_
        refine st (v := (I (w64 (s38.2.2.2 + 1)))) (rv_add (a := s38.2.2.2) (b := 1) rfl rfl) ?_
        refine st (v := (I (w64 (s38.2.2.2 + 1)))) (rv_move rfl) ?_
        refine w_end ?_
        refine q_then ?_
        obtain rfl := Option.some.inj h
        exact ⟨_, rfl, _, σ66, fr_join ⟨rfl, rfl, rfl, rfl, rfl, rfl, rfl, rfl, rfl, rfl, rfl, rfl, trivial⟩, rfl, H.sel' [0, 1, 2, 3] rfl rfl⟩
      ·replace h := bif_f hb40 h
       refine c_exit ?_
       refine q_then_x ?_
       refine q_then_x ?_
       refine q_blk_hit ?_
       obtain rfl := Option.some.inj h
       obtain rfl := hres _ rfl
       exact ⟨rfl, _, σ39, fr_join ⟨rfl, rfl, rfl, rfl, rfl, rfl, rfl, rfl, trivial⟩, rfl, H.sel' [0] rfl rfl⟩
     ·clear hj
      have h := h'
      clear h' H
      rintro e a w ⟨rfl, ρ, σ67, rfl, rfl, H⟩
      refine q_blk ?_
      refine q_then ?_
      refine rg ?_
      refine st (v := (I (w64 (s15.2.2.2 + 1)))) (rv_add (a := s15.2.2.2) (b := 1) rfl rfl) ?_
      refine st (v := (I (w64 (s15.2.2.2 + 1)))) (rv_move rfl) ?_
      refine w_end ?_
      refine q_then ?_
      obtain rfl := Option.some.inj h
      exact ⟨_, rfl, _, σ67, fr_join ⟨rfl, rfl, rfl, rfl, rfl, rfl, rfl, rfl, trivial⟩, rfl, H.sel' [0] rfl rfl⟩
    ·replace h := bif_f hb17 h
     refine c_exit ?_
     refine q_then_x ?_
     refine q_then_x ?_
     refine q_blk_hit ?_
     obtain rfl := Option.some.inj h
     obtain rfl := hres _ rfl
     exact ⟨rfl, _, σ16, fr_join ⟨rfl, rfl, trivial⟩, rfl, H.sel' [] rfl rfl⟩
   ·clear hj
    have h := h'
    clear h' H
    rintro e a w ⟨rfl, ρ, σ68, rfl, rfl, H⟩
    refine q_then ?_
    refine c_seq ?_
    refine rg ?_
    refine st (v := (I o14.1)) (rv_move rfl) ?_
    refine st (v := (I o14.2)) (rv_move rfl) ?_
    refine st (v := (I o14.1)) (rv_assign rfl) ?_
    refine st (v := (I o14.2)) (rv_assign rfl) ?_
    refine st (v := (B true)) (rv_assign rfl) ?_
    refine w_end ?_
    refine q_then ?_
    refine c_ret ?_
    obtain rfl := Option.some.inj h
    exact fin_ret (v := (.tuple #[(I o14.1), (I o14.2), (B true)])) (results_ok Try.results32 (res_tmp (v := (I o14.1)) rfl (res_tmp (v := (I o14.2)) rfl (res_tmp (v := (B true)) rfl res_nil))) rfl) ⟨rfl, rfl⟩ (H.sel' [] rfl rfl)

theorem c_laws_FnExactClosestPair {aList_0 : List (Int × (List Int) × Int)} {aKind_1 : Int} {aaList_0 : Option Addr} {caList_0 : Nat} {r : Bool} (h : M.laws_FnExactClosestPair aList_0 aKind_1 = some r) :
    Cal2 Try.prog 6 [(Sl aaList_0 aList_0 caList_0), (I aKind_1)] [Ch.ro 0 (Sl aaList_0 aList_0 caList_0) aList_0] (fun n0 v L => v = (B r) ∧ L = []) := by
 refine cal2 (n := 53) Try.func6 rfl rfl rfl rfl ?_
 intro S0 σ0 n0 hn0 H
 unfold M.laws_FnExactClosestPair at h
 refine c_seq ?_
 refine rg ?_
 refine st (v := (B false)) (rv_assign rfl) ?_
 refine w_end ?_
 refine q_then ?_
 refine c_seq ?_
 refine rg ?_
 refine st (v := (I 1048576)) (rv_assign rfl) ?_
 refine w_end ?_
 refine q_then ?_
 refine c_seq ?_
 refine rg ?_
 refine st (v := (Sl aaList_0 aList_0 caList_0)) (rv_move rfl) ?_
 refine st (v := (I 1048576)) (rv_move rfl) ?_
 obtain ⟨r1, hx2, h'⟩ := bind_some h
 clear h
 have h := h'; clear h'
 have hc3 := c_laws_szItemS (aa_0 := aaList_0) (ca_0 := caList_0) hx2
 refine st_call (cx_call hc3 (ent_f hc3.fn rfl) hn0 (show Hp S0 σ0 _ ([Ch.ro 0 (Sl aaList_0 aList_0 caList_0) aList_0] ++ [Ch.ro 0 (Sl aaList_0 aList_0 caList_0) aList_0]) from (H.sel' [0, 0] rfl rfl))) wn ?_
 rintro _ σ4 ⟨_, ⟨rfl, rfl⟩, H, -⟩
 replace H : Hp S0 σ0 σ4 [Ch.ro 0 (Sl aaList_0 aList_0 caList_0) aList_0] := H
 refine st (v := (I r1)) (rv_assign rfl) ?_
 refine w_end ?_
 refine q_then ?_
 refine c_seq ?_
 refine c_seq ?_
 refine rg ?_
 refine st (v := (I r1)) (rv_move rfl) ?_
 refine st (v := (B (decide (r1 < 0)))) (rv_lss (a := r1) (b := 0) rfl rfl) ?_
 refine w_end ?_
 refine q_then ?_
 refine cd_cond (decide (r1 < 0)) rfl (fun hb5 => ?_) (fun hb5 => ?_)
 ·replace h := bif_t hb5 h
  refine c_seq ?_
  refine rg ?_
  refine st (v := (B true)) (rv_assign rfl) ?_
  refine w_end ?_
  refine q_then ?_
  refine c_ret ?_
  refine q_then_r ?_
  obtain rfl := Option.some.inj h
  exact fin_ret (v := (B true)) (results_ok Try.results6 (res_tmp (v := (B true)) rfl res_nil) rfl) ⟨rfl, rfl⟩ (H.sel' [] rfl rfl)
 ·replace h := bif_f hb5 h
  refine c_skip ?_
  refine q_then ?_
  refine c_seq ?_
  refine rg ?_
  refine st (v := (Sl aaList_0 aList_0 caList_0)) (rv_move rfl) ?_
  obtain ⟨r6, hx7, h'⟩ := bind_some h
  clear h
  have h := h'; clear h'
  have hc8 := c_laws_toItemS (aa_0 := aaList_0) (ca_0 := caList_0) hx7
  refine st_call (cx_call hc8 (ent_f hc8.fn rfl) hn0 (show Hp S0 σ0 _ ([Ch.ro 0 (Sl aaList_0 aList_0 caList_0) aList_0] ++ [Ch.ro 0 (Sl aaList_0 aList_0 caList_0) aList_0]) from (H.sel' [0, 0] rfl rfl))) wn ?_
  rintro _ σ12 ⟨_, ⟨a9, c10, rfl, rfl, ht11⟩, H, -⟩
  replace H : Hp S0 σ0 σ12 [Ch.own n0 n0 (Sl a9 r6 c10) r6, Ch.ro 0 (Sl aaList_0 aList_0 caList_0) aList_0] := H
  refine st (v := (I aKind_1)) (rv_move rfl) ?_
  obtain ⟨σ13, hw14, H, -⟩ := H.pub 0 rfl (Nat.le_refl _)
  rw [← hw14]; clear hw14
  replace H := H.roLow 0 0 rfl (Nat.zero_le _)
  obtain ⟨r15, hx16, h'⟩ := bind_some h
  clear h
  have h := h'; clear h'
  have hc17 := c_spec_ClosestPair (alist_0 := a9) (clist_0 := c10) hx16
  refine st_call (cx_call hc17 (ent_f hc17.fn rfl) hn0 (show Hp S0 σ0 _ ([Ch.ro 0 (Sl a9 r6 c10) r6] ++ [Ch.ro 0 (Sl a9 r6 c10) r6, Ch.ro n0 (Sl a9 r6 c10) r6, Ch.ro 0 (Sl aaList_0 aList_0 caList_0) aList_0]) from (H.sel' [0, 0, 1, 2] rfl rfl))) wn ?_
  rintro _ σ18 ⟨_, ⟨rfl, rfl⟩, H, -⟩
  replace H : Hp S0 σ0 σ18 [Ch.ro 0 (Sl a9 r6 c10) r6, Ch.ro n0 (Sl a9 r6 c10) r6, Ch.ro 0 (Sl aaList_0 aList_0 caList_0) aList_0] := H
  refine st (v := (.tuple #[(I r15.1), (I r15.2.1), (B r15.2.2)])) (rv_move rfl) ?_
  refine st (v := (I r15.1)) (rv_extract rfl rfl) ?_
  refine st (v := (I r15.2.1)) (rv_extract rfl rfl) ?_
  refine st (v := (B r15.2.2)) (rv_extract rfl rfl) ?_
  refine st (v := (I r15.1)) (rv_assign rfl) ?_
  refine st (v := (I r15.2.1)) (rv_assign rfl) ?_
  refine st (v := (B r15.2.2)) (rv_assign rfl) ?_
  refine w_end ?_
  refine q_then ?_
  refine c_seq ?_
  refine rg ?_
  refine st (v := (Sl aaList_0 aList_0 caList_0)) (rv_move rfl) ?_
  obtain ⟨r19, hx20, h'⟩ := bind_some h
  clear h
  have h := h'; clear h'
  have hc21 := c_laws_toItemS (aa_0 := aaList_0) (ca_0 := caList_0) hx20
  refine st_call (cx_call hc21 (ent_f hc21.fn rfl) hn0 (show Hp S0 σ0 _ ([Ch.ro 0 (Sl aaList_0 aList_0 caList_0) aList_0] ++ [Ch.ro 0 (Sl a9 r6 c10) r6, Ch.ro n0 (Sl a9 r6 c10) r6, Ch.ro 0 (Sl aaList_0 aList_0 caList_0) aList_0]) from (H.sel' [2, 0, 1, 2] rfl rfl))) wn ?_
  rintro _ σ25 ⟨_, ⟨a22, c23, rfl, rfl, ht24⟩, H, -⟩
  replace H : Hp S0 σ0 σ25 [Ch.own n0 n0 (Sl a22 r19 c23) r19, Ch.ro 0 (Sl a9 r6 c10) r6, Ch.ro n0 (Sl a9 r6 c10) r6, Ch.ro 0 (Sl aaList_0 aList_0 caList_0) aList_0] := H
  refine st (v := (Sl a22 r19 c23)) (rv_assign rfl) ?_
  refine w_end ?_
  refine q_then ?_
  refine c_seq ?_
  refine rg ?_
  refine st (v := (Sl a22 r19 c23)) (rv_move rfl) ?_
  refine st (v := (I aKind_1)) (rv_move rfl) ?_
  obtain ⟨r26, hx27, h'⟩ := bind_some h
  clear h
  have h := h'; clear h'
  have hc28 := c_impl_ClosestPair (alist_0 := a22) (clist_0 := c23) hx27
  have hle := Nat.le_trans hn0 H.size
  refine st_call (cx_lend (Loan.lend Loan.nil) hc28 (ent_f hc28.fn rfl) (show Hp S0 σ0 _ ([Ch.own n0 n0 (Sl a22 r19 c23) r19] ++ ([] ++ [Ch.ro 0 (Sl a9 r6 c10) r6, Ch.ro n0 (Sl a9 r6 c10) r6, Ch.ro 0 (Sl aaList_0 aList_0 caList_0) aList_0])) from (H.sel' [0, 1, 2, 3] rfl rfl)) (by rintro _ _ _ ⟨rfl, rfl⟩; exact trivial)) wn ?_
  rintro _ σ29 ⟨_, ⟨rfl, rfl⟩, H, -, -⟩
  replace H : Hp S0 σ0 σ29 [Ch.own n0 n0 (Sl a22 r19 c23) r19, Ch.ro 0 (Sl a9 r6 c10) r6, Ch.ro n0 (Sl a9 r6 c10) r6, Ch.ro 0 (Sl aaList_0 aList_0 caList_0) aList_0] := H
  clear hle
  replace H : Hp S0 σ0 σ29 [Ch.own n0 n0 (Sl a22 r19 c23) r19, Ch.ro 0 (Sl a9 r6 c10) r6, Ch.ro n0 (Sl a9 r6 c10) r6, Ch.ro 0 (Sl aaList_0 aList_0 caList_0) aList_0] := H
  refine st (v := (.tuple #[(I r26.1), (I r26.2.1), (B r26.2.2)])) (rv_move rfl) ?_
  refine st (v := (I r26.1)) (rv_extract rfl rfl) ?_
  refine st (v := (I r26.2.1)) (rv_extract rfl rfl) ?_
  refine st (v := (B r26.2.2)) (rv_extract rfl rfl) ?_
  refine st (v := (I r26.1)) (rv_assign rfl) ?_
  refine st (v := (I r26.2.1)) (rv_assign rfl) ?_
  refine st (v := (B r26.2.2)) (rv_assign rfl) ?_
  refine w_end ?_
  refine q_then ?_
  refine c_seq ?_
  refine c_seq ?_
  obtain ⟨o30, hj, h'⟩ := bind_some h
  clear h
  refine c_cut (fun e a w => e = .normal ∧ ∃ (ρ : Nat → Value) (σ : St), a = fr 53 (updL ρ [(0, (Sl aaList_0 aList_0 caList_0)), (9, (Sl a22 r19 c23)), (47, (B o30))]) ∧ w = σ.w ∧ Hp S0 σ0 σ [Ch.ro 0 (Sl aaList_0 aList_0 caList_0) aList_0, Ch.own n0 n0 (Sl a22 r19 c23) r19]) ?_ ?_
  ·clear h'
   rename _ = some o30 => h
   refine rg ?_
   refine st (v := (I r26.1)) (rv_move rfl) ?_
   refine st (v := (I r15.1)) (rv_move rfl) ?_
   refine st (v := (B (r26.1 != r15.1))) (rv_neq (a := r26.1) (b := r15.1) rfl rfl) ?_
   refine st (v := (B (r26.1 != r15.1))) (rv_move rfl) ?_
   rcases Bool.eq_false_or_eq_true (r26.1 != r15.1) with hb31 | hb31
   ·replace h := bif_t hb31 h
    refine st_skip (congrArg some hb31) ?_
    refine st_skip (congrArg some hb31) ?_
    refine st_skip (congrArg some hb31) ?_
    refine st (v := (B true)) (rv_pick_t (congrArg B hb31) rfl) ?_
    refine st (v := (B true)) (rv_move rfl) ?_
    refine st_skip rfl ?_
    refine st_skip rfl ?_
    refine st_skip rfl ?_
    refine st (v := (B true)) (rv_pick_t rfl rfl) ?_
    refine w_end ?_
    obtain rfl := Option.some.inj h
    exact ⟨rfl, _, σ29, fr_join ⟨rfl, rfl, rfl, trivial⟩, rfl, H.sel' [3, 0] rfl rfl⟩
   ·replace h := bif_f hb31 h
    refine st_g (v := (I r26.2.1)) (congrArg some hb31) (rv_move rfl) ?_
    refine st_g (v := (I r15.2.1)) (congrArg some hb31) (rv_move rfl) ?_
    refine st_g (v := (B (r26.2.1 != r15.2.1))) (congrArg some hb31) (rv_neq (a := r26.2.1) (b := r15.2.1) rfl rfl) ?_
    refine st (v := (B (r26.2.1 != r15.2.1))) (rv_pick_f (congrArg B hb31) rfl) ?_
    refine st (v := (B (r26.2.1 != r15.2.1))) (rv_move rfl) ?_
    rcases Bool.eq_false_or_eq_true (r26.2.1 != r15.2.1) with hb32 | hb32
    ·replace h := bif_t hb32 h
     refine st_skip (congrArg some hb32) ?_
     refine st_skip (congrArg some hb32) ?_
     refine st_skip (congrArg some hb32) ?_
     refine st (v := (B true)) (rv_pick_t (congrArg B hb32) rfl) ?_
     refine w_end ?_
     obtain rfl := Option.some.inj h
     exact ⟨rfl, _, σ29, fr_join ⟨rfl, rfl, rfl, trivial⟩, rfl, H.sel' [3, 0] rfl rfl⟩
    ·replace h := bif_f hb32 h
     refine st_g (v := (B r26.2.2)) (congrArg some hb32) (rv_move rfl) ?_
     refine st_g (v := (B r15.2.2)) (congrArg some hb32) (rv_move rfl) ?_
     refine st_g (v := (B (r26.2.2 != r15.2.2))) (congrArg some hb32) (rv_bneq Try.underlying4 rfl rfl) ?_
     refine st (v := (B (r26.2.2 != r15.2.2))) (rv_pick_f (congrArg B hb32) rfl) ?_
     refine w_end ?_
     obtain rfl := Option.some.inj h
     exact ⟨rfl, _, σ29, fr_join ⟨rfl, rfl, rfl, trivial⟩, rfl, H.sel' [3, 0] rfl rfl⟩
  ·clear hj
   have h := h'
   clear h' H
   rintro e a w ⟨rfl, ρ, σ33, rfl, rfl, H⟩
   refine q_then ?_
   refine cd_cond o30 rfl (fun hb34 => ?_) (fun hb34 => ?_)
   ·replace h := bif_t hb34 h
    refine c_seq ?_
    refine rg ?_
    refine st (v := (B false)) (rv_assign rfl) ?_
    refine w_end ?_
    refine q_then ?_
    refine c_ret ?_
    refine q_then_r ?_
    obtain rfl := Option.some.inj h
    exact fin_ret (v := (B false)) (results_ok Try.results6 (res_tmp (v := (B false)) rfl res_nil) rfl) ⟨rfl, rfl⟩ (H.sel' [] rfl rfl)
   ·replace h := bif_f hb34 h
    refine c_skip ?_
    refine q_then ?_
    refine c_seq ?_
    refine c_seq ?_
    refine rg ?_
    refine st (v := (Sl a22 r19 c23)) (rv_move rfl) ?_
    refine st (v := (Sl aaList_0 aList_0 caList_0)) (rv_move rfl) ?_
    obtain ⟨r35, hx36, h'⟩ := bind_some h
    clear h
    have h := h'; clear h'
    have hc37 := c_laws_toItemS (aa_0 := aaList_0) (ca_0 := caList_0) hx36
    refine st_call (cx_call hc37 (ent_f hc37.fn rfl) hn0 (show Hp S0 σ0 _ ([Ch.ro 0 (Sl aaList_0 aList_0 caList_0) aList_0] ++ [Ch.ro 0 (Sl aaList_0 aList_0 caList_0) aList_0, Ch.own n0 n0 (Sl a22 r19 c23) r19]) from (H.sel' [0, 0, 1] rfl rfl))) wn ?_
    rintro _ σ41 ⟨_, ⟨a38, c39, rfl, rfl, ht40⟩, H, -⟩
    replace H : Hp S0 σ0 σ41 [Ch.own n0 n0 (Sl a38 r35 c39) r35, Ch.ro 0 (Sl aaList_0 aList_0 caList_0) aList_0, Ch.own n0 n0 (Sl a22 r19 c23) r19] := H
    obtain ⟨σ42, hw43, H, -⟩ := H.pub 2 rfl (Nat.le_refl _)
    rw [← hw43]; clear hw43
    obtain ⟨σ44, hw45, H, -⟩ := H.pub 1 rfl (Nat.le_refl _)
    rw [← hw45]; clear hw45
    replace H := H.roLow 1 0 rfl (Nat.zero_le _)
    replace H := H.roLow 1 0 rfl (Nat.zero_le _)
    obtain ⟨r46, hx47, h'⟩ := bind_some h
    clear h
    have h := h'; clear h'
    have hc48 := c_laws_eqItemS (aa_0 := a22) (ca_0 := c23) (ab_1 := a38) (cb_1 := c39) hx47
    refine st_call (cx_call hc48 (ent_f hc48.fn rfl) hn0 (show Hp S0 σ0 _ ([Ch.ro 0 (Sl a22 r19 c23) r19, Ch.ro 0 (Sl a38 r35 c39) r35] ++ [Ch.ro 0 (Sl a38 r35 c39) r35, Ch.ro 0 (Sl a22 r19 c23) r19, Ch.ro n0 (Sl a38 r35 c39) r35, Ch.ro n0 (Sl a22 r19 c23) r19, Ch.ro 0 (Sl aaList_0 aList_0 caList_0) aList_0]) from (H.sel' [1, 0, 0, 1, 2, 3, 4] rfl rfl))) wn ?_
    rintro _ σ49 ⟨_, ⟨rfl, rfl⟩, H, -⟩
    replace H : Hp S0 σ0 σ49 [Ch.ro 0 (Sl a38 r35 c39) r35, Ch.ro 0 (Sl a22 r19 c23) r19, Ch.ro n0 (Sl a38 r35 c39) r35, Ch.ro n0 (Sl a22 r19 c23) r19, Ch.ro 0 (Sl aaList_0 aList_0 caList_0) aList_0] := H
    refine st (v := (B (!r46))) (rv_not rfl) ?_
    refine w_end ?_
    refine q_then ?_
    refine cd_cond (!r46) rfl (fun hb50 => ?_) (fun hb50 => ?_)
    ·replace h := bif_t hb50 h
     refine c_seq ?_
     refine rg ?_
     refine st (v := (B false)) (rv_assign rfl) ?_
     refine w_end ?_
     refine q_then ?_
     refine c_ret ?_
     refine q_then_r ?_
     obtain rfl := Option.some.inj h
     exact fin_ret (v := (B false)) (results_ok Try.results6 (res_tmp (v := (B false)) rfl res_nil) rfl) ⟨rfl, rfl⟩ (H.sel' [] rfl rfl)
    ·replace h := bif_f hb50 h
     refine c_skip ?_
     refine q_then ?_
     refine c_seq ?_
     refine rg ?_
     refine st (v := (B true)) (rv_assign rfl) ?_
     refine w_end ?_
     refine q_then ?_
     refine c_ret ?_
     obtain rfl := Option.some.inj h
     exact fin_ret (v := (B true)) (results_ok Try.results6 (res_tmp (v := (B true)) rfl res_nil) rfl) ⟨rfl, rfl⟩ (H.sel' [] rfl rfl)

end Go.Vs
