/- The functions compute what their models say. -/
import Derived.Test.YtdjjikmfkejdiaeKExactTreeVisitsC3
set_option linter.unusedVariables false
set_option linter.unusedSimpArgs false
set_option maxRecDepth 20000
namespace Go.Vs
open Go Go.Proofs
attribute [local irreducible] Code.wp Code.wpIn wpList wpListIn wpQuiet Calls CallsIn

theorem c_impl_ValidStore {list_0 : List (Int × (List Int) × Int)} {alist_0 : Option Addr} {clist_0 : Nat} {r : Bool} (h : M.impl_ValidStore list_0 = some r) :
    Cal2 Try.prog 56 [(Sl alist_0 list_0 clist_0)] [Ch.ro 0 (Sl alist_0 list_0 clist_0) list_0] (fun n0 v L => v = (B r) ∧ L = []) := by
 refine cal2 (n := 27) Try.func56 rfl rfl rfl rfl ?_
 intro S0 σ0 n0 hn0 H
 unfold M.impl_ValidStore at h
 refine c_seq ?_
 refine rg ?_
 refine st (v := (B false)) (rv_assign rfl) ?_
 refine w_end ?_
 refine q_then ?_
 refine c_seq ?_
 refine c_seq ?_
 refine rg ?_
 refine st (v := (Sl alist_0 list_0 clist_0)) (rv_move rfl) ?_
 refine st (v := (I (list_0.length : Int))) (rv_len Try.underlying27 rfl) ?_
 refine st (v := (B (decide (16 < (list_0.length : Int))))) (rv_gtr (a := (list_0.length : Int)) (b := 16) rfl rfl) ?_
 refine w_end ?_
 refine q_then ?_
 refine cd_cond (decide (16 < (list_0.length : Int))) rfl (fun hb1 => ?_) (fun hb1 => ?_)
 ·replace h := bif_t hb1 h
  refine c_seq ?_
  refine rg ?_
  refine st (v := (B false)) (rv_assign rfl) ?_
  refine w_end ?_
  refine q_then ?_
  refine c_ret ?_
  refine q_then_r ?_
  obtain rfl := Option.some.inj h
  exact fin_ret (v := (B false)) (results_ok Try.results56 (res_tmp (v := (B false)) rfl res_nil) rfl) ⟨rfl, rfl⟩ (H.sel' [] rfl rfl)
 ·replace h := bif_f hb1 h
  refine c_skip ?_
  refine q_then ?_
  refine c_seq ?_
  refine rg ?_
  refine st (v := (I 0)) (rv_assign rfl) ?_
  refine w_end ?_
  refine q_then ?_
  refine c_seq ?_
  refine c_seq ?_
  refine rg ?_
  refine st (v := (Sl alist_0 list_0 clist_0)) (rv_move rfl) ?_
  refine st (v := (I (list_0.length : Int))) (rv_len Try.underlying27 rfl) ?_
  refine st (v := (I 0)) (rv_move rfl) ?_
  refine w_end ?_
  refine q_then ?_
  obtain ⟨o2, hj, h'⟩ := bind_some h
  clear h
  refine c_cut (fun e a w => (∃ t, o2 = (.inl t) ∧ e = .normal ∧ ∃ (ρ : Nat → Value) (σ : St), a = fr 27 (updL ρ []) ∧ w = σ.w ∧ Hp S0 σ0 σ []) ∨ (∃ t, o2 = (.inr t) ∧ e = .ret ∧ ∃ (ρ : Nat → Value) (σ : St), a = fr 27 (updL ρ [(2, (B t))]) ∧ w = σ.w ∧ Hp S0 σ0 σ [])) ?_ ?_
  ·clear h'
   rename _ = some o2 => h
   refine c_blk ?_
   refine wp_loopM _ h (fun s3 a w => ∃ (ρ : Nat → Value) (σ : St), a = fr 27 (updL ρ [(3, (I s3.1)), (9, (Sl alist_0 list_0 clist_0)), (10, (I (list_0.length : Int))), (11, (I s3.2))]) ∧ w = σ.w ∧ Hp S0 σ0 σ [Ch.ro 0 (Sl alist_0 list_0 clist_0) list_0]) ⟨_, σ0, fr_join ⟨rfl, rfl, rfl, rfl, trivial⟩, rfl, H.sel' [0] rfl rfl⟩ ?_
   clear h H
   rintro s3 a w o ⟨ρ, σ4, rfl, rfl, H⟩ h hres
   refine c_seq ?_
   refine rg ?_
   refine st (v := (B (decide (s3.2 < (list_0.length : Int))))) (rv_lss (a := s3.2) (b := (list_0.length : Int)) rfl rfl) ?_
   refine w_end ?_
   refine q_then ?_
   refine c_seq ?_
   refine cd_cond (decide (s3.2 < (list_0.length : Int))) rfl (fun hb5 => ?_) (fun hb5 => ?_)
   ·replace h := bif_t hb5 h
    refine c_skip ?_
    refine q_then ?_
    refine c_seq ?_
    refine c_blk ?_
    refine c_seq ?_
    refine rg ?_
    obtain ⟨x6, hx7, h'⟩ := bind_some h
    clear h
    have h := h'; clear h'
    obtain ⟨b9, o10, hi8, -⟩ := (H.ro 0 rfl).ix hx7
    refine st (v := (pt b9 o10)) (rv_ix Try.underlying27 ti63 rfl rfl hi8) ?_
    obtain ⟨_, ⟨_, _, rfl, rfl, ⟨_, _, rfl, ⟨_, rfl, hR15⟩, rfl⟩⟩, hl11, hc12⟩ := ((H.ro 0 rfl).at hx7 hi8).cells
    obtain ⟨a13, c14, rfl⟩ := hR15.isSl
    replace H := H.add (d := Ch.ro 0 (Sl a13 x6.2.1 c14) x6.2.1) hR15 (fun _ h => h)
    clear hR15
    refine st (v := (.agg #[(I x6.1), (Sl a13 x6.2.1 c14), (I x6.2.2)])) (rv_load Try.underlying63 rfl ti63 rfl hl11 hc12) ?_
    refine st_ex (ex_alloc (cs := [(I 0), (.slice none 0 0), (I 0)]) H hn0 ti63 rfl) wn ?_
    rintro _ σ17 ⟨b16, rfl, H, -⟩
    refine st_exS (ex_store_box (k := 0) (cs := [(I 0), (.slice none 0 0), (I 0)]) (vs := [(I x6.1), (Sl a13 x6.2.1 c14), (I x6.2.2)]) (cs' := [(I x6.1), (Sl a13 x6.2.1 c14), (I x6.2.2)]) H (i := 0) rfl ti63 rfl rfl rfl rfl rfl (Nat.le_of_ble_eq_true rfl) (by simp [plain]) rfl) wn ?_
    rintro σ18 ⟨H, -⟩
    refine w_end ?_
    refine q_then ?_
    refine c_seq ?_
    refine c_seq ?_
    obtain ⟨o19, hj, h'⟩ := bind_some h
    clear h
    refine c_cut (fun e a w => e = .normal ∧ ∃ (ρ : Nat → Value) (σ : St), a = fr 27 (updL ρ [(5, (pt b16 0)), (9, (Sl alist_0 list_0 clist_0)), (10, (I (list_0.length : Int))), (11, (I s3.2)), (23, (B o19))]) ∧ w = σ.w ∧ Hp S0 σ0 σ [Ch.ro 0 (Sl a13 x6.2.1 c14) x6.2.1, Ch.bx n0 b16 0 [(I x6.1), (Sl a13 x6.2.1 c14), (I x6.2.2)] [] [], Ch.ro 0 (Sl alist_0 list_0 clist_0) list_0]) ?_ ?_
    ·clear h'
     rename _ = some o19 => h
     refine rg ?_
     have hc20 := H.cells 0 rfl
     refine st (v := (.agg #[(I x6.1), (Sl a13 x6.2.1 c14), (I x6.2.2)])) (rv_load (cs := [(I x6.1), (Sl a13 x6.2.1 c14), (I x6.2.2)]) Try.underlying63 rfl ti63 rfl rfl hc20) ?_
     obtain ⟨r21, hx22, h'⟩ := bind_some h
     clear h
     have h := h'; clear h'
     have hc23 := c_impl_validItem (ax_0_1 := a13) (cx_0_1 := c14) hx22
     refine st_call (cx_call hc23 (ent_f hc23.fn rfl) hn0 (show Hp S0 σ0 _ ([Ch.ro 0 (Sl a13 x6.2.1 c14) x6.2.1] ++ [Ch.bx n0 b16 0 [(I x6.1), (Sl a13 x6.2.1 c14), (I x6.2.2)] [] [], Ch.ro 0 (Sl a13 x6.2.1 c14) x6.2.1, Ch.ro 0 (Sl alist_0 list_0 clist_0) list_0]) from (H.sel' [1, 0, 1, 2] rfl rfl))) wn ?_
     rintro _ σ24 ⟨_, ⟨rfl, rfl⟩, H, -⟩
     replace H : Hp S0 σ0 σ24 [Ch.bx n0 b16 0 [(I x6.1), (Sl a13 x6.2.1 c14), (I x6.2.2)] [] [], Ch.ro 0 (Sl a13 x6.2.1 c14) x6.2.1, Ch.ro 0 (Sl alist_0 list_0 clist_0) list_0] := H
     refine st (v := (B (!r21))) (rv_not rfl) ?_
     refine st (v := (B (!r21))) (rv_move rfl) ?_
     rcases Bool.eq_false_or_eq_true (!r21) with hb25 | hb25
     ·replace h := bif_t hb25 h
      refine st_skip (congrArg some hb25) ?_
      refine st_skip (congrArg some hb25) ?_
      refine st_skip (congrArg some hb25) ?_
      refine st_skip (congrArg some hb25) ?_
      refine st (v := (B true)) (rv_pick_t (congrArg B hb25) rfl) ?_
      refine w_end ?_
      obtain rfl := Option.some.inj h
      exact ⟨rfl, _, σ24, fr_join ⟨rfl, rfl, rfl, rfl, rfl, trivial⟩, rfl, H.sel' [1, 0, 2] rfl rfl⟩
     ·replace h := bif_f hb25 h
      refine st_g (v := (pt b16 0)) (congrArg some hb25) (rv_fieldAddr (off := 0) (ft := 3) Try.underlying63 rfl ti3 rfl rfl) ?_
      have hc26 := H.cell (u := (I x6.1)) (o' := 0) 0 0 rfl rfl rfl
      refine st_g (v := (I x6.1)) (congrArg some hb25) (rv_load1 Try.underlying3 rfl rfl hc26) ?_
      refine st_g (v := (I s3.1)) (congrArg some hb25) (rv_move rfl) ?_
      refine st_g (v := (B (decide (x6.1 ≤ s3.1)))) (congrArg some hb25) (rv_leq (a := x6.1) (b := s3.1) rfl rfl) ?_
      refine st (v := (B (decide (x6.1 ≤ s3.1)))) (rv_pick_f (congrArg B hb25) rfl) ?_
      refine w_end ?_
      obtain rfl := Option.some.inj h
      exact ⟨rfl, _, σ24, fr_join ⟨rfl, rfl, rfl, rfl, rfl, trivial⟩, rfl, H.sel' [1, 0, 2] rfl rfl⟩
    ·clear hj
     have h := h'
     clear h' H
     rintro e a w ⟨rfl, ρ, σ27, rfl, rfl, H⟩
     refine q_then ?_
     refine cd_cond o19 rfl (fun hb28 => ?_) (fun hb28 => ?_)
     ·replace h := bif_t hb28 h
      refine c_seq ?_
      refine rg ?_
      refine st (v := (B false)) (rv_assign rfl) ?_
      refine w_end ?_
      refine q_then ?_
      refine c_ret ?_
      refine q_then_r ?_
      refine q_blk_r ?_
      refine q_then_r ?_
      refine q_then_r ?_
      refine q_blk_r ?_
      obtain rfl := Option.some.inj h
      obtain rfl := hres _ rfl
      exact .inr (⟨_, rfl, rfl, _, σ27, fr_join ⟨rfl, trivial⟩, rfl, H.sel' [] rfl rfl⟩)
     ·replace h := bif_f hb28 h
      refine c_skip ?_
      refine q_then ?_
      refine rg ?_
      refine st (v := (pt b16 0)) (rv_fieldAddr (off := 0) (ft := 3) Try.underlying63 rfl ti3 rfl rfl) ?_
      have hc29 := H.cell (u := (I x6.1)) (o' := 0) 1 0 rfl rfl rfl
      refine st (v := (I x6.1)) (rv_load1 Try.underlying3 rfl rfl hc29) ?_
      refine st (v := (I x6.1)) (rv_assign rfl) ?_
      refine w_end ?_
      refine q_blk ?_
      refine q_then ?_
      refine rg ?_
      refine st (v := (I (w64 (s3.2 + 1)))) (rv_add (a := s3.2) (b := 1) rfl rfl) ?_
      refine st (v := (I (w64 (s3.2 + 1)))) (rv_move rfl) ?_
      refine w_end ?_
      refine q_then ?_
      obtain rfl := Option.some.inj h
      exact ⟨_, rfl, _, σ27, fr_join ⟨rfl, rfl, rfl, rfl, trivial⟩, rfl, H.sel' [2] rfl rfl⟩
   ·replace h := bif_f hb5 h
    refine c_exit ?_
    refine q_then_x ?_
    refine q_then_x ?_
    refine q_blk_hit ?_
    obtain rfl := Option.some.inj h
    obtain rfl := hres _ rfl
    exact .inl ⟨_, rfl, rfl, _, σ4, fr_join trivial, rfl, H.sel' [] rfl rfl⟩
  ·clear hj
   have h := h'
   clear h' H
   rintro e a w (⟨t30, rfl, rfl, ρ, σ31, rfl, rfl, H⟩ | ⟨t32, rfl, rfl, ρ, σ33, rfl, rfl, H⟩)
   ·replace h := selim_l h
    refine q_then ?_
    refine c_seq ?_
    refine rg ?_
    refine st (v := (B true)) (rv_assign rfl) ?_
    refine w_end ?_
    refine q_then ?_
    refine c_ret ?_
    obtain rfl := Option.some.inj h
    exact fin_ret (v := (B true)) (results_ok Try.results56 (res_tmp (v := (B true)) rfl res_nil) rfl) ⟨rfl, rfl⟩ (H.sel' [] rfl rfl)
   ·replace h := selim_r h
    refine q_then_r ?_
    obtain rfl := Option.some.inj h
    exact fin_ret (v := (B t32)) (results_ok Try.results56 (res_tmp (v := (B t32)) rfl res_nil) rfl) ⟨rfl, rfl⟩ (H.sel' [] rfl rfl)

theorem c_impl_validCount {k_0 : Int}  {r : Bool} (h : M.impl_validCount k_0 = some r) :
    Cal2 Try.prog 91 [(I k_0)] [] (fun n0 v L => v = (B r) ∧ L = []) := by
 refine cal2 (n := 9) Try.func91 rfl rfl rfl rfl ?_
 intro S0 σ0 n0 hn0 H
 unfold M.impl_validCount at h
 refine c_seq ?_
 refine rg ?_
 refine st (v := (B false)) (rv_assign rfl) ?_
 refine w_end ?_
 refine q_then ?_
 refine c_seq ?_
 refine rg ?_
 refine st (v := (I k_0)) (rv_move rfl) ?_
 refine st (v := (B (decide (1 ≤ k_0)))) (rv_geq (a := k_0) (b := 1) rfl rfl) ?_
 refine st (v := (B (decide (1 ≤ k_0)))) (rv_move rfl) ?_
 rcases Bool.eq_false_or_eq_true (decide (1 ≤ k_0)) with hb1 | hb1
 ·replace h := bif_t hb1 h
  refine st_g (v := (I k_0)) (congrArg some hb1) (rv_move rfl) ?_
  refine st_g (v := (B (decide (k_0 ≤ 16)))) (congrArg some hb1) (rv_leq (a := k_0) (b := 16) rfl rfl) ?_
  refine st (v := (B (decide (k_0 ≤ 16)))) (rv_pick_t (congrArg B hb1) rfl) ?_
  refine st (v := (B (decide (k_0 ≤ 16)))) (rv_assign rfl) ?_
  refine w_end ?_
  refine q_then ?_
  refine c_ret ?_
  obtain rfl := Option.some.inj h
  exact fin_ret (v := (B (decide (k_0 ≤ 16)))) (results_ok Try.results91 (res_tmp (v := (B (decide (k_0 ≤ 16)))) rfl res_nil) rfl) ⟨rfl, rfl⟩ (H.sel' [] rfl rfl)
 ·replace h := bif_f hb1 h
  refine st_skip (congrArg some hb1) ?_
  refine st_skip (congrArg some hb1) ?_
  refine st (v := (B false)) (rv_pick_f (congrArg B hb1) rfl) ?_
  refine st (v := (B false)) (rv_assign rfl) ?_
  refine w_end ?_
  refine q_then ?_
  refine c_ret ?_
  obtain rfl := Option.some.inj h
  exact fin_ret (v := (B false)) (results_ok Try.results91 (res_tmp (v := (B false)) rfl res_nil) rfl) ⟨rfl, rfl⟩ (H.sel' [] rfl rfl)

theorem c_impl_validSearch {list_0 : List (Int × (List Int) × Int)} {kind_1 : Int} {at_2 : List Int} {k_3 : Int} {alist_0 : Option Addr} {clist_0 : Nat} {aat_2 : Option Addr} {cat_2 : Nat} {r : Bool} (h : M.impl_validSearch list_0 kind_1 at_2 k_3 = some r) :
    Cal2 Try.prog 66 [(Sl alist_0 list_0 clist_0), (I kind_1), (Sl aat_2 at_2 cat_2), (I k_3)] [Ch.ro 0 (Sl alist_0 list_0 clist_0) list_0, Ch.ro 0 (Sl aat_2 at_2 cat_2) at_2] (fun n0 v L => v = (B r) ∧ L = []) := by
 refine cal2 (n := 23) Try.func66 rfl rfl rfl rfl ?_
 intro S0 σ0 n0 hn0 H
 unfold M.impl_validSearch at h
 refine c_seq ?_
 refine rg ?_
 refine st (v := (B false)) (rv_assign rfl) ?_
 refine w_end ?_
 refine q_then ?_
 refine c_seq ?_
 refine rg ?_
 refine st (v := (Sl alist_0 list_0 clist_0)) (rv_move rfl) ?_
 obtain ⟨r1, hx2, h'⟩ := bind_some h
 clear h
 have h := h'; clear h'
 have hc3 := c_impl_ValidStore (alist_0 := alist_0) (clist_0 := clist_0) hx2
 refine st_call (cx_call hc3 (ent_f hc3.fn rfl) hn0 (show Hp S0 σ0 _ ([Ch.ro 0 (Sl alist_0 list_0 clist_0) list_0] ++ [Ch.ro 0 (Sl alist_0 list_0 clist_0) list_0, Ch.ro 0 (Sl aat_2 at_2 cat_2) at_2]) from (H.sel' [0, 0, 1] rfl rfl))) wn ?_
 rintro _ σ4 ⟨_, ⟨rfl, rfl⟩, H, -⟩
 replace H : Hp S0 σ0 σ4 [Ch.ro 0 (Sl alist_0 list_0 clist_0) list_0, Ch.ro 0 (Sl aat_2 at_2 cat_2) at_2] := H
 refine st (v := (B r1)) (rv_move rfl) ?_
 rcases Bool.eq_false_or_eq_true r1 with hb5 | hb5
 ·replace h := bif_t hb5 h
  refine st_g (v := (I kind_1)) (congrArg some hb5) (rv_move rfl) ?_
  obtain ⟨r6, hx7, h'⟩ := bind_some h
  clear h
  have h := h'; clear h'
  have hc8 := c_impl_validKind hx7
  refine st_call (cx_call hc8 (ent_f hc8.fn rfl) hn0 (show Hp S0 σ0 _ ([] ++ [Ch.ro 0 (Sl alist_0 list_0 clist_0) list_0, Ch.ro 0 (Sl aat_2 at_2 cat_2) at_2]) from (H.sel' [0, 1] rfl rfl))) (wanted_yes rfl (by exact (congrArg some hb5))) ?_
  rintro _ σ9 ⟨_, ⟨rfl, rfl⟩, H, -⟩
  replace H : Hp S0 σ0 σ9 [Ch.ro 0 (Sl alist_0 list_0 clist_0) list_0, Ch.ro 0 (Sl aat_2 at_2 cat_2) at_2] := H
  refine st (v := (B r6)) (rv_pick_t (congrArg B hb5) rfl) ?_
  refine st (v := (B r6)) (rv_move rfl) ?_
  rcases Bool.eq_false_or_eq_true r6 with hb10 | hb10
  ·replace h := bif_t hb10 h
   refine st_g (v := (Sl aat_2 at_2 cat_2)) (congrArg some hb10) (rv_move rfl) ?_
   obtain ⟨r11, hx12, h'⟩ := bind_some h
   clear h
   have h := h'; clear h'
   have hc13 := c_impl_ValidVector (av_0 := aat_2) (cv_0 := cat_2) hx12
   refine st_call (cx_call hc13 (ent_f hc13.fn rfl) hn0 (show Hp S0 σ0 _ ([Ch.ro 0 (Sl aat_2 at_2 cat_2) at_2] ++ [Ch.ro 0 (Sl alist_0 list_0 clist_0) list_0, Ch.ro 0 (Sl aat_2 at_2 cat_2) at_2]) from (H.sel' [1, 0, 1] rfl rfl))) (wanted_yes rfl (by exact (congrArg some hb10))) ?_
   rintro _ σ14 ⟨_, ⟨rfl, rfl⟩, H, -⟩
   replace H : Hp S0 σ0 σ14 [Ch.ro 0 (Sl alist_0 list_0 clist_0) list_0, Ch.ro 0 (Sl aat_2 at_2 cat_2) at_2] := H
   refine st (v := (B r11)) (rv_pick_t (congrArg B hb10) rfl) ?_
   refine st (v := (B r11)) (rv_move rfl) ?_
   rcases Bool.eq_false_or_eq_true r11 with hb15 | hb15
   ·replace h := bif_t hb15 h
    refine st_g (v := (I k_3)) (congrArg some hb15) (rv_move rfl) ?_
    obtain ⟨r16, hx17, h'⟩ := bind_some h
    clear h
    have h := h'; clear h'
    have hc18 := c_impl_validCount hx17
    refine st_call (cx_call hc18 (ent_f hc18.fn rfl) hn0 (show Hp S0 σ0 _ ([] ++ [Ch.ro 0 (Sl alist_0 list_0 clist_0) list_0, Ch.ro 0 (Sl aat_2 at_2 cat_2) at_2]) from (H.sel' [0, 1] rfl rfl))) (wanted_yes rfl (by exact (congrArg some hb15))) ?_
    rintro _ σ19 ⟨_, ⟨rfl, rfl⟩, H, -⟩
    replace H : Hp S0 σ0 σ19 [Ch.ro 0 (Sl alist_0 list_0 clist_0) list_0, Ch.ro 0 (Sl aat_2 at_2 cat_2) at_2] := H
    refine st (v := (B r16)) (rv_pick_t (congrArg B hb15) rfl) ?_
    refine st (v := (B r16)) (rv_assign rfl) ?_
    refine w_end ?_
    refine q_then ?_
    refine c_ret ?_
    obtain rfl := Option.some.inj h
    exact fin_ret (v := (B r16)) (results_ok Try.results66 (res_tmp (v := (B r16)) rfl res_nil) rfl) ⟨rfl, rfl⟩ (H.sel' [] rfl rfl)
   ·replace h := bif_f hb15 h
    refine st_skip (congrArg some hb15) ?_
    refine st_skip (congrArg some hb15) ?_
    refine st (v := (B false)) (rv_pick_f (congrArg B hb15) rfl) ?_
    refine st (v := (B false)) (rv_assign rfl) ?_
    refine w_end ?_
    refine q_then ?_
    refine c_ret ?_
    obtain rfl := Option.some.inj h
    exact fin_ret (v := (B false)) (results_ok Try.results66 (res_tmp (v := (B false)) rfl res_nil) rfl) ⟨rfl, rfl⟩ (H.sel' [] rfl rfl)
  ·replace h := bif_f hb10 h
   refine st_skip (congrArg some hb10) ?_
   refine st_skip (congrArg some hb10) ?_
   refine st (v := (B false)) (rv_pick_f (congrArg B hb10) rfl) ?_
   refine st (v := (B false)) (rv_move rfl) ?_
   refine st_skip rfl ?_
   refine st_skip rfl ?_
   refine st (v := (B false)) (rv_pick_f rfl rfl) ?_
   refine st (v := (B false)) (rv_assign rfl) ?_
   refine w_end ?_
   refine q_then ?_
   refine c_ret ?_
   obtain rfl := Option.some.inj h
   exact fin_ret (v := (B false)) (results_ok Try.results66 (res_tmp (v := (B false)) rfl res_nil) rfl) ⟨rfl, rfl⟩ (H.sel' [] rfl rfl)
 ·replace h := bif_f hb5 h
  refine st_skip (congrArg some hb5) ?_
  refine st_skip (congrArg some hb5) ?_
  refine st (v := (B false)) (rv_pick_f (congrArg B hb5) rfl) ?_
  refine st (v := (B false)) (rv_move rfl) ?_
  refine st_skip rfl ?_
  refine st_skip rfl ?_
  refine st (v := (B false)) (rv_pick_f rfl rfl) ?_
  refine st (v := (B false)) (rv_move rfl) ?_
  refine st_skip rfl ?_
  refine st_skip rfl ?_
  refine st (v := (B false)) (rv_pick_f rfl rfl) ?_
  refine st (v := (B false)) (rv_assign rfl) ?_
  refine w_end ?_
  refine q_then ?_
  refine c_ret ?_
  obtain rfl := Option.some.inj h
  exact fin_ret (v := (B false)) (results_ok Try.results66 (res_tmp (v := (B false)) rfl res_nil) rfl) ⟨rfl, rfl⟩ (H.sel' [] rfl rfl)

theorem c_impl_hitHeap_Push__impl_Hit {h_0 : List (Int × Int)} {x_1 : Int × Int} {ah_0 : Option Addr} {ch_0 : Nat} {loh_0 bh_0 oh_0 : Nat} {preh_0 sufh_0 : List Value} {r : (List (Int × Int))} (h : M.impl_hitHeap_Push__impl_Hit h_0 x_1 = some r) :
    Cal2 Try.prog 183 [(pt bh_0 oh_0), (.iface 62 (.agg #[(I x_1.1), (I x_1.2)]))] [Ch.bx loh_0 bh_0 oh_0 [(Sl ah_0 h_0 ch_0)] preh_0 sufh_0, Ch.own 0 0 (Sl ah_0 h_0 ch_0) h_0] (fun n0 v L => ∃ (az1 : Option Addr), ∃ (cz2 : Nat), v = (.tuple #[]) ∧ L = [Ch.bx loh_0 bh_0 oh_0 [(Sl az1 r cz2)] preh_0 sufh_0, Ch.own 0 0 (Sl az1 r cz2) r]) := by
 refine cal2 (n := 13) Try.func183 rfl rfl rfl rfl ?_
 intro S0 σ0 n0 hn0 H
 unfold M.impl_hitHeap_Push__impl_Hit at h
 have hc1 := H.cell (u := (Sl ah_0 h_0 ch_0)) (o' := oh_0) 0 0 rfl rfl rfl
 obtain ⟨xs3, hx4, h'⟩ := bind_some h
 clear h
 have h := h'; clear h'
 have Hs := H
 refine rg2 (σ := σ0) (Nm := (Nat) × (Option Addr) × (Nat)) 8 [6, 7] [[false, false], [true, false], [true, true]] [[(0, 0), (1, 1), (2, 2)], [(0, 0), (1, 1)], [(0, 0), (1, 1)], [(0, 0), (1, 1)], [(0, 0)], [(0, 0)], [(0, 1)], [(1, 2)]] 2 [fun ((b2, a5, c6) : (Nat) × (Option Addr) × (Nat)) => fun σm => Hp S0 σ0 σm [Ch.bx loh_0 bh_0 oh_0 [(Sl ah_0 h_0 ch_0)] preh_0 sufh_0, Ch.own 0 0 (Sl ah_0 h_0 ch_0) h_0] ∧ Md (cov []) σ0 σm, fun ((b2, a5, c6) : (Nat) × (Option Addr) × (Nat)) => fun σm => Hp S0 σ0 σm [Ch.own n0 n0 (Sl (some ⟨b2, 0, none⟩) ([(x_1.1, x_1.2)] : List (Int × Int)) 1) ([(x_1.1, x_1.2)] : List (Int × Int)), Ch.bx loh_0 bh_0 oh_0 [(Sl ah_0 h_0 ch_0)] preh_0 sufh_0, Ch.own 0 0 (Sl ah_0 h_0 ch_0) h_0] ∧ Md (cov []) σ0 σm, fun ((b2, a5, c6) : (Nat) × (Option Addr) × (Nat)) => fun σm => Hp S0 σ0 σm [Ch.own 0 0 (Sl a5 xs3 c6) xs3, Ch.own n0 n0 (Sl (some ⟨b2, 0, none⟩) ([(x_1.1, x_1.2)] : List (Int × Int)) 1) ([(x_1.1, x_1.2)] : List (Int × Int)), Ch.bx loh_0 bh_0 oh_0 [(Sl ah_0 h_0 ch_0)] preh_0 sufh_0] ∧ Md (fun i => (cov []) i ∨ (fun b => blk (Sl ah_0 h_0 ch_0) = some b) i) σ0 σm] [fun ((b2, a5, c6) : (Nat) × (Option Addr) × (Nat)) => (pt bh_0 oh_0), fun ((b2, a5, c6) : (Nat) × (Option Addr) × (Nat)) => (pt bh_0 oh_0), fun ((b2, a5, c6) : (Nat) × (Option Addr) × (Nat)) => (pt bh_0 oh_0), fun ((b2, a5, c6) : (Nat) × (Option Addr) × (Nat)) => (Sl ah_0 h_0 ch_0), fun ((b2, a5, c6) : (Nat) × (Option Addr) × (Nat)) => (.iface 62 (.agg #[(I x_1.1), (I x_1.2)])), fun ((b2, a5, c6) : (Nat) × (Option Addr) × (Nat)) => (.agg #[(I x_1.1), (I x_1.2)]), fun ((b2, a5, c6) : (Nat) × (Option Addr) × (Nat)) => (Sl (some ⟨b2, 0, none⟩) ([(x_1.1, x_1.2)] : List (Int × Int)) 1), fun ((b2, a5, c6) : (Nat) × (Option Addr) × (Nat)) => (Sl a5 xs3 c6)] (0, none, 0) (by kernel_rfl) (by kernel_rfl) ?_ ?_ ?_
 ·intro σm m0
  exact ⟨H.grow (m0.mono fun _ h => h.elim), m0⟩
 ·refine ac rfl (by
    intro k; rintro ⟨b2, a5, c6⟩ ρ σm hJ hoff hdep
    have e0 := look_off (N := 13) (hoff 0 rfl) rfl
    exact dp_v (v := (pt bh_0 oh_0)) wn (rv_move e0) rfl hJ) ?_
  refine ac rfl (by
    intro k; rintro ⟨b2, a5, c6⟩ ρ σm hJ hoff hdep
    have e0 := look_off (N := 13) (hoff 0 rfl) rfl
    exact dp_v (v := (pt bh_0 oh_0)) wn (rv_move e0) rfl hJ) ?_
  refine ac rfl (by
    intro k; rintro ⟨b2, a5, c6⟩ ρ σm hJ hoff hdep
    have e5 := hdep 1 rfl rfl 5 rfl
    exact dp_v (v := (pt bh_0 oh_0)) wn (rv_nilCheck e5) rfl hJ) ?_
  refine all_cons (by
    refine ⟨?_, ?_⟩
    ·rintro ⟨b2, a5, c6⟩ ρ σm hJ hoff hdep
     have e6 := hdep 2 rfl rfl 6 rfl
     obtain ⟨H, m⟩ := id hJ
     have hc1 := H.cell (u := (Sl ah_0 h_0 ch_0)) (o' := oh_0) 0 0 rfl rfl rfl
     exact dp_v (v := (Sl ah_0 h_0 ch_0)) wn (rv_load1 Try.underlying86 rfl e6 hc1) rfl hJ
    refine ⟨?_, ?_⟩
    ·rintro ⟨b2, a5, c6⟩ ρ σm hJ hoff hdep
     have e6 := hdep 2 rfl rfl 6 rfl
     obtain ⟨H, m⟩ := id hJ
     have hc1 := H.cell (u := (Sl ah_0 h_0 ch_0)) (o' := oh_0) 1 0 rfl rfl rfl
     exact dp_v (v := (Sl ah_0 h_0 ch_0)) wn (rv_load1 Try.underlying86 rfl e6 hc1) rfl hJ
    trivial) ?_
  refine ac rfl (by
    intro k; rintro ⟨b2, a5, c6⟩ ρ σm hJ hoff hdep
    have e1 := look_off (N := 13) (hoff 1 rfl) rfl
    exact dp_v (v := (.iface 62 (.agg #[(I x_1.1), (I x_1.2)]))) wn (rv_move e1) rfl hJ) ?_
  refine ac rfl (by
    intro k; rintro ⟨b2, a5, c6⟩ ρ σm hJ hoff hdep
    have e8 := hdep 4 rfl rfl 8 rfl
    exact dp_v (v := (.agg #[(I x_1.1), (I x_1.2)])) wn (rv_typeAssert Try.underlying62 rfl e8) rfl hJ) ?_
  refine all_cons (by
    refine ⟨?_, ?_⟩
    ·rintro ⟨b2, a5, c6⟩ ρ σm hJ hoff hdep
     have e9 : look 13 ρ 9 = (.agg #[(I x_1.1), (I x_1.2)]) := hdep 5 rfl rfl 9 rfl
     obtain ⟨H, m⟩ := id hJ
     refine dp_ex wn (ex_buildSlice (el := n0) (xs := ([(x_1.1, x_1.2)] : List (Int × Int))) (ps := [(0, (.agg #[(I x_1.1), (I x_1.2)]))]) (cs := [(I x_1.1), (I x_1.2)]) H hn0 Try.underlying86 ti62 rfl (by show [(0, look 13 ρ 9)] = _; rw [e9]) (by kernel_rfl) (.cons (c := [(I x_1.1), (I x_1.2)]) ⟨[(I x_1.1)], [(I x_1.2)], rfl, rfl, rfl⟩ (.nil)) rfl) ?_
     rintro _ σq ⟨b2x, rfl, H2, m2⟩
     exact ⟨_, (b2x, a5, c6), rfl, rfl, ⟨H2.sel' [0, 1, 2] rfl rfl, m.comp0 m2⟩, stab [0, 1, 2, 3, 4, 5] (by kernel_rfl) ⟨rfl, rfl, rfl, rfl, rfl, rfl, trivial⟩⟩
    trivial) ?_
  refine all_cons (by
    refine ⟨?_, ?_⟩
    ·rintro ⟨b2, a5, c6⟩ ρ σm hJ hoff hdep
     have e7 := hdep 3 rfl rfl 7 rfl
     have e10 := hdep 6 rfl rfl 10 rfl
     obtain ⟨H, m⟩ := id hJ
     refine dp_ex wn (ex_append H (i := 2) rfl Try.underlying86 Try.underlying86 ti62 rfl rfl (by decide) ((H.own 0 rfl).rd.sc) hx4 (Nat.zero_le _) e7 e10) ?_
     rintro _ σq ⟨a5x, c6x, rfl, H2, m2⟩
     exact ⟨_, (b2, a5x, c6x), rfl, rfl, ⟨H2.sel' [0, 1, 2] rfl rfl, m.comp m2⟩, stab [0, 1, 2, 3, 4, 5, 6] (by kernel_rfl) ⟨rfl, rfl, rfl, rfl, rfl, rfl, rfl, trivial⟩⟩
    trivial) ?_
  exact all_nil
 ·rintro ⟨b2, a5, c6⟩ ρ σ7 hJ hoff hrel
  have e0 := look_off (N := 13) (hoff 0 rfl) rfl
  have e4 := hrel 0 rfl 4 rfl
  have e11 := hrel 7 rfl 11 rfl
  obtain ⟨H, -⟩ := (show Hp S0 σ0 σ7 [Ch.own 0 0 (Sl a5 xs3 c6) xs3, Ch.own n0 n0 (Sl (some ⟨b2, 0, none⟩) ([(x_1.1, x_1.2)] : List (Int × Int)) 1) ([(x_1.1, x_1.2)] : List (Int × Int)), Ch.bx loh_0 bh_0 oh_0 [(Sl ah_0 h_0 ch_0)] preh_0 sufh_0] ∧ Md (fun i => (cov []) i ∨ (fun b => blk (Sl ah_0 h_0 ch_0) = some b) i) σ0 σ7 from hJ)
  clear hJ Hs
  rw [fr_lookL (L := [(0, (pt bh_0 oh_0)), (4, (pt bh_0 oh_0)), (11, (Sl a5 xs3 c6))]) ⟨e0, e4, e11, trivial⟩]
  clear hoff hrel e0 e4 e11
  refine st (v := (pt bh_0 oh_0)) (rv_nilCheck rfl) ?_
  refine st_exS (ex_store_box (k := 0) (cs := [(Sl ah_0 h_0 ch_0)]) (vs := [(Sl a5 xs3 c6)]) (cs' := [(Sl a5 xs3 c6)]) H (i := 2) rfl ti86 rfl rfl rfl rfl rfl (Nat.le_of_ble_eq_true rfl) (by simp [plain]) rfl) wn ?_
  rintro σ8 ⟨H, -⟩
  refine w_end ?_
  obtain rfl := Option.some.inj h
  exact fin_end (v := (.tuple #[])) (results_ok Try.results183 res_nil rfl) ⟨a5, c6, rfl, rfl⟩ (H.sel' [0, 1] rfl rfl)

theorem c_impl_hitHeap_Len {h_0 : List (Int × Int)} {ah_0 : Option Addr} {ch_0 : Nat} {r : Int} (h : M.impl_hitHeap_Len h_0 = some r) :
    Cal2 Try.prog 179 [(Sl ah_0 h_0 ch_0)] [Ch.ro 0 (Sl ah_0 h_0 ch_0) h_0] (fun n0 v L => v = (I r) ∧ L = []) := by
 refine cal2 (n := 5) Try.func179 rfl rfl rfl rfl ?_
 intro S0 σ0 n0 hn0 H
 unfold M.impl_hitHeap_Len at h
 refine c_seq ?_
 refine rg ?_
 refine st (v := (I 0)) (rv_assign rfl) ?_
 refine w_end ?_
 refine q_then ?_
 refine c_seq ?_
 refine rg ?_
 refine st (v := (Sl ah_0 h_0 ch_0)) (rv_move rfl) ?_
 refine st (v := (I (h_0.length : Int))) (rv_len Try.underlying86 rfl) ?_
 refine st (v := (I (h_0.length : Int))) (rv_assign rfl) ?_
 refine w_end ?_
 refine q_then ?_
 refine c_ret ?_
 obtain rfl := Option.some.inj h
 exact fin_ret (v := (I (h_0.length : Int))) (results_ok Try.results179 (res_tmp (v := (I (h_0.length : Int))) rfl res_nil) rfl) ⟨rfl, rfl⟩ (H.sel' [] rfl rfl)

theorem c_impl_hitHeap_Less {h_0 : List (Int × Int)} {i_1 : Int} {j_2 : Int} {ah_0 : Option Addr} {ch_0 : Nat} {r : Bool} (h : M.impl_hitHeap_Less h_0 i_1 j_2 = some r) :
    Cal2 Try.prog 180 [(Sl ah_0 h_0 ch_0), (I i_1), (I j_2)] [Ch.ro 0 (Sl ah_0 h_0 ch_0) h_0] (fun n0 v L => v = (B r) ∧ L = []) := by
 refine cal2 (n := 17) Try.func180 rfl rfl rfl rfl ?_
 intro S0 σ0 n0 hn0 H
 unfold M.impl_hitHeap_Less at h
 refine c_seq ?_
 refine rg ?_
 refine st (v := (B false)) (rv_assign rfl) ?_
 refine w_end ?_
 refine q_then ?_
 refine c_seq ?_
 refine rgP (σ := σ0) 8 (by kernel_rfl) (by kernel_rfl) (by kernel_rfl) ?_
 refine sq (v := (Sl ah_0 h_0 ch_0)) (rv_move rfl) ?_
 refine sq (v := (I i_1)) (rv_move rfl) ?_
 obtain ⟨x1, hx2, h'⟩ := bind_some h
 clear h
 have h := h'; clear h'
 obtain ⟨b4, o5, hi3, -⟩ := (H.ro 0 rfl).ix hx2
 refine sq (v := (pt b4 o5)) (rv_ix Try.underlying86 ti62 rfl rfl hi3) ?_
 obtain ⟨_, ⟨_, _, rfl, rfl, rfl⟩, hl6, hc7⟩ := ((H.ro 0 rfl).at hx2 hi3).cells
 refine sq (v := (.agg #[(I x1.1), (I x1.2)])) (rv_load Try.underlying62 rfl ti62 rfl hl6 hc7) ?_
 refine sq (v := (Sl ah_0 h_0 ch_0)) (rv_move rfl) ?_
 refine sq (v := (I j_2)) (rv_move rfl) ?_
 obtain ⟨x8, hx9, h'⟩ := bind_some h
 clear h
 have h := h'; clear h'
 obtain ⟨b11, o12, hi10, -⟩ := (H.ro 0 rfl).ix hx9
 refine sq (v := (pt b11 o12)) (rv_ix Try.underlying86 ti62 rfl rfl hi10) ?_
 obtain ⟨_, ⟨_, _, rfl, rfl, rfl⟩, hl13, hc14⟩ := ((H.ro 0 rfl).at hx9 hi10).cells
 refine sq (v := (.agg #[(I x8.1), (I x8.2)])) (rv_load Try.underlying62 rfl ti62 rfl hl13 hc14) ?_
 refine sq_end ?_
 intro σ15 hm16
 replace H := H.grow (hm16.mono fun _ h => h); clear hm16
 obtain ⟨r17, hx18, h'⟩ := bind_some h
 clear h
 have h := h'; clear h'
 have hc19 := c_impl_compareHits hx18
 refine st_call (cx_call hc19 (ent_f hc19.fn rfl) hn0 (show Hp S0 σ0 _ ([] ++ [Ch.ro 0 (Sl ah_0 h_0 ch_0) h_0]) from (H.sel' [0] rfl rfl))) wn ?_
 rintro _ σ20 ⟨_, ⟨rfl, rfl⟩, H, -⟩
 replace H : Hp S0 σ0 σ20 [Ch.ro 0 (Sl ah_0 h_0 ch_0) h_0] := H
 refine st (v := (B (decide (0 < r17)))) (rv_gtr (a := r17) (b := 0) rfl rfl) ?_
 refine st (v := (B (decide (0 < r17)))) (rv_assign rfl) ?_
 refine w_end ?_
 refine q_then ?_
 refine c_ret ?_
 obtain rfl := Option.some.inj h
 exact fin_ret (v := (B (decide (0 < r17)))) (results_ok Try.results180 (res_tmp (v := (B (decide (0 < r17)))) rfl res_nil) rfl) ⟨rfl, rfl⟩ (H.sel' [] rfl rfl)

theorem c_impl_hitHeap_Swap {h_0 : List (Int × Int)} {i_1 : Int} {j_2 : Int} {ah_0 : Option Addr} {ch_0 : Nat} {r : (List (Int × Int))} (h : M.impl_hitHeap_Swap h_0 i_1 j_2 = some r) :
    Cal2 Try.prog 181 [(Sl ah_0 h_0 ch_0), (I i_1), (I j_2)] [Ch.own 0 0 (Sl ah_0 h_0 ch_0) h_0] (fun n0 v L => v = (.tuple #[]) ∧ L = [Ch.own 0 0 (Sl ah_0 r ch_0) r] ∧ r.length = h_0.length) := by
 refine cal2 (n := 20) Try.func181 rfl rfl rfl rfl ?_
 intro S0 σ0 n0 hn0 H
 unfold M.impl_hitHeap_Swap at h
 obtain ⟨x1, hx2, h'⟩ := bind_some h
 clear h
 have h := h'; clear h'
 obtain ⟨b4, o5, hi3, -⟩ := (H.own 0 rfl).ix hx2
 obtain ⟨_, ⟨_, _, rfl, rfl, rfl⟩, hl6, hc7⟩ := ((H.own 0 rfl).at hx2 hi3).cells
 obtain ⟨x8, hx9, h'⟩ := bind_some h
 clear h
 have h := h'; clear h'
 obtain ⟨b11, o12, hi10, -⟩ := (H.own 0 rfl).ix hx9
 obtain ⟨_, ⟨_, _, rfl, rfl, rfl⟩, hl13, hc14⟩ := ((H.own 0 rfl).at hx9 hi10).cells
 obtain ⟨x15, hx16, h'⟩ := bind_some h
 clear h
 have h := h'; clear h'
 obtain ⟨b18, o19, hi17, -⟩ := (H.own 0 rfl).ix hx16
 have Hs := H
 refine rg2 (σ := σ0) (Nm := Unit) 14 [13] [[false], [true]] [[(0, 0)], [(0, 0)], [(0, 0), (1, 1)], [(0, 0), (1, 1)], [(0, 0)], [(0, 0)], [(0, 0)], [(0, 0)], [(0, 0)], [(0, 0)], [(0, 0)], [(0, 0)], [(0, 0)], [(0, 1)]] 1 [fun _ => fun σm => Hp S0 σ0 σm [Ch.own 0 0 (Sl ah_0 h_0 ch_0) h_0] ∧ Md (cov []) σ0 σm, fun _ => fun σm => Hp S0 σ0 σm [Ch.own 0 0 (Sl ah_0 h_0 ch_0) (h_0.set i_1.toNat (x1.1, x1.2))] ∧ Md (fun i => (cov []) i ∨ (fun b => blk (Sl ah_0 h_0 ch_0) = some b) i) σ0 σm] [fun _ => (Sl ah_0 h_0 ch_0), fun _ => (I i_1), fun _ => (Sl ah_0 h_0 ch_0), fun _ => (I j_2), fun _ => (Sl ah_0 h_0 ch_0), fun _ => (I j_2), fun _ => (pt b4 o5), fun _ => (.agg #[(I x1.1), (I x1.2)]), fun _ => (Sl ah_0 h_0 ch_0), fun _ => (I i_1), fun _ => (pt b11 o12), fun _ => (.agg #[(I x8.1), (I x8.2)]), fun _ => (pt b18 o19), fun _ => undef] () (by kernel_rfl) (by kernel_rfl) ?_ ?_ ?_
 ·intro σm m0
  exact ⟨H.grow (m0.mono fun _ h => h.elim), m0⟩
 ·refine ac rfl (by
    intro k _nm ρ σm hJ hoff hdep
    have e0 := look_off (N := 20) (hoff 0 rfl) rfl
    exact dp_v (v := (Sl ah_0 h_0 ch_0)) wn (rv_move e0) rfl hJ) ?_
  refine ac rfl (by
    intro k _nm ρ σm hJ hoff hdep
    have e1 := look_off (N := 20) (hoff 1 rfl) rfl
    exact dp_v (v := (I i_1)) wn (rv_move e1) rfl hJ) ?_
  refine ac rfl (by
    intro k _nm ρ σm hJ hoff hdep
    have e0 := look_off (N := 20) (hoff 0 rfl) rfl
    exact dp_v (v := (Sl ah_0 h_0 ch_0)) wn (rv_move e0) rfl hJ) ?_
  refine ac rfl (by
    intro k _nm ρ σm hJ hoff hdep
    have e2 := look_off (N := 20) (hoff 2 rfl) rfl
    exact dp_v (v := (I j_2)) wn (rv_move e2) rfl hJ) ?_
  refine ac rfl (by
    intro k _nm ρ σm hJ hoff hdep
    have e0 := look_off (N := 20) (hoff 0 rfl) rfl
    exact dp_v (v := (Sl ah_0 h_0 ch_0)) wn (rv_move e0) rfl hJ) ?_
  refine ac rfl (by
    intro k _nm ρ σm hJ hoff hdep
    have e2 := look_off (N := 20) (hoff 2 rfl) rfl
    exact dp_v (v := (I j_2)) wn (rv_move e2) rfl hJ) ?_
  refine ac rfl (by
    intro k _nm ρ σm hJ hoff hdep
    have e10 := hdep 4 rfl rfl 10 rfl
    have e11 := hdep 5 rfl rfl 11 rfl
    exact dp_v (v := (pt b4 o5)) wn (rv_ix Try.underlying86 ti62 e10 e11 hi3) rfl hJ) ?_
  refine all_cons (by
    refine ⟨?_, ?_⟩
    ·intro _nm ρ σm hJ hoff hdep
     have e12 := hdep 6 rfl rfl 12 rfl
     obtain ⟨H, m⟩ := id hJ
     obtain ⟨_, ⟨_, _, rfl, rfl, rfl⟩, hl6, hc7⟩ := ((H.own 0 rfl).at hx2 hi3).cells
     exact dp_v (v := (.agg #[(I x1.1), (I x1.2)])) wn (rv_load Try.underlying62 rfl ti62 e12 hl6 hc7) rfl hJ
    trivial) ?_
  refine ac rfl (by
    intro k _nm ρ σm hJ hoff hdep
    have e0 := look_off (N := 20) (hoff 0 rfl) rfl
    exact dp_v (v := (Sl ah_0 h_0 ch_0)) wn (rv_move e0) rfl hJ) ?_
  refine ac rfl (by
    intro k _nm ρ σm hJ hoff hdep
    have e1 := look_off (N := 20) (hoff 1 rfl) rfl
    exact dp_v (v := (I i_1)) wn (rv_move e1) rfl hJ) ?_
  refine ac rfl (by
    intro k _nm ρ σm hJ hoff hdep
    have e14 := hdep 8 rfl rfl 14 rfl
    have e15 := hdep 9 rfl rfl 15 rfl
    exact dp_v (v := (pt b11 o12)) wn (rv_ix Try.underlying86 ti62 e14 e15 hi10) rfl hJ) ?_
  refine all_cons (by
    refine ⟨?_, ?_⟩
    ·intro _nm ρ σm hJ hoff hdep
     have e16 := hdep 10 rfl rfl 16 rfl
     obtain ⟨H, m⟩ := id hJ
     obtain ⟨_, ⟨_, _, rfl, rfl, rfl⟩, hl13, hc14⟩ := ((H.own 0 rfl).at hx9 hi10).cells
     exact dp_v (v := (.agg #[(I x8.1), (I x8.2)])) wn (rv_load Try.underlying62 rfl ti62 e16 hl13 hc14) rfl hJ
    trivial) ?_
  refine ac rfl (by
    intro k _nm ρ σm hJ hoff hdep
    have e6 := hdep 0 rfl rfl 6 rfl
    have e7 := hdep 1 rfl rfl 7 rfl
    exact dp_v (v := (pt b18 o19)) wn (rv_ix Try.underlying86 ti62 e6 e7 hi17) rfl hJ) ?_
  refine all_cons (by
    refine ⟨?_, ?_⟩
    ·intro _nm ρ σm hJ hoff hdep
     have e18 := hdep 12 rfl rfl 18 rfl
     have e13 := hdep 7 rfl rfl 13 rfl
     obtain ⟨H, m⟩ := id hJ
     refine dp_exS wn rfl (ex_store_own (e' := (x1.1, x1.2)) (vs := [(I x1.1), (I x1.2)]) (k := 0) H (i := 0) rfl ti62 hx16 hi17 e18 rfl e13 rfl rfl (Nat.le_of_ble_eq_true rfl) (by simp [plain]) (by rintro _ ⟨_, _, rfl, rfl, rfl⟩; exact ⟨[(I x1.1)], [(I x1.2)], rfl, rfl, rfl⟩)) ?_
     rintro σq ⟨H2, m2⟩
     exact ⟨_, (), rfl, ⟨H2.sel' [0] rfl rfl, m.comp m2⟩, stab [0, 1, 2, 3, 4, 5, 6, 7, 8, 9, 10, 11, 12] (by kernel_rfl) ⟨rfl, rfl, rfl, rfl, rfl, rfl, rfl, rfl, rfl, rfl, rfl, rfl, rfl, trivial⟩⟩
    trivial) ?_
  exact all_nil
 ·intro _nm ρ σ20 hJ hoff hrel
  have e0 := look_off (N := 20) (hoff 0 rfl) rfl
  have e8 := hrel 2 rfl 8 rfl
  have e9 := hrel 3 rfl 9 rfl
  have e17 := hrel 11 rfl 17 rfl
  obtain ⟨H, -⟩ := (show Hp S0 σ0 σ20 [Ch.own 0 0 (Sl ah_0 h_0 ch_0) (h_0.set i_1.toNat (x1.1, x1.2))] ∧ Md (fun i => (cov []) i ∨ (fun b => blk (Sl ah_0 h_0 ch_0) = some b) i) σ0 σ20 from hJ)
  clear hJ Hs
  rw [fr_lookL (L := [(0, (Sl ah_0 h_0 ch_0)), (8, (Sl ah_0 h_0 ch_0)), (9, (I j_2)), (17, (.agg #[(I x8.1), (I x8.2)]))]) ⟨e0, e8, e9, e17, trivial⟩]
  clear hoff hrel e0 e8 e9 e17
  have hsl : (Sl ah_0 h_0 ch_0) = (Sl ah_0 (h_0.set i_1.toNat (x1.1, x1.2)) ch_0) := sl_len (by simp)
  rw [hsl]; rw [hsl] at H; clear hsl
  obtain ⟨x21, hx22, h'⟩ := bind_some h
  clear h
  have h := h'; clear h'
  obtain ⟨b24, o25, hi23, -⟩ := (H.own 0 rfl).ix hx22
  refine st (v := (pt b24 o25)) (rv_ix Try.underlying86 ti62 rfl rfl hi23) ?_
  refine st_exS (ex_store_own (e' := (x8.1, x8.2)) (vs := [(I x8.1), (I x8.2)]) (k := 0) H (i := 0) rfl ti62 hx22 hi23 rfl rfl rfl rfl rfl (Nat.le_of_ble_eq_true rfl) (by simp [plain]) (by rintro _ ⟨_, _, rfl, rfl, rfl⟩; exact ⟨[(I x8.1)], [(I x8.2)], rfl, rfl, rfl⟩)) wn ?_
  rintro σ26 ⟨H, -⟩
  have hsl : (Sl ah_0 (h_0.set i_1.toNat (x1.1, x1.2)) ch_0) = (Sl ah_0 ((h_0.set i_1.toNat (x1.1, x1.2)).set j_2.toNat (x8.1, x8.2)) ch_0) := sl_len List.length_set.symm
  rw [hsl]; rw [hsl] at H; clear hsl
  refine w_end ?_
  obtain rfl := Option.some.inj h
  exact fin_end (v := (.tuple #[])) (results_ok Try.results181 res_nil rfl) ⟨rfl, rfl, (List.length_set.trans List.length_set)⟩ (H.sel' [0] rfl rfl)

theorem c_container_heap_up__impl_hitHeap {h_0 : List (Int × Int)} {j_1 : Int} {ah_0 : Option Addr} {ch_0 : Nat} {loh_0 bh_0 oh_0 : Nat} {preh_0 sufh_0 : List Value} {r : (List (Int × Int))} (h : M.container_heap_up__impl_hitHeap h_0 j_1 = some r) :
    Cal2 Try.prog 124 [(.iface 127 (pt bh_0 oh_0)), (I j_1)] [Ch.bx loh_0 bh_0 oh_0 [(Sl ah_0 h_0 ch_0)] preh_0 sufh_0, Ch.own 0 0 (Sl ah_0 h_0 ch_0) h_0] (fun n0 v L => ∃ (az1 : Option Addr), ∃ (cz2 : Nat), v = (.tuple #[]) ∧ L = [Ch.bx loh_0 bh_0 oh_0 [(Sl az1 r cz2)] preh_0 sufh_0, Ch.own 0 0 (Sl az1 r cz2) r]) := by
 refine cal2 (n := 23) Try.func124 rfl rfl rfl rfl ?_
 intro S0 σ0 n0 hn0 H
 unfold M.container_heap_up__impl_hitHeap at h
 obtain ⟨o1, hj, h'⟩ := bind_some h
 clear h
 refine c_cut (fun e a w => e = .normal ∧ ∃ (ρ : Nat → Value) (σ : St) (aj1 : Option Addr) (cj2 : Nat), a = fr 23 (updL ρ [(0, (.iface 127 (pt bh_0 oh_0)))]) ∧ w = σ.w ∧ Hp S0 σ0 σ [Ch.bx loh_0 bh_0 oh_0 [(Sl aj1 o1 cj2)] preh_0 sufh_0, Ch.own 0 0 (Sl aj1 o1 cj2) o1]) ?_ ?_
 ·clear h'
  rename _ = some o1 => h
  refine c_blk ?_
  refine wp_loopM _ h (fun s2 a w => ∃ (ρ : Nat → Value) (σ : St) (aj1 : Option Addr) (cj2 : Nat), a = fr 23 (updL ρ [(0, (.iface 127 (pt bh_0 oh_0))), (1, (I s2.2))]) ∧ w = σ.w ∧ Hp S0 σ0 σ [Ch.bx loh_0 bh_0 oh_0 [(Sl aj1 s2.1 cj2)] preh_0 sufh_0, Ch.own 0 0 (Sl aj1 s2.1 cj2) s2.1]) ⟨_, σ0, ah_0, ch_0, fr_join ⟨rfl, rfl, trivial⟩, rfl, H.sel' [0, 1] rfl rfl⟩ ?_
  clear h H
  rintro s2 a w o ⟨ρ, σ3, a4, c5, rfl, rfl, H⟩ h hres
  refine c_blk ?_
  refine c_seq ?_
  refine rg ?_
  refine st (v := (I s2.2)) (rv_move rfl) ?_
  refine st (v := (I (w64 (s2.2 - 1)))) (rv_sub (a := s2.2) (b := 1) rfl rfl) ?_
  refine st (v := (I (w64 ((w64 (s2.2 - 1)).tdiv 2)))) (rv_quo (a := (w64 (s2.2 - 1))) (b := 2) rfl rfl (by decide)) ?_
  refine st (v := (I (w64 ((w64 (s2.2 - 1)).tdiv 2)))) (rv_assign rfl) ?_
  refine w_end ?_
  refine q_then ?_
  refine c_seq ?_
  refine c_seq ?_
  obtain ⟨o6, hj, h'⟩ := bind_some h
  clear h
  refine c_cut (fun e a w => e = .normal ∧ ∃ (ρ : Nat → Value) (σ : St), a = fr 23 (updL ρ [(0, (.iface 127 (pt bh_0 oh_0))), (1, (I s2.2)), (4, (I (w64 ((w64 (s2.2 - 1)).tdiv 2)))), (17, (B o6))]) ∧ w = σ.w ∧ Hp S0 σ0 σ [Ch.own 0 0 (Sl a4 s2.1 c5) s2.1, Ch.bx loh_0 bh_0 oh_0 [(Sl a4 s2.1 c5)] preh_0 sufh_0]) ?_ ?_
  ·clear h'
   rename _ = some o6 => h
   refine rg ?_
   refine st (v := (I (w64 ((w64 (s2.2 - 1)).tdiv 2)))) (rv_move rfl) ?_
   refine st (v := (I s2.2)) (rv_move rfl) ?_
   refine st (v := (B ((w64 ((w64 (s2.2 - 1)).tdiv 2)) == s2.2))) (rv_eql (a := (w64 ((w64 (s2.2 - 1)).tdiv 2))) (b := s2.2) rfl rfl) ?_
   refine st (v := (B ((w64 ((w64 (s2.2 - 1)).tdiv 2)) == s2.2))) (rv_move rfl) ?_
   rcases Bool.eq_false_or_eq_true ((w64 ((w64 (s2.2 - 1)).tdiv 2)) == s2.2) with hb7 | hb7
   ·replace h := bif_t hb7 h
    refine st_skip (congrArg some hb7) ?_
    refine st_skip (congrArg some hb7) ?_
    refine st_skip (congrArg some hb7) ?_
    refine st_skip (congrArg some hb7) ?_
    refine st_skip (congrArg some hb7) ?_
    refine st (v := (B true)) (rv_pick_t (congrArg B hb7) rfl) ?_
    refine w_end ?_
    obtain rfl := Option.some.inj h
    exact ⟨rfl, _, σ3, fr_join ⟨rfl, rfl, rfl, rfl, trivial⟩, rfl, H.sel' [1, 0] rfl rfl⟩
   ·replace h := bif_f hb7 h
    refine st_g (v := (.iface 127 (pt bh_0 oh_0))) (congrArg some hb7) (rv_move rfl) ?_
    refine st_g (v := (I s2.2)) (congrArg some hb7) (rv_move rfl) ?_
    refine st_g (v := (I (w64 ((w64 (s2.2 - 1)).tdiv 2)))) (congrArg some hb7) (rv_move rfl) ?_
    obtain ⟨r8, hx9, h'⟩ := bind_some h
    clear h
    have h := h'; clear h'
    have hc10 := c_impl_hitHeap_Less (ah_0 := a4) (ch_0 := c5) hx9
    have hle := Nat.le_trans hn0 H.size
    refine st_call (cx_lend (Loan.lend Loan.nil) hc10 (ent_iv hc10.fn (by kernel_rfl) Try.underlying127 Try.underlying86 rfl rfl (H.cell (u := (Sl a4 s2.1 c5)) (o' := oh_0) 0 0 rfl rfl rfl) rfl) (show Hp S0 σ0 _ ([Ch.own 0 0 (Sl a4 s2.1 c5) s2.1] ++ ([] ++ [Ch.bx loh_0 bh_0 oh_0 [(Sl a4 s2.1 c5)] preh_0 sufh_0])) from (H.sel' [1, 0] rfl rfl)) (by rintro _ _ _ ⟨rfl, rfl⟩; exact trivial)) (wanted_yes rfl (by exact (congrArg some hb7))) ?_
    rintro _ σ11 ⟨_, ⟨rfl, rfl⟩, H, -, -⟩
    replace H : Hp S0 σ0 σ11 [Ch.own 0 0 (Sl a4 s2.1 c5) s2.1, Ch.bx loh_0 bh_0 oh_0 [(Sl a4 s2.1 c5)] preh_0 sufh_0] := H
    clear hle
    replace H : Hp S0 σ0 σ11 [Ch.own 0 0 (Sl a4 s2.1 c5) s2.1, Ch.bx loh_0 bh_0 oh_0 [(Sl a4 s2.1 c5)] preh_0 sufh_0] := H
    refine st_g (v := (B (!r8))) (congrArg some hb7) (rv_not rfl) ?_
    refine st (v := (B (!r8))) (rv_pick_f (congrArg B hb7) rfl) ?_
    refine w_end ?_
    obtain rfl := Option.some.inj h
    exact ⟨rfl, _, σ11, fr_join ⟨rfl, rfl, rfl, rfl, trivial⟩, rfl, H.sel' [0, 1] rfl rfl⟩
  ·clear hj
   have h := h'
   clear h' H
   rintro e a w ⟨rfl, ρ, σ12, rfl, rfl, H⟩
   refine q_then ?_
   refine cd_cond o6 rfl (fun hb13 => ?_) (fun hb13 => ?_)
   ·replace h := bif_t hb13 h
    refine c_exit ?_
    refine q_then_x ?_
    refine q_blk_x (by decide) ?_
    refine q_then_x ?_
    refine q_blk_hit ?_
    obtain rfl := Option.some.inj h
    obtain rfl := hres _ rfl
    exact ⟨rfl, _, σ12, a4, c5, fr_join ⟨rfl, trivial⟩, rfl, H.sel' [1, 0] rfl rfl⟩
   ·replace h := bif_f hb13 h
    refine c_skip ?_
    refine q_then ?_
    refine c_seq ?_
    refine rg ?_
    refine st (v := (.iface 127 (pt bh_0 oh_0))) (rv_move rfl) ?_
    refine st (v := (I (w64 ((w64 (s2.2 - 1)).tdiv 2)))) (rv_move rfl) ?_
    refine st (v := (I s2.2)) (rv_move rfl) ?_
    obtain ⟨r14, hx15, h'⟩ := bind_some h
    clear h
    have h := h'; clear h'
    have hc16 := c_impl_hitHeap_Swap (ah_0 := a4) (ch_0 := c5) hx15
    refine st_call (cx_call hc16 (ent_iv hc16.fn (by kernel_rfl) Try.underlying127 Try.underlying86 rfl rfl (H.cell (u := (Sl a4 s2.1 c5)) (o' := oh_0) 1 0 rfl rfl rfl) rfl) hn0 (show Hp S0 σ0 _ ([Ch.own 0 0 (Sl a4 s2.1 c5) s2.1] ++ [Ch.bx loh_0 bh_0 oh_0 [(Sl a4 s2.1 c5)] preh_0 sufh_0]) from (H.sel' [0, 1] rfl rfl))) wn ?_
    rintro _ σ18 ⟨_, ⟨rfl, rfl, hn17⟩, H, -⟩
    replace H : Hp S0 σ0 σ18 [Ch.own 0 0 (Sl a4 r14 c5) r14, Ch.bx loh_0 bh_0 oh_0 [(Sl a4 s2.1 c5)] preh_0 sufh_0] := H
    have hsl : (Sl a4 s2.1 c5) = (Sl a4 r14 c5) := sl_len hn17.symm
    try rw [hsl]
    try rw [hsl] at H
    clear hsl
    refine w_end ?_
    refine q_then ?_
    refine rg ?_
    refine st (v := (I (w64 ((w64 (s2.2 - 1)).tdiv 2)))) (rv_move rfl) ?_
    refine st (v := (I (w64 ((w64 (s2.2 - 1)).tdiv 2)))) (rv_assign rfl) ?_
    refine w_end ?_
    refine q_blk ?_
    refine q_then ?_
    obtain rfl := Option.some.inj h
    exact ⟨_, rfl, _, σ18, a4, c5, fr_join ⟨rfl, rfl, trivial⟩, rfl, H.sel' [1, 0] rfl rfl⟩
 ·clear hj
  have h := h'
  clear h' H
  rintro e a w ⟨rfl, ρ, σ19, a20, c21, rfl, rfl, H⟩
  obtain rfl := Option.some.inj h
  exact fin_end (v := (.tuple #[])) (results_ok Try.results124 res_nil rfl) ⟨a20, c21, rfl, rfl⟩ (H.sel' [0, 1] rfl rfl)

theorem c_container_heap_Push__impl_hitHeap__impl_Hit {h_0 : List (Int × Int)} {x_1 : Int × Int} {ah_0 : Option Addr} {ch_0 : Nat} {loh_0 bh_0 oh_0 : Nat} {preh_0 sufh_0 : List Value} {r : (List (Int × Int))} (h : M.container_heap_Push__impl_hitHeap__impl_Hit h_0 x_1 = some r) :
    Cal2 Try.prog 116 [(.iface 127 (pt bh_0 oh_0)), (.iface 62 (.agg #[(I x_1.1), (I x_1.2)]))] [Ch.bx loh_0 bh_0 oh_0 [(Sl ah_0 h_0 ch_0)] preh_0 sufh_0, Ch.own 0 0 (Sl ah_0 h_0 ch_0) h_0] (fun n0 v L => ∃ (az1 : Option Addr), ∃ (cz2 : Nat), v = (.tuple #[]) ∧ L = [Ch.bx loh_0 bh_0 oh_0 [(Sl az1 r cz2)] preh_0 sufh_0, Ch.own 0 0 (Sl az1 r cz2) r]) := by
 refine cal2 (n := 12) Try.func116 rfl rfl rfl rfl ?_
 intro S0 σ0 n0 hn0 H
 unfold M.container_heap_Push__impl_hitHeap__impl_Hit at h
 refine c_seq ?_
 refine rg ?_
 refine st (v := (.iface 127 (pt bh_0 oh_0))) (rv_move rfl) ?_
 refine st (v := (.iface 62 (.agg #[(I x_1.1), (I x_1.2)]))) (rv_move rfl) ?_
 obtain ⟨r1, hx2, h'⟩ := bind_some h
 clear h
 have h := h'; clear h'
 have hc3 := c_impl_hitHeap_Push__impl_Hit (loh_0 := loh_0) (bh_0 := bh_0) (oh_0 := oh_0) (preh_0 := preh_0) (sufh_0 := sufh_0) (ah_0 := ah_0) (ch_0 := ch_0) hx2
 refine st_call (cx_call hc3 (ent_ip hc3.fn (by kernel_rfl) Try.underlying127 rfl rfl) hn0 (show Hp S0 σ0 _ ([Ch.bx loh_0 bh_0 oh_0 [(Sl ah_0 h_0 ch_0)] preh_0 sufh_0, Ch.own 0 0 (Sl ah_0 h_0 ch_0) h_0] ++ []) from (H.sel' [0, 1] rfl rfl))) wn ?_
 rintro _ σ6 ⟨_, ⟨a4, c5, rfl, rfl⟩, H, -⟩
 replace H : Hp S0 σ0 σ6 [Ch.bx loh_0 bh_0 oh_0 [(Sl a4 r1 c5)] preh_0 sufh_0, Ch.own 0 0 (Sl a4 r1 c5) r1] := H
 refine w_end ?_
 refine q_then ?_
 refine rg ?_
 refine st (v := (.iface 127 (pt bh_0 oh_0))) (rv_move rfl) ?_
 refine st (v := (.iface 127 (pt bh_0 oh_0))) (rv_move rfl) ?_
 obtain ⟨r7, hx8, h'⟩ := bind_some h
 clear h
 have h := h'; clear h'
 have hc9 := c_impl_hitHeap_Len (ah_0 := a4) (ch_0 := c5) hx8
 have hle := Nat.le_trans hn0 H.size
 refine st_call (cx_lend (Loan.lend Loan.nil) hc9 (ent_iv hc9.fn (by kernel_rfl) Try.underlying127 Try.underlying86 rfl rfl (H.cell (u := (Sl a4 r1 c5)) (o' := oh_0) 0 0 rfl rfl rfl) rfl) (show Hp S0 σ0 _ ([Ch.own 0 0 (Sl a4 r1 c5) r1] ++ ([] ++ [Ch.bx loh_0 bh_0 oh_0 [(Sl a4 r1 c5)] preh_0 sufh_0])) from (H.sel' [1, 0] rfl rfl)) (by rintro _ _ _ ⟨rfl, rfl⟩; exact trivial)) wn ?_
 rintro _ σ10 ⟨_, ⟨rfl, rfl⟩, H, -, -⟩
 replace H : Hp S0 σ0 σ10 [Ch.own 0 0 (Sl a4 r1 c5) r1, Ch.bx loh_0 bh_0 oh_0 [(Sl a4 r1 c5)] preh_0 sufh_0] := H
 clear hle
 replace H : Hp S0 σ0 σ10 [Ch.own 0 0 (Sl a4 r1 c5) r1, Ch.bx loh_0 bh_0 oh_0 [(Sl a4 r1 c5)] preh_0 sufh_0] := H
 refine st (v := (I (w64 (r7 - 1)))) (rv_sub (a := r7) (b := 1) rfl rfl) ?_
 obtain ⟨r11, hx12, h'⟩ := bind_some h
 clear h
 have h := h'; clear h'
 have hc13 := c_container_heap_up__impl_hitHeap (loh_0 := loh_0) (bh_0 := bh_0) (oh_0 := oh_0) (preh_0 := preh_0) (sufh_0 := sufh_0) (ah_0 := a4) (ch_0 := c5) hx12
 refine st_call (cx_call hc13 (ent_f hc13.fn rfl) hn0 (show Hp S0 σ0 _ ([Ch.bx loh_0 bh_0 oh_0 [(Sl a4 r1 c5)] preh_0 sufh_0, Ch.own 0 0 (Sl a4 r1 c5) r1] ++ []) from (H.sel' [1, 0] rfl rfl))) wn ?_
 rintro _ σ16 ⟨_, ⟨a14, c15, rfl, rfl⟩, H, -⟩
 replace H : Hp S0 σ0 σ16 [Ch.bx loh_0 bh_0 oh_0 [(Sl a14 r11 c15)] preh_0 sufh_0, Ch.own 0 0 (Sl a14 r11 c15) r11] := H
 refine w_end ?_
 obtain rfl := Option.some.inj h
 exact fin_end (v := (.tuple #[])) (results_ok Try.results116 res_nil rfl) ⟨a14, c15, rfl, rfl⟩ (H.sel' [0, 1] rfl rfl)

theorem c_container_heap_down__impl_hitHeap {h_0 : List (Int × Int)} {i0_1 : Int} {n_2 : Int} {ah_0 : Option Addr} {ch_0 : Nat} {loh_0 bh_0 oh_0 : Nat} {preh_0 sufh_0 : List Value} {r : Bool × (List (Int × Int))} (h : M.container_heap_down__impl_hitHeap h_0 i0_1 n_2 = some r) :
    Cal2 Try.prog 125 [(.iface 127 (pt bh_0 oh_0)), (I i0_1), (I n_2)] [Ch.bx loh_0 bh_0 oh_0 [(Sl ah_0 h_0 ch_0)] preh_0 sufh_0, Ch.own 0 0 (Sl ah_0 h_0 ch_0) h_0] (fun n0 v L => ∃ (az1 : Option Addr), ∃ (cz2 : Nat), v = (B r.1) ∧ L = [Ch.bx loh_0 bh_0 oh_0 [(Sl az1 r.2 cz2)] preh_0 sufh_0, Ch.own 0 0 (Sl az1 r.2 cz2) r.2]) := by
 refine cal2 (n := 48) Try.func125 rfl rfl rfl rfl ?_
 intro S0 σ0 n0 hn0 H
 unfold M.container_heap_down__impl_hitHeap at h
 refine c_seq ?_
 refine rg ?_
 refine st (v := (B false)) (rv_assign rfl) ?_
 refine w_end ?_
 refine q_then ?_
 refine c_seq ?_
 refine rg ?_
 refine st (v := (I i0_1)) (rv_move rfl) ?_
 refine st (v := (I i0_1)) (rv_assign rfl) ?_
 refine w_end ?_
 refine q_then ?_
 refine c_seq ?_
 obtain ⟨o1, hj, h'⟩ := bind_some h
 clear h
 refine c_cut (fun e a w => e = .normal ∧ ∃ (ρ : Nat → Value) (σ : St) (aj1 : Option Addr) (cj2 : Nat), a = fr 48 (updL ρ [(0, (.iface 127 (pt bh_0 oh_0))), (1, (I i0_1)), (7, (I o1.2))]) ∧ w = σ.w ∧ Hp S0 σ0 σ [Ch.bx loh_0 bh_0 oh_0 [(Sl aj1 o1.1 cj2)] preh_0 sufh_0, Ch.own 0 0 (Sl aj1 o1.1 cj2) o1.1]) ?_ ?_
 ·clear h'
  rename _ = some o1 => h
  refine c_blk ?_
  refine wp_loopM _ h (fun s2 a w => ∃ (ρ : Nat → Value) (σ : St) (aj1 : Option Addr) (cj2 : Nat), a = fr 48 (updL ρ [(0, (.iface 127 (pt bh_0 oh_0))), (1, (I i0_1)), (2, (I n_2)), (7, (I s2.2))]) ∧ w = σ.w ∧ Hp S0 σ0 σ [Ch.bx loh_0 bh_0 oh_0 [(Sl aj1 s2.1 cj2)] preh_0 sufh_0, Ch.own 0 0 (Sl aj1 s2.1 cj2) s2.1]) ⟨_, σ0, ah_0, ch_0, fr_join ⟨rfl, rfl, rfl, rfl, trivial⟩, rfl, H.sel' [0, 1] rfl rfl⟩ ?_
  clear h H
  rintro s2 a w o ⟨ρ, σ3, a4, c5, rfl, rfl, H⟩ h hres
  refine c_blk ?_
  refine c_seq ?_
  refine rg ?_
  refine st (v := (I s2.2)) (rv_move rfl) ?_
  refine st (v := (I (w64 (2 * s2.2)))) (rv_mul (a := 2) (b := s2.2) rfl rfl) ?_
  refine st (v := (I (w64 ((w64 (2 * s2.2)) + 1)))) (rv_add (a := (w64 (2 * s2.2))) (b := 1) rfl rfl) ?_
  refine st (v := (I (w64 ((w64 (2 * s2.2)) + 1)))) (rv_assign rfl) ?_
  refine w_end ?_
  refine q_then ?_
  refine c_seq ?_
  refine c_seq ?_
  obtain ⟨o6, hj, h'⟩ := bind_some h
  clear h
  refine c_cut (fun e a w => e = .normal ∧ ∃ (ρ : Nat → Value) (σ : St), a = fr 48 (updL ρ [(0, (.iface 127 (pt bh_0 oh_0))), (1, (I i0_1)), (2, (I n_2)), (7, (I s2.2)), (8, (I (w64 ((w64 (2 * s2.2)) + 1)))), (21, (B o6))]) ∧ w = σ.w ∧ Hp S0 σ0 σ [Ch.own 0 0 (Sl a4 s2.1 c5) s2.1, Ch.bx loh_0 bh_0 oh_0 [(Sl a4 s2.1 c5)] preh_0 sufh_0]) ?_ ?_
  ·clear h'
   rename _ = some o6 => h
   refine rg ?_
   refine st (v := (I (w64 ((w64 (2 * s2.2)) + 1)))) (rv_move rfl) ?_
   refine st (v := (I n_2)) (rv_move rfl) ?_
   refine st (v := (B (decide (n_2 ≤ (w64 ((w64 (2 * s2.2)) + 1)))))) (rv_geq (a := (w64 ((w64 (2 * s2.2)) + 1))) (b := n_2) rfl rfl) ?_
   refine st (v := (B (decide (n_2 ≤ (w64 ((w64 (2 * s2.2)) + 1)))))) (rv_move rfl) ?_
   rcases Bool.eq_false_or_eq_true (decide (n_2 ≤ (w64 ((w64 (2 * s2.2)) + 1)))) with hb7 | hb7
   ·replace h := bif_t hb7 h
    refine st_skip (congrArg some hb7) ?_
    refine st_skip (congrArg some hb7) ?_
    refine st (v := (B true)) (rv_pick_t (congrArg B hb7) rfl) ?_
    refine w_end ?_
    obtain rfl := Option.some.inj h
    exact ⟨rfl, _, σ3, fr_join ⟨rfl, rfl, rfl, rfl, rfl, rfl, trivial⟩, rfl, H.sel' [1, 0] rfl rfl⟩
   ·replace h := bif_f hb7 h
    refine st_g (v := (I (w64 ((w64 (2 * s2.2)) + 1)))) (congrArg some hb7) (rv_move rfl) ?_
    refine st_g (v := (B (decide ((w64 ((w64 (2 * s2.2)) + 1)) < 0)))) (congrArg some hb7) (rv_lss (a := (w64 ((w64 (2 * s2.2)) + 1))) (b := 0) rfl rfl) ?_
    refine st (v := (B (decide ((w64 ((w64 (2 * s2.2)) + 1)) < 0)))) (rv_pick_f (congrArg B hb7) rfl) ?_
    refine w_end ?_
    obtain rfl := Option.some.inj h
    exact ⟨rfl, _, σ3, fr_join ⟨rfl, rfl, rfl, rfl, rfl, rfl, trivial⟩, rfl, H.sel' [1, 0] rfl rfl⟩
  ·clear hj
   have h := h'
   clear h' H
   rintro e a w ⟨rfl, ρ, σ8, rfl, rfl, H⟩
   refine q_then ?_
   refine cd_cond o6 rfl (fun hb9 => ?_) (fun hb9 => ?_)
   ·replace h := bif_t hb9 h
    refine c_exit ?_
    refine q_then_x ?_
    refine q_blk_x (by decide) ?_
    refine q_then_x ?_
    refine q_blk_hit ?_
    obtain rfl := Option.some.inj h
    obtain rfl := hres _ rfl
    exact ⟨rfl, _, σ8, a4, c5, fr_join ⟨rfl, rfl, rfl, trivial⟩, rfl, H.sel' [1, 0] rfl rfl⟩
   ·replace h := bif_f hb9 h
    refine c_skip ?_
    refine q_then ?_
    refine c_seq ?_
    refine rg ?_
    refine st (v := (I (w64 ((w64 (2 * s2.2)) + 1)))) (rv_move rfl) ?_
    refine st (v := (I (w64 ((w64 (2 * s2.2)) + 1)))) (rv_assign rfl) ?_
    refine w_end ?_
    refine q_then ?_
    refine c_seq ?_
    refine c_seq ?_
    refine rg ?_
    refine st (v := (I (w64 ((w64 (2 * s2.2)) + 1)))) (rv_move rfl) ?_
    refine st (v := (I (w64 ((w64 ((w64 (2 * s2.2)) + 1)) + 1)))) (rv_add (a := (w64 ((w64 (2 * s2.2)) + 1))) (b := 1) rfl rfl) ?_
    refine st (v := (I (w64 ((w64 ((w64 (2 * s2.2)) + 1)) + 1)))) (rv_assign rfl) ?_
    refine w_end ?_
    refine q_then ?_
    refine c_seq ?_
    obtain ⟨o10, hj, h'⟩ := bind_some h
    clear h
    refine c_cut (fun e a w => e = .normal ∧ ∃ (ρ : Nat → Value) (σ : St), a = fr 48 (updL ρ [(0, (.iface 127 (pt bh_0 oh_0))), (1, (I i0_1)), (2, (I n_2)), (7, (I s2.2)), (9, (I (w64 ((w64 (2 * s2.2)) + 1)))), (10, (I (w64 ((w64 ((w64 (2 * s2.2)) + 1)) + 1)))), (33, (B o10))]) ∧ w = σ.w ∧ Hp S0 σ0 σ [Ch.own 0 0 (Sl a4 s2.1 c5) s2.1, Ch.bx loh_0 bh_0 oh_0 [(Sl a4 s2.1 c5)] preh_0 sufh_0]) ?_ ?_
    ·clear h'
     rename _ = some o10 => h
     refine rg ?_
     refine st (v := (I (w64 ((w64 ((w64 (2 * s2.2)) + 1)) + 1)))) (rv_move rfl) ?_
     refine st (v := (I n_2)) (rv_move rfl) ?_
     refine st (v := (B (decide ((w64 ((w64 ((w64 (2 * s2.2)) + 1)) + 1)) < n_2)))) (rv_lss (a := (w64 ((w64 ((w64 (2 * s2.2)) + 1)) + 1))) (b := n_2) rfl rfl) ?_
     refine st (v := (B (decide ((w64 ((w64 ((w64 (2 * s2.2)) + 1)) + 1)) < n_2)))) (rv_move rfl) ?_
     rcases Bool.eq_false_or_eq_true (decide ((w64 ((w64 ((w64 (2 * s2.2)) + 1)) + 1)) < n_2)) with hb11 | hb11
     ·replace h := bif_t hb11 h
      refine st_g (v := (.iface 127 (pt bh_0 oh_0))) (congrArg some hb11) (rv_move rfl) ?_
      refine st_g (v := (I (w64 ((w64 ((w64 (2 * s2.2)) + 1)) + 1)))) (congrArg some hb11) (rv_move rfl) ?_
      refine st_g (v := (I (w64 ((w64 (2 * s2.2)) + 1)))) (congrArg some hb11) (rv_move rfl) ?_
      obtain ⟨r12, hx13, h'⟩ := bind_some h
      clear h
      have h := h'; clear h'
      have hc14 := c_impl_hitHeap_Less (ah_0 := a4) (ch_0 := c5) hx13
      have hle := Nat.le_trans hn0 H.size
      refine st_call (cx_lend (Loan.lend Loan.nil) hc14 (ent_iv hc14.fn (by kernel_rfl) Try.underlying127 Try.underlying86 rfl rfl (H.cell (u := (Sl a4 s2.1 c5)) (o' := oh_0) 1 0 rfl rfl rfl) rfl) (show Hp S0 σ0 _ ([Ch.own 0 0 (Sl a4 s2.1 c5) s2.1] ++ ([] ++ [Ch.bx loh_0 bh_0 oh_0 [(Sl a4 s2.1 c5)] preh_0 sufh_0])) from (H.sel' [0, 1] rfl rfl)) (by rintro _ _ _ ⟨rfl, rfl⟩; exact trivial)) (wanted_yes rfl (by exact (congrArg some hb11))) ?_
      rintro _ σ15 ⟨_, ⟨rfl, rfl⟩, H, -, -⟩
      replace H : Hp S0 σ0 σ15 [Ch.own 0 0 (Sl a4 s2.1 c5) s2.1, Ch.bx loh_0 bh_0 oh_0 [(Sl a4 s2.1 c5)] preh_0 sufh_0] := H
      clear hle
      replace H : Hp S0 σ0 σ15 [Ch.own 0 0 (Sl a4 s2.1 c5) s2.1, Ch.bx loh_0 bh_0 oh_0 [(Sl a4 s2.1 c5)] preh_0 sufh_0] := H
      refine st (v := (B r12)) (rv_pick_t (congrArg B hb11) rfl) ?_
      refine w_end ?_
      obtain rfl := Option.some.inj h
      exact ⟨rfl, _, σ15, fr_join ⟨rfl, rfl, rfl, rfl, rfl, rfl, rfl, trivial⟩, rfl, H.sel' [0, 1] rfl rfl⟩
     ·replace h := bif_f hb11 h
      refine st_skip (congrArg some hb11) ?_
      refine st_skip (congrArg some hb11) ?_
      refine st_skip (congrArg some hb11) ?_
      refine st_skip (congrArg some hb11) ?_
      refine st (v := (B false)) (rv_pick_f (congrArg B hb11) rfl) ?_
      refine w_end ?_
      obtain rfl := Option.some.inj h
      exact ⟨rfl, _, σ8, fr_join ⟨rfl, rfl, rfl, rfl, rfl, rfl, rfl, trivial⟩, rfl, H.sel' [0, 1] rfl rfl⟩
    ·clear hj
     have h := h'
     clear h' H
     rintro e a w ⟨rfl, ρ, σ16, rfl, rfl, H⟩
     refine q_then ?_
     obtain ⟨o17, hj, h'⟩ := bind_some h
     clear h
     refine c_cut (fun e a w => e = .normal ∧ ∃ (ρ : Nat → Value) (σ : St), a = fr 48 (updL ρ [(0, (.iface 127 (pt bh_0 oh_0))), (1, (I i0_1)), (2, (I n_2)), (7, (I s2.2)), (9, (I o17))]) ∧ w = σ.w ∧ Hp S0 σ0 σ [Ch.own 0 0 (Sl a4 s2.1 c5) s2.1, Ch.bx loh_0 bh_0 oh_0 [(Sl a4 s2.1 c5)] preh_0 sufh_0]) ?_ ?_
     ·clear h'
      rename _ = some o17 => h
      refine cd_cond o10 rfl (fun hb18 => ?_) (fun hb18 => ?_)
      ·replace h := bif_t hb18 h
       refine rg ?_
       refine st (v := (I (w64 ((w64 ((w64 (2 * s2.2)) + 1)) + 1)))) (rv_move rfl) ?_
       refine st (v := (I (w64 ((w64 ((w64 (2 * s2.2)) + 1)) + 1)))) (rv_assign rfl) ?_
       refine w_end ?_
       obtain rfl := Option.some.inj h
       exact ⟨rfl, _, σ16, fr_join ⟨rfl, rfl, rfl, rfl, rfl, trivial⟩, rfl, H.sel' [0, 1] rfl rfl⟩
      ·replace h := bif_f hb18 h
       refine c_skip ?_
       obtain rfl := Option.some.inj h
       exact ⟨rfl, _, σ16, fr_join ⟨rfl, rfl, rfl, rfl, rfl, trivial⟩, rfl, H.sel' [0, 1] rfl rfl⟩
     ·clear hj
      have h := h'
      clear h' H
      rintro e a w ⟨rfl, ρ, σ19, rfl, rfl, H⟩
      refine q_then ?_
      refine c_seq ?_
      refine c_seq ?_
      refine rg ?_
      refine st (v := (.iface 127 (pt bh_0 oh_0))) (rv_move rfl) ?_
      refine st (v := (I o17)) (rv_move rfl) ?_
      refine st (v := (I s2.2)) (rv_move rfl) ?_
      obtain ⟨r20, hx21, h'⟩ := bind_some h
      clear h
      have h := h'; clear h'
      have hc22 := c_impl_hitHeap_Less (ah_0 := a4) (ch_0 := c5) hx21
      have hle := Nat.le_trans hn0 H.size
      refine st_call (cx_lend (Loan.lend Loan.nil) hc22 (ent_iv hc22.fn (by kernel_rfl) Try.underlying127 Try.underlying86 rfl rfl (H.cell (u := (Sl a4 s2.1 c5)) (o' := oh_0) 1 0 rfl rfl rfl) rfl) (show Hp S0 σ0 _ ([Ch.own 0 0 (Sl a4 s2.1 c5) s2.1] ++ ([] ++ [Ch.bx loh_0 bh_0 oh_0 [(Sl a4 s2.1 c5)] preh_0 sufh_0])) from (H.sel' [0, 1] rfl rfl)) (by rintro _ _ _ ⟨rfl, rfl⟩; exact trivial)) wn ?_
      rintro _ σ23 ⟨_, ⟨rfl, rfl⟩, H, -, -⟩
      replace H : Hp S0 σ0 σ23 [Ch.own 0 0 (Sl a4 s2.1 c5) s2.1, Ch.bx loh_0 bh_0 oh_0 [(Sl a4 s2.1 c5)] preh_0 sufh_0] := H
      clear hle
      replace H : Hp S0 σ0 σ23 [Ch.own 0 0 (Sl a4 s2.1 c5) s2.1, Ch.bx loh_0 bh_0 oh_0 [(Sl a4 s2.1 c5)] preh_0 sufh_0] := H
      refine st (v := (B (!r20))) (rv_not rfl) ?_
      refine w_end ?_
      refine q_then ?_
      refine cd_cond (!r20) rfl (fun hb24 => ?_) (fun hb24 => ?_)
      ·replace h := bif_t hb24 h
       refine c_exit ?_
       refine q_then_x ?_
       refine q_blk_x (by decide) ?_
       refine q_then_x ?_
       refine q_blk_hit ?_
       obtain rfl := Option.some.inj h
       obtain rfl := hres _ rfl
       exact ⟨rfl, _, σ23, a4, c5, fr_join ⟨rfl, rfl, rfl, trivial⟩, rfl, H.sel' [1, 0] rfl rfl⟩
      ·replace h := bif_f hb24 h
       refine c_skip ?_
       refine q_then ?_
       refine c_seq ?_
       refine rg ?_
       refine st (v := (.iface 127 (pt bh_0 oh_0))) (rv_move rfl) ?_
       refine st (v := (I s2.2)) (rv_move rfl) ?_
       refine st (v := (I o17)) (rv_move rfl) ?_
       obtain ⟨r25, hx26, h'⟩ := bind_some h
       clear h
       have h := h'; clear h'
       have hc27 := c_impl_hitHeap_Swap (ah_0 := a4) (ch_0 := c5) hx26
       refine st_call (cx_call hc27 (ent_iv hc27.fn (by kernel_rfl) Try.underlying127 Try.underlying86 rfl rfl (H.cell (u := (Sl a4 s2.1 c5)) (o' := oh_0) 1 0 rfl rfl rfl) rfl) hn0 (show Hp S0 σ0 _ ([Ch.own 0 0 (Sl a4 s2.1 c5) s2.1] ++ [Ch.bx loh_0 bh_0 oh_0 [(Sl a4 s2.1 c5)] preh_0 sufh_0]) from (H.sel' [0, 1] rfl rfl))) wn ?_
       rintro _ σ29 ⟨_, ⟨rfl, rfl, hn28⟩, H, -⟩
       replace H : Hp S0 σ0 σ29 [Ch.own 0 0 (Sl a4 r25 c5) r25, Ch.bx loh_0 bh_0 oh_0 [(Sl a4 s2.1 c5)] preh_0 sufh_0] := H
       have hsl : (Sl a4 s2.1 c5) = (Sl a4 r25 c5) := sl_len hn28.symm
       try rw [hsl]
       try rw [hsl] at H
       clear hsl
       refine w_end ?_
       refine q_then ?_
       refine rg ?_
       refine st (v := (I o17)) (rv_move rfl) ?_
       refine st (v := (I o17)) (rv_assign rfl) ?_
       refine w_end ?_
       refine q_blk ?_
       refine q_then ?_
       obtain rfl := Option.some.inj h
       exact ⟨_, rfl, _, σ29, a4, c5, fr_join ⟨rfl, rfl, rfl, rfl, trivial⟩, rfl, H.sel' [1, 0] rfl rfl⟩
 ·clear hj
  have h := h'
  clear h' H
  rintro e a w ⟨rfl, ρ, σ30, a31, c32, rfl, rfl, H⟩
  refine q_then ?_
  refine c_seq ?_
  refine rg ?_
  refine st (v := (I o1.2)) (rv_move rfl) ?_
  refine st (v := (I i0_1)) (rv_move rfl) ?_
  refine st (v := (B (decide (i0_1 < o1.2)))) (rv_gtr (a := o1.2) (b := i0_1) rfl rfl) ?_
  refine st (v := (B (decide (i0_1 < o1.2)))) (rv_assign rfl) ?_
  refine w_end ?_
  refine q_then ?_
  refine c_ret ?_
  obtain rfl := Option.some.inj h
  exact fin_ret (v := (B (decide (i0_1 < o1.2)))) (results_ok Try.results125 (res_tmp (v := (B (decide (i0_1 < o1.2)))) rfl res_nil) rfl) ⟨a31, c32, rfl, rfl⟩ (H.sel' [0, 1] rfl rfl)

theorem c_impl_hitHeap_Pop {h_0 : List (Int × Int)} {ah_0 : Option Addr} {ch_0 : Nat} {loh_0 bh_0 oh_0 : Nat} {preh_0 sufh_0 : List Value} {r : ((Int) × (Int)) × (List (Int × Int))} (h : M.impl_hitHeap_Pop h_0 = some r) :
    Cal2 Try.prog 182 [(pt bh_0 oh_0)] [Ch.bx loh_0 bh_0 oh_0 [(Sl ah_0 h_0 ch_0)] preh_0 sufh_0, Ch.own 0 0 (Sl ah_0 h_0 ch_0) h_0] (fun n0 v L => ∃ (az1 : Option Addr), ∃ (cz2 : Nat), v = (.iface 62 (.agg #[(I r.1.1), (I r.1.2)])) ∧ L = [Ch.bx loh_0 bh_0 oh_0 [(Sl az1 r.2 cz2)] preh_0 sufh_0, Ch.own 0 0 (Sl az1 r.2 cz2) r.2]) := by
 refine cal2 (n := 25) Try.func182 rfl rfl rfl rfl ?_
 intro S0 σ0 n0 hn0 H
 unfold M.impl_hitHeap_Pop at h
 refine c_seq ?_
 refine rg ?_
 refine st (v := .nilIface) (rv_assign rfl) ?_
 refine w_end ?_
 refine q_then ?_
 refine c_seq ?_
 refine rg ?_
 refine st (v := (pt bh_0 oh_0)) (rv_move rfl) ?_
 refine st (v := (pt bh_0 oh_0)) (rv_nilCheck rfl) ?_
 have hc1 := H.cell (u := (Sl ah_0 h_0 ch_0)) (o' := oh_0) 0 0 rfl rfl rfl
 refine st (v := (Sl ah_0 h_0 ch_0)) (rv_load1 Try.underlying86 rfl rfl hc1) ?_
 refine st (v := (I (h_0.length : Int))) (rv_len Try.underlying86 rfl) ?_
 refine st (v := (I (w64 ((h_0.length : Int) - 1)))) (rv_sub (a := (h_0.length : Int)) (b := 1) rfl rfl) ?_
 refine st (v := (I (w64 ((h_0.length : Int) - 1)))) (rv_assign rfl) ?_
 refine w_end ?_
 refine q_then ?_
 refine c_seq ?_
 refine rg ?_
 refine st (v := (pt bh_0 oh_0)) (rv_move rfl) ?_
 refine st (v := (pt bh_0 oh_0)) (rv_nilCheck rfl) ?_
 have hc2 := H.cell (u := (Sl ah_0 h_0 ch_0)) (o' := oh_0) 0 0 rfl rfl rfl
 refine st (v := (Sl ah_0 h_0 ch_0)) (rv_load1 Try.underlying86 rfl rfl hc2) ?_
 refine st (v := (I (w64 ((h_0.length : Int) - 1)))) (rv_move rfl) ?_
 obtain ⟨x3, hx4, h'⟩ := bind_some h
 clear h
 have h := h'; clear h'
 obtain ⟨b6, o7, hi5, -⟩ := (H.own 1 rfl).ix hx4
 refine st (v := (pt b6 o7)) (rv_ix Try.underlying86 ti62 rfl rfl hi5) ?_
 obtain ⟨_, ⟨_, _, rfl, rfl, rfl⟩, hl8, hc9⟩ := ((H.own 1 rfl).at hx4 hi5).cells
 refine st (v := (.agg #[(I x3.1), (I x3.2)])) (rv_load Try.underlying62 rfl ti62 rfl hl8 hc9) ?_
 refine st_ex (ex_alloc (cs := [(I 0), (I 0)]) H hn0 ti62 rfl) wn ?_
 rintro _ σ11 ⟨b10, rfl, H, -⟩
 refine st_exS (ex_store_box (k := 0) (cs := [(I 0), (I 0)]) (vs := [(I x3.1), (I x3.2)]) (cs' := [(I x3.1), (I x3.2)]) H (i := 0) rfl ti62 rfl rfl rfl rfl rfl (Nat.le_of_ble_eq_true rfl) (by simp [plain]) rfl) wn ?_
 rintro σ12 ⟨H, -⟩
 refine w_end ?_
 refine q_then ?_
 refine c_seq ?_
 refine rg ?_
 refine st (v := (pt bh_0 oh_0)) (rv_move rfl) ?_
 refine st (v := (pt bh_0 oh_0)) (rv_move rfl) ?_
 refine st (v := (pt bh_0 oh_0)) (rv_nilCheck rfl) ?_
 have hc13 := H.cell (u := (Sl ah_0 h_0 ch_0)) (o' := oh_0) 1 0 rfl rfl rfl
 refine st (v := (Sl ah_0 h_0 ch_0)) (rv_load1 Try.underlying86 rfl rfl hc13) ?_
 refine st (v := (I (w64 ((h_0.length : Int) - 1)))) (rv_move rfl) ?_
 obtain ⟨xs14, hx15, h'⟩ := bind_some h
 clear h
 have h := h'; clear h'
 obtain ⟨a16, c17, hs18, -⟩ := (H.own 2 rfl).slice hx15
 refine st (v := (Sl a16 xs14 c17)) (rv_slice_h Try.underlying86 ti62 hs18 rfl rfl) ?_
 refine st (v := (pt bh_0 oh_0)) (rv_nilCheck rfl) ?_
 have hv20 := (H.own 2 rfl).view hx15 hs18
 replace H := (H.front (i := 2) rfl).turn (d := Ch.own 0 0 (Sl a16 xs14 c17) xs14) (fun _ => hv20.1) hv20.2; clear hv20
 refine st_exS (ex_store_box (k := 0) (cs := [(Sl ah_0 h_0 ch_0)]) (vs := [(Sl a16 xs14 c17)]) (cs' := [(Sl a16 xs14 c17)]) H (i := 2) rfl ti86 rfl rfl rfl rfl rfl (Nat.le_of_ble_eq_true rfl) (by simp [plain]) rfl) wn ?_
 rintro σ21 ⟨H, -⟩
 refine w_end ?_
 refine q_then ?_
 refine c_seq ?_
 refine rg ?_
 have hc22 := H.cells 2 rfl
 refine st (v := (.agg #[(I x3.1), (I x3.2)])) (rv_load (cs := [(I x3.1), (I x3.2)]) Try.underlying62 rfl ti62 rfl rfl hc22) ?_
 refine st (v := (.iface 62 (.agg #[(I x3.1), (I x3.2)]))) (rv_makeInterface Try.underlying62 rfl rfl) ?_
 refine st (v := (.iface 62 (.agg #[(I x3.1), (I x3.2)]))) (rv_assign rfl) ?_
 refine w_end ?_
 refine q_then ?_
 refine c_ret ?_
 obtain rfl := Option.some.inj h
 exact fin_ret (v := (.iface 62 (.agg #[(I x3.1), (I x3.2)]))) (results_ok Try.results182 (res_tmp (v := (.iface 62 (.agg #[(I x3.1), (I x3.2)]))) rfl res_nil) rfl) ⟨a16, c17, rfl, rfl⟩ (H.sel' [0, 1] rfl rfl)

theorem c_container_heap_Pop__impl_hitHeap {h_0 : List (Int × Int)} {ah_0 : Option Addr} {ch_0 : Nat} {loh_0 bh_0 oh_0 : Nat} {preh_0 sufh_0 : List Value} {r : ((Int) × (Int)) × (List (Int × Int))} (h : M.container_heap_Pop__impl_hitHeap h_0 = some r) :
    Cal2 Try.prog 117 [(.iface 127 (pt bh_0 oh_0))] [Ch.bx loh_0 bh_0 oh_0 [(Sl ah_0 h_0 ch_0)] preh_0 sufh_0, Ch.own 0 0 (Sl ah_0 h_0 ch_0) h_0] (fun n0 v L => ∃ (az1 : Option Addr), ∃ (cz2 : Nat), v = (.iface 62 (.agg #[(I r.1.1), (I r.1.2)])) ∧ L = [Ch.bx loh_0 bh_0 oh_0 [(Sl az1 r.2 cz2)] preh_0 sufh_0, Ch.own 0 0 (Sl az1 r.2 cz2) r.2]) := by
 refine cal2 (n := 15) Try.func117 rfl rfl rfl rfl ?_
 intro S0 σ0 n0 hn0 H
 unfold M.container_heap_Pop__impl_hitHeap at h
 refine c_seq ?_
 refine rg ?_
 refine st (v := .nilIface) (rv_assign rfl) ?_
 refine w_end ?_
 refine q_then ?_
 refine c_seq ?_
 refine rg ?_
 refine st (v := (.iface 127 (pt bh_0 oh_0))) (rv_move rfl) ?_
 obtain ⟨r1, hx2, h'⟩ := bind_some h
 clear h
 have h := h'; clear h'
 have hc3 := c_impl_hitHeap_Len (ah_0 := ah_0) (ch_0 := ch_0) hx2
 have hle := Nat.le_trans hn0 H.size
 refine st_call (cx_lend (Loan.lend Loan.nil) hc3 (ent_iv hc3.fn (by kernel_rfl) Try.underlying127 Try.underlying86 rfl rfl (H.cell (u := (Sl ah_0 h_0 ch_0)) (o' := oh_0) 0 0 rfl rfl rfl) rfl) (show Hp S0 σ0 _ ([Ch.own 0 0 (Sl ah_0 h_0 ch_0) h_0] ++ ([] ++ [Ch.bx loh_0 bh_0 oh_0 [(Sl ah_0 h_0 ch_0)] preh_0 sufh_0])) from (H.sel' [1, 0] rfl rfl)) (by rintro _ _ _ ⟨rfl, rfl⟩; exact trivial)) wn ?_
 rintro _ σ4 ⟨_, ⟨rfl, rfl⟩, H, -, -⟩
 replace H : Hp S0 σ0 σ4 [Ch.own 0 0 (Sl ah_0 h_0 ch_0) h_0, Ch.bx loh_0 bh_0 oh_0 [(Sl ah_0 h_0 ch_0)] preh_0 sufh_0] := H
 clear hle
 replace H : Hp S0 σ0 σ4 [Ch.own 0 0 (Sl ah_0 h_0 ch_0) h_0, Ch.bx loh_0 bh_0 oh_0 [(Sl ah_0 h_0 ch_0)] preh_0 sufh_0] := H
 refine st (v := (I (w64 (r1 - 1)))) (rv_sub (a := r1) (b := 1) rfl rfl) ?_
 refine st (v := (I (w64 (r1 - 1)))) (rv_assign rfl) ?_
 refine w_end ?_
 refine q_then ?_
 refine c_seq ?_
 refine rg ?_
 refine st (v := (.iface 127 (pt bh_0 oh_0))) (rv_move rfl) ?_
 refine st (v := (I (w64 (r1 - 1)))) (rv_move rfl) ?_
 obtain ⟨r5, hx6, h'⟩ := bind_some h
 clear h
 have h := h'; clear h'
 have hc7 := c_impl_hitHeap_Swap (ah_0 := ah_0) (ch_0 := ch_0) hx6
 refine st_call (cx_call hc7 (ent_iv hc7.fn (by kernel_rfl) Try.underlying127 Try.underlying86 rfl rfl (H.cell (u := (Sl ah_0 h_0 ch_0)) (o' := oh_0) 1 0 rfl rfl rfl) rfl) hn0 (show Hp S0 σ0 _ ([Ch.own 0 0 (Sl ah_0 h_0 ch_0) h_0] ++ [Ch.bx loh_0 bh_0 oh_0 [(Sl ah_0 h_0 ch_0)] preh_0 sufh_0]) from (H.sel' [0, 1] rfl rfl))) wn ?_
 rintro _ σ9 ⟨_, ⟨rfl, rfl, hn8⟩, H, -⟩
 replace H : Hp S0 σ0 σ9 [Ch.own 0 0 (Sl ah_0 r5 ch_0) r5, Ch.bx loh_0 bh_0 oh_0 [(Sl ah_0 h_0 ch_0)] preh_0 sufh_0] := H
 have hsl : (Sl ah_0 h_0 ch_0) = (Sl ah_0 r5 ch_0) := sl_len hn8.symm
 try rw [hsl]
 try rw [hsl] at H
 clear hsl
 refine w_end ?_
 refine q_then ?_
 refine c_seq ?_
 refine rg ?_
 refine st (v := (.iface 127 (pt bh_0 oh_0))) (rv_move rfl) ?_
 refine st (v := (I (w64 (r1 - 1)))) (rv_move rfl) ?_
 obtain ⟨r10, hx11, h'⟩ := bind_some h
 clear h
 have h := h'; clear h'
 have hc12 := c_container_heap_down__impl_hitHeap (loh_0 := loh_0) (bh_0 := bh_0) (oh_0 := oh_0) (preh_0 := preh_0) (sufh_0 := sufh_0) (ah_0 := ah_0) (ch_0 := ch_0) hx11
 refine st_call (cx_call hc12 (ent_f hc12.fn rfl) hn0 (show Hp S0 σ0 _ ([Ch.bx loh_0 bh_0 oh_0 [(Sl ah_0 r5 ch_0)] preh_0 sufh_0, Ch.own 0 0 (Sl ah_0 r5 ch_0) r5] ++ []) from (H.sel' [1, 0] rfl rfl))) wn ?_
 rintro _ σ15 ⟨_, ⟨a13, c14, rfl, rfl⟩, H, -⟩
 replace H : Hp S0 σ0 σ15 [Ch.bx loh_0 bh_0 oh_0 [(Sl a13 r10.2 c14)] preh_0 sufh_0, Ch.own 0 0 (Sl a13 r10.2 c14) r10.2] := H
 refine w_end ?_
 refine q_then ?_
 refine c_seq ?_
 refine rg ?_
 refine st (v := (.iface 127 (pt bh_0 oh_0))) (rv_move rfl) ?_
 obtain ⟨r16, hx17, h'⟩ := bind_some h
 clear h
 have h := h'; clear h'
 have hc18 := c_impl_hitHeap_Pop (loh_0 := loh_0) (bh_0 := bh_0) (oh_0 := oh_0) (preh_0 := preh_0) (sufh_0 := sufh_0) (ah_0 := a13) (ch_0 := c14) hx17
 refine st_call (cx_call hc18 (ent_ip hc18.fn (by kernel_rfl) Try.underlying127 rfl rfl) hn0 (show Hp S0 σ0 _ ([Ch.bx loh_0 bh_0 oh_0 [(Sl a13 r10.2 c14)] preh_0 sufh_0, Ch.own 0 0 (Sl a13 r10.2 c14) r10.2] ++ []) from (H.sel' [0, 1] rfl rfl))) wn ?_
 rintro _ σ21 ⟨_, ⟨a19, c20, rfl, rfl⟩, H, -⟩
 replace H : Hp S0 σ0 σ21 [Ch.bx loh_0 bh_0 oh_0 [(Sl a19 r16.2 c20)] preh_0 sufh_0, Ch.own 0 0 (Sl a19 r16.2 c20) r16.2] := H
 refine st (v := (.iface 62 (.agg #[(I r16.1.1), (I r16.1.2)]))) (rv_assign rfl) ?_
 refine w_end ?_
 refine q_then ?_
 refine c_ret ?_
 obtain rfl := Option.some.inj h
 exact fin_ret (v := (.iface 62 (.agg #[(I r16.1.1), (I r16.1.2)]))) (results_ok Try.results117 (res_tmp (v := (.iface 62 (.agg #[(I r16.1.1), (I r16.1.2)]))) rfl res_nil) rfl) ⟨a19, c20, rfl, rfl⟩ (H.sel' [0, 1] rfl rfl)

theorem c_impl_nearestHits_offer {n_0 : Int × (List (Int × Int))} {h_1 : Int × Int} {an_0_1 : Option Addr} {cn_0_1 : Nat} {lon_0 bn_0 on_0 : Nat} {pren_0 sufn_0 : List Value} {r : (Int × (List (Int × Int)))} (h : M.impl_nearestHits_offer n_0 h_1 = some r) :
    Cal2 Try.prog 94 [(pt bn_0 on_0), (.agg #[(I h_1.1), (I h_1.2)])] [Ch.bx lon_0 bn_0 on_0 [(I n_0.1), (Sl an_0_1 n_0.2 cn_0_1)] pren_0 sufn_0, Ch.own 0 0 (Sl an_0_1 n_0.2 cn_0_1) n_0.2] (fun n0 v L => ∃ (az1 : Option Addr), ∃ (cz2 : Nat), v = (.tuple #[]) ∧ L = [Ch.bx lon_0 bn_0 on_0 [(I r.1), (Sl az1 r.2 cz2)] pren_0 sufn_0, Ch.own 0 0 (Sl az1 r.2 cz2) r.2]) := by
 refine cal2 (n := 26) Try.func94 rfl rfl rfl rfl ?_
 intro S0 σ0 n0 hn0 H
 unfold M.impl_nearestHits_offer at h
 refine c_seq ?_
 refine rg ?_
 refine st_ex (ex_box (cs := [(I h_1.1), (I h_1.2)]) H hn0 rfl rfl) wn ?_
 rintro _ σ2 ⟨b1, rfl, H, -⟩
 refine w_end ?_
 refine q_then ?_
 refine c_seq ?_
 refine rgP (σ := σ2) 6 (by kernel_rfl) (by kernel_rfl) (by kernel_rfl) ?_
 refine sq (v := (pt bn_0 on_0)) (rv_move rfl) ?_
 refine sq (v := (pt bn_0 on_0)) (rv_nilCheck rfl) ?_
 refine sq (v := (pt bn_0 (on_0 + 1))) (rv_fieldAddr (off := 1) (ft := 86) Try.underlying88 rfl ti86 rfl rfl) ?_
 refine sq (v := (.iface 127 (pt bn_0 (on_0 + 1)))) (rv_makeInterface Try.underlying127 rfl rfl) ?_
 have hc3 := H.cells 0 rfl
 refine sq (v := (.agg #[(I h_1.1), (I h_1.2)])) (rv_load (cs := [(I h_1.1), (I h_1.2)]) Try.underlying62 rfl ti62 rfl rfl hc3) ?_
 refine sq (v := (.iface 62 (.agg #[(I h_1.1), (I h_1.2)]))) (rv_makeInterface Try.underlying62 rfl rfl) ?_
 refine sq_end ?_
 intro σ4 hm5
 replace H := H.grow (hm5.mono fun _ h => h); clear hm5
 replace H := Hp.focus (c1 := [(I n_0.1)]) (c2 := [(Sl an_0_1 n_0.2 cn_0_1)]) (c3 := []) (o' := (on_0 + 1)) H 1 rfl rfl
 obtain ⟨r6, hx7, h'⟩ := bind_some h
 clear h
 have h := h'; clear h'
 have hc8 := c_container_heap_Push__impl_hitHeap__impl_Hit (loh_0 := lon_0) (bh_0 := bn_0) (oh_0 := (on_0 + 1)) (preh_0 := (pren_0 ++ [(I n_0.1)])) (sufh_0 := ([] ++ sufn_0)) (ah_0 := an_0_1) (ch_0 := cn_0_1) hx7
 refine st_call (cx_call hc8 (ent_f hc8.fn rfl) hn0 (show Hp S0 σ0 _ ([Ch.bx lon_0 bn_0 (on_0 + 1) [(Sl an_0_1 n_0.2 cn_0_1)] (pren_0 ++ [(I n_0.1)]) ([] ++ sufn_0), Ch.own 0 0 (Sl an_0_1 n_0.2 cn_0_1) n_0.2] ++ [Ch.bx n0 b1 0 [(I h_1.1), (I h_1.2)] [] []]) from (H.sel' [0, 2, 1] rfl rfl))) wn ?_
 rintro _ σ11 ⟨_, ⟨a9, c10, rfl, rfl⟩, H, -⟩
 replace H : Hp S0 σ0 σ11 [Ch.bx lon_0 bn_0 (on_0 + 1) [(Sl a9 r6 c10)] (pren_0 ++ [(I n_0.1)]) ([] ++ sufn_0), Ch.own 0 0 (Sl a9 r6 c10) r6, Ch.bx n0 b1 0 [(I h_1.1), (I h_1.2)] [] []] := H
 replace H : Hp S0 σ0 σ11 [Ch.bx lon_0 bn_0 on_0 [(I n_0.1), (Sl a9 r6 c10)] pren_0 sufn_0, Ch.own 0 0 (Sl a9 r6 c10) r6, Ch.bx n0 b1 0 [(I h_1.1), (I h_1.2)] [] []] := Hp.unfocus (o := on_0) (c1 := [(I n_0.1)]) (c2 := [(Sl a9 r6 c10)]) (c3 := []) (pre := pren_0) (suf := sufn_0) H 0 rfl rfl
 refine w_end ?_
 refine q_then ?_
 refine c_seq ?_
 refine rgP (σ := σ11) 9 (by kernel_rfl) (by kernel_rfl) (by kernel_rfl) ?_
 refine sq (v := (pt bn_0 on_0)) (rv_move rfl) ?_
 refine sq (v := (pt bn_0 on_0)) (rv_nilCheck rfl) ?_
 refine sq (v := (pt bn_0 (on_0 + 1))) (rv_fieldAddr (off := 1) (ft := 86) Try.underlying88 rfl ti86 rfl rfl) ?_
 have hc12 := H.cell (u := (Sl a9 r6 c10)) (o' := (on_0 + 1)) 0 1 rfl rfl rfl
 refine sq (v := (Sl a9 r6 c10)) (rv_load1 Try.underlying86 rfl rfl hc12) ?_
 refine sq (v := (I (r6.length : Int))) (rv_len Try.underlying86 rfl) ?_
 refine sq (v := (pt bn_0 on_0)) (rv_move rfl) ?_
 refine sq (v := (pt bn_0 on_0)) (rv_nilCheck rfl) ?_
 refine sq (v := (pt bn_0 on_0)) (rv_fieldAddr (off := 0) (ft := 3) Try.underlying88 rfl ti3 rfl rfl) ?_
 have hc13 := H.cell (u := (I n_0.1)) (o' := on_0) 0 0 rfl rfl rfl
 refine sq (v := (I n_0.1)) (rv_load1 Try.underlying3 rfl rfl hc13) ?_
 refine sq_end ?_
 intro σ14 hm15
 replace H := H.grow (hm15.mono fun _ h => h); clear hm15
 refine st (v := (B (decide (n_0.1 < (r6.length : Int))))) (rv_gtr (a := (r6.length : Int)) (b := n_0.1) rfl rfl) ?_
 refine w_end ?_
 refine q_then ?_
 refine cd_cond (decide (n_0.1 < (r6.length : Int))) rfl (fun hb16 => ?_) (fun hb16 => ?_)
 ·replace h := bif_t hb16 h
  refine rg ?_
  refine st (v := (pt bn_0 on_0)) (rv_move rfl) ?_
  refine st (v := (pt bn_0 on_0)) (rv_nilCheck rfl) ?_
  refine st (v := (pt bn_0 (on_0 + 1))) (rv_fieldAddr (off := 1) (ft := 86) Try.underlying88 rfl ti86 rfl rfl) ?_
  refine st (v := (.iface 127 (pt bn_0 (on_0 + 1)))) (rv_makeInterface Try.underlying127 rfl rfl) ?_
  replace H := Hp.focus (c1 := [(I n_0.1)]) (c2 := [(Sl a9 r6 c10)]) (c3 := []) (o' := (on_0 + 1)) H 0 rfl rfl
  obtain ⟨r17, hx18, h'⟩ := bind_some h
  clear h
  have h := h'; clear h'
  have hc19 := c_container_heap_Pop__impl_hitHeap (loh_0 := lon_0) (bh_0 := bn_0) (oh_0 := (on_0 + 1)) (preh_0 := (pren_0 ++ [(I n_0.1)])) (sufh_0 := ([] ++ sufn_0)) (ah_0 := a9) (ch_0 := c10) hx18
  refine st_call (cx_call hc19 (ent_f hc19.fn rfl) hn0 (show Hp S0 σ0 _ ([Ch.bx lon_0 bn_0 (on_0 + 1) [(Sl a9 r6 c10)] (pren_0 ++ [(I n_0.1)]) ([] ++ sufn_0), Ch.own 0 0 (Sl a9 r6 c10) r6] ++ [Ch.bx n0 b1 0 [(I h_1.1), (I h_1.2)] [] []]) from (H.sel' [0, 1, 2] rfl rfl))) wn ?_
  rintro _ σ22 ⟨_, ⟨a20, c21, rfl, rfl⟩, H, -⟩
  replace H : Hp S0 σ0 σ22 [Ch.bx lon_0 bn_0 (on_0 + 1) [(Sl a20 r17.2 c21)] (pren_0 ++ [(I n_0.1)]) ([] ++ sufn_0), Ch.own 0 0 (Sl a20 r17.2 c21) r17.2, Ch.bx n0 b1 0 [(I h_1.1), (I h_1.2)] [] []] := H
  replace H : Hp S0 σ0 σ22 [Ch.bx lon_0 bn_0 on_0 [(I n_0.1), (Sl a20 r17.2 c21)] pren_0 sufn_0, Ch.own 0 0 (Sl a20 r17.2 c21) r17.2, Ch.bx n0 b1 0 [(I h_1.1), (I h_1.2)] [] []] := Hp.unfocus (o := on_0) (c1 := [(I n_0.1)]) (c2 := [(Sl a20 r17.2 c21)]) (c3 := []) (pre := pren_0) (suf := sufn_0) H 0 rfl rfl
  refine w_end ?_
  obtain rfl := Option.some.inj h
  exact fin_end (v := (.tuple #[])) (results_ok Try.results94 res_nil rfl) ⟨a20, c21, rfl, rfl⟩ (H.sel' [0, 1] rfl rfl)
 ·replace h := bif_f hb16 h
  refine c_skip ?_
  obtain rfl := Option.some.inj h
  exact fin_end (v := (.tuple #[])) (results_ok Try.results94 res_nil rfl) ⟨a9, c10, rfl, rfl⟩ (H.sel' [0, 1] rfl rfl)

theorem c_impl_branch_turns {b_0 : Tr (Int × (List Int) × Int)} {dist_1 : Int} {ab_0 : Option Addr} {r : ((Tr (Int × (List Int) × Int)) × Int) × ((Tr (Int × (List Int) × Int)) × Int)} (h : M.impl_branch_turns b_0 dist_1 = some r) :
    Cal2 Try.prog 95 [(.pointer ab_0), (I dist_1)] [Ch.pr 0 (.pointer ab_0) b_0] (fun n0 v L => ∃ (az1 : Option Addr), ∃ (az2 : Option Addr), v = (.tuple #[(.agg #[(.pointer az1), (I r.1.2)]), (.agg #[(.pointer az2), (I r.2.2)])]) ∧ L = [Ch.pr 0 (.pointer az1) r.1.1, Ch.pr 0 (.pointer az2) r.2.1]) := by
 refine cal2 (n := 44) Try.func95 rfl rfl rfl rfl ?_
 intro S0 σ0 n0 hn0 H
 unfold M.impl_branch_turns at h
 refine c_seq ?_
 refine rg ?_
 refine st_ex (ex_alloc (cs := [(.pointer none), (I 0)]) H hn0 ti104 rfl) wn ?_
 rintro _ σ2 ⟨b1, rfl, H, -⟩
 refine st_ex (ex_alloc (cs := [(.pointer none), (I 0)]) H hn0 ti104 rfl) wn ?_
 rintro _ σ4 ⟨b3, rfl, H, -⟩
 refine w_end ?_
 refine q_then ?_
 refine c_seq ?_
 refine c_seq ?_
 refine rg ?_
 refine st (v := (I dist_1)) (rv_move rfl) ?_
 refine st (v := (.pointer ab_0)) (rv_move rfl) ?_
 obtain ⟨x5, hx6, h'⟩ := bind_some h
 clear h
 have h := h'; clear h'
 obtain ⟨b8, o9, hi7⟩ := (H.pr 2 rfl).ex hx6
 refine st (v := (pt b8 o9)) (rv_nilCheckT hi7 rfl) ?_
 refine st (v := (pt b8 (o9 + 3))) (rv_fieldAddr (off := 3) (ft := 3) Try.underlying101 rfl ti3 rfl rfl) ?_
 have hc10 := ((H.pr 2 rfl).at hx6 hi7).snd.fst.int
 refine st (v := (I x5.2.1)) (rv_load1 Try.underlying3 rfl rfl hc10) ?_
 refine st (v := (B (decide (dist_1 ≤ x5.2.1)))) (rv_leq (a := dist_1) (b := x5.2.1) rfl rfl) ?_
 refine w_end ?_
 refine q_then ?_
 refine cd_cond (decide (dist_1 ≤ x5.2.1)) rfl (fun hb11 => ?_) (fun hb11 => ?_)
 ·replace h := bif_t hb11 h
  refine c_seq ?_
  obtain ⟨x12, hx13, h'⟩ := bind_some h
  clear h
  have h := h'; clear h'
  obtain ⟨b15, o16, hi14⟩ := (H.pr 2 rfl).ex hx13
  obtain ⟨v20, hc19, hR18⟩ := ((H.pr 2 rfl).at hx13 hi14).snd.snd.fst.tree
  obtain ⟨a17, rfl⟩ := hR18.isPtr
  replace H := H.add (d := Ch.pr 0 (.pointer a17) x12.2.2.1) hR18 (fun _ h => h)
  clear hR18
  obtain ⟨x21, hx22, h'⟩ := bind_some h
  clear h
  have h := h'; clear h'
  obtain ⟨b24, o25, hi23⟩ := (H.pr 3 rfl).ex hx22
  obtain ⟨v29, hc28, hR27⟩ := ((H.pr 3 rfl).at hx22 hi23).snd.snd.snd.tree
  obtain ⟨a26, rfl⟩ := hR27.isPtr
  replace H := H.add (d := Ch.pr 0 (.pointer a26) x21.2.2.2) hR27 (fun _ h => h)
  clear hR27
  obtain ⟨x30, hx31, h'⟩ := bind_some h
  clear h
  have h := h'; clear h'
  obtain ⟨b33, o34, hi32⟩ := (H.pr 4 rfl).ex hx31
  have hc35 := ((H.pr 4 rfl).at hx31 hi32).snd.fst.int
  have Hs := H
  refine rg2 (σ := σ4) (Nm := Unit) 17 [16] [[false], [true]] [[(0, 0)], [(0, 0)], [(0, 0)], [(0, 0)], [(0, 0)], [(0, 0), (1, 1)], [(0, 0), (1, 1)], [(0, 0), (1, 1)], [(0, 0), (1, 1)], [(0, 0), (1, 1)], [(0, 0), (1, 1)], [(0, 0), (1, 1)], [(0, 0), (1, 1)], [(0, 0), (1, 1)], [(0, 0), (1, 1)], [(0, 0), (1, 1)], [(0, 1)]] 1 [fun _ => fun σm => Hp S0 σ0 σm [Ch.pr 0 (.pointer a26) x21.2.2.2, Ch.pr 0 (.pointer a17) x12.2.2.1, Ch.bx n0 b3 0 [(.pointer none), (I 0)] [] [], Ch.bx n0 b1 0 [(.pointer none), (I 0)] [] [], Ch.pr 0 (.pointer ab_0) b_0] ∧ Md (cov []) σ4 σm, fun _ => fun σm => Hp S0 σ0 σm [Ch.bx n0 b1 0 [(.pointer a17), (I 0)] [] [], Ch.pr 0 (.pointer a26) x21.2.2.2, Ch.pr 0 (.pointer a17) x12.2.2.1, Ch.bx n0 b3 0 [(.pointer none), (I 0)] [] [], Ch.pr 0 (.pointer ab_0) b_0] ∧ Md (fun i => (cov []) i ∨ (fun i => i = b1) i) σ4 σm] [fun _ => (.pointer ab_0), fun _ => (pt b15 o16), fun _ => (pt b15 (o16 + 4)), fun _ => (.pointer a17), fun _ => (.agg #[(.pointer a17), (I 0)]), fun _ => (.pointer ab_0), fun _ => (pt b24 o25), fun _ => (pt b24 (o25 + 5)), fun _ => (.pointer a26), fun _ => (.pointer ab_0), fun _ => (pt b33 o34), fun _ => (pt b33 (o34 + 3)), fun _ => (I x30.2.1), fun _ => (I dist_1), fun _ => (I (w64 (x30.2.1 - dist_1))), fun _ => (.agg #[(.pointer a26), (I (w64 (x30.2.1 - dist_1)))]), fun _ => undef] () (by kernel_rfl) (by kernel_rfl) ?_ ?_ ?_
  ·intro σm m0
   exact ⟨H.grow (m0.mono fun _ h => h.elim), m0⟩
  ·refine ac rfl (by
     intro k _nm ρ σm hJ hoff hdep
     have e0 := look_off (N := 44) (hoff 0 rfl) rfl
     exact dp_v (v := (.pointer ab_0)) wn (rv_move e0) rfl hJ) ?_
   refine ac rfl (by
     intro k _nm ρ σm hJ hoff hdep
     have e12 := hdep 0 rfl rfl 12 rfl
     exact dp_v (v := (pt b15 o16)) wn (rv_nilCheckT hi14 e12) rfl hJ) ?_
   refine ac rfl (by
     intro k _nm ρ σm hJ hoff hdep
     have e13 := hdep 1 rfl rfl 13 rfl
     exact dp_v (v := (pt b15 (o16 + 4))) wn (rv_fieldAddr (off := 4) (ft := 72) Try.underlying101 rfl ti72 rfl e13) rfl hJ) ?_
   refine all_cons (by
     refine ⟨?_, ?_⟩
     ·intro _nm ρ σm hJ hoff hdep
      have e14 := hdep 2 rfl rfl 14 rfl
      obtain ⟨H, m⟩ := id hJ
      replace hc19 := (Hs.pr 4 rfl).hmd hx13 hi14 (k := 4) (by decide) hc19 m
      exact dp_v (v := (.pointer a17)) wn (rv_load1 Try.underlying72 rfl e14 hc19) rfl hJ
     trivial) ?_
   refine ac rfl (by
     intro k _nm ρ σm hJ hoff hdep
     have e15 : look 44 ρ 15 = (.pointer a17) := hdep 3 rfl rfl 15 rfl
     exact dp_v (v := (.agg #[(.pointer a17), (I 0)])) wn (rv_build (ps := [(0, (.pointer a17))]) Try.underlying104 ti104 (bp104 Try.underlying104) (by show [(0, look 44 ρ 15)] = _; rw [e15]) (by kernel_rfl)) rfl hJ) ?_
   refine ac rfl (by
     intro k _nm ρ σm hJ hoff hdep
     have e0 := look_off (N := 44) (hoff 0 rfl) rfl
     exact dp_v (v := (.pointer ab_0)) wn (rv_move e0) rfl hJ) ?_
   refine ac rfl (by
     intro k _nm ρ σm hJ hoff hdep
     have e17 := hdep 5 rfl rfl 17 rfl
     exact dp_v (v := (pt b24 o25)) wn (rv_nilCheckT hi23 e17) rfl hJ) ?_
   refine ac rfl (by
     intro k _nm ρ σm hJ hoff hdep
     have e18 := hdep 6 rfl rfl 18 rfl
     exact dp_v (v := (pt b24 (o25 + 5))) wn (rv_fieldAddr (off := 5) (ft := 72) Try.underlying101 rfl ti72 rfl e18) rfl hJ) ?_
   refine all_cons (by
     refine ⟨?_, ?_⟩
     ·intro _nm ρ σm hJ hoff hdep
      have e19 := hdep 7 rfl rfl 19 rfl
      obtain ⟨H, m⟩ := id hJ
      replace hc28 := (Hs.pr 4 rfl).hmd hx22 hi23 (k := 5) (by decide) hc28 m
      exact dp_v (v := (.pointer a26)) wn (rv_load1 Try.underlying72 rfl e19 hc28) rfl hJ
     refine ⟨?_, ?_⟩
     ·intro _nm ρ σm hJ hoff hdep
      have e19 := hdep 7 rfl rfl 19 rfl
      obtain ⟨H, m⟩ := id hJ
      replace hc28 := (Hs.pr 4 rfl).hmd hx22 hi23 (k := 5) (by decide) hc28 m
      exact dp_v (v := (.pointer a26)) wn (rv_load1 Try.underlying72 rfl e19 hc28) rfl hJ
     trivial) ?_
   refine ac rfl (by
     intro k _nm ρ σm hJ hoff hdep
     have e0 := look_off (N := 44) (hoff 0 rfl) rfl
     exact dp_v (v := (.pointer ab_0)) wn (rv_move e0) rfl hJ) ?_
   refine ac rfl (by
     intro k _nm ρ σm hJ hoff hdep
     have e21 := hdep 9 rfl rfl 21 rfl
     exact dp_v (v := (pt b33 o34)) wn (rv_nilCheckT hi32 e21) rfl hJ) ?_
   refine ac rfl (by
     intro k _nm ρ σm hJ hoff hdep
     have e22 := hdep 10 rfl rfl 22 rfl
     exact dp_v (v := (pt b33 (o34 + 3))) wn (rv_fieldAddr (off := 3) (ft := 3) Try.underlying101 rfl ti3 rfl e22) rfl hJ) ?_
   refine all_cons (by
     refine ⟨?_, ?_⟩
     ·intro _nm ρ σm hJ hoff hdep
      have e23 := hdep 11 rfl rfl 23 rfl
      obtain ⟨H, m⟩ := id hJ
      replace hc35 := (Hs.pr 4 rfl).hmd hx31 hi32 (k := 3) (by decide) hc35 m
      exact dp_v (v := (I x30.2.1)) wn (rv_load1 Try.underlying3 rfl e23 hc35) rfl hJ
     refine ⟨?_, ?_⟩
     ·intro _nm ρ σm hJ hoff hdep
      have e23 := hdep 11 rfl rfl 23 rfl
      obtain ⟨H, m⟩ := id hJ
      replace hc35 := (Hs.pr 4 rfl).hmd hx31 hi32 (k := 3) (by decide) hc35 m
      exact dp_v (v := (I x30.2.1)) wn (rv_load1 Try.underlying3 rfl e23 hc35) rfl hJ
     trivial) ?_
   refine ac rfl (by
     intro k _nm ρ σm hJ hoff hdep
     have e1 := look_off (N := 44) (hoff 1 rfl) rfl
     exact dp_v (v := (I dist_1)) wn (rv_move e1) rfl hJ) ?_
   refine ac rfl (by
     intro k _nm ρ σm hJ hoff hdep
     have e24 := hdep 12 rfl rfl 24 rfl
     have e25 := hdep 13 rfl rfl 25 rfl
     exact dp_v (v := (I (w64 (x30.2.1 - dist_1)))) wn (rv_sub (a := x30.2.1) (b := dist_1) e24 e25) rfl hJ) ?_
   refine ac rfl (by
     intro k _nm ρ σm hJ hoff hdep
     have e20 : look 44 ρ 20 = (.pointer a26) := hdep 8 rfl rfl 20 rfl
     have e26 : look 44 ρ 26 = (I (w64 (x30.2.1 - dist_1))) := hdep 14 rfl rfl 26 rfl
     exact dp_v (v := (.agg #[(.pointer a26), (I (w64 (x30.2.1 - dist_1)))])) wn (rv_build (ps := [(0, (.pointer a26)), (1, (I (w64 (x30.2.1 - dist_1))))]) Try.underlying104 ti104 (bp104 Try.underlying104) (by show [(0, look 44 ρ 20), (1, look 44 ρ 26)] = _; rw [e20, e26]) (by kernel_rfl)) rfl hJ) ?_
   refine all_cons (by
     refine ⟨?_, ?_⟩
     ·intro _nm ρ σm hJ hoff hdep
      have e4 := look_off (N := 44) (hoff 4 rfl) rfl
      have e16 := hdep 4 rfl rfl 16 rfl
      obtain ⟨H, m⟩ := id hJ
      refine dp_exS wn rfl (ex_store_box (k := 0) (cs := [(.pointer none), (I 0)]) (vs := [(.pointer a17), (I 0)]) (cs' := [(.pointer a17), (I 0)]) H (i := 3) rfl ti104 e4 rfl e16 rfl rfl (Nat.le_of_ble_eq_true rfl) (by simp [plain]) rfl) ?_
      rintro σq ⟨H2, m2⟩
      exact ⟨_, (), rfl, ⟨H2.sel' [0, 1, 2, 3, 4] rfl rfl, m.comp m2⟩, stab [0, 1, 2, 3, 4, 5, 6, 7, 8, 9, 10, 11, 12, 13, 14, 15] (by kernel_rfl) ⟨rfl, rfl, rfl, rfl, rfl, rfl, rfl, rfl, rfl, rfl, rfl, rfl, rfl, rfl, rfl, rfl, trivial⟩⟩
     trivial) ?_
   exact all_nil
  ·intro _nm ρ σ36 hJ hoff hrel
   have e4 := look_off (N := 44) (hoff 4 rfl) rfl
   have e5 := look_off (N := 44) (hoff 5 rfl) rfl
   have e27 := hrel 15 rfl 27 rfl
   obtain ⟨H, -⟩ := (show Hp S0 σ0 σ36 [Ch.bx n0 b1 0 [(.pointer a17), (I 0)] [] [], Ch.pr 0 (.pointer a26) x21.2.2.2, Ch.pr 0 (.pointer a17) x12.2.2.1, Ch.bx n0 b3 0 [(.pointer none), (I 0)] [] [], Ch.pr 0 (.pointer ab_0) b_0] ∧ Md (fun i => (cov []) i ∨ (fun i => i = b1) i) σ4 σ36 from hJ)
   clear hJ Hs
   rw [fr_lookL (L := [(4, (pt b1 0)), (5, (pt b3 0)), (27, (.agg #[(.pointer a26), (I (w64 (x30.2.1 - dist_1)))]))]) ⟨e4, e5, e27, trivial⟩]
   clear hoff hrel e4 e5 e27
   refine st_exS (ex_store_box (k := 0) (cs := [(.pointer none), (I 0)]) (vs := [(.pointer a26), (I (w64 (x30.2.1 - dist_1)))]) (cs' := [(.pointer a26), (I (w64 (x30.2.1 - dist_1)))]) H (i := 3) rfl ti104 rfl rfl rfl rfl rfl (Nat.le_of_ble_eq_true rfl) (by simp [plain]) rfl) wn ?_
   rintro σ37 ⟨H, -⟩
   refine w_end ?_
   refine q_then ?_
   refine c_ret ?_
   refine q_then_r ?_
   obtain rfl := Option.some.inj h
   exact fin_ret (v := (.tuple #[(.agg #[(.pointer a17), (I 0)]), (.agg #[(.pointer a26), (I (w64 (x30.2.1 - dist_1)))])])) (results_ok Try.results95 (res_cell rfl (run_cellRes (cs := [(.pointer a17), (I 0)]) Try.underlying104 rfl ti104 rfl (H.cells 1 rfl)) (res_cell rfl (run_cellRes (cs := [(.pointer a26), (I (w64 (x30.2.1 - dist_1)))]) Try.underlying104 rfl ti104 rfl (H.cells 0 rfl)) res_nil)) rfl) ⟨a17, a26, rfl, rfl⟩ (H.sel' [3, 2] rfl rfl)
 ·replace h := bif_f hb11 h
  refine c_skip ?_
  refine q_then ?_
  refine c_seq ?_
  obtain ⟨x38, hx39, h'⟩ := bind_some h
  clear h
  have h := h'; clear h'
  obtain ⟨b41, o42, hi40⟩ := (H.pr 2 rfl).ex hx39
  obtain ⟨v46, hc45, hR44⟩ := ((H.pr 2 rfl).at hx39 hi40).snd.snd.snd.tree
  obtain ⟨a43, rfl⟩ := hR44.isPtr
  replace H := H.add (d := Ch.pr 0 (.pointer a43) x38.2.2.2) hR44 (fun _ h => h)
  clear hR44
  obtain ⟨x47, hx48, h'⟩ := bind_some h
  clear h
  have h := h'; clear h'
  obtain ⟨b50, o51, hi49⟩ := (H.pr 3 rfl).ex hx48
  obtain ⟨v55, hc54, hR53⟩ := ((H.pr 3 rfl).at hx48 hi49).snd.snd.fst.tree
  obtain ⟨a52, rfl⟩ := hR53.isPtr
  replace H := H.add (d := Ch.pr 0 (.pointer a52) x47.2.2.1) hR53 (fun _ h => h)
  clear hR53
  obtain ⟨x56, hx57, h'⟩ := bind_some h
  clear h
  have h := h'; clear h'
  obtain ⟨b59, o60, hi58⟩ := (H.pr 4 rfl).ex hx57
  have hc61 := ((H.pr 4 rfl).at hx57 hi58).snd.fst.int
  have Hs := H
  refine rg2 (σ := σ4) (Nm := Unit) 17 [16] [[false], [true]] [[(0, 0)], [(0, 0)], [(0, 0)], [(0, 0)], [(0, 0)], [(0, 0), (1, 1)], [(0, 0), (1, 1)], [(0, 0), (1, 1)], [(0, 0), (1, 1)], [(0, 0), (1, 1)], [(0, 0), (1, 1)], [(0, 0), (1, 1)], [(0, 0), (1, 1)], [(0, 0), (1, 1)], [(0, 0), (1, 1)], [(0, 0), (1, 1)], [(0, 1)]] 1 [fun _ => fun σm => Hp S0 σ0 σm [Ch.pr 0 (.pointer a52) x47.2.2.1, Ch.pr 0 (.pointer a43) x38.2.2.2, Ch.bx n0 b3 0 [(.pointer none), (I 0)] [] [], Ch.bx n0 b1 0 [(.pointer none), (I 0)] [] [], Ch.pr 0 (.pointer ab_0) b_0] ∧ Md (cov []) σ4 σm, fun _ => fun σm => Hp S0 σ0 σm [Ch.bx n0 b1 0 [(.pointer a43), (I 0)] [] [], Ch.pr 0 (.pointer a52) x47.2.2.1, Ch.pr 0 (.pointer a43) x38.2.2.2, Ch.bx n0 b3 0 [(.pointer none), (I 0)] [] [], Ch.pr 0 (.pointer ab_0) b_0] ∧ Md (fun i => (cov []) i ∨ (fun i => i = b1) i) σ4 σm] [fun _ => (.pointer ab_0), fun _ => (pt b41 o42), fun _ => (pt b41 (o42 + 5)), fun _ => (.pointer a43), fun _ => (.agg #[(.pointer a43), (I 0)]), fun _ => (.pointer ab_0), fun _ => (pt b50 o51), fun _ => (pt b50 (o51 + 4)), fun _ => (.pointer a52), fun _ => (I dist_1), fun _ => (.pointer ab_0), fun _ => (pt b59 o60), fun _ => (pt b59 (o60 + 3)), fun _ => (I x56.2.1), fun _ => (I (w64 (dist_1 - x56.2.1))), fun _ => (.agg #[(.pointer a52), (I (w64 (dist_1 - x56.2.1)))]), fun _ => undef] () (by kernel_rfl) (by kernel_rfl) ?_ ?_ ?_
  ·intro σm m0
   exact ⟨H.grow (m0.mono fun _ h => h.elim), m0⟩
  ·refine ac rfl (by
     intro k _nm ρ σm hJ hoff hdep
     have e0 := look_off (N := 44) (hoff 0 rfl) rfl
     exact dp_v (v := (.pointer ab_0)) wn (rv_move e0) rfl hJ) ?_
   refine ac rfl (by
     intro k _nm ρ σm hJ hoff hdep
     have e28 := hdep 0 rfl rfl 28 rfl
     exact dp_v (v := (pt b41 o42)) wn (rv_nilCheckT hi40 e28) rfl hJ) ?_
   refine ac rfl (by
     intro k _nm ρ σm hJ hoff hdep
     have e29 := hdep 1 rfl rfl 29 rfl
     exact dp_v (v := (pt b41 (o42 + 5))) wn (rv_fieldAddr (off := 5) (ft := 72) Try.underlying101 rfl ti72 rfl e29) rfl hJ) ?_
   refine all_cons (by
     refine ⟨?_, ?_⟩
     ·intro _nm ρ σm hJ hoff hdep
      have e30 := hdep 2 rfl rfl 30 rfl
      obtain ⟨H, m⟩ := id hJ
      replace hc45 := (Hs.pr 4 rfl).hmd hx39 hi40 (k := 5) (by decide) hc45 m
      exact dp_v (v := (.pointer a43)) wn (rv_load1 Try.underlying72 rfl e30 hc45) rfl hJ
     trivial) ?_
   refine ac rfl (by
     intro k _nm ρ σm hJ hoff hdep
     have e31 : look 44 ρ 31 = (.pointer a43) := hdep 3 rfl rfl 31 rfl
     exact dp_v (v := (.agg #[(.pointer a43), (I 0)])) wn (rv_build (ps := [(0, (.pointer a43))]) Try.underlying104 ti104 (bp104 Try.underlying104) (by show [(0, look 44 ρ 31)] = _; rw [e31]) (by kernel_rfl)) rfl hJ) ?_
   refine ac rfl (by
     intro k _nm ρ σm hJ hoff hdep
     have e0 := look_off (N := 44) (hoff 0 rfl) rfl
     exact dp_v (v := (.pointer ab_0)) wn (rv_move e0) rfl hJ) ?_
   refine ac rfl (by
     intro k _nm ρ σm hJ hoff hdep
     have e33 := hdep 5 rfl rfl 33 rfl
     exact dp_v (v := (pt b50 o51)) wn (rv_nilCheckT hi49 e33) rfl hJ) ?_
   refine ac rfl (by
     intro k _nm ρ σm hJ hoff hdep
     have e34 := hdep 6 rfl rfl 34 rfl
     exact dp_v (v := (pt b50 (o51 + 4))) wn (rv_fieldAddr (off := 4) (ft := 72) Try.underlying101 rfl ti72 rfl e34) rfl hJ) ?_
   refine all_cons (by
     refine ⟨?_, ?_⟩
     ·intro _nm ρ σm hJ hoff hdep
      have e35 := hdep 7 rfl rfl 35 rfl
      obtain ⟨H, m⟩ := id hJ
      replace hc54 := (Hs.pr 4 rfl).hmd hx48 hi49 (k := 4) (by decide) hc54 m
      exact dp_v (v := (.pointer a52)) wn (rv_load1 Try.underlying72 rfl e35 hc54) rfl hJ
     refine ⟨?_, ?_⟩
     ·intro _nm ρ σm hJ hoff hdep
      have e35 := hdep 7 rfl rfl 35 rfl
      obtain ⟨H, m⟩ := id hJ
      replace hc54 := (Hs.pr 4 rfl).hmd hx48 hi49 (k := 4) (by decide) hc54 m
      exact dp_v (v := (.pointer a52)) wn (rv_load1 Try.underlying72 rfl e35 hc54) rfl hJ
     trivial) ?_
   refine ac rfl (by
     intro k _nm ρ σm hJ hoff hdep
     have e1 := look_off (N := 44) (hoff 1 rfl) rfl
     exact dp_v (v := (I dist_1)) wn (rv_move e1) rfl hJ) ?_
   refine ac rfl (by
     intro k _nm ρ σm hJ hoff hdep
     have e0 := look_off (N := 44) (hoff 0 rfl) rfl
     exact dp_v (v := (.pointer ab_0)) wn (rv_move e0) rfl hJ) ?_
   refine ac rfl (by
     intro k _nm ρ σm hJ hoff hdep
     have e38 := hdep 10 rfl rfl 38 rfl
     exact dp_v (v := (pt b59 o60)) wn (rv_nilCheckT hi58 e38) rfl hJ) ?_
   refine ac rfl (by
     intro k _nm ρ σm hJ hoff hdep
     have e39 := hdep 11 rfl rfl 39 rfl
     exact dp_v (v := (pt b59 (o60 + 3))) wn (rv_fieldAddr (off := 3) (ft := 3) Try.underlying101 rfl ti3 rfl e39) rfl hJ) ?_
   refine all_cons (by
     refine ⟨?_, ?_⟩
     ·intro _nm ρ σm hJ hoff hdep
      have e40 := hdep 12 rfl rfl 40 rfl
      obtain ⟨H, m⟩ := id hJ
      replace hc61 := (Hs.pr 4 rfl).hmd hx57 hi58 (k := 3) (by decide) hc61 m
      exact dp_v (v := (I x56.2.1)) wn (rv_load1 Try.underlying3 rfl e40 hc61) rfl hJ
     refine ⟨?_, ?_⟩
     ·intro _nm ρ σm hJ hoff hdep
      have e40 := hdep 12 rfl rfl 40 rfl
      obtain ⟨H, m⟩ := id hJ
      replace hc61 := (Hs.pr 4 rfl).hmd hx57 hi58 (k := 3) (by decide) hc61 m
      exact dp_v (v := (I x56.2.1)) wn (rv_load1 Try.underlying3 rfl e40 hc61) rfl hJ
     trivial) ?_
   refine ac rfl (by
     intro k _nm ρ σm hJ hoff hdep
     have e37 := hdep 9 rfl rfl 37 rfl
     have e41 := hdep 13 rfl rfl 41 rfl
     exact dp_v (v := (I (w64 (dist_1 - x56.2.1)))) wn (rv_sub (a := dist_1) (b := x56.2.1) e37 e41) rfl hJ) ?_
   refine ac rfl (by
     intro k _nm ρ σm hJ hoff hdep
     have e36 : look 44 ρ 36 = (.pointer a52) := hdep 8 rfl rfl 36 rfl
     have e42 : look 44 ρ 42 = (I (w64 (dist_1 - x56.2.1))) := hdep 14 rfl rfl 42 rfl
     exact dp_v (v := (.agg #[(.pointer a52), (I (w64 (dist_1 - x56.2.1)))])) wn (rv_build (ps := [(0, (.pointer a52)), (1, (I (w64 (dist_1 - x56.2.1))))]) Try.underlying104 ti104 (bp104 Try.underlying104) (by show [(0, look 44 ρ 36), (1, look 44 ρ 42)] = _; rw [e36, e42]) (by kernel_rfl)) rfl hJ) ?_
   refine all_cons (by
     refine ⟨?_, ?_⟩
     ·intro _nm ρ σm hJ hoff hdep
      have e4 := look_off (N := 44) (hoff 4 rfl) rfl
      have e32 := hdep 4 rfl rfl 32 rfl
      obtain ⟨H, m⟩ := id hJ
      refine dp_exS wn rfl (ex_store_box (k := 0) (cs := [(.pointer none), (I 0)]) (vs := [(.pointer a43), (I 0)]) (cs' := [(.pointer a43), (I 0)]) H (i := 3) rfl ti104 e4 rfl e32 rfl rfl (Nat.le_of_ble_eq_true rfl) (by simp [plain]) rfl) ?_
      rintro σq ⟨H2, m2⟩
      exact ⟨_, (), rfl, ⟨H2.sel' [0, 1, 2, 3, 4] rfl rfl, m.comp m2⟩, stab [0, 1, 2, 3, 4, 5, 6, 7, 8, 9, 10, 11, 12, 13, 14, 15] (by kernel_rfl) ⟨rfl, rfl, rfl, rfl, rfl, rfl, rfl, rfl, rfl, rfl, rfl, rfl, rfl, rfl, rfl, rfl, trivial⟩⟩
     trivial) ?_
   exact all_nil
  ·intro _nm ρ σ62 hJ hoff hrel
   have e4 := look_off (N := 44) (hoff 4 rfl) rfl
   have e5 := look_off (N := 44) (hoff 5 rfl) rfl
   have e43 := hrel 15 rfl 43 rfl
   obtain ⟨H, -⟩ := (show Hp S0 σ0 σ62 [Ch.bx n0 b1 0 [(.pointer a43), (I 0)] [] [], Ch.pr 0 (.pointer a52) x47.2.2.1, Ch.pr 0 (.pointer a43) x38.2.2.2, Ch.bx n0 b3 0 [(.pointer none), (I 0)] [] [], Ch.pr 0 (.pointer ab_0) b_0] ∧ Md (fun i => (cov []) i ∨ (fun i => i = b1) i) σ4 σ62 from hJ)
   clear hJ Hs
   rw [fr_lookL (L := [(4, (pt b1 0)), (5, (pt b3 0)), (43, (.agg #[(.pointer a52), (I (w64 (dist_1 - x56.2.1)))]))]) ⟨e4, e5, e43, trivial⟩]
   clear hoff hrel e4 e5 e43
   refine st_exS (ex_store_box (k := 0) (cs := [(.pointer none), (I 0)]) (vs := [(.pointer a52), (I (w64 (dist_1 - x56.2.1)))]) (cs' := [(.pointer a52), (I (w64 (dist_1 - x56.2.1)))]) H (i := 3) rfl ti104 rfl rfl rfl rfl rfl (Nat.le_of_ble_eq_true rfl) (by simp [plain]) rfl) wn ?_
   rintro σ63 ⟨H, -⟩
   refine w_end ?_
   refine q_then ?_
   refine c_ret ?_
   obtain rfl := Option.some.inj h
   exact fin_ret (v := (.tuple #[(.agg #[(.pointer a43), (I 0)]), (.agg #[(.pointer a52), (I (w64 (dist_1 - x56.2.1)))])])) (results_ok Try.results95 (res_cell rfl (run_cellRes (cs := [(.pointer a43), (I 0)]) Try.underlying104 rfl ti104 rfl (H.cells 1 rfl)) (res_cell rfl (run_cellRes (cs := [(.pointer a52), (I (w64 (dist_1 - x56.2.1)))]) Try.underlying104 rfl ti104 rfl (H.cells 0 rfl)) res_nil)) rfl) ⟨a43, a52, rfl, rfl⟩ (H.sel' [3, 2] rfl rfl)

theorem c_impl_nearestHits_reach {n_0 : Int × (List (Int × Int))} {an_0_1 : Option Addr} {cn_0_1 : Nat} {lon_0 bn_0 on_0 : Nat} {pren_0 sufn_0 : List Value} {r : Int} (h : M.impl_nearestHits_reach n_0 = some r) :
    Cal2 Try.prog 92 [(pt bn_0 on_0)] [Ch.bx lon_0 bn_0 on_0 [(I n_0.1), (Sl an_0_1 n_0.2 cn_0_1)] pren_0 sufn_0, Ch.own 0 0 (Sl an_0_1 n_0.2 cn_0_1) n_0.2] (fun n0 v L => v = (I r) ∧ L = [Ch.bx lon_0 bn_0 on_0 [(I n_0.1), (Sl an_0_1 n_0.2 cn_0_1)] pren_0 sufn_0, Ch.own 0 0 (Sl an_0_1 n_0.2 cn_0_1) n_0.2]) := by
 refine cal2 (n := 20) Try.func92 rfl rfl rfl rfl ?_
 intro S0 σ0 n0 hn0 H
 unfold M.impl_nearestHits_reach at h
 refine c_seq ?_
 refine rg ?_
 refine st (v := (I 0)) (rv_assign rfl) ?_
 refine w_end ?_
 refine q_then ?_
 refine c_seq ?_
 refine c_seq ?_
 refine rgP (σ := σ0) 9 (by kernel_rfl) (by kernel_rfl) (by kernel_rfl) ?_
 refine sq (v := (pt bn_0 on_0)) (rv_move rfl) ?_
 refine sq (v := (pt bn_0 on_0)) (rv_nilCheck rfl) ?_
 refine sq (v := (pt bn_0 (on_0 + 1))) (rv_fieldAddr (off := 1) (ft := 86) Try.underlying88 rfl ti86 rfl rfl) ?_
 have hc1 := H.cell (u := (Sl an_0_1 n_0.2 cn_0_1)) (o' := (on_0 + 1)) 0 1 rfl rfl rfl
 refine sq (v := (Sl an_0_1 n_0.2 cn_0_1)) (rv_load1 Try.underlying86 rfl rfl hc1) ?_
 refine sq (v := (I (n_0.2.length : Int))) (rv_len Try.underlying86 rfl) ?_
 refine sq (v := (pt bn_0 on_0)) (rv_move rfl) ?_
 refine sq (v := (pt bn_0 on_0)) (rv_nilCheck rfl) ?_
 refine sq (v := (pt bn_0 on_0)) (rv_fieldAddr (off := 0) (ft := 3) Try.underlying88 rfl ti3 rfl rfl) ?_
 have hc2 := H.cell (u := (I n_0.1)) (o' := on_0) 0 0 rfl rfl rfl
 refine sq (v := (I n_0.1)) (rv_load1 Try.underlying3 rfl rfl hc2) ?_
 refine sq_end ?_
 intro σ3 hm4
 replace H := H.grow (hm4.mono fun _ h => h); clear hm4
 refine st (v := (B (decide ((n_0.2.length : Int) < n_0.1)))) (rv_lss (a := (n_0.2.length : Int)) (b := n_0.1) rfl rfl) ?_
 refine w_end ?_
 refine q_then ?_
 refine cd_cond (decide ((n_0.2.length : Int) < n_0.1)) rfl (fun hb5 => ?_) (fun hb5 => ?_)
 ·replace h := bif_t hb5 h
  refine c_seq ?_
  refine rg ?_
  refine st (v := (I 1000000)) (rv_assign rfl) ?_
  refine w_end ?_
  refine q_then ?_
  refine c_ret ?_
  refine q_then_r ?_
  obtain rfl := Option.some.inj h
  exact fin_ret (v := (I 1000000)) (results_ok Try.results92 (res_tmp (v := (I 1000000)) rfl res_nil) rfl) ⟨rfl, rfl⟩ (H.sel' [0, 1] rfl rfl)
 ·replace h := bif_f hb5 h
  refine c_skip ?_
  refine q_then ?_
  refine c_seq ?_
  refine rg ?_
  refine st (v := (pt bn_0 on_0)) (rv_move rfl) ?_
  refine st (v := (pt bn_0 on_0)) (rv_nilCheck rfl) ?_
  refine st (v := (pt bn_0 (on_0 + 1))) (rv_fieldAddr (off := 1) (ft := 86) Try.underlying88 rfl ti86 rfl rfl) ?_
  have hc6 := H.cell (u := (Sl an_0_1 n_0.2 cn_0_1)) (o' := (on_0 + 1)) 0 1 rfl rfl rfl
  refine st (v := (Sl an_0_1 n_0.2 cn_0_1)) (rv_load1 Try.underlying86 rfl rfl hc6) ?_
  obtain ⟨x7, hx8, h'⟩ := bind_some h
  clear h
  have h := h'; clear h'
  obtain ⟨b10, o11, hi9, -⟩ := (H.own 1 rfl).ix hx8
  refine st (v := (pt b10 o11)) (rv_ix Try.underlying86 ti62 rfl rfl hi9) ?_
  refine st (v := (pt b10 (o11 + 1))) (rv_fieldAddr (off := 1) (ft := 3) Try.underlying62 rfl ti3 rfl rfl) ?_
  have hc12 := ((H.own 1 rfl).at hx8 hi9).snd.int
  refine st (v := (I x7.2)) (rv_load1 Try.underlying3 rfl rfl hc12) ?_
  refine st (v := (I x7.2)) (rv_assign rfl) ?_
  refine w_end ?_
  refine q_then ?_
  refine c_ret ?_
  obtain rfl := Option.some.inj h
  exact fin_ret (v := (I x7.2)) (results_ok Try.results92 (res_tmp (v := (I x7.2)) rfl res_nil) rfl) ⟨rfl, rfl⟩ (H.sel' [0, 1] rfl rfl)

theorem c_impl_searchTree {top_0 : Tr (Int × (List Int) × Int)} {kind_1 : Int} {at_2 : List Int} {k_3 : Int} {atop_0 : Option Addr} {aat_2 : Option Addr} {cat_2 : Nat} {r : (Int × (List (Int × Int))) × Int} (h : M.impl_searchTree top_0 kind_1 at_2 k_3 = some r) :
    Cal2 Try.prog 67 [(.pointer atop_0), (I kind_1), (Sl aat_2 at_2 cat_2), (I k_3)] [Ch.pr 0 (.pointer atop_0) top_0, Ch.ro 0 (Sl aat_2 at_2 cat_2) at_2] (fun n0 v L => ∃ (az1 : Option Addr), ∃ (cz2 : Nat), v = (.tuple #[(.agg #[(I r.1.1), (Sl az1 r.1.2 cz2)]), (I r.2)]) ∧ L = [Ch.own 0 n0 (Sl az1 r.1.2 cz2) r.1.2]) := by
 refine cal2 (n := 72) Try.func67 rfl rfl rfl rfl ?_
 intro S0 σ0 n0 hn0 H
 unfold M.impl_searchTree at h
 refine c_seq ?_
 refine rg ?_
 refine st_ex (ex_alloc (cs := [(I 0), (.slice none 0 0)]) H hn0 ti88 rfl) wn ?_
 rintro _ σ2 ⟨b1, rfl, H, -⟩
 refine st (v := (I 0)) (rv_assign rfl) ?_
 refine w_end ?_
 refine q_then ?_
 refine c_seq ?_
 refine rg ?_
 refine st (v := (I k_3)) (rv_move rfl) ?_
 refine st (v := (.agg #[(I k_3), (.slice none 0 0)])) (rv_build (ps := [(0, (I k_3))]) Try.underlying88 ti88 (bp88 Try.underlying88) rfl (by kernel_rfl)) ?_
 refine st_ex (ex_alloc (cs := [(I 0), (.slice none 0 0)]) H hn0 ti88 rfl) wn ?_
 rintro _ σ4 ⟨b3, rfl, H, -⟩
 refine st_exS (ex_store_box (k := 0) (cs := [(I 0), (.slice none 0 0)]) (vs := [(I k_3), (.slice none 0 0)]) (cs' := [(I k_3), (.slice none 0 0)]) H (i := 0) rfl ti88 rfl rfl rfl rfl rfl (Nat.le_of_ble_eq_true rfl) (by simp [plain]) rfl) wn ?_
 rintro σ5 ⟨H, -⟩
 refine st (v := (I 0)) (rv_assign rfl) ?_
 refine w_end ?_
 refine q_then ?_
 refine c_seq ?_
 refine rg ?_
 refine st (v := (.pointer atop_0)) (rv_move rfl) ?_
 refine st (v := (.agg #[(.pointer atop_0), (I 0)])) (rv_build (ps := [(0, (.pointer atop_0))]) Try.underlying104 ti104 (bp104 Try.underlying104) rfl (by kernel_rfl)) ?_
 refine st_ex (ex_buildSlice (el := 0) (xs := ([(top_0, 0)] : List ((Tr (Int × (List Int) × Int)) × Int))) (ps := [(0, (.agg #[(.pointer atop_0), (I 0)]))]) (cs := [(.pointer atop_0), (I 0)]) H hn0 Try.underlying105 ti104 rfl rfl (by kernel_rfl) (.cons (c := [(.pointer atop_0), (I 0)]) ⟨[(.pointer atop_0)], [(I 0)], rfl, ⟨_, rfl, (H.pr 2 rfl)⟩, rfl⟩ (.nil)) rfl) wn ?_
 rintro _ σ7 ⟨b6, rfl, H, -⟩
 refine st (v := (Sl (some ⟨b6, 0, none⟩) ([(top_0, 0)] : List ((Tr (Int × (List Int) × Int)) × Int)) 1)) (rv_assign rfl) ?_
 refine w_end ?_
 refine q_then ?_
 refine c_seq ?_
 obtain ⟨o8, hj, h'⟩ := bind_some h
 clear h
 refine c_cut (fun e a w => e = .normal ∧ ∃ (ρ : Nat → Value) (σ : St) (aj1 : Option Addr) (cj2 : Nat), a = fr 72 (updL ρ [(8, (pt b1 0)), (10, (pt b3 0)), (11, (I o8.2))]) ∧ w = σ.w ∧ Hp S0 σ0 σ [Ch.bx n0 b3 0 [(I o8.1.1), (Sl aj1 o8.1.2 cj2)] [] [], Ch.own 0 0 (Sl aj1 o8.1.2 cj2) o8.1.2, Ch.bx n0 b1 0 [(I 0), (.slice none 0 0)] [] []]) ?_ ?_
 ·clear h'
  rename _ = some o8 => h
  refine c_blk ?_
  replace H := H.nilOwn (Int × Int) 0 0
  refine wp_loopM _ h (fun s9 a w => ∃ (ρ : Nat → Value) (σ : St) (aj1 : Option Addr) (cj2 : Nat) (aj3 : Option Addr) (cj4 : Nat), a = fr 72 (updL ρ [(1, (I kind_1)), (2, (Sl aat_2 at_2 cat_2)), (8, (pt b1 0)), (10, (pt b3 0)), (11, (I s9.2.1)), (12, (Sl aj3 s9.2.2 cj4))]) ∧ w = σ.w ∧ Hp S0 σ0 σ [Ch.bx n0 b3 0 [(I s9.1.1), (Sl aj1 s9.1.2 cj2)] [] [], Ch.own 0 0 (Sl aj1 s9.1.2 cj2) s9.1.2, Ch.ro 0 (Sl aat_2 at_2 cat_2) at_2, Ch.bx n0 b1 0 [(I 0), (.slice none 0 0)] [] [], Ch.own n0 0 (Sl aj3 s9.2.2 cj4) s9.2.2]) ⟨_, σ7, none, 0, (some ⟨b6, 0, none⟩), 1, fr_join ⟨rfl, rfl, rfl, rfl, rfl, rfl, trivial⟩, rfl, H.sel' [2, 0, 5, 3, 1] rfl rfl⟩ ?_
  clear h H
  rintro s9 a w o ⟨ρ, σ10, a11, c12, a13, c14, rfl, rfl, H⟩ h hres
  refine c_seq ?_
  refine c_seq ?_
  refine rg ?_
  refine st (v := (Sl a13 s9.2.2 c14)) (rv_move rfl) ?_
  refine st (v := (I (s9.2.2.length : Int))) (rv_len Try.underlying105 rfl) ?_
  refine st (v := (B (decide (0 < (s9.2.2.length : Int))))) (rv_gtr (a := (s9.2.2.length : Int)) (b := 0) rfl rfl) ?_
  refine w_end ?_
  refine q_then ?_
  refine cd_cond (decide (0 < (s9.2.2.length : Int))) rfl (fun hb15 => ?_) (fun hb15 => ?_)
  ·replace h := bif_t hb15 h
   refine c_skip ?_
   refine q_then ?_
   refine c_blk ?_
   refine c_seq ?_
   refine rg ?_
   refine st (v := (Sl a13 s9.2.2 c14)) (rv_move rfl) ?_
   refine st (v := (Sl a13 s9.2.2 c14)) (rv_move rfl) ?_
   refine st (v := (I (s9.2.2.length : Int))) (rv_len Try.underlying105 rfl) ?_
   refine st (v := (I (w64 ((s9.2.2.length : Int) - 1)))) (rv_sub (a := (s9.2.2.length : Int)) (b := 1) rfl rfl) ?_
   obtain ⟨x16, hx17, h'⟩ := bind_some h
   clear h
   have h := h'; clear h'
   obtain ⟨b19, o20, hi18, -⟩ := (H.own 4 rfl).ix hx17
   refine st (v := (pt b19 o20)) (rv_ix Try.underlying105 ti104 rfl rfl hi18) ?_
   obtain ⟨_, ⟨_, _, rfl, ⟨_, rfl, hR24⟩, rfl⟩, hl21, hc22⟩ := ((H.own 4 rfl).at hx17 hi18).cells
   obtain ⟨a23, rfl⟩ := hR24.isPtr
   replace H := H.add (d := Ch.pr 0 (.pointer a23) x16.1) hR24 (fun _ h => h)
   clear hR24
   refine st (v := (.agg #[(.pointer a23), (I x16.2)])) (rv_load Try.underlying104 rfl ti104 rfl hl21 hc22) ?_
   refine st_ex (ex_alloc (cs := [(.pointer none), (I 0)]) H hn0 ti104 rfl) wn ?_
   rintro _ σ26 ⟨b25, rfl, H, -⟩
   refine st_exS (ex_store_box (k := 0) (cs := [(.pointer none), (I 0)]) (vs := [(.pointer a23), (I x16.2)]) (cs' := [(.pointer a23), (I x16.2)]) H (i := 0) rfl ti104 rfl rfl rfl rfl rfl (Nat.le_of_ble_eq_true rfl) (by simp [plain]) rfl) wn ?_
   rintro σ27 ⟨H, -⟩
   refine w_end ?_
   refine q_then ?_
   refine c_seq ?_
   refine rg ?_
   refine st (v := (Sl a13 s9.2.2 c14)) (rv_move rfl) ?_
   refine st (v := (Sl a13 s9.2.2 c14)) (rv_move rfl) ?_
   refine st (v := (I (s9.2.2.length : Int))) (rv_len Try.underlying105 rfl) ?_
   refine st (v := (I (w64 ((s9.2.2.length : Int) - 1)))) (rv_sub (a := (s9.2.2.length : Int)) (b := 1) rfl rfl) ?_
   obtain ⟨xs28, hx29, h'⟩ := bind_some h
   clear h
   have h := h'; clear h'
   obtain ⟨a30, c31, hs32, hR33, hb34⟩ := (H.own 6 rfl).slice hx29
   replace H := (H.front (i := 6) rfl).turn (d := Ch.own n0 0 (Sl a30 xs28 c31) xs28) (fun _ => hR33) hb34; clear hR33 hb34
   refine st (v := (Sl a30 xs28 c31)) (rv_slice_h Try.underlying105 ti104 hs32 rfl rfl) ?_
   refine st (v := (Sl a30 xs28 c31)) (rv_assign rfl) ?_
   refine w_end ?_
   refine q_then ?_
   refine c_seq ?_
   refine c_seq ?_
   obtain ⟨o35, hj, h'⟩ := bind_some h
   clear h
   refine c_cut (fun e a w => e = .normal ∧ ∃ (ρ : Nat → Value) (σ : St), a = fr 72 (updL ρ [(1, (I kind_1)), (2, (Sl aat_2 at_2 cat_2)), (8, (pt b1 0)), (10, (pt b3 0)), (11, (I s9.2.1)), (12, (Sl a30 xs28 c31)), (13, (pt b25 0)), (44, (B o35))]) ∧ w = σ.w ∧ Hp S0 σ0 σ [Ch.ro 0 (Sl aat_2 at_2 cat_2) at_2, Ch.bx n0 b1 0 [(I 0), (.slice none 0 0)] [] [], Ch.own 0 0 (Sl a11 s9.1.2 c12) s9.1.2, Ch.bx n0 b3 0 [(I s9.1.1), (Sl a11 s9.1.2 c12)] [] [], Ch.own n0 0 (Sl a30 xs28 c31) xs28, Ch.pr 0 (.pointer a23) x16.1, Ch.bx n0 b25 0 [(.pointer a23), (I x16.2)] [] []]) ?_ ?_
   ·clear h'
    rename _ = some o35 => h
    have hc36 := H.cell (u := (.pointer a23)) (o' := 0) 1 0 rfl rfl rfl
    rcases Bool.eq_false_or_eq_true x16.1.isNil with hb37 | hb37
    ·replace h := bif_t hb37 h
     have Hs := H
     refine rg2 (σ := σ27) (Nm := Unit) 7 [] [[]] [[(0, 0)], [(0, 0)], [(0, 0)], [(0, 0)], [(0, 0)], [(0, 0)], [(0, 0)]] 0 [fun _ => fun σm => Hp S0 σ0 σm [Ch.own n0 0 (Sl a30 xs28 c31) xs28, Ch.bx n0 b25 0 [(.pointer a23), (I x16.2)] [] [], Ch.pr 0 (.pointer a23) x16.1, Ch.bx n0 b3 0 [(I s9.1.1), (Sl a11 s9.1.2 c12)] [] [], Ch.own 0 0 (Sl a11 s9.1.2 c12) s9.1.2, Ch.ro 0 (Sl aat_2 at_2 cat_2) at_2, Ch.bx n0 b1 0 [(I 0), (.slice none 0 0)] [] []] ∧ Md (cov []) σ27 σm] [fun _ => (pt b25 0), fun _ => (.pointer a23), fun _ => (B x16.1.isNil), fun _ => (B x16.1.isNil), fun _ => undef, fun _ => undef, fun _ => undef] () (by kernel_rfl) (by kernel_rfl) ?_ ?_ ?_
     ·intro σm m0
      exact ⟨H.grow (m0.mono fun _ h => h.elim), m0⟩
     ·refine ac rfl (by
        intro k _nm ρ σm hJ hoff hdep
        have e13 := look_off (N := 72) (hoff 13 rfl) rfl
        exact dp_v (v := (pt b25 0)) wn (rv_fieldAddr (off := 0) (ft := 72) Try.underlying104 rfl ti72 rfl e13) rfl hJ) ?_
      refine all_cons (by
        refine ⟨?_, ?_⟩
        ·intro _nm ρ σm hJ hoff hdep
         have e36 := hdep 0 rfl rfl 36 rfl
         obtain ⟨H, m⟩ := id hJ
         have hc36 := H.cell (u := (.pointer a23)) (o' := 0) 1 0 rfl rfl rfl
         exact dp_v (v := (.pointer a23)) wn (rv_load1 Try.underlying72 rfl e36 hc36) rfl hJ
        trivial) ?_
      refine ac rfl (by
        intro k _nm ρ σm hJ hoff hdep
        have e37 := hdep 1 rfl rfl 37 rfl
        exact dp_v (v := (B x16.1.isNil)) wn (rv_eqlNil Try.underlying72 (H.pr 2 rfl) e37 rfl) rfl hJ) ?_
      refine ac rfl (by
        intro k _nm ρ σm hJ hoff hdep
        have e38 := hdep 2 rfl rfl 38 rfl
        exact dp_v (v := (B x16.1.isNil)) wn (rv_move e38) rfl hJ) ?_
      refine ac rfl (by
        intro k _nm ρ σm hJ hoff hdep
        have e39 := hdep 3 rfl rfl 39 rfl
        exact dp_skip (wanted_no rfl (yv_of rfl (e39.trans (congrArg B hb37)))) rfl hJ) ?_
      refine ac rfl (by
        intro k _nm ρ σm hJ hoff hdep
        have e39 := hdep 3 rfl rfl 39 rfl
        exact dp_skip (wanted_no rfl (yv_of rfl (e39.trans (congrArg B hb37)))) rfl hJ) ?_
      refine ac rfl (by
        intro k _nm ρ σm hJ hoff hdep
        have e39 := hdep 3 rfl rfl 39 rfl
        exact dp_skip (wanted_no rfl (yv_of rfl (e39.trans (congrArg B hb37)))) rfl hJ) ?_
      exact all_nil
     ·intro _nm ρ σ38 hJ hoff hrel
      have e1 := look_off (N := 72) (hoff 1 rfl) rfl
      have e2 := look_off (N := 72) (hoff 2 rfl) rfl
      have e8 := look_off (N := 72) (hoff 8 rfl) rfl
      have e10 := look_off (N := 72) (hoff 10 rfl) rfl
      have e11 := look_off (N := 72) (hoff 11 rfl) rfl
      have e12 := look_off (N := 72) (hoff 12 rfl) rfl
      have e13 := look_off (N := 72) (hoff 13 rfl) rfl
      have e39 := hrel 3 rfl 39 rfl
      have e41 := hrel 5 rfl 41 rfl
      have e42 := hrel 6 rfl 42 rfl
      obtain ⟨H, -⟩ := (show Hp S0 σ0 σ38 [Ch.own n0 0 (Sl a30 xs28 c31) xs28, Ch.bx n0 b25 0 [(.pointer a23), (I x16.2)] [] [], Ch.pr 0 (.pointer a23) x16.1, Ch.bx n0 b3 0 [(I s9.1.1), (Sl a11 s9.1.2 c12)] [] [], Ch.own 0 0 (Sl a11 s9.1.2 c12) s9.1.2, Ch.ro 0 (Sl aat_2 at_2 cat_2) at_2, Ch.bx n0 b1 0 [(I 0), (.slice none 0 0)] [] []] ∧ Md (cov []) σ27 σ38 from hJ)
      clear hJ Hs
      rw [fr_lookL (L := [(1, (I kind_1)), (2, (Sl aat_2 at_2 cat_2)), (8, (pt b1 0)), (10, (pt b3 0)), (11, (I s9.2.1)), (12, (Sl a30 xs28 c31)), (13, (pt b25 0)), (39, (B x16.1.isNil)), (41, undef), (42, undef)]) ⟨e1, e2, e8, e10, e11, e12, e13, e39, e41, e42, trivial⟩]
      clear hoff hrel e1 e2 e8 e10 e11 e12 e13 e39 e41 e42
      refine st_skip (congrArg some hb37) ?_
      refine st (v := (B true)) (rv_pick_t (congrArg B hb37) rfl) ?_
      refine w_end ?_
      obtain rfl := Option.some.inj h
      exact ⟨rfl, _, σ38, fr_join ⟨rfl, rfl, rfl, rfl, rfl, rfl, rfl, rfl, trivial⟩, rfl, H.sel' [5, 6, 4, 3, 0, 2, 1] rfl rfl⟩
    ·replace h := bif_f hb37 h
     have hc39 := H.cell (u := (I x16.2)) (o' := 1) 1 1 rfl rfl rfl
     obtain ⟨r40, hx41, h'⟩ := bind_some h
     clear h
     have h := h'; clear h'
     have hc42 := c_impl_nearestHits_reach (lon_0 := n0) (bn_0 := b3) (on_0 := 0) (pren_0 := []) (sufn_0 := []) (an_0_1 := a11) (cn_0_1 := c12) hx41
     have Hs := H
     refine rg2 (σ := σ27) (Nm := Unit) 7 [6] [[false], [true]] [[(0, 0)], [(0, 0)], [(0, 0)], [(0, 0)], [(0, 0), (1, 1)], [(0, 0), (1, 1)], [(0, 1)]] 1 [fun _ => fun σm => Hp S0 σ0 σm [Ch.own n0 0 (Sl a30 xs28 c31) xs28, Ch.bx n0 b25 0 [(.pointer a23), (I x16.2)] [] [], Ch.pr 0 (.pointer a23) x16.1, Ch.bx n0 b3 0 [(I s9.1.1), (Sl a11 s9.1.2 c12)] [] [], Ch.own 0 0 (Sl a11 s9.1.2 c12) s9.1.2, Ch.ro 0 (Sl aat_2 at_2 cat_2) at_2, Ch.bx n0 b1 0 [(I 0), (.slice none 0 0)] [] []] ∧ Md (cov []) σ27 σm, fun _ => fun σm => Hp S0 σ0 σm [Ch.bx n0 b3 0 [(I s9.1.1), (Sl a11 s9.1.2 c12)] [] [], Ch.own 0 0 (Sl a11 s9.1.2 c12) s9.1.2, Ch.own n0 0 (Sl a30 xs28 c31) xs28, Ch.bx n0 b25 0 [(.pointer a23), (I x16.2)] [] [], Ch.pr 0 (.pointer a23) x16.1, Ch.ro 0 (Sl aat_2 at_2 cat_2) at_2, Ch.bx n0 b1 0 [(I 0), (.slice none 0 0)] [] []] ∧ Md (fun i => (cov []) i ∨ (cov [Ch.bx n0 b3 0 [(I s9.1.1), (Sl a11 s9.1.2 c12)] [] [], Ch.own 0 0 (Sl a11 s9.1.2 c12) s9.1.2]) i) σ27 σm] [fun _ => (pt b25 0), fun _ => (.pointer a23), fun _ => (B x16.1.isNil), fun _ => (B x16.1.isNil), fun _ => (pt b25 1), fun _ => (I x16.2), fun _ => (I r40)] () (by kernel_rfl) (by kernel_rfl) ?_ ?_ ?_
     ·intro σm m0
      exact ⟨H.grow (m0.mono fun _ h => h.elim), m0⟩
     ·refine ac rfl (by
        intro k _nm ρ σm hJ hoff hdep
        have e13 := look_off (N := 72) (hoff 13 rfl) rfl
        exact dp_v (v := (pt b25 0)) wn (rv_fieldAddr (off := 0) (ft := 72) Try.underlying104 rfl ti72 rfl e13) rfl hJ) ?_
      refine all_cons (by
        refine ⟨?_, ?_⟩
        ·intro _nm ρ σm hJ hoff hdep
         have e36 := hdep 0 rfl rfl 36 rfl
         obtain ⟨H, m⟩ := id hJ
         have hc36 := H.cell (u := (.pointer a23)) (o' := 0) 1 0 rfl rfl rfl
         exact dp_v (v := (.pointer a23)) wn (rv_load1 Try.underlying72 rfl e36 hc36) rfl hJ
        trivial) ?_
      refine ac rfl (by
        intro k _nm ρ σm hJ hoff hdep
        have e37 := hdep 1 rfl rfl 37 rfl
        exact dp_v (v := (B x16.1.isNil)) wn (rv_eqlNil Try.underlying72 (H.pr 2 rfl) e37 rfl) rfl hJ) ?_
      refine ac rfl (by
        intro k _nm ρ σm hJ hoff hdep
        have e38 := hdep 2 rfl rfl 38 rfl
        exact dp_v (v := (B x16.1.isNil)) wn (rv_move e38) rfl hJ) ?_
      refine ac rfl (by
        intro k _nm ρ σm hJ hoff hdep
        have e13 := look_off (N := 72) (hoff 13 rfl) rfl
        have e39 := hdep 3 rfl rfl 39 rfl
        exact dp_v (v := (pt b25 1)) (wanted_yes rfl (yv_of rfl (e39.trans (congrArg B hb37)))) (rv_fieldAddr (off := 1) (ft := 3) Try.underlying104 rfl ti3 rfl e13) rfl hJ) ?_
      refine all_cons (by
        refine ⟨?_, ?_⟩
        ·intro _nm ρ σm hJ hoff hdep
         have e40 := hdep 4 rfl rfl 40 rfl
         have e39 := hdep 3 rfl rfl 39 rfl
         obtain ⟨H, m⟩ := id hJ
         have hc39 := H.cell (u := (I x16.2)) (o' := 1) 1 1 rfl rfl rfl
         exact dp_v (v := (I x16.2)) (wanted_yes rfl (yv_of rfl (e39.trans (congrArg B hb37)))) (rv_load1 Try.underlying3 rfl e40 hc39) rfl hJ
        refine ⟨?_, ?_⟩
        ·intro _nm ρ σm hJ hoff hdep
         have e40 := hdep 4 rfl rfl 40 rfl
         have e39 := hdep 3 rfl rfl 39 rfl
         obtain ⟨H, m⟩ := id hJ
         have hc39 := H.cell (u := (I x16.2)) (o' := 1) 3 1 rfl rfl rfl
         exact dp_v (v := (I x16.2)) (wanted_yes rfl (yv_of rfl (e39.trans (congrArg B hb37)))) (rv_load1 Try.underlying3 rfl e40 hc39) rfl hJ
        trivial) ?_
      refine all_cons (by
        refine ⟨?_, ?_⟩
        ·intro _nm ρ σm hJ hoff hdep
         have e10 : look 72 ρ 10 = (pt b3 0) := look_off (hoff 10 rfl) rfl
         have e39 := hdep 3 rfl rfl 39 rfl
         obtain ⟨H, m⟩ := id hJ
         refine dp_cx (wanted_yes rfl (yv_of rfl (e39.trans (congrArg B hb37)))) (cx_call hc42 (ent_f hc42.fn (by show [look 72 ρ 10] = _; rw [e10])) hn0 (show Hp S0 σ0 _ ([Ch.bx n0 b3 0 [(I s9.1.1), (Sl a11 s9.1.2 c12)] [] [], Ch.own 0 0 (Sl a11 s9.1.2 c12) s9.1.2] ++ [Ch.own n0 0 (Sl a30 xs28 c31) xs28, Ch.bx n0 b25 0 [(.pointer a23), (I x16.2)] [] [], Ch.pr 0 (.pointer a23) x16.1, Ch.ro 0 (Sl aat_2 at_2 cat_2) at_2, Ch.bx n0 b1 0 [(I 0), (.slice none 0 0)] [] []]) from (H.sel' [3, 4, 0, 1, 2, 5, 6] rfl rfl))) ?_
         rintro _ σq ⟨_, ⟨rfl, rfl⟩, H2, m2⟩
         exact ⟨_, (), rfl, rfl, ⟨H2.sel' [0, 1, 2, 3, 4, 5, 6] rfl rfl, m.comp m2⟩, stab [0, 1, 2, 3, 4, 5] (by kernel_rfl) ⟨rfl, rfl, rfl, rfl, rfl, rfl, trivial⟩⟩
        trivial) ?_
      exact all_nil
     ·intro _nm ρ σ43 hJ hoff hrel
      have e1 := look_off (N := 72) (hoff 1 rfl) rfl
      have e2 := look_off (N := 72) (hoff 2 rfl) rfl
      have e8 := look_off (N := 72) (hoff 8 rfl) rfl
      have e10 := look_off (N := 72) (hoff 10 rfl) rfl
      have e11 := look_off (N := 72) (hoff 11 rfl) rfl
      have e12 := look_off (N := 72) (hoff 12 rfl) rfl
      have e13 := look_off (N := 72) (hoff 13 rfl) rfl
      have e39 := hrel 3 rfl 39 rfl
      have e41 := hrel 5 rfl 41 rfl
      have e42 := hrel 6 rfl 42 rfl
      obtain ⟨H, -⟩ := (show Hp S0 σ0 σ43 [Ch.bx n0 b3 0 [(I s9.1.1), (Sl a11 s9.1.2 c12)] [] [], Ch.own 0 0 (Sl a11 s9.1.2 c12) s9.1.2, Ch.own n0 0 (Sl a30 xs28 c31) xs28, Ch.bx n0 b25 0 [(.pointer a23), (I x16.2)] [] [], Ch.pr 0 (.pointer a23) x16.1, Ch.ro 0 (Sl aat_2 at_2 cat_2) at_2, Ch.bx n0 b1 0 [(I 0), (.slice none 0 0)] [] []] ∧ Md (fun i => (cov []) i ∨ (cov [Ch.bx n0 b3 0 [(I s9.1.1), (Sl a11 s9.1.2 c12)] [] [], Ch.own 0 0 (Sl a11 s9.1.2 c12) s9.1.2]) i) σ27 σ43 from hJ)
      clear hJ Hs
      rw [fr_lookL (L := [(1, (I kind_1)), (2, (Sl aat_2 at_2 cat_2)), (8, (pt b1 0)), (10, (pt b3 0)), (11, (I s9.2.1)), (12, (Sl a30 xs28 c31)), (13, (pt b25 0)), (39, (B x16.1.isNil)), (41, (I x16.2)), (42, (I r40))]) ⟨e1, e2, e8, e10, e11, e12, e13, e39, e41, e42, trivial⟩]
      clear hoff hrel e1 e2 e8 e10 e11 e12 e13 e39 e41 e42
      refine st_g (v := (B (decide (r40 < x16.2)))) (congrArg some hb37) (rv_gtr (a := x16.2) (b := r40) rfl rfl) ?_
      refine st (v := (B (decide (r40 < x16.2)))) (rv_pick_f (congrArg B hb37) rfl) ?_
      refine w_end ?_
      obtain rfl := Option.some.inj h
      exact ⟨rfl, _, σ43, fr_join ⟨rfl, rfl, rfl, rfl, rfl, rfl, rfl, rfl, trivial⟩, rfl, H.sel' [5, 6, 1, 0, 2, 4, 3] rfl rfl⟩
   ·clear hj
    have h := h'
    clear h' H
    rintro e a w ⟨rfl, ρ, σ44, rfl, rfl, H⟩
    refine q_then ?_
    refine cd_cond o35 rfl (fun hb45 => ?_) (fun hb45 => ?_)
    ·replace h := bif_t hb45 h
     refine c_exit ?_
     refine q_then_x ?_
     refine q_blk_hit ?_
     refine q_then ?_
     obtain rfl := Option.some.inj h
     exact ⟨_, rfl, _, σ44, a11, c12, a30, c31, fr_join ⟨rfl, rfl, rfl, rfl, rfl, rfl, trivial⟩, rfl, H.sel' [3, 2, 0, 1, 4] rfl rfl⟩
    ·replace h := bif_f hb45 h
     refine c_skip ?_
     refine q_then ?_
     refine c_seq ?_
     refine rg ?_
     refine st (v := (I s9.2.1)) (rv_move rfl) ?_
     refine st (v := (I (w64 (s9.2.1 + 1)))) (rv_add (a := s9.2.1) (b := 1) rfl rfl) ?_
     refine st (v := (I (w64 (s9.2.1 + 1)))) (rv_assign rfl) ?_
     refine w_end ?_
     refine q_then ?_
     refine c_seq ?_
     refine rg ?_
     refine st (v := (pt b25 0)) (rv_fieldAddr (off := 0) (ft := 72) Try.underlying104 rfl ti72 rfl rfl) ?_
     have hc46 := H.cell (u := (.pointer a23)) (o' := 0) 6 0 rfl rfl rfl
     refine st (v := (.pointer a23)) (rv_load1 Try.underlying72 rfl rfl hc46) ?_
     obtain ⟨x47, hx48, h'⟩ := bind_some h
     clear h
     have h := h'; clear h'
     obtain ⟨b50, o51, hi49⟩ := (H.pr 5 rfl).ex hx48
     refine st (v := (pt b50 o51)) (rv_nilCheckT hi49 rfl) ?_
     refine st (v := (pt b50 (o51 + 0))) (rv_fieldAddr (off := 0) (ft := 63) Try.underlying101 rfl ti63 rfl rfl) ?_
     obtain ⟨_, ⟨_, _, rfl, rfl, ⟨_, _, rfl, ⟨_, rfl, hR56⟩, rfl⟩⟩, hl52, hc53⟩ := ((H.pr 5 rfl).at hx48 hi49).fst.cells
     obtain ⟨a54, c55, rfl⟩ := hR56.isSl
     replace H := H.add (d := Ch.ro 0 (Sl a54 x47.1.2.1 c55) x47.1.2.1) hR56 (fun _ h => h)
     clear hR56
     refine st (v := (.agg #[(I x47.1.1), (Sl a54 x47.1.2.1 c55), (I x47.1.2.2)])) (rv_load Try.underlying63 rfl ti63 rfl hl52 hc53) ?_
     refine st (v := (I kind_1)) (rv_move rfl) ?_
     refine st (v := (Sl aat_2 at_2 cat_2)) (rv_move rfl) ?_
     obtain ⟨r57, hx58, h'⟩ := bind_some h
     clear h
     have h := h'; clear h'
     have hc59 := c_impl_hitOf (ax_0_1 := a54) (cx_0_1 := c55) (aat_2 := aat_2) (cat_2 := cat_2) hx58
     refine st_call (cx_call hc59 (ent_f hc59.fn rfl) hn0 (show Hp S0 σ0 _ ([Ch.ro 0 (Sl a54 x47.1.2.1 c55) x47.1.2.1, Ch.ro 0 (Sl aat_2 at_2 cat_2) at_2] ++ [Ch.ro 0 (Sl a54 x47.1.2.1 c55) x47.1.2.1, Ch.ro 0 (Sl aat_2 at_2 cat_2) at_2, Ch.bx n0 b1 0 [(I 0), (.slice none 0 0)] [] [], Ch.own 0 0 (Sl a11 s9.1.2 c12) s9.1.2, Ch.bx n0 b3 0 [(I s9.1.1), (Sl a11 s9.1.2 c12)] [] [], Ch.own n0 0 (Sl a30 xs28 c31) xs28, Ch.pr 0 (.pointer a23) x16.1, Ch.bx n0 b25 0 [(.pointer a23), (I x16.2)] [] []]) from (H.sel' [0, 1, 0, 1, 2, 3, 4, 5, 6, 7] rfl rfl))) wn ?_
     rintro _ σ60 ⟨_, ⟨rfl, rfl⟩, H, -⟩
     replace H : Hp S0 σ0 σ60 [Ch.ro 0 (Sl a54 x47.1.2.1 c55) x47.1.2.1, Ch.ro 0 (Sl aat_2 at_2 cat_2) at_2, Ch.bx n0 b1 0 [(I 0), (.slice none 0 0)] [] [], Ch.own 0 0 (Sl a11 s9.1.2 c12) s9.1.2, Ch.bx n0 b3 0 [(I s9.1.1), (Sl a11 s9.1.2 c12)] [] [], Ch.own n0 0 (Sl a30 xs28 c31) xs28, Ch.pr 0 (.pointer a23) x16.1, Ch.bx n0 b25 0 [(.pointer a23), (I x16.2)] [] []] := H
     replace H : Hp S0 σ0 σ60 [Ch.ro 0 (Sl aat_2 at_2 cat_2) at_2, Ch.bx n0 b1 0 [(I 0), (.slice none 0 0)] [] [], Ch.own 0 0 (Sl a11 s9.1.2 c12) s9.1.2, Ch.bx n0 b3 0 [(I s9.1.1), (Sl a11 s9.1.2 c12)] [] [], Ch.own n0 0 (Sl a30 xs28 c31) xs28, Ch.pr 0 (.pointer a23) x16.1, Ch.bx n0 b25 0 [(.pointer a23), (I x16.2)] [] []] := H.sel' [1, 2, 3, 4, 5, 6, 7] rfl rfl
     refine st_ex (ex_alloc (cs := [(I 0), (I 0)]) H hn0 ti62 rfl) wn ?_
     rintro _ σ62 ⟨b61, rfl, H, -⟩
     refine st_exS (ex_store_box (k := 0) (cs := [(I 0), (I 0)]) (vs := [(I r57.1), (I r57.2)]) (cs' := [(I r57.1), (I r57.2)]) H (i := 0) rfl ti62 rfl rfl rfl rfl rfl (Nat.le_of_ble_eq_true rfl) (by simp [plain]) rfl) wn ?_
     rintro σ63 ⟨H, -⟩
     refine w_end ?_
     refine q_then ?_
     refine c_seq ?_
     refine rg ?_
     have hc64 := H.cells 0 rfl
     refine st (v := (.agg #[(I r57.1), (I r57.2)])) (rv_load (cs := [(I r57.1), (I r57.2)]) Try.underlying62 rfl ti62 rfl rfl hc64) ?_
     obtain ⟨r65, hx66, h'⟩ := bind_some h
     clear h
     have h := h'; clear h'
     have hc67 := c_impl_nearestHits_offer (lon_0 := n0) (bn_0 := b3) (on_0 := 0) (pren_0 := []) (sufn_0 := []) (an_0_1 := a11) (cn_0_1 := c12) hx66
     refine st_call (cx_call hc67 (ent_f hc67.fn rfl) hn0 (show Hp S0 σ0 _ ([Ch.bx n0 b3 0 [(I s9.1.1), (Sl a11 s9.1.2 c12)] [] [], Ch.own 0 0 (Sl a11 s9.1.2 c12) s9.1.2] ++ [Ch.bx n0 b61 0 [(I r57.1), (I r57.2)] [] [], Ch.ro 0 (Sl aat_2 at_2 cat_2) at_2, Ch.bx n0 b1 0 [(I 0), (.slice none 0 0)] [] [], Ch.own n0 0 (Sl a30 xs28 c31) xs28, Ch.pr 0 (.pointer a23) x16.1, Ch.bx n0 b25 0 [(.pointer a23), (I x16.2)] [] []]) from (H.sel' [4, 3, 0, 1, 2, 5, 6, 7] rfl rfl))) wn ?_
     rintro _ σ70 ⟨_, ⟨a68, c69, rfl, rfl⟩, H, -⟩
     replace H : Hp S0 σ0 σ70 [Ch.bx n0 b3 0 [(I r65.1), (Sl a68 r65.2 c69)] [] [], Ch.own 0 0 (Sl a68 r65.2 c69) r65.2, Ch.bx n0 b61 0 [(I r57.1), (I r57.2)] [] [], Ch.ro 0 (Sl aat_2 at_2 cat_2) at_2, Ch.bx n0 b1 0 [(I 0), (.slice none 0 0)] [] [], Ch.own n0 0 (Sl a30 xs28 c31) xs28, Ch.pr 0 (.pointer a23) x16.1, Ch.bx n0 b25 0 [(.pointer a23), (I x16.2)] [] []] := H
     refine w_end ?_
     refine q_then ?_
     refine c_seq ?_
     refine rg ?_
     refine st (v := (pt b25 0)) (rv_fieldAddr (off := 0) (ft := 72) Try.underlying104 rfl ti72 rfl rfl) ?_
     have hc71 := H.cell (u := (.pointer a23)) (o' := 0) 7 0 rfl rfl rfl
     refine st (v := (.pointer a23)) (rv_load1 Try.underlying72 rfl rfl hc71) ?_
     refine st (v := (pt b61 1)) (rv_fieldAddr (off := 1) (ft := 3) Try.underlying62 rfl ti3 rfl rfl) ?_
     have hc72 := H.cell (u := (I r57.2)) (o' := 1) 2 1 rfl rfl rfl
     refine st (v := (I r57.2)) (rv_load1 Try.underlying3 rfl rfl hc72) ?_
     obtain ⟨r73, hx74, h'⟩ := bind_some h
     clear h
     have h := h'; clear h'
     have hc75 := c_impl_branch_turns (ab_0 := a23) hx74
     refine st_call (cx_call hc75 (ent_f hc75.fn rfl) hn0 (show Hp S0 σ0 _ ([Ch.pr 0 (.pointer a23) x16.1] ++ [Ch.bx n0 b3 0 [(I r65.1), (Sl a68 r65.2 c69)] [] [], Ch.own 0 0 (Sl a68 r65.2 c69) r65.2, Ch.bx n0 b61 0 [(I r57.1), (I r57.2)] [] [], Ch.ro 0 (Sl aat_2 at_2 cat_2) at_2, Ch.bx n0 b1 0 [(I 0), (.slice none 0 0)] [] [], Ch.own n0 0 (Sl a30 xs28 c31) xs28, Ch.pr 0 (.pointer a23) x16.1, Ch.bx n0 b25 0 [(.pointer a23), (I x16.2)] [] []]) from (H.sel' [6, 0, 1, 2, 3, 4, 5, 6, 7] rfl rfl))) wn ?_
     rintro _ σ78 ⟨_, ⟨a76, a77, rfl, rfl⟩, H, -⟩
     replace H : Hp S0 σ0 σ78 [Ch.pr 0 (.pointer a76) r73.1.1, Ch.pr 0 (.pointer a77) r73.2.1, Ch.bx n0 b3 0 [(I r65.1), (Sl a68 r65.2 c69)] [] [], Ch.own 0 0 (Sl a68 r65.2 c69) r65.2, Ch.bx n0 b61 0 [(I r57.1), (I r57.2)] [] [], Ch.ro 0 (Sl aat_2 at_2 cat_2) at_2, Ch.bx n0 b1 0 [(I 0), (.slice none 0 0)] [] [], Ch.own n0 0 (Sl a30 xs28 c31) xs28, Ch.pr 0 (.pointer a23) x16.1, Ch.bx n0 b25 0 [(.pointer a23), (I x16.2)] [] []] := H
     replace H : Hp S0 σ0 σ78 [Ch.pr 0 (.pointer a76) r73.1.1, Ch.pr 0 (.pointer a77) r73.2.1, Ch.bx n0 b3 0 [(I r65.1), (Sl a68 r65.2 c69)] [] [], Ch.own 0 0 (Sl a68 r65.2 c69) r65.2, Ch.ro 0 (Sl aat_2 at_2 cat_2) at_2, Ch.bx n0 b1 0 [(I 0), (.slice none 0 0)] [] [], Ch.own n0 0 (Sl a30 xs28 c31) xs28] := H.sel' [0, 1, 2, 3, 5, 6, 7] rfl rfl
     refine st (v := (.tuple #[(.agg #[(.pointer a76), (I r73.1.2)]), (.agg #[(.pointer a77), (I r73.2.2)])])) (rv_move rfl) ?_
     refine st (v := (.agg #[(.pointer a76), (I r73.1.2)])) (rv_extract rfl rfl) ?_
     refine st (v := (.agg #[(.pointer a77), (I r73.2.2)])) (rv_extract rfl rfl) ?_
     refine st_ex (ex_alloc (cs := [(.pointer none), (I 0)]) H hn0 ti104 rfl) wn ?_
     rintro _ σ80 ⟨b79, rfl, H, -⟩
     refine st_ex (ex_alloc (cs := [(.pointer none), (I 0)]) H hn0 ti104 rfl) wn ?_
     rintro _ σ82 ⟨b81, rfl, H, -⟩
     refine st_exS (ex_store_box (k := 0) (cs := [(.pointer none), (I 0)]) (vs := [(.pointer a76), (I r73.1.2)]) (cs' := [(.pointer a76), (I r73.1.2)]) H (i := 1) rfl ti104 rfl rfl rfl rfl rfl (Nat.le_of_ble_eq_true rfl) (by simp [plain]) rfl) wn ?_
     rintro σ83 ⟨H, -⟩
     refine st_exS (ex_store_box (k := 0) (cs := [(.pointer none), (I 0)]) (vs := [(.pointer a77), (I r73.2.2)]) (cs' := [(.pointer a77), (I r73.2.2)]) H (i := 1) rfl ti104 rfl rfl rfl rfl rfl (Nat.le_of_ble_eq_true rfl) (by simp [plain]) rfl) wn ?_
     rintro σ84 ⟨H, -⟩
     refine w_end ?_
     refine q_then ?_
     refine rg ?_
     refine st (v := (Sl a30 xs28 c31)) (rv_move rfl) ?_
     have hc85 := H.cells 0 rfl
     refine st (v := (.agg #[(.pointer a77), (I r73.2.2)])) (rv_load (cs := [(.pointer a77), (I r73.2.2)]) Try.underlying104 rfl ti104 rfl rfl hc85) ?_
     have hc86 := H.cells 1 rfl
     refine st (v := (.agg #[(.pointer a76), (I r73.1.2)])) (rv_load (cs := [(.pointer a76), (I r73.1.2)]) Try.underlying104 rfl ti104 rfl rfl hc86) ?_
     refine st_ex (ex_buildSlice (el := 0) (xs := ([(r73.2.1, r73.2.2), (r73.1.1, r73.1.2)] : List ((Tr (Int × (List Int) × Int)) × Int))) (ps := [(0, (.agg #[(.pointer a77), (I r73.2.2)])), (1, (.agg #[(.pointer a76), (I r73.1.2)]))]) (cs := [(.pointer a77), (I r73.2.2), (.pointer a76), (I r73.1.2)]) H hn0 Try.underlying105 ti104 rfl rfl (by kernel_rfl) (.cons (c := [(.pointer a77), (I r73.2.2)]) ⟨[(.pointer a77)], [(I r73.2.2)], rfl, ⟨_, rfl, (H.pr 3 rfl)⟩, rfl⟩ (.cons (c := [(.pointer a76), (I r73.1.2)]) ⟨[(.pointer a76)], [(I r73.1.2)], rfl, ⟨_, rfl, (H.pr 2 rfl)⟩, rfl⟩ (.nil))) rfl) wn ?_
     rintro _ σ88 ⟨b87, rfl, H, -⟩
     replace H : Hp S0 σ0 σ88 [Ch.own n0 0 (Sl (some ⟨b87, 0, none⟩) ([(r73.2.1, r73.2.2), (r73.1.1, r73.1.2)] : List ((Tr (Int × (List Int) × Int)) × Int)) 2) ([(r73.2.1, r73.2.2), (r73.1.1, r73.1.2)] : List ((Tr (Int × (List Int) × Int)) × Int)), Ch.bx n0 b3 0 [(I r65.1), (Sl a68 r65.2 c69)] [] [], Ch.own 0 0 (Sl a68 r65.2 c69) r65.2, Ch.ro 0 (Sl aat_2 at_2 cat_2) at_2, Ch.bx n0 b1 0 [(I 0), (.slice none 0 0)] [] [], Ch.own n0 0 (Sl a30 xs28 c31) xs28] := H.sel' [0, 5, 6, 7, 8, 9] rfl rfl
     obtain ⟨xs89, hx90, h'⟩ := bind_some h
     clear h
     have h := h'; clear h'
     refine st_ex (ex_append H (i := 5) rfl Try.underlying105 Try.underlying105 ti104 rfl rfl (by decide) (H.own 0 rfl).rd hx90 hn0 rfl rfl) wn ?_
     rintro _ σ93 ⟨a91, c92, rfl, H, -⟩
     refine st (v := (Sl a91 xs89 c92)) (rv_assign rfl) ?_
     refine w_end ?_
     refine q_blk ?_
     refine q_then ?_
     obtain rfl := Option.some.inj h
     exact ⟨_, rfl, _, σ93, a68, c69, a91, c92, fr_join ⟨rfl, rfl, rfl, rfl, rfl, rfl, trivial⟩, rfl, H.sel' [2, 3, 4, 5, 0] rfl rfl⟩
  ·replace h := bif_f hb15 h
   refine c_exit ?_
   refine q_then_x ?_
   refine q_then_x ?_
   refine q_blk_hit ?_
   obtain rfl := Option.some.inj h
   obtain rfl := hres _ rfl
   exact ⟨rfl, _, σ10, a11, c12, fr_join ⟨rfl, rfl, rfl, trivial⟩, rfl, H.sel' [0, 1, 3] rfl rfl⟩
 ·clear hj
  have h := h'
  clear h' H
  rintro e a w ⟨rfl, ρ, σ94, a95, c96, rfl, rfl, H⟩
  refine q_then ?_
  refine c_seq ?_
  refine rg ?_
  have hc97 := H.cells 0 rfl
  refine st (v := (.agg #[(I o8.1.1), (Sl a95 o8.1.2 c96)])) (rv_load (cs := [(I o8.1.1), (Sl a95 o8.1.2 c96)]) Try.underlying88 rfl ti88 rfl rfl hc97) ?_
  refine st (v := (I o8.2)) (rv_move rfl) ?_
  refine st_exS (ex_store_box (k := 0) (cs := [(I 0), (.slice none 0 0)]) (vs := [(I o8.1.1), (Sl a95 o8.1.2 c96)]) (cs' := [(I o8.1.1), (Sl a95 o8.1.2 c96)]) H (i := 2) rfl ti88 rfl rfl rfl rfl rfl (Nat.le_of_ble_eq_true rfl) (by simp [plain]) rfl) wn ?_
  rintro σ98 ⟨H, -⟩
  refine st (v := (I o8.2)) (rv_assign rfl) ?_
  refine w_end ?_
  refine q_then ?_
  refine c_ret ?_
  replace H := H.ownSc 2 0 n0 rfl (Nat.le_refl _)
  obtain rfl := Option.some.inj h
  exact fin_ret (v := (.tuple #[(.agg #[(I o8.1.1), (Sl a95 o8.1.2 c96)]), (I o8.2)])) (results_ok Try.results67 (res_cell rfl (run_cellRes (cs := [(I o8.1.1), (Sl a95 o8.1.2 c96)]) Try.underlying88 rfl ti88 rfl (H.cells 1 rfl)) (res_tmp (v := (I o8.2)) rfl res_nil)) rfl) ⟨a95, c96, rfl, rfl⟩ (H.sel' [0] rfl rfl)

theorem c_impl_TreeVisits {list_0 : List (Int × (List Int) × Int)} {kind_1 : Int} {at_2 : List Int} {k_3 : Int} {alist_0 : Option Addr} {clist_0 : Nat} {aat_2 : Option Addr} {cat_2 : Nat} {r : Int} (h : M.impl_TreeVisits list_0 kind_1 at_2 k_3 = some r) :
    Cal2 Try.prog 32 [(Sl alist_0 list_0 clist_0), (I kind_1), (Sl aat_2 at_2 cat_2), (I k_3)] [Ch.ro 0 (Sl alist_0 list_0 clist_0) list_0, Ch.ro 0 (Sl aat_2 at_2 cat_2) at_2] (fun n0 v L => v = (I r) ∧ L = []) := by
 refine cal2 (n := 33) Try.func32 rfl rfl rfl rfl ?_
 intro S0 σ0 n0 hn0 H
 unfold M.impl_TreeVisits at h
 refine c_seq ?_
 refine rg ?_
 refine st (v := (I 0)) (rv_assign rfl) ?_
 refine w_end ?_
 refine q_then ?_
 refine c_seq ?_
 refine c_seq ?_
 obtain ⟨o1, hj, h'⟩ := bind_some h
 clear h
 refine c_cut (fun e a w => e = .normal ∧ ∃ (ρ : Nat → Value) (σ : St), a = fr 33 (updL ρ [(0, (Sl alist_0 list_0 clist_0)), (1, (I kind_1)), (2, (Sl aat_2 at_2 cat_2)), (3, (I k_3)), (21, (B o1))]) ∧ w = σ.w ∧ Hp S0 σ0 σ [Ch.ro 0 (Sl alist_0 list_0 clist_0) list_0, Ch.ro 0 (Sl aat_2 at_2 cat_2) at_2]) ?_ ?_
 ·clear h'
  rename _ = some o1 => h
  refine rg ?_
  refine st (v := (I kind_1)) (rv_move rfl) ?_
  obtain ⟨r2, hx3, h'⟩ := bind_some h
  clear h
  have h := h'; clear h'
  have hc4 := c_impl_validTreeKind hx3
  refine st_call (cx_call hc4 (ent_f hc4.fn rfl) hn0 (show Hp S0 σ0 _ ([] ++ [Ch.ro 0 (Sl alist_0 list_0 clist_0) list_0, Ch.ro 0 (Sl aat_2 at_2 cat_2) at_2]) from (H.sel' [0, 1] rfl rfl))) wn ?_
  rintro _ σ5 ⟨_, ⟨rfl, rfl⟩, H, -⟩
  replace H : Hp S0 σ0 σ5 [Ch.ro 0 (Sl alist_0 list_0 clist_0) list_0, Ch.ro 0 (Sl aat_2 at_2 cat_2) at_2] := H
  refine st (v := (B (!r2))) (rv_not rfl) ?_
  refine st (v := (B (!r2))) (rv_move rfl) ?_
  rcases Bool.eq_false_or_eq_true (!r2) with hb6 | hb6
  ·replace h := bif_t hb6 h
   refine st_skip (congrArg some hb6) ?_
   refine st_skip (congrArg some hb6) ?_
   refine st_skip (congrArg some hb6) ?_
   refine st_skip (congrArg some hb6) ?_
   refine st_skip (congrArg some hb6) ?_
   refine st_skip (congrArg some hb6) ?_
   refine st (v := (B true)) (rv_pick_t (congrArg B hb6) rfl) ?_
   refine w_end ?_
   obtain rfl := Option.some.inj h
   exact ⟨rfl, _, σ5, fr_join ⟨rfl, rfl, rfl, rfl, rfl, trivial⟩, rfl, H.sel' [0, 1] rfl rfl⟩
  ·replace h := bif_f hb6 h
   refine st_g (v := (Sl alist_0 list_0 clist_0)) (congrArg some hb6) (rv_move rfl) ?_
   refine st_g (v := (I kind_1)) (congrArg some hb6) (rv_move rfl) ?_
   refine st_g (v := (Sl aat_2 at_2 cat_2)) (congrArg some hb6) (rv_move rfl) ?_
   refine st_g (v := (I k_3)) (congrArg some hb6) (rv_move rfl) ?_
   obtain ⟨r7, hx8, h'⟩ := bind_some h
   clear h
   have h := h'; clear h'
   have hc9 := c_impl_validSearch (alist_0 := alist_0) (clist_0 := clist_0) (aat_2 := aat_2) (cat_2 := cat_2) hx8
   refine st_call (cx_call hc9 (ent_f hc9.fn rfl) hn0 (show Hp S0 σ0 _ ([Ch.ro 0 (Sl alist_0 list_0 clist_0) list_0, Ch.ro 0 (Sl aat_2 at_2 cat_2) at_2] ++ [Ch.ro 0 (Sl alist_0 list_0 clist_0) list_0, Ch.ro 0 (Sl aat_2 at_2 cat_2) at_2]) from (H.sel' [0, 1, 0, 1] rfl rfl))) (wanted_yes rfl (by exact (congrArg some hb6))) ?_
   rintro _ σ10 ⟨_, ⟨rfl, rfl⟩, H, -⟩
   replace H : Hp S0 σ0 σ10 [Ch.ro 0 (Sl alist_0 list_0 clist_0) list_0, Ch.ro 0 (Sl aat_2 at_2 cat_2) at_2] := H
   refine st_g (v := (B (!r7))) (congrArg some hb6) (rv_not rfl) ?_
   refine st (v := (B (!r7))) (rv_pick_f (congrArg B hb6) rfl) ?_
   refine w_end ?_
   obtain rfl := Option.some.inj h
   exact ⟨rfl, _, σ10, fr_join ⟨rfl, rfl, rfl, rfl, rfl, trivial⟩, rfl, H.sel' [0, 1] rfl rfl⟩
 ·clear hj
  have h := h'
  clear h' H
  rintro e a w ⟨rfl, ρ, σ11, rfl, rfl, H⟩
  refine q_then ?_
  refine cd_cond o1 rfl (fun hb12 => ?_) (fun hb12 => ?_)
  ·replace h := bif_t hb12 h
   refine c_seq ?_
   refine rg ?_
   refine st (v := (I (-1))) (rv_assign rfl) ?_
   refine w_end ?_
   refine q_then ?_
   refine c_ret ?_
   refine q_then_r ?_
   obtain rfl := Option.some.inj h
   exact fin_ret (v := (I (-1))) (results_ok Try.results32 (res_tmp (v := (I (-1))) rfl res_nil) rfl) ⟨rfl, rfl⟩ (H.sel' [] rfl rfl)
  ·replace h := bif_f hb12 h
   refine c_skip ?_
   refine q_then ?_
   refine c_seq ?_
   refine rg ?_
   refine st (v := (Sl alist_0 list_0 clist_0)) (rv_move rfl) ?_
   refine st (v := (I kind_1)) (rv_move rfl) ?_
   obtain ⟨r13, hx14, h'⟩ := bind_some h
   clear h
   have h := h'; clear h'
   have hc15 := c_impl_growTree 100 (alist_0 := alist_0) (clist_0 := clist_0) hx14
   refine st_call (cx_call hc15 (ent_f hc15.fn rfl) hn0 (show Hp S0 σ0 _ ([Ch.ro 0 (Sl alist_0 list_0 clist_0) list_0] ++ [Ch.ro 0 (Sl alist_0 list_0 clist_0) list_0, Ch.ro 0 (Sl aat_2 at_2 cat_2) at_2]) from (H.sel' [0, 0, 1] rfl rfl))) wn ?_
   rintro _ σ17 ⟨_, ⟨a16, rfl, rfl⟩, H, -⟩
   replace H : Hp S0 σ0 σ17 [Ch.pr 0 (.pointer a16) r13, Ch.ro 0 (Sl alist_0 list_0 clist_0) list_0, Ch.ro 0 (Sl aat_2 at_2 cat_2) at_2] := H
   refine st (v := (I kind_1)) (rv_move rfl) ?_
   refine st (v := (Sl aat_2 at_2 cat_2)) (rv_move rfl) ?_
   refine st (v := (I k_3)) (rv_move rfl) ?_
   obtain ⟨r18, hx19, h'⟩ := bind_some h
   clear h
   have h := h'; clear h'
   have hc20 := c_impl_searchTree (atop_0 := a16) (aat_2 := aat_2) (cat_2 := cat_2) hx19
   refine st_call (cx_call hc20 (ent_f hc20.fn rfl) hn0 (show Hp S0 σ0 _ ([Ch.pr 0 (.pointer a16) r13, Ch.ro 0 (Sl aat_2 at_2 cat_2) at_2] ++ [Ch.pr 0 (.pointer a16) r13, Ch.ro 0 (Sl alist_0 list_0 clist_0) list_0, Ch.ro 0 (Sl aat_2 at_2 cat_2) at_2]) from (H.sel' [0, 2, 0, 1, 2] rfl rfl))) wn ?_
   rintro _ σ23 ⟨_, ⟨a21, c22, rfl, rfl⟩, H, -⟩
   replace H : Hp S0 σ0 σ23 [Ch.own 0 n0 (Sl a21 r18.1.2 c22) r18.1.2, Ch.pr 0 (.pointer a16) r13, Ch.ro 0 (Sl alist_0 list_0 clist_0) list_0, Ch.ro 0 (Sl aat_2 at_2 cat_2) at_2] := H
   refine st (v := (.tuple #[(.agg #[(I r18.1.1), (Sl a21 r18.1.2 c22)]), (I r18.2)])) (rv_move rfl) ?_
   refine st (v := (.agg #[(I r18.1.1), (Sl a21 r18.1.2 c22)])) (rv_extract rfl rfl) ?_
   refine st (v := (I r18.2)) (rv_extract rfl rfl) ?_
   refine st_ex (ex_alloc (cs := [(I 0), (.slice none 0 0)]) H hn0 ti88 rfl) wn ?_
   rintro _ σ25 ⟨b24, rfl, H, -⟩
   refine st_exS (ex_store_box (k := 0) (cs := [(I 0), (.slice none 0 0)]) (vs := [(I r18.1.1), (Sl a21 r18.1.2 c22)]) (cs' := [(I r18.1.1), (Sl a21 r18.1.2 c22)]) H (i := 0) rfl ti88 rfl rfl rfl rfl rfl (Nat.le_of_ble_eq_true rfl) (by simp [plain]) rfl) wn ?_
   rintro σ26 ⟨H, -⟩
   refine st (v := (I r18.2)) (rv_assign rfl) ?_
   refine w_end ?_
   refine q_then ?_
   refine c_seq ?_
   refine rg ?_
   refine st (v := (I r18.2)) (rv_move rfl) ?_
   refine st (v := (I r18.2)) (rv_assign rfl) ?_
   refine w_end ?_
   refine q_then ?_
   refine c_ret ?_
   obtain rfl := Option.some.inj h
   exact fin_ret (v := (I r18.2)) (results_ok Try.results32 (res_tmp (v := (I r18.2)) rfl res_nil) rfl) ⟨rfl, rfl⟩ (H.sel' [] rfl rfl)

end Go.Vs
