/- The functions compute what their models say. -/
import Derived.Test.YtbnhppnkdmnneaaKExactInBoxC1
set_option linter.unusedVariables false
set_option linter.unusedSimpArgs false
set_option maxRecDepth 20000
namespace Go.Vs
open Go Go.Proofs
attribute [local irreducible] Code.wp Code.wpIn wpList wpListIn wpQuiet Calls CallsIn

theorem c_impl_insideBox {at_0 : List Int} {low_1 : List Int} {high_2 : List Int} {aat_0 : Option Addr} {cat_0 : Nat} {alow_1 : Option Addr} {clow_1 : Nat} {ahigh_2 : Option Addr} {chigh_2 : Nat} {r : Bool} (h : M.impl_insideBox at_0 low_1 high_2 = some r) :
    Cal2 Try.prog 61 [(Sl aat_0 at_0 cat_0), (Sl alow_1 low_1 clow_1), (Sl ahigh_2 high_2 chigh_2)] [Ch.ro 0 (Sl aat_0 at_0 cat_0) at_0, Ch.ro 0 (Sl alow_1 low_1 clow_1) low_1, Ch.ro 0 (Sl ahigh_2 high_2 chigh_2) high_2] (fun n0 v L => v = (B r) ∧ L = []) := by
 refine cal2 (n := 31) Try.func61 rfl rfl rfl rfl ?_
 intro S0 σ0 n0 hn0 H
 unfold M.impl_insideBox at h
 refine c_seq ?_
 refine rg ?_
 refine st (v := (B false)) (rv_assign rfl) ?_
 refine w_end ?_
 refine q_then ?_
 refine c_seq ?_
 refine c_seq ?_
 refine rg ?_
 refine st (v := (Sl aat_0 at_0 cat_0)) (rv_move rfl) ?_
 refine st (v := (I (at_0.length : Int))) (rv_len Try.underlying24 rfl) ?_
 refine st (v := (I 0)) (rv_move rfl) ?_
 refine w_end ?_
 refine q_then ?_
 obtain ⟨o1, hj, h'⟩ := bind_some h
 clear h
 refine c_cut (fun e a w => (∃ t, o1 = (.inl t) ∧ e = .normal ∧ ∃ (ρ : Nat → Value) (σ : St), a = fr 31 (updL ρ []) ∧ w = σ.w ∧ Hp S0 σ0 σ []) ∨ (∃ t, o1 = (.inr t) ∧ e = .ret ∧ ∃ (ρ : Nat → Value) (σ : St), a = fr 31 (updL ρ [(6, (B t))]) ∧ w = σ.w ∧ Hp S0 σ0 σ [])) ?_ ?_
 ·clear h'
  rename _ = some o1 => h
  refine c_blk ?_
  refine wp_loopM _ h (fun s2 a w => ∃ (ρ : Nat → Value) (σ : St), a = fr 31 (updL ρ [(1, (Sl alow_1 low_1 clow_1)), (2, (Sl ahigh_2 high_2 chigh_2)), (9, (Sl aat_0 at_0 cat_0)), (10, (I (at_0.length : Int))), (11, (I s2))]) ∧ w = σ.w ∧ Hp S0 σ0 σ [Ch.ro 0 (Sl alow_1 low_1 clow_1) low_1, Ch.ro 0 (Sl ahigh_2 high_2 chigh_2) high_2, Ch.ro 0 (Sl aat_0 at_0 cat_0) at_0]) ⟨_, σ0, fr_join ⟨rfl, rfl, rfl, rfl, rfl, trivial⟩, rfl, H.sel' [1, 2, 0] rfl rfl⟩ ?_
  clear h H
  rintro s2 a w o ⟨ρ, σ3, rfl, rfl, H⟩ h hres
  refine c_seq ?_
  refine rg ?_
  refine st (v := (B (decide (s2 < (at_0.length : Int))))) (rv_lss (a := s2) (b := (at_0.length : Int)) rfl rfl) ?_
  refine w_end ?_
  refine q_then ?_
  refine c_seq ?_
  refine cd_cond (decide (s2 < (at_0.length : Int))) rfl (fun hb4 => ?_) (fun hb4 => ?_)
  ·replace h := bif_t hb4 h
   refine c_skip ?_
   refine q_then ?_
   refine c_seq ?_
   refine c_blk ?_
   refine c_seq ?_
   refine rg ?_
   refine st (v := (I s2)) (rv_move rfl) ?_
   obtain ⟨x5, hx6, h'⟩ := bind_some h
   clear h
   have h := h'; clear h'
   obtain ⟨b8, o9, hi7, -⟩ := (H.ro 2 rfl).ix hx6
   refine st (v := (pt b8 o9)) (rv_ix Try.underlying24 ti3 rfl rfl hi7) ?_
   have hc10 := ((H.ro 2 rfl).at hx6 hi7).int
   refine st (v := (I x5)) (rv_load1 Try.underlying3 rfl rfl hc10) ?_
   refine st (v := (I s2)) (rv_assign rfl) ?_
   refine st (v := (I x5)) (rv_assign rfl) ?_
   refine w_end ?_
   refine q_then ?_
   refine c_seq ?_
   obtain ⟨o11, hj, h'⟩ := bind_some h
   clear h
   refine c_cut (fun e a w => e = .normal ∧ ∃ (ρ : Nat → Value) (σ : St), a = fr 31 (updL ρ [(1, (Sl alow_1 low_1 clow_1)), (2, (Sl ahigh_2 high_2 chigh_2)), (9, (Sl aat_0 at_0 cat_0)), (10, (I (at_0.length : Int))), (11, (I s2)), (29, (B o11))]) ∧ w = σ.w ∧ Hp S0 σ0 σ [Ch.ro 0 (Sl alow_1 low_1 clow_1) low_1, Ch.ro 0 (Sl ahigh_2 high_2 chigh_2) high_2, Ch.ro 0 (Sl aat_0 at_0 cat_0) at_0]) ?_ ?_
   ·clear h'
    rename _ = some o11 => h
    refine rg ?_
    refine st (v := (I x5)) (rv_move rfl) ?_
    refine st (v := (Sl alow_1 low_1 clow_1)) (rv_move rfl) ?_
    refine st (v := (I s2)) (rv_move rfl) ?_
    obtain ⟨x12, hx13, h'⟩ := bind_some h
    clear h
    have h := h'; clear h'
    obtain ⟨b15, o16, hi14, -⟩ := (H.ro 0 rfl).ix hx13
    refine st (v := (pt b15 o16)) (rv_ix Try.underlying24 ti3 rfl rfl hi14) ?_
    have hc17 := ((H.ro 0 rfl).at hx13 hi14).int
    refine st (v := (I x12)) (rv_load1 Try.underlying3 rfl rfl hc17) ?_
    refine st (v := (B (decide (x5 < x12)))) (rv_lss (a := x5) (b := x12) rfl rfl) ?_
    refine st (v := (B (decide (x5 < x12)))) (rv_move rfl) ?_
    rcases Bool.eq_false_or_eq_true (decide (x5 < x12)) with hb18 | hb18
    ·replace h := bif_t hb18 h
     refine st_skip (congrArg some hb18) ?_
     refine st_skip (congrArg some hb18) ?_
     refine st_skip (congrArg some hb18) ?_
     refine st_skip (congrArg some hb18) ?_
     refine st_skip (congrArg some hb18) ?_
     refine st_skip (congrArg some hb18) ?_
     refine st (v := (B true)) (rv_pick_t (congrArg B hb18) rfl) ?_
     refine w_end ?_
     obtain rfl := Option.some.inj h
     exact ⟨rfl, _, σ3, fr_join ⟨rfl, rfl, rfl, rfl, rfl, rfl, trivial⟩, rfl, H.sel' [0, 1, 2] rfl rfl⟩
    ·replace h := bif_f hb18 h
     refine st_g (v := (I x5)) (congrArg some hb18) (rv_move rfl) ?_
     refine st_g (v := (Sl ahigh_2 high_2 chigh_2)) (congrArg some hb18) (rv_move rfl) ?_
     refine st_g (v := (I s2)) (congrArg some hb18) (rv_move rfl) ?_
     obtain ⟨x19, hx20, h'⟩ := bind_some h
     clear h
     have h := h'; clear h'
     obtain ⟨b22, o23, hi21, -⟩ := (H.ro 1 rfl).ix hx20
     refine st_g (v := (pt b22 o23)) (congrArg some hb18) (rv_ix Try.underlying24 ti3 rfl rfl hi21) ?_
     have hc24 := ((H.ro 1 rfl).at hx20 hi21).int
     refine st_g (v := (I x19)) (congrArg some hb18) (rv_load1 Try.underlying3 rfl rfl hc24) ?_
     refine st_g (v := (B (decide (x19 < x5)))) (congrArg some hb18) (rv_gtr (a := x5) (b := x19) rfl rfl) ?_
     refine st (v := (B (decide (x19 < x5)))) (rv_pick_f (congrArg B hb18) rfl) ?_
     refine w_end ?_
     obtain rfl := Option.some.inj h
     exact ⟨rfl, _, σ3, fr_join ⟨rfl, rfl, rfl, rfl, rfl, rfl, trivial⟩, rfl, H.sel' [0, 1, 2] rfl rfl⟩
   ·clear hj
    have h := h'
    clear h' H
    rintro e a w ⟨rfl, ρ, σ25, rfl, rfl, H⟩
    refine q_then ?_
    refine cd_cond o11 rfl (fun hb26 => ?_) (fun hb26 => ?_)
    ·replace h := bif_t hb26 h
     refine c_seq ?_
     refine rg ?_
     refine st (v := (B false)) (rv_assign rfl) ?_
     refine w_end ?_
     refine q_then ?_
     refine c_ret ?_
     refine q_blk_r ?_
     refine q_then_r ?_
     refine q_then_r ?_
     refine q_blk_r ?_
     obtain rfl := Option.some.inj h
     obtain rfl := hres _ rfl
     exact .inr (⟨_, rfl, rfl, _, σ25, fr_join ⟨rfl, trivial⟩, rfl, H.sel' [] rfl rfl⟩)
    ·replace h := bif_f hb26 h
     refine c_skip ?_
     refine q_blk ?_
     refine q_then ?_
     refine rg ?_
     refine st (v := (I (w64 (s2 + 1)))) (rv_add (a := s2) (b := 1) rfl rfl) ?_
     refine st (v := (I (w64 (s2 + 1)))) (rv_move rfl) ?_
     refine w_end ?_
     refine q_then ?_
     obtain rfl := Option.some.inj h
     exact ⟨_, rfl, _, σ25, fr_join ⟨rfl, rfl, rfl, rfl, rfl, trivial⟩, rfl, H.sel' [0, 1, 2] rfl rfl⟩
  ·replace h := bif_f hb4 h
   refine c_exit ?_
   refine q_then_x ?_
   refine q_then_x ?_
   refine q_blk_hit ?_
   obtain rfl := Option.some.inj h
   obtain rfl := hres _ rfl
   exact .inl ⟨_, rfl, rfl, _, σ3, fr_join trivial, rfl, H.sel' [] rfl rfl⟩
 ·clear hj
  have h := h'
  clear h' H
  rintro e a w (⟨t27, rfl, rfl, ρ, σ28, rfl, rfl, H⟩ | ⟨t29, rfl, rfl, ρ, σ30, rfl, rfl, H⟩)
  ·replace h := selim_l h
   refine q_then ?_
   refine c_seq ?_
   refine rg ?_
   refine st (v := (B true)) (rv_assign rfl) ?_
   refine w_end ?_
   refine q_then ?_
   refine c_ret ?_
   obtain rfl := Option.some.inj h
   exact fin_ret (v := (B true)) (results_ok Try.results61 (res_tmp (v := (B true)) rfl res_nil) rfl) ⟨rfl, rfl⟩ (H.sel' [] rfl rfl)
  ·replace h := selim_r h
   refine q_then_r ?_
   obtain rfl := Option.some.inj h
   exact fin_ret (v := (B t29)) (results_ok Try.results61 (res_tmp (v := (B t29)) rfl res_nil) rfl) ⟨rfl, rfl⟩ (H.sel' [] rfl rfl)

theorem c_impl_InBox_1__p24__p24 {x_0 : Int × (List Int) × Int} {p_1 : List Int} {p_2 : List Int} {ax_0_1 : Option Addr} {cx_0_1 : Nat} {ap_1 : Option Addr} {cp_1 : Nat} {lop_1 bp_1 op_1 : Nat} {prep_1 sufp_1 : List Value} {ap_2 : Option Addr} {cp_2 : Nat} {lop_2 bp_2 op_2 : Nat} {prep_2 sufp_2 : List Value} {r : Bool} (h : M.impl_InBox_1__p24__p24 x_0 p_1 p_2 = some r) :
    Cal2 Try.prog 60 [(.agg #[(I x_0.1), (Sl ax_0_1 x_0.2.1 cx_0_1), (I x_0.2.2)]), (pt bp_1 op_1), (pt bp_2 op_2)] [Ch.ro 0 (Sl ax_0_1 x_0.2.1 cx_0_1) x_0.2.1, Ch.bx lop_1 bp_1 op_1 [(Sl ap_1 p_1 cp_1)] prep_1 sufp_1, Ch.ro 0 (Sl ap_1 p_1 cp_1) p_1, Ch.bx lop_2 bp_2 op_2 [(Sl ap_2 p_2 cp_2)] prep_2 sufp_2, Ch.ro 0 (Sl ap_2 p_2 cp_2) p_2] (fun n0 v L => v = (B r) ∧ L = [Ch.bx lop_1 bp_1 op_1 [(Sl ap_1 p_1 cp_1)] prep_1 sufp_1, Ch.bx lop_2 bp_2 op_2 [(Sl ap_2 p_2 cp_2)] prep_2 sufp_2]) := by
 refine cal2 (n := 10) Try.func60 rfl rfl rfl rfl ?_
 intro S0 σ0 n0 hn0 H
 unfold M.impl_InBox_1__p24__p24 at h
 refine c_seq ?_
 refine rg ?_
 refine st_ex (ex_box (cs := [(I x_0.1), (Sl ax_0_1 x_0.2.1 cx_0_1), (I x_0.2.2)]) H hn0 rfl rfl) wn ?_
 rintro _ σ2 ⟨b1, rfl, H, -⟩
 refine st (v := (B false)) (rv_assign rfl) ?_
 refine w_end ?_
 refine q_then ?_
 refine c_seq ?_
 refine rg ?_
 refine st (v := (pt b1 1)) (rv_fieldAddr (off := 1) (ft := 24) Try.underlying63 rfl ti24 rfl rfl) ?_
 have hc3 := H.cell (u := (Sl ax_0_1 x_0.2.1 cx_0_1)) (o' := 1) 0 1 rfl rfl rfl
 refine st (v := (Sl ax_0_1 x_0.2.1 cx_0_1)) (rv_load1 Try.underlying24 rfl rfl hc3) ?_
 have hc4 := H.cell (u := (Sl ap_1 p_1 cp_1)) (o' := op_1) 2 0 rfl rfl rfl
 refine st (v := (Sl ap_1 p_1 cp_1)) (rv_load1 Try.underlying24 rfl rfl hc4) ?_
 have hc5 := H.cell (u := (Sl ap_2 p_2 cp_2)) (o' := op_2) 4 0 rfl rfl rfl
 refine st (v := (Sl ap_2 p_2 cp_2)) (rv_load1 Try.underlying24 rfl rfl hc5) ?_
 obtain ⟨r6, hx7, h'⟩ := bind_some h
 clear h
 have h := h'; clear h'
 have hc8 := c_impl_insideBox (aat_0 := ax_0_1) (cat_0 := cx_0_1) (alow_1 := ap_1) (clow_1 := cp_1) (ahigh_2 := ap_2) (chigh_2 := cp_2) hx7
 refine st_call (cx_call hc8 (ent_f hc8.fn rfl) hn0 (show Hp S0 σ0 _ ([Ch.ro 0 (Sl ax_0_1 x_0.2.1 cx_0_1) x_0.2.1, Ch.ro 0 (Sl ap_1 p_1 cp_1) p_1, Ch.ro 0 (Sl ap_2 p_2 cp_2) p_2] ++ [Ch.bx n0 b1 0 [(I x_0.1), (Sl ax_0_1 x_0.2.1 cx_0_1), (I x_0.2.2)] [] [], Ch.ro 0 (Sl ax_0_1 x_0.2.1 cx_0_1) x_0.2.1, Ch.bx lop_1 bp_1 op_1 [(Sl ap_1 p_1 cp_1)] prep_1 sufp_1, Ch.ro 0 (Sl ap_1 p_1 cp_1) p_1, Ch.bx lop_2 bp_2 op_2 [(Sl ap_2 p_2 cp_2)] prep_2 sufp_2, Ch.ro 0 (Sl ap_2 p_2 cp_2) p_2]) from (H.sel' [1, 3, 5, 0, 1, 2, 3, 4, 5] rfl rfl))) wn ?_
 rintro _ σ9 ⟨_, ⟨rfl, rfl⟩, H, -⟩
 replace H : Hp S0 σ0 σ9 [Ch.bx n0 b1 0 [(I x_0.1), (Sl ax_0_1 x_0.2.1 cx_0_1), (I x_0.2.2)] [] [], Ch.ro 0 (Sl ax_0_1 x_0.2.1 cx_0_1) x_0.2.1, Ch.bx lop_1 bp_1 op_1 [(Sl ap_1 p_1 cp_1)] prep_1 sufp_1, Ch.ro 0 (Sl ap_1 p_1 cp_1) p_1, Ch.bx lop_2 bp_2 op_2 [(Sl ap_2 p_2 cp_2)] prep_2 sufp_2, Ch.ro 0 (Sl ap_2 p_2 cp_2) p_2] := H
 refine st (v := (B r6)) (rv_assign rfl) ?_
 refine w_end ?_
 refine q_then ?_
 refine c_ret ?_
 obtain rfl := Option.some.inj h
 exact fin_ret (v := (B r6)) (results_ok Try.results60 (res_tmp (v := (B r6)) rfl res_nil) rfl) ⟨rfl, rfl⟩ (H.sel' [2, 4] rfl rfl)

theorem c_impl_itemsThat__impl_InBox_1 {list_0 : List (Int × (List Int) × Int)} {chosen_1_0 : List Int} {chosen_1_1 : List Int} {alist_0 : Option Addr} {clist_0 : Nat} {achosen_1_0 : Option Addr} {cchosen_1_0 : Nat} {lochosen_1_0 bchosen_1_0 ochosen_1_0 : Nat} {prechosen_1_0 sufchosen_1_0 : List Value} {achosen_1_1 : Option Addr} {cchosen_1_1 : Nat} {lochosen_1_1 bchosen_1_1 ochosen_1_1 : Nat} {prechosen_1_1 sufchosen_1_1 : List Value} {r : (List (Int × (List Int) × Int))} (h : M.impl_itemsThat__impl_InBox_1 list_0 chosen_1_0 chosen_1_1 = some r) :
    Cal2 Try.prog 59 [(Sl alist_0 list_0 clist_0), (.func (.func 60) #[] #[(pt bchosen_1_0 ochosen_1_0), (pt bchosen_1_1 ochosen_1_1)])] [Ch.ro 0 (Sl alist_0 list_0 clist_0) list_0, Ch.bx lochosen_1_0 bchosen_1_0 ochosen_1_0 [(Sl achosen_1_0 chosen_1_0 cchosen_1_0)] prechosen_1_0 sufchosen_1_0, Ch.ro 0 (Sl achosen_1_0 chosen_1_0 cchosen_1_0) chosen_1_0, Ch.bx lochosen_1_1 bchosen_1_1 ochosen_1_1 [(Sl achosen_1_1 chosen_1_1 cchosen_1_1)] prechosen_1_1 sufchosen_1_1, Ch.ro 0 (Sl achosen_1_1 chosen_1_1 cchosen_1_1) chosen_1_1] (fun n0 v L => ∃ (az1 : Option Addr), ∃ (cz2 : Nat), v = (Sl az1 r cz2) ∧ L = [Ch.own n0 0 (Sl az1 r cz2) r, Ch.bx lochosen_1_0 bchosen_1_0 ochosen_1_0 [(Sl achosen_1_0 chosen_1_0 cchosen_1_0)] prechosen_1_0 sufchosen_1_0, Ch.bx lochosen_1_1 bchosen_1_1 ochosen_1_1 [(Sl achosen_1_1 chosen_1_1 cchosen_1_1)] prechosen_1_1 sufchosen_1_1]) := by
 refine cal2 (n := 23) Try.func59 rfl rfl rfl rfl ?_
 intro S0 σ0 n0 hn0 H
 unfold M.impl_itemsThat__impl_InBox_1 at h
 refine c_seq ?_
 refine rg ?_
 refine st (v := (.slice none 0 0)) (rv_assign rfl) ?_
 refine w_end ?_
 refine q_then ?_
 refine c_seq ?_
 refine rg ?_
 refine st (v := (.slice none 0 0)) (rv_assign rfl) ?_
 refine w_end ?_
 refine q_then ?_
 refine c_seq ?_
 refine c_seq ?_
 refine rg ?_
 refine st (v := (Sl alist_0 list_0 clist_0)) (rv_move rfl) ?_
 refine st (v := (I (list_0.length : Int))) (rv_len Try.underlying37 rfl) ?_
 refine st (v := (I 0)) (rv_move rfl) ?_
 refine w_end ?_
 refine q_then ?_
 obtain ⟨o1, hj, h'⟩ := bind_some h
 clear h
 refine c_cut (fun e a w => e = .normal ∧ ∃ (ρ : Nat → Value) (σ : St) (aj1 : Option Addr) (cj2 : Nat), a = fr 23 (updL ρ [(1, (.func (.func 60) #[] #[(pt bchosen_1_0 ochosen_1_0), (pt bchosen_1_1 ochosen_1_1)])), (5, (Sl aj1 o1 cj2))]) ∧ w = σ.w ∧ Hp S0 σ0 σ [Ch.ro 0 (Sl achosen_1_0 chosen_1_0 cchosen_1_0) chosen_1_0, Ch.bx lochosen_1_0 bchosen_1_0 ochosen_1_0 [(Sl achosen_1_0 chosen_1_0 cchosen_1_0)] prechosen_1_0 sufchosen_1_0, Ch.ro 0 (Sl achosen_1_1 chosen_1_1 cchosen_1_1) chosen_1_1, Ch.bx lochosen_1_1 bchosen_1_1 ochosen_1_1 [(Sl achosen_1_1 chosen_1_1 cchosen_1_1)] prechosen_1_1 sufchosen_1_1, Ch.own n0 0 (Sl aj1 o1 cj2) o1]) ?_ ?_
 ·clear h'
  rename _ = some o1 => h
  refine c_blk ?_
  replace H := H.nilOwn (Int × (List Int) × Int) n0 0
  refine wp_loopM _ h (fun s2 a w => ∃ (ρ : Nat → Value) (σ : St) (aj1 : Option Addr) (cj2 : Nat), a = fr 23 (updL ρ [(1, (.func (.func 60) #[] #[(pt bchosen_1_0 ochosen_1_0), (pt bchosen_1_1 ochosen_1_1)])), (5, (Sl aj1 s2.1 cj2)), (8, (Sl alist_0 list_0 clist_0)), (9, (I (list_0.length : Int))), (10, (I s2.2))]) ∧ w = σ.w ∧ Hp S0 σ0 σ [Ch.ro 0 (Sl achosen_1_0 chosen_1_0 cchosen_1_0) chosen_1_0, Ch.bx lochosen_1_0 bchosen_1_0 ochosen_1_0 [(Sl achosen_1_0 chosen_1_0 cchosen_1_0)] prechosen_1_0 sufchosen_1_0, Ch.ro 0 (Sl achosen_1_1 chosen_1_1 cchosen_1_1) chosen_1_1, Ch.bx lochosen_1_1 bchosen_1_1 ochosen_1_1 [(Sl achosen_1_1 chosen_1_1 cchosen_1_1)] prechosen_1_1 sufchosen_1_1, Ch.own n0 0 (Sl aj1 s2.1 cj2) s2.1, Ch.ro 0 (Sl alist_0 list_0 clist_0) list_0]) ⟨_, σ0, none, 0, fr_join ⟨rfl, rfl, rfl, rfl, rfl, trivial⟩, rfl, H.sel' [3, 2, 5, 4, 0, 1] rfl rfl⟩ ?_
  clear h H
  rintro s2 a w o ⟨ρ, σ3, a4, c5, rfl, rfl, H⟩ h hres
  refine c_seq ?_
  refine rg ?_
  refine st (v := (B (decide (s2.2 < (list_0.length : Int))))) (rv_lss (a := s2.2) (b := (list_0.length : Int)) rfl rfl) ?_
  refine w_end ?_
  refine q_then ?_
  refine c_seq ?_
  refine cd_cond (decide (s2.2 < (list_0.length : Int))) rfl (fun hb6 => ?_) (fun hb6 => ?_)
  ·replace h := bif_t hb6 h
   refine c_skip ?_
   refine q_then ?_
   refine c_seq ?_
   obtain ⟨o7, hj, h'⟩ := bind_some h
   clear h
   refine c_cut (fun e a w => e = .normal ∧ ∃ (ρ : Nat → Value) (σ : St) (aj1 : Option Addr) (cj2 : Nat), a = fr 23 (updL ρ [(1, (.func (.func 60) #[] #[(pt bchosen_1_0 ochosen_1_0), (pt bchosen_1_1 ochosen_1_1)])), (5, (Sl aj1 o7 cj2)), (8, (Sl alist_0 list_0 clist_0)), (9, (I (list_0.length : Int))), (10, (I s2.2))]) ∧ w = σ.w ∧ Hp S0 σ0 σ [Ch.ro 0 (Sl achosen_1_0 chosen_1_0 cchosen_1_0) chosen_1_0, Ch.bx lochosen_1_0 bchosen_1_0 ochosen_1_0 [(Sl achosen_1_0 chosen_1_0 cchosen_1_0)] prechosen_1_0 sufchosen_1_0, Ch.ro 0 (Sl achosen_1_1 chosen_1_1 cchosen_1_1) chosen_1_1, Ch.bx lochosen_1_1 bchosen_1_1 ochosen_1_1 [(Sl achosen_1_1 chosen_1_1 cchosen_1_1)] prechosen_1_1 sufchosen_1_1, Ch.own n0 0 (Sl aj1 o7 cj2) o7, Ch.ro 0 (Sl alist_0 list_0 clist_0) list_0]) ?_ ?_
   ·clear h'
    rename _ = some o7 => h
    refine c_blk ?_
    refine c_seq ?_
    refine rg ?_
    obtain ⟨x8, hx9, h'⟩ := bind_some h
    clear h
    have h := h'; clear h'
    obtain ⟨b11, o12, hi10, -⟩ := (H.ro 5 rfl).ix hx9
    refine st (v := (pt b11 o12)) (rv_ix Try.underlying37 ti63 rfl rfl hi10) ?_
    obtain ⟨_, ⟨_, _, rfl, rfl, ⟨_, _, rfl, ⟨_, rfl, hR17⟩, rfl⟩⟩, hl13, hc14⟩ := ((H.ro 5 rfl).at hx9 hi10).cells
    obtain ⟨a15, c16, rfl⟩ := hR17.isSl
    replace H := H.add (d := Ch.ro 0 (Sl a15 x8.2.1 c16) x8.2.1) hR17 (fun _ h => h)
    clear hR17
    refine st (v := (.agg #[(I x8.1), (Sl a15 x8.2.1 c16), (I x8.2.2)])) (rv_load Try.underlying63 rfl ti63 rfl hl13 hc14) ?_
    refine st_ex (ex_alloc (cs := [(I 0), (.slice none 0 0), (I 0)]) H hn0 ti63 rfl) wn ?_
    rintro _ σ19 ⟨b18, rfl, H, -⟩
    refine st_exS (ex_store_box (k := 0) (cs := [(I 0), (.slice none 0 0), (I 0)]) (vs := [(I x8.1), (Sl a15 x8.2.1 c16), (I x8.2.2)]) (cs' := [(I x8.1), (Sl a15 x8.2.1 c16), (I x8.2.2)]) H (i := 0) rfl ti63 rfl rfl rfl rfl rfl (Nat.le_of_ble_eq_true rfl) (by simp [plain]) rfl) wn ?_
    rintro σ20 ⟨H, -⟩
    refine w_end ?_
    refine q_then ?_
    refine c_seq ?_
    refine rg ?_
    refine st (v := (.func (.func 60) #[] #[(pt bchosen_1_0 ochosen_1_0), (pt bchosen_1_1 ochosen_1_1)])) (rv_move rfl) ?_
    have hc21 := H.cells 0 rfl
    refine st (v := (.agg #[(I x8.1), (Sl a15 x8.2.1 c16), (I x8.2.2)])) (rv_load (cs := [(I x8.1), (Sl a15 x8.2.1 c16), (I x8.2.2)]) Try.underlying63 rfl ti63 rfl rfl hc21) ?_
    obtain ⟨r22, hx23, h'⟩ := bind_some h
    clear h
    have h := h'; clear h'
    have hc24 := c_impl_InBox_1__p24__p24 (ax_0_1 := a15) (cx_0_1 := c16) (lop_1 := lochosen_1_0) (bp_1 := bchosen_1_0) (op_1 := ochosen_1_0) (prep_1 := prechosen_1_0) (sufp_1 := sufchosen_1_0) (ap_1 := achosen_1_0) (cp_1 := cchosen_1_0) (lop_2 := lochosen_1_1) (bp_2 := bchosen_1_1) (op_2 := ochosen_1_1) (prep_2 := prechosen_1_1) (sufp_2 := sufchosen_1_1) (ap_2 := achosen_1_1) (cp_2 := cchosen_1_1) hx23
    refine st_call (cx_call hc24 (ent_v (cap := [(pt bchosen_1_0 ochosen_1_0), (pt bchosen_1_1 ochosen_1_1)]) hc24.fn rfl rfl) hn0 (show Hp S0 σ0 _ ([Ch.ro 0 (Sl a15 x8.2.1 c16) x8.2.1, Ch.bx lochosen_1_0 bchosen_1_0 ochosen_1_0 [(Sl achosen_1_0 chosen_1_0 cchosen_1_0)] prechosen_1_0 sufchosen_1_0, Ch.ro 0 (Sl achosen_1_0 chosen_1_0 cchosen_1_0) chosen_1_0, Ch.bx lochosen_1_1 bchosen_1_1 ochosen_1_1 [(Sl achosen_1_1 chosen_1_1 cchosen_1_1)] prechosen_1_1 sufchosen_1_1, Ch.ro 0 (Sl achosen_1_1 chosen_1_1 cchosen_1_1) chosen_1_1] ++ [Ch.bx n0 b18 0 [(I x8.1), (Sl a15 x8.2.1 c16), (I x8.2.2)] [] [], Ch.ro 0 (Sl a15 x8.2.1 c16) x8.2.1, Ch.ro 0 (Sl achosen_1_0 chosen_1_0 cchosen_1_0) chosen_1_0, Ch.ro 0 (Sl achosen_1_1 chosen_1_1 cchosen_1_1) chosen_1_1, Ch.own n0 0 (Sl a4 s2.1 c5) s2.1, Ch.ro 0 (Sl alist_0 list_0 clist_0) list_0]) from (H.sel' [1, 3, 2, 5, 4, 0, 1, 2, 4, 6, 7] rfl rfl))) wn ?_
    rintro _ σ25 ⟨_, ⟨rfl, rfl⟩, H, -⟩
    replace H : Hp S0 σ0 σ25 [Ch.bx lochosen_1_0 bchosen_1_0 ochosen_1_0 [(Sl achosen_1_0 chosen_1_0 cchosen_1_0)] prechosen_1_0 sufchosen_1_0, Ch.bx lochosen_1_1 bchosen_1_1 ochosen_1_1 [(Sl achosen_1_1 chosen_1_1 cchosen_1_1)] prechosen_1_1 sufchosen_1_1, Ch.bx n0 b18 0 [(I x8.1), (Sl a15 x8.2.1 c16), (I x8.2.2)] [] [], Ch.ro 0 (Sl a15 x8.2.1 c16) x8.2.1, Ch.ro 0 (Sl achosen_1_0 chosen_1_0 cchosen_1_0) chosen_1_0, Ch.ro 0 (Sl achosen_1_1 chosen_1_1 cchosen_1_1) chosen_1_1, Ch.own n0 0 (Sl a4 s2.1 c5) s2.1, Ch.ro 0 (Sl alist_0 list_0 clist_0) list_0] := H
    refine w_end ?_
    refine q_then ?_
    refine cd_cond r22 rfl (fun hb26 => ?_) (fun hb26 => ?_)
    ·replace h := bif_t hb26 h
     refine rg ?_
     refine st (v := (Sl a4 s2.1 c5)) (rv_move rfl) ?_
     have hc27 := H.cells 2 rfl
     refine st (v := (.agg #[(I x8.1), (Sl a15 x8.2.1 c16), (I x8.2.2)])) (rv_load (cs := [(I x8.1), (Sl a15 x8.2.1 c16), (I x8.2.2)]) Try.underlying63 rfl ti63 rfl rfl hc27) ?_
     refine st_ex (ex_buildSlice (el := 0) (xs := ([(x8.1, x8.2.1, x8.2.2)] : List (Int × (List Int) × Int))) (ps := [(0, (.agg #[(I x8.1), (Sl a15 x8.2.1 c16), (I x8.2.2)]))]) (cs := [(I x8.1), (Sl a15 x8.2.1 c16), (I x8.2.2)]) H hn0 Try.underlying37 ti63 rfl rfl (by kernel_rfl) (.cons (c := [(I x8.1), (Sl a15 x8.2.1 c16), (I x8.2.2)]) ⟨[(I x8.1)], [(Sl a15 x8.2.1 c16), (I x8.2.2)], rfl, rfl, ⟨[(Sl a15 x8.2.1 c16)], [(I x8.2.2)], rfl, ⟨_, rfl, (H.ro 3 rfl)⟩, rfl⟩⟩ (.nil)) rfl) wn ?_
     rintro _ σ29 ⟨b28, rfl, H, -⟩
     replace H : Hp S0 σ0 σ29 [Ch.own n0 0 (Sl (some ⟨b28, 0, none⟩) ([(x8.1, x8.2.1, x8.2.2)] : List (Int × (List Int) × Int)) 1) ([(x8.1, x8.2.1, x8.2.2)] : List (Int × (List Int) × Int)), Ch.bx lochosen_1_0 bchosen_1_0 ochosen_1_0 [(Sl achosen_1_0 chosen_1_0 cchosen_1_0)] prechosen_1_0 sufchosen_1_0, Ch.bx lochosen_1_1 bchosen_1_1 ochosen_1_1 [(Sl achosen_1_1 chosen_1_1 cchosen_1_1)] prechosen_1_1 sufchosen_1_1, Ch.ro 0 (Sl achosen_1_0 chosen_1_0 cchosen_1_0) chosen_1_0, Ch.ro 0 (Sl achosen_1_1 chosen_1_1 cchosen_1_1) chosen_1_1, Ch.own n0 0 (Sl a4 s2.1 c5) s2.1, Ch.ro 0 (Sl alist_0 list_0 clist_0) list_0] := H.sel' [0, 1, 2, 5, 6, 7, 8] rfl rfl
     obtain ⟨xs30, hx31, h'⟩ := bind_some h
     clear h
     have h := h'; clear h'
     refine st_ex (ex_append H (i := 5) rfl Try.underlying37 Try.underlying37 ti63 rfl rfl (by decide) (H.own 0 rfl).rd hx31 hn0 rfl rfl) wn ?_
     rintro _ σ34 ⟨a32, c33, rfl, H, -⟩
     refine st (v := (Sl a32 xs30 c33)) (rv_assign rfl) ?_
     refine w_end ?_
     refine q_blk ?_
     obtain rfl := Option.some.inj h
     exact ⟨rfl, _, σ34, a32, c33, fr_join ⟨rfl, rfl, rfl, rfl, rfl, trivial⟩, rfl, H.sel' [4, 2, 5, 3, 0, 6] rfl rfl⟩
    ·replace h := bif_f hb26 h
     refine c_skip ?_
     refine q_blk ?_
     obtain rfl := Option.some.inj h
     exact ⟨rfl, _, σ25, a4, c5, fr_join ⟨rfl, rfl, rfl, rfl, rfl, trivial⟩, rfl, H.sel' [4, 0, 5, 1, 6, 7] rfl rfl⟩
   ·clear hj
    have h := h'
    clear h' H
    rintro e a w ⟨rfl, ρ, σ35, a36, c37, rfl, rfl, H⟩
    refine q_then ?_
    refine rg ?_
    refine st (v := (I (w64 (s2.2 + 1)))) (rv_add (a := s2.2) (b := 1) rfl rfl) ?_
    refine st (v := (I (w64 (s2.2 + 1)))) (rv_move rfl) ?_
    refine w_end ?_
    refine q_then ?_
    obtain rfl := Option.some.inj h
    exact ⟨_, rfl, _, σ35, a36, c37, fr_join ⟨rfl, rfl, rfl, rfl, rfl, trivial⟩, rfl, H.sel' [0, 1, 2, 3, 4, 5] rfl rfl⟩
  ·replace h := bif_f hb6 h
   refine c_exit ?_
   refine q_then_x ?_
   refine q_then_x ?_
   refine q_blk_hit ?_
   obtain rfl := Option.some.inj h
   obtain rfl := hres _ rfl
   exact ⟨rfl, _, σ3, a4, c5, fr_join ⟨rfl, rfl, trivial⟩, rfl, H.sel' [0, 1, 2, 3, 4] rfl rfl⟩
 ·clear hj
  have h := h'
  clear h' H
  rintro e a w ⟨rfl, ρ, σ38, a39, c40, rfl, rfl, H⟩
  refine q_then ?_
  refine c_seq ?_
  refine rg ?_
  refine st (v := (Sl a39 o1 c40)) (rv_move rfl) ?_
  refine st (v := (Sl a39 o1 c40)) (rv_assign rfl) ?_
  refine w_end ?_
  refine q_then ?_
  refine c_ret ?_
  obtain rfl := Option.some.inj h
  exact fin_ret (v := (Sl a39 o1 c40)) (results_ok Try.results59 (res_tmp (v := (Sl a39 o1 c40)) rfl res_nil) rfl) ⟨a39, c40, rfl, rfl⟩ (H.sel' [4, 1, 3] rfl rfl)

theorem c_impl_InBox {list_0 : List (Int × (List Int) × Int)} {low_1 : List Int} {high_2 : List Int} {alist_0 : Option Addr} {clist_0 : Nat} {alow_1 : Option Addr} {clow_1 : Nat} {ahigh_2 : Option Addr} {chigh_2 : Nat} {r : (List Int)} (h : M.impl_InBox list_0 low_1 high_2 = some r) :
    Cal2 Try.prog 28 [(Sl alist_0 list_0 clist_0), (Sl alow_1 low_1 clow_1), (Sl ahigh_2 high_2 chigh_2)] [Ch.ro 0 (Sl alist_0 list_0 clist_0) list_0, Ch.ro 0 (Sl alow_1 low_1 clow_1) low_1, Ch.ro 0 (Sl ahigh_2 high_2 chigh_2) high_2] (fun n0 v L => ∃ (az1 : Option Addr), ∃ (cz2 : Nat), v = (Sl az1 r cz2) ∧ L = [Ch.own n0 n0 (Sl az1 r cz2) r] ∧ cz2 = r.length) := by
 refine cal2 (n := 24) Try.func28 rfl rfl rfl rfl ?_
 intro S0 σ0 n0 hn0 H
 unfold M.impl_InBox at h
 refine c_seq ?_
 refine rg ?_
 refine st_ex (ex_box (cs := [(Sl alow_1 low_1 clow_1)]) H hn0 rfl rfl) wn ?_
 rintro _ σ2 ⟨b1, rfl, H, -⟩
 refine st_ex (ex_box (cs := [(Sl ahigh_2 high_2 chigh_2)]) H hn0 rfl rfl) wn ?_
 rintro _ σ4 ⟨b3, rfl, H, -⟩
 refine st (v := (.slice none 0 0)) (rv_assign rfl) ?_
 refine w_end ?_
 refine q_then ?_
 refine c_seq ?_
 refine c_seq ?_
 obtain ⟨o5, hj, h'⟩ := bind_some h
 clear h
 refine c_cut (fun e a w => e = .normal ∧ ∃ (ρ : Nat → Value) (σ : St), a = fr 24 (updL ρ [(0, (Sl alist_0 list_0 clist_0)), (4, (pt b1 0)), (5, (pt b3 0)), (19, (B o5))]) ∧ w = σ.w ∧ Hp S0 σ0 σ [Ch.ro 0 (Sl alist_0 list_0 clist_0) list_0, Ch.ro 0 (Sl alow_1 low_1 clow_1) low_1, Ch.bx n0 b1 0 [(Sl alow_1 low_1 clow_1)] [] [], Ch.ro 0 (Sl ahigh_2 high_2 chigh_2) high_2, Ch.bx n0 b3 0 [(Sl ahigh_2 high_2 chigh_2)] [] []]) ?_ ?_
 ·clear h'
  rename _ = some o5 => h
  refine rg ?_
  refine st (v := (Sl alist_0 list_0 clist_0)) (rv_move rfl) ?_
  obtain ⟨r6, hx7, h'⟩ := bind_some h
  clear h
  have h := h'; clear h'
  have hc8 := c_impl_ValidStore (alist_0 := alist_0) (clist_0 := clist_0) hx7
  refine st_call (cx_call hc8 (ent_f hc8.fn rfl) hn0 (show Hp S0 σ0 _ ([Ch.ro 0 (Sl alist_0 list_0 clist_0) list_0] ++ [Ch.bx n0 b3 0 [(Sl ahigh_2 high_2 chigh_2)] [] [], Ch.bx n0 b1 0 [(Sl alow_1 low_1 clow_1)] [] [], Ch.ro 0 (Sl alist_0 list_0 clist_0) list_0, Ch.ro 0 (Sl alow_1 low_1 clow_1) low_1, Ch.ro 0 (Sl ahigh_2 high_2 chigh_2) high_2]) from (H.sel' [2, 0, 1, 2, 3, 4] rfl rfl))) wn ?_
  rintro _ σ9 ⟨_, ⟨rfl, rfl⟩, H, -⟩
  replace H : Hp S0 σ0 σ9 [Ch.bx n0 b3 0 [(Sl ahigh_2 high_2 chigh_2)] [] [], Ch.bx n0 b1 0 [(Sl alow_1 low_1 clow_1)] [] [], Ch.ro 0 (Sl alist_0 list_0 clist_0) list_0, Ch.ro 0 (Sl alow_1 low_1 clow_1) low_1, Ch.ro 0 (Sl ahigh_2 high_2 chigh_2) high_2] := H
  refine st (v := (B (!r6))) (rv_not rfl) ?_
  refine st (v := (B (!r6))) (rv_move rfl) ?_
  rcases Bool.eq_false_or_eq_true (!r6) with hb10 | hb10
  ·replace h := bif_t hb10 h
   refine st_skip (congrArg some hb10) ?_
   refine st_skip (congrArg some hb10) ?_
   refine st_skip (congrArg some hb10) ?_
   refine st (v := (B true)) (rv_pick_t (congrArg B hb10) rfl) ?_
   refine st (v := (B true)) (rv_move rfl) ?_
   refine st_skip rfl ?_
   refine st_skip rfl ?_
   refine st_skip rfl ?_
   refine st (v := (B true)) (rv_pick_t rfl rfl) ?_
   refine w_end ?_
   obtain rfl := Option.some.inj h
   exact ⟨rfl, _, σ9, fr_join ⟨rfl, rfl, rfl, rfl, trivial⟩, rfl, H.sel' [2, 3, 1, 4, 0] rfl rfl⟩
  ·replace h := bif_f hb10 h
   have hc11 := H.cell (u := (Sl alow_1 low_1 clow_1)) (o' := 0) 1 0 rfl rfl rfl
   refine st_g (v := (Sl alow_1 low_1 clow_1)) (congrArg some hb10) (rv_load1 Try.underlying24 rfl rfl hc11) ?_
   obtain ⟨r12, hx13, h'⟩ := bind_some h
   clear h
   have h := h'; clear h'
   have hc14 := c_impl_ValidVector (av_0 := alow_1) (cv_0 := clow_1) hx13
   refine st_call (cx_call hc14 (ent_f hc14.fn rfl) hn0 (show Hp S0 σ0 _ ([Ch.ro 0 (Sl alow_1 low_1 clow_1) low_1] ++ [Ch.bx n0 b3 0 [(Sl ahigh_2 high_2 chigh_2)] [] [], Ch.bx n0 b1 0 [(Sl alow_1 low_1 clow_1)] [] [], Ch.ro 0 (Sl alist_0 list_0 clist_0) list_0, Ch.ro 0 (Sl alow_1 low_1 clow_1) low_1, Ch.ro 0 (Sl ahigh_2 high_2 chigh_2) high_2]) from (H.sel' [3, 0, 1, 2, 3, 4] rfl rfl))) (wanted_yes rfl (by exact (congrArg some hb10))) ?_
   rintro _ σ15 ⟨_, ⟨rfl, rfl⟩, H, -⟩
   replace H : Hp S0 σ0 σ15 [Ch.bx n0 b3 0 [(Sl ahigh_2 high_2 chigh_2)] [] [], Ch.bx n0 b1 0 [(Sl alow_1 low_1 clow_1)] [] [], Ch.ro 0 (Sl alist_0 list_0 clist_0) list_0, Ch.ro 0 (Sl alow_1 low_1 clow_1) low_1, Ch.ro 0 (Sl ahigh_2 high_2 chigh_2) high_2] := H
   refine st_g (v := (B (!r12))) (congrArg some hb10) (rv_not rfl) ?_
   refine st (v := (B (!r12))) (rv_pick_f (congrArg B hb10) rfl) ?_
   refine st (v := (B (!r12))) (rv_move rfl) ?_
   rcases Bool.eq_false_or_eq_true (!r12) with hb16 | hb16
   ·replace h := bif_t hb16 h
    refine st_skip (congrArg some hb16) ?_
    refine st_skip (congrArg some hb16) ?_
    refine st_skip (congrArg some hb16) ?_
    refine st (v := (B true)) (rv_pick_t (congrArg B hb16) rfl) ?_
    refine w_end ?_
    obtain rfl := Option.some.inj h
    exact ⟨rfl, _, σ15, fr_join ⟨rfl, rfl, rfl, rfl, trivial⟩, rfl, H.sel' [2, 3, 1, 4, 0] rfl rfl⟩
   ·replace h := bif_f hb16 h
    have hc17 := H.cell (u := (Sl ahigh_2 high_2 chigh_2)) (o' := 0) 0 0 rfl rfl rfl
    refine st_g (v := (Sl ahigh_2 high_2 chigh_2)) (congrArg some hb16) (rv_load1 Try.underlying24 rfl rfl hc17) ?_
    obtain ⟨r18, hx19, h'⟩ := bind_some h
    clear h
    have h := h'; clear h'
    have hc20 := c_impl_ValidVector (av_0 := ahigh_2) (cv_0 := chigh_2) hx19
    refine st_call (cx_call hc20 (ent_f hc20.fn rfl) hn0 (show Hp S0 σ0 _ ([Ch.ro 0 (Sl ahigh_2 high_2 chigh_2) high_2] ++ [Ch.bx n0 b3 0 [(Sl ahigh_2 high_2 chigh_2)] [] [], Ch.bx n0 b1 0 [(Sl alow_1 low_1 clow_1)] [] [], Ch.ro 0 (Sl alist_0 list_0 clist_0) list_0, Ch.ro 0 (Sl alow_1 low_1 clow_1) low_1, Ch.ro 0 (Sl ahigh_2 high_2 chigh_2) high_2]) from (H.sel' [4, 0, 1, 2, 3, 4] rfl rfl))) (wanted_yes rfl (by exact (congrArg some hb16))) ?_
    rintro _ σ21 ⟨_, ⟨rfl, rfl⟩, H, -⟩
    replace H : Hp S0 σ0 σ21 [Ch.bx n0 b3 0 [(Sl ahigh_2 high_2 chigh_2)] [] [], Ch.bx n0 b1 0 [(Sl alow_1 low_1 clow_1)] [] [], Ch.ro 0 (Sl alist_0 list_0 clist_0) list_0, Ch.ro 0 (Sl alow_1 low_1 clow_1) low_1, Ch.ro 0 (Sl ahigh_2 high_2 chigh_2) high_2] := H
    refine st_g (v := (B (!r18))) (congrArg some hb16) (rv_not rfl) ?_
    refine st (v := (B (!r18))) (rv_pick_f (congrArg B hb16) rfl) ?_
    refine w_end ?_
    obtain rfl := Option.some.inj h
    exact ⟨rfl, _, σ21, fr_join ⟨rfl, rfl, rfl, rfl, trivial⟩, rfl, H.sel' [2, 3, 1, 4, 0] rfl rfl⟩
 ·clear hj
  have h := h'
  clear h' H
  rintro e a w ⟨rfl, ρ, σ22, rfl, rfl, H⟩
  refine q_then ?_
  refine cd_cond o5 rfl (fun hb23 => ?_) (fun hb23 => ?_)
  ·replace h := bif_t hb23 h
   refine c_seq ?_
   refine rg ?_
   refine st (v := (.slice none 0 0)) (rv_assign rfl) ?_
   refine w_end ?_
   refine q_then ?_
   refine c_ret ?_
   refine q_then_r ?_
   replace H := H.nilOwn Int n0 n0
   obtain rfl := Option.some.inj h
   exact fin_ret (v := (.slice none 0 0)) (results_ok Try.results28 (res_tmp (v := (.slice none 0 0)) rfl res_nil) rfl) ⟨none, 0, rfl, rfl, rfl⟩ (H.sel' [0] rfl rfl)
  ·replace h := bif_f hb23 h
   refine c_skip ?_
   refine q_then ?_
   refine c_seq ?_
   refine rg ?_
   refine st (v := (Sl alist_0 list_0 clist_0)) (rv_move rfl) ?_
   refine st (v := (.func (.func 60) #[] #[(pt b1 0), (pt b3 0)])) (rv_makeFunc (vs := [(pt b1 0), (pt b3 0)]) rfl) ?_
   obtain ⟨r24, hx25, h'⟩ := bind_some h
   clear h
   have h := h'; clear h'
   have hc26 := c_impl_itemsThat__impl_InBox_1 (alist_0 := alist_0) (clist_0 := clist_0) (lochosen_1_0 := n0) (bchosen_1_0 := b1) (ochosen_1_0 := 0) (prechosen_1_0 := []) (sufchosen_1_0 := []) (achosen_1_0 := alow_1) (cchosen_1_0 := clow_1) (lochosen_1_1 := n0) (bchosen_1_1 := b3) (ochosen_1_1 := 0) (prechosen_1_1 := []) (sufchosen_1_1 := []) (achosen_1_1 := ahigh_2) (cchosen_1_1 := chigh_2) hx25
   refine st_call (cx_call hc26 (ent_f hc26.fn rfl) hn0 (show Hp S0 σ0 _ ([Ch.ro 0 (Sl alist_0 list_0 clist_0) list_0, Ch.bx n0 b1 0 [(Sl alow_1 low_1 clow_1)] [] [], Ch.ro 0 (Sl alow_1 low_1 clow_1) low_1, Ch.bx n0 b3 0 [(Sl ahigh_2 high_2 chigh_2)] [] [], Ch.ro 0 (Sl ahigh_2 high_2 chigh_2) high_2] ++ [Ch.ro 0 (Sl alist_0 list_0 clist_0) list_0, Ch.ro 0 (Sl alow_1 low_1 clow_1) low_1, Ch.ro 0 (Sl ahigh_2 high_2 chigh_2) high_2]) from (H.sel' [0, 2, 1, 4, 3, 0, 1, 3] rfl rfl))) wn ?_
   rintro _ σ29 ⟨_, ⟨a27, c28, rfl, rfl⟩, H, -⟩
   replace H : Hp S0 σ0 σ29 [Ch.own n0 0 (Sl a27 r24 c28) r24, Ch.bx n0 b1 0 [(Sl alow_1 low_1 clow_1)] [] [], Ch.bx n0 b3 0 [(Sl ahigh_2 high_2 chigh_2)] [] [], Ch.ro 0 (Sl alist_0 list_0 clist_0) list_0, Ch.ro 0 (Sl alow_1 low_1 clow_1) low_1, Ch.ro 0 (Sl ahigh_2 high_2 chigh_2) high_2] := H
   obtain ⟨σ30, hw31, H, -⟩ := H.pub 0 rfl (Nat.zero_le _)
   rw [← hw31]; clear hw31
   obtain ⟨r32, hx33, h'⟩ := bind_some h
   clear h
   have h := h'; clear h'
   have hc34 := c_impl_keysOf (alist_0 := a27) (clist_0 := c28) hx33
   refine st_call (cx_call hc34 (ent_f hc34.fn rfl) hn0 (show Hp S0 σ0 _ ([Ch.ro 0 (Sl a27 r24 c28) r24] ++ [Ch.ro 0 (Sl a27 r24 c28) r24, Ch.bx n0 b1 0 [(Sl alow_1 low_1 clow_1)] [] [], Ch.bx n0 b3 0 [(Sl ahigh_2 high_2 chigh_2)] [] [], Ch.ro 0 (Sl alist_0 list_0 clist_0) list_0, Ch.ro 0 (Sl alow_1 low_1 clow_1) low_1, Ch.ro 0 (Sl ahigh_2 high_2 chigh_2) high_2]) from (H.sel' [0, 0, 1, 2, 3, 4, 5] rfl rfl))) wn ?_
   rintro _ σ38 ⟨_, ⟨a35, c36, rfl, rfl, ht37⟩, H, -⟩
   replace H : Hp S0 σ0 σ38 [Ch.own n0 n0 (Sl a35 r32 c36) r32, Ch.ro 0 (Sl a27 r24 c28) r24, Ch.bx n0 b1 0 [(Sl alow_1 low_1 clow_1)] [] [], Ch.bx n0 b3 0 [(Sl ahigh_2 high_2 chigh_2)] [] [], Ch.ro 0 (Sl alist_0 list_0 clist_0) list_0, Ch.ro 0 (Sl alow_1 low_1 clow_1) low_1, Ch.ro 0 (Sl ahigh_2 high_2 chigh_2) high_2] := H
   refine st (v := (Sl a35 r32 c36)) (rv_assign rfl) ?_
   refine w_end ?_
   refine q_then ?_
   refine c_ret ?_
   obtain rfl := Option.some.inj h
   exact fin_ret (v := (Sl a35 r32 c36)) (results_ok Try.results28 (res_tmp (v := (Sl a35 r32 c36)) rfl res_nil) rfl) ⟨a35, c36, rfl, rfl, ht37⟩ (H.sel' [0] rfl rfl)

theorem c_laws_eqItem {a_0 : Int × (List Int) × Int} {b_1 : Int × (List Int) × Int} {aa_0_1 : Option Addr} {ca_0_1 : Nat} {ab_1_1 : Option Addr} {cb_1_1 : Nat} {r : Bool} (h : M.laws_eqItem a_0 b_1 = some r) :
    Cal2 Try.prog 62 [(.agg #[(I a_0.1), (Sl aa_0_1 a_0.2.1 ca_0_1), (I a_0.2.2)]), (.agg #[(I b_1.1), (Sl ab_1_1 b_1.2.1 cb_1_1), (I b_1.2.2)])] [Ch.ro 0 (Sl aa_0_1 a_0.2.1 ca_0_1) a_0.2.1, Ch.ro 0 (Sl ab_1_1 b_1.2.1 cb_1_1) b_1.2.1] (fun n0 v L => v = (B r) ∧ L = []) := by
 refine cal2 (n := 21) Try.func62 rfl rfl rfl rfl ?_
 intro S0 σ0 n0 hn0 H
 unfold M.laws_eqItem at h
 refine c_seq ?_
 refine rg ?_
 refine st_ex (ex_box (cs := [(I a_0.1), (Sl aa_0_1 a_0.2.1 ca_0_1), (I a_0.2.2)]) H hn0 rfl rfl) wn ?_
 rintro _ σ2 ⟨b1, rfl, H, -⟩
 refine st_ex (ex_box (cs := [(I b_1.1), (Sl ab_1_1 b_1.2.1 cb_1_1), (I b_1.2.2)]) H hn0 rfl rfl) wn ?_
 rintro _ σ4 ⟨b3, rfl, H, -⟩
 refine st (v := (B false)) (rv_assign rfl) ?_
 refine w_end ?_
 refine q_then ?_
 refine c_seq ?_
 refine c_seq ?_
 refine rg ?_
 refine st (v := (pt b1 0)) (rv_fieldAddr (off := 0) (ft := 3) Try.underlying63 rfl ti3 rfl rfl) ?_
 have hc5 := H.cell (u := (I a_0.1)) (o' := 0) 1 0 rfl rfl rfl
 refine st (v := (I a_0.1)) (rv_load1 Try.underlying3 rfl rfl hc5) ?_
 refine st (v := (pt b3 0)) (rv_fieldAddr (off := 0) (ft := 3) Try.underlying63 rfl ti3 rfl rfl) ?_
 have hc6 := H.cell (u := (I b_1.1)) (o' := 0) 0 0 rfl rfl rfl
 refine st (v := (I b_1.1)) (rv_load1 Try.underlying3 rfl rfl hc6) ?_
 refine st (v := (B (a_0.1 != b_1.1))) (rv_neq (a := a_0.1) (b := b_1.1) rfl rfl) ?_
 refine w_end ?_
 refine q_then ?_
 refine cd_cond (a_0.1 != b_1.1) rfl (fun hb7 => ?_) (fun hb7 => ?_)
 ·replace h := bif_t hb7 h
  refine c_seq ?_
  refine rg ?_
  refine st (v := (B false)) (rv_assign rfl) ?_
  refine w_end ?_
  refine q_then ?_
  refine c_ret ?_
  refine q_then_r ?_
  obtain rfl := Option.some.inj h
  exact fin_ret (v := (B false)) (results_ok Try.results62 (res_tmp (v := (B false)) rfl res_nil) rfl) ⟨rfl, rfl⟩ (H.sel' [] rfl rfl)
 ·replace h := bif_f hb7 h
  refine c_skip ?_
  refine q_then ?_
  refine c_seq ?_
  refine c_seq ?_
  refine rg ?_
  refine st (v := (pt b1 1)) (rv_fieldAddr (off := 1) (ft := 24) Try.underlying63 rfl ti24 rfl rfl) ?_
  have hc8 := H.cell (u := (Sl aa_0_1 a_0.2.1 ca_0_1)) (o' := 1) 1 1 rfl rfl rfl
  refine st (v := (Sl aa_0_1 a_0.2.1 ca_0_1)) (rv_load1 Try.underlying24 rfl rfl hc8) ?_
  refine st (v := (pt b3 1)) (rv_fieldAddr (off := 1) (ft := 24) Try.underlying63 rfl ti24 rfl rfl) ?_
  have hc9 := H.cell (u := (Sl ab_1_1 b_1.2.1 cb_1_1)) (o' := 1) 0 1 rfl rfl rfl
  refine st (v := (Sl ab_1_1 b_1.2.1 cb_1_1)) (rv_load1 Try.underlying24 rfl rfl hc9) ?_
  obtain ⟨r10, hx11, h'⟩ := bind_some h
  clear h
  have h := h'; clear h'
  have hc12 := c_laws_eqIntS (aa_0 := aa_0_1) (ca_0 := ca_0_1) (ab_1 := ab_1_1) (cb_1 := cb_1_1) hx11
  refine st_call (cx_call hc12 (ent_f hc12.fn rfl) hn0 (show Hp S0 σ0 _ ([Ch.ro 0 (Sl aa_0_1 a_0.2.1 ca_0_1) a_0.2.1, Ch.ro 0 (Sl ab_1_1 b_1.2.1 cb_1_1) b_1.2.1] ++ [Ch.bx n0 b3 0 [(I b_1.1), (Sl ab_1_1 b_1.2.1 cb_1_1), (I b_1.2.2)] [] [], Ch.bx n0 b1 0 [(I a_0.1), (Sl aa_0_1 a_0.2.1 ca_0_1), (I a_0.2.2)] [] [], Ch.ro 0 (Sl aa_0_1 a_0.2.1 ca_0_1) a_0.2.1, Ch.ro 0 (Sl ab_1_1 b_1.2.1 cb_1_1) b_1.2.1]) from (H.sel' [2, 3, 0, 1, 2, 3] rfl rfl))) wn ?_
  rintro _ σ13 ⟨_, ⟨rfl, rfl⟩, H, -⟩
  replace H : Hp S0 σ0 σ13 [Ch.bx n0 b3 0 [(I b_1.1), (Sl ab_1_1 b_1.2.1 cb_1_1), (I b_1.2.2)] [] [], Ch.bx n0 b1 0 [(I a_0.1), (Sl aa_0_1 a_0.2.1 ca_0_1), (I a_0.2.2)] [] [], Ch.ro 0 (Sl aa_0_1 a_0.2.1 ca_0_1) a_0.2.1, Ch.ro 0 (Sl ab_1_1 b_1.2.1 cb_1_1) b_1.2.1] := H
  refine st (v := (B (!r10))) (rv_not rfl) ?_
  refine w_end ?_
  refine q_then ?_
  refine cd_cond (!r10) rfl (fun hb14 => ?_) (fun hb14 => ?_)
  ·replace h := bif_t hb14 h
   refine c_seq ?_
   refine rg ?_
   refine st (v := (B false)) (rv_assign rfl) ?_
   refine w_end ?_
   refine q_then ?_
   refine c_ret ?_
   refine q_then_r ?_
   obtain rfl := Option.some.inj h
   exact fin_ret (v := (B false)) (results_ok Try.results62 (res_tmp (v := (B false)) rfl res_nil) rfl) ⟨rfl, rfl⟩ (H.sel' [] rfl rfl)
  ·replace h := bif_f hb14 h
   refine c_skip ?_
   refine q_then ?_
   refine c_seq ?_
   refine c_seq ?_
   refine rg ?_
   refine st (v := (pt b1 2)) (rv_fieldAddr (off := 2) (ft := 3) Try.underlying63 rfl ti3 rfl rfl) ?_
   have hc15 := H.cell (u := (I a_0.2.2)) (o' := 2) 1 2 rfl rfl rfl
   refine st (v := (I a_0.2.2)) (rv_load1 Try.underlying3 rfl rfl hc15) ?_
   refine st (v := (pt b3 2)) (rv_fieldAddr (off := 2) (ft := 3) Try.underlying63 rfl ti3 rfl rfl) ?_
   have hc16 := H.cell (u := (I b_1.2.2)) (o' := 2) 0 2 rfl rfl rfl
   refine st (v := (I b_1.2.2)) (rv_load1 Try.underlying3 rfl rfl hc16) ?_
   refine st (v := (B (a_0.2.2 != b_1.2.2))) (rv_neq (a := a_0.2.2) (b := b_1.2.2) rfl rfl) ?_
   refine w_end ?_
   refine q_then ?_
   refine cd_cond (a_0.2.2 != b_1.2.2) rfl (fun hb17 => ?_) (fun hb17 => ?_)
   ·replace h := bif_t hb17 h
    refine c_seq ?_
    refine rg ?_
    refine st (v := (B false)) (rv_assign rfl) ?_
    refine w_end ?_
    refine q_then ?_
    refine c_ret ?_
    refine q_then_r ?_
    obtain rfl := Option.some.inj h
    exact fin_ret (v := (B false)) (results_ok Try.results62 (res_tmp (v := (B false)) rfl res_nil) rfl) ⟨rfl, rfl⟩ (H.sel' [] rfl rfl)
   ·replace h := bif_f hb17 h
    refine c_skip ?_
    refine q_then ?_
    refine c_seq ?_
    refine rg ?_
    refine st (v := (B true)) (rv_assign rfl) ?_
    refine w_end ?_
    refine q_then ?_
    refine c_ret ?_
    obtain rfl := Option.some.inj h
    exact fin_ret (v := (B true)) (results_ok Try.results62 (res_tmp (v := (B true)) rfl res_nil) rfl) ⟨rfl, rfl⟩ (H.sel' [] rfl rfl)

theorem c_laws_eqItemS {a_0 : List (Int × (List Int) × Int)} {b_1 : List (Int × (List Int) × Int)} {aa_0 : Option Addr} {ca_0 : Nat} {ab_1 : Option Addr} {cb_1 : Nat} {r : Bool} (h : M.laws_eqItemS a_0 b_1 = some r) :
    Cal2 Try.prog 29 [(Sl aa_0 a_0 ca_0), (Sl ab_1 b_1 cb_1)] [Ch.ro 0 (Sl aa_0 a_0 ca_0) a_0, Ch.ro 0 (Sl ab_1 b_1 cb_1) b_1] (fun n0 v L => v = (B r) ∧ L = []) := by
 refine cal2 (n := 27) Try.func29 rfl rfl rfl rfl ?_
 intro S0 σ0 n0 hn0 H
 unfold M.laws_eqItemS at h
 refine c_seq ?_
 refine rg ?_
 refine st (v := (B false)) (rv_assign rfl) ?_
 refine w_end ?_
 refine q_then ?_
 refine c_seq ?_
 refine c_seq ?_
 refine rg ?_
 refine st (v := (Sl aa_0 a_0 ca_0)) (rv_move rfl) ?_
 refine st (v := (I (a_0.length : Int))) (rv_len Try.underlying37 rfl) ?_
 refine st (v := (Sl ab_1 b_1 cb_1)) (rv_move rfl) ?_
 refine st (v := (I (b_1.length : Int))) (rv_len Try.underlying37 rfl) ?_
 refine st (v := (B ((a_0.length : Int) != (b_1.length : Int)))) (rv_neq (a := (a_0.length : Int)) (b := (b_1.length : Int)) rfl rfl) ?_
 refine w_end ?_
 refine q_then ?_
 refine cd_cond ((a_0.length : Int) != (b_1.length : Int)) rfl (fun hb1 => ?_) (fun hb1 => ?_)
 ·replace h := bif_t hb1 h
  refine c_seq ?_
  refine rg ?_
  refine st (v := (B false)) (rv_assign rfl) ?_
  refine w_end ?_
  refine q_then ?_
  refine c_ret ?_
  refine q_then_r ?_
  obtain rfl := Option.some.inj h
  exact fin_ret (v := (B false)) (results_ok Try.results29 (res_tmp (v := (B false)) rfl res_nil) rfl) ⟨rfl, rfl⟩ (H.sel' [] rfl rfl)
 ·replace h := bif_f hb1 h
  refine c_skip ?_
  refine q_then ?_
  refine c_seq ?_
  refine c_seq ?_
  refine rg ?_
  refine st (v := (I 0)) (rv_assign rfl) ?_
  refine w_end ?_
  refine q_then ?_
  obtain ⟨o2, hj, h'⟩ := bind_some h
  clear h
  refine c_cut (fun e a w => (∃ t, o2 = (.inl t) ∧ e = .normal ∧ ∃ (ρ : Nat → Value) (σ : St), a = fr 27 (updL ρ []) ∧ w = σ.w ∧ Hp S0 σ0 σ []) ∨ (∃ t, o2 = (.inr t) ∧ e = .ret ∧ ∃ (ρ : Nat → Value) (σ : St), a = fr 27 (updL ρ [(4, (B t))]) ∧ w = σ.w ∧ Hp S0 σ0 σ [])) ?_ ?_
  ·clear h'
   rename _ = some o2 => h
   refine c_blk ?_
   refine wp_loopM _ h (fun s3 a w => ∃ (ρ : Nat → Value) (σ : St), a = fr 27 (updL ρ [(0, (Sl aa_0 a_0 ca_0)), (1, (Sl ab_1 b_1 cb_1)), (5, (I s3))]) ∧ w = σ.w ∧ Hp S0 σ0 σ [Ch.ro 0 (Sl aa_0 a_0 ca_0) a_0, Ch.ro 0 (Sl ab_1 b_1 cb_1) b_1]) ⟨_, σ0, fr_join ⟨rfl, rfl, rfl, trivial⟩, rfl, H.sel' [0, 1] rfl rfl⟩ ?_
   clear h H
   rintro s3 a w o ⟨ρ, σ4, rfl, rfl, H⟩ h hres
   refine c_seq ?_
   refine c_seq ?_
   refine rg ?_
   refine st (v := (I s3)) (rv_move rfl) ?_
   refine st (v := (Sl aa_0 a_0 ca_0)) (rv_move rfl) ?_
   refine st (v := (I (a_0.length : Int))) (rv_len Try.underlying37 rfl) ?_
   refine st (v := (B (decide (s3 < (a_0.length : Int))))) (rv_lss (a := s3) (b := (a_0.length : Int)) rfl rfl) ?_
   refine w_end ?_
   refine q_then ?_
   refine cd_cond (decide (s3 < (a_0.length : Int))) rfl (fun hb5 => ?_) (fun hb5 => ?_)
   ·replace h := bif_t hb5 h
    refine c_skip ?_
    refine q_then ?_
    refine c_seq ?_
    refine c_blk ?_
    refine c_seq ?_
    refine rgP (σ := σ4) 8 (by kernel_rfl) (by kernel_rfl) (by kernel_rfl) ?_
    refine sq (v := (Sl aa_0 a_0 ca_0)) (rv_move rfl) ?_
    refine sq (v := (I s3)) (rv_move rfl) ?_
    obtain ⟨x6, hx7, h'⟩ := bind_some h
    clear h
    have h := h'; clear h'
    obtain ⟨b9, o10, hi8, -⟩ := (H.ro 0 rfl).ix hx7
    refine sq (v := (pt b9 o10)) (rv_ix Try.underlying37 ti63 rfl rfl hi8) ?_
    obtain ⟨_, ⟨_, _, rfl, rfl, ⟨_, _, rfl, ⟨_, rfl, hR15⟩, rfl⟩⟩, hl11, hc12⟩ := ((H.ro 0 rfl).at hx7 hi8).cells
    obtain ⟨a13, c14, rfl⟩ := hR15.isSl
    replace H := H.add (d := Ch.ro 0 (Sl a13 x6.2.1 c14) x6.2.1) hR15 (fun _ h => h)
    clear hR15
    refine sq (v := (.agg #[(I x6.1), (Sl a13 x6.2.1 c14), (I x6.2.2)])) (rv_load Try.underlying63 rfl ti63 rfl hl11 hc12) ?_
    refine sq (v := (Sl ab_1 b_1 cb_1)) (rv_move rfl) ?_
    refine sq (v := (I s3)) (rv_move rfl) ?_
    obtain ⟨x16, hx17, h'⟩ := bind_some h
    clear h
    have h := h'; clear h'
    obtain ⟨b19, o20, hi18, -⟩ := (H.ro 2 rfl).ix hx17
    refine sq (v := (pt b19 o20)) (rv_ix Try.underlying37 ti63 rfl rfl hi18) ?_
    obtain ⟨_, ⟨_, _, rfl, rfl, ⟨_, _, rfl, ⟨_, rfl, hR25⟩, rfl⟩⟩, hl21, hc22⟩ := ((H.ro 2 rfl).at hx17 hi18).cells
    obtain ⟨a23, c24, rfl⟩ := hR25.isSl
    replace H := H.add (d := Ch.ro 0 (Sl a23 x16.2.1 c24) x16.2.1) hR25 (fun _ h => h)
    clear hR25
    refine sq (v := (.agg #[(I x16.1), (Sl a23 x16.2.1 c24), (I x16.2.2)])) (rv_load Try.underlying63 rfl ti63 rfl hl21 hc22) ?_
    refine sq_end ?_
    intro σ26 hm27
    replace H := H.grow (hm27.mono fun _ h => h); clear hm27
    obtain ⟨r28, hx29, h'⟩ := bind_some h
    clear h
    have h := h'; clear h'
    have hc30 := c_laws_eqItem (aa_0_1 := a13) (ca_0_1 := c14) (ab_1_1 := a23) (cb_1_1 := c24) hx29
    refine st_call (cx_call hc30 (ent_f hc30.fn rfl) hn0 (show Hp S0 σ0 _ ([Ch.ro 0 (Sl a13 x6.2.1 c14) x6.2.1, Ch.ro 0 (Sl a23 x16.2.1 c24) x16.2.1] ++ [Ch.ro 0 (Sl a23 x16.2.1 c24) x16.2.1, Ch.ro 0 (Sl a13 x6.2.1 c14) x6.2.1, Ch.ro 0 (Sl aa_0 a_0 ca_0) a_0, Ch.ro 0 (Sl ab_1 b_1 cb_1) b_1]) from (H.sel' [1, 0, 0, 1, 2, 3] rfl rfl))) wn ?_
    rintro _ σ31 ⟨_, ⟨rfl, rfl⟩, H, -⟩
    replace H : Hp S0 σ0 σ31 [Ch.ro 0 (Sl a23 x16.2.1 c24) x16.2.1, Ch.ro 0 (Sl a13 x6.2.1 c14) x6.2.1, Ch.ro 0 (Sl aa_0 a_0 ca_0) a_0, Ch.ro 0 (Sl ab_1 b_1 cb_1) b_1] := H
    refine st (v := (B (!r28))) (rv_not rfl) ?_
    refine w_end ?_
    refine q_then ?_
    refine cd_cond (!r28) rfl (fun hb32 => ?_) (fun hb32 => ?_)
    ·replace h := bif_t hb32 h
     refine c_seq ?_
     refine rg ?_
     refine st (v := (B false)) (rv_assign rfl) ?_
     refine w_end ?_
     refine q_then ?_
     refine c_ret ?_
     refine q_blk_r ?_
     refine q_then_r ?_
     refine q_then_r ?_
     refine q_blk_r ?_
     obtain rfl := Option.some.inj h
     obtain rfl := hres _ rfl
     exact .inr (⟨_, rfl, rfl, _, σ31, fr_join ⟨rfl, trivial⟩, rfl, H.sel' [] rfl rfl⟩)
    ·replace h := bif_f hb32 h
     refine c_skip ?_
     refine q_blk ?_
     refine q_then ?_
     refine rg ?_
     refine st (v := (I s3)) (rv_move rfl) ?_
     refine st (v := (I (w64 (s3 + 1)))) (rv_add (a := s3) (b := 1) rfl rfl) ?_
     refine st (v := (I (w64 (s3 + 1)))) (rv_assign rfl) ?_
     refine w_end ?_
     refine q_then ?_
     obtain rfl := Option.some.inj h
     exact ⟨_, rfl, _, σ31, fr_join ⟨rfl, rfl, rfl, trivial⟩, rfl, H.sel' [2, 3] rfl rfl⟩
   ·replace h := bif_f hb5 h
    refine c_exit ?_
    refine q_then_x ?_
    refine q_then_x ?_
    refine q_blk_hit ?_
    obtain rfl := Option.some.inj h
    obtain rfl := hres _ rfl
    exact .inl ⟨_, rfl, rfl, _, σ4, fr_join trivial, rfl, H.sel' [] rfl rfl⟩
  ·clear hj
   have h := h'
   clear h' H
   rintro e a w (⟨t33, rfl, rfl, ρ, σ34, rfl, rfl, H⟩ | ⟨t35, rfl, rfl, ρ, σ36, rfl, rfl, H⟩)
   ·replace h := selim_l h
    refine q_then ?_
    refine c_seq ?_
    refine rg ?_
    refine st (v := (B true)) (rv_assign rfl) ?_
    refine w_end ?_
    refine q_then ?_
    refine c_ret ?_
    obtain rfl := Option.some.inj h
    exact fin_ret (v := (B true)) (results_ok Try.results29 (res_tmp (v := (B true)) rfl res_nil) rfl) ⟨rfl, rfl⟩ (H.sel' [] rfl rfl)
   ·replace h := selim_r h
    refine q_then_r ?_
    obtain rfl := Option.some.inj h
    exact fin_ret (v := (B t35)) (results_ok Try.results29 (res_tmp (v := (B t35)) rfl res_nil) rfl) ⟨rfl, rfl⟩ (H.sel' [] rfl rfl)

theorem c_laws_markItemS {a_0 : List (Int × (List Int) × Int)} {k_1 : Int} {aa_0 : Option Addr} {ca_0 : Nat} {lo : Nat} {K : List Ch} (hK : Dp lo (Sl aa_0 a_0 ca_0) a_0 K) {r : Int} (h : M.markItemD a_0 k_1 = some r) :
    Cal2 Try.prog 30 [(Sl aa_0 a_0 ca_0), (I k_1)] [Ch.big K] (fun n0 v L => v = (I r) ∧ L = []) := by
 obtain ⟨hn, h⟩ := markItemD_some h
 obtain ⟨ps, hps, rfl⟩ := hK.ex
 refine cal2 (n := 34) Try.func30 rfl rfl rfl rfl ?_
 intro S0 σ0 n0 hn0 H
 refine c_seq ?_
 refine rg ?_
 refine st (v := (I 0)) (rv_assign rfl) ?_
 refine w_end ?_
 refine q_then ?_
 refine c_seq ?_
 refine c_seq ?_
 refine rg ?_
 refine st (v := (I 0)) (rv_assign rfl) ?_
 refine w_end ?_
 refine q_then ?_
 refine c_cut (fun e a w => e = .normal ∧ ∃ (ρ : Nat → Value) (σ : St), a = fr 34 (updL ρ [(1, (I r))]) ∧ w = σ.w ∧ Hp S0 σ0 σ []) ?_ ?_
 ·refine c_blk ?_
  have hlen : ps.length = a_0.length := by rw [hps]; simp
  refine wp_loop_ghost (fun m a w => ∃ (i : Nat) (ρ : Nat → Value) (σ : St) (ys : List (Int × Value × Int)) (qs : List ((Int × (List Int) × Int) × Value)) (k : Int), i + m = a_0.length ∧ qs.length = m ∧ ys.drop i = qs.map dsh ∧ M.dmarkItemS (qs.map (·.1)) k = some r ∧ a = fr 34 (updL ρ [(0, (Sl aa_0 a_0 ca_0)), (1, (I k)), (5, (I (i : Int)))]) ∧ w = σ.w ∧ Hp S0 σ0 σ [Ch.own lo lo (Sl aa_0 a_0 ca_0) ys, Ch.big (qs.map (dow lo))]) a_0.length ⟨0, _, σ0, _, ps, k_1, by omega, hlen, rfl, hps ▸ h, fr_join ⟨rfl, rfl, rfl, trivial⟩, rfl, H.unbig⟩ ?_
  clear H
  rintro m _ _ ⟨i, ρ, σ3, ys, qs, k, him, hqs, hys, hk, rfl, rfl, H⟩
  refine c_seq ?_
  refine c_seq ?_
  refine rg ?_
  refine st (v := (I (i : Int))) (rv_move rfl) ?_
  refine st (v := (Sl aa_0 a_0 ca_0)) (rv_move rfl) ?_
  refine st (v := (I (a_0.length : Int))) (rv_len Try.underlying37 rfl) ?_
  refine st (v := (B (decide ((i : Int) < (a_0.length : Int))))) (rv_lss (a := (i : Int)) (b := (a_0.length : Int)) rfl rfl) ?_
  refine w_end ?_
  refine q_then ?_
  refine cd_cond (decide ((i : Int) < (a_0.length : Int))) rfl (fun hb => ?_) (fun hb => ?_)
  ·have hlt : i < a_0.length := by have := of_decide_eq_true hb; omega
   obtain ⟨m, rfl⟩ : ∃ m', m = m' + 1 := ⟨m - 1, by omega⟩
   obtain ⟨p, qs, rfl⟩ : ∃ p qs', qs = p :: qs' := by cases qs with
    | nil => cases hqs
    | cons p qs => exact ⟨p, qs, rfl⟩
   obtain ⟨q, hq, hk'⟩ := bind_some (show (M.laws_markIntS p.1.2.1 (w64 (k + 1))).bind (fun q => M.dmarkItemS (qs.map (·.1)) (w64 (q.1 + 1))) = some r from hk)
   replace hys : ys.drop i = dsh p :: qs.map dsh := hys
   refine c_skip ?_
   refine q_then ?_
   refine c_seq ?_
   refine c_blk ?_
   refine c_seq ?_
   refine rg ?_
   refine st (v := (Sl aa_0 a_0 ca_0)) (rv_move rfl) ?_
   refine st (v := (I (i : Int))) (rv_move rfl) ?_
   refine st (v := (I k)) (rv_move rfl) ?_
   have hx7 := gidx_drop hys
   obtain ⟨b9, o10, hi8, -⟩ := (H.own 0 rfl).ix hx7
   refine st (v := (pt b9 o10)) (rv_ix Try.underlying37 ti63 rfl rfl hi8) ?_
   refine st (v := (pt b9 (o10 + 0))) (rv_fieldAddr (off := 0) (ft := 3) Try.underlying63 rfl ti3 rfl rfl) ?_
   refine st_exS (ex_store_own (e' := ((k, p.2, p.1.2.2) : Int × Value × Int)) (vs := [(I k)]) (k := 0) H (i := 0) rfl ti3 hx7 hi8 rfl rfl rfl rfl rfl (Nat.le_of_ble_eq_true rfl) (by simp [plain]) (by rintro _ ⟨_, _, rfl, rfl, ⟨_, _, rfl, ⟨rfl, hpl⟩, rfl⟩⟩; exact ⟨[(I k)], [p.2, (I p.1.2.2)], rfl, rfl, ⟨[p.2], [(I p.1.2.2)], rfl, ⟨rfl, hpl⟩, rfl⟩⟩)) (wanted_none _ rfl _) ?_
   rintro σ11 ⟨H, -⟩
   refine w_end ?_
   refine q_then ?_
   refine c_seq ?_
   refine rg ?_
   refine st (v := (I k)) (rv_move rfl) ?_
   refine st (v := (I (w64 (k + 1)))) (rv_add (a := k) (b := 1) rfl rfl) ?_
   refine st (v := (I (w64 (k + 1)))) (rv_assign rfl) ?_
   refine w_end ?_
   refine q_then ?_
   refine c_seq ?_
   refine rg ?_
   replace hys := drop_set (e' := ((k, p.2, p.1.2.2) : Int × Value × Int)) hys
   rw [Int.toNat_natCast] at H
   generalize ys.set i ((k, p.2, p.1.2.2) : Int × Value × Int) = ys at H hys
   have hx7 := gidx_drop hys
   refine st (v := (Sl aa_0 a_0 ca_0)) (rv_move rfl) ?_
   refine st (v := (I (i : Int))) (rv_move rfl) ?_
   obtain ⟨b9, o10, hi8, -⟩ := (H.own 0 rfl).ix hx7
   refine st (v := (pt b9 o10)) (rv_ix Try.underlying37 ti63 rfl rfl hi8) ?_
   refine st (v := (pt b9 (o10 + 1))) (rv_fieldAddr (off := 1) (ft := 24) Try.underlying63 rfl ti24 rfl rfl) ?_
   obtain ⟨_, ⟨_, _, rfl, rfl, ⟨_, _, rfl, ⟨rfl, hpl⟩, rfl⟩⟩, hl18, hc19⟩ := ((H.own 0 rfl).at hx7 hi8).cells
   replace H := Hp.unbig (H.sel' [1, 0] rfl rfl)
   obtain ⟨a20, c21, h22⟩ : IsSl p.2 p.1.2.1.length := (show Ow σ11 lo lo p.2 p.1.2.1 from H.head).isSl
   obtain ⟨px, hd⟩ := p
   dsimp only at h22 hq hys hc19
   subst h22
   have hc20 := hc19 1 (by simp)
   refine st (v := (Sl a20 px.2.1 c21)) (rv_load1 Try.underlying24 rfl rfl hc20) ?_
   refine st (v := (I (w64 (k + 1)))) (rv_move rfl) ?_
   replace H : Hp S0 σ0 σ11 [Ch.own lo lo (Sl a20 px.2.1 c21) px.2.1, Ch.big (qs.map (dow lo)), Ch.own lo lo (Sl aa_0 a_0 ca_0) ys] := H
   replace H := H.ownSc 0 0 0 rfl (Nat.zero_le _)
   have hc25 := c_laws_markIntS (aa_0 := a20) (ca_0 := c21) hq
   refine st_call (cx_call hc25 (ent_f hc25.fn rfl) hn0 (H.sel' [0, 1, 2] rfl rfl : Hp S0 σ0 _ ([_] ++ _))) (wanted_none _ rfl _) ?_
   rintro _ σ29 ⟨_, ⟨rfl, rfl, -⟩, H, -⟩
   replace H : Hp S0 σ0 σ29 [Ch.own 0 0 (Sl a20 q.2 c21) q.2, Ch.big (qs.map (dow lo)), Ch.own lo lo (Sl aa_0 a_0 ca_0) ys] := H
   replace H := H.sel' [2, 1] rfl rfl
   refine st (v := (I q.1)) (rv_assign rfl) ?_
   refine w_end ?_
   refine q_then ?_
   refine c_seq ?_
   refine rg ?_
   refine st (v := (Sl aa_0 a_0 ca_0)) (rv_move rfl) ?_
   refine st (v := (I (i : Int))) (rv_move rfl) ?_
   refine st (v := (I q.1)) (rv_move rfl) ?_
   obtain ⟨b9, o10, hi8, -⟩ := (H.own 0 rfl).ix hx7
   refine st (v := (pt b9 o10)) (rv_ix Try.underlying37 ti63 rfl rfl hi8) ?_
   refine st (v := (pt b9 (o10 + 2))) (rv_fieldAddr (off := 2) (ft := 3) Try.underlying63 rfl ti3 rfl rfl) ?_
   refine st_exS (ex_store_own (e' := ((k, (Sl a20 px.2.1 c21), q.1) : Int × Value × Int)) (vs := [(I q.1)]) (k := 2) H (i := 0) rfl ti3 hx7 hi8 rfl rfl rfl rfl rfl (Nat.le_of_ble_eq_true rfl) (by simp [plain]) (by rintro _ ⟨_, _, rfl, rfl, ⟨_, _, rfl, ⟨rfl, hpl⟩, rfl⟩⟩; exact ⟨[(I k)], [(Sl a20 px.2.1 c21), (I q.1)], rfl, rfl, ⟨[(Sl a20 px.2.1 c21)], [(I q.1)], rfl, ⟨rfl, hpl⟩, rfl⟩⟩)) (wanted_none _ rfl _) ?_
   rintro σ30 ⟨H, -⟩
   refine w_end ?_
   refine q_then ?_
   refine rg ?_
   refine st (v := (I q.1)) (rv_move rfl) ?_
   refine st (v := (I (w64 (q.1 + 1)))) (rv_add (a := q.1) (b := 1) rfl rfl) ?_
   refine st (v := (I (w64 (q.1 + 1)))) (rv_assign rfl) ?_
   refine w_end ?_
   refine q_blk ?_
   refine q_then ?_
   refine rg ?_
   refine st (v := (I (i : Int))) (rv_move rfl) ?_
   refine st (v := (I (w64 ((i : Int) + 1)))) (rv_add (a := (i : Int)) (b := 1) rfl rfl) ?_
   refine st (v := (I (w64 ((i : Int) + 1)))) (rv_assign rfl) ?_
   refine w_end ?_
   have e1 : w64 ((i : Int) + 1) = ((i + 1 : Nat) : Int) := w64_id (by omega) (by omega)
   rw [e1]
   refine q_then ?_
   rw [Int.toNat_natCast] at H
   exact ⟨m, by omega, i + 1, _, σ30, _, qs, _, by omega, by simpa using hqs, drop_next (drop_set hys), hk', fr_join ⟨rfl, rfl, rfl, trivial⟩, rfl, H⟩
  ·have hlt : ¬ i < a_0.length := by have := of_decide_eq_false hb; omega
   obtain rfl : m = 0 := by omega
   obtain rfl : qs = [] := List.eq_nil_of_length_eq_zero hqs
   obtain rfl : k = r := Option.some.inj hk
   refine c_exit ?_
   refine q_then_x ?_
   refine q_then_x ?_
   refine q_blk_hit ?_
   exact ⟨rfl, _, σ3, fr_join ⟨rfl, trivial⟩, rfl, H.sel' [] rfl rfl⟩
 ·clear H
  rintro e a w ⟨rfl, ρ, σ41, rfl, rfl, H⟩
  refine q_then ?_
  refine c_seq ?_
  refine rg ?_
  refine st (v := (I r)) (rv_move rfl) ?_
  refine st (v := (I r)) (rv_assign rfl) ?_
  refine w_end ?_
  refine q_then ?_
  refine c_ret ?_
  exact fin_ret (v := (I r)) (results_ok Try.results30 (res_tmp (v := (I r)) rfl res_nil) rfl) ⟨rfl, rfl⟩ H


theorem c_laws_FnExactInBox {aList_0 : List (Int × (List Int) × Int)} {aLow_1 : List Int} {aHigh_2 : List Int} {aaList_0 : Option Addr} {caList_0 : Nat} {aaLow_1 : Option Addr} {caLow_1 : Nat} {aaHigh_2 : Option Addr} {caHigh_2 : Nat} {r : Bool} (h : M.laws_FnExactInBox aList_0 aLow_1 aHigh_2 = some r) :
    Cal2 Try.prog 5 [(Sl aaList_0 aList_0 caList_0), (Sl aaLow_1 aLow_1 caLow_1), (Sl aaHigh_2 aHigh_2 caHigh_2)] [Ch.ro 0 (Sl aaList_0 aList_0 caList_0) aList_0, Ch.ro 0 (Sl aaLow_1 aLow_1 caLow_1) aLow_1, Ch.ro 0 (Sl aaHigh_2 aHigh_2 caHigh_2) aHigh_2] (fun n0 v L => v = (B r) ∧ L = []) := by
 refine cal2 (n := 111) Try.func5 rfl rfl rfl rfl ?_
 intro S0 σ0 n0 hn0 H
 unfold M.laws_FnExactInBox at h
 refine c_seq ?_
 refine rg ?_
 refine st (v := (B false)) (rv_assign rfl) ?_
 refine w_end ?_
 refine q_then ?_
 refine c_seq ?_
 refine c_seq ?_
 refine rg ?_
 refine st (v := (Sl aaLow_1 aLow_1 caLow_1)) (rv_move rfl) ?_
 refine st (v := (I (aLow_1.length : Int))) (rv_len Try.underlying24 rfl) ?_
 refine st (v := (B (decide (1048576 < (aLow_1.length : Int))))) (rv_gtr (a := (aLow_1.length : Int)) (b := 1048576) rfl rfl) ?_
 refine w_end ?_
 refine q_then ?_
 refine cd_cond (decide (1048576 < (aLow_1.length : Int))) rfl (fun hb1 => ?_) (fun hb1 => ?_)
 ·replace h := bif_t hb1 h
  refine c_seq ?_
  refine rg ?_
  refine st (v := (B true)) (rv_assign rfl) ?_
  refine w_end ?_
  refine q_then ?_
  refine c_ret ?_
  refine q_then_r ?_
  obtain rfl := Option.some.inj h
  exact fin_ret (v := (B true)) (results_ok Try.results5 (res_tmp (v := (B true)) rfl res_nil) rfl) ⟨rfl, rfl⟩ (H.sel' [] rfl rfl)
 ·replace h := bif_f hb1 h
  refine c_skip ?_
  refine q_then ?_
  refine c_seq ?_
  refine c_seq ?_
  refine rg ?_
  refine st (v := (Sl aaHigh_2 aHigh_2 caHigh_2)) (rv_move rfl) ?_
  refine st (v := (I (aHigh_2.length : Int))) (rv_len Try.underlying24 rfl) ?_
  refine st (v := (B (decide (1048576 < (aHigh_2.length : Int))))) (rv_gtr (a := (aHigh_2.length : Int)) (b := 1048576) rfl rfl) ?_
  refine w_end ?_
  refine q_then ?_
  refine cd_cond (decide (1048576 < (aHigh_2.length : Int))) rfl (fun hb2 => ?_) (fun hb2 => ?_)
  ·replace h := bif_t hb2 h
   refine c_seq ?_
   refine rg ?_
   refine st (v := (B true)) (rv_assign rfl) ?_
   refine w_end ?_
   refine q_then ?_
   refine c_ret ?_
   refine q_then_r ?_
   obtain rfl := Option.some.inj h
   exact fin_ret (v := (B true)) (results_ok Try.results5 (res_tmp (v := (B true)) rfl res_nil) rfl) ⟨rfl, rfl⟩ (H.sel' [] rfl rfl)
  ·replace h := bif_f hb2 h
   refine c_skip ?_
   refine q_then ?_
   refine c_seq ?_
   refine rg ?_
   refine st (v := (I 1048576)) (rv_assign rfl) ?_
   refine w_end ?_
   refine q_then ?_
   refine c_seq ?_
   refine rg ?_
   refine st (v := (Sl aaList_0 aList_0 caList_0)) (rv_move rfl) ?_
   refine st (v := (I 1048576)) (rv_move rfl) ?_
   obtain ⟨r3, hx4, h'⟩ := bind_some h
   clear h
   have h := h'; clear h'
   have hc5 := c_laws_szItemS (aa_0 := aaList_0) (ca_0 := caList_0) hx4
   refine st_call (cx_call hc5 (ent_f hc5.fn rfl) hn0 (show Hp S0 σ0 _ ([Ch.ro 0 (Sl aaList_0 aList_0 caList_0) aList_0] ++ [Ch.ro 0 (Sl aaList_0 aList_0 caList_0) aList_0, Ch.ro 0 (Sl aaLow_1 aLow_1 caLow_1) aLow_1, Ch.ro 0 (Sl aaHigh_2 aHigh_2 caHigh_2) aHigh_2]) from (H.sel' [0, 0, 1, 2] rfl rfl))) wn ?_
   rintro _ σ6 ⟨_, ⟨rfl, rfl⟩, H, -⟩
   replace H : Hp S0 σ0 σ6 [Ch.ro 0 (Sl aaList_0 aList_0 caList_0) aList_0, Ch.ro 0 (Sl aaLow_1 aLow_1 caLow_1) aLow_1, Ch.ro 0 (Sl aaHigh_2 aHigh_2 caHigh_2) aHigh_2] := H
   refine st (v := (I r3)) (rv_assign rfl) ?_
   refine w_end ?_
   refine q_then ?_
   refine c_seq ?_
   refine c_seq ?_
   refine rg ?_
   refine st (v := (I r3)) (rv_move rfl) ?_
   refine st (v := (B (decide (r3 < 0)))) (rv_lss (a := r3) (b := 0) rfl rfl) ?_
   refine w_end ?_
   refine q_then ?_
   refine cd_cond (decide (r3 < 0)) rfl (fun hb7 => ?_) (fun hb7 => ?_)
   ·replace h := bif_t hb7 h
    refine c_seq ?_
    refine rg ?_
    refine st (v := (B true)) (rv_assign rfl) ?_
    refine w_end ?_
    refine q_then ?_
    refine c_ret ?_
    refine q_then_r ?_
    obtain rfl := Option.some.inj h
    exact fin_ret (v := (B true)) (results_ok Try.results5 (res_tmp (v := (B true)) rfl res_nil) rfl) ⟨rfl, rfl⟩ (H.sel' [] rfl rfl)
   ·replace h := bif_f hb7 h
    refine c_skip ?_
    refine q_then ?_
    refine c_seq ?_
    refine rg ?_
    refine st (v := (Sl aaList_0 aList_0 caList_0)) (rv_move rfl) ?_
    obtain ⟨r8, hx9, h'⟩ := bind_some h
    clear h
    have h := h'; clear h'
    have hc10 := c_laws_toItemS (aa_0 := aaList_0) (ca_0 := caList_0) hx9
    refine st_call (cx_call hc10 (ent_f hc10.fn rfl) hn0 (show Hp S0 σ0 _ ([Ch.ro 0 (Sl aaList_0 aList_0 caList_0) aList_0] ++ [Ch.ro 0 (Sl aaList_0 aList_0 caList_0) aList_0, Ch.ro 0 (Sl aaLow_1 aLow_1 caLow_1) aLow_1, Ch.ro 0 (Sl aaHigh_2 aHigh_2 caHigh_2) aHigh_2]) from (H.sel' [0, 0, 1, 2] rfl rfl))) wn ?_
    rintro _ σ15 ⟨_, ⟨a11, c12, K13, rfl, rfl, hK14⟩, H, -⟩
    replace H : Hp S0 σ0 σ15 [Ch.big K13, Ch.ro 0 (Sl aaList_0 aList_0 caList_0) aList_0, Ch.ro 0 (Sl aaLow_1 aLow_1 caLow_1) aLow_1, Ch.ro 0 (Sl aaHigh_2 aHigh_2 caHigh_2) aHigh_2] := H
    refine st (v := (Sl aaLow_1 aLow_1 caLow_1)) (rv_move rfl) ?_
    obtain ⟨r16, hx17, h'⟩ := bind_some h
    clear h
    have h := h'; clear h'
    have hc18 := c_laws_toIntS (aa_0 := aaLow_1) (ca_0 := caLow_1) hx17
    refine st_call (cx_call hc18 (ent_f hc18.fn rfl) hn0 (show Hp S0 σ0 _ ([Ch.ro 0 (Sl aaLow_1 aLow_1 caLow_1) aLow_1] ++ [Ch.big K13, Ch.ro 0 (Sl aaList_0 aList_0 caList_0) aList_0, Ch.ro 0 (Sl aaLow_1 aLow_1 caLow_1) aLow_1, Ch.ro 0 (Sl aaHigh_2 aHigh_2 caHigh_2) aHigh_2]) from (H.sel' [2, 0, 1, 2, 3] rfl rfl))) wn ?_
    rintro _ σ22 ⟨_, ⟨a19, c20, rfl, rfl, ht21⟩, H, -⟩
    replace H : Hp S0 σ0 σ22 [Ch.own n0 n0 (Sl a19 r16 c20) r16, Ch.big K13, Ch.ro 0 (Sl aaList_0 aList_0 caList_0) aList_0, Ch.ro 0 (Sl aaLow_1 aLow_1 caLow_1) aLow_1, Ch.ro 0 (Sl aaHigh_2 aHigh_2 caHigh_2) aHigh_2] := H
    refine st (v := (Sl aaHigh_2 aHigh_2 caHigh_2)) (rv_move rfl) ?_
    obtain ⟨r23, hx24, h'⟩ := bind_some h
    clear h
    have h := h'; clear h'
    have hc25 := c_laws_toIntS (aa_0 := aaHigh_2) (ca_0 := caHigh_2) hx24
    refine st_call (cx_call hc25 (ent_f hc25.fn rfl) hn0 (show Hp S0 σ0 _ ([Ch.ro 0 (Sl aaHigh_2 aHigh_2 caHigh_2) aHigh_2] ++ [Ch.own n0 n0 (Sl a19 r16 c20) r16, Ch.big K13, Ch.ro 0 (Sl aaList_0 aList_0 caList_0) aList_0, Ch.ro 0 (Sl aaLow_1 aLow_1 caLow_1) aLow_1, Ch.ro 0 (Sl aaHigh_2 aHigh_2 caHigh_2) aHigh_2]) from (H.sel' [4, 0, 1, 2, 3, 4] rfl rfl))) wn ?_
    rintro _ σ29 ⟨_, ⟨a26, c27, rfl, rfl, ht28⟩, H, -⟩
    replace H : Hp S0 σ0 σ29 [Ch.own n0 n0 (Sl a26 r23 c27) r23, Ch.own n0 n0 (Sl a19 r16 c20) r16, Ch.big K13, Ch.ro 0 (Sl aaList_0 aList_0 caList_0) aList_0, Ch.ro 0 (Sl aaLow_1 aLow_1 caLow_1) aLow_1, Ch.ro 0 (Sl aaHigh_2 aHigh_2 caHigh_2) aHigh_2] := H
    obtain ⟨σ30, hw31, H, -⟩ := H.pub 1 rfl (Nat.le_refl _)
    rw [← hw31]; clear hw31
    obtain ⟨σ32, hw33, H, -⟩ := H.pub 1 rfl (Nat.le_refl _)
    rw [← hw33]; clear hw33
    replace H := H.roLow 1 0 rfl (Nat.zero_le _)
    replace H := H.roLow 1 0 rfl (Nat.zero_le _)
    obtain ⟨r34, hx35, h'⟩ := bind_some h
    clear h
    have h := h'; clear h'
    have hc36 := c_spec_InBox (alist_0 := a11) (clist_0 := c12) (alow_1 := a19) (clow_1 := c20) (ahigh_2 := a26) (chigh_2 := c27) hx35
    have hle := Nat.le_trans hn0 H.size
    refine st_call (cx_lend (Loan.lendB hK14.lends (Loan.same (Loan.same Loan.nil))) hc36 (ent_f hc36.fn rfl) (show Hp S0 σ0 _ ([Ch.big K13] ++ ([Ch.ro 0 (Sl a19 r16 c20) r16, Ch.ro 0 (Sl a26 r23 c27) r23] ++ [Ch.ro 0 (Sl a26 r23 c27) r23, Ch.ro 0 (Sl a19 r16 c20) r16, Ch.ro n0 (Sl a26 r23 c27) r23, Ch.ro n0 (Sl a19 r16 c20) r16, Ch.ro 0 (Sl aaList_0 aList_0 caList_0) aList_0, Ch.ro 0 (Sl aaLow_1 aLow_1 caLow_1) aLow_1, Ch.ro 0 (Sl aaHigh_2 aHigh_2 caHigh_2) aHigh_2])) from (H.sel' [4, 1, 0, 0, 1, 2, 3, 5, 6, 7] rfl rfl)) (by rintro _ _ _ ⟨_, _, rfl, rfl⟩; exact ⟨Ab.ownSc, trivial⟩)) wn ?_
    rintro _ σ39 ⟨_, ⟨a37, c38, rfl, rfl⟩, H, -, -⟩
    replace H : Hp S0 σ0 σ39 [Ch.own σ32.size σ32.size (Sl a37 r34 c38) r34, Ch.big K13, Ch.ro 0 (Sl a26 r23 c27) r23, Ch.ro 0 (Sl a19 r16 c20) r16, Ch.ro n0 (Sl a26 r23 c27) r23, Ch.ro n0 (Sl a19 r16 c20) r16, Ch.ro 0 (Sl aaList_0 aList_0 caList_0) aList_0, Ch.ro 0 (Sl aaLow_1 aLow_1 caLow_1) aLow_1, Ch.ro 0 (Sl aaHigh_2 aHigh_2 caHigh_2) aHigh_2] := H
    replace H := H.ownLow 0 n0 n0 rfl hle hle
    clear hle
    replace H : Hp S0 σ0 σ39 [Ch.own n0 n0 (Sl a37 r34 c38) r34, Ch.big K13, Ch.ro 0 (Sl a26 r23 c27) r23, Ch.ro 0 (Sl a19 r16 c20) r16, Ch.ro n0 (Sl a26 r23 c27) r23, Ch.ro n0 (Sl a19 r16 c20) r16, Ch.ro 0 (Sl aaList_0 aList_0 caList_0) aList_0, Ch.ro 0 (Sl aaLow_1 aLow_1 caLow_1) aLow_1, Ch.ro 0 (Sl aaHigh_2 aHigh_2 caHigh_2) aHigh_2] := H
    replace H : Hp S0 σ0 σ39 [Ch.own n0 n0 (Sl a37 r34 c38) r34, Ch.ro 0 (Sl aaList_0 aList_0 caList_0) aList_0, Ch.ro 0 (Sl aaLow_1 aLow_1 caLow_1) aLow_1, Ch.ro 0 (Sl aaHigh_2 aHigh_2 caHigh_2) aHigh_2] := H.sel' [0, 6, 7, 8] rfl rfl
    refine st (v := (Sl a37 r34 c38)) (rv_assign rfl) ?_
    refine w_end ?_
    refine q_then ?_
    refine c_seq ?_
    refine rg ?_
    refine st (v := (Sl aaList_0 aList_0 caList_0)) (rv_move rfl) ?_
    obtain ⟨r40, hx41, h'⟩ := bind_some h
    clear h
    have h := h'; clear h'
    have hc42 := c_laws_toItemS (aa_0 := aaList_0) (ca_0 := caList_0) hx41
    refine st_call (cx_call hc42 (ent_f hc42.fn rfl) hn0 (show Hp S0 σ0 _ ([Ch.ro 0 (Sl aaList_0 aList_0 caList_0) aList_0] ++ [Ch.own n0 n0 (Sl a37 r34 c38) r34, Ch.ro 0 (Sl aaList_0 aList_0 caList_0) aList_0, Ch.ro 0 (Sl aaLow_1 aLow_1 caLow_1) aLow_1, Ch.ro 0 (Sl aaHigh_2 aHigh_2 caHigh_2) aHigh_2]) from (H.sel' [1, 0, 1, 2, 3] rfl rfl))) wn ?_
    rintro _ σ47 ⟨_, ⟨a43, c44, K45, rfl, rfl, hK46⟩, H, -⟩
    replace H : Hp S0 σ0 σ47 [Ch.big K45, Ch.own n0 n0 (Sl a37 r34 c38) r34, Ch.ro 0 (Sl aaList_0 aList_0 caList_0) aList_0, Ch.ro 0 (Sl aaLow_1 aLow_1 caLow_1) aLow_1, Ch.ro 0 (Sl aaHigh_2 aHigh_2 caHigh_2) aHigh_2] := H
    refine st (v := (Sl a43 r40 c44)) (rv_assign rfl) ?_
    refine w_end ?_
    refine q_then ?_
    refine c_seq ?_
    refine rg ?_
    refine st (v := (Sl aaLow_1 aLow_1 caLow_1)) (rv_move rfl) ?_
    obtain ⟨r48, hx49, h'⟩ := bind_some h
    clear h
    have h := h'; clear h'
    have hc50 := c_laws_toIntS (aa_0 := aaLow_1) (ca_0 := caLow_1) hx49
    refine st_call (cx_call hc50 (ent_f hc50.fn rfl) hn0 (show Hp S0 σ0 _ ([Ch.ro 0 (Sl aaLow_1 aLow_1 caLow_1) aLow_1] ++ [Ch.big K45, Ch.own n0 n0 (Sl a37 r34 c38) r34, Ch.ro 0 (Sl aaList_0 aList_0 caList_0) aList_0, Ch.ro 0 (Sl aaLow_1 aLow_1 caLow_1) aLow_1, Ch.ro 0 (Sl aaHigh_2 aHigh_2 caHigh_2) aHigh_2]) from (H.sel' [3, 0, 1, 2, 3, 4] rfl rfl))) wn ?_
    rintro _ σ54 ⟨_, ⟨a51, c52, rfl, rfl, ht53⟩, H, -⟩
    replace H : Hp S0 σ0 σ54 [Ch.own n0 n0 (Sl a51 r48 c52) r48, Ch.big K45, Ch.own n0 n0 (Sl a37 r34 c38) r34, Ch.ro 0 (Sl aaList_0 aList_0 caList_0) aList_0, Ch.ro 0 (Sl aaLow_1 aLow_1 caLow_1) aLow_1, Ch.ro 0 (Sl aaHigh_2 aHigh_2 caHigh_2) aHigh_2] := H
    refine st (v := (Sl a51 r48 c52)) (rv_assign rfl) ?_
    refine w_end ?_
    refine q_then ?_
    refine c_seq ?_
    refine rg ?_
    refine st (v := (Sl aaHigh_2 aHigh_2 caHigh_2)) (rv_move rfl) ?_
    obtain ⟨r55, hx56, h'⟩ := bind_some h
    clear h
    have h := h'; clear h'
    have hc57 := c_laws_toIntS (aa_0 := aaHigh_2) (ca_0 := caHigh_2) hx56
    refine st_call (cx_call hc57 (ent_f hc57.fn rfl) hn0 (show Hp S0 σ0 _ ([Ch.ro 0 (Sl aaHigh_2 aHigh_2 caHigh_2) aHigh_2] ++ [Ch.own n0 n0 (Sl a51 r48 c52) r48, Ch.big K45, Ch.own n0 n0 (Sl a37 r34 c38) r34, Ch.ro 0 (Sl aaList_0 aList_0 caList_0) aList_0, Ch.ro 0 (Sl aaLow_1 aLow_1 caLow_1) aLow_1, Ch.ro 0 (Sl aaHigh_2 aHigh_2 caHigh_2) aHigh_2]) from (H.sel' [5, 0, 1, 2, 3, 4, 5] rfl rfl))) wn ?_
    rintro _ σ61 ⟨_, ⟨a58, c59, rfl, rfl, ht60⟩, H, -⟩
    replace H : Hp S0 σ0 σ61 [Ch.own n0 n0 (Sl a58 r55 c59) r55, Ch.own n0 n0 (Sl a51 r48 c52) r48, Ch.big K45, Ch.own n0 n0 (Sl a37 r34 c38) r34, Ch.ro 0 (Sl aaList_0 aList_0 caList_0) aList_0, Ch.ro 0 (Sl aaLow_1 aLow_1 caLow_1) aLow_1, Ch.ro 0 (Sl aaHigh_2 aHigh_2 caHigh_2) aHigh_2] := H
    refine st (v := (Sl a58 r55 c59)) (rv_assign rfl) ?_
    refine w_end ?_
    refine q_then ?_
    refine c_seq ?_
    refine rg ?_
    refine st (v := (Sl a43 r40 c44)) (rv_move rfl) ?_
    refine st (v := (Sl a51 r48 c52)) (rv_move rfl) ?_
    refine st (v := (Sl a58 r55 c59)) (rv_move rfl) ?_
    obtain ⟨r62, hx63, h'⟩ := bind_some h
    clear h
    have h := h'; clear h'
    have hc64 := c_impl_InBox (alist_0 := a43) (clist_0 := c44) (alow_1 := a51) (clow_1 := c52) (ahigh_2 := a58) (chigh_2 := c59) hx63
    have hle := Nat.le_trans hn0 H.size
    refine st_call (cx_lend (Loan.lendB hK46.lends (Loan.lend (Loan.lend Loan.nil))) hc64 (ent_f hc64.fn rfl) (show Hp S0 σ0 _ ([Ch.big K45, Ch.own n0 n0 (Sl a51 r48 c52) r48, Ch.own n0 n0 (Sl a58 r55 c59) r55] ++ ([] ++ [Ch.own n0 n0 (Sl a37 r34 c38) r34, Ch.ro 0 (Sl aaList_0 aList_0 caList_0) aList_0, Ch.ro 0 (Sl aaLow_1 aLow_1 caLow_1) aLow_1, Ch.ro 0 (Sl aaHigh_2 aHigh_2 caHigh_2) aHigh_2])) from (H.sel' [2, 1, 0, 3, 4, 5, 6] rfl rfl)) (by rintro _ _ _ ⟨_, _, rfl, rfl, _⟩; exact ⟨Ab.ownSc, trivial⟩)) wn ?_
    rintro _ σ68 ⟨_, ⟨a65, c66, rfl, rfl, ht67⟩, H, -, -⟩
    replace H : Hp S0 σ0 σ68 [Ch.own σ61.size σ61.size (Sl a65 r62 c66) r62, Ch.big K45, Ch.own n0 n0 (Sl a51 r48 c52) r48, Ch.own n0 n0 (Sl a58 r55 c59) r55, Ch.own n0 n0 (Sl a37 r34 c38) r34, Ch.ro 0 (Sl aaList_0 aList_0 caList_0) aList_0, Ch.ro 0 (Sl aaLow_1 aLow_1 caLow_1) aLow_1, Ch.ro 0 (Sl aaHigh_2 aHigh_2 caHigh_2) aHigh_2] := H
    replace H := H.ownLow 0 n0 n0 rfl hle hle
    clear hle
    replace H : Hp S0 σ0 σ68 [Ch.own n0 n0 (Sl a65 r62 c66) r62, Ch.big K45, Ch.own n0 n0 (Sl a51 r48 c52) r48, Ch.own n0 n0 (Sl a58 r55 c59) r55, Ch.own n0 n0 (Sl a37 r34 c38) r34, Ch.ro 0 (Sl aaList_0 aList_0 caList_0) aList_0, Ch.ro 0 (Sl aaLow_1 aLow_1 caLow_1) aLow_1, Ch.ro 0 (Sl aaHigh_2 aHigh_2 caHigh_2) aHigh_2] := H
    refine st (v := (Sl a65 r62 c66)) (rv_assign rfl) ?_
    refine w_end ?_
    refine q_then ?_
    refine c_seq ?_
    refine c_seq ?_
    refine rg ?_
    refine st (v := (Sl a65 r62 c66)) (rv_move rfl) ?_
    refine st (v := (Sl a37 r34 c38)) (rv_move rfl) ?_
    obtain ⟨r69, hx70, h'⟩ := bind_some h
    clear h
    have h := h'; clear h'
    have hc71 := c_laws_eqIntS (aa_0 := a65) (ca_0 := c66) (ab_1 := a37) (cb_1 := c38) hx70
    have hle := Nat.le_trans hn0 H.size
    refine st_call (cx_lend (Loan.lend (Loan.lend Loan.nil)) hc71 (ent_f hc71.fn rfl) (show Hp S0 σ0 _ ([Ch.own n0 n0 (Sl a65 r62 c66) r62, Ch.own n0 n0 (Sl a37 r34 c38) r34] ++ ([] ++ [Ch.big K45, Ch.own n0 n0 (Sl a51 r48 c52) r48, Ch.own n0 n0 (Sl a58 r55 c59) r55, Ch.ro 0 (Sl aaList_0 aList_0 caList_0) aList_0, Ch.ro 0 (Sl aaLow_1 aLow_1 caLow_1) aLow_1, Ch.ro 0 (Sl aaHigh_2 aHigh_2 caHigh_2) aHigh_2])) from (H.sel' [0, 4, 1, 2, 3, 5, 6, 7] rfl rfl)) (by rintro _ _ _ ⟨rfl, rfl⟩; exact trivial)) wn ?_
    rintro _ σ72 ⟨_, ⟨rfl, rfl⟩, H, -, -⟩
    replace H : Hp S0 σ0 σ72 [Ch.own n0 n0 (Sl a65 r62 c66) r62, Ch.own n0 n0 (Sl a37 r34 c38) r34, Ch.big K45, Ch.own n0 n0 (Sl a51 r48 c52) r48, Ch.own n0 n0 (Sl a58 r55 c59) r55, Ch.ro 0 (Sl aaList_0 aList_0 caList_0) aList_0, Ch.ro 0 (Sl aaLow_1 aLow_1 caLow_1) aLow_1, Ch.ro 0 (Sl aaHigh_2 aHigh_2 caHigh_2) aHigh_2] := H
    clear hle
    replace H : Hp S0 σ0 σ72 [Ch.own n0 n0 (Sl a65 r62 c66) r62, Ch.own n0 n0 (Sl a37 r34 c38) r34, Ch.big K45, Ch.own n0 n0 (Sl a51 r48 c52) r48, Ch.own n0 n0 (Sl a58 r55 c59) r55, Ch.ro 0 (Sl aaList_0 aList_0 caList_0) aList_0, Ch.ro 0 (Sl aaLow_1 aLow_1 caLow_1) aLow_1, Ch.ro 0 (Sl aaHigh_2 aHigh_2 caHigh_2) aHigh_2] := H
    refine st (v := (B (!r69))) (rv_not rfl) ?_
    refine w_end ?_
    refine q_then ?_
    refine cd_cond (!r69) rfl (fun hb73 => ?_) (fun hb73 => ?_)
    ·replace h := bif_t hb73 h
     refine c_seq ?_
     refine rg ?_
     refine st (v := (B false)) (rv_assign rfl) ?_
     refine w_end ?_
     refine q_then ?_
     refine c_ret ?_
     refine q_then_r ?_
     obtain rfl := Option.some.inj h
     exact fin_ret (v := (B false)) (results_ok Try.results5 (res_tmp (v := (B false)) rfl res_nil) rfl) ⟨rfl, rfl⟩ (H.sel' [] rfl rfl)
    ·replace h := bif_f hb73 h
     refine c_skip ?_
     refine q_then ?_
     refine c_seq ?_
     refine c_seq ?_
     refine rg ?_
     refine st (v := (Sl a43 r40 c44)) (rv_move rfl) ?_
     refine st (v := (Sl aaList_0 aList_0 caList_0)) (rv_move rfl) ?_
     obtain ⟨r74, hx75, h'⟩ := bind_some h
     clear h
     have h := h'; clear h'
     have hc76 := c_laws_toItemS (aa_0 := aaList_0) (ca_0 := caList_0) hx75
     refine st_call (cx_call hc76 (ent_f hc76.fn rfl) hn0 (show Hp S0 σ0 _ ([Ch.ro 0 (Sl aaList_0 aList_0 caList_0) aList_0] ++ [Ch.own n0 n0 (Sl a65 r62 c66) r62, Ch.own n0 n0 (Sl a37 r34 c38) r34, Ch.big K45, Ch.own n0 n0 (Sl a51 r48 c52) r48, Ch.own n0 n0 (Sl a58 r55 c59) r55, Ch.ro 0 (Sl aaList_0 aList_0 caList_0) aList_0, Ch.ro 0 (Sl aaLow_1 aLow_1 caLow_1) aLow_1, Ch.ro 0 (Sl aaHigh_2 aHigh_2 caHigh_2) aHigh_2]) from (H.sel' [5, 0, 1, 2, 3, 4, 5, 6, 7] rfl rfl))) wn ?_
     rintro _ σ81 ⟨_, ⟨a77, c78, K79, rfl, rfl, hK80⟩, H, -⟩
     replace H : Hp S0 σ0 σ81 [Ch.big K79, Ch.own n0 n0 (Sl a65 r62 c66) r62, Ch.own n0 n0 (Sl a37 r34 c38) r34, Ch.big K45, Ch.own n0 n0 (Sl a51 r48 c52) r48, Ch.own n0 n0 (Sl a58 r55 c59) r55, Ch.ro 0 (Sl aaList_0 aList_0 caList_0) aList_0, Ch.ro 0 (Sl aaLow_1 aLow_1 caLow_1) aLow_1, Ch.ro 0 (Sl aaHigh_2 aHigh_2 caHigh_2) aHigh_2] := H
     obtain ⟨r82, hx83, h'⟩ := bind_some h
     clear h
     have h := h'; clear h'
     have hc84 := c_laws_eqItemS (aa_0 := a43) (ca_0 := c44) (ab_1 := a77) (cb_1 := c78) hx83
     have hle := Nat.le_trans hn0 H.size
     refine st_call (cx_lend (Loan.lendB hK46.lends (Loan.lendB hK80.lends Loan.nil)) hc84 (ent_f hc84.fn rfl) (show Hp S0 σ0 _ ([Ch.big K45, Ch.big K79] ++ ([] ++ [Ch.own n0 n0 (Sl a65 r62 c66) r62, Ch.own n0 n0 (Sl a37 r34 c38) r34, Ch.own n0 n0 (Sl a51 r48 c52) r48, Ch.own n0 n0 (Sl a58 r55 c59) r55, Ch.ro 0 (Sl aaList_0 aList_0 caList_0) aList_0, Ch.ro 0 (Sl aaLow_1 aLow_1 caLow_1) aLow_1, Ch.ro 0 (Sl aaHigh_2 aHigh_2 caHigh_2) aHigh_2])) from (H.sel' [3, 0, 1, 2, 4, 5, 6, 7, 8] rfl rfl)) (by rintro _ _ _ ⟨rfl, rfl⟩; exact trivial)) wn ?_
     rintro _ σ85 ⟨_, ⟨rfl, rfl⟩, H, -, -⟩
     replace H : Hp S0 σ0 σ85 [Ch.big K45, Ch.big K79, Ch.own n0 n0 (Sl a65 r62 c66) r62, Ch.own n0 n0 (Sl a37 r34 c38) r34, Ch.own n0 n0 (Sl a51 r48 c52) r48, Ch.own n0 n0 (Sl a58 r55 c59) r55, Ch.ro 0 (Sl aaList_0 aList_0 caList_0) aList_0, Ch.ro 0 (Sl aaLow_1 aLow_1 caLow_1) aLow_1, Ch.ro 0 (Sl aaHigh_2 aHigh_2 caHigh_2) aHigh_2] := H
     clear hle
     replace H : Hp S0 σ0 σ85 [Ch.big K45, Ch.big K79, Ch.own n0 n0 (Sl a65 r62 c66) r62, Ch.own n0 n0 (Sl a37 r34 c38) r34, Ch.own n0 n0 (Sl a51 r48 c52) r48, Ch.own n0 n0 (Sl a58 r55 c59) r55, Ch.ro 0 (Sl aaList_0 aList_0 caList_0) aList_0, Ch.ro 0 (Sl aaLow_1 aLow_1 caLow_1) aLow_1, Ch.ro 0 (Sl aaHigh_2 aHigh_2 caHigh_2) aHigh_2] := H
     replace H : Hp S0 σ0 σ85 [Ch.big K45, Ch.own n0 n0 (Sl a65 r62 c66) r62, Ch.own n0 n0 (Sl a37 r34 c38) r34, Ch.own n0 n0 (Sl a51 r48 c52) r48, Ch.own n0 n0 (Sl a58 r55 c59) r55, Ch.ro 0 (Sl aaList_0 aList_0 caList_0) aList_0, Ch.ro 0 (Sl aaLow_1 aLow_1 caLow_1) aLow_1, Ch.ro 0 (Sl aaHigh_2 aHigh_2 caHigh_2) aHigh_2] := H.sel' [0, 2, 3, 4, 5, 6, 7, 8] rfl rfl
     refine st (v := (B (!r82))) (rv_not rfl) ?_
     refine w_end ?_
     refine q_then ?_
     refine cd_cond (!r82) rfl (fun hb86 => ?_) (fun hb86 => ?_)
     ·replace h := bif_t hb86 h
      refine c_seq ?_
      refine rg ?_
      refine st (v := (B false)) (rv_assign rfl) ?_
      refine w_end ?_
      refine q_then ?_
      refine c_ret ?_
      refine q_then_r ?_
      obtain rfl := Option.some.inj h
      exact fin_ret (v := (B false)) (results_ok Try.results5 (res_tmp (v := (B false)) rfl res_nil) rfl) ⟨rfl, rfl⟩ (H.sel' [] rfl rfl)
     ·replace h := bif_f hb86 h
      refine c_skip ?_
      refine q_then ?_
      refine c_seq ?_
      refine c_seq ?_
      refine rg ?_
      refine st (v := (Sl a51 r48 c52)) (rv_move rfl) ?_
      refine st (v := (Sl aaLow_1 aLow_1 caLow_1)) (rv_move rfl) ?_
      obtain ⟨r87, hx88, h'⟩ := bind_some h
      clear h
      have h := h'; clear h'
      have hc89 := c_laws_toIntS (aa_0 := aaLow_1) (ca_0 := caLow_1) hx88
      refine st_call (cx_call hc89 (ent_f hc89.fn rfl) hn0 (show Hp S0 σ0 _ ([Ch.ro 0 (Sl aaLow_1 aLow_1 caLow_1) aLow_1] ++ [Ch.big K45, Ch.own n0 n0 (Sl a65 r62 c66) r62, Ch.own n0 n0 (Sl a37 r34 c38) r34, Ch.own n0 n0 (Sl a51 r48 c52) r48, Ch.own n0 n0 (Sl a58 r55 c59) r55, Ch.ro 0 (Sl aaList_0 aList_0 caList_0) aList_0, Ch.ro 0 (Sl aaLow_1 aLow_1 caLow_1) aLow_1, Ch.ro 0 (Sl aaHigh_2 aHigh_2 caHigh_2) aHigh_2]) from (H.sel' [6, 0, 1, 2, 3, 4, 5, 6, 7] rfl rfl))) wn ?_
      rintro _ σ93 ⟨_, ⟨a90, c91, rfl, rfl, ht92⟩, H, -⟩
      replace H : Hp S0 σ0 σ93 [Ch.own n0 n0 (Sl a90 r87 c91) r87, Ch.big K45, Ch.own n0 n0 (Sl a65 r62 c66) r62, Ch.own n0 n0 (Sl a37 r34 c38) r34, Ch.own n0 n0 (Sl a51 r48 c52) r48, Ch.own n0 n0 (Sl a58 r55 c59) r55, Ch.ro 0 (Sl aaList_0 aList_0 caList_0) aList_0, Ch.ro 0 (Sl aaLow_1 aLow_1 caLow_1) aLow_1, Ch.ro 0 (Sl aaHigh_2 aHigh_2 caHigh_2) aHigh_2] := H
      obtain ⟨σ94, hw95, H, -⟩ := H.pub 0 rfl (Nat.le_refl _)
      rw [← hw95]; clear hw95
      replace H := H.roLow 0 0 rfl (Nat.zero_le _)
      obtain ⟨r96, hx97, h'⟩ := bind_some h
      clear h
      have h := h'; clear h'
      have hc98 := c_laws_eqIntS (aa_0 := a51) (ca_0 := c52) (ab_1 := a90) (cb_1 := c91) hx97
      have hle := Nat.le_trans hn0 H.size
      refine st_call (cx_lend (Loan.lend (Loan.same Loan.nil)) hc98 (ent_f hc98.fn rfl) (show Hp S0 σ0 _ ([Ch.own n0 n0 (Sl a51 r48 c52) r48] ++ ([Ch.ro 0 (Sl a90 r87 c91) r87] ++ [Ch.ro 0 (Sl a90 r87 c91) r87, Ch.ro n0 (Sl a90 r87 c91) r87, Ch.big K45, Ch.own n0 n0 (Sl a65 r62 c66) r62, Ch.own n0 n0 (Sl a37 r34 c38) r34, Ch.own n0 n0 (Sl a58 r55 c59) r55, Ch.ro 0 (Sl aaList_0 aList_0 caList_0) aList_0, Ch.ro 0 (Sl aaLow_1 aLow_1 caLow_1) aLow_1, Ch.ro 0 (Sl aaHigh_2 aHigh_2 caHigh_2) aHigh_2])) from (H.sel' [5, 0, 0, 1, 2, 3, 4, 6, 7, 8, 9] rfl rfl)) (by rintro _ _ _ ⟨rfl, rfl⟩; exact trivial)) wn ?_
      rintro _ σ99 ⟨_, ⟨rfl, rfl⟩, H, -, -⟩
      replace H : Hp S0 σ0 σ99 [Ch.own n0 n0 (Sl a51 r48 c52) r48, Ch.ro 0 (Sl a90 r87 c91) r87, Ch.ro n0 (Sl a90 r87 c91) r87, Ch.big K45, Ch.own n0 n0 (Sl a65 r62 c66) r62, Ch.own n0 n0 (Sl a37 r34 c38) r34, Ch.own n0 n0 (Sl a58 r55 c59) r55, Ch.ro 0 (Sl aaList_0 aList_0 caList_0) aList_0, Ch.ro 0 (Sl aaLow_1 aLow_1 caLow_1) aLow_1, Ch.ro 0 (Sl aaHigh_2 aHigh_2 caHigh_2) aHigh_2] := H
      clear hle
      replace H : Hp S0 σ0 σ99 [Ch.own n0 n0 (Sl a51 r48 c52) r48, Ch.ro 0 (Sl a90 r87 c91) r87, Ch.ro n0 (Sl a90 r87 c91) r87, Ch.big K45, Ch.own n0 n0 (Sl a65 r62 c66) r62, Ch.own n0 n0 (Sl a37 r34 c38) r34, Ch.own n0 n0 (Sl a58 r55 c59) r55, Ch.ro 0 (Sl aaList_0 aList_0 caList_0) aList_0, Ch.ro 0 (Sl aaLow_1 aLow_1 caLow_1) aLow_1, Ch.ro 0 (Sl aaHigh_2 aHigh_2 caHigh_2) aHigh_2] := H
      replace H : Hp S0 σ0 σ99 [Ch.own n0 n0 (Sl a51 r48 c52) r48, Ch.big K45, Ch.own n0 n0 (Sl a65 r62 c66) r62, Ch.own n0 n0 (Sl a37 r34 c38) r34, Ch.own n0 n0 (Sl a58 r55 c59) r55, Ch.ro 0 (Sl aaList_0 aList_0 caList_0) aList_0, Ch.ro 0 (Sl aaLow_1 aLow_1 caLow_1) aLow_1, Ch.ro 0 (Sl aaHigh_2 aHigh_2 caHigh_2) aHigh_2] := H.sel' [0, 3, 4, 5, 6, 7, 8, 9] rfl rfl
      refine st (v := (B (!r96))) (rv_not rfl) ?_
      refine w_end ?_
      refine q_then ?_
      refine cd_cond (!r96) rfl (fun hb100 => ?_) (fun hb100 => ?_)
      ·replace h := bif_t hb100 h
       refine c_seq ?_
       refine rg ?_
       refine st (v := (B false)) (rv_assign rfl) ?_
       refine w_end ?_
       refine q_then ?_
       refine c_ret ?_
       refine q_then_r ?_
       obtain rfl := Option.some.inj h
       exact fin_ret (v := (B false)) (results_ok Try.results5 (res_tmp (v := (B false)) rfl res_nil) rfl) ⟨rfl, rfl⟩ (H.sel' [] rfl rfl)
      ·replace h := bif_f hb100 h
       refine c_skip ?_
       refine q_then ?_
       refine c_seq ?_
       refine c_seq ?_
       refine rg ?_
       refine st (v := (Sl a58 r55 c59)) (rv_move rfl) ?_
       refine st (v := (Sl aaHigh_2 aHigh_2 caHigh_2)) (rv_move rfl) ?_
       obtain ⟨r101, hx102, h'⟩ := bind_some h
       clear h
       have h := h'; clear h'
       have hc103 := c_laws_toIntS (aa_0 := aaHigh_2) (ca_0 := caHigh_2) hx102
       refine st_call (cx_call hc103 (ent_f hc103.fn rfl) hn0 (show Hp S0 σ0 _ ([Ch.ro 0 (Sl aaHigh_2 aHigh_2 caHigh_2) aHigh_2] ++ [Ch.own n0 n0 (Sl a51 r48 c52) r48, Ch.big K45, Ch.own n0 n0 (Sl a65 r62 c66) r62, Ch.own n0 n0 (Sl a37 r34 c38) r34, Ch.own n0 n0 (Sl a58 r55 c59) r55, Ch.ro 0 (Sl aaList_0 aList_0 caList_0) aList_0, Ch.ro 0 (Sl aaLow_1 aLow_1 caLow_1) aLow_1, Ch.ro 0 (Sl aaHigh_2 aHigh_2 caHigh_2) aHigh_2]) from (H.sel' [7, 0, 1, 2, 3, 4, 5, 6, 7] rfl rfl))) wn ?_
       rintro _ σ107 ⟨_, ⟨a104, c105, rfl, rfl, ht106⟩, H, -⟩
       replace H : Hp S0 σ0 σ107 [Ch.own n0 n0 (Sl a104 r101 c105) r101, Ch.own n0 n0 (Sl a51 r48 c52) r48, Ch.big K45, Ch.own n0 n0 (Sl a65 r62 c66) r62, Ch.own n0 n0 (Sl a37 r34 c38) r34, Ch.own n0 n0 (Sl a58 r55 c59) r55, Ch.ro 0 (Sl aaList_0 aList_0 caList_0) aList_0, Ch.ro 0 (Sl aaLow_1 aLow_1 caLow_1) aLow_1, Ch.ro 0 (Sl aaHigh_2 aHigh_2 caHigh_2) aHigh_2] := H
       obtain ⟨σ108, hw109, H, -⟩ := H.pub 0 rfl (Nat.le_refl _)
       rw [← hw109]; clear hw109
       replace H := H.roLow 0 0 rfl (Nat.zero_le _)
       obtain ⟨r110, hx111, h'⟩ := bind_some h
       clear h
       have h := h'; clear h'
       have hc112 := c_laws_eqIntS (aa_0 := a58) (ca_0 := c59) (ab_1 := a104) (cb_1 := c105) hx111
       have hle := Nat.le_trans hn0 H.size
       refine st_call (cx_lend (Loan.lend (Loan.same Loan.nil)) hc112 (ent_f hc112.fn rfl) (show Hp S0 σ0 _ ([Ch.own n0 n0 (Sl a58 r55 c59) r55] ++ ([Ch.ro 0 (Sl a104 r101 c105) r101] ++ [Ch.ro 0 (Sl a104 r101 c105) r101, Ch.ro n0 (Sl a104 r101 c105) r101, Ch.own n0 n0 (Sl a51 r48 c52) r48, Ch.big K45, Ch.own n0 n0 (Sl a65 r62 c66) r62, Ch.own n0 n0 (Sl a37 r34 c38) r34, Ch.ro 0 (Sl aaList_0 aList_0 caList_0) aList_0, Ch.ro 0 (Sl aaLow_1 aLow_1 caLow_1) aLow_1, Ch.ro 0 (Sl aaHigh_2 aHigh_2 caHigh_2) aHigh_2])) from (H.sel' [6, 0, 0, 1, 2, 3, 4, 5, 7, 8, 9] rfl rfl)) (by rintro _ _ _ ⟨rfl, rfl⟩; exact trivial)) wn ?_
       rintro _ σ113 ⟨_, ⟨rfl, rfl⟩, H, -, -⟩
       replace H : Hp S0 σ0 σ113 [Ch.own n0 n0 (Sl a58 r55 c59) r55, Ch.ro 0 (Sl a104 r101 c105) r101, Ch.ro n0 (Sl a104 r101 c105) r101, Ch.own n0 n0 (Sl a51 r48 c52) r48, Ch.big K45, Ch.own n0 n0 (Sl a65 r62 c66) r62, Ch.own n0 n0 (Sl a37 r34 c38) r34, Ch.ro 0 (Sl aaList_0 aList_0 caList_0) aList_0, Ch.ro 0 (Sl aaLow_1 aLow_1 caLow_1) aLow_1, Ch.ro 0 (Sl aaHigh_2 aHigh_2 caHigh_2) aHigh_2] := H
       clear hle
       replace H : Hp S0 σ0 σ113 [Ch.own n0 n0 (Sl a58 r55 c59) r55, Ch.ro 0 (Sl a104 r101 c105) r101, Ch.ro n0 (Sl a104 r101 c105) r101, Ch.own n0 n0 (Sl a51 r48 c52) r48, Ch.big K45, Ch.own n0 n0 (Sl a65 r62 c66) r62, Ch.own n0 n0 (Sl a37 r34 c38) r34, Ch.ro 0 (Sl aaList_0 aList_0 caList_0) aList_0, Ch.ro 0 (Sl aaLow_1 aLow_1 caLow_1) aLow_1, Ch.ro 0 (Sl aaHigh_2 aHigh_2 caHigh_2) aHigh_2] := H
       replace H : Hp S0 σ0 σ113 [Ch.own n0 n0 (Sl a58 r55 c59) r55, Ch.own n0 n0 (Sl a51 r48 c52) r48, Ch.big K45, Ch.own n0 n0 (Sl a65 r62 c66) r62, Ch.own n0 n0 (Sl a37 r34 c38) r34, Ch.ro 0 (Sl aaList_0 aList_0 caList_0) aList_0, Ch.ro 0 (Sl aaLow_1 aLow_1 caLow_1) aLow_1, Ch.ro 0 (Sl aaHigh_2 aHigh_2 caHigh_2) aHigh_2] := H.sel' [0, 3, 4, 5, 6, 7, 8, 9] rfl rfl
       refine st (v := (B (!r110))) (rv_not rfl) ?_
       refine w_end ?_
       refine q_then ?_
       refine cd_cond (!r110) rfl (fun hb114 => ?_) (fun hb114 => ?_)
       ·replace h := bif_t hb114 h
        refine c_seq ?_
        refine rg ?_
        refine st (v := (B false)) (rv_assign rfl) ?_
        refine w_end ?_
        refine q_then ?_
        refine c_ret ?_
        refine q_then_r ?_
        obtain rfl := Option.some.inj h
        exact fin_ret (v := (B false)) (results_ok Try.results5 (res_tmp (v := (B false)) rfl res_nil) rfl) ⟨rfl, rfl⟩ (H.sel' [] rfl rfl)
       ·replace h := bif_f hb114 h
        refine c_skip ?_
        refine q_then ?_
        refine c_seq ?_
        refine rg ?_
        refine st (v := (I 1)) (rv_assign rfl) ?_
        refine w_end ?_
        refine q_then ?_
        refine c_seq ?_
        refine rg ?_
        refine st (v := (Sl a43 r40 c44)) (rv_move rfl) ?_
        refine st (v := (I 1)) (rv_move rfl) ?_
        obtain ⟨r115, hx116, h'⟩ := bind_some h
        clear h
        have h := h'; clear h'
        have hc117 := c_laws_markItemS (aa_0 := a43) (ca_0 := c44) (hK := hK46) hx116
        refine st_call (cx_call hc117 (ent_f hc117.fn rfl) hn0 (show Hp S0 σ0 _ ([Ch.big K45] ++ [Ch.own n0 n0 (Sl a58 r55 c59) r55, Ch.own n0 n0 (Sl a51 r48 c52) r48, Ch.own n0 n0 (Sl a65 r62 c66) r62, Ch.own n0 n0 (Sl a37 r34 c38) r34, Ch.ro 0 (Sl aaList_0 aList_0 caList_0) aList_0, Ch.ro 0 (Sl aaLow_1 aLow_1 caLow_1) aLow_1, Ch.ro 0 (Sl aaHigh_2 aHigh_2 caHigh_2) aHigh_2]) from (H.sel' [2, 0, 1, 3, 4, 5, 6, 7] rfl rfl))) wn ?_
        rintro _ σ118 ⟨_, ⟨rfl, rfl⟩, H, -⟩
        replace H : Hp S0 σ0 σ118 [Ch.own n0 n0 (Sl a58 r55 c59) r55, Ch.own n0 n0 (Sl a51 r48 c52) r48, Ch.own n0 n0 (Sl a65 r62 c66) r62, Ch.own n0 n0 (Sl a37 r34 c38) r34, Ch.ro 0 (Sl aaList_0 aList_0 caList_0) aList_0, Ch.ro 0 (Sl aaLow_1 aLow_1 caLow_1) aLow_1, Ch.ro 0 (Sl aaHigh_2 aHigh_2 caHigh_2) aHigh_2] := H
        refine st (v := (I r115)) (rv_assign rfl) ?_
        refine w_end ?_
        refine q_then ?_
        refine c_seq ?_
        refine rg ?_
        refine st (v := (Sl a51 r48 c52)) (rv_move rfl) ?_
        refine st (v := (I r115)) (rv_move rfl) ?_
        replace H := H.ownLow 1 0 0 rfl (Nat.zero_le _) (Nat.zero_le _)
        obtain ⟨r119, hx120, h'⟩ := bind_some h
        clear h
        have h := h'; clear h'
        have hc121 := c_laws_markIntS (aa_0 := a51) (ca_0 := c52) hx120
        refine st_call (cx_call hc121 (ent_f hc121.fn rfl) hn0 (show Hp S0 σ0 _ ([Ch.own 0 0 (Sl a51 r48 c52) r48] ++ [Ch.own n0 n0 (Sl a58 r55 c59) r55, Ch.own n0 n0 (Sl a65 r62 c66) r62, Ch.own n0 n0 (Sl a37 r34 c38) r34, Ch.ro 0 (Sl aaList_0 aList_0 caList_0) aList_0, Ch.ro 0 (Sl aaLow_1 aLow_1 caLow_1) aLow_1, Ch.ro 0 (Sl aaHigh_2 aHigh_2 caHigh_2) aHigh_2]) from (H.sel' [0, 1, 2, 3, 4, 5, 6] rfl rfl))) wn ?_
        rintro _ σ123 ⟨_, ⟨rfl, rfl, hn122⟩, H, -⟩
        replace H : Hp S0 σ0 σ123 [Ch.own 0 0 (Sl a51 r119.2 c52) r119.2, Ch.own n0 n0 (Sl a58 r55 c59) r55, Ch.own n0 n0 (Sl a65 r62 c66) r62, Ch.own n0 n0 (Sl a37 r34 c38) r34, Ch.ro 0 (Sl aaList_0 aList_0 caList_0) aList_0, Ch.ro 0 (Sl aaLow_1 aLow_1 caLow_1) aLow_1, Ch.ro 0 (Sl aaHigh_2 aHigh_2 caHigh_2) aHigh_2] := H
        have hsl : (Sl a51 r48 c52) = (Sl a51 r119.2 c52) := sl_len hn122.symm
        try rw [hsl]
        try rw [hsl] at H
        clear hsl
        refine st (v := (I r119.1)) (rv_assign rfl) ?_
        refine w_end ?_
        refine q_then ?_
        refine c_seq ?_
        refine rg ?_
        refine st (v := (Sl a58 r55 c59)) (rv_move rfl) ?_
        refine st (v := (I r119.1)) (rv_move rfl) ?_
        replace H := H.ownLow 1 0 0 rfl (Nat.zero_le _) (Nat.zero_le _)
        obtain ⟨r124, hx125, h'⟩ := bind_some h
        clear h
        have h := h'; clear h'
        have hc126 := c_laws_markIntS (aa_0 := a58) (ca_0 := c59) hx125
        refine st_call (cx_call hc126 (ent_f hc126.fn rfl) hn0 (show Hp S0 σ0 _ ([Ch.own 0 0 (Sl a58 r55 c59) r55] ++ [Ch.own 0 0 (Sl a51 r119.2 c52) r119.2, Ch.own n0 n0 (Sl a65 r62 c66) r62, Ch.own n0 n0 (Sl a37 r34 c38) r34, Ch.ro 0 (Sl aaList_0 aList_0 caList_0) aList_0, Ch.ro 0 (Sl aaLow_1 aLow_1 caLow_1) aLow_1, Ch.ro 0 (Sl aaHigh_2 aHigh_2 caHigh_2) aHigh_2]) from (H.sel' [0, 1, 2, 3, 4, 5, 6] rfl rfl))) wn ?_
        rintro _ σ128 ⟨_, ⟨rfl, rfl, hn127⟩, H, -⟩
        replace H : Hp S0 σ0 σ128 [Ch.own 0 0 (Sl a58 r124.2 c59) r124.2, Ch.own 0 0 (Sl a51 r119.2 c52) r119.2, Ch.own n0 n0 (Sl a65 r62 c66) r62, Ch.own n0 n0 (Sl a37 r34 c38) r34, Ch.ro 0 (Sl aaList_0 aList_0 caList_0) aList_0, Ch.ro 0 (Sl aaLow_1 aLow_1 caLow_1) aLow_1, Ch.ro 0 (Sl aaHigh_2 aHigh_2 caHigh_2) aHigh_2] := H
        have hsl : (Sl a58 r55 c59) = (Sl a58 r124.2 c59) := sl_len hn127.symm
        try rw [hsl]
        try rw [hsl] at H
        clear hsl
        refine st (v := (I r124.1)) (rv_assign rfl) ?_
        refine w_end ?_
        refine q_then ?_
        refine c_seq ?_
        refine c_seq ?_
        obtain ⟨o129, hj, h'⟩ := bind_some h
        clear h
        refine c_cut (fun e a w => e = .normal ∧ ∃ (ρ : Nat → Value) (σ : St), a = fr 111 (updL ρ [(0, (Sl aaList_0 aList_0 caList_0)), (1, (Sl aaLow_1 aLow_1 caLow_1)), (2, (Sl aaHigh_2 aHigh_2 caHigh_2)), (8, (Sl a37 r34 c38)), (12, (Sl a65 r62 c66)), (80, (B o129))]) ∧ w = σ.w ∧ Hp S0 σ0 σ [Ch.ro 0 (Sl aaList_0 aList_0 caList_0) aList_0, Ch.ro 0 (Sl aaLow_1 aLow_1 caLow_1) aLow_1, Ch.ro 0 (Sl aaHigh_2 aHigh_2 caHigh_2) aHigh_2, Ch.own n0 n0 (Sl a37 r34 c38) r34, Ch.own n0 n0 (Sl a65 r62 c66) r62]) ?_ ?_
        ·clear h'
         rename _ = some o129 => h
         refine rg ?_
         refine st (v := (I r124.1)) (rv_move rfl) ?_
         refine st (v := (B (decide (r124.1 < 0)))) (rv_lss (a := r124.1) (b := 0) rfl rfl) ?_
         refine st (v := (B (decide (r124.1 < 0)))) (rv_move rfl) ?_
         rcases Bool.eq_false_or_eq_true (decide (r124.1 < 0)) with hb130 | hb130
         ·replace h := bif_t hb130 h
          refine st_skip (congrArg some hb130) ?_
          refine st_skip (congrArg some hb130) ?_
          refine st_skip (congrArg some hb130) ?_
          refine st_skip (congrArg some hb130) ?_
          refine st (v := (B true)) (rv_pick_t (congrArg B hb130) rfl) ?_
          refine w_end ?_
          obtain rfl := Option.some.inj h
          exact ⟨rfl, _, σ128, fr_join ⟨rfl, rfl, rfl, rfl, rfl, rfl, trivial⟩, rfl, H.sel' [4, 5, 6, 3, 2] rfl rfl⟩
         ·replace h := bif_f hb130 h
          refine st_g (v := (Sl a65 r62 c66)) (congrArg some hb130) (rv_move rfl) ?_
          refine st_g (v := (Sl a37 r34 c38)) (congrArg some hb130) (rv_move rfl) ?_
          obtain ⟨r131, hx132, h'⟩ := bind_some h
          clear h
          have h := h'; clear h'
          have hc133 := c_laws_eqIntS (aa_0 := a65) (ca_0 := c66) (ab_1 := a37) (cb_1 := c38) hx132
          have hle := Nat.le_trans hn0 H.size
          refine st_call (cx_lend (Loan.lend (Loan.lend Loan.nil)) hc133 (ent_f hc133.fn rfl) (show Hp S0 σ0 _ ([Ch.own n0 n0 (Sl a65 r62 c66) r62, Ch.own n0 n0 (Sl a37 r34 c38) r34] ++ ([] ++ [Ch.own 0 0 (Sl a58 r124.2 c59) r124.2, Ch.own 0 0 (Sl a51 r119.2 c52) r119.2, Ch.ro 0 (Sl aaList_0 aList_0 caList_0) aList_0, Ch.ro 0 (Sl aaLow_1 aLow_1 caLow_1) aLow_1, Ch.ro 0 (Sl aaHigh_2 aHigh_2 caHigh_2) aHigh_2])) from (H.sel' [2, 3, 0, 1, 4, 5, 6] rfl rfl)) (by rintro _ _ _ ⟨rfl, rfl⟩; exact trivial)) (wanted_yes rfl (by exact (congrArg some hb130))) ?_
          rintro _ σ134 ⟨_, ⟨rfl, rfl⟩, H, -, -⟩
          replace H : Hp S0 σ0 σ134 [Ch.own n0 n0 (Sl a65 r62 c66) r62, Ch.own n0 n0 (Sl a37 r34 c38) r34, Ch.own 0 0 (Sl a58 r124.2 c59) r124.2, Ch.own 0 0 (Sl a51 r119.2 c52) r119.2, Ch.ro 0 (Sl aaList_0 aList_0 caList_0) aList_0, Ch.ro 0 (Sl aaLow_1 aLow_1 caLow_1) aLow_1, Ch.ro 0 (Sl aaHigh_2 aHigh_2 caHigh_2) aHigh_2] := H
          clear hle
          replace H : Hp S0 σ0 σ134 [Ch.own n0 n0 (Sl a65 r62 c66) r62, Ch.own n0 n0 (Sl a37 r34 c38) r34, Ch.own 0 0 (Sl a58 r124.2 c59) r124.2, Ch.own 0 0 (Sl a51 r119.2 c52) r119.2, Ch.ro 0 (Sl aaList_0 aList_0 caList_0) aList_0, Ch.ro 0 (Sl aaLow_1 aLow_1 caLow_1) aLow_1, Ch.ro 0 (Sl aaHigh_2 aHigh_2 caHigh_2) aHigh_2] := H
          refine st_g (v := (B (!r131))) (congrArg some hb130) (rv_not rfl) ?_
          refine st (v := (B (!r131))) (rv_pick_f (congrArg B hb130) rfl) ?_
          refine w_end ?_
          obtain rfl := Option.some.inj h
          exact ⟨rfl, _, σ134, fr_join ⟨rfl, rfl, rfl, rfl, rfl, rfl, trivial⟩, rfl, H.sel' [4, 5, 6, 1, 0] rfl rfl⟩
        ·clear hj
         have h := h'
         clear h' H
         rintro e a w ⟨rfl, ρ, σ135, rfl, rfl, H⟩
         refine q_then ?_
         refine cd_cond o129 rfl (fun hb136 => ?_) (fun hb136 => ?_)
         ·replace h := bif_t hb136 h
          refine c_seq ?_
          refine rg ?_
          refine st (v := (B false)) (rv_assign rfl) ?_
          refine w_end ?_
          refine q_then ?_
          refine c_ret ?_
          refine q_then_r ?_
          obtain rfl := Option.some.inj h
          exact fin_ret (v := (B false)) (results_ok Try.results5 (res_tmp (v := (B false)) rfl res_nil) rfl) ⟨rfl, rfl⟩ (H.sel' [] rfl rfl)
         ·replace h := bif_f hb136 h
          refine c_skip ?_
          refine q_then ?_
          refine c_seq ?_
          refine rg ?_
          refine st (v := (I 1)) (rv_assign rfl) ?_
          refine w_end ?_
          refine q_then ?_
          refine c_seq ?_
          refine rg ?_
          refine st (v := (Sl a65 r62 c66)) (rv_move rfl) ?_
          refine st (v := (I 1)) (rv_move rfl) ?_
          replace H := H.ownLow 4 0 0 rfl (Nat.zero_le _) (Nat.zero_le _)
          obtain ⟨r137, hx138, h'⟩ := bind_some h
          clear h
          have h := h'; clear h'
          have hc139 := c_laws_markIntS (aa_0 := a65) (ca_0 := c66) hx138
          refine st_call (cx_call hc139 (ent_f hc139.fn rfl) hn0 (show Hp S0 σ0 _ ([Ch.own 0 0 (Sl a65 r62 c66) r62] ++ [Ch.ro 0 (Sl aaList_0 aList_0 caList_0) aList_0, Ch.ro 0 (Sl aaLow_1 aLow_1 caLow_1) aLow_1, Ch.ro 0 (Sl aaHigh_2 aHigh_2 caHigh_2) aHigh_2, Ch.own n0 n0 (Sl a37 r34 c38) r34]) from (H.sel' [0, 1, 2, 3, 4] rfl rfl))) wn ?_
          rintro _ σ141 ⟨_, ⟨rfl, rfl, hn140⟩, H, -⟩
          replace H : Hp S0 σ0 σ141 [Ch.own 0 0 (Sl a65 r137.2 c66) r137.2, Ch.ro 0 (Sl aaList_0 aList_0 caList_0) aList_0, Ch.ro 0 (Sl aaLow_1 aLow_1 caLow_1) aLow_1, Ch.ro 0 (Sl aaHigh_2 aHigh_2 caHigh_2) aHigh_2, Ch.own n0 n0 (Sl a37 r34 c38) r34] := H
          have hsl : (Sl a65 r62 c66) = (Sl a65 r137.2 c66) := sl_len hn140.symm
          try rw [hsl]
          try rw [hsl] at H
          clear hsl
          refine st (v := (I r137.1)) (rv_assign rfl) ?_
          refine w_end ?_
          refine q_then ?_
          refine c_seq ?_
          refine rg ?_
          refine st (v := (I 1)) (rv_assign rfl) ?_
          refine w_end ?_
          refine q_then ?_
          refine c_seq ?_
          refine rg ?_
          refine st (v := (Sl a65 r137.2 c66)) (rv_move rfl) ?_
          refine st (v := (I 1)) (rv_move rfl) ?_
          obtain ⟨r142, hx143, h'⟩ := bind_some h
          clear h
          have h := h'; clear h'
          have hc144 := c_laws_heldIntS (aa_0 := a65) (ca_0 := c66) hx143
          have hle := Nat.le_trans hn0 H.size
          refine st_call (cx_lend (Loan.lend Loan.nil) hc144 (ent_f hc144.fn rfl) (show Hp S0 σ0 _ ([Ch.own 0 0 (Sl a65 r137.2 c66) r137.2] ++ ([] ++ [Ch.ro 0 (Sl aaList_0 aList_0 caList_0) aList_0, Ch.ro 0 (Sl aaLow_1 aLow_1 caLow_1) aLow_1, Ch.ro 0 (Sl aaHigh_2 aHigh_2 caHigh_2) aHigh_2, Ch.own n0 n0 (Sl a37 r34 c38) r34])) from (H.sel' [0, 1, 2, 3, 4] rfl rfl)) (by rintro _ _ _ ⟨rfl, rfl⟩; exact trivial)) wn ?_
          rintro _ σ145 ⟨_, ⟨rfl, rfl⟩, H, -, -⟩
          replace H : Hp S0 σ0 σ145 [Ch.own 0 0 (Sl a65 r137.2 c66) r137.2, Ch.ro 0 (Sl aaList_0 aList_0 caList_0) aList_0, Ch.ro 0 (Sl aaLow_1 aLow_1 caLow_1) aLow_1, Ch.ro 0 (Sl aaHigh_2 aHigh_2 caHigh_2) aHigh_2, Ch.own n0 n0 (Sl a37 r34 c38) r34] := H
          clear hle
          replace H : Hp S0 σ0 σ145 [Ch.own 0 0 (Sl a65 r137.2 c66) r137.2, Ch.ro 0 (Sl aaList_0 aList_0 caList_0) aList_0, Ch.ro 0 (Sl aaLow_1 aLow_1 caLow_1) aLow_1, Ch.ro 0 (Sl aaHigh_2 aHigh_2 caHigh_2) aHigh_2, Ch.own n0 n0 (Sl a37 r34 c38) r34] := H
          refine st (v := (I r142)) (rv_assign rfl) ?_
          refine w_end ?_
          refine q_then ?_
          refine c_seq ?_
          refine c_seq ?_
          refine rg ?_
          refine st (v := (I r142)) (rv_move rfl) ?_
          refine st (v := (B (decide (r142 < 0)))) (rv_lss (a := r142) (b := 0) rfl rfl) ?_
          refine w_end ?_
          refine q_then ?_
          refine cd_cond (decide (r142 < 0)) rfl (fun hb146 => ?_) (fun hb146 => ?_)
          ·replace h := bif_t hb146 h
           refine c_seq ?_
           refine rg ?_
           refine st (v := (B false)) (rv_assign rfl) ?_
           refine w_end ?_
           refine q_then ?_
           refine c_ret ?_
           refine q_then_r ?_
           obtain rfl := Option.some.inj h
           exact fin_ret (v := (B false)) (results_ok Try.results5 (res_tmp (v := (B false)) rfl res_nil) rfl) ⟨rfl, rfl⟩ (H.sel' [] rfl rfl)
          ·replace h := bif_f hb146 h
           refine c_skip ?_
           refine q_then ?_
           refine c_seq ?_
           refine c_seq ?_
           refine rg ?_
           refine st (v := (I r142)) (rv_move rfl) ?_
           refine st (v := (I r137.1)) (rv_move rfl) ?_
           refine st (v := (B (r142 != r137.1))) (rv_neq (a := r142) (b := r137.1) rfl rfl) ?_
           refine w_end ?_
           refine q_then ?_
           refine cd_cond (r142 != r137.1) rfl (fun hb147 => ?_) (fun hb147 => ?_)
           ·replace h := bif_t hb147 h
            refine c_seq ?_
            refine rg ?_
            refine st (v := (B false)) (rv_assign rfl) ?_
            refine w_end ?_
            refine q_then ?_
            refine c_ret ?_
            refine q_then_r ?_
            obtain rfl := Option.some.inj h
            exact fin_ret (v := (B false)) (results_ok Try.results5 (res_tmp (v := (B false)) rfl res_nil) rfl) ⟨rfl, rfl⟩ (H.sel' [] rfl rfl)
           ·replace h := bif_f hb147 h
            refine c_skip ?_
            refine q_then ?_
            refine c_seq ?_
            refine rg ?_
            refine st (v := (Sl aaList_0 aList_0 caList_0)) (rv_move rfl) ?_
            obtain ⟨r148, hx149, h'⟩ := bind_some h
            clear h
            have h := h'; clear h'
            have hc150 := c_laws_toItemS (aa_0 := aaList_0) (ca_0 := caList_0) hx149
            refine st_call (cx_call hc150 (ent_f hc150.fn rfl) hn0 (show Hp S0 σ0 _ ([Ch.ro 0 (Sl aaList_0 aList_0 caList_0) aList_0] ++ [Ch.own 0 0 (Sl a65 r137.2 c66) r137.2, Ch.ro 0 (Sl aaList_0 aList_0 caList_0) aList_0, Ch.ro 0 (Sl aaLow_1 aLow_1 caLow_1) aLow_1, Ch.ro 0 (Sl aaHigh_2 aHigh_2 caHigh_2) aHigh_2, Ch.own n0 n0 (Sl a37 r34 c38) r34]) from (H.sel' [1, 0, 1, 2, 3, 4] rfl rfl))) wn ?_
            rintro _ σ155 ⟨_, ⟨a151, c152, K153, rfl, rfl, hK154⟩, H, -⟩
            replace H : Hp S0 σ0 σ155 [Ch.big K153, Ch.own 0 0 (Sl a65 r137.2 c66) r137.2, Ch.ro 0 (Sl aaList_0 aList_0 caList_0) aList_0, Ch.ro 0 (Sl aaLow_1 aLow_1 caLow_1) aLow_1, Ch.ro 0 (Sl aaHigh_2 aHigh_2 caHigh_2) aHigh_2, Ch.own n0 n0 (Sl a37 r34 c38) r34] := H
            refine st (v := (Sl aaLow_1 aLow_1 caLow_1)) (rv_move rfl) ?_
            obtain ⟨r156, hx157, h'⟩ := bind_some h
            clear h
            have h := h'; clear h'
            have hc158 := c_laws_toIntS (aa_0 := aaLow_1) (ca_0 := caLow_1) hx157
            refine st_call (cx_call hc158 (ent_f hc158.fn rfl) hn0 (show Hp S0 σ0 _ ([Ch.ro 0 (Sl aaLow_1 aLow_1 caLow_1) aLow_1] ++ [Ch.big K153, Ch.own 0 0 (Sl a65 r137.2 c66) r137.2, Ch.ro 0 (Sl aaList_0 aList_0 caList_0) aList_0, Ch.ro 0 (Sl aaLow_1 aLow_1 caLow_1) aLow_1, Ch.ro 0 (Sl aaHigh_2 aHigh_2 caHigh_2) aHigh_2, Ch.own n0 n0 (Sl a37 r34 c38) r34]) from (H.sel' [3, 0, 1, 2, 3, 4, 5] rfl rfl))) wn ?_
            rintro _ σ162 ⟨_, ⟨a159, c160, rfl, rfl, ht161⟩, H, -⟩
            replace H : Hp S0 σ0 σ162 [Ch.own n0 n0 (Sl a159 r156 c160) r156, Ch.big K153, Ch.own 0 0 (Sl a65 r137.2 c66) r137.2, Ch.ro 0 (Sl aaList_0 aList_0 caList_0) aList_0, Ch.ro 0 (Sl aaLow_1 aLow_1 caLow_1) aLow_1, Ch.ro 0 (Sl aaHigh_2 aHigh_2 caHigh_2) aHigh_2, Ch.own n0 n0 (Sl a37 r34 c38) r34] := H
            refine st (v := (Sl aaHigh_2 aHigh_2 caHigh_2)) (rv_move rfl) ?_
            obtain ⟨r163, hx164, h'⟩ := bind_some h
            clear h
            have h := h'; clear h'
            have hc165 := c_laws_toIntS (aa_0 := aaHigh_2) (ca_0 := caHigh_2) hx164
            refine st_call (cx_call hc165 (ent_f hc165.fn rfl) hn0 (show Hp S0 σ0 _ ([Ch.ro 0 (Sl aaHigh_2 aHigh_2 caHigh_2) aHigh_2] ++ [Ch.own n0 n0 (Sl a159 r156 c160) r156, Ch.big K153, Ch.own 0 0 (Sl a65 r137.2 c66) r137.2, Ch.ro 0 (Sl aaList_0 aList_0 caList_0) aList_0, Ch.ro 0 (Sl aaLow_1 aLow_1 caLow_1) aLow_1, Ch.ro 0 (Sl aaHigh_2 aHigh_2 caHigh_2) aHigh_2, Ch.own n0 n0 (Sl a37 r34 c38) r34]) from (H.sel' [5, 0, 1, 2, 3, 4, 5, 6] rfl rfl))) wn ?_
            rintro _ σ169 ⟨_, ⟨a166, c167, rfl, rfl, ht168⟩, H, -⟩
            replace H : Hp S0 σ0 σ169 [Ch.own n0 n0 (Sl a166 r163 c167) r163, Ch.own n0 n0 (Sl a159 r156 c160) r156, Ch.big K153, Ch.own 0 0 (Sl a65 r137.2 c66) r137.2, Ch.ro 0 (Sl aaList_0 aList_0 caList_0) aList_0, Ch.ro 0 (Sl aaLow_1 aLow_1 caLow_1) aLow_1, Ch.ro 0 (Sl aaHigh_2 aHigh_2 caHigh_2) aHigh_2, Ch.own n0 n0 (Sl a37 r34 c38) r34] := H
            replace H : Hp S0 σ0 σ169 [Ch.own n0 n0 (Sl a166 r163 c167) r163, Ch.own n0 n0 (Sl a159 r156 c160) r156, Ch.big K153, Ch.own 0 0 (Sl a65 r137.2 c66) r137.2, Ch.own n0 n0 (Sl a37 r34 c38) r34] := H.sel' [0, 1, 2, 3, 7] rfl rfl
            obtain ⟨σ170, hw171, H, -⟩ := H.pub 1 rfl (Nat.le_refl _)
            rw [← hw171]; clear hw171
            obtain ⟨σ172, hw173, H, -⟩ := H.pub 1 rfl (Nat.le_refl _)
            rw [← hw173]; clear hw173
            replace H := H.roLow 1 0 rfl (Nat.zero_le _)
            replace H := H.roLow 1 0 rfl (Nat.zero_le _)
            obtain ⟨r174, hx175, h'⟩ := bind_some h
            clear h
            have h := h'; clear h'
            have hc176 := c_impl_InBox (alist_0 := a151) (clist_0 := c152) (alow_1 := a159) (clow_1 := c160) (ahigh_2 := a166) (chigh_2 := c167) hx175
            have hle := Nat.le_trans hn0 H.size
            refine st_call (cx_lend (Loan.lendB hK154.lends (Loan.same (Loan.same Loan.nil))) hc176 (ent_f hc176.fn rfl) (show Hp S0 σ0 _ ([Ch.big K153] ++ ([Ch.ro 0 (Sl a159 r156 c160) r156, Ch.ro 0 (Sl a166 r163 c167) r163] ++ [Ch.ro 0 (Sl a166 r163 c167) r163, Ch.ro 0 (Sl a159 r156 c160) r156, Ch.ro n0 (Sl a166 r163 c167) r163, Ch.ro n0 (Sl a159 r156 c160) r156, Ch.own 0 0 (Sl a65 r137.2 c66) r137.2, Ch.own n0 n0 (Sl a37 r34 c38) r34])) from (H.sel' [4, 1, 0, 0, 1, 2, 3, 5, 6] rfl rfl)) (by rintro _ _ _ ⟨_, _, rfl, rfl, _⟩; exact ⟨Ab.ownSc, trivial⟩)) wn ?_
            rintro _ σ180 ⟨_, ⟨a177, c178, rfl, rfl, ht179⟩, H, -, -⟩
            replace H : Hp S0 σ0 σ180 [Ch.own σ172.size σ172.size (Sl a177 r174 c178) r174, Ch.big K153, Ch.ro 0 (Sl a166 r163 c167) r163, Ch.ro 0 (Sl a159 r156 c160) r156, Ch.ro n0 (Sl a166 r163 c167) r163, Ch.ro n0 (Sl a159 r156 c160) r156, Ch.own 0 0 (Sl a65 r137.2 c66) r137.2, Ch.own n0 n0 (Sl a37 r34 c38) r34] := H
            replace H := H.ownLow 0 n0 n0 rfl hle hle
            clear hle
            replace H : Hp S0 σ0 σ180 [Ch.own n0 n0 (Sl a177 r174 c178) r174, Ch.big K153, Ch.ro 0 (Sl a166 r163 c167) r163, Ch.ro 0 (Sl a159 r156 c160) r156, Ch.ro n0 (Sl a166 r163 c167) r163, Ch.ro n0 (Sl a159 r156 c160) r156, Ch.own 0 0 (Sl a65 r137.2 c66) r137.2, Ch.own n0 n0 (Sl a37 r34 c38) r34] := H
            replace H : Hp S0 σ0 σ180 [Ch.own n0 n0 (Sl a177 r174 c178) r174, Ch.own 0 0 (Sl a65 r137.2 c66) r137.2, Ch.own n0 n0 (Sl a37 r34 c38) r34] := H.sel' [0, 6, 7] rfl rfl
            refine st (v := (Sl a177 r174 c178)) (rv_assign rfl) ?_
            refine w_end ?_
            refine q_then ?_
            refine c_seq ?_
            refine c_seq ?_
            refine rg ?_
            refine st (v := (Sl a177 r174 c178)) (rv_move rfl) ?_
            refine st (v := (Sl a37 r34 c38)) (rv_move rfl) ?_
            obtain ⟨σ181, hw182, H, -⟩ := H.pub 0 rfl (Nat.le_refl _)
            rw [← hw182]; clear hw182
            obtain ⟨σ183, hw184, H, -⟩ := H.pub 2 rfl (Nat.le_refl _)
            rw [← hw184]; clear hw184
            replace H := H.roLow 1 0 rfl (Nat.zero_le _)
            replace H := H.roLow 1 0 rfl (Nat.zero_le _)
            obtain ⟨r185, hx186, h'⟩ := bind_some h
            clear h
            have h := h'; clear h'
            have hc187 := c_laws_eqIntS (aa_0 := a177) (ca_0 := c178) (ab_1 := a37) (cb_1 := c38) hx186
            refine st_call (cx_call hc187 (ent_f hc187.fn rfl) hn0 (show Hp S0 σ0 _ ([Ch.ro 0 (Sl a177 r174 c178) r174, Ch.ro 0 (Sl a37 r34 c38) r34] ++ [Ch.ro 0 (Sl a37 r34 c38) r34, Ch.ro 0 (Sl a177 r174 c178) r174, Ch.ro n0 (Sl a37 r34 c38) r34, Ch.ro n0 (Sl a177 r174 c178) r174, Ch.own 0 0 (Sl a65 r137.2 c66) r137.2]) from (H.sel' [1, 0, 0, 1, 2, 3, 4] rfl rfl))) wn ?_
            rintro _ σ188 ⟨_, ⟨rfl, rfl⟩, H, -⟩
            replace H : Hp S0 σ0 σ188 [Ch.ro 0 (Sl a37 r34 c38) r34, Ch.ro 0 (Sl a177 r174 c178) r174, Ch.ro n0 (Sl a37 r34 c38) r34, Ch.ro n0 (Sl a177 r174 c178) r174, Ch.own 0 0 (Sl a65 r137.2 c66) r137.2] := H
            refine st (v := (B (!r185))) (rv_not rfl) ?_
            refine w_end ?_
            refine q_then ?_
            refine cd_cond (!r185) rfl (fun hb189 => ?_) (fun hb189 => ?_)
            ·replace h := bif_t hb189 h
             refine c_seq ?_
             refine rg ?_
             refine st (v := (B false)) (rv_assign rfl) ?_
             refine w_end ?_
             refine q_then ?_
             refine c_ret ?_
             refine q_then_r ?_
             obtain rfl := Option.some.inj h
             exact fin_ret (v := (B false)) (results_ok Try.results5 (res_tmp (v := (B false)) rfl res_nil) rfl) ⟨rfl, rfl⟩ (H.sel' [] rfl rfl)
            ·replace h := bif_f hb189 h
             refine c_skip ?_
             refine q_then ?_
             refine c_seq ?_
             refine rg ?_
             refine st (v := (I 1)) (rv_assign rfl) ?_
             refine w_end ?_
             refine q_then ?_
             refine c_seq ?_
             refine rg ?_
             refine st (v := (Sl a65 r137.2 c66)) (rv_move rfl) ?_
             refine st (v := (I 1)) (rv_move rfl) ?_
             obtain ⟨σ190, hw191, H, -⟩ := H.pub 4 rfl (Nat.le_refl _)
             rw [← hw191]; clear hw191
             obtain ⟨r192, hx193, h'⟩ := bind_some h
             clear h
             have h := h'; clear h'
             have hc194 := c_laws_heldIntS (aa_0 := a65) (ca_0 := c66) hx193
             refine st_call (cx_call hc194 (ent_f hc194.fn rfl) hn0 (show Hp S0 σ0 _ ([Ch.ro 0 (Sl a65 r137.2 c66) r137.2] ++ [Ch.ro 0 (Sl a65 r137.2 c66) r137.2, Ch.ro 0 (Sl a37 r34 c38) r34, Ch.ro 0 (Sl a177 r174 c178) r174, Ch.ro n0 (Sl a37 r34 c38) r34, Ch.ro n0 (Sl a177 r174 c178) r174]) from (H.sel' [0, 0, 1, 2, 3, 4] rfl rfl))) wn ?_
             rintro _ σ195 ⟨_, ⟨rfl, rfl⟩, H, -⟩
             replace H : Hp S0 σ0 σ195 [Ch.ro 0 (Sl a65 r137.2 c66) r137.2, Ch.ro 0 (Sl a37 r34 c38) r34, Ch.ro 0 (Sl a177 r174 c178) r174, Ch.ro n0 (Sl a37 r34 c38) r34, Ch.ro n0 (Sl a177 r174 c178) r174] := H
             refine st (v := (I r192)) (rv_assign rfl) ?_
             refine w_end ?_
             refine q_then ?_
             refine c_seq ?_
             refine c_seq ?_
             refine rg ?_
             refine st (v := (I r192)) (rv_move rfl) ?_
             refine st (v := (B (decide (r192 < 0)))) (rv_lss (a := r192) (b := 0) rfl rfl) ?_
             refine w_end ?_
             refine q_then ?_
             refine cd_cond (decide (r192 < 0)) rfl (fun hb196 => ?_) (fun hb196 => ?_)
             ·replace h := bif_t hb196 h
              refine c_seq ?_
              refine rg ?_
              refine st (v := (B false)) (rv_assign rfl) ?_
              refine w_end ?_
              refine q_then ?_
              refine c_ret ?_
              refine q_then_r ?_
              obtain rfl := Option.some.inj h
              exact fin_ret (v := (B false)) (results_ok Try.results5 (res_tmp (v := (B false)) rfl res_nil) rfl) ⟨rfl, rfl⟩ (H.sel' [] rfl rfl)
             ·replace h := bif_f hb196 h
              refine c_skip ?_
              refine q_then ?_
              refine c_seq ?_
              refine c_seq ?_
              refine rg ?_
              refine st (v := (I r192)) (rv_move rfl) ?_
              refine st (v := (I r137.1)) (rv_move rfl) ?_
              refine st (v := (B (r192 != r137.1))) (rv_neq (a := r192) (b := r137.1) rfl rfl) ?_
              refine w_end ?_
              refine q_then ?_
              refine cd_cond (r192 != r137.1) rfl (fun hb197 => ?_) (fun hb197 => ?_)
              ·replace h := bif_t hb197 h
               refine c_seq ?_
               refine rg ?_
               refine st (v := (B false)) (rv_assign rfl) ?_
               refine w_end ?_
               refine q_then ?_
               refine c_ret ?_
               refine q_then_r ?_
               obtain rfl := Option.some.inj h
               exact fin_ret (v := (B false)) (results_ok Try.results5 (res_tmp (v := (B false)) rfl res_nil) rfl) ⟨rfl, rfl⟩ (H.sel' [] rfl rfl)
              ·replace h := bif_f hb197 h
               refine c_skip ?_
               refine q_then ?_
               refine c_seq ?_
               refine rg ?_
               refine st (v := (B true)) (rv_assign rfl) ?_
               refine w_end ?_
               refine q_then ?_
               refine c_ret ?_
               obtain rfl := Option.some.inj h
               exact fin_ret (v := (B true)) (results_ok Try.results5 (res_tmp (v := (B true)) rfl res_nil) rfl) ⟨rfl, rfl⟩ (H.sel' [] rfl rfl)

end Go.Vs
