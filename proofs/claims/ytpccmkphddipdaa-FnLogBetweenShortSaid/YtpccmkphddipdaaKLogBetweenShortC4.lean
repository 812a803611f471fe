/- The functions compute what their models say. -/
import Derived.Test.YtpccmkphddipdaaKLogBetweenShortC3
set_option linter.unusedVariables false
set_option linter.unusedSimpArgs false
set_option maxRecDepth 20000
namespace Go.Vs
open Go Go.Proofs
attribute [local irreducible] Code.wp Code.wpIn wpList wpListIn wpQuiet Calls CallsIn

theorem c_slices_Equal_int_int {s1_0 : List Int} {s2_1 : List Int} {as1_0 : Option Addr} {cs1_0 : Nat} {as2_1 : Option Addr} {cs2_1 : Nat} {r : Bool} (h : M.slices_Equal_int_int s1_0 s2_1 = some r) :
    Cal2 Try.prog 104 [(Sl as1_0 s1_0 cs1_0), (Sl as2_1 s2_1 cs2_1)] [Ch.ro 0 (Sl as1_0 s1_0 cs1_0) s1_0, Ch.ro 0 (Sl as2_1 s2_1 cs2_1) s2_1] (fun n0 v L => v = (B r) ∧ L = []) := by
 refine cal2 (n := 26) Try.func104 rfl rfl rfl rfl ?_
 intro S0 σ0 n0 hn0 H
 unfold M.slices_Equal_int_int at h
 refine c_seq ?_
 refine rg ?_
 refine st (v := (B false)) (rv_assign rfl) ?_
 refine w_end ?_
 refine q_then ?_
 refine c_seq ?_
 refine c_seq ?_
 refine rg ?_
 refine st (v := (Sl as1_0 s1_0 cs1_0)) (rv_move rfl) ?_
 refine st (v := (I (s1_0.length : Int))) (rv_len Try.underlying34 rfl) ?_
 refine st (v := (Sl as2_1 s2_1 cs2_1)) (rv_move rfl) ?_
 refine st (v := (I (s2_1.length : Int))) (rv_len Try.underlying34 rfl) ?_
 refine st (v := (B ((s1_0.length : Int) != (s2_1.length : Int)))) (rv_neq (a := (s1_0.length : Int)) (b := (s2_1.length : Int)) rfl rfl) ?_
 refine w_end ?_
 refine q_then ?_
 refine cd_cond ((s1_0.length : Int) != (s2_1.length : Int)) rfl (fun hb1 => ?_) (fun hb1 => ?_)
 ·replace h := bif_t hb1 h
  refine c_seq ?_
  refine rg ?_
  refine st (v := (B false)) (rv_assign rfl) ?_
  refine w_end ?_
  refine q_then ?_
  refine c_ret ?_
  refine q_then_r ?_
  obtain rfl := Option.some.inj h
  exact fin_ret (v := (B false)) (results_ok Try.results104 (res_tmp (v := (B false)) rfl res_nil) rfl) ⟨rfl, rfl⟩ (H.sel' [] rfl rfl)
 ·replace h := bif_f hb1 h
  refine c_skip ?_
  refine q_then ?_
  refine c_seq ?_
  refine c_seq ?_
  refine rg ?_
  refine st (v := (Sl as1_0 s1_0 cs1_0)) (rv_move rfl) ?_
  refine st (v := (I (s1_0.length : Int))) (rv_len Try.underlying34 rfl) ?_
  refine st (v := (I 0)) (rv_move rfl) ?_
  refine w_end ?_
  refine q_then ?_
  obtain ⟨o2, hj, h'⟩ := bind_some h
  clear h
  refine c_cut (fun e a w => (∃ t, o2 = (.inl t) ∧ e = .normal ∧ ∃ (ρ : Nat → Value) (σ : St), a = fr 26 (updL ρ []) ∧ w = σ.w ∧ Hp S0 σ0 σ []) ∨ (∃ t, o2 = (.inr t) ∧ e = .ret ∧ ∃ (ρ : Nat → Value) (σ : St), a = fr 26 (updL ρ [(4, (B t))]) ∧ w = σ.w ∧ Hp S0 σ0 σ [])) ?_ ?_
  ·clear h'
   rename _ = some o2 => h
   refine c_blk ?_
   refine wp_loopM _ h (fun s3 a w => ∃ (ρ : Nat → Value) (σ : St), a = fr 26 (updL ρ [(0, (Sl as1_0 s1_0 cs1_0)), (1, (Sl as2_1 s2_1 cs2_1)), (12, (I (s1_0.length : Int))), (13, (I s3))]) ∧ w = σ.w ∧ Hp S0 σ0 σ [Ch.ro 0 (Sl as1_0 s1_0 cs1_0) s1_0, Ch.ro 0 (Sl as2_1 s2_1 cs2_1) s2_1]) ⟨_, σ0, fr_join ⟨rfl, rfl, rfl, rfl, trivial⟩, rfl, H.sel' [0, 1] rfl rfl⟩ ?_
   clear h H
   rintro s3 a w o ⟨ρ, σ4, rfl, rfl, H⟩ h hres
   refine c_seq ?_
   refine rg ?_
   refine st (v := (B (decide (s3 < (s1_0.length : Int))))) (rv_lss (a := s3) (b := (s1_0.length : Int)) rfl rfl) ?_
   refine w_end ?_
   refine q_then ?_
   refine c_seq ?_
   refine cd_cond (decide (s3 < (s1_0.length : Int))) rfl (fun hb5 => ?_) (fun hb5 => ?_)
   ·replace h := bif_t hb5 h
    refine c_skip ?_
    refine q_then ?_
    refine c_seq ?_
    refine c_blk ?_
    refine c_seq ?_
    refine rg ?_
    refine st (v := (I s3)) (rv_move rfl) ?_
    refine st (v := (I s3)) (rv_assign rfl) ?_
    refine w_end ?_
    refine q_then ?_
    refine c_seq ?_
    refine rgP (σ := σ4) 8 (by kernel_rfl) (by kernel_rfl) (by kernel_rfl) ?_
    refine sq (v := (Sl as1_0 s1_0 cs1_0)) (rv_move rfl) ?_
    refine sq (v := (I s3)) (rv_move rfl) ?_
    obtain ⟨x6, hx7, h'⟩ := bind_some h
    clear h
    have h := h'; clear h'
    obtain ⟨b9, o10, hi8, -⟩ := (H.ro 0 rfl).ix hx7
    refine sq (v := (pt b9 o10)) (rv_ix Try.underlying34 ti3 rfl rfl hi8) ?_
    have hc11 := ((H.ro 0 rfl).at hx7 hi8).int
    refine sq (v := (I x6)) (rv_load1 Try.underlying3 rfl rfl hc11) ?_
    refine sq (v := (Sl as2_1 s2_1 cs2_1)) (rv_move rfl) ?_
    refine sq (v := (I s3)) (rv_move rfl) ?_
    obtain ⟨x12, hx13, h'⟩ := bind_some h
    clear h
    have h := h'; clear h'
    obtain ⟨b15, o16, hi14, -⟩ := (H.ro 1 rfl).ix hx13
    refine sq (v := (pt b15 o16)) (rv_ix Try.underlying34 ti3 rfl rfl hi14) ?_
    have hc17 := ((H.ro 1 rfl).at hx13 hi14).int
    refine sq (v := (I x12)) (rv_load1 Try.underlying3 rfl rfl hc17) ?_
    refine sq_end ?_
    intro σ18 hm19
    replace H := H.grow (hm19.mono fun _ h => h); clear hm19
    refine st (v := (B (x6 != x12))) (rv_neq (a := x6) (b := x12) rfl rfl) ?_
    refine w_end ?_
    refine q_then ?_
    refine cd_cond (x6 != x12) rfl (fun hb20 => ?_) (fun hb20 => ?_)
    ·replace h := bif_t hb20 h
     refine c_seq ?_
     refine rg ?_
     refine st (v := (B false)) (rv_assign rfl) ?_
     refine w_end ?_
     refine q_then ?_
     refine c_ret ?_
     refine q_blk_r ?_
     refine q_then_r ?_
     refine q_then_r ?_
     refine q_blk_r ?_
     obtain rfl := Option.some.inj h
     obtain rfl := hres _ rfl
     exact .inr (⟨_, rfl, rfl, _, σ18, fr_join ⟨rfl, trivial⟩, rfl, H.sel' [] rfl rfl⟩)
    ·replace h := bif_f hb20 h
     refine c_skip ?_
     refine q_blk ?_
     refine q_then ?_
     refine rg ?_
     refine st (v := (I (w64 (s3 + 1)))) (rv_add (a := s3) (b := 1) rfl rfl) ?_
     refine st (v := (I (w64 (s3 + 1)))) (rv_move rfl) ?_
     refine w_end ?_
     refine q_then ?_
     obtain rfl := Option.some.inj h
     exact ⟨_, rfl, _, σ18, fr_join ⟨rfl, rfl, rfl, rfl, trivial⟩, rfl, H.sel' [0, 1] rfl rfl⟩
   ·replace h := bif_f hb5 h
    refine c_exit ?_
    refine q_then_x ?_
    refine q_then_x ?_
    refine q_blk_hit ?_
    obtain rfl := Option.some.inj h
    obtain rfl := hres _ rfl
    exact .inl ⟨_, rfl, rfl, _, σ4, fr_join trivial, rfl, H.sel' [] rfl rfl⟩
  ·clear hj
   have h := h'
   clear h' H
   rintro e a w (⟨t21, rfl, rfl, ρ, σ22, rfl, rfl, H⟩ | ⟨t23, rfl, rfl, ρ, σ24, rfl, rfl, H⟩)
   ·replace h := selim_l h
    refine q_then ?_
    refine c_seq ?_
    refine rg ?_
    refine st (v := (B true)) (rv_assign rfl) ?_
    refine w_end ?_
    refine q_then ?_
    refine c_ret ?_
    obtain rfl := Option.some.inj h
    exact fin_ret (v := (B true)) (results_ok Try.results104 (res_tmp (v := (B true)) rfl res_nil) rfl) ⟨rfl, rfl⟩ (H.sel' [] rfl rfl)
   ·replace h := selim_r h
    refine q_then_r ?_
    obtain rfl := Option.some.inj h
    exact fin_ret (v := (B t23)) (results_ok Try.results104 (res_tmp (v := (B t23)) rfl res_nil) rfl) ⟨rfl, rfl⟩ (H.sel' [] rfl rfl)

theorem c_impl_equalItems {a_0 : Int × (List Int) × Int} {b_1 : Int × (List Int) × Int} {aa_0_1 : Option Addr} {ca_0_1 : Nat} {ab_1_1 : Option Addr} {cb_1_1 : Nat} {r : Bool} (h : M.impl_equalItems a_0 b_1 = some r) :
    Cal2 Try.prog 91 [(.agg #[(I a_0.1), (Sl aa_0_1 a_0.2.1 ca_0_1), (I a_0.2.2)]), (.agg #[(I b_1.1), (Sl ab_1_1 b_1.2.1 cb_1_1), (I b_1.2.2)])] [Ch.ro 0 (Sl aa_0_1 a_0.2.1 ca_0_1) a_0.2.1, Ch.ro 0 (Sl ab_1_1 b_1.2.1 cb_1_1) b_1.2.1] (fun n0 v L => v = (B r) ∧ L = []) := by
 refine cal2 (n := 24) Try.func91 rfl rfl rfl rfl ?_
 intro S0 σ0 n0 hn0 H
 unfold M.impl_equalItems at h
 refine c_seq ?_
 refine rg ?_
 refine st_ex (ex_box (cs := [(I a_0.1), (Sl aa_0_1 a_0.2.1 ca_0_1), (I a_0.2.2)]) H hn0 rfl rfl) wn ?_
 rintro _ σ2 ⟨b1, rfl, H, -⟩
 refine st_ex (ex_box (cs := [(I b_1.1), (Sl ab_1_1 b_1.2.1 cb_1_1), (I b_1.2.2)]) H hn0 rfl rfl) wn ?_
 rintro _ σ4 ⟨b3, rfl, H, -⟩
 refine st (v := (B false)) (rv_assign rfl) ?_
 refine w_end ?_
 refine q_then ?_
 refine c_seq ?_
 refine rg ?_
 refine st (v := (pt b1 0)) (rv_fieldAddr (off := 0) (ft := 3) Try.underlying36 rfl ti3 rfl rfl) ?_
 have hc5 := H.cell (u := (I a_0.1)) (o' := 0) 1 0 rfl rfl rfl
 refine st (v := (I a_0.1)) (rv_load1 Try.underlying3 rfl rfl hc5) ?_
 refine st (v := (pt b3 0)) (rv_fieldAddr (off := 0) (ft := 3) Try.underlying36 rfl ti3 rfl rfl) ?_
 have hc6 := H.cell (u := (I b_1.1)) (o' := 0) 0 0 rfl rfl rfl
 refine st (v := (I b_1.1)) (rv_load1 Try.underlying3 rfl rfl hc6) ?_
 refine st (v := (B (a_0.1 == b_1.1))) (rv_eql (a := a_0.1) (b := b_1.1) rfl rfl) ?_
 refine st (v := (B (a_0.1 == b_1.1))) (rv_move rfl) ?_
 rcases Bool.eq_false_or_eq_true (a_0.1 == b_1.1) with hb7 | hb7
 ·replace h := bif_t hb7 h
  refine st_g (v := (pt b1 2)) (congrArg some hb7) (rv_fieldAddr (off := 2) (ft := 3) Try.underlying36 rfl ti3 rfl rfl) ?_
  have hc8 := H.cell (u := (I a_0.2.2)) (o' := 2) 1 2 rfl rfl rfl
  refine st_g (v := (I a_0.2.2)) (congrArg some hb7) (rv_load1 Try.underlying3 rfl rfl hc8) ?_
  refine st_g (v := (pt b3 2)) (congrArg some hb7) (rv_fieldAddr (off := 2) (ft := 3) Try.underlying36 rfl ti3 rfl rfl) ?_
  have hc9 := H.cell (u := (I b_1.2.2)) (o' := 2) 0 2 rfl rfl rfl
  refine st_g (v := (I b_1.2.2)) (congrArg some hb7) (rv_load1 Try.underlying3 rfl rfl hc9) ?_
  refine st_g (v := (B (a_0.2.2 == b_1.2.2))) (congrArg some hb7) (rv_eql (a := a_0.2.2) (b := b_1.2.2) rfl rfl) ?_
  refine st (v := (B (a_0.2.2 == b_1.2.2))) (rv_pick_t (congrArg B hb7) rfl) ?_
  refine st (v := (B (a_0.2.2 == b_1.2.2))) (rv_move rfl) ?_
  rcases Bool.eq_false_or_eq_true (a_0.2.2 == b_1.2.2) with hb10 | hb10
  ·replace h := bif_t hb10 h
   refine st_g (v := (pt b1 1)) (congrArg some hb10) (rv_fieldAddr (off := 1) (ft := 34) Try.underlying36 rfl ti34 rfl rfl) ?_
   have hc11 := H.cell (u := (Sl aa_0_1 a_0.2.1 ca_0_1)) (o' := 1) 1 1 rfl rfl rfl
   refine st_g (v := (Sl aa_0_1 a_0.2.1 ca_0_1)) (congrArg some hb10) (rv_load1 Try.underlying34 rfl rfl hc11) ?_
   refine st_g (v := (pt b3 1)) (congrArg some hb10) (rv_fieldAddr (off := 1) (ft := 34) Try.underlying36 rfl ti34 rfl rfl) ?_
   have hc12 := H.cell (u := (Sl ab_1_1 b_1.2.1 cb_1_1)) (o' := 1) 0 1 rfl rfl rfl
   refine st_g (v := (Sl ab_1_1 b_1.2.1 cb_1_1)) (congrArg some hb10) (rv_load1 Try.underlying34 rfl rfl hc12) ?_
   obtain ⟨r13, hx14, h'⟩ := bind_some h
   clear h
   have h := h'; clear h'
   have hc15 := c_slices_Equal_int_int (as1_0 := aa_0_1) (cs1_0 := ca_0_1) (as2_1 := ab_1_1) (cs2_1 := cb_1_1) hx14
   refine st_call (cx_call hc15 (ent_f hc15.fn rfl) hn0 (show Hp S0 σ0 _ ([Ch.ro 0 (Sl aa_0_1 a_0.2.1 ca_0_1) a_0.2.1, Ch.ro 0 (Sl ab_1_1 b_1.2.1 cb_1_1) b_1.2.1] ++ [Ch.bx n0 b3 0 [(I b_1.1), (Sl ab_1_1 b_1.2.1 cb_1_1), (I b_1.2.2)] [] [], Ch.bx n0 b1 0 [(I a_0.1), (Sl aa_0_1 a_0.2.1 ca_0_1), (I a_0.2.2)] [] [], Ch.ro 0 (Sl aa_0_1 a_0.2.1 ca_0_1) a_0.2.1, Ch.ro 0 (Sl ab_1_1 b_1.2.1 cb_1_1) b_1.2.1]) from (H.sel' [2, 3, 0, 1, 2, 3] rfl rfl))) (wanted_yes rfl (by exact (congrArg some hb10))) ?_
   rintro _ σ16 ⟨_, ⟨rfl, rfl⟩, H, -⟩
   replace H : Hp S0 σ0 σ16 [Ch.bx n0 b3 0 [(I b_1.1), (Sl ab_1_1 b_1.2.1 cb_1_1), (I b_1.2.2)] [] [], Ch.bx n0 b1 0 [(I a_0.1), (Sl aa_0_1 a_0.2.1 ca_0_1), (I a_0.2.2)] [] [], Ch.ro 0 (Sl aa_0_1 a_0.2.1 ca_0_1) a_0.2.1, Ch.ro 0 (Sl ab_1_1 b_1.2.1 cb_1_1) b_1.2.1] := H
   refine st (v := (B r13)) (rv_pick_t (congrArg B hb10) rfl) ?_
   refine st (v := (B r13)) (rv_assign rfl) ?_
   refine w_end ?_
   refine q_then ?_
   refine c_ret ?_
   obtain rfl := Option.some.inj h
   exact fin_ret (v := (B r13)) (results_ok Try.results91 (res_tmp (v := (B r13)) rfl res_nil) rfl) ⟨rfl, rfl⟩ (H.sel' [] rfl rfl)
  ·replace h := bif_f hb10 h
   refine st_skip (congrArg some hb10) ?_
   refine st_skip (congrArg some hb10) ?_
   refine st_skip (congrArg some hb10) ?_
   refine st_skip (congrArg some hb10) ?_
   refine st_skip (congrArg some hb10) ?_
   refine st (v := (B false)) (rv_pick_f (congrArg B hb10) rfl) ?_
   refine st (v := (B false)) (rv_assign rfl) ?_
   refine w_end ?_
   refine q_then ?_
   refine c_ret ?_
   obtain rfl := Option.some.inj h
   exact fin_ret (v := (B false)) (results_ok Try.results91 (res_tmp (v := (B false)) rfl res_nil) rfl) ⟨rfl, rfl⟩ (H.sel' [] rfl rfl)
 ·replace h := bif_f hb7 h
  refine st_skip (congrArg some hb7) ?_
  refine st_skip (congrArg some hb7) ?_
  refine st_skip (congrArg some hb7) ?_
  refine st_skip (congrArg some hb7) ?_
  refine st_skip (congrArg some hb7) ?_
  refine st (v := (B false)) (rv_pick_f (congrArg B hb7) rfl) ?_
  refine st (v := (B false)) (rv_move rfl) ?_
  refine st_skip rfl ?_
  refine st_skip rfl ?_
  refine st_skip rfl ?_
  refine st_skip rfl ?_
  refine st_skip rfl ?_
  refine st (v := (B false)) (rv_pick_f rfl rfl) ?_
  refine st (v := (B false)) (rv_assign rfl) ?_
  refine w_end ?_
  refine q_then ?_
  refine c_ret ?_
  obtain rfl := Option.some.inj h
  exact fin_ret (v := (B false)) (results_ok Try.results91 (res_tmp (v := (B false)) rfl res_nil) rfl) ⟨rfl, rfl⟩ (H.sel' [] rfl rfl)

theorem c_impl_hasItem_1__p_impl_Item {y_0 : Int × (List Int) × Int} {p_1 : Int × (List Int) × Int} {ay_0_1 : Option Addr} {cy_0_1 : Nat} {ap_1_1 : Option Addr} {cp_1_1 : Nat} {lop_1 bp_1 op_1 : Nat} {prep_1 sufp_1 : List Value} {r : Bool} (h : M.impl_hasItem_1__p_impl_Item y_0 p_1 = some r) :
    Cal2 Try.prog 90 [(.agg #[(I y_0.1), (Sl ay_0_1 y_0.2.1 cy_0_1), (I y_0.2.2)]), (pt bp_1 op_1)] [Ch.ro 0 (Sl ay_0_1 y_0.2.1 cy_0_1) y_0.2.1, Ch.bx lop_1 bp_1 op_1 [(I p_1.1), (Sl ap_1_1 p_1.2.1 cp_1_1), (I p_1.2.2)] prep_1 sufp_1, Ch.ro 0 (Sl ap_1_1 p_1.2.1 cp_1_1) p_1.2.1] (fun n0 v L => v = (B r) ∧ L = [Ch.bx lop_1 bp_1 op_1 [(I p_1.1), (Sl ap_1_1 p_1.2.1 cp_1_1), (I p_1.2.2)] prep_1 sufp_1]) := by
 refine cal2 (n := 7) Try.func90 rfl rfl rfl rfl ?_
 intro S0 σ0 n0 hn0 H
 unfold M.impl_hasItem_1__p_impl_Item at h
 refine c_seq ?_
 refine rg ?_
 refine st_ex (ex_box (cs := [(I y_0.1), (Sl ay_0_1 y_0.2.1 cy_0_1), (I y_0.2.2)]) H hn0 rfl rfl) wn ?_
 rintro _ σ2 ⟨b1, rfl, H, -⟩
 refine st (v := (B false)) (rv_assign rfl) ?_
 refine w_end ?_
 refine q_then ?_
 refine c_seq ?_
 refine rg ?_
 have hc3 := H.cells 2 rfl
 refine st (v := (.agg #[(I p_1.1), (Sl ap_1_1 p_1.2.1 cp_1_1), (I p_1.2.2)])) (rv_load (cs := [(I p_1.1), (Sl ap_1_1 p_1.2.1 cp_1_1), (I p_1.2.2)]) Try.underlying36 rfl ti36 rfl rfl hc3) ?_
 have hc4 := H.cells 0 rfl
 refine st (v := (.agg #[(I y_0.1), (Sl ay_0_1 y_0.2.1 cy_0_1), (I y_0.2.2)])) (rv_load (cs := [(I y_0.1), (Sl ay_0_1 y_0.2.1 cy_0_1), (I y_0.2.2)]) Try.underlying36 rfl ti36 rfl rfl hc4) ?_
 obtain ⟨r5, hx6, h'⟩ := bind_some h
 clear h
 have h := h'; clear h'
 have hc7 := c_impl_equalItems (aa_0_1 := ap_1_1) (ca_0_1 := cp_1_1) (ab_1_1 := ay_0_1) (cb_1_1 := cy_0_1) hx6
 refine st_call (cx_call hc7 (ent_f hc7.fn rfl) hn0 (show Hp S0 σ0 _ ([Ch.ro 0 (Sl ap_1_1 p_1.2.1 cp_1_1) p_1.2.1, Ch.ro 0 (Sl ay_0_1 y_0.2.1 cy_0_1) y_0.2.1] ++ [Ch.bx n0 b1 0 [(I y_0.1), (Sl ay_0_1 y_0.2.1 cy_0_1), (I y_0.2.2)] [] [], Ch.ro 0 (Sl ay_0_1 y_0.2.1 cy_0_1) y_0.2.1, Ch.bx lop_1 bp_1 op_1 [(I p_1.1), (Sl ap_1_1 p_1.2.1 cp_1_1), (I p_1.2.2)] prep_1 sufp_1, Ch.ro 0 (Sl ap_1_1 p_1.2.1 cp_1_1) p_1.2.1]) from (H.sel' [3, 1, 0, 1, 2, 3] rfl rfl))) wn ?_
 rintro _ σ8 ⟨_, ⟨rfl, rfl⟩, H, -⟩
 replace H : Hp S0 σ0 σ8 [Ch.bx n0 b1 0 [(I y_0.1), (Sl ay_0_1 y_0.2.1 cy_0_1), (I y_0.2.2)] [] [], Ch.ro 0 (Sl ay_0_1 y_0.2.1 cy_0_1) y_0.2.1, Ch.bx lop_1 bp_1 op_1 [(I p_1.1), (Sl ap_1_1 p_1.2.1 cp_1_1), (I p_1.2.2)] prep_1 sufp_1, Ch.ro 0 (Sl ap_1_1 p_1.2.1 cp_1_1) p_1.2.1] := H
 refine st (v := (B r5)) (rv_assign rfl) ?_
 refine w_end ?_
 refine q_then ?_
 refine c_ret ?_
 obtain rfl := Option.some.inj h
 exact fin_ret (v := (B r5)) (results_ok Try.results90 (res_tmp (v := (B r5)) rfl res_nil) rfl) ⟨rfl, rfl⟩ (H.sel' [2] rfl rfl)

theorem c_slices_IndexFunc_impl_Item_impl_Item__impl_hasItem_1 {s_0 : List (Int × (List Int) × Int)} {f_1_0 : Int × (List Int) × Int} {as_0 : Option Addr} {cs_0 : Nat} {af_1_0_1 : Option Addr} {cf_1_0_1 : Nat} {lof_1_0 bf_1_0 of_1_0 : Nat} {pref_1_0 suff_1_0 : List Value} {r : Int} (h : M.slices_IndexFunc_impl_Item_impl_Item__impl_hasItem_1 s_0 f_1_0 = some r) :
    Cal2 Try.prog 103 [(Sl as_0 s_0 cs_0), (.func (.func 90) #[] #[(pt bf_1_0 of_1_0)])] [Ch.ro 0 (Sl as_0 s_0 cs_0) s_0, Ch.bx lof_1_0 bf_1_0 of_1_0 [(I f_1_0.1), (Sl af_1_0_1 f_1_0.2.1 cf_1_0_1), (I f_1_0.2.2)] pref_1_0 suff_1_0, Ch.ro 0 (Sl af_1_0_1 f_1_0.2.1 cf_1_0_1) f_1_0.2.1] (fun n0 v L => v = (I r) ∧ L = [Ch.bx lof_1_0 bf_1_0 of_1_0 [(I f_1_0.1), (Sl af_1_0_1 f_1_0.2.1 cf_1_0_1), (I f_1_0.2.2)] pref_1_0 suff_1_0]) := by
 refine cal2 (n := 19) Try.func103 rfl rfl rfl rfl ?_
 intro S0 σ0 n0 hn0 H
 unfold M.slices_IndexFunc_impl_Item_impl_Item__impl_hasItem_1 at h
 refine c_seq ?_
 refine rg ?_
 refine st (v := (I 0)) (rv_assign rfl) ?_
 refine w_end ?_
 refine q_then ?_
 refine c_seq ?_
 refine c_seq ?_
 refine rg ?_
 refine st (v := (Sl as_0 s_0 cs_0)) (rv_move rfl) ?_
 refine st (v := (I (s_0.length : Int))) (rv_len Try.underlying27 rfl) ?_
 refine st (v := (I 0)) (rv_move rfl) ?_
 refine w_end ?_
 refine q_then ?_
 obtain ⟨o1, hj, h'⟩ := bind_some h
 clear h
 refine c_cut (fun e a w => (∃ t, o1 = (.inl t) ∧ e = .normal ∧ ∃ (ρ : Nat → Value) (σ : St), a = fr 19 (updL ρ [(1, (.func (.func 90) #[] #[(pt bf_1_0 of_1_0)]))]) ∧ w = σ.w ∧ Hp S0 σ0 σ [Ch.ro 0 (Sl af_1_0_1 f_1_0.2.1 cf_1_0_1) f_1_0.2.1, Ch.bx lof_1_0 bf_1_0 of_1_0 [(I f_1_0.1), (Sl af_1_0_1 f_1_0.2.1 cf_1_0_1), (I f_1_0.2.2)] pref_1_0 suff_1_0]) ∨ (∃ t, o1 = (.inr t) ∧ e = .ret ∧ ∃ (ρ : Nat → Value) (σ : St), a = fr 19 (updL ρ [(1, (.func (.func 90) #[] #[(pt bf_1_0 of_1_0)])), (4, (I t))]) ∧ w = σ.w ∧ Hp S0 σ0 σ [Ch.ro 0 (Sl af_1_0_1 f_1_0.2.1 cf_1_0_1) f_1_0.2.1, Ch.bx lof_1_0 bf_1_0 of_1_0 [(I f_1_0.1), (Sl af_1_0_1 f_1_0.2.1 cf_1_0_1), (I f_1_0.2.2)] pref_1_0 suff_1_0])) ?_ ?_
 ·clear h'
  rename _ = some o1 => h
  refine c_blk ?_
  refine wp_loopM _ h (fun s2 a w => ∃ (ρ : Nat → Value) (σ : St), a = fr 19 (updL ρ [(0, (Sl as_0 s_0 cs_0)), (1, (.func (.func 90) #[] #[(pt bf_1_0 of_1_0)])), (7, (I (s_0.length : Int))), (8, (I s2))]) ∧ w = σ.w ∧ Hp S0 σ0 σ [Ch.ro 0 (Sl as_0 s_0 cs_0) s_0, Ch.ro 0 (Sl af_1_0_1 f_1_0.2.1 cf_1_0_1) f_1_0.2.1, Ch.bx lof_1_0 bf_1_0 of_1_0 [(I f_1_0.1), (Sl af_1_0_1 f_1_0.2.1 cf_1_0_1), (I f_1_0.2.2)] pref_1_0 suff_1_0]) ⟨_, σ0, fr_join ⟨rfl, rfl, rfl, rfl, trivial⟩, rfl, H.sel' [0, 2, 1] rfl rfl⟩ ?_
  clear h H
  rintro s2 a w o ⟨ρ, σ3, rfl, rfl, H⟩ h hres
  refine c_seq ?_
  refine rg ?_
  refine st (v := (B (decide (s2 < (s_0.length : Int))))) (rv_lss (a := s2) (b := (s_0.length : Int)) rfl rfl) ?_
  refine w_end ?_
  refine q_then ?_
  refine c_seq ?_
  refine cd_cond (decide (s2 < (s_0.length : Int))) rfl (fun hb4 => ?_) (fun hb4 => ?_)
  ·replace h := bif_t hb4 h
   refine c_skip ?_
   refine q_then ?_
   refine c_seq ?_
   refine c_blk ?_
   refine c_seq ?_
   refine rg ?_
   refine st (v := (I s2)) (rv_move rfl) ?_
   refine st (v := (I s2)) (rv_assign rfl) ?_
   refine w_end ?_
   refine q_then ?_
   refine c_seq ?_
   refine rg ?_
   refine st (v := (.func (.func 90) #[] #[(pt bf_1_0 of_1_0)])) (rv_move rfl) ?_
   refine st (v := (Sl as_0 s_0 cs_0)) (rv_move rfl) ?_
   refine st (v := (I s2)) (rv_move rfl) ?_
   obtain ⟨x5, hx6, h'⟩ := bind_some h
   clear h
   have h := h'; clear h'
   obtain ⟨b8, o9, hi7, -⟩ := (H.ro 0 rfl).ix hx6
   refine st (v := (pt b8 o9)) (rv_ix Try.underlying27 ti36 rfl rfl hi7) ?_
   obtain ⟨_, ⟨_, _, rfl, rfl, ⟨_, _, rfl, ⟨_, rfl, hR14⟩, rfl⟩⟩, hl10, hc11⟩ := ((H.ro 0 rfl).at hx6 hi7).cells
   obtain ⟨a12, c13, rfl⟩ := hR14.isSl
   replace H := H.add (d := Ch.ro 0 (Sl a12 x5.2.1 c13) x5.2.1) hR14 (fun _ h => h)
   clear hR14
   refine st (v := (.agg #[(I x5.1), (Sl a12 x5.2.1 c13), (I x5.2.2)])) (rv_load Try.underlying36 rfl ti36 rfl hl10 hc11) ?_
   obtain ⟨r15, hx16, h'⟩ := bind_some h
   clear h
   have h := h'; clear h'
   have hc17 := c_impl_hasItem_1__p_impl_Item (ay_0_1 := a12) (cy_0_1 := c13) (lop_1 := lof_1_0) (bp_1 := bf_1_0) (op_1 := of_1_0) (prep_1 := pref_1_0) (sufp_1 := suff_1_0) (ap_1_1 := af_1_0_1) (cp_1_1 := cf_1_0_1) hx16
   refine st_call (cx_call hc17 (ent_v (cap := [(pt bf_1_0 of_1_0)]) hc17.fn rfl rfl) hn0 (show Hp S0 σ0 _ ([Ch.ro 0 (Sl a12 x5.2.1 c13) x5.2.1, Ch.bx lof_1_0 bf_1_0 of_1_0 [(I f_1_0.1), (Sl af_1_0_1 f_1_0.2.1 cf_1_0_1), (I f_1_0.2.2)] pref_1_0 suff_1_0, Ch.ro 0 (Sl af_1_0_1 f_1_0.2.1 cf_1_0_1) f_1_0.2.1] ++ [Ch.ro 0 (Sl a12 x5.2.1 c13) x5.2.1, Ch.ro 0 (Sl as_0 s_0 cs_0) s_0, Ch.ro 0 (Sl af_1_0_1 f_1_0.2.1 cf_1_0_1) f_1_0.2.1]) from (H.sel' [0, 3, 2, 0, 1, 2] rfl rfl))) wn ?_
   rintro _ σ18 ⟨_, ⟨rfl, rfl⟩, H, -⟩
   replace H : Hp S0 σ0 σ18 [Ch.bx lof_1_0 bf_1_0 of_1_0 [(I f_1_0.1), (Sl af_1_0_1 f_1_0.2.1 cf_1_0_1), (I f_1_0.2.2)] pref_1_0 suff_1_0, Ch.ro 0 (Sl a12 x5.2.1 c13) x5.2.1, Ch.ro 0 (Sl as_0 s_0 cs_0) s_0, Ch.ro 0 (Sl af_1_0_1 f_1_0.2.1 cf_1_0_1) f_1_0.2.1] := H
   refine w_end ?_
   refine q_then ?_
   refine cd_cond r15 rfl (fun hb19 => ?_) (fun hb19 => ?_)
   ·replace h := bif_t hb19 h
    refine c_seq ?_
    refine rg ?_
    refine st (v := (I s2)) (rv_move rfl) ?_
    refine st (v := (I s2)) (rv_assign rfl) ?_
    refine w_end ?_
    refine q_then ?_
    refine c_ret ?_
    refine q_blk_r ?_
    refine q_then_r ?_
    refine q_then_r ?_
    refine q_blk_r ?_
    obtain rfl := Option.some.inj h
    obtain rfl := hres _ rfl
    exact .inr (⟨_, rfl, rfl, _, σ18, fr_join ⟨rfl, rfl, trivial⟩, rfl, H.sel' [3, 0] rfl rfl⟩)
   ·replace h := bif_f hb19 h
    refine c_skip ?_
    refine q_blk ?_
    refine q_then ?_
    refine rg ?_
    refine st (v := (I (w64 (s2 + 1)))) (rv_add (a := s2) (b := 1) rfl rfl) ?_
    refine st (v := (I (w64 (s2 + 1)))) (rv_move rfl) ?_
    refine w_end ?_
    refine q_then ?_
    obtain rfl := Option.some.inj h
    exact ⟨_, rfl, _, σ18, fr_join ⟨rfl, rfl, rfl, rfl, trivial⟩, rfl, H.sel' [2, 3, 0] rfl rfl⟩
  ·replace h := bif_f hb4 h
   refine c_exit ?_
   refine q_then_x ?_
   refine q_then_x ?_
   refine q_blk_hit ?_
   obtain rfl := Option.some.inj h
   obtain rfl := hres _ rfl
   exact .inl ⟨_, rfl, rfl, _, σ3, fr_join ⟨rfl, trivial⟩, rfl, H.sel' [1, 2] rfl rfl⟩
 ·clear hj
  have h := h'
  clear h' H
  rintro e a w (⟨t20, rfl, rfl, ρ, σ21, rfl, rfl, H⟩ | ⟨t22, rfl, rfl, ρ, σ23, rfl, rfl, H⟩)
  ·replace h := selim_l h
   refine q_then ?_
   refine c_seq ?_
   refine rg ?_
   refine st (v := (I (-1))) (rv_assign rfl) ?_
   refine w_end ?_
   refine q_then ?_
   refine c_ret ?_
   obtain rfl := Option.some.inj h
   exact fin_ret (v := (I (-1))) (results_ok Try.results103 (res_tmp (v := (I (-1))) rfl res_nil) rfl) ⟨rfl, rfl⟩ (H.sel' [1] rfl rfl)
  ·replace h := selim_r h
   refine q_then_r ?_
   obtain rfl := Option.some.inj h
   exact fin_ret (v := (I t22)) (results_ok Try.results103 (res_tmp (v := (I t22)) rfl res_nil) rfl) ⟨rfl, rfl⟩ (H.sel' [1] rfl rfl)

theorem c_slices_ContainsFunc_impl_Item_impl_Item__impl_hasItem_1 {s_0 : List (Int × (List Int) × Int)} {f_1_0 : Int × (List Int) × Int} {as_0 : Option Addr} {cs_0 : Nat} {af_1_0_1 : Option Addr} {cf_1_0_1 : Nat} {lof_1_0 bf_1_0 of_1_0 : Nat} {pref_1_0 suff_1_0 : List Value} {r : Bool} (h : M.slices_ContainsFunc_impl_Item_impl_Item__impl_hasItem_1 s_0 f_1_0 = some r) :
    Cal2 Try.prog 89 [(Sl as_0 s_0 cs_0), (.func (.func 90) #[] #[(pt bf_1_0 of_1_0)])] [Ch.ro 0 (Sl as_0 s_0 cs_0) s_0, Ch.bx lof_1_0 bf_1_0 of_1_0 [(I f_1_0.1), (Sl af_1_0_1 f_1_0.2.1 cf_1_0_1), (I f_1_0.2.2)] pref_1_0 suff_1_0, Ch.ro 0 (Sl af_1_0_1 f_1_0.2.1 cf_1_0_1) f_1_0.2.1] (fun n0 v L => v = (B r) ∧ L = [Ch.bx lof_1_0 bf_1_0 of_1_0 [(I f_1_0.1), (Sl af_1_0_1 f_1_0.2.1 cf_1_0_1), (I f_1_0.2.2)] pref_1_0 suff_1_0]) := by
 refine cal2 (n := 9) Try.func89 rfl rfl rfl rfl ?_
 intro S0 σ0 n0 hn0 H
 unfold M.slices_ContainsFunc_impl_Item_impl_Item__impl_hasItem_1 at h
 refine c_seq ?_
 refine rg ?_
 refine st (v := (B false)) (rv_assign rfl) ?_
 refine w_end ?_
 refine q_then ?_
 refine c_seq ?_
 refine rg ?_
 refine st (v := (Sl as_0 s_0 cs_0)) (rv_move rfl) ?_
 refine st (v := (.func (.func 90) #[] #[(pt bf_1_0 of_1_0)])) (rv_move rfl) ?_
 obtain ⟨r1, hx2, h'⟩ := bind_some h
 clear h
 have h := h'; clear h'
 have hc3 := c_slices_IndexFunc_impl_Item_impl_Item__impl_hasItem_1 (as_0 := as_0) (cs_0 := cs_0) (lof_1_0 := lof_1_0) (bf_1_0 := bf_1_0) (of_1_0 := of_1_0) (pref_1_0 := pref_1_0) (suff_1_0 := suff_1_0) (af_1_0_1 := af_1_0_1) (cf_1_0_1 := cf_1_0_1) hx2
 refine st_call (cx_call hc3 (ent_f hc3.fn rfl) hn0 (show Hp S0 σ0 _ ([Ch.ro 0 (Sl as_0 s_0 cs_0) s_0, Ch.bx lof_1_0 bf_1_0 of_1_0 [(I f_1_0.1), (Sl af_1_0_1 f_1_0.2.1 cf_1_0_1), (I f_1_0.2.2)] pref_1_0 suff_1_0, Ch.ro 0 (Sl af_1_0_1 f_1_0.2.1 cf_1_0_1) f_1_0.2.1] ++ [Ch.ro 0 (Sl as_0 s_0 cs_0) s_0, Ch.ro 0 (Sl af_1_0_1 f_1_0.2.1 cf_1_0_1) f_1_0.2.1]) from (H.sel' [0, 1, 2, 0, 2] rfl rfl))) wn ?_
 rintro _ σ4 ⟨_, ⟨rfl, rfl⟩, H, -⟩
 replace H : Hp S0 σ0 σ4 [Ch.bx lof_1_0 bf_1_0 of_1_0 [(I f_1_0.1), (Sl af_1_0_1 f_1_0.2.1 cf_1_0_1), (I f_1_0.2.2)] pref_1_0 suff_1_0, Ch.ro 0 (Sl as_0 s_0 cs_0) s_0, Ch.ro 0 (Sl af_1_0_1 f_1_0.2.1 cf_1_0_1) f_1_0.2.1] := H
 refine st (v := (B (decide (0 ≤ r1)))) (rv_geq (a := r1) (b := 0) rfl rfl) ?_
 refine st (v := (B (decide (0 ≤ r1)))) (rv_assign rfl) ?_
 refine w_end ?_
 refine q_then ?_
 refine c_ret ?_
 obtain rfl := Option.some.inj h
 exact fin_ret (v := (B (decide (0 ≤ r1)))) (results_ok Try.results89 (res_tmp (v := (B (decide (0 ≤ r1)))) rfl res_nil) rfl) ⟨rfl, rfl⟩ (H.sel' [0] rfl rfl)

theorem c_impl_hasItem {list_0 : List (Int × (List Int) × Int)} {x_1 : Int × (List Int) × Int} {alist_0 : Option Addr} {clist_0 : Nat} {ax_1_1 : Option Addr} {cx_1_1 : Nat} {r : Bool} (h : M.impl_hasItem list_0 x_1 = some r) :
    Cal2 Try.prog 57 [(Sl alist_0 list_0 clist_0), (.agg #[(I x_1.1), (Sl ax_1_1 x_1.2.1 cx_1_1), (I x_1.2.2)])] [Ch.ro 0 (Sl alist_0 list_0 clist_0) list_0, Ch.ro 0 (Sl ax_1_1 x_1.2.1 cx_1_1) x_1.2.1] (fun n0 v L => v = (B r) ∧ L = []) := by
 refine cal2 (n := 8) Try.func57 rfl rfl rfl rfl ?_
 intro S0 σ0 n0 hn0 H
 unfold M.impl_hasItem at h
 refine c_seq ?_
 refine rg ?_
 refine st_ex (ex_box (cs := [(I x_1.1), (Sl ax_1_1 x_1.2.1 cx_1_1), (I x_1.2.2)]) H hn0 rfl rfl) wn ?_
 rintro _ σ2 ⟨b1, rfl, H, -⟩
 refine st (v := (B false)) (rv_assign rfl) ?_
 refine w_end ?_
 refine q_then ?_
 refine c_seq ?_
 refine rg ?_
 refine st (v := (Sl alist_0 list_0 clist_0)) (rv_move rfl) ?_
 refine st (v := (.func (.func 90) #[] #[(pt b1 0)])) (rv_makeFunc (vs := [(pt b1 0)]) rfl) ?_
 obtain ⟨r3, hx4, h'⟩ := bind_some h
 clear h
 have h := h'; clear h'
 have hc5 := c_slices_ContainsFunc_impl_Item_impl_Item__impl_hasItem_1 (as_0 := alist_0) (cs_0 := clist_0) (lof_1_0 := n0) (bf_1_0 := b1) (of_1_0 := 0) (pref_1_0 := []) (suff_1_0 := []) (af_1_0_1 := ax_1_1) (cf_1_0_1 := cx_1_1) hx4
 refine st_call (cx_call hc5 (ent_f hc5.fn rfl) hn0 (show Hp S0 σ0 _ ([Ch.ro 0 (Sl alist_0 list_0 clist_0) list_0, Ch.bx n0 b1 0 [(I x_1.1), (Sl ax_1_1 x_1.2.1 cx_1_1), (I x_1.2.2)] [] [], Ch.ro 0 (Sl ax_1_1 x_1.2.1 cx_1_1) x_1.2.1] ++ [Ch.ro 0 (Sl alist_0 list_0 clist_0) list_0, Ch.ro 0 (Sl ax_1_1 x_1.2.1 cx_1_1) x_1.2.1]) from (H.sel' [1, 0, 2, 1, 2] rfl rfl))) wn ?_
 rintro _ σ6 ⟨_, ⟨rfl, rfl⟩, H, -⟩
 replace H : Hp S0 σ0 σ6 [Ch.bx n0 b1 0 [(I x_1.1), (Sl ax_1_1 x_1.2.1 cx_1_1), (I x_1.2.2)] [] [], Ch.ro 0 (Sl alist_0 list_0 clist_0) list_0, Ch.ro 0 (Sl ax_1_1 x_1.2.1 cx_1_1) x_1.2.1] := H
 refine st (v := (B r3)) (rv_assign rfl) ?_
 refine w_end ?_
 refine q_then ?_
 refine c_ret ?_
 obtain rfl := Option.some.inj h
 exact fin_ret (v := (B r3)) (results_ok Try.results57 (res_tmp (v := (B r3)) rfl res_nil) rfl) ⟨rfl, rfl⟩ (H.sel' [] rfl rfl)

theorem c_impl_LogBetween {a_0 : List (Int × (List Int) × Int)} {b_1 : List (Int × (List Int) × Int)} {aa_0 : Option Addr} {ca_0 : Nat} {ab_1 : Option Addr} {cb_1 : Nat} {r : (List (Int × (Int × (List Int) × Int)))} (h : M.impl_LogBetween a_0 b_1 = some r) :
    Cal2 Try.prog 31 [(Sl aa_0 a_0 ca_0), (Sl ab_1 b_1 cb_1)] [Ch.ro 0 (Sl aa_0 a_0 ca_0) a_0, Ch.ro 0 (Sl ab_1 b_1 cb_1) b_1] (fun n0 v L => ∃ (az1 : Option Addr), ∃ (cz2 : Nat), v = (Sl az1 r cz2) ∧ L = [Ch.own n0 n0 (Sl az1 r cz2) r]) := by
 refine cal2 (n := 61) Try.func31 rfl rfl rfl rfl ?_
 intro S0 σ0 n0 hn0 H
 unfold M.impl_LogBetween at h
 refine c_seq ?_
 refine rg ?_
 refine st (v := (.slice none 0 0)) (rv_assign rfl) ?_
 refine w_end ?_
 refine q_then ?_
 refine c_seq ?_
 refine c_seq ?_
 obtain ⟨o1, hj, h'⟩ := bind_some h
 clear h
 refine c_cut (fun e a w => e = .normal ∧ ∃ (ρ : Nat → Value) (σ : St), a = fr 61 (updL ρ [(0, (Sl aa_0 a_0 ca_0)), (1, (Sl ab_1 b_1 cb_1)), (19, (B o1))]) ∧ w = σ.w ∧ Hp S0 σ0 σ [Ch.ro 0 (Sl aa_0 a_0 ca_0) a_0, Ch.ro 0 (Sl ab_1 b_1 cb_1) b_1]) ?_ ?_
 ·clear h'
  rename _ = some o1 => h
  refine rg ?_
  refine st (v := (Sl aa_0 a_0 ca_0)) (rv_move rfl) ?_
  obtain ⟨r2, hx3, h'⟩ := bind_some h
  clear h
  have h := h'; clear h'
  have hc4 := c_impl_ValidStore (alist_0 := aa_0) (clist_0 := ca_0) hx3
  refine st_call (cx_call hc4 (ent_f hc4.fn rfl) hn0 (show Hp S0 σ0 _ ([Ch.ro 0 (Sl aa_0 a_0 ca_0) a_0] ++ [Ch.ro 0 (Sl aa_0 a_0 ca_0) a_0, Ch.ro 0 (Sl ab_1 b_1 cb_1) b_1]) from (H.sel' [0, 0, 1] rfl rfl))) wn ?_
  rintro _ σ5 ⟨_, ⟨rfl, rfl⟩, H, -⟩
  replace H : Hp S0 σ0 σ5 [Ch.ro 0 (Sl aa_0 a_0 ca_0) a_0, Ch.ro 0 (Sl ab_1 b_1 cb_1) b_1] := H
  refine st (v := (B (!r2))) (rv_not rfl) ?_
  refine st (v := (B (!r2))) (rv_move rfl) ?_
  rcases Bool.eq_false_or_eq_true (!r2) with hb6 | hb6
  ·replace h := bif_t hb6 h
   refine st_skip (congrArg some hb6) ?_
   refine st_skip (congrArg some hb6) ?_
   refine st_skip (congrArg some hb6) ?_
   refine st (v := (B true)) (rv_pick_t (congrArg B hb6) rfl) ?_
   refine w_end ?_
   obtain rfl := Option.some.inj h
   exact ⟨rfl, _, σ5, fr_join ⟨rfl, rfl, rfl, trivial⟩, rfl, H.sel' [0, 1] rfl rfl⟩
  ·replace h := bif_f hb6 h
   refine st_g (v := (Sl ab_1 b_1 cb_1)) (congrArg some hb6) (rv_move rfl) ?_
   obtain ⟨r7, hx8, h'⟩ := bind_some h
   clear h
   have h := h'; clear h'
   have hc9 := c_impl_ValidStore (alist_0 := ab_1) (clist_0 := cb_1) hx8
   refine st_call (cx_call hc9 (ent_f hc9.fn rfl) hn0 (show Hp S0 σ0 _ ([Ch.ro 0 (Sl ab_1 b_1 cb_1) b_1] ++ [Ch.ro 0 (Sl aa_0 a_0 ca_0) a_0, Ch.ro 0 (Sl ab_1 b_1 cb_1) b_1]) from (H.sel' [1, 0, 1] rfl rfl))) (wanted_yes rfl (by exact (congrArg some hb6))) ?_
   rintro _ σ10 ⟨_, ⟨rfl, rfl⟩, H, -⟩
   replace H : Hp S0 σ0 σ10 [Ch.ro 0 (Sl aa_0 a_0 ca_0) a_0, Ch.ro 0 (Sl ab_1 b_1 cb_1) b_1] := H
   refine st_g (v := (B (!r7))) (congrArg some hb6) (rv_not rfl) ?_
   refine st (v := (B (!r7))) (rv_pick_f (congrArg B hb6) rfl) ?_
   refine w_end ?_
   obtain rfl := Option.some.inj h
   exact ⟨rfl, _, σ10, fr_join ⟨rfl, rfl, rfl, trivial⟩, rfl, H.sel' [0, 1] rfl rfl⟩
 ·clear hj
  have h := h'
  clear h' H
  rintro e a w ⟨rfl, ρ, σ11, rfl, rfl, H⟩
  refine q_then ?_
  refine cd_cond o1 rfl (fun hb12 => ?_) (fun hb12 => ?_)
  ·replace h := bif_t hb12 h
   refine c_seq ?_
   refine rg ?_
   refine st (v := (.slice none 0 0)) (rv_assign rfl) ?_
   refine w_end ?_
   refine q_then ?_
   refine c_ret ?_
   refine q_then_r ?_
   replace H := H.nilOwn (Int × (Int × (List Int) × Int)) n0 n0
   obtain rfl := Option.some.inj h
   exact fin_ret (v := (.slice none 0 0)) (results_ok Try.results31 (res_tmp (v := (.slice none 0 0)) rfl res_nil) rfl) ⟨none, 0, rfl, rfl⟩ (H.sel' [0] rfl rfl)
  ·replace h := bif_f hb12 h
   refine c_skip ?_
   refine q_then ?_
   refine c_seq ?_
   refine rg ?_
   refine st (v := (.slice none 0 0)) (rv_assign rfl) ?_
   refine w_end ?_
   refine q_then ?_
   refine c_seq ?_
   refine c_seq ?_
   refine rg ?_
   refine st (v := (Sl aa_0 a_0 ca_0)) (rv_move rfl) ?_
   refine st (v := (I (a_0.length : Int))) (rv_len Try.underlying27 rfl) ?_
   refine st (v := (I 0)) (rv_move rfl) ?_
   refine w_end ?_
   refine q_then ?_
   obtain ⟨o13, hj, h'⟩ := bind_some h
   clear h
   refine c_cut (fun e a w => e = .normal ∧ ∃ (ρ : Nat → Value) (σ : St) (aj1 : Option Addr) (cj2 : Nat), a = fr 61 (updL ρ [(0, (Sl aa_0 a_0 ca_0)), (1, (Sl ab_1 b_1 cb_1)), (5, (Sl aj1 o13 cj2))]) ∧ w = σ.w ∧ Hp S0 σ0 σ [Ch.ro 0 (Sl aa_0 a_0 ca_0) a_0, Ch.ro 0 (Sl ab_1 b_1 cb_1) b_1, Ch.own n0 n0 (Sl aj1 o13 cj2) o13]) ?_ ?_
   ·clear h'
    rename _ = some o13 => h
    refine c_blk ?_
    replace H := H.nilOwn (Int × (Int × (List Int) × Int)) n0 n0
    refine wp_loopM _ h (fun s14 a w => ∃ (ρ : Nat → Value) (σ : St) (aj1 : Option Addr) (cj2 : Nat), a = fr 61 (updL ρ [(0, (Sl aa_0 a_0 ca_0)), (1, (Sl ab_1 b_1 cb_1)), (5, (Sl aj1 s14.1 cj2)), (20, (Sl aa_0 a_0 ca_0)), (21, (I (a_0.length : Int))), (22, (I s14.2))]) ∧ w = σ.w ∧ Hp S0 σ0 σ [Ch.ro 0 (Sl aa_0 a_0 ca_0) a_0, Ch.ro 0 (Sl ab_1 b_1 cb_1) b_1, Ch.own n0 n0 (Sl aj1 s14.1 cj2) s14.1]) ⟨_, σ11, none, 0, fr_join ⟨rfl, rfl, rfl, rfl, rfl, rfl, trivial⟩, rfl, H.sel' [1, 2, 0] rfl rfl⟩ ?_
    clear h H
    rintro s14 a w o ⟨ρ, σ15, a16, c17, rfl, rfl, H⟩ h hres
    refine c_seq ?_
    refine rg ?_
    refine st (v := (B (decide (s14.2 < (a_0.length : Int))))) (rv_lss (a := s14.2) (b := (a_0.length : Int)) rfl rfl) ?_
    refine w_end ?_
    refine q_then ?_
    refine c_seq ?_
    refine cd_cond (decide (s14.2 < (a_0.length : Int))) rfl (fun hb18 => ?_) (fun hb18 => ?_)
    ·replace h := bif_t hb18 h
     refine c_skip ?_
     refine q_then ?_
     refine c_seq ?_
     obtain ⟨o19, hj, h'⟩ := bind_some h
     clear h
     refine c_cut (fun e a w => e = .normal ∧ ∃ (ρ : Nat → Value) (σ : St) (aj1 : Option Addr) (cj2 : Nat), a = fr 61 (updL ρ [(0, (Sl aa_0 a_0 ca_0)), (1, (Sl ab_1 b_1 cb_1)), (5, (Sl aj1 o19 cj2)), (20, (Sl aa_0 a_0 ca_0)), (21, (I (a_0.length : Int))), (22, (I s14.2))]) ∧ w = σ.w ∧ Hp S0 σ0 σ [Ch.ro 0 (Sl aa_0 a_0 ca_0) a_0, Ch.ro 0 (Sl ab_1 b_1 cb_1) b_1, Ch.own n0 n0 (Sl aj1 o19 cj2) o19]) ?_ ?_
     ·clear h'
      rename _ = some o19 => h
      refine c_blk ?_
      refine c_seq ?_
      refine rg ?_
      obtain ⟨x20, hx21, h'⟩ := bind_some h
      clear h
      have h := h'; clear h'
      obtain ⟨b23, o24, hi22, -⟩ := (H.ro 0 rfl).ix hx21
      refine st (v := (pt b23 o24)) (rv_ix Try.underlying27 ti36 rfl rfl hi22) ?_
      obtain ⟨_, ⟨_, _, rfl, rfl, ⟨_, _, rfl, ⟨_, rfl, hR29⟩, rfl⟩⟩, hl25, hc26⟩ := ((H.ro 0 rfl).at hx21 hi22).cells
      obtain ⟨a27, c28, rfl⟩ := hR29.isSl
      replace H := H.add (d := Ch.ro 0 (Sl a27 x20.2.1 c28) x20.2.1) hR29 (fun _ h => h)
      clear hR29
      refine st (v := (.agg #[(I x20.1), (Sl a27 x20.2.1 c28), (I x20.2.2)])) (rv_load Try.underlying36 rfl ti36 rfl hl25 hc26) ?_
      refine st_ex (ex_alloc (cs := [(I 0), (.slice none 0 0), (I 0)]) H hn0 ti36 rfl) wn ?_
      rintro _ σ31 ⟨b30, rfl, H, -⟩
      refine st_exS (ex_store_box (k := 0) (cs := [(I 0), (.slice none 0 0), (I 0)]) (vs := [(I x20.1), (Sl a27 x20.2.1 c28), (I x20.2.2)]) (cs' := [(I x20.1), (Sl a27 x20.2.1 c28), (I x20.2.2)]) H (i := 0) rfl ti36 rfl rfl rfl rfl rfl (Nat.le_of_ble_eq_true rfl) (by simp [plain]) rfl) wn ?_
      rintro σ32 ⟨H, -⟩
      refine w_end ?_
      refine q_then ?_
      refine c_seq ?_
      refine rg ?_
      refine st (v := (Sl ab_1 b_1 cb_1)) (rv_move rfl) ?_
      refine st (v := (pt b30 0)) (rv_fieldAddr (off := 0) (ft := 3) Try.underlying36 rfl ti3 rfl rfl) ?_
      have hc33 := H.cell (u := (I x20.1)) (o' := 0) 0 0 rfl rfl rfl
      refine st (v := (I x20.1)) (rv_load1 Try.underlying3 rfl rfl hc33) ?_
      obtain ⟨r34, hx35, h'⟩ := bind_some h
      clear h
      have h := h'; clear h'
      have hc36 := c_impl_placeOf (alist_0 := ab_1) (clist_0 := cb_1) hx35
      refine st_call (cx_call hc36 (ent_f hc36.fn rfl) hn0 (show Hp S0 σ0 _ ([Ch.ro 0 (Sl ab_1 b_1 cb_1) b_1] ++ [Ch.bx n0 b30 0 [(I x20.1), (Sl a27 x20.2.1 c28), (I x20.2.2)] [] [], Ch.ro 0 (Sl a27 x20.2.1 c28) x20.2.1, Ch.ro 0 (Sl aa_0 a_0 ca_0) a_0, Ch.ro 0 (Sl ab_1 b_1 cb_1) b_1, Ch.own n0 n0 (Sl a16 s14.1 c17) s14.1]) from (H.sel' [3, 0, 1, 2, 3, 4] rfl rfl))) wn ?_
      rintro _ σ37 ⟨_, ⟨rfl, rfl⟩, H, -⟩
      replace H : Hp S0 σ0 σ37 [Ch.bx n0 b30 0 [(I x20.1), (Sl a27 x20.2.1 c28), (I x20.2.2)] [] [], Ch.ro 0 (Sl a27 x20.2.1 c28) x20.2.1, Ch.ro 0 (Sl aa_0 a_0 ca_0) a_0, Ch.ro 0 (Sl ab_1 b_1 cb_1) b_1, Ch.own n0 n0 (Sl a16 s14.1 c17) s14.1] := H
      refine st (v := (.tuple #[(I r34.1), (B r34.2)])) (rv_move rfl) ?_
      refine st (v := (I r34.1)) (rv_extract rfl rfl) ?_
      refine st (v := (B r34.2)) (rv_extract rfl rfl) ?_
      refine st (v := (I r34.1)) (rv_assign rfl) ?_
      refine st (v := (B r34.2)) (rv_assign rfl) ?_
      refine w_end ?_
      refine q_then ?_
      refine c_seq ?_
      refine rg ?_
      refine st (v := (B r34.2)) (rv_move rfl) ?_
      refine st (v := (B (!r34.2))) (rv_not rfl) ?_
      refine w_end ?_
      refine q_then ?_
      refine cd_cond (!r34.2) rfl (fun hb38 => ?_) (fun hb38 => ?_)
      ·replace h := bif_t hb38 h
       refine rg ?_
       refine st (v := (Sl a16 s14.1 c17)) (rv_move rfl) ?_
       refine st (v := (pt b30 0)) (rv_fieldAddr (off := 0) (ft := 3) Try.underlying36 rfl ti3 rfl rfl) ?_
       have hc39 := H.cell (u := (I x20.1)) (o' := 0) 0 0 rfl rfl rfl
       refine st (v := (I x20.1)) (rv_load1 Try.underlying3 rfl rfl hc39) ?_
       refine st (v := (.agg #[(I x20.1)])) (rv_build (ps := [(0, (I x20.1))]) Try.underlying79 ti79 (bp79 Try.underlying79) rfl (by kernel_rfl)) ?_
       obtain ⟨r40, hx41, h'⟩ := bind_some h
       clear h
       have h := h'; clear h'
       have hc42 := c_impl_dropChange_entry hx41
       refine st_call (cx_call hc42 (ent_f hc42.fn rfl) hn0 (show Hp S0 σ0 _ ([] ++ [Ch.bx n0 b30 0 [(I x20.1), (Sl a27 x20.2.1 c28), (I x20.2.2)] [] [], Ch.ro 0 (Sl a27 x20.2.1 c28) x20.2.1, Ch.ro 0 (Sl aa_0 a_0 ca_0) a_0, Ch.ro 0 (Sl ab_1 b_1 cb_1) b_1, Ch.own n0 n0 (Sl a16 s14.1 c17) s14.1]) from (H.sel' [0, 1, 2, 3, 4] rfl rfl))) wn ?_
       rintro _ σ43 ⟨_, ⟨rfl, rfl⟩, H, -⟩
       replace H : Hp S0 σ0 σ43 [Ch.bx n0 b30 0 [(I x20.1), (Sl a27 x20.2.1 c28), (I x20.2.2)] [] [], Ch.ro 0 (Sl a27 x20.2.1 c28) x20.2.1, Ch.ro 0 (Sl aa_0 a_0 ca_0) a_0, Ch.ro 0 (Sl ab_1 b_1 cb_1) b_1, Ch.own n0 n0 (Sl a16 s14.1 c17) s14.1] := H
       refine st_ex (ex_buildSlice (el := n0) (xs := ([(r40.1, (r40.2.1, [], r40.2.2.2))] : List (Int × (Int × (List Int) × Int)))) (ps := [(0, (.agg #[(I r40.1), (I r40.2.1), (.slice none 0 0), (I r40.2.2.2)]))]) (cs := [(I r40.1), (I r40.2.1), (.slice none 0 0), (I r40.2.2.2)]) H hn0 Try.underlying23 ti38 rfl rfl (by kernel_rfl) (.cons (c := [(I r40.1), (I r40.2.1), (.slice none 0 0), (I r40.2.2.2)]) ⟨[(I r40.1)], [(I r40.2.1), (.slice none 0 0), (I r40.2.2.2)], rfl, rfl, ⟨[(I r40.2.1)], [(.slice none 0 0), (I r40.2.2.2)], rfl, rfl, ⟨[(.slice none 0 0)], [(I r40.2.2.2)], rfl, ⟨_, rfl, RS.nil⟩, rfl⟩⟩⟩ (.nil)) rfl) wn ?_
       rintro _ σ45 ⟨b44, rfl, H, -⟩
       obtain ⟨xs46, hx47, h'⟩ := bind_some h
       clear h
       have h := h'; clear h'
       refine st_ex (ex_append H (i := 5) rfl Try.underlying23 Try.underlying23 ti38 rfl rfl (by decide) (H.own 0 rfl).rd hx47 hn0 rfl rfl) wn ?_
       rintro _ σ50 ⟨a48, c49, rfl, H, -⟩
       refine st (v := (Sl a48 xs46 c49)) (rv_assign rfl) ?_
       refine w_end ?_
       refine q_blk ?_
       obtain rfl := Option.some.inj h
       exact ⟨rfl, _, σ50, a48, c49, fr_join ⟨rfl, rfl, rfl, rfl, rfl, rfl, trivial⟩, rfl, H.sel' [4, 5, 0] rfl rfl⟩
      ·replace h := bif_f hb38 h
       refine c_skip ?_
       refine q_blk ?_
       obtain rfl := Option.some.inj h
       exact ⟨rfl, _, σ37, a16, c17, fr_join ⟨rfl, rfl, rfl, rfl, rfl, rfl, trivial⟩, rfl, H.sel' [2, 3, 4] rfl rfl⟩
     ·clear hj
      have h := h'
      clear h' H
      rintro e a w ⟨rfl, ρ, σ51, a52, c53, rfl, rfl, H⟩
      refine q_then ?_
      refine rg ?_
      refine st (v := (I (w64 (s14.2 + 1)))) (rv_add (a := s14.2) (b := 1) rfl rfl) ?_
      refine st (v := (I (w64 (s14.2 + 1)))) (rv_move rfl) ?_
      refine w_end ?_
      refine q_then ?_
      obtain rfl := Option.some.inj h
      exact ⟨_, rfl, _, σ51, a52, c53, fr_join ⟨rfl, rfl, rfl, rfl, rfl, rfl, trivial⟩, rfl, H.sel' [0, 1, 2] rfl rfl⟩
    ·replace h := bif_f hb18 h
     refine c_exit ?_
     refine q_then_x ?_
     refine q_then_x ?_
     refine q_blk_hit ?_
     obtain rfl := Option.some.inj h
     obtain rfl := hres _ rfl
     exact ⟨rfl, _, σ15, a16, c17, fr_join ⟨rfl, rfl, rfl, trivial⟩, rfl, H.sel' [0, 1, 2] rfl rfl⟩
   ·clear hj
    have h := h'
    clear h' H
    rintro e a w ⟨rfl, ρ, σ54, a55, c56, rfl, rfl, H⟩
    refine q_then ?_
    refine c_seq ?_
    refine c_seq ?_
    refine rg ?_
    refine st (v := (Sl ab_1 b_1 cb_1)) (rv_move rfl) ?_
    refine st (v := (I (b_1.length : Int))) (rv_len Try.underlying27 rfl) ?_
    refine st (v := (I 0)) (rv_move rfl) ?_
    refine w_end ?_
    refine q_then ?_
    obtain ⟨o57, hj, h'⟩ := bind_some h
    clear h
    refine c_cut (fun e a w => e = .normal ∧ ∃ (ρ : Nat → Value) (σ : St) (aj1 : Option Addr) (cj2 : Nat), a = fr 61 (updL ρ [(5, (Sl aj1 o57 cj2))]) ∧ w = σ.w ∧ Hp S0 σ0 σ [Ch.own n0 n0 (Sl aj1 o57 cj2) o57]) ?_ ?_
    ·clear h'
     rename _ = some o57 => h
     refine c_blk ?_
     refine wp_loopM _ h (fun s58 a w => ∃ (ρ : Nat → Value) (σ : St) (aj1 : Option Addr) (cj2 : Nat), a = fr 61 (updL ρ [(0, (Sl aa_0 a_0 ca_0)), (5, (Sl aj1 s58.1 cj2)), (43, (Sl ab_1 b_1 cb_1)), (44, (I (b_1.length : Int))), (45, (I s58.2))]) ∧ w = σ.w ∧ Hp S0 σ0 σ [Ch.ro 0 (Sl aa_0 a_0 ca_0) a_0, Ch.own n0 n0 (Sl aj1 s58.1 cj2) s58.1, Ch.ro 0 (Sl ab_1 b_1 cb_1) b_1]) ⟨_, σ54, a55, c56, fr_join ⟨rfl, rfl, rfl, rfl, rfl, trivial⟩, rfl, H.sel' [0, 2, 1] rfl rfl⟩ ?_
     clear h H
     rintro s58 a w o ⟨ρ, σ59, a60, c61, rfl, rfl, H⟩ h hres
     refine c_seq ?_
     refine rg ?_
     refine st (v := (B (decide (s58.2 < (b_1.length : Int))))) (rv_lss (a := s58.2) (b := (b_1.length : Int)) rfl rfl) ?_
     refine w_end ?_
     refine q_then ?_
     refine c_seq ?_
     refine cd_cond (decide (s58.2 < (b_1.length : Int))) rfl (fun hb62 => ?_) (fun hb62 => ?_)
     ·replace h := bif_t hb62 h
      refine c_skip ?_
      refine q_then ?_
      refine c_seq ?_
      obtain ⟨o63, hj, h'⟩ := bind_some h
      clear h
      refine c_cut (fun e a w => e = .normal ∧ ∃ (ρ : Nat → Value) (σ : St) (aj1 : Option Addr) (cj2 : Nat), a = fr 61 (updL ρ [(0, (Sl aa_0 a_0 ca_0)), (5, (Sl aj1 o63 cj2)), (43, (Sl ab_1 b_1 cb_1)), (44, (I (b_1.length : Int))), (45, (I s58.2))]) ∧ w = σ.w ∧ Hp S0 σ0 σ [Ch.ro 0 (Sl aa_0 a_0 ca_0) a_0, Ch.own n0 n0 (Sl aj1 o63 cj2) o63, Ch.ro 0 (Sl ab_1 b_1 cb_1) b_1]) ?_ ?_
      ·clear h'
       rename _ = some o63 => h
       refine c_blk ?_
       refine c_seq ?_
       refine rg ?_
       obtain ⟨x64, hx65, h'⟩ := bind_some h
       clear h
       have h := h'; clear h'
       obtain ⟨b67, o68, hi66, -⟩ := (H.ro 2 rfl).ix hx65
       refine st (v := (pt b67 o68)) (rv_ix Try.underlying27 ti36 rfl rfl hi66) ?_
       obtain ⟨_, ⟨_, _, rfl, rfl, ⟨_, _, rfl, ⟨_, rfl, hR73⟩, rfl⟩⟩, hl69, hc70⟩ := ((H.ro 2 rfl).at hx65 hi66).cells
       obtain ⟨a71, c72, rfl⟩ := hR73.isSl
       replace H := H.add (d := Ch.ro 0 (Sl a71 x64.2.1 c72) x64.2.1) hR73 (fun _ h => h)
       clear hR73
       refine st (v := (.agg #[(I x64.1), (Sl a71 x64.2.1 c72), (I x64.2.2)])) (rv_load Try.underlying36 rfl ti36 rfl hl69 hc70) ?_
       refine st_ex (ex_alloc (cs := [(I 0), (.slice none 0 0), (I 0)]) H hn0 ti36 rfl) wn ?_
       rintro _ σ75 ⟨b74, rfl, H, -⟩
       refine st_exS (ex_store_box (k := 0) (cs := [(I 0), (.slice none 0 0), (I 0)]) (vs := [(I x64.1), (Sl a71 x64.2.1 c72), (I x64.2.2)]) (cs' := [(I x64.1), (Sl a71 x64.2.1 c72), (I x64.2.2)]) H (i := 0) rfl ti36 rfl rfl rfl rfl rfl (Nat.le_of_ble_eq_true rfl) (by simp [plain]) rfl) wn ?_
       rintro σ76 ⟨H, -⟩
       refine w_end ?_
       refine q_then ?_
       refine c_seq ?_
       refine rg ?_
       refine st (v := (Sl aa_0 a_0 ca_0)) (rv_move rfl) ?_
       have hc77 := H.cells 0 rfl
       refine st (v := (.agg #[(I x64.1), (Sl a71 x64.2.1 c72), (I x64.2.2)])) (rv_load (cs := [(I x64.1), (Sl a71 x64.2.1 c72), (I x64.2.2)]) Try.underlying36 rfl ti36 rfl rfl hc77) ?_
       obtain ⟨r78, hx79, h'⟩ := bind_some h
       clear h
       have h := h'; clear h'
       have hc80 := c_impl_hasItem (alist_0 := aa_0) (clist_0 := ca_0) (ax_1_1 := a71) (cx_1_1 := c72) hx79
       refine st_call (cx_call hc80 (ent_f hc80.fn rfl) hn0 (show Hp S0 σ0 _ ([Ch.ro 0 (Sl aa_0 a_0 ca_0) a_0, Ch.ro 0 (Sl a71 x64.2.1 c72) x64.2.1] ++ [Ch.bx n0 b74 0 [(I x64.1), (Sl a71 x64.2.1 c72), (I x64.2.2)] [] [], Ch.ro 0 (Sl a71 x64.2.1 c72) x64.2.1, Ch.ro 0 (Sl aa_0 a_0 ca_0) a_0, Ch.own n0 n0 (Sl a60 s58.1 c61) s58.1, Ch.ro 0 (Sl ab_1 b_1 cb_1) b_1]) from (H.sel' [2, 1, 0, 1, 2, 3, 4] rfl rfl))) wn ?_
       rintro _ σ81 ⟨_, ⟨rfl, rfl⟩, H, -⟩
       replace H : Hp S0 σ0 σ81 [Ch.bx n0 b74 0 [(I x64.1), (Sl a71 x64.2.1 c72), (I x64.2.2)] [] [], Ch.ro 0 (Sl a71 x64.2.1 c72) x64.2.1, Ch.ro 0 (Sl aa_0 a_0 ca_0) a_0, Ch.own n0 n0 (Sl a60 s58.1 c61) s58.1, Ch.ro 0 (Sl ab_1 b_1 cb_1) b_1] := H
       refine st (v := (B (!r78))) (rv_not rfl) ?_
       refine w_end ?_
       refine q_then ?_
       refine cd_cond (!r78) rfl (fun hb82 => ?_) (fun hb82 => ?_)
       ·replace h := bif_t hb82 h
        refine rg ?_
        refine st (v := (Sl a60 s58.1 c61)) (rv_move rfl) ?_
        have hc83 := H.cells 0 rfl
        refine st (v := (.agg #[(I x64.1), (Sl a71 x64.2.1 c72), (I x64.2.2)])) (rv_load (cs := [(I x64.1), (Sl a71 x64.2.1 c72), (I x64.2.2)]) Try.underlying36 rfl ti36 rfl rfl hc83) ?_
        refine st (v := (.agg #[(I x64.1), (Sl a71 x64.2.1 c72), (I x64.2.2)])) (rv_build (ps := [(0, (.agg #[(I x64.1), (Sl a71 x64.2.1 c72), (I x64.2.2)]))]) Try.underlying82 ti82 (bp82 Try.underlying82) rfl (by kernel_rfl)) ?_
        obtain ⟨r84, hx85, h'⟩ := bind_some h
        clear h
        have h := h'; clear h'
        have hc86 := c_impl_putChange_entry (ac_0_0_1 := a71) (cc_0_0_1 := c72) hx85
        refine st_call (cx_call hc86 (ent_f hc86.fn rfl) hn0 (show Hp S0 σ0 _ ([Ch.ro 0 (Sl a71 x64.2.1 c72) x64.2.1] ++ [Ch.bx n0 b74 0 [(I x64.1), (Sl a71 x64.2.1 c72), (I x64.2.2)] [] [], Ch.ro 0 (Sl a71 x64.2.1 c72) x64.2.1, Ch.ro 0 (Sl aa_0 a_0 ca_0) a_0, Ch.own n0 n0 (Sl a60 s58.1 c61) s58.1, Ch.ro 0 (Sl ab_1 b_1 cb_1) b_1]) from (H.sel' [1, 0, 1, 2, 3, 4] rfl rfl))) wn ?_
        rintro _ σ89 ⟨_, ⟨a87, c88, rfl, rfl⟩, H, -⟩
        replace H : Hp S0 σ0 σ89 [Ch.own n0 n0 (Sl a87 r84.2.2.1 c88) r84.2.2.1, Ch.bx n0 b74 0 [(I x64.1), (Sl a71 x64.2.1 c72), (I x64.2.2)] [] [], Ch.ro 0 (Sl a71 x64.2.1 c72) x64.2.1, Ch.ro 0 (Sl aa_0 a_0 ca_0) a_0, Ch.own n0 n0 (Sl a60 s58.1 c61) s58.1, Ch.ro 0 (Sl ab_1 b_1 cb_1) b_1] := H
        obtain ⟨σ90, hw91, H, -⟩ := H.pub 0 rfl (Nat.le_refl _)
        rw [← hw91]; clear hw91
        refine st_ex (ex_buildSlice (el := n0) (xs := ([(r84.1, (r84.2.1, r84.2.2.1, r84.2.2.2))] : List (Int × (Int × (List Int) × Int)))) (ps := [(0, (.agg #[(I r84.1), (I r84.2.1), (Sl a87 r84.2.2.1 c88), (I r84.2.2.2)]))]) (cs := [(I r84.1), (I r84.2.1), (Sl a87 r84.2.2.1 c88), (I r84.2.2.2)]) H hn0 Try.underlying23 ti38 rfl rfl (by kernel_rfl) (.cons (c := [(I r84.1), (I r84.2.1), (Sl a87 r84.2.2.1 c88), (I r84.2.2.2)]) ⟨[(I r84.1)], [(I r84.2.1), (Sl a87 r84.2.2.1 c88), (I r84.2.2.2)], rfl, rfl, ⟨[(I r84.2.1)], [(Sl a87 r84.2.2.1 c88), (I r84.2.2.2)], rfl, rfl, ⟨[(Sl a87 r84.2.2.1 c88)], [(I r84.2.2.2)], rfl, ⟨_, rfl, (H.ro 0 rfl)⟩, rfl⟩⟩⟩ (.nil)) rfl) wn ?_
        rintro _ σ93 ⟨b92, rfl, H, -⟩
        obtain ⟨xs94, hx95, h'⟩ := bind_some h
        clear h
        have h := h'; clear h'
        refine st_ex (ex_append H (i := 5) rfl Try.underlying23 Try.underlying23 ti38 rfl rfl (by decide) (H.own 0 rfl).rd hx95 hn0 rfl rfl) wn ?_
        rintro _ σ98 ⟨a96, c97, rfl, H, -⟩
        refine st (v := (Sl a96 xs94 c97)) (rv_assign rfl) ?_
        refine w_end ?_
        refine q_blk ?_
        obtain rfl := Option.some.inj h
        exact ⟨rfl, _, σ98, a96, c97, fr_join ⟨rfl, rfl, rfl, rfl, rfl, trivial⟩, rfl, H.sel' [5, 0, 6] rfl rfl⟩
       ·replace h := bif_f hb82 h
        refine c_skip ?_
        refine q_blk ?_
        obtain rfl := Option.some.inj h
        exact ⟨rfl, _, σ81, a60, c61, fr_join ⟨rfl, rfl, rfl, rfl, rfl, trivial⟩, rfl, H.sel' [2, 3, 4] rfl rfl⟩
      ·clear hj
       have h := h'
       clear h' H
       rintro e a w ⟨rfl, ρ, σ99, a100, c101, rfl, rfl, H⟩
       refine q_then ?_
       refine rg ?_
       refine st (v := (I (w64 (s58.2 + 1)))) (rv_add (a := s58.2) (b := 1) rfl rfl) ?_
       refine st (v := (I (w64 (s58.2 + 1)))) (rv_move rfl) ?_
       refine w_end ?_
       refine q_then ?_
       obtain rfl := Option.some.inj h
       exact ⟨_, rfl, _, σ99, a100, c101, fr_join ⟨rfl, rfl, rfl, rfl, rfl, trivial⟩, rfl, H.sel' [0, 1, 2] rfl rfl⟩
     ·replace h := bif_f hb62 h
      refine c_exit ?_
      refine q_then_x ?_
      refine q_then_x ?_
      refine q_blk_hit ?_
      obtain rfl := Option.some.inj h
      obtain rfl := hres _ rfl
      exact ⟨rfl, _, σ59, a60, c61, fr_join ⟨rfl, trivial⟩, rfl, H.sel' [1] rfl rfl⟩
    ·clear hj
     have h := h'
     clear h' H
     rintro e a w ⟨rfl, ρ, σ102, a103, c104, rfl, rfl, H⟩
     refine q_then ?_
     refine c_seq ?_
     refine rg ?_
     refine st (v := (Sl a103 o57 c104)) (rv_move rfl) ?_
     refine st (v := (Sl a103 o57 c104)) (rv_assign rfl) ?_
     refine w_end ?_
     refine q_then ?_
     refine c_ret ?_
     obtain rfl := Option.some.inj h
     exact fin_ret (v := (Sl a103 o57 c104)) (results_ok Try.results31 (res_tmp (v := (Sl a103 o57 c104)) rfl res_nil) rfl) ⟨a103, c104, rfl, rfl⟩ (H.sel' [0] rfl rfl)

theorem c_spec_size {n_0 : Int}  {r : Int} (h : M.spec_size n_0 = some r) :
    Cal2 Try.prog 105 [(I n_0)] [] (fun n0 v L => v = (I r) ∧ L = []) := by
 refine cal2 (n := 7) Try.func105 rfl rfl rfl rfl ?_
 intro S0 σ0 n0 hn0 H
 unfold M.spec_size at h
 refine c_seq ?_
 refine rg ?_
 refine st (v := (I 0)) (rv_assign rfl) ?_
 refine w_end ?_
 refine q_then ?_
 refine c_seq ?_
 refine rg ?_
 refine st (v := (I n_0)) (rv_move rfl) ?_
 refine st (v := (I n_0)) (rv_move rfl) ?_
 refine st (v := (I (w64 (0 - n_0)))) (rv_neg (a := n_0) rfl) ?_
 refine st (v := (I (max n_0 (w64 (0 - n_0))))) (rv_max rfl rfl) ?_
 refine st (v := (I (max n_0 (w64 (0 - n_0))))) (rv_assign rfl) ?_
 refine w_end ?_
 refine q_then ?_
 refine c_ret ?_
 obtain rfl := Option.some.inj h
 exact fin_ret (v := (I (max n_0 (w64 (0 - n_0))))) (results_ok Try.results105 (res_tmp (v := (I (max n_0 (w64 (0 - n_0))))) rfl res_nil) rfl) ⟨rfl, rfl⟩ (H.sel' [] rfl rfl)

theorem c_spec_toInt {b_0 : Bool}  {r : Int} (h : M.spec_toInt b_0 = some r) :
    Cal2 Try.prog 106 [(B b_0)] [] (fun n0 v L => v = (I r) ∧ L = []) := by
 refine cal2 (n := 4) Try.func106 rfl rfl rfl rfl ?_
 intro S0 σ0 n0 hn0 H
 unfold M.spec_toInt at h
 refine c_seq ?_
 refine rg ?_
 refine st (v := (I 0)) (rv_assign rfl) ?_
 refine w_end ?_
 refine q_then ?_
 refine c_seq ?_
 refine c_seq ?_
 refine rg ?_
 refine st (v := (B b_0)) (rv_move rfl) ?_
 refine w_end ?_
 refine q_then ?_
 refine cd_cond b_0 rfl (fun hb1 => ?_) (fun hb1 => ?_)
 ·replace h := bif_t hb1 h
  refine c_seq ?_
  refine rg ?_
  refine st (v := (I 1)) (rv_assign rfl) ?_
  refine w_end ?_
  refine q_then ?_
  refine c_ret ?_
  refine q_then_r ?_
  obtain rfl := Option.some.inj h
  exact fin_ret (v := (I 1)) (results_ok Try.results106 (res_tmp (v := (I 1)) rfl res_nil) rfl) ⟨rfl, rfl⟩ (H.sel' [] rfl rfl)
 ·replace h := bif_f hb1 h
  refine c_skip ?_
  refine q_then ?_
  refine c_seq ?_
  refine rg ?_
  refine st (v := (I 0)) (rv_assign rfl) ?_
  refine w_end ?_
  refine q_then ?_
  refine c_ret ?_
  obtain rfl := Option.some.inj h
  exact fin_ret (v := (I 0)) (results_ok Try.results106 (res_tmp (v := (I 0)) rfl res_nil) rfl) ⟨rfl, rfl⟩ (H.sel' [] rfl rfl)

theorem c_spec_dist {kind_0 : Int} {a_1 : List Int} {b_2 : List Int} {aa_1 : Option Addr} {ca_1 : Nat} {ab_2 : Option Addr} {cb_2 : Nat} {r : Int} (h : M.spec_dist kind_0 a_1 b_2 = some r) :
    Cal2 Try.prog 92 [(I kind_0), (Sl aa_1 a_1 ca_1), (Sl ab_2 b_2 cb_2)] [Ch.ro 0 (Sl aa_1 a_1 ca_1) a_1, Ch.ro 0 (Sl ab_2 b_2 cb_2) b_2] (fun n0 v L => v = (I r) ∧ L = []) := by
 refine cal2 (n := 50) Try.func92 rfl rfl rfl rfl ?_
 intro S0 σ0 n0 hn0 H
 unfold M.spec_dist at h
 refine c_seq ?_
 refine rg ?_
 refine st (v := (I 0)) (rv_assign rfl) ?_
 refine w_end ?_
 refine q_then ?_
 refine c_seq ?_
 refine rg ?_
 refine st (v := (I 0)) (rv_assign rfl) ?_
 refine w_end ?_
 refine q_then ?_
 refine c_seq ?_
 refine c_seq ?_
 refine rg ?_
 refine st (v := (I 0)) (rv_assign rfl) ?_
 refine w_end ?_
 refine q_then ?_
 obtain ⟨o1, hj, h'⟩ := bind_some h
 clear h
 refine c_cut (fun e a w => e = .normal ∧ ∃ (ρ : Nat → Value) (σ : St), a = fr 50 (updL ρ [(7, (I o1))]) ∧ w = σ.w ∧ Hp S0 σ0 σ []) ?_ ?_
 ·clear h'
  rename _ = some o1 => h
  refine c_blk ?_
  refine wp_loopM _ h (fun s2 a w => ∃ (ρ : Nat → Value) (σ : St), a = fr 50 (updL ρ [(0, (I kind_0)), (1, (Sl aa_1 a_1 ca_1)), (2, (Sl ab_2 b_2 cb_2)), (7, (I s2.1)), (8, (I s2.2))]) ∧ w = σ.w ∧ Hp S0 σ0 σ [Ch.ro 0 (Sl aa_1 a_1 ca_1) a_1, Ch.ro 0 (Sl ab_2 b_2 cb_2) b_2]) ⟨_, σ0, fr_join ⟨rfl, rfl, rfl, rfl, rfl, trivial⟩, rfl, H.sel' [0, 1] rfl rfl⟩ ?_
  clear h H
  rintro s2 a w o ⟨ρ, σ3, rfl, rfl, H⟩ h hres
  refine c_seq ?_
  refine c_seq ?_
  refine rg ?_
  refine st (v := (I s2.2)) (rv_move rfl) ?_
  refine st (v := (Sl aa_1 a_1 ca_1)) (rv_move rfl) ?_
  refine st (v := (I (a_1.length : Int))) (rv_len Try.underlying34 rfl) ?_
  refine st (v := (B (decide (s2.2 < (a_1.length : Int))))) (rv_lss (a := s2.2) (b := (a_1.length : Int)) rfl rfl) ?_
  refine w_end ?_
  refine q_then ?_
  refine cd_cond (decide (s2.2 < (a_1.length : Int))) rfl (fun hb4 => ?_) (fun hb4 => ?_)
  ·replace h := bif_t hb4 h
   refine c_skip ?_
   refine q_then ?_
   refine c_seq ?_
   obtain ⟨o5, hj, h'⟩ := bind_some h
   clear h
   refine c_cut (fun e a w => e = .normal ∧ ∃ (ρ : Nat → Value) (σ : St), a = fr 50 (updL ρ [(0, (I kind_0)), (1, (Sl aa_1 a_1 ca_1)), (2, (Sl ab_2 b_2 cb_2)), (7, (I o5)), (8, (I s2.2))]) ∧ w = σ.w ∧ Hp S0 σ0 σ [Ch.ro 0 (Sl aa_1 a_1 ca_1) a_1, Ch.ro 0 (Sl ab_2 b_2 cb_2) b_2]) ?_ ?_
   ·clear h'
    rename _ = some o5 => h
    refine c_blk ?_
    refine c_seq ?_
    refine rgP (σ := σ3) 8 (by kernel_rfl) (by kernel_rfl) (by kernel_rfl) ?_
    refine sq (v := (Sl aa_1 a_1 ca_1)) (rv_move rfl) ?_
    refine sq (v := (I s2.2)) (rv_move rfl) ?_
    obtain ⟨x6, hx7, h'⟩ := bind_some h
    clear h
    have h := h'; clear h'
    obtain ⟨b9, o10, hi8, -⟩ := (H.ro 0 rfl).ix hx7
    refine sq (v := (pt b9 o10)) (rv_ix Try.underlying34 ti3 rfl rfl hi8) ?_
    have hc11 := ((H.ro 0 rfl).at hx7 hi8).int
    refine sq (v := (I x6)) (rv_load1 Try.underlying3 rfl rfl hc11) ?_
    refine sq (v := (Sl ab_2 b_2 cb_2)) (rv_move rfl) ?_
    refine sq (v := (I s2.2)) (rv_move rfl) ?_
    obtain ⟨x12, hx13, h'⟩ := bind_some h
    clear h
    have h := h'; clear h'
    obtain ⟨b15, o16, hi14, -⟩ := (H.ro 1 rfl).ix hx13
    refine sq (v := (pt b15 o16)) (rv_ix Try.underlying34 ti3 rfl rfl hi14) ?_
    have hc17 := ((H.ro 1 rfl).at hx13 hi14).int
    refine sq (v := (I x12)) (rv_load1 Try.underlying3 rfl rfl hc17) ?_
    refine sq_end ?_
    intro σ18 hm19
    replace H := H.grow (hm19.mono fun _ h => h); clear hm19
    refine st (v := (I (w64 (x6 - x12)))) (rv_sub (a := x6) (b := x12) rfl rfl) ?_
    obtain ⟨r20, hx21, h'⟩ := bind_some h
    clear h
    have h := h'; clear h'
    have hc22 := c_spec_size hx21
    refine st_call (cx_call hc22 (ent_f hc22.fn rfl) hn0 (show Hp S0 σ0 _ ([] ++ [Ch.ro 0 (Sl aa_1 a_1 ca_1) a_1, Ch.ro 0 (Sl ab_2 b_2 cb_2) b_2]) from (H.sel' [0, 1] rfl rfl))) wn ?_
    rintro _ σ23 ⟨_, ⟨rfl, rfl⟩, H, -⟩
    replace H : Hp S0 σ0 σ23 [Ch.ro 0 (Sl aa_1 a_1 ca_1) a_1, Ch.ro 0 (Sl ab_2 b_2 cb_2) b_2] := H
    refine st (v := (I r20)) (rv_assign rfl) ?_
    refine w_end ?_
    refine q_then ?_
    refine c_seq ?_
    refine rg ?_
    refine st (v := (I kind_0)) (rv_move rfl) ?_
    refine w_end ?_
    refine q_then ?_
    refine c_blk ?_
    refine c_seq ?_
    refine rg ?_
    refine st (v := (B (kind_0 == 1))) (rv_eql (a := kind_0) (b := 1) rfl rfl) ?_
    refine st (v := (B (kind_0 == 1))) (rv_assign rfl) ?_
    refine w_end ?_
    refine q_then ?_
    refine cd_cond (kind_0 == 1) rfl (fun hb24 => ?_) (fun hb24 => ?_)
    ·replace h := bif_t hb24 h
     refine rg ?_
     refine st (v := (I s2.1)) (rv_move rfl) ?_
     refine st (v := (I r20)) (rv_move rfl) ?_
     refine st (v := (I (w64 (s2.1 + r20)))) (rv_add (a := s2.1) (b := r20) rfl rfl) ?_
     refine st (v := (I (w64 (s2.1 + r20)))) (rv_assign rfl) ?_
     refine w_end ?_
     refine q_blk ?_
     refine q_blk ?_
     obtain rfl := Option.some.inj h
     exact ⟨rfl, _, σ23, fr_join ⟨rfl, rfl, rfl, rfl, rfl, trivial⟩, rfl, H.sel' [0, 1] rfl rfl⟩
    ·replace h := bif_f hb24 h
     refine c_seq ?_
     refine rg ?_
     refine st (v := (B (kind_0 == 2))) (rv_eql (a := kind_0) (b := 2) rfl rfl) ?_
     refine st (v := (B (kind_0 == 2))) (rv_assign rfl) ?_
     refine w_end ?_
     refine q_then ?_
     refine cd_cond (kind_0 == 2) rfl (fun hb25 => ?_) (fun hb25 => ?_)
     ·replace h := bif_t hb25 h
      refine rg ?_
      refine st (v := (I s2.1)) (rv_move rfl) ?_
      refine st (v := (I r20)) (rv_move rfl) ?_
      refine st (v := (I (max s2.1 r20))) (rv_max rfl rfl) ?_
      refine st (v := (I (max s2.1 r20))) (rv_assign rfl) ?_
      refine w_end ?_
      refine q_blk ?_
      refine q_blk ?_
      obtain rfl := Option.some.inj h
      exact ⟨rfl, _, σ23, fr_join ⟨rfl, rfl, rfl, rfl, rfl, trivial⟩, rfl, H.sel' [0, 1] rfl rfl⟩
     ·replace h := bif_f hb25 h
      refine c_seq ?_
      refine rg ?_
      refine st (v := (B (kind_0 == 3))) (rv_eql (a := kind_0) (b := 3) rfl rfl) ?_
      refine st (v := (B (kind_0 == 3))) (rv_assign rfl) ?_
      refine w_end ?_
      refine q_then ?_
      refine cd_cond (kind_0 == 3) rfl (fun hb26 => ?_) (fun hb26 => ?_)
      ·replace h := bif_t hb26 h
       refine rg ?_
       refine st (v := (I s2.1)) (rv_move rfl) ?_
       refine st (v := (I r20)) (rv_move rfl) ?_
       refine st (v := (I r20)) (rv_move rfl) ?_
       refine st (v := (I (w64 (r20 * r20)))) (rv_mul (a := r20) (b := r20) rfl rfl) ?_
       refine st (v := (I (w64 (s2.1 + (w64 (r20 * r20)))))) (rv_add (a := s2.1) (b := (w64 (r20 * r20))) rfl rfl) ?_
       refine st (v := (I (w64 (s2.1 + (w64 (r20 * r20)))))) (rv_assign rfl) ?_
       refine w_end ?_
       refine q_blk ?_
       refine q_blk ?_
       obtain rfl := Option.some.inj h
       exact ⟨rfl, _, σ23, fr_join ⟨rfl, rfl, rfl, rfl, rfl, trivial⟩, rfl, H.sel' [0, 1] rfl rfl⟩
      ·replace h := bif_f hb26 h
       refine rg ?_
       refine st (v := (I s2.1)) (rv_move rfl) ?_
       refine st (v := (I r20)) (rv_move rfl) ?_
       refine st (v := (B (decide (0 < r20)))) (rv_gtr (a := r20) (b := 0) rfl rfl) ?_
       obtain ⟨r27, hx28, h'⟩ := bind_some h
       clear h
       have h := h'; clear h'
       have hc29 := c_spec_toInt hx28
       refine st_call (cx_call hc29 (ent_f hc29.fn rfl) hn0 (show Hp S0 σ0 _ ([] ++ [Ch.ro 0 (Sl aa_1 a_1 ca_1) a_1, Ch.ro 0 (Sl ab_2 b_2 cb_2) b_2]) from (H.sel' [0, 1] rfl rfl))) wn ?_
       rintro _ σ30 ⟨_, ⟨rfl, rfl⟩, H, -⟩
       replace H : Hp S0 σ0 σ30 [Ch.ro 0 (Sl aa_1 a_1 ca_1) a_1, Ch.ro 0 (Sl ab_2 b_2 cb_2) b_2] := H
       refine st (v := (I (w64 (s2.1 + r27)))) (rv_add (a := s2.1) (b := r27) rfl rfl) ?_
       refine st (v := (I (w64 (s2.1 + r27)))) (rv_assign rfl) ?_
       refine w_end ?_
       refine q_blk ?_
       refine q_blk ?_
       obtain rfl := Option.some.inj h
       exact ⟨rfl, _, σ30, fr_join ⟨rfl, rfl, rfl, rfl, rfl, trivial⟩, rfl, H.sel' [0, 1] rfl rfl⟩
   ·clear hj
    have h := h'
    clear h' H
    rintro e a w ⟨rfl, ρ, σ31, rfl, rfl, H⟩
    refine q_then ?_
    refine rg ?_
    refine st (v := (I s2.2)) (rv_move rfl) ?_
    refine st (v := (I (w64 (s2.2 + 1)))) (rv_add (a := s2.2) (b := 1) rfl rfl) ?_
    refine st (v := (I (w64 (s2.2 + 1)))) (rv_assign rfl) ?_
    refine w_end ?_
    refine q_then ?_
    obtain rfl := Option.some.inj h
    exact ⟨_, rfl, _, σ31, fr_join ⟨rfl, rfl, rfl, rfl, rfl, trivial⟩, rfl, H.sel' [0, 1] rfl rfl⟩
  ·replace h := bif_f hb4 h
   refine c_exit ?_
   refine q_then_x ?_
   refine q_then_x ?_
   refine q_blk_hit ?_
   obtain rfl := Option.some.inj h
   obtain rfl := hres _ rfl
   exact ⟨rfl, _, σ3, fr_join ⟨rfl, trivial⟩, rfl, H.sel' [] rfl rfl⟩
 ·clear hj
  have h := h'
  clear h' H
  rintro e a w ⟨rfl, ρ, σ32, rfl, rfl, H⟩
  refine q_then ?_
  refine c_seq ?_
  refine rg ?_
  refine st (v := (I o1)) (rv_move rfl) ?_
  refine st (v := (I o1)) (rv_assign rfl) ?_
  refine w_end ?_
  refine q_then ?_
  refine c_ret ?_
  obtain rfl := Option.some.inj h
  exact fin_ret (v := (I o1)) (results_ok Try.results92 (res_tmp (v := (I o1)) rfl res_nil) rfl) ⟨rfl, rfl⟩ (H.sel' [] rfl rfl)

theorem c_spec_sameItem {a_0 : Int × (List Int) × Int} {b_1 : Int × (List Int) × Int} {aa_0_1 : Option Addr} {ca_0_1 : Nat} {ab_1_1 : Option Addr} {cb_1_1 : Nat} {r : Bool} (h : M.spec_sameItem a_0 b_1 = some r) :
    Cal2 Try.prog 60 [(.agg #[(I a_0.1), (Sl aa_0_1 a_0.2.1 ca_0_1), (I a_0.2.2)]), (.agg #[(I b_1.1), (Sl ab_1_1 b_1.2.1 cb_1_1), (I b_1.2.2)])] [Ch.ro 0 (Sl aa_0_1 a_0.2.1 ca_0_1) a_0.2.1, Ch.ro 0 (Sl ab_1_1 b_1.2.1 cb_1_1) b_1.2.1] (fun n0 v L => v = (B r) ∧ L = []) := by
 refine cal2 (n := 25) Try.func60 rfl rfl rfl rfl ?_
 intro S0 σ0 n0 hn0 H
 unfold M.spec_sameItem at h
 refine c_seq ?_
 refine rg ?_
 refine st_ex (ex_box (cs := [(I a_0.1), (Sl aa_0_1 a_0.2.1 ca_0_1), (I a_0.2.2)]) H hn0 rfl rfl) wn ?_
 rintro _ σ2 ⟨b1, rfl, H, -⟩
 refine st_ex (ex_box (cs := [(I b_1.1), (Sl ab_1_1 b_1.2.1 cb_1_1), (I b_1.2.2)]) H hn0 rfl rfl) wn ?_
 rintro _ σ4 ⟨b3, rfl, H, -⟩
 refine st (v := (B false)) (rv_assign rfl) ?_
 refine w_end ?_
 refine q_then ?_
 refine c_seq ?_
 refine rg ?_
 refine st (v := (pt b1 0)) (rv_fieldAddr (off := 0) (ft := 3) Try.underlying36 rfl ti3 rfl rfl) ?_
 have hc5 := H.cell (u := (I a_0.1)) (o' := 0) 1 0 rfl rfl rfl
 refine st (v := (I a_0.1)) (rv_load1 Try.underlying3 rfl rfl hc5) ?_
 refine st (v := (pt b3 0)) (rv_fieldAddr (off := 0) (ft := 3) Try.underlying36 rfl ti3 rfl rfl) ?_
 have hc6 := H.cell (u := (I b_1.1)) (o' := 0) 0 0 rfl rfl rfl
 refine st (v := (I b_1.1)) (rv_load1 Try.underlying3 rfl rfl hc6) ?_
 refine st (v := (B (a_0.1 == b_1.1))) (rv_eql (a := a_0.1) (b := b_1.1) rfl rfl) ?_
 refine st (v := (B (a_0.1 == b_1.1))) (rv_move rfl) ?_
 rcases Bool.eq_false_or_eq_true (a_0.1 == b_1.1) with hb7 | hb7
 ·replace h := bif_t hb7 h
  refine st_g (v := (pt b1 2)) (congrArg some hb7) (rv_fieldAddr (off := 2) (ft := 3) Try.underlying36 rfl ti3 rfl rfl) ?_
  have hc8 := H.cell (u := (I a_0.2.2)) (o' := 2) 1 2 rfl rfl rfl
  refine st_g (v := (I a_0.2.2)) (congrArg some hb7) (rv_load1 Try.underlying3 rfl rfl hc8) ?_
  refine st_g (v := (pt b3 2)) (congrArg some hb7) (rv_fieldAddr (off := 2) (ft := 3) Try.underlying36 rfl ti3 rfl rfl) ?_
  have hc9 := H.cell (u := (I b_1.2.2)) (o' := 2) 0 2 rfl rfl rfl
  refine st_g (v := (I b_1.2.2)) (congrArg some hb7) (rv_load1 Try.underlying3 rfl rfl hc9) ?_
  refine st_g (v := (B (a_0.2.2 == b_1.2.2))) (congrArg some hb7) (rv_eql (a := a_0.2.2) (b := b_1.2.2) rfl rfl) ?_
  refine st (v := (B (a_0.2.2 == b_1.2.2))) (rv_pick_t (congrArg B hb7) rfl) ?_
  refine st (v := (B (a_0.2.2 == b_1.2.2))) (rv_move rfl) ?_
  rcases Bool.eq_false_or_eq_true (a_0.2.2 == b_1.2.2) with hb10 | hb10
  ·replace h := bif_t hb10 h
   refine st_g (v := (pt b1 1)) (congrArg some hb10) (rv_fieldAddr (off := 1) (ft := 34) Try.underlying36 rfl ti34 rfl rfl) ?_
   have hc11 := H.cell (u := (Sl aa_0_1 a_0.2.1 ca_0_1)) (o' := 1) 1 1 rfl rfl rfl
   refine st_g (v := (Sl aa_0_1 a_0.2.1 ca_0_1)) (congrArg some hb10) (rv_load1 Try.underlying34 rfl rfl hc11) ?_
   refine st_g (v := (pt b3 1)) (congrArg some hb10) (rv_fieldAddr (off := 1) (ft := 34) Try.underlying36 rfl ti34 rfl rfl) ?_
   have hc12 := H.cell (u := (Sl ab_1_1 b_1.2.1 cb_1_1)) (o' := 1) 0 1 rfl rfl rfl
   refine st_g (v := (Sl ab_1_1 b_1.2.1 cb_1_1)) (congrArg some hb10) (rv_load1 Try.underlying34 rfl rfl hc12) ?_
   obtain ⟨r13, hx14, h'⟩ := bind_some h
   clear h
   have h := h'; clear h'
   have hc15 := c_spec_dist (aa_1 := aa_0_1) (ca_1 := ca_0_1) (ab_2 := ab_1_1) (cb_2 := cb_1_1) hx14
   refine st_call (cx_call hc15 (ent_f hc15.fn rfl) hn0 (show Hp S0 σ0 _ ([Ch.ro 0 (Sl aa_0_1 a_0.2.1 ca_0_1) a_0.2.1, Ch.ro 0 (Sl ab_1_1 b_1.2.1 cb_1_1) b_1.2.1] ++ [Ch.bx n0 b3 0 [(I b_1.1), (Sl ab_1_1 b_1.2.1 cb_1_1), (I b_1.2.2)] [] [], Ch.bx n0 b1 0 [(I a_0.1), (Sl aa_0_1 a_0.2.1 ca_0_1), (I a_0.2.2)] [] [], Ch.ro 0 (Sl aa_0_1 a_0.2.1 ca_0_1) a_0.2.1, Ch.ro 0 (Sl ab_1_1 b_1.2.1 cb_1_1) b_1.2.1]) from (H.sel' [2, 3, 0, 1, 2, 3] rfl rfl))) (wanted_yes rfl (by exact (congrArg some hb10))) ?_
   rintro _ σ16 ⟨_, ⟨rfl, rfl⟩, H, -⟩
   replace H : Hp S0 σ0 σ16 [Ch.bx n0 b3 0 [(I b_1.1), (Sl ab_1_1 b_1.2.1 cb_1_1), (I b_1.2.2)] [] [], Ch.bx n0 b1 0 [(I a_0.1), (Sl aa_0_1 a_0.2.1 ca_0_1), (I a_0.2.2)] [] [], Ch.ro 0 (Sl aa_0_1 a_0.2.1 ca_0_1) a_0.2.1, Ch.ro 0 (Sl ab_1_1 b_1.2.1 cb_1_1) b_1.2.1] := H
   refine st_g (v := (B (r13 == 0))) (congrArg some hb10) (rv_eql (a := r13) (b := 0) rfl rfl) ?_
   refine st (v := (B (r13 == 0))) (rv_pick_t (congrArg B hb10) rfl) ?_
   refine st (v := (B (r13 == 0))) (rv_assign rfl) ?_
   refine w_end ?_
   refine q_then ?_
   refine c_ret ?_
   obtain rfl := Option.some.inj h
   exact fin_ret (v := (B (r13 == 0))) (results_ok Try.results60 (res_tmp (v := (B (r13 == 0))) rfl res_nil) rfl) ⟨rfl, rfl⟩ (H.sel' [] rfl rfl)
  ·replace h := bif_f hb10 h
   refine st_skip (congrArg some hb10) ?_
   refine st_skip (congrArg some hb10) ?_
   refine st_skip (congrArg some hb10) ?_
   refine st_skip (congrArg some hb10) ?_
   refine st_skip (congrArg some hb10) ?_
   refine st_skip (congrArg some hb10) ?_
   refine st (v := (B false)) (rv_pick_f (congrArg B hb10) rfl) ?_
   refine st (v := (B false)) (rv_assign rfl) ?_
   refine w_end ?_
   refine q_then ?_
   refine c_ret ?_
   obtain rfl := Option.some.inj h
   exact fin_ret (v := (B false)) (results_ok Try.results60 (res_tmp (v := (B false)) rfl res_nil) rfl) ⟨rfl, rfl⟩ (H.sel' [] rfl rfl)
 ·replace h := bif_f hb7 h
  refine st_skip (congrArg some hb7) ?_
  refine st_skip (congrArg some hb7) ?_
  refine st_skip (congrArg some hb7) ?_
  refine st_skip (congrArg some hb7) ?_
  refine st_skip (congrArg some hb7) ?_
  refine st (v := (B false)) (rv_pick_f (congrArg B hb7) rfl) ?_
  refine st (v := (B false)) (rv_move rfl) ?_
  refine st_skip rfl ?_
  refine st_skip rfl ?_
  refine st_skip rfl ?_
  refine st_skip rfl ?_
  refine st_skip rfl ?_
  refine st_skip rfl ?_
  refine st (v := (B false)) (rv_pick_f rfl rfl) ?_
  refine st (v := (B false)) (rv_assign rfl) ?_
  refine w_end ?_
  refine q_then ?_
  refine c_ret ?_
  obtain rfl := Option.some.inj h
  exact fin_ret (v := (B false)) (results_ok Try.results60 (res_tmp (v := (B false)) rfl res_nil) rfl) ⟨rfl, rfl⟩ (H.sel' [] rfl rfl)

theorem c_spec_LogBetween {a_0 : List (Int × (List Int) × Int)} {b_1 : List (Int × (List Int) × Int)} {aa_0 : Option Addr} {ca_0 : Nat} {ab_1 : Option Addr} {cb_1 : Nat} {r : (List (Int × (Int × (List Int) × Int)))} (h : M.spec_LogBetween a_0 b_1 = some r) :
    Cal2 Try.prog 32 [(Sl aa_0 a_0 ca_0), (Sl ab_1 b_1 cb_1)] [Ch.ro 0 (Sl aa_0 a_0 ca_0) a_0, Ch.ro 0 (Sl ab_1 b_1 cb_1) b_1] (fun n0 v L => ∃ (az1 : Option Addr), ∃ (cz2 : Nat), v = (Sl az1 r cz2) ∧ L = [Ch.own n0 n0 (Sl az1 r cz2) r]) := by
 refine cal2 (n := 80) Try.func32 rfl rfl rfl rfl ?_
 intro S0 σ0 n0 hn0 H
 unfold M.spec_LogBetween at h
 refine c_seq ?_
 refine rg ?_
 refine st (v := (.slice none 0 0)) (rv_assign rfl) ?_
 refine w_end ?_
 refine q_then ?_
 refine c_seq ?_
 refine rg ?_
 refine st_ex (ex_buildSlice (el := n0) (xs := ([] : List (Int × (Int × (List Int) × Int)))) (ps := []) (cs := []) H hn0 Try.underlying23 ti38 rfl rfl (by kernel_rfl) (.nil) rfl) wn ?_
 rintro _ σ2 ⟨b1, rfl, H, -⟩
 refine st (v := (Sl (some ⟨b1, 0, none⟩) ([] : List (Int × (Int × (List Int) × Int))) 0)) (rv_assign rfl) ?_
 refine w_end ?_
 refine q_then ?_
 refine c_seq ?_
 refine c_seq ?_
 obtain ⟨o3, hj, h'⟩ := bind_some h
 clear h
 refine c_cut (fun e a w => e = .normal ∧ ∃ (ρ : Nat → Value) (σ : St), a = fr 80 (updL ρ [(0, (Sl aa_0 a_0 ca_0)), (1, (Sl ab_1 b_1 cb_1)), (5, (Sl (some ⟨b1, 0, none⟩) ([] : List (Int × (Int × (List Int) × Int))) 0)), (17, (B o3))]) ∧ w = σ.w ∧ Hp S0 σ0 σ [Ch.ro 0 (Sl aa_0 a_0 ca_0) a_0, Ch.ro 0 (Sl ab_1 b_1 cb_1) b_1, Ch.own n0 n0 (Sl (some ⟨b1, 0, none⟩) ([] : List (Int × (Int × (List Int) × Int))) 0) ([] : List (Int × (Int × (List Int) × Int)))]) ?_ ?_
 ·clear h'
  rename _ = some o3 => h
  refine rg ?_
  refine st (v := (Sl aa_0 a_0 ca_0)) (rv_move rfl) ?_
  obtain ⟨r4, hx5, h'⟩ := bind_some h
  clear h
  have h := h'; clear h'
  have hc6 := c_spec_validStore (alist_0 := aa_0) (clist_0 := ca_0) hx5
  refine st_call (cx_call hc6 (ent_f hc6.fn rfl) hn0 (show Hp S0 σ0 _ ([Ch.ro 0 (Sl aa_0 a_0 ca_0) a_0] ++ [Ch.own n0 n0 (Sl (some ⟨b1, 0, none⟩) ([] : List (Int × (Int × (List Int) × Int))) 0) ([] : List (Int × (Int × (List Int) × Int))), Ch.ro 0 (Sl aa_0 a_0 ca_0) a_0, Ch.ro 0 (Sl ab_1 b_1 cb_1) b_1]) from (H.sel' [1, 0, 1, 2] rfl rfl))) wn ?_
  rintro _ σ7 ⟨_, ⟨rfl, rfl⟩, H, -⟩
  replace H : Hp S0 σ0 σ7 [Ch.own n0 n0 (Sl (some ⟨b1, 0, none⟩) ([] : List (Int × (Int × (List Int) × Int))) 0) ([] : List (Int × (Int × (List Int) × Int))), Ch.ro 0 (Sl aa_0 a_0 ca_0) a_0, Ch.ro 0 (Sl ab_1 b_1 cb_1) b_1] := H
  refine st (v := (B (!r4))) (rv_not rfl) ?_
  refine st (v := (B (!r4))) (rv_move rfl) ?_
  rcases Bool.eq_false_or_eq_true (!r4) with hb8 | hb8
  ·replace h := bif_t hb8 h
   refine st_skip (congrArg some hb8) ?_
   refine st_skip (congrArg some hb8) ?_
   refine st_skip (congrArg some hb8) ?_
   refine st (v := (B true)) (rv_pick_t (congrArg B hb8) rfl) ?_
   refine w_end ?_
   obtain rfl := Option.some.inj h
   exact ⟨rfl, _, σ7, fr_join ⟨rfl, rfl, rfl, rfl, trivial⟩, rfl, H.sel' [1, 2, 0] rfl rfl⟩
  ·replace h := bif_f hb8 h
   refine st_g (v := (Sl ab_1 b_1 cb_1)) (congrArg some hb8) (rv_move rfl) ?_
   obtain ⟨r9, hx10, h'⟩ := bind_some h
   clear h
   have h := h'; clear h'
   have hc11 := c_spec_validStore (alist_0 := ab_1) (clist_0 := cb_1) hx10
   refine st_call (cx_call hc11 (ent_f hc11.fn rfl) hn0 (show Hp S0 σ0 _ ([Ch.ro 0 (Sl ab_1 b_1 cb_1) b_1] ++ [Ch.own n0 n0 (Sl (some ⟨b1, 0, none⟩) ([] : List (Int × (Int × (List Int) × Int))) 0) ([] : List (Int × (Int × (List Int) × Int))), Ch.ro 0 (Sl aa_0 a_0 ca_0) a_0, Ch.ro 0 (Sl ab_1 b_1 cb_1) b_1]) from (H.sel' [2, 0, 1, 2] rfl rfl))) (wanted_yes rfl (by exact (congrArg some hb8))) ?_
   rintro _ σ12 ⟨_, ⟨rfl, rfl⟩, H, -⟩
   replace H : Hp S0 σ0 σ12 [Ch.own n0 n0 (Sl (some ⟨b1, 0, none⟩) ([] : List (Int × (Int × (List Int) × Int))) 0) ([] : List (Int × (Int × (List Int) × Int))), Ch.ro 0 (Sl aa_0 a_0 ca_0) a_0, Ch.ro 0 (Sl ab_1 b_1 cb_1) b_1] := H
   refine st_g (v := (B (!r9))) (congrArg some hb8) (rv_not rfl) ?_
   refine st (v := (B (!r9))) (rv_pick_f (congrArg B hb8) rfl) ?_
   refine w_end ?_
   obtain rfl := Option.some.inj h
   exact ⟨rfl, _, σ12, fr_join ⟨rfl, rfl, rfl, rfl, trivial⟩, rfl, H.sel' [1, 2, 0] rfl rfl⟩
 ·clear hj
  have h := h'
  clear h' H
  rintro e a w ⟨rfl, ρ, σ13, rfl, rfl, H⟩
  refine q_then ?_
  refine cd_cond o3 rfl (fun hb14 => ?_) (fun hb14 => ?_)
  ·replace h := bif_t hb14 h
   refine c_seq ?_
   refine rg ?_
   refine st (v := (.slice none 0 0)) (rv_assign rfl) ?_
   refine w_end ?_
   refine q_then ?_
   refine c_ret ?_
   refine q_then_r ?_
   replace H := H.nilOwn (Int × (Int × (List Int) × Int)) n0 n0
   obtain rfl := Option.some.inj h
   exact fin_ret (v := (.slice none 0 0)) (results_ok Try.results32 (res_tmp (v := (.slice none 0 0)) rfl res_nil) rfl) ⟨none, 0, rfl, rfl⟩ (H.sel' [0] rfl rfl)
  ·replace h := bif_f hb14 h
   refine c_skip ?_
   refine q_then ?_
   refine c_seq ?_
   refine c_seq ?_
   refine rg ?_
   refine st (v := (I 0)) (rv_assign rfl) ?_
   refine w_end ?_
   refine q_then ?_
   obtain ⟨o15, hj, h'⟩ := bind_some h
   clear h
   refine c_cut (fun e a w => e = .normal ∧ ∃ (ρ : Nat → Value) (σ : St) (aj1 : Option Addr) (cj2 : Nat), a = fr 80 (updL ρ [(0, (Sl aa_0 a_0 ca_0)), (1, (Sl ab_1 b_1 cb_1)), (5, (Sl aj1 o15 cj2))]) ∧ w = σ.w ∧ Hp S0 σ0 σ [Ch.ro 0 (Sl aa_0 a_0 ca_0) a_0, Ch.ro 0 (Sl ab_1 b_1 cb_1) b_1, Ch.own n0 n0 (Sl aj1 o15 cj2) o15]) ?_ ?_
   ·clear h'
    rename _ = some o15 => h
    refine c_blk ?_
    refine wp_loopM _ h (fun s16 a w => ∃ (ρ : Nat → Value) (σ : St) (aj1 : Option Addr) (cj2 : Nat), a = fr 80 (updL ρ [(0, (Sl aa_0 a_0 ca_0)), (1, (Sl ab_1 b_1 cb_1)), (5, (Sl aj1 s16.1 cj2)), (6, (I s16.2))]) ∧ w = σ.w ∧ Hp S0 σ0 σ [Ch.ro 0 (Sl aa_0 a_0 ca_0) a_0, Ch.ro 0 (Sl ab_1 b_1 cb_1) b_1, Ch.own n0 n0 (Sl aj1 s16.1 cj2) s16.1]) ⟨_, σ13, (some ⟨b1, 0, none⟩), 0, fr_join ⟨rfl, rfl, rfl, rfl, trivial⟩, rfl, H.sel' [0, 1, 2] rfl rfl⟩ ?_
    clear h H
    rintro s16 a w o ⟨ρ, σ17, a18, c19, rfl, rfl, H⟩ h hres
    refine c_seq ?_
    refine c_seq ?_
    refine rg ?_
    refine st (v := (I s16.2)) (rv_move rfl) ?_
    refine st (v := (Sl aa_0 a_0 ca_0)) (rv_move rfl) ?_
    refine st (v := (I (a_0.length : Int))) (rv_len Try.underlying27 rfl) ?_
    refine st (v := (B (decide (s16.2 < (a_0.length : Int))))) (rv_lss (a := s16.2) (b := (a_0.length : Int)) rfl rfl) ?_
    refine w_end ?_
    refine q_then ?_
    refine cd_cond (decide (s16.2 < (a_0.length : Int))) rfl (fun hb20 => ?_) (fun hb20 => ?_)
    ·replace h := bif_t hb20 h
     refine c_skip ?_
     refine q_then ?_
     refine c_seq ?_
     obtain ⟨o21, hj, h'⟩ := bind_some h
     clear h
     refine c_cut (fun e a w => e = .normal ∧ ∃ (ρ : Nat → Value) (σ : St) (aj1 : Option Addr) (cj2 : Nat), a = fr 80 (updL ρ [(0, (Sl aa_0 a_0 ca_0)), (1, (Sl ab_1 b_1 cb_1)), (5, (Sl aj1 o21 cj2)), (6, (I s16.2))]) ∧ w = σ.w ∧ Hp S0 σ0 σ [Ch.ro 0 (Sl aa_0 a_0 ca_0) a_0, Ch.ro 0 (Sl ab_1 b_1 cb_1) b_1, Ch.own n0 n0 (Sl aj1 o21 cj2) o21]) ?_ ?_
     ·clear h'
      rename _ = some o21 => h
      refine c_blk ?_
      refine c_seq ?_
      refine rg ?_
      refine st (v := (Sl ab_1 b_1 cb_1)) (rv_move rfl) ?_
      refine st (v := (Sl aa_0 a_0 ca_0)) (rv_move rfl) ?_
      refine st (v := (I s16.2)) (rv_move rfl) ?_
      obtain ⟨x22, hx23, h'⟩ := bind_some h
      clear h
      have h := h'; clear h'
      obtain ⟨b25, o26, hi24, -⟩ := (H.ro 0 rfl).ix hx23
      refine st (v := (pt b25 o26)) (rv_ix Try.underlying27 ti36 rfl rfl hi24) ?_
      refine st (v := (pt b25 (o26 + 0))) (rv_fieldAddr (off := 0) (ft := 3) Try.underlying36 rfl ti3 rfl rfl) ?_
      have hc27 := ((H.ro 0 rfl).at hx23 hi24).fst.int
      refine st (v := (I x22.1)) (rv_load1 Try.underlying3 rfl rfl hc27) ?_
      obtain ⟨r28, hx29, h'⟩ := bind_some h
      clear h
      have h := h'; clear h'
      have hc30 := c_spec_keyAt (alist_0 := ab_1) (clist_0 := cb_1) hx29
      refine st_call (cx_call hc30 (ent_f hc30.fn rfl) hn0 (show Hp S0 σ0 _ ([Ch.ro 0 (Sl ab_1 b_1 cb_1) b_1] ++ [Ch.ro 0 (Sl aa_0 a_0 ca_0) a_0, Ch.ro 0 (Sl ab_1 b_1 cb_1) b_1, Ch.own n0 n0 (Sl a18 s16.1 c19) s16.1]) from (H.sel' [1, 0, 1, 2] rfl rfl))) wn ?_
      rintro _ σ31 ⟨_, ⟨rfl, rfl⟩, H, -⟩
      replace H : Hp S0 σ0 σ31 [Ch.ro 0 (Sl aa_0 a_0 ca_0) a_0, Ch.ro 0 (Sl ab_1 b_1 cb_1) b_1, Ch.own n0 n0 (Sl a18 s16.1 c19) s16.1] := H
      refine st (v := (B (decide (r28 < 0)))) (rv_lss (a := r28) (b := 0) rfl rfl) ?_
      refine w_end ?_
      refine q_then ?_
      refine cd_cond (decide (r28 < 0)) rfl (fun hb32 => ?_) (fun hb32 => ?_)
      ·replace h := bif_t hb32 h
       refine rg ?_
       refine st (v := (Sl a18 s16.1 c19)) (rv_move rfl) ?_
       refine st (v := (Sl aa_0 a_0 ca_0)) (rv_move rfl) ?_
       refine st (v := (I s16.2)) (rv_move rfl) ?_
       obtain ⟨x33, hx34, h'⟩ := bind_some h
       clear h
       have h := h'; clear h'
       obtain ⟨b36, o37, hi35, -⟩ := (H.ro 0 rfl).ix hx34
       refine st (v := (pt b36 o37)) (rv_ix Try.underlying27 ti36 rfl rfl hi35) ?_
       refine st (v := (pt b36 (o37 + 0))) (rv_fieldAddr (off := 0) (ft := 3) Try.underlying36 rfl ti3 rfl rfl) ?_
       have hc38 := ((H.ro 0 rfl).at hx34 hi35).fst.int
       refine st (v := (I x33.1)) (rv_load1 Try.underlying3 rfl rfl hc38) ?_
       refine st_ex (ex_buildSlice (el := n0) (xs := ([] : List Int)) (ps := []) (cs := []) H hn0 Try.underlying34 ti3 rfl rfl (by kernel_rfl) (.nil) rfl) wn ?_
       rintro _ σ40 ⟨b39, rfl, H, -⟩
       refine st (v := (.agg #[(I x33.1), (Sl (some ⟨b39, 0, none⟩) ([] : List Int) 0), (I 0)])) (rv_build (ps := [(0, (I x33.1)), (1, (Sl (some ⟨b39, 0, none⟩) ([] : List Int) 0))]) Try.underlying36 ti36 (bp36 Try.underlying36) rfl (by kernel_rfl)) ?_
       refine st (v := (.agg #[(I 2), (I x33.1), (Sl (some ⟨b39, 0, none⟩) ([] : List Int) 0), (I 0)])) (rv_build (ps := [(0, (I 2)), (1, (.agg #[(I x33.1), (Sl (some ⟨b39, 0, none⟩) ([] : List Int) 0), (I 0)]))]) Try.underlying38 ti38 (bp38 Try.underlying38) rfl (by kernel_rfl)) ?_
       obtain ⟨σ41, hw42, H, -⟩ := H.pub 0 rfl (Nat.le_refl _)
       rw [← hw42]; clear hw42
       refine st_ex (ex_buildSlice (el := n0) (xs := ([(2, (x33.1, ([] : List Int), 0))] : List (Int × (Int × (List Int) × Int)))) (ps := [(0, (.agg #[(I 2), (I x33.1), (Sl (some ⟨b39, 0, none⟩) ([] : List Int) 0), (I 0)]))]) (cs := [(I 2), (I x33.1), (Sl (some ⟨b39, 0, none⟩) ([] : List Int) 0), (I 0)]) H hn0 Try.underlying23 ti38 rfl rfl (by kernel_rfl) (.cons (c := [(I 2), (I x33.1), (Sl (some ⟨b39, 0, none⟩) ([] : List Int) 0), (I 0)]) ⟨[(I 2)], [(I x33.1), (Sl (some ⟨b39, 0, none⟩) ([] : List Int) 0), (I 0)], rfl, rfl, ⟨[(I x33.1)], [(Sl (some ⟨b39, 0, none⟩) ([] : List Int) 0), (I 0)], rfl, rfl, ⟨[(Sl (some ⟨b39, 0, none⟩) ([] : List Int) 0)], [(I 0)], rfl, ⟨_, rfl, (H.ro 0 rfl)⟩, rfl⟩⟩⟩ (.nil)) rfl) wn ?_
       rintro _ σ44 ⟨b43, rfl, H, -⟩
       obtain ⟨xs45, hx46, h'⟩ := bind_some h
       clear h
       have h := h'; clear h'
       refine st_ex (ex_append H (i := 4) rfl Try.underlying23 Try.underlying23 ti38 rfl rfl (by decide) (H.own 0 rfl).rd hx46 hn0 rfl rfl) wn ?_
       rintro _ σ49 ⟨a47, c48, rfl, H, -⟩
       refine st (v := (Sl a47 xs45 c48)) (rv_assign rfl) ?_
       refine w_end ?_
       refine q_blk ?_
       obtain rfl := Option.some.inj h
       exact ⟨rfl, _, σ49, a47, c48, fr_join ⟨rfl, rfl, rfl, rfl, trivial⟩, rfl, H.sel' [3, 4, 0] rfl rfl⟩
      ·replace h := bif_f hb32 h
       refine c_skip ?_
       refine q_blk ?_
       obtain rfl := Option.some.inj h
       exact ⟨rfl, _, σ31, a18, c19, fr_join ⟨rfl, rfl, rfl, rfl, trivial⟩, rfl, H.sel' [0, 1, 2] rfl rfl⟩
     ·clear hj
      have h := h'
      clear h' H
      rintro e a w ⟨rfl, ρ, σ50, a51, c52, rfl, rfl, H⟩
      refine q_then ?_
      refine rg ?_
      refine st (v := (I s16.2)) (rv_move rfl) ?_
      refine st (v := (I (w64 (s16.2 + 1)))) (rv_add (a := s16.2) (b := 1) rfl rfl) ?_
      refine st (v := (I (w64 (s16.2 + 1)))) (rv_assign rfl) ?_
      refine w_end ?_
      refine q_then ?_
      obtain rfl := Option.some.inj h
      exact ⟨_, rfl, _, σ50, a51, c52, fr_join ⟨rfl, rfl, rfl, rfl, trivial⟩, rfl, H.sel' [0, 1, 2] rfl rfl⟩
    ·replace h := bif_f hb20 h
     refine c_exit ?_
     refine q_then_x ?_
     refine q_then_x ?_
     refine q_blk_hit ?_
     obtain rfl := Option.some.inj h
     obtain rfl := hres _ rfl
     exact ⟨rfl, _, σ17, a18, c19, fr_join ⟨rfl, rfl, rfl, trivial⟩, rfl, H.sel' [0, 1, 2] rfl rfl⟩
   ·clear hj
    have h := h'
    clear h' H
    rintro e a w ⟨rfl, ρ, σ53, a54, c55, rfl, rfl, H⟩
    refine q_then ?_
    refine c_seq ?_
    refine c_seq ?_
    refine rg ?_
    refine st (v := (I 0)) (rv_assign rfl) ?_
    refine w_end ?_
    refine q_then ?_
    obtain ⟨o56, hj, h'⟩ := bind_some h
    clear h
    refine c_cut (fun e a w => e = .normal ∧ ∃ (ρ : Nat → Value) (σ : St) (aj1 : Option Addr) (cj2 : Nat), a = fr 80 (updL ρ [(5, (Sl aj1 o56 cj2))]) ∧ w = σ.w ∧ Hp S0 σ0 σ [Ch.own n0 n0 (Sl aj1 o56 cj2) o56]) ?_ ?_
    ·clear h'
     rename _ = some o56 => h
     refine c_blk ?_
     refine wp_loopM _ h (fun s57 a w => ∃ (ρ : Nat → Value) (σ : St) (aj1 : Option Addr) (cj2 : Nat), a = fr 80 (updL ρ [(0, (Sl aa_0 a_0 ca_0)), (1, (Sl ab_1 b_1 cb_1)), (5, (Sl aj1 s57.1 cj2)), (7, (I s57.2))]) ∧ w = σ.w ∧ Hp S0 σ0 σ [Ch.ro 0 (Sl aa_0 a_0 ca_0) a_0, Ch.ro 0 (Sl ab_1 b_1 cb_1) b_1, Ch.own n0 n0 (Sl aj1 s57.1 cj2) s57.1]) ⟨_, σ53, a54, c55, fr_join ⟨rfl, rfl, rfl, rfl, trivial⟩, rfl, H.sel' [0, 1, 2] rfl rfl⟩ ?_
     clear h H
     rintro s57 a w o ⟨ρ, σ58, a59, c60, rfl, rfl, H⟩ h hres
     refine c_seq ?_
     refine c_seq ?_
     refine rg ?_
     refine st (v := (I s57.2)) (rv_move rfl) ?_
     refine st (v := (Sl ab_1 b_1 cb_1)) (rv_move rfl) ?_
     refine st (v := (I (b_1.length : Int))) (rv_len Try.underlying27 rfl) ?_
     refine st (v := (B (decide (s57.2 < (b_1.length : Int))))) (rv_lss (a := s57.2) (b := (b_1.length : Int)) rfl rfl) ?_
     refine w_end ?_
     refine q_then ?_
     refine cd_cond (decide (s57.2 < (b_1.length : Int))) rfl (fun hb61 => ?_) (fun hb61 => ?_)
     ·replace h := bif_t hb61 h
      refine c_skip ?_
      refine q_then ?_
      refine c_seq ?_
      obtain ⟨o62, hj, h'⟩ := bind_some h
      clear h
      refine c_cut (fun e a w => e = .normal ∧ ∃ (ρ : Nat → Value) (σ : St) (aj1 : Option Addr) (cj2 : Nat), a = fr 80 (updL ρ [(0, (Sl aa_0 a_0 ca_0)), (1, (Sl ab_1 b_1 cb_1)), (5, (Sl aj1 o62 cj2)), (7, (I s57.2))]) ∧ w = σ.w ∧ Hp S0 σ0 σ [Ch.ro 0 (Sl aa_0 a_0 ca_0) a_0, Ch.ro 0 (Sl ab_1 b_1 cb_1) b_1, Ch.own n0 n0 (Sl aj1 o62 cj2) o62]) ?_ ?_
      ·clear h'
       rename _ = some o62 => h
       refine c_blk ?_
       refine c_seq ?_
       refine rg ?_
       refine st (v := (Sl aa_0 a_0 ca_0)) (rv_move rfl) ?_
       refine st (v := (Sl ab_1 b_1 cb_1)) (rv_move rfl) ?_
       refine st (v := (I s57.2)) (rv_move rfl) ?_
       obtain ⟨x63, hx64, h'⟩ := bind_some h
       clear h
       have h := h'; clear h'
       obtain ⟨b66, o67, hi65, -⟩ := (H.ro 1 rfl).ix hx64
       refine st (v := (pt b66 o67)) (rv_ix Try.underlying27 ti36 rfl rfl hi65) ?_
       refine st (v := (pt b66 (o67 + 0))) (rv_fieldAddr (off := 0) (ft := 3) Try.underlying36 rfl ti3 rfl rfl) ?_
       have hc68 := ((H.ro 1 rfl).at hx64 hi65).fst.int
       refine st (v := (I x63.1)) (rv_load1 Try.underlying3 rfl rfl hc68) ?_
       obtain ⟨r69, hx70, h'⟩ := bind_some h
       clear h
       have h := h'; clear h'
       have hc71 := c_spec_keyAt (alist_0 := aa_0) (clist_0 := ca_0) hx70
       refine st_call (cx_call hc71 (ent_f hc71.fn rfl) hn0 (show Hp S0 σ0 _ ([Ch.ro 0 (Sl aa_0 a_0 ca_0) a_0] ++ [Ch.ro 0 (Sl aa_0 a_0 ca_0) a_0, Ch.ro 0 (Sl ab_1 b_1 cb_1) b_1, Ch.own n0 n0 (Sl a59 s57.1 c60) s57.1]) from (H.sel' [0, 0, 1, 2] rfl rfl))) wn ?_
       rintro _ σ72 ⟨_, ⟨rfl, rfl⟩, H, -⟩
       replace H : Hp S0 σ0 σ72 [Ch.ro 0 (Sl aa_0 a_0 ca_0) a_0, Ch.ro 0 (Sl ab_1 b_1 cb_1) b_1, Ch.own n0 n0 (Sl a59 s57.1 c60) s57.1] := H
       refine st (v := (I r69)) (rv_assign rfl) ?_
       refine w_end ?_
       refine q_then ?_
       refine c_seq ?_
       obtain ⟨o73, hj, h'⟩ := bind_some h
       clear h
       refine c_cut (fun e a w => e = .normal ∧ ∃ (ρ : Nat → Value) (σ : St), a = fr 80 (updL ρ [(0, (Sl aa_0 a_0 ca_0)), (1, (Sl ab_1 b_1 cb_1)), (5, (Sl a59 s57.1 c60)), (7, (I s57.2)), (69, (B o73))]) ∧ w = σ.w ∧ Hp S0 σ0 σ [Ch.ro 0 (Sl aa_0 a_0 ca_0) a_0, Ch.ro 0 (Sl ab_1 b_1 cb_1) b_1, Ch.own n0 n0 (Sl a59 s57.1 c60) s57.1]) ?_ ?_
       ·clear h'
        rename _ = some o73 => h
        refine rgP (σ := σ72) 11 (by kernel_rfl) (by kernel_rfl) (by kernel_rfl) ?_
        refine sq (v := (I r69)) (rv_move rfl) ?_
        refine sq (v := (B (decide (r69 < 0)))) (rv_lss (a := r69) (b := 0) rfl rfl) ?_
        refine sq (v := (B (decide (r69 < 0)))) (rv_move rfl) ?_
        rcases Bool.eq_false_or_eq_true (decide (r69 < 0)) with hb74 | hb74
        ·replace h := bif_t hb74 h
         refine sq_skip (congrArg some hb74) ?_
         refine sq_skip (congrArg some hb74) ?_
         refine sq_skip (congrArg some hb74) ?_
         refine sq_skip (congrArg some hb74) ?_
         refine sq_skip (congrArg some hb74) ?_
         refine sq_skip (congrArg some hb74) ?_
         refine sq_skip (congrArg some hb74) ?_
         refine sq_skip (congrArg some hb74) ?_
         refine sq_end ?_
         intro σ75 hm76
         replace H := H.grow (hm76.mono fun _ h => h); clear hm76
         refine st_skip (congrArg some hb74) ?_
         refine st_skip (congrArg some hb74) ?_
         refine st (v := (B true)) (rv_pick_t (congrArg B hb74) rfl) ?_
         refine w_end ?_
         obtain rfl := Option.some.inj h
         exact ⟨rfl, _, σ75, fr_join ⟨rfl, rfl, rfl, rfl, rfl, trivial⟩, rfl, H.sel' [0, 1, 2] rfl rfl⟩
        ·replace h := bif_f hb74 h
         refine sq_g (v := (Sl aa_0 a_0 ca_0)) (congrArg some hb74) (rv_move rfl) ?_
         refine sq_g (v := (I r69)) (congrArg some hb74) (rv_move rfl) ?_
         obtain ⟨x77, hx78, h'⟩ := bind_some h
         clear h
         have h := h'; clear h'
         obtain ⟨b80, o81, hi79, -⟩ := (H.ro 0 rfl).ix hx78
         refine sq_g (v := (pt b80 o81)) (congrArg some hb74) (rv_ix Try.underlying27 ti36 rfl rfl hi79) ?_
         obtain ⟨_, ⟨_, _, rfl, rfl, ⟨_, _, rfl, ⟨_, rfl, hR86⟩, rfl⟩⟩, hl82, hc83⟩ := ((H.ro 0 rfl).at hx78 hi79).cells
         obtain ⟨a84, c85, rfl⟩ := hR86.isSl
         replace H := H.add (d := Ch.ro 0 (Sl a84 x77.2.1 c85) x77.2.1) hR86 (fun _ h => h)
         clear hR86
         refine sq_g (v := (.agg #[(I x77.1), (Sl a84 x77.2.1 c85), (I x77.2.2)])) (congrArg some hb74) (rv_load Try.underlying36 rfl ti36 rfl hl82 hc83) ?_
         refine sq_g (v := (Sl ab_1 b_1 cb_1)) (congrArg some hb74) (rv_move rfl) ?_
         refine sq_g (v := (I s57.2)) (congrArg some hb74) (rv_move rfl) ?_
         obtain ⟨x87, hx88, h'⟩ := bind_some h
         clear h
         have h := h'; clear h'
         obtain ⟨b90, o91, hi89, -⟩ := (H.ro 2 rfl).ix hx88
         refine sq_g (v := (pt b90 o91)) (congrArg some hb74) (rv_ix Try.underlying27 ti36 rfl rfl hi89) ?_
         obtain ⟨_, ⟨_, _, rfl, rfl, ⟨_, _, rfl, ⟨_, rfl, hR96⟩, rfl⟩⟩, hl92, hc93⟩ := ((H.ro 2 rfl).at hx88 hi89).cells
         obtain ⟨a94, c95, rfl⟩ := hR96.isSl
         replace H := H.add (d := Ch.ro 0 (Sl a94 x87.2.1 c95) x87.2.1) hR96 (fun _ h => h)
         clear hR96
         refine sq_g (v := (.agg #[(I x87.1), (Sl a94 x87.2.1 c95), (I x87.2.2)])) (congrArg some hb74) (rv_load Try.underlying36 rfl ti36 rfl hl92 hc93) ?_
         refine sq_end ?_
         intro σ97 hm98
         replace H := H.grow (hm98.mono fun _ h => h); clear hm98
         obtain ⟨r99, hx100, h'⟩ := bind_some h
         clear h
         have h := h'; clear h'
         have hc101 := c_spec_sameItem (aa_0_1 := a84) (ca_0_1 := c85) (ab_1_1 := a94) (cb_1_1 := c95) hx100
         refine st_call (cx_call hc101 (ent_f hc101.fn rfl) hn0 (show Hp S0 σ0 _ ([Ch.ro 0 (Sl a84 x77.2.1 c85) x77.2.1, Ch.ro 0 (Sl a94 x87.2.1 c95) x87.2.1] ++ [Ch.ro 0 (Sl a94 x87.2.1 c95) x87.2.1, Ch.ro 0 (Sl a84 x77.2.1 c85) x77.2.1, Ch.ro 0 (Sl aa_0 a_0 ca_0) a_0, Ch.ro 0 (Sl ab_1 b_1 cb_1) b_1, Ch.own n0 n0 (Sl a59 s57.1 c60) s57.1]) from (H.sel' [1, 0, 0, 1, 2, 3, 4] rfl rfl))) (wanted_yes rfl (by exact (congrArg some hb74))) ?_
         rintro _ σ102 ⟨_, ⟨rfl, rfl⟩, H, -⟩
         replace H : Hp S0 σ0 σ102 [Ch.ro 0 (Sl a94 x87.2.1 c95) x87.2.1, Ch.ro 0 (Sl a84 x77.2.1 c85) x77.2.1, Ch.ro 0 (Sl aa_0 a_0 ca_0) a_0, Ch.ro 0 (Sl ab_1 b_1 cb_1) b_1, Ch.own n0 n0 (Sl a59 s57.1 c60) s57.1] := H
         refine st_g (v := (B (!r99))) (congrArg some hb74) (rv_not rfl) ?_
         refine st (v := (B (!r99))) (rv_pick_f (congrArg B hb74) rfl) ?_
         refine w_end ?_
         obtain rfl := Option.some.inj h
         exact ⟨rfl, _, σ102, fr_join ⟨rfl, rfl, rfl, rfl, rfl, trivial⟩, rfl, H.sel' [2, 3, 4] rfl rfl⟩
       ·clear hj
        have h := h'
        clear h' H
        rintro e a w ⟨rfl, ρ, σ103, rfl, rfl, H⟩
        refine q_then ?_
        refine cd_cond o73 rfl (fun hb104 => ?_) (fun hb104 => ?_)
        ·replace h := bif_t hb104 h
         refine rg ?_
         refine st (v := (Sl a59 s57.1 c60)) (rv_move rfl) ?_
         refine st (v := (Sl ab_1 b_1 cb_1)) (rv_move rfl) ?_
         refine st (v := (I s57.2)) (rv_move rfl) ?_
         obtain ⟨x105, hx106, h'⟩ := bind_some h
         clear h
         have h := h'; clear h'
         obtain ⟨b108, o109, hi107, -⟩ := (H.ro 1 rfl).ix hx106
         refine st (v := (pt b108 o109)) (rv_ix Try.underlying27 ti36 rfl rfl hi107) ?_
         obtain ⟨_, ⟨_, _, rfl, rfl, ⟨_, _, rfl, ⟨_, rfl, hR114⟩, rfl⟩⟩, hl110, hc111⟩ := ((H.ro 1 rfl).at hx106 hi107).cells
         obtain ⟨a112, c113, rfl⟩ := hR114.isSl
         replace H := H.add (d := Ch.ro 0 (Sl a112 x105.2.1 c113) x105.2.1) hR114 (fun _ h => h)
         clear hR114
         refine st (v := (.agg #[(I x105.1), (Sl a112 x105.2.1 c113), (I x105.2.2)])) (rv_load Try.underlying36 rfl ti36 rfl hl110 hc111) ?_
         obtain ⟨r115, hx116, h'⟩ := bind_some h
         clear h
         have h := h'; clear h'
         have hc117 := c_spec_copyItem (ax_0_1 := a112) (cx_0_1 := c113) hx116
         refine st_call (cx_call hc117 (ent_f hc117.fn rfl) hn0 (show Hp S0 σ0 _ ([Ch.ro 0 (Sl a112 x105.2.1 c113) x105.2.1] ++ [Ch.ro 0 (Sl a112 x105.2.1 c113) x105.2.1, Ch.ro 0 (Sl aa_0 a_0 ca_0) a_0, Ch.ro 0 (Sl ab_1 b_1 cb_1) b_1, Ch.own n0 n0 (Sl a59 s57.1 c60) s57.1]) from (H.sel' [0, 0, 1, 2, 3] rfl rfl))) wn ?_
         rintro _ σ120 ⟨_, ⟨a118, c119, rfl, rfl⟩, H, -⟩
         replace H : Hp S0 σ0 σ120 [Ch.own n0 n0 (Sl a118 r115.2.1 c119) r115.2.1, Ch.ro 0 (Sl a112 x105.2.1 c113) x105.2.1, Ch.ro 0 (Sl aa_0 a_0 ca_0) a_0, Ch.ro 0 (Sl ab_1 b_1 cb_1) b_1, Ch.own n0 n0 (Sl a59 s57.1 c60) s57.1] := H
         refine st (v := (.agg #[(I 1), (I r115.1), (Sl a118 r115.2.1 c119), (I r115.2.2)])) (rv_build (ps := [(0, (I 1)), (1, (.agg #[(I r115.1), (Sl a118 r115.2.1 c119), (I r115.2.2)]))]) Try.underlying38 ti38 (bp38 Try.underlying38) rfl (by kernel_rfl)) ?_
         obtain ⟨σ121, hw122, H, -⟩ := H.pub 0 rfl (Nat.le_refl _)
         rw [← hw122]; clear hw122
         refine st_ex (ex_buildSlice (el := n0) (xs := ([(1, (r115.1, r115.2.1, r115.2.2))] : List (Int × (Int × (List Int) × Int)))) (ps := [(0, (.agg #[(I 1), (I r115.1), (Sl a118 r115.2.1 c119), (I r115.2.2)]))]) (cs := [(I 1), (I r115.1), (Sl a118 r115.2.1 c119), (I r115.2.2)]) H hn0 Try.underlying23 ti38 rfl rfl (by kernel_rfl) (.cons (c := [(I 1), (I r115.1), (Sl a118 r115.2.1 c119), (I r115.2.2)]) ⟨[(I 1)], [(I r115.1), (Sl a118 r115.2.1 c119), (I r115.2.2)], rfl, rfl, ⟨[(I r115.1)], [(Sl a118 r115.2.1 c119), (I r115.2.2)], rfl, rfl, ⟨[(Sl a118 r115.2.1 c119)], [(I r115.2.2)], rfl, ⟨_, rfl, (H.ro 0 rfl)⟩, rfl⟩⟩⟩ (.nil)) rfl) wn ?_
         rintro _ σ124 ⟨b123, rfl, H, -⟩
         obtain ⟨xs125, hx126, h'⟩ := bind_some h
         clear h
         have h := h'; clear h'
         refine st_ex (ex_append H (i := 5) rfl Try.underlying23 Try.underlying23 ti38 rfl rfl (by decide) (H.own 0 rfl).rd hx126 hn0 rfl rfl) wn ?_
         rintro _ σ129 ⟨a127, c128, rfl, H, -⟩
         refine st (v := (Sl a127 xs125 c128)) (rv_assign rfl) ?_
         refine w_end ?_
         refine q_blk ?_
         obtain rfl := Option.some.inj h
         exact ⟨rfl, _, σ129, a127, c128, fr_join ⟨rfl, rfl, rfl, rfl, trivial⟩, rfl, H.sel' [4, 5, 0] rfl rfl⟩
        ·replace h := bif_f hb104 h
         refine c_skip ?_
         refine q_blk ?_
         obtain rfl := Option.some.inj h
         exact ⟨rfl, _, σ103, a59, c60, fr_join ⟨rfl, rfl, rfl, rfl, trivial⟩, rfl, H.sel' [0, 1, 2] rfl rfl⟩
      ·clear hj
       have h := h'
       clear h' H
       rintro e a w ⟨rfl, ρ, σ130, a131, c132, rfl, rfl, H⟩
       refine q_then ?_
       refine rg ?_
       refine st (v := (I s57.2)) (rv_move rfl) ?_
       refine st (v := (I (w64 (s57.2 + 1)))) (rv_add (a := s57.2) (b := 1) rfl rfl) ?_
       refine st (v := (I (w64 (s57.2 + 1)))) (rv_assign rfl) ?_
       refine w_end ?_
       refine q_then ?_
       obtain rfl := Option.some.inj h
       exact ⟨_, rfl, _, σ130, a131, c132, fr_join ⟨rfl, rfl, rfl, rfl, trivial⟩, rfl, H.sel' [0, 1, 2] rfl rfl⟩
     ·replace h := bif_f hb61 h
      refine c_exit ?_
      refine q_then_x ?_
      refine q_then_x ?_
      refine q_blk_hit ?_
      obtain rfl := Option.some.inj h
      obtain rfl := hres _ rfl
      exact ⟨rfl, _, σ58, a59, c60, fr_join ⟨rfl, trivial⟩, rfl, H.sel' [2] rfl rfl⟩
    ·clear hj
     have h := h'
     clear h' H
     rintro e a w ⟨rfl, ρ, σ133, a134, c135, rfl, rfl, H⟩
     refine q_then ?_
     refine c_seq ?_
     refine rg ?_
     refine st (v := (Sl a134 o56 c135)) (rv_move rfl) ?_
     refine st (v := (Sl a134 o56 c135)) (rv_assign rfl) ?_
     refine w_end ?_
     refine q_then ?_
     refine c_ret ?_
     obtain rfl := Option.some.inj h
     exact fin_ret (v := (Sl a134 o56 c135)) (results_ok Try.results32 (res_tmp (v := (Sl a134 o56 c135)) rfl res_nil) rfl) ⟨a134, c135, rfl, rfl⟩ (H.sel' [0] rfl rfl)

theorem c_laws_FnLogBetweenShort {code_0 : List UInt8} {acode_0 : Option Addr} {ccode_0 : Nat} {r : Bool} (h : M.laws_FnLogBetweenShort code_0 = some r) :
    Cal2 Try.prog 10 [(Sl acode_0 code_0 ccode_0)] [Ch.ro 0 (Sl acode_0 code_0 ccode_0) code_0] (fun n0 v L => v = (B r) ∧ L = []) := by
 refine cal2 (n := 62) Try.func10 rfl rfl rfl rfl ?_
 intro S0 σ0 n0 hn0 H
 unfold M.laws_FnLogBetweenShort at h
 refine c_seq ?_
 refine rg ?_
 refine st (v := (B false)) (rv_assign rfl) ?_
 refine w_end ?_
 refine q_then ?_
 refine c_seq ?_
 refine c_seq ?_
 refine rg ?_
 refine st (v := (Sl acode_0 code_0 ccode_0)) (rv_move rfl) ?_
 refine st (v := (I (code_0.length : Int))) (rv_len Try.underlying22 rfl) ?_
 refine st (v := (B (decide (1048576 < (code_0.length : Int))))) (rv_gtr (a := (code_0.length : Int)) (b := 1048576) rfl rfl) ?_
 refine w_end ?_
 refine q_then ?_
 refine cd_cond (decide (1048576 < (code_0.length : Int))) rfl (fun hb1 => ?_) (fun hb1 => ?_)
 ·replace h := bif_t hb1 h
  refine c_seq ?_
  refine rg ?_
  refine st (v := (B true)) (rv_assign rfl) ?_
  refine w_end ?_
  refine q_then ?_
  refine c_ret ?_
  refine q_then_r ?_
  obtain rfl := Option.some.inj h
  exact fin_ret (v := (B true)) (results_ok Try.results10 (res_tmp (v := (B true)) rfl res_nil) rfl) ⟨rfl, rfl⟩ (H.sel' [] rfl rfl)
 ·replace h := bif_f hb1 h
  refine c_skip ?_
  refine q_then ?_
  refine c_seq ?_
  refine rg ?_
  refine st (v := (Sl acode_0 code_0 ccode_0)) (rv_move rfl) ?_
  obtain ⟨r2, hx3, h'⟩ := bind_some h
  clear h
  have h := h'; clear h'
  have hc4 := c_spec_DrawLogBetween (acode_0 := acode_0) (ccode_0 := ccode_0) hx3
  refine st_call (cx_call hc4 (ent_f hc4.fn rfl) hn0 (show Hp S0 σ0 _ ([Ch.ro 0 (Sl acode_0 code_0 ccode_0) code_0] ++ [Ch.ro 0 (Sl acode_0 code_0 ccode_0) code_0]) from (H.sel' [0, 0] rfl rfl))) wn ?_
  rintro _ σ9 ⟨_, ⟨a5, c6, a7, c8, rfl, rfl⟩, H, -⟩
  replace H : Hp S0 σ0 σ9 [Ch.own n0 n0 (Sl a5 r2.1 c6) r2.1, Ch.own n0 n0 (Sl a7 r2.2 c8) r2.2, Ch.ro 0 (Sl acode_0 code_0 ccode_0) code_0] := H
  refine st (v := (.tuple #[(Sl a5 r2.1 c6), (Sl a7 r2.2 c8)])) (rv_move rfl) ?_
  refine st (v := (Sl a5 r2.1 c6)) (rv_extract rfl rfl) ?_
  refine st (v := (Sl a7 r2.2 c8)) (rv_extract rfl rfl) ?_
  refine st (v := (Sl a5 r2.1 c6)) (rv_assign rfl) ?_
  refine st (v := (Sl a7 r2.2 c8)) (rv_assign rfl) ?_
  refine w_end ?_
  refine q_then ?_
  refine c_seq ?_
  refine rg ?_
  refine st (v := (Sl a5 r2.1 c6)) (rv_move rfl) ?_
  refine st (v := (Sl a7 r2.2 c8)) (rv_move rfl) ?_
  obtain ⟨r10, hx11, h'⟩ := bind_some h
  clear h
  have h := h'; clear h'
  have hc12 := c_impl_LogBetween (aa_0 := a5) (ca_0 := c6) (ab_1 := a7) (cb_1 := c8) hx11
  have hle := Nat.le_trans hn0 H.size
  refine st_call (cx_lend (Loan.lend (Loan.lend Loan.nil)) hc12 (ent_f hc12.fn rfl) (show Hp S0 σ0 _ ([Ch.own n0 n0 (Sl a5 r2.1 c6) r2.1, Ch.own n0 n0 (Sl a7 r2.2 c8) r2.2] ++ ([] ++ [Ch.ro 0 (Sl acode_0 code_0 ccode_0) code_0])) from (H.sel' [0, 1, 2] rfl rfl)) (by rintro _ _ _ ⟨_, _, rfl, rfl⟩; exact ⟨Ab.own (Nat.le_refl _), trivial⟩)) wn ?_
  rintro _ σ15 ⟨_, ⟨a13, c14, rfl, rfl⟩, H, -, -⟩
  replace H : Hp S0 σ0 σ15 [Ch.own σ9.size σ9.size (Sl a13 r10 c14) r10, Ch.own n0 n0 (Sl a5 r2.1 c6) r2.1, Ch.own n0 n0 (Sl a7 r2.2 c8) r2.2, Ch.ro 0 (Sl acode_0 code_0 ccode_0) code_0] := H
  replace H := H.ownLow 0 n0 n0 rfl hle hle
  clear hle
  replace H : Hp S0 σ0 σ15 [Ch.own n0 n0 (Sl a13 r10 c14) r10, Ch.own n0 n0 (Sl a5 r2.1 c6) r2.1, Ch.own n0 n0 (Sl a7 r2.2 c8) r2.2, Ch.ro 0 (Sl acode_0 code_0 ccode_0) code_0] := H
  refine st (v := (Sl a13 r10 c14)) (rv_assign rfl) ?_
  refine w_end ?_
  refine q_then ?_
  refine c_seq ?_
  refine c_seq ?_
  obtain ⟨o16, hj, h'⟩ := bind_some h
  clear h
  refine c_cut (fun e a w => e = .normal ∧ ∃ (ρ : Nat → Value) (σ : St), a = fr 62 (updL ρ [(3, (Sl a5 r2.1 c6)), (4, (Sl a7 r2.2 c8)), (5, (Sl a13 r10 c14)), (33, (B o16))]) ∧ w = σ.w ∧ Hp S0 σ0 σ [Ch.own n0 n0 (Sl a5 r2.1 c6) r2.1, Ch.own n0 n0 (Sl a7 r2.2 c8) r2.2, Ch.own n0 n0 (Sl a13 r10 c14) r10]) ?_ ?_
  ·clear h'
   rename _ = some o16 => h
   refine rg ?_
   refine st (v := (Sl a13 r10 c14)) (rv_move rfl) ?_
   refine st (v := (Sl a5 r2.1 c6)) (rv_move rfl) ?_
   refine st (v := (Sl a7 r2.2 c8)) (rv_move rfl) ?_
   obtain ⟨r17, hx18, h'⟩ := bind_some h
   clear h
   have h := h'; clear h'
   have hc19 := c_spec_LogBetween (aa_0 := a5) (ca_0 := c6) (ab_1 := a7) (cb_1 := c8) hx18
   have hle := Nat.le_trans hn0 H.size
   refine st_call (cx_lend (Loan.lend (Loan.lend Loan.nil)) hc19 (ent_f hc19.fn rfl) (show Hp S0 σ0 _ ([Ch.own n0 n0 (Sl a5 r2.1 c6) r2.1, Ch.own n0 n0 (Sl a7 r2.2 c8) r2.2] ++ ([] ++ [Ch.own n0 n0 (Sl a13 r10 c14) r10, Ch.ro 0 (Sl acode_0 code_0 ccode_0) code_0])) from (H.sel' [1, 2, 0, 3] rfl rfl)) (by rintro _ _ _ ⟨_, _, rfl, rfl⟩; exact ⟨Ab.own (Nat.le_refl _), trivial⟩)) wn ?_
   rintro _ σ22 ⟨_, ⟨a20, c21, rfl, rfl⟩, H, -, -⟩
   replace H : Hp S0 σ0 σ22 [Ch.own σ15.size σ15.size (Sl a20 r17 c21) r17, Ch.own n0 n0 (Sl a5 r2.1 c6) r2.1, Ch.own n0 n0 (Sl a7 r2.2 c8) r2.2, Ch.own n0 n0 (Sl a13 r10 c14) r10, Ch.ro 0 (Sl acode_0 code_0 ccode_0) code_0] := H
   replace H := H.ownLow 0 n0 n0 rfl hle hle
   clear hle
   replace H : Hp S0 σ0 σ22 [Ch.own n0 n0 (Sl a20 r17 c21) r17, Ch.own n0 n0 (Sl a5 r2.1 c6) r2.1, Ch.own n0 n0 (Sl a7 r2.2 c8) r2.2, Ch.own n0 n0 (Sl a13 r10 c14) r10, Ch.ro 0 (Sl acode_0 code_0 ccode_0) code_0] := H
   obtain ⟨σ23, hw24, H, -⟩ := H.pub 0 rfl (Nat.le_refl _)
   rw [← hw24]; clear hw24
   replace H := H.roLow 0 0 rfl (Nat.zero_le _)
   obtain ⟨r25, hx26, h'⟩ := bind_some h
   clear h
   have h := h'; clear h'
   have hc27 := c_laws_equalEntries (aa_0 := a13) (ca_0 := c14) (ab_1 := a20) (cb_1 := c21) hx26
   have hle := Nat.le_trans hn0 H.size
   refine st_call (cx_lend (Loan.lend (Loan.same Loan.nil)) hc27 (ent_f hc27.fn rfl) (show Hp S0 σ0 _ ([Ch.own n0 n0 (Sl a13 r10 c14) r10] ++ ([Ch.ro 0 (Sl a20 r17 c21) r17] ++ [Ch.ro 0 (Sl a20 r17 c21) r17, Ch.ro n0 (Sl a20 r17 c21) r17, Ch.own n0 n0 (Sl a5 r2.1 c6) r2.1, Ch.own n0 n0 (Sl a7 r2.2 c8) r2.2, Ch.ro 0 (Sl acode_0 code_0 ccode_0) code_0])) from (H.sel' [4, 0, 0, 1, 2, 3, 5] rfl rfl)) (by rintro _ _ _ ⟨rfl, rfl⟩; exact trivial)) wn ?_
   rintro _ σ28 ⟨_, ⟨rfl, rfl⟩, H, -, -⟩
   replace H : Hp S0 σ0 σ28 [Ch.own n0 n0 (Sl a13 r10 c14) r10, Ch.ro 0 (Sl a20 r17 c21) r17, Ch.ro n0 (Sl a20 r17 c21) r17, Ch.own n0 n0 (Sl a5 r2.1 c6) r2.1, Ch.own n0 n0 (Sl a7 r2.2 c8) r2.2, Ch.ro 0 (Sl acode_0 code_0 ccode_0) code_0] := H
   clear hle
   replace H : Hp S0 σ0 σ28 [Ch.own n0 n0 (Sl a13 r10 c14) r10, Ch.ro 0 (Sl a20 r17 c21) r17, Ch.ro n0 (Sl a20 r17 c21) r17, Ch.own n0 n0 (Sl a5 r2.1 c6) r2.1, Ch.own n0 n0 (Sl a7 r2.2 c8) r2.2, Ch.ro 0 (Sl acode_0 code_0 ccode_0) code_0] := H
   refine st (v := (B (!r25))) (rv_not rfl) ?_
   refine st (v := (B (!r25))) (rv_move rfl) ?_
   rcases Bool.eq_false_or_eq_true (!r25) with hb29 | hb29
   ·replace h := bif_t hb29 h
    refine st_skip (congrArg some hb29) ?_
    refine st_skip (congrArg some hb29) ?_
    refine st_skip (congrArg some hb29) ?_
    refine st (v := (B true)) (rv_pick_t (congrArg B hb29) rfl) ?_
    refine st (v := (B true)) (rv_move rfl) ?_
    refine st_skip rfl ?_
    refine st_skip rfl ?_
    refine st_skip rfl ?_
    refine st (v := (B true)) (rv_pick_t rfl rfl) ?_
    refine w_end ?_
    obtain rfl := Option.some.inj h
    exact ⟨rfl, _, σ28, fr_join ⟨rfl, rfl, rfl, rfl, trivial⟩, rfl, H.sel' [3, 4, 0] rfl rfl⟩
   ·replace h := bif_f hb29 h
    refine st_g (v := (Sl a5 r2.1 c6)) (congrArg some hb29) (rv_move rfl) ?_
    obtain ⟨r30, hx31, h'⟩ := bind_some h
    clear h
    have h := h'; clear h'
    have hc32 := c_impl_ValidStore (alist_0 := a5) (clist_0 := c6) hx31
    have hle := Nat.le_trans hn0 H.size
    refine st_call (cx_lend (Loan.lend Loan.nil) hc32 (ent_f hc32.fn rfl) (show Hp S0 σ0 _ ([Ch.own n0 n0 (Sl a5 r2.1 c6) r2.1] ++ ([] ++ [Ch.own n0 n0 (Sl a13 r10 c14) r10, Ch.ro 0 (Sl a20 r17 c21) r17, Ch.ro n0 (Sl a20 r17 c21) r17, Ch.own n0 n0 (Sl a7 r2.2 c8) r2.2, Ch.ro 0 (Sl acode_0 code_0 ccode_0) code_0])) from (H.sel' [3, 0, 1, 2, 4, 5] rfl rfl)) (by rintro _ _ _ ⟨rfl, rfl⟩; exact trivial)) (wanted_yes rfl (by exact (congrArg some hb29))) ?_
    rintro _ σ33 ⟨_, ⟨rfl, rfl⟩, H, -, -⟩
    replace H : Hp S0 σ0 σ33 [Ch.own n0 n0 (Sl a5 r2.1 c6) r2.1, Ch.own n0 n0 (Sl a13 r10 c14) r10, Ch.ro 0 (Sl a20 r17 c21) r17, Ch.ro n0 (Sl a20 r17 c21) r17, Ch.own n0 n0 (Sl a7 r2.2 c8) r2.2, Ch.ro 0 (Sl acode_0 code_0 ccode_0) code_0] := H
    clear hle
    replace H : Hp S0 σ0 σ33 [Ch.own n0 n0 (Sl a5 r2.1 c6) r2.1, Ch.own n0 n0 (Sl a13 r10 c14) r10, Ch.ro 0 (Sl a20 r17 c21) r17, Ch.ro n0 (Sl a20 r17 c21) r17, Ch.own n0 n0 (Sl a7 r2.2 c8) r2.2, Ch.ro 0 (Sl acode_0 code_0 ccode_0) code_0] := H
    refine st_g (v := (B (!r30))) (congrArg some hb29) (rv_not rfl) ?_
    refine st (v := (B (!r30))) (rv_pick_f (congrArg B hb29) rfl) ?_
    refine st (v := (B (!r30))) (rv_move rfl) ?_
    rcases Bool.eq_false_or_eq_true (!r30) with hb34 | hb34
    ·replace h := bif_t hb34 h
     refine st_skip (congrArg some hb34) ?_
     refine st_skip (congrArg some hb34) ?_
     refine st_skip (congrArg some hb34) ?_
     refine st (v := (B true)) (rv_pick_t (congrArg B hb34) rfl) ?_
     refine w_end ?_
     obtain rfl := Option.some.inj h
     exact ⟨rfl, _, σ33, fr_join ⟨rfl, rfl, rfl, rfl, trivial⟩, rfl, H.sel' [0, 4, 1] rfl rfl⟩
    ·replace h := bif_f hb34 h
     refine st_g (v := (Sl a7 r2.2 c8)) (congrArg some hb34) (rv_move rfl) ?_
     obtain ⟨r35, hx36, h'⟩ := bind_some h
     clear h
     have h := h'; clear h'
     have hc37 := c_impl_ValidStore (alist_0 := a7) (clist_0 := c8) hx36
     have hle := Nat.le_trans hn0 H.size
     refine st_call (cx_lend (Loan.lend Loan.nil) hc37 (ent_f hc37.fn rfl) (show Hp S0 σ0 _ ([Ch.own n0 n0 (Sl a7 r2.2 c8) r2.2] ++ ([] ++ [Ch.own n0 n0 (Sl a5 r2.1 c6) r2.1, Ch.own n0 n0 (Sl a13 r10 c14) r10, Ch.ro 0 (Sl a20 r17 c21) r17, Ch.ro n0 (Sl a20 r17 c21) r17, Ch.ro 0 (Sl acode_0 code_0 ccode_0) code_0])) from (H.sel' [4, 0, 1, 2, 3, 5] rfl rfl)) (by rintro _ _ _ ⟨rfl, rfl⟩; exact trivial)) (wanted_yes rfl (by exact (congrArg some hb34))) ?_
     rintro _ σ38 ⟨_, ⟨rfl, rfl⟩, H, -, -⟩
     replace H : Hp S0 σ0 σ38 [Ch.own n0 n0 (Sl a7 r2.2 c8) r2.2, Ch.own n0 n0 (Sl a5 r2.1 c6) r2.1, Ch.own n0 n0 (Sl a13 r10 c14) r10, Ch.ro 0 (Sl a20 r17 c21) r17, Ch.ro n0 (Sl a20 r17 c21) r17, Ch.ro 0 (Sl acode_0 code_0 ccode_0) code_0] := H
     clear hle
     replace H : Hp S0 σ0 σ38 [Ch.own n0 n0 (Sl a7 r2.2 c8) r2.2, Ch.own n0 n0 (Sl a5 r2.1 c6) r2.1, Ch.own n0 n0 (Sl a13 r10 c14) r10, Ch.ro 0 (Sl a20 r17 c21) r17, Ch.ro n0 (Sl a20 r17 c21) r17, Ch.ro 0 (Sl acode_0 code_0 ccode_0) code_0] := H
     refine st_g (v := (B (!r35))) (congrArg some hb34) (rv_not rfl) ?_
     refine st (v := (B (!r35))) (rv_pick_f (congrArg B hb34) rfl) ?_
     refine w_end ?_
     obtain rfl := Option.some.inj h
     exact ⟨rfl, _, σ38, fr_join ⟨rfl, rfl, rfl, rfl, trivial⟩, rfl, H.sel' [1, 0, 2] rfl rfl⟩
  ·clear hj
   have h := h'
   clear h' H
   rintro e a w ⟨rfl, ρ, σ39, rfl, rfl, H⟩
   refine q_then ?_
   refine cd_cond o16 rfl (fun hb40 => ?_) (fun hb40 => ?_)
   ·replace h := bif_t hb40 h
    refine c_seq ?_
    refine rg ?_
    refine st (v := (Sl a13 r10 c14)) (rv_move rfl) ?_
    refine st (v := (Sl a5 r2.1 c6)) (rv_move rfl) ?_
    refine st (v := (Sl a7 r2.2 c8)) (rv_move rfl) ?_
    obtain ⟨σ41, hw42, H, -⟩ := H.pub 0 rfl (Nat.le_refl _)
    rw [← hw42]; clear hw42
    obtain ⟨σ43, hw44, H, -⟩ := H.pub 1 rfl (Nat.le_refl _)
    rw [← hw44]; clear hw44
    replace H := H.roLow 1 0 rfl (Nat.zero_le _)
    replace H := H.roLow 1 0 rfl (Nat.zero_le _)
    obtain ⟨r45, hx46, h'⟩ := bind_some h
    clear h
    have h := h'; clear h'
    have hc47 := c_spec_LogBetween (aa_0 := a5) (ca_0 := c6) (ab_1 := a7) (cb_1 := c8) hx46
    refine st_call (cx_call hc47 (ent_f hc47.fn rfl) hn0 (show Hp S0 σ0 _ ([Ch.ro 0 (Sl a5 r2.1 c6) r2.1, Ch.ro 0 (Sl a7 r2.2 c8) r2.2] ++ [Ch.ro 0 (Sl a7 r2.2 c8) r2.2, Ch.ro 0 (Sl a5 r2.1 c6) r2.1, Ch.ro n0 (Sl a7 r2.2 c8) r2.2, Ch.ro n0 (Sl a5 r2.1 c6) r2.1, Ch.own n0 n0 (Sl a13 r10 c14) r10]) from (H.sel' [1, 0, 0, 1, 2, 3, 4] rfl rfl))) wn ?_
    rintro _ σ50 ⟨_, ⟨a48, c49, rfl, rfl⟩, H, -⟩
    replace H : Hp S0 σ0 σ50 [Ch.own n0 n0 (Sl a48 r45 c49) r45, Ch.ro 0 (Sl a7 r2.2 c8) r2.2, Ch.ro 0 (Sl a5 r2.1 c6) r2.1, Ch.ro n0 (Sl a7 r2.2 c8) r2.2, Ch.ro n0 (Sl a5 r2.1 c6) r2.1, Ch.own n0 n0 (Sl a13 r10 c14) r10] := H
    obtain ⟨σ51, hw52, H, -⟩ := H.pub 5 rfl (Nat.le_refl _)
    rw [← hw52]; clear hw52
    obtain ⟨σ53, hw54, H, -⟩ := H.pub 1 rfl (Nat.le_refl _)
    rw [← hw54]; clear hw54
    replace H := H.roLow 1 0 rfl (Nat.zero_le _)
    replace H := H.roLow 1 0 rfl (Nat.zero_le _)
    obtain ⟨r55, hx56, h'⟩ := bind_some h
    clear h
    have h := h'; clear h'
    have hc57 := c_laws_equalEntries (aa_0 := a13) (ca_0 := c14) (ab_1 := a48) (cb_1 := c49) hx56
    refine st_call (cx_call hc57 (ent_f hc57.fn rfl) hn0 (show Hp S0 σ0 _ ([Ch.ro 0 (Sl a13 r10 c14) r10, Ch.ro 0 (Sl a48 r45 c49) r45] ++ [Ch.ro 0 (Sl a48 r45 c49) r45, Ch.ro 0 (Sl a13 r10 c14) r10, Ch.ro n0 (Sl a48 r45 c49) r45, Ch.ro n0 (Sl a13 r10 c14) r10, Ch.ro 0 (Sl a7 r2.2 c8) r2.2, Ch.ro 0 (Sl a5 r2.1 c6) r2.1, Ch.ro n0 (Sl a7 r2.2 c8) r2.2, Ch.ro n0 (Sl a5 r2.1 c6) r2.1]) from (H.sel' [1, 0, 0, 1, 2, 3, 4, 5, 6, 7] rfl rfl))) wn ?_
    rintro _ σ58 ⟨_, ⟨rfl, rfl⟩, H, -⟩
    replace H : Hp S0 σ0 σ58 [Ch.ro 0 (Sl a48 r45 c49) r45, Ch.ro 0 (Sl a13 r10 c14) r10, Ch.ro n0 (Sl a48 r45 c49) r45, Ch.ro n0 (Sl a13 r10 c14) r10, Ch.ro 0 (Sl a7 r2.2 c8) r2.2, Ch.ro 0 (Sl a5 r2.1 c6) r2.1, Ch.ro n0 (Sl a7 r2.2 c8) r2.2, Ch.ro n0 (Sl a5 r2.1 c6) r2.1] := H
    replace H : Hp S0 σ0 σ58 [] := H.sel' [] rfl rfl
    refine st (v := (B r55)) (rv_assign rfl) ?_
    refine w_end ?_
    refine q_then ?_
    refine c_ret ?_
    refine q_then_r ?_
    obtain rfl := Option.some.inj h
    exact fin_ret (v := (B r55)) (results_ok Try.results10 (res_tmp (v := (B r55)) rfl res_nil) rfl) ⟨rfl, rfl⟩ (H.sel' [] rfl rfl)
   ·replace h := bif_f hb40 h
    refine c_skip ?_
    refine q_then ?_
    refine c_seq ?_
    refine rg ?_
    refine st (v := (Sl a7 r2.2 c8)) (rv_move rfl) ?_
    refine st (v := (Sl a5 r2.1 c6)) (rv_move rfl) ?_
    obtain ⟨σ59, hw60, H, -⟩ := H.pub 1 rfl (Nat.le_refl _)
    rw [← hw60]; clear hw60
    replace H := H.roLow 0 0 rfl (Nat.zero_le _)
    obtain ⟨r61, hx62, h'⟩ := bind_some h
    clear h
    have h := h'; clear h'
    have hc63 := c_impl_LogBetween (aa_0 := a7) (ca_0 := c8) (ab_1 := a5) (cb_1 := c6) hx62
    have hle := Nat.le_trans hn0 H.size
    refine st_call (cx_lend (Loan.same (Loan.lend Loan.nil)) hc63 (ent_f hc63.fn rfl) (show Hp S0 σ0 _ ([Ch.own n0 n0 (Sl a5 r2.1 c6) r2.1] ++ ([Ch.ro 0 (Sl a7 r2.2 c8) r2.2] ++ [Ch.ro 0 (Sl a7 r2.2 c8) r2.2, Ch.ro n0 (Sl a7 r2.2 c8) r2.2, Ch.own n0 n0 (Sl a13 r10 c14) r10])) from (H.sel' [2, 0, 0, 1, 3] rfl rfl)) (by rintro _ _ _ ⟨_, _, rfl, rfl⟩; exact ⟨Ab.own (Nat.le_refl _), trivial⟩)) wn ?_
    rintro _ σ66 ⟨_, ⟨a64, c65, rfl, rfl⟩, H, -, -⟩
    replace H : Hp S0 σ0 σ66 [Ch.own σ59.size σ59.size (Sl a64 r61 c65) r61, Ch.own n0 n0 (Sl a5 r2.1 c6) r2.1, Ch.ro 0 (Sl a7 r2.2 c8) r2.2, Ch.ro n0 (Sl a7 r2.2 c8) r2.2, Ch.own n0 n0 (Sl a13 r10 c14) r10] := H
    replace H := H.ownLow 0 n0 n0 rfl hle hle
    clear hle
    replace H : Hp S0 σ0 σ66 [Ch.own n0 n0 (Sl a64 r61 c65) r61, Ch.own n0 n0 (Sl a5 r2.1 c6) r2.1, Ch.ro 0 (Sl a7 r2.2 c8) r2.2, Ch.ro n0 (Sl a7 r2.2 c8) r2.2, Ch.own n0 n0 (Sl a13 r10 c14) r10] := H
    refine st (v := (Sl a64 r61 c65)) (rv_assign rfl) ?_
    refine w_end ?_
    refine q_then ?_
    refine c_seq ?_
    refine rg ?_
    refine st (v := (Sl a5 r2.1 c6)) (rv_move rfl) ?_
    refine st (v := (Sl a5 r2.1 c6)) (rv_move rfl) ?_
    obtain ⟨σ67, hw68, H, -⟩ := H.pub 1 rfl (Nat.le_refl _)
    rw [← hw68]; clear hw68
    replace H := H.roLow 0 0 rfl (Nat.zero_le _)
    replace H := H.roLow 1 0 rfl (Nat.zero_le _)
    obtain ⟨r69, hx70, h'⟩ := bind_some h
    clear h
    have h := h'; clear h'
    have hc71 := c_impl_LogBetween (aa_0 := a5) (ca_0 := c6) (ab_1 := a5) (cb_1 := c6) hx70
    refine st_call (cx_call hc71 (ent_f hc71.fn rfl) hn0 (show Hp S0 σ0 _ ([Ch.ro 0 (Sl a5 r2.1 c6) r2.1, Ch.ro 0 (Sl a5 r2.1 c6) r2.1] ++ [Ch.ro 0 (Sl a5 r2.1 c6) r2.1, Ch.ro 0 (Sl a5 r2.1 c6) r2.1, Ch.ro n0 (Sl a5 r2.1 c6) r2.1, Ch.own n0 n0 (Sl a64 r61 c65) r61, Ch.ro 0 (Sl a7 r2.2 c8) r2.2, Ch.ro n0 (Sl a7 r2.2 c8) r2.2, Ch.own n0 n0 (Sl a13 r10 c14) r10]) from (H.sel' [0, 0, 0, 1, 2, 3, 4, 5, 6] rfl rfl))) wn ?_
    rintro _ σ74 ⟨_, ⟨a72, c73, rfl, rfl⟩, H, -⟩
    replace H : Hp S0 σ0 σ74 [Ch.own n0 n0 (Sl a72 r69 c73) r69, Ch.ro 0 (Sl a5 r2.1 c6) r2.1, Ch.ro 0 (Sl a5 r2.1 c6) r2.1, Ch.ro n0 (Sl a5 r2.1 c6) r2.1, Ch.own n0 n0 (Sl a64 r61 c65) r61, Ch.ro 0 (Sl a7 r2.2 c8) r2.2, Ch.ro n0 (Sl a7 r2.2 c8) r2.2, Ch.own n0 n0 (Sl a13 r10 c14) r10] := H
    replace H : Hp S0 σ0 σ74 [Ch.own n0 n0 (Sl a72 r69 c73) r69, Ch.own n0 n0 (Sl a64 r61 c65) r61, Ch.own n0 n0 (Sl a13 r10 c14) r10] := H.sel' [0, 4, 7] rfl rfl
    refine st (v := (I (r69.length : Int))) (rv_len Try.underlying23 rfl) ?_
    refine st (v := (B ((r69.length : Int) == 0))) (rv_eql (a := (r69.length : Int)) (b := 0) rfl rfl) ?_
    refine st (v := (B ((r69.length : Int) == 0))) (rv_move rfl) ?_
    rcases Bool.eq_false_or_eq_true ((r69.length : Int) == 0) with hb75 | hb75
    ·replace h := bif_t hb75 h
     refine st_g (v := (Sl a13 r10 c14)) (congrArg some hb75) (rv_move rfl) ?_
     obtain ⟨r76, hx77, h'⟩ := bind_some h
     clear h
     have h := h'; clear h'
     have hc78 := c_impl_ShortLog (alog_0 := a13) (clog_0 := c14) hx77
     have hle := Nat.le_trans hn0 H.size
     refine st_call (cx_lend (Loan.lend Loan.nil) hc78 (ent_f hc78.fn rfl) (show Hp S0 σ0 _ ([Ch.own n0 n0 (Sl a13 r10 c14) r10] ++ ([] ++ [Ch.own n0 n0 (Sl a72 r69 c73) r69, Ch.own n0 n0 (Sl a64 r61 c65) r61])) from (H.sel' [2, 0, 1] rfl rfl)) (by rintro _ _ _ ⟨_, _, rfl, rfl⟩; exact ⟨Ab.own (Nat.le_refl _), trivial⟩)) (wanted_yes rfl (by exact (congrArg some hb75))) ?_
     rintro _ σ81 ⟨_, ⟨a79, c80, rfl, rfl⟩, H, -, -⟩
     replace H : Hp S0 σ0 σ81 [Ch.own σ74.size σ74.size (Sl a79 r76 c80) r76, Ch.own n0 n0 (Sl a13 r10 c14) r10, Ch.own n0 n0 (Sl a72 r69 c73) r69, Ch.own n0 n0 (Sl a64 r61 c65) r61] := H
     replace H := H.ownLow 0 n0 n0 rfl hle hle
     clear hle
     replace H : Hp S0 σ0 σ81 [Ch.own n0 n0 (Sl a79 r76 c80) r76, Ch.own n0 n0 (Sl a13 r10 c14) r10, Ch.own n0 n0 (Sl a72 r69 c73) r69, Ch.own n0 n0 (Sl a64 r61 c65) r61] := H
     refine st_g (v := (I (r76.length : Int))) (congrArg some hb75) (rv_len Try.underlying23 rfl) ?_
     refine st_g (v := (Sl a13 r10 c14)) (congrArg some hb75) (rv_move rfl) ?_
     refine st_g (v := (I (r10.length : Int))) (congrArg some hb75) (rv_len Try.underlying23 rfl) ?_
     refine st_g (v := (B ((r76.length : Int) == (r10.length : Int)))) (congrArg some hb75) (rv_eql (a := (r76.length : Int)) (b := (r10.length : Int)) rfl rfl) ?_
     refine st (v := (B ((r76.length : Int) == (r10.length : Int)))) (rv_pick_t (congrArg B hb75) rfl) ?_
     refine st (v := (B ((r76.length : Int) == (r10.length : Int)))) (rv_move rfl) ?_
     rcases Bool.eq_false_or_eq_true ((r76.length : Int) == (r10.length : Int)) with hb82 | hb82
     ·replace h := bif_t hb82 h
      refine st_g (v := (Sl a64 r61 c65)) (congrArg some hb82) (rv_move rfl) ?_
      refine st_g (v := (I (r61.length : Int))) (congrArg some hb82) (rv_len Try.underlying23 rfl) ?_
      refine st_g (v := (Sl a13 r10 c14)) (congrArg some hb82) (rv_move rfl) ?_
      refine st_g (v := (I (r10.length : Int))) (congrArg some hb82) (rv_len Try.underlying23 rfl) ?_
      refine st_g (v := (B ((r61.length : Int) == (r10.length : Int)))) (congrArg some hb82) (rv_eql (a := (r61.length : Int)) (b := (r10.length : Int)) rfl rfl) ?_
      refine st (v := (B ((r61.length : Int) == (r10.length : Int)))) (rv_pick_t (congrArg B hb82) rfl) ?_
      refine st (v := (B ((r61.length : Int) == (r10.length : Int)))) (rv_assign rfl) ?_
      refine w_end ?_
      refine q_then ?_
      refine c_ret ?_
      obtain rfl := Option.some.inj h
      exact fin_ret (v := (B ((r61.length : Int) == (r10.length : Int)))) (results_ok Try.results10 (res_tmp (v := (B ((r61.length : Int) == (r10.length : Int)))) rfl res_nil) rfl) ⟨rfl, rfl⟩ (H.sel' [] rfl rfl)
     ·replace h := bif_f hb82 h
      refine st_skip (congrArg some hb82) ?_
      refine st_skip (congrArg some hb82) ?_
      refine st_skip (congrArg some hb82) ?_
      refine st_skip (congrArg some hb82) ?_
      refine st_skip (congrArg some hb82) ?_
      refine st (v := (B false)) (rv_pick_f (congrArg B hb82) rfl) ?_
      refine st (v := (B false)) (rv_assign rfl) ?_
      refine w_end ?_
      refine q_then ?_
      refine c_ret ?_
      obtain rfl := Option.some.inj h
      exact fin_ret (v := (B false)) (results_ok Try.results10 (res_tmp (v := (B false)) rfl res_nil) rfl) ⟨rfl, rfl⟩ (H.sel' [] rfl rfl)
    ·replace h := bif_f hb75 h
     refine st_skip (congrArg some hb75) ?_
     refine st_skip (congrArg some hb75) ?_
     refine st_skip (congrArg some hb75) ?_
     refine st_skip (congrArg some hb75) ?_
     refine st_skip (congrArg some hb75) ?_
     refine st_skip (congrArg some hb75) ?_
     refine st (v := (B false)) (rv_pick_f (congrArg B hb75) rfl) ?_
     refine st (v := (B false)) (rv_move rfl) ?_
     refine st_skip rfl ?_
     refine st_skip rfl ?_
     refine st_skip rfl ?_
     refine st_skip rfl ?_
     refine st_skip rfl ?_
     refine st (v := (B false)) (rv_pick_f rfl rfl) ?_
     refine st (v := (B false)) (rv_assign rfl) ?_
     refine w_end ?_
     refine q_then ?_
     refine c_ret ?_
     obtain rfl := Option.some.inj h
     exact fin_ret (v := (B false)) (results_ok Try.results10 (res_tmp (v := (B false)) rfl res_nil) rfl) ⟨rfl, rfl⟩ (H.sel' [] rfl rfl)

end Go.Vs
