/- The functions compute what their models say. -/
import Derived.Test.YtpccmkphddipdabKLogBetweenEmptyC3
set_option linter.unusedVariables false
set_option linter.unusedSimpArgs false
set_option maxRecDepth 20000
namespace Go.Vs
open Go Go.Proofs
attribute [local irreducible] Code.wp Code.wpIn wpList wpListIn wpQuiet Calls CallsIn

theorem c_spec_sameItem {a_0 : Int × (List Int) × Int} {b_1 : Int × (List Int) × Int} {aa_0_1 : Option Addr} {ca_0_1 : Nat} {ab_1_1 : Option Addr} {cb_1_1 : Nat} {r : Bool} (h : M.spec_sameItem a_0 b_1 = some r) :
    Cal2 Try.prog 73 [(.agg #[(I a_0.1), (Sl aa_0_1 a_0.2.1 ca_0_1), (I a_0.2.2)]), (.agg #[(I b_1.1), (Sl ab_1_1 b_1.2.1 cb_1_1), (I b_1.2.2)])] [Ch.ro 0 (Sl aa_0_1 a_0.2.1 ca_0_1) a_0.2.1, Ch.ro 0 (Sl ab_1_1 b_1.2.1 cb_1_1) b_1.2.1] (fun n0 v L => v = (B r) ∧ L = []) := by
 refine cal2 (n := 25) Try.func73 rfl rfl rfl rfl ?_
 intro S0 σ0 n0 hn0 H
 unfold M.spec_sameItem at h
 refine c_seq ?_
 refine rg ?_
 refine st_ex (ex_box (cs := [(I a_0.1), (Sl aa_0_1 a_0.2.1 ca_0_1), (I a_0.2.2)]) H hn0 rfl rfl) wn ?_
 rintro _ σ2 ⟨b1, rfl, H, -⟩
 refine st_ex (ex_box (cs := [(I b_1.1), (Sl ab_1_1 b_1.2.1 cb_1_1), (I b_1.2.2)]) H hn0 rfl rfl) wn ?_
 rintro _ σ4 ⟨b3, rfl, H, -⟩
 refine st (v := (B false)) (rv_assign rfl) ?_
 refine w_end ?_
 refine q_then ?_
 refine c_seq ?_
 refine rg ?_
 refine st (v := (pt b1 0)) (rv_fieldAddr (off := 0) (ft := 3) Try.underlying32 rfl ti3 rfl rfl) ?_
 have hc5 := H.cell (u := (I a_0.1)) (o' := 0) 1 0 rfl rfl rfl
 refine st (v := (I a_0.1)) (rv_load1 Try.underlying3 rfl rfl hc5) ?_
 refine st (v := (pt b3 0)) (rv_fieldAddr (off := 0) (ft := 3) Try.underlying32 rfl ti3 rfl rfl) ?_
 have hc6 := H.cell (u := (I b_1.1)) (o' := 0) 0 0 rfl rfl rfl
 refine st (v := (I b_1.1)) (rv_load1 Try.underlying3 rfl rfl hc6) ?_
 refine st (v := (B (a_0.1 == b_1.1))) (rv_eql (a := a_0.1) (b := b_1.1) rfl rfl) ?_
 refine st (v := (B (a_0.1 == b_1.1))) (rv_move rfl) ?_
 rcases Bool.eq_false_or_eq_true (a_0.1 == b_1.1) with hb7 | hb7
 ·replace h := bif_t hb7 h
  refine st_g (v := (pt b1 2)) (congrArg some hb7) (rv_fieldAddr (off := 2) (ft := 3) Try.underlying32 rfl ti3 rfl rfl) ?_
  have hc8 := H.cell (u := (I a_0.2.2)) (o' := 2) 1 2 rfl rfl rfl
  refine st_g (v := (I a_0.2.2)) (congrArg some hb7) (rv_load1 Try.underlying3 rfl rfl hc8) ?_
  refine st_g (v := (pt b3 2)) (congrArg some hb7) (rv_fieldAddr (off := 2) (ft := 3) Try.underlying32 rfl ti3 rfl rfl) ?_
  have hc9 := H.cell (u := (I b_1.2.2)) (o' := 2) 0 2 rfl rfl rfl
  refine st_g (v := (I b_1.2.2)) (congrArg some hb7) (rv_load1 Try.underlying3 rfl rfl hc9) ?_
  refine st_g (v := (B (a_0.2.2 == b_1.2.2))) (congrArg some hb7) (rv_eql (a := a_0.2.2) (b := b_1.2.2) rfl rfl) ?_
  refine st (v := (B (a_0.2.2 == b_1.2.2))) (rv_pick_t (congrArg B hb7) rfl) ?_
  refine st (v := (B (a_0.2.2 == b_1.2.2))) (rv_move rfl) ?_
  rcases Bool.eq_false_or_eq_true (a_0.2.2 == b_1.2.2) with hb10 | hb10
  ·replace h := bif_t hb10 h
   refine st_g (v := (pt b1 1)) (congrArg some hb10) (rv_fieldAddr (off := 1) (ft := 26) Try.underlying32 rfl ti26 rfl rfl) ?_
   have hc11 := H.cell (u := (Sl aa_0_1 a_0.2.1 ca_0_1)) (o' := 1) 1 1 rfl rfl rfl
   refine st_g (v := (Sl aa_0_1 a_0.2.1 ca_0_1)) (congrArg some hb10) (rv_load1 Try.underlying26 rfl rfl hc11) ?_
   refine st_g (v := (pt b3 1)) (congrArg some hb10) (rv_fieldAddr (off := 1) (ft := 26) Try.underlying32 rfl ti26 rfl rfl) ?_
   have hc12 := H.cell (u := (Sl ab_1_1 b_1.2.1 cb_1_1)) (o' := 1) 0 1 rfl rfl rfl
   refine st_g (v := (Sl ab_1_1 b_1.2.1 cb_1_1)) (congrArg some hb10) (rv_load1 Try.underlying26 rfl rfl hc12) ?_
   obtain ⟨r13, hx14, h'⟩ := bind_some h
   clear h
   have h := h'; clear h'
   have hc15 := c_spec_dist (aa_1 := aa_0_1) (ca_1 := ca_0_1) (ab_2 := ab_1_1) (cb_2 := cb_1_1) hx14
   refine st_call (cx_call hc15 (ent_f hc15.fn rfl) hn0 (show Hp S0 σ0 _ ([Ch.ro 0 (Sl aa_0_1 a_0.2.1 ca_0_1) a_0.2.1, Ch.ro 0 (Sl ab_1_1 b_1.2.1 cb_1_1) b_1.2.1] ++ [Ch.bx n0 b3 0 [(I b_1.1), (Sl ab_1_1 b_1.2.1 cb_1_1), (I b_1.2.2)] [] [], Ch.bx n0 b1 0 [(I a_0.1), (Sl aa_0_1 a_0.2.1 ca_0_1), (I a_0.2.2)] [] [], Ch.ro 0 (Sl aa_0_1 a_0.2.1 ca_0_1) a_0.2.1, Ch.ro 0 (Sl ab_1_1 b_1.2.1 cb_1_1) b_1.2.1]) from (H.sel' [2, 3, 0, 1, 2, 3] rfl rfl))) (wanted_yes rfl (by exact (congrArg some hb10))) ?_
   rintro _ σ16 ⟨_, ⟨rfl, rfl⟩, H, -⟩
   replace H : Hp S0 σ0 σ16 [Ch.bx n0 b3 0 [(I b_1.1), (Sl ab_1_1 b_1.2.1 cb_1_1), (I b_1.2.2)] [] [], Ch.bx n0 b1 0 [(I a_0.1), (Sl aa_0_1 a_0.2.1 ca_0_1), (I a_0.2.2)] [] [], Ch.ro 0 (Sl aa_0_1 a_0.2.1 ca_0_1) a_0.2.1, Ch.ro 0 (Sl ab_1_1 b_1.2.1 cb_1_1) b_1.2.1] := H
   refine st_g (v := (B (r13 == 0))) (congrArg some hb10) (rv_eql (a := r13) (b := 0) rfl rfl) ?_
   refine st (v := (B (r13 == 0))) (rv_pick_t (congrArg B hb10) rfl) ?_
   refine st (v := (B (r13 == 0))) (rv_assign rfl) ?_
   refine w_end ?_
   refine q_then ?_
   refine c_ret ?_
   obtain rfl := Option.some.inj h
   exact fin_ret (v := (B (r13 == 0))) (results_ok Try.results73 (res_tmp (v := (B (r13 == 0))) rfl res_nil) rfl) ⟨rfl, rfl⟩ (H.sel' [] rfl rfl)
  ·replace h := bif_f hb10 h
   refine st_skip (congrArg some hb10) ?_
   refine st_skip (congrArg some hb10) ?_
   refine st_skip (congrArg some hb10) ?_
   refine st_skip (congrArg some hb10) ?_
   refine st_skip (congrArg some hb10) ?_
   refine st_skip (congrArg some hb10) ?_
   refine st (v := (B false)) (rv_pick_f (congrArg B hb10) rfl) ?_
   refine st (v := (B false)) (rv_assign rfl) ?_
   refine w_end ?_
   refine q_then ?_
   refine c_ret ?_
   obtain rfl := Option.some.inj h
   exact fin_ret (v := (B false)) (results_ok Try.results73 (res_tmp (v := (B false)) rfl res_nil) rfl) ⟨rfl, rfl⟩ (H.sel' [] rfl rfl)
 ·replace h := bif_f hb7 h
  refine st_skip (congrArg some hb7) ?_
  refine st_skip (congrArg some hb7) ?_
  refine st_skip (congrArg some hb7) ?_
  refine st_skip (congrArg some hb7) ?_
  refine st_skip (congrArg some hb7) ?_
  refine st (v := (B false)) (rv_pick_f (congrArg B hb7) rfl) ?_
  refine st (v := (B false)) (rv_move rfl) ?_
  refine st_skip rfl ?_
  refine st_skip rfl ?_
  refine st_skip rfl ?_
  refine st_skip rfl ?_
  refine st_skip rfl ?_
  refine st_skip rfl ?_
  refine st (v := (B false)) (rv_pick_f rfl rfl) ?_
  refine st (v := (B false)) (rv_assign rfl) ?_
  refine w_end ?_
  refine q_then ?_
  refine c_ret ?_
  obtain rfl := Option.some.inj h
  exact fin_ret (v := (B false)) (results_ok Try.results73 (res_tmp (v := (B false)) rfl res_nil) rfl) ⟨rfl, rfl⟩ (H.sel' [] rfl rfl)

theorem c_spec_LogBetween {a_0 : List (Int × (List Int) × Int)} {b_1 : List (Int × (List Int) × Int)} {aa_0 : Option Addr} {ca_0 : Nat} {ab_1 : Option Addr} {cb_1 : Nat} {r : (List (Int × (Int × (List Int) × Int)))} (h : M.spec_LogBetween a_0 b_1 = some r) :
    Cal2 Try.prog 30 [(Sl aa_0 a_0 ca_0), (Sl ab_1 b_1 cb_1)] [Ch.ro 0 (Sl aa_0 a_0 ca_0) a_0, Ch.ro 0 (Sl ab_1 b_1 cb_1) b_1] (fun n0 v L => ∃ (az1 : Option Addr), ∃ (cz2 : Nat), v = (Sl az1 r cz2) ∧ L = [Ch.own n0 n0 (Sl az1 r cz2) r]) := by
 refine cal2 (n := 80) Try.func30 rfl rfl rfl rfl ?_
 intro S0 σ0 n0 hn0 H
 unfold M.spec_LogBetween at h
 refine c_seq ?_
 refine rg ?_
 refine st (v := (.slice none 0 0)) (rv_assign rfl) ?_
 refine w_end ?_
 refine q_then ?_
 refine c_seq ?_
 refine rg ?_
 refine st_ex (ex_buildSlice (el := n0) (xs := ([] : List (Int × (Int × (List Int) × Int)))) (ps := []) (cs := []) H hn0 Try.underlying35 ti42 rfl rfl (by kernel_rfl) (.nil) rfl) wn ?_
 rintro _ σ2 ⟨b1, rfl, H, -⟩
 refine st (v := (Sl (some ⟨b1, 0, none⟩) ([] : List (Int × (Int × (List Int) × Int))) 0)) (rv_assign rfl) ?_
 refine w_end ?_
 refine q_then ?_
 refine c_seq ?_
 refine c_seq ?_
 obtain ⟨o3, hj, h'⟩ := bind_some h
 clear h
 refine c_cut (fun e a w => e = .normal ∧ ∃ (ρ : Nat → Value) (σ : St), a = fr 80 (updL ρ [(0, (Sl aa_0 a_0 ca_0)), (1, (Sl ab_1 b_1 cb_1)), (5, (Sl (some ⟨b1, 0, none⟩) ([] : List (Int × (Int × (List Int) × Int))) 0)), (17, (B o3))]) ∧ w = σ.w ∧ Hp S0 σ0 σ [Ch.ro 0 (Sl aa_0 a_0 ca_0) a_0, Ch.ro 0 (Sl ab_1 b_1 cb_1) b_1, Ch.own n0 n0 (Sl (some ⟨b1, 0, none⟩) ([] : List (Int × (Int × (List Int) × Int))) 0) ([] : List (Int × (Int × (List Int) × Int)))]) ?_ ?_
 ·clear h'
  rename _ = some o3 => h
  refine rg ?_
  refine st (v := (Sl aa_0 a_0 ca_0)) (rv_move rfl) ?_
  obtain ⟨r4, hx5, h'⟩ := bind_some h
  clear h
  have h := h'; clear h'
  have hc6 := c_spec_validStore (alist_0 := aa_0) (clist_0 := ca_0) hx5
  refine st_call (cx_call hc6 (ent_f hc6.fn rfl) hn0 (show Hp S0 σ0 _ ([Ch.ro 0 (Sl aa_0 a_0 ca_0) a_0] ++ [Ch.own n0 n0 (Sl (some ⟨b1, 0, none⟩) ([] : List (Int × (Int × (List Int) × Int))) 0) ([] : List (Int × (Int × (List Int) × Int))), Ch.ro 0 (Sl aa_0 a_0 ca_0) a_0, Ch.ro 0 (Sl ab_1 b_1 cb_1) b_1]) from (H.sel' [1, 0, 1, 2] rfl rfl))) wn ?_
  rintro _ σ7 ⟨_, ⟨rfl, rfl⟩, H, -⟩
  replace H : Hp S0 σ0 σ7 [Ch.own n0 n0 (Sl (some ⟨b1, 0, none⟩) ([] : List (Int × (Int × (List Int) × Int))) 0) ([] : List (Int × (Int × (List Int) × Int))), Ch.ro 0 (Sl aa_0 a_0 ca_0) a_0, Ch.ro 0 (Sl ab_1 b_1 cb_1) b_1] := H
  refine st (v := (B (!r4))) (rv_not rfl) ?_
  refine st (v := (B (!r4))) (rv_move rfl) ?_
  rcases Bool.eq_false_or_eq_true (!r4) with hb8 | hb8
  ·replace h := bif_t hb8 h
   refine st_skip (congrArg some hb8) ?_
   refine st_skip (congrArg some hb8) ?_
   refine st_skip (congrArg some hb8) ?_
   refine st (v := (B true)) (rv_pick_t (congrArg B hb8) rfl) ?_
   refine w_end ?_
   obtain rfl := Option.some.inj h
   exact ⟨rfl, _, σ7, fr_join ⟨rfl, rfl, rfl, rfl, trivial⟩, rfl, H.sel' [1, 2, 0] rfl rfl⟩
  ·replace h := bif_f hb8 h
   refine st_g (v := (Sl ab_1 b_1 cb_1)) (congrArg some hb8) (rv_move rfl) ?_
   obtain ⟨r9, hx10, h'⟩ := bind_some h
   clear h
   have h := h'; clear h'
   have hc11 := c_spec_validStore (alist_0 := ab_1) (clist_0 := cb_1) hx10
   refine st_call (cx_call hc11 (ent_f hc11.fn rfl) hn0 (show Hp S0 σ0 _ ([Ch.ro 0 (Sl ab_1 b_1 cb_1) b_1] ++ [Ch.own n0 n0 (Sl (some ⟨b1, 0, none⟩) ([] : List (Int × (Int × (List Int) × Int))) 0) ([] : List (Int × (Int × (List Int) × Int))), Ch.ro 0 (Sl aa_0 a_0 ca_0) a_0, Ch.ro 0 (Sl ab_1 b_1 cb_1) b_1]) from (H.sel' [2, 0, 1, 2] rfl rfl))) (wanted_yes rfl (by exact (congrArg some hb8))) ?_
   rintro _ σ12 ⟨_, ⟨rfl, rfl⟩, H, -⟩
   replace H : Hp S0 σ0 σ12 [Ch.own n0 n0 (Sl (some ⟨b1, 0, none⟩) ([] : List (Int × (Int × (List Int) × Int))) 0) ([] : List (Int × (Int × (List Int) × Int))), Ch.ro 0 (Sl aa_0 a_0 ca_0) a_0, Ch.ro 0 (Sl ab_1 b_1 cb_1) b_1] := H
   refine st_g (v := (B (!r9))) (congrArg some hb8) (rv_not rfl) ?_
   refine st (v := (B (!r9))) (rv_pick_f (congrArg B hb8) rfl) ?_
   refine w_end ?_
   obtain rfl := Option.some.inj h
   exact ⟨rfl, _, σ12, fr_join ⟨rfl, rfl, rfl, rfl, trivial⟩, rfl, H.sel' [1, 2, 0] rfl rfl⟩
 ·clear hj
  have h := h'
  clear h' H
  rintro e a w ⟨rfl, ρ, σ13, rfl, rfl, H⟩
  refine q_then ?_
  refine cd_cond o3 rfl (fun hb14 => ?_) (fun hb14 => ?_)
  ·replace h := bif_t hb14 h
   refine c_seq ?_
   refine rg ?_
   refine st (v := (.slice none 0 0)) (rv_assign rfl) ?_
   refine w_end ?_
   refine q_then ?_
   refine c_ret ?_
   refine q_then_r ?_
   replace H := H.nilOwn (Int × (Int × (List Int) × Int)) n0 n0
   obtain rfl := Option.some.inj h
   exact fin_ret (v := (.slice none 0 0)) (results_ok Try.results30 (res_tmp (v := (.slice none 0 0)) rfl res_nil) rfl) ⟨none, 0, rfl, rfl⟩ (H.sel' [0] rfl rfl)
  ·replace h := bif_f hb14 h
   refine c_skip ?_
   refine q_then ?_
   refine c_seq ?_
   refine c_seq ?_
   refine rg ?_
   refine st (v := (I 0)) (rv_assign rfl) ?_
   refine w_end ?_
   refine q_then ?_
   obtain ⟨o15, hj, h'⟩ := bind_some h
   clear h
   refine c_cut (fun e a w => e = .normal ∧ ∃ (ρ : Nat → Value) (σ : St) (aj1 : Option Addr) (cj2 : Nat), a = fr 80 (updL ρ [(0, (Sl aa_0 a_0 ca_0)), (1, (Sl ab_1 b_1 cb_1)), (5, (Sl aj1 o15 cj2))]) ∧ w = σ.w ∧ Hp S0 σ0 σ [Ch.ro 0 (Sl aa_0 a_0 ca_0) a_0, Ch.ro 0 (Sl ab_1 b_1 cb_1) b_1, Ch.own n0 n0 (Sl aj1 o15 cj2) o15]) ?_ ?_
   ·clear h'
    rename _ = some o15 => h
    refine c_blk ?_
    refine wp_loopM _ h (fun s16 a w => ∃ (ρ : Nat → Value) (σ : St) (aj1 : Option Addr) (cj2 : Nat), a = fr 80 (updL ρ [(0, (Sl aa_0 a_0 ca_0)), (1, (Sl ab_1 b_1 cb_1)), (5, (Sl aj1 s16.1 cj2)), (6, (I s16.2))]) ∧ w = σ.w ∧ Hp S0 σ0 σ [Ch.ro 0 (Sl aa_0 a_0 ca_0) a_0, Ch.ro 0 (Sl ab_1 b_1 cb_1) b_1, Ch.own n0 n0 (Sl aj1 s16.1 cj2) s16.1]) ⟨_, σ13, (some ⟨b1, 0, none⟩), 0, fr_join ⟨rfl, rfl, rfl, rfl, trivial⟩, rfl, H.sel' [0, 1, 2] rfl rfl⟩ ?_
    clear h H
    rintro s16 a w o ⟨ρ, σ17, a18, c19, rfl, rfl, H⟩ h hres
    refine c_seq ?_
    refine c_seq ?_
    refine rg ?_
    refine st (v := (I s16.2)) (rv_move rfl) ?_
    refine st (v := (Sl aa_0 a_0 ca_0)) (rv_move rfl) ?_
    refine st (v := (I (a_0.length : Int))) (rv_len Try.underlying23 rfl) ?_
    refine st (v := (B (decide (s16.2 < (a_0.length : Int))))) (rv_lss (a := s16.2) (b := (a_0.length : Int)) rfl rfl) ?_
    refine w_end ?_
    refine q_then ?_
    refine cd_cond (decide (s16.2 < (a_0.length : Int))) rfl (fun hb20 => ?_) (fun hb20 => ?_)
    ·replace h := bif_t hb20 h
     refine c_skip ?_
     refine q_then ?_
     refine c_seq ?_
     obtain ⟨o21, hj, h'⟩ := bind_some h
     clear h
     refine c_cut (fun e a w => e = .normal ∧ ∃ (ρ : Nat → Value) (σ : St) (aj1 : Option Addr) (cj2 : Nat), a = fr 80 (updL ρ [(0, (Sl aa_0 a_0 ca_0)), (1, (Sl ab_1 b_1 cb_1)), (5, (Sl aj1 o21 cj2)), (6, (I s16.2))]) ∧ w = σ.w ∧ Hp S0 σ0 σ [Ch.ro 0 (Sl aa_0 a_0 ca_0) a_0, Ch.ro 0 (Sl ab_1 b_1 cb_1) b_1, Ch.own n0 n0 (Sl aj1 o21 cj2) o21]) ?_ ?_
     ·clear h'
      rename _ = some o21 => h
      refine c_blk ?_
      refine c_seq ?_
      refine rg ?_
      refine st (v := (Sl ab_1 b_1 cb_1)) (rv_move rfl) ?_
      refine st (v := (Sl aa_0 a_0 ca_0)) (rv_move rfl) ?_
      refine st (v := (I s16.2)) (rv_move rfl) ?_
      obtain ⟨x22, hx23, h'⟩ := bind_some h
      clear h
      have h := h'; clear h'
      obtain ⟨b25, o26, hi24, -⟩ := (H.ro 0 rfl).ix hx23
      refine st (v := (pt b25 o26)) (rv_ix Try.underlying23 ti32 rfl rfl hi24) ?_
      refine st (v := (pt b25 (o26 + 0))) (rv_fieldAddr (off := 0) (ft := 3) Try.underlying32 rfl ti3 rfl rfl) ?_
      have hc27 := ((H.ro 0 rfl).at hx23 hi24).fst.int
      refine st (v := (I x22.1)) (rv_load1 Try.underlying3 rfl rfl hc27) ?_
      obtain ⟨r28, hx29, h'⟩ := bind_some h
      clear h
      have h := h'; clear h'
      have hc30 := c_spec_keyAt (alist_0 := ab_1) (clist_0 := cb_1) hx29
      refine st_call (cx_call hc30 (ent_f hc30.fn rfl) hn0 (show Hp S0 σ0 _ ([Ch.ro 0 (Sl ab_1 b_1 cb_1) b_1] ++ [Ch.ro 0 (Sl aa_0 a_0 ca_0) a_0, Ch.ro 0 (Sl ab_1 b_1 cb_1) b_1, Ch.own n0 n0 (Sl a18 s16.1 c19) s16.1]) from (H.sel' [1, 0, 1, 2] rfl rfl))) wn ?_
      rintro _ σ31 ⟨_, ⟨rfl, rfl⟩, H, -⟩
      replace H : Hp S0 σ0 σ31 [Ch.ro 0 (Sl aa_0 a_0 ca_0) a_0, Ch.ro 0 (Sl ab_1 b_1 cb_1) b_1, Ch.own n0 n0 (Sl a18 s16.1 c19) s16.1] := H
      refine st (v := (B (decide (r28 < 0)))) (rv_lss (a := r28) (b := 0) rfl rfl) ?_
      refine w_end ?_
      refine q_then ?_
      refine cd_cond (decide (r28 < 0)) rfl (fun hb32 => ?_) (fun hb32 => ?_)
      ·replace h := bif_t hb32 h
       refine rg ?_
       refine st (v := (Sl a18 s16.1 c19)) (rv_move rfl) ?_
       refine st (v := (Sl aa_0 a_0 ca_0)) (rv_move rfl) ?_
       refine st (v := (I s16.2)) (rv_move rfl) ?_
       obtain ⟨x33, hx34, h'⟩ := bind_some h
       clear h
       have h := h'; clear h'
       obtain ⟨b36, o37, hi35, -⟩ := (H.ro 0 rfl).ix hx34
       refine st (v := (pt b36 o37)) (rv_ix Try.underlying23 ti32 rfl rfl hi35) ?_
       refine st (v := (pt b36 (o37 + 0))) (rv_fieldAddr (off := 0) (ft := 3) Try.underlying32 rfl ti3 rfl rfl) ?_
       have hc38 := ((H.ro 0 rfl).at hx34 hi35).fst.int
       refine st (v := (I x33.1)) (rv_load1 Try.underlying3 rfl rfl hc38) ?_
       refine st_ex (ex_buildSlice (el := n0) (xs := ([] : List Int)) (ps := []) (cs := []) H hn0 Try.underlying26 ti3 rfl rfl (by kernel_rfl) (.nil) rfl) wn ?_
       rintro _ σ40 ⟨b39, rfl, H, -⟩
       refine st (v := (.agg #[(I x33.1), (Sl (some ⟨b39, 0, none⟩) ([] : List Int) 0), (I 0)])) (rv_build (ps := [(0, (I x33.1)), (1, (Sl (some ⟨b39, 0, none⟩) ([] : List Int) 0))]) Try.underlying32 ti32 (bp32 Try.underlying32) rfl (by kernel_rfl)) ?_
       refine st (v := (.agg #[(I 2), (I x33.1), (Sl (some ⟨b39, 0, none⟩) ([] : List Int) 0), (I 0)])) (rv_build (ps := [(0, (I 2)), (1, (.agg #[(I x33.1), (Sl (some ⟨b39, 0, none⟩) ([] : List Int) 0), (I 0)]))]) Try.underlying42 ti42 (bp42 Try.underlying42) rfl (by kernel_rfl)) ?_
       obtain ⟨σ41, hw42, H, -⟩ := H.pub 0 rfl (Nat.le_refl _)
       rw [← hw42]; clear hw42
       refine st_ex (ex_buildSlice (el := n0) (xs := ([(2, (x33.1, ([] : List Int), 0))] : List (Int × (Int × (List Int) × Int)))) (ps := [(0, (.agg #[(I 2), (I x33.1), (Sl (some ⟨b39, 0, none⟩) ([] : List Int) 0), (I 0)]))]) (cs := [(I 2), (I x33.1), (Sl (some ⟨b39, 0, none⟩) ([] : List Int) 0), (I 0)]) H hn0 Try.underlying35 ti42 rfl rfl (by kernel_rfl) (.cons (c := [(I 2), (I x33.1), (Sl (some ⟨b39, 0, none⟩) ([] : List Int) 0), (I 0)]) ⟨[(I 2)], [(I x33.1), (Sl (some ⟨b39, 0, none⟩) ([] : List Int) 0), (I 0)], rfl, rfl, ⟨[(I x33.1)], [(Sl (some ⟨b39, 0, none⟩) ([] : List Int) 0), (I 0)], rfl, rfl, ⟨[(Sl (some ⟨b39, 0, none⟩) ([] : List Int) 0)], [(I 0)], rfl, ⟨_, rfl, (H.ro 0 rfl)⟩, rfl⟩⟩⟩ (.nil)) rfl) wn ?_
       rintro _ σ44 ⟨b43, rfl, H, -⟩
       obtain ⟨xs45, hx46, h'⟩ := bind_some h
       clear h
       have h := h'; clear h'
       refine st_ex (ex_append H (i := 4) rfl Try.underlying35 Try.underlying35 ti42 rfl rfl (by decide) (H.own 0 rfl).rd hx46 hn0 rfl rfl) wn ?_
       rintro _ σ49 ⟨a47, c48, rfl, H, -⟩
       refine st (v := (Sl a47 xs45 c48)) (rv_assign rfl) ?_
       refine w_end ?_
       refine q_blk ?_
       obtain rfl := Option.some.inj h
       exact ⟨rfl, _, σ49, a47, c48, fr_join ⟨rfl, rfl, rfl, rfl, trivial⟩, rfl, H.sel' [3, 4, 0] rfl rfl⟩
      ·replace h := bif_f hb32 h
       refine c_skip ?_
       refine q_blk ?_
       obtain rfl := Option.some.inj h
       exact ⟨rfl, _, σ31, a18, c19, fr_join ⟨rfl, rfl, rfl, rfl, trivial⟩, rfl, H.sel' [0, 1, 2] rfl rfl⟩
     ·clear hj
      have h := h'
      clear h' H
      rintro e a w ⟨rfl, ρ, σ50, a51, c52, rfl, rfl, H⟩
      refine q_then ?_
      refine rg ?_
      refine st (v := (I s16.2)) (rv_move rfl) ?_
      refine st (v := (I (w64 (s16.2 + 1)))) (rv_add (a := s16.2) (b := 1) rfl rfl) ?_
      refine st (v := (I (w64 (s16.2 + 1)))) (rv_assign rfl) ?_
      refine w_end ?_
      refine q_then ?_
      obtain rfl := Option.some.inj h
      exact ⟨_, rfl, _, σ50, a51, c52, fr_join ⟨rfl, rfl, rfl, rfl, trivial⟩, rfl, H.sel' [0, 1, 2] rfl rfl⟩
    ·replace h := bif_f hb20 h
     refine c_exit ?_
     refine q_then_x ?_
     refine q_then_x ?_
     refine q_blk_hit ?_
     obtain rfl := Option.some.inj h
     obtain rfl := hres _ rfl
     exact ⟨rfl, _, σ17, a18, c19, fr_join ⟨rfl, rfl, rfl, trivial⟩, rfl, H.sel' [0, 1, 2] rfl rfl⟩
   ·clear hj
    have h := h'
    clear h' H
    rintro e a w ⟨rfl, ρ, σ53, a54, c55, rfl, rfl, H⟩
    refine q_then ?_
    refine c_seq ?_
    refine c_seq ?_
    refine rg ?_
    refine st (v := (I 0)) (rv_assign rfl) ?_
    refine w_end ?_
    refine q_then ?_
    obtain ⟨o56, hj, h'⟩ := bind_some h
    clear h
    refine c_cut (fun e a w => e = .normal ∧ ∃ (ρ : Nat → Value) (σ : St) (aj1 : Option Addr) (cj2 : Nat), a = fr 80 (updL ρ [(5, (Sl aj1 o56 cj2))]) ∧ w = σ.w ∧ Hp S0 σ0 σ [Ch.own n0 n0 (Sl aj1 o56 cj2) o56]) ?_ ?_
    ·clear h'
     rename _ = some o56 => h
     refine c_blk ?_
     refine wp_loopM _ h (fun s57 a w => ∃ (ρ : Nat → Value) (σ : St) (aj1 : Option Addr) (cj2 : Nat), a = fr 80 (updL ρ [(0, (Sl aa_0 a_0 ca_0)), (1, (Sl ab_1 b_1 cb_1)), (5, (Sl aj1 s57.1 cj2)), (7, (I s57.2))]) ∧ w = σ.w ∧ Hp S0 σ0 σ [Ch.ro 0 (Sl aa_0 a_0 ca_0) a_0, Ch.ro 0 (Sl ab_1 b_1 cb_1) b_1, Ch.own n0 n0 (Sl aj1 s57.1 cj2) s57.1]) ⟨_, σ53, a54, c55, fr_join ⟨rfl, rfl, rfl, rfl, trivial⟩, rfl, H.sel' [0, 1, 2] rfl rfl⟩ ?_
     clear h H
     rintro s57 a w o ⟨ρ, σ58, a59, c60, rfl, rfl, H⟩ h hres
     refine c_seq ?_
     refine c_seq ?_
     refine rg ?_
     refine st (v := (I s57.2)) (rv_move rfl) ?_
     refine st (v := (Sl ab_1 b_1 cb_1)) (rv_move rfl) ?_
     refine st (v := (I (b_1.length : Int))) (rv_len Try.underlying23 rfl) ?_
     refine st (v := (B (decide (s57.2 < (b_1.length : Int))))) (rv_lss (a := s57.2) (b := (b_1.length : Int)) rfl rfl) ?_
     refine w_end ?_
     refine q_then ?_
     refine cd_cond (decide (s57.2 < (b_1.length : Int))) rfl (fun hb61 => ?_) (fun hb61 => ?_)
     ·replace h := bif_t hb61 h
      refine c_skip ?_
      refine q_then ?_
      refine c_seq ?_
      obtain ⟨o62, hj, h'⟩ := bind_some h
      clear h
      refine c_cut (fun e a w => e = .normal ∧ ∃ (ρ : Nat → Value) (σ : St) (aj1 : Option Addr) (cj2 : Nat), a = fr 80 (updL ρ [(0, (Sl aa_0 a_0 ca_0)), (1, (Sl ab_1 b_1 cb_1)), (5, (Sl aj1 o62 cj2)), (7, (I s57.2))]) ∧ w = σ.w ∧ Hp S0 σ0 σ [Ch.ro 0 (Sl aa_0 a_0 ca_0) a_0, Ch.ro 0 (Sl ab_1 b_1 cb_1) b_1, Ch.own n0 n0 (Sl aj1 o62 cj2) o62]) ?_ ?_
      ·clear h'
       rename _ = some o62 => h
       refine c_blk ?_
       refine c_seq ?_
       refine rg ?_
       refine st (v := (Sl aa_0 a_0 ca_0)) (rv_move rfl) ?_
       refine st (v := (Sl ab_1 b_1 cb_1)) (rv_move rfl) ?_
       refine st (v := (I s57.2)) (rv_move rfl) ?_
       obtain ⟨x63, hx64, h'⟩ := bind_some h
       clear h
       have h := h'; clear h'
       obtain ⟨b66, o67, hi65, -⟩ := (H.ro 1 rfl).ix hx64
       refine st (v := (pt b66 o67)) (rv_ix Try.underlying23 ti32 rfl rfl hi65) ?_
       refine st (v := (pt b66 (o67 + 0))) (rv_fieldAddr (off := 0) (ft := 3) Try.underlying32 rfl ti3 rfl rfl) ?_
       have hc68 := ((H.ro 1 rfl).at hx64 hi65).fst.int
       refine st (v := (I x63.1)) (rv_load1 Try.underlying3 rfl rfl hc68) ?_
       obtain ⟨r69, hx70, h'⟩ := bind_some h
       clear h
       have h := h'; clear h'
       have hc71 := c_spec_keyAt (alist_0 := aa_0) (clist_0 := ca_0) hx70
       refine st_call (cx_call hc71 (ent_f hc71.fn rfl) hn0 (show Hp S0 σ0 _ ([Ch.ro 0 (Sl aa_0 a_0 ca_0) a_0] ++ [Ch.ro 0 (Sl aa_0 a_0 ca_0) a_0, Ch.ro 0 (Sl ab_1 b_1 cb_1) b_1, Ch.own n0 n0 (Sl a59 s57.1 c60) s57.1]) from (H.sel' [0, 0, 1, 2] rfl rfl))) wn ?_
       rintro _ σ72 ⟨_, ⟨rfl, rfl⟩, H, -⟩
       replace H : Hp S0 σ0 σ72 [Ch.ro 0 (Sl aa_0 a_0 ca_0) a_0, Ch.ro 0 (Sl ab_1 b_1 cb_1) b_1, Ch.own n0 n0 (Sl a59 s57.1 c60) s57.1] := H
       refine st (v := (I r69)) (rv_assign rfl) ?_
       refine w_end ?_
       refine q_then ?_
       refine c_seq ?_
       obtain ⟨o73, hj, h'⟩ := bind_some h
       clear h
       refine c_cut (fun e a w => e = .normal ∧ ∃ (ρ : Nat → Value) (σ : St), a = fr 80 (updL ρ [(0, (Sl aa_0 a_0 ca_0)), (1, (Sl ab_1 b_1 cb_1)), (5, (Sl a59 s57.1 c60)), (7, (I s57.2)), (69, (B o73))]) ∧ w = σ.w ∧ Hp S0 σ0 σ [Ch.ro 0 (Sl aa_0 a_0 ca_0) a_0, Ch.ro 0 (Sl ab_1 b_1 cb_1) b_1, Ch.own n0 n0 (Sl a59 s57.1 c60) s57.1]) ?_ ?_
       ·clear h'
        rename _ = some o73 => h
        refine rgP (σ := σ72) 11 (by kernel_rfl) (by kernel_rfl) (by kernel_rfl) ?_
        refine sq (v := (I r69)) (rv_move rfl) ?_
        refine sq (v := (B (decide (r69 < 0)))) (rv_lss (a := r69) (b := 0) rfl rfl) ?_
        refine sq (v := (B (decide (r69 < 0)))) (rv_move rfl) ?_
        rcases Bool.eq_false_or_eq_true (decide (r69 < 0)) with hb74 | hb74
        ·replace h := bif_t hb74 h
         refine sq_skip (congrArg some hb74) ?_
         refine sq_skip (congrArg some hb74) ?_
         refine sq_skip (congrArg some hb74) ?_
         refine sq_skip (congrArg some hb74) ?_
         refine sq_skip (congrArg some hb74) ?_
         refine sq_skip (congrArg some hb74) ?_
         refine sq_skip (congrArg some hb74) ?_
         refine sq_skip (congrArg some hb74) ?_
         refine sq_end ?_
         intro σ75 hm76
         replace H := H.grow (hm76.mono fun _ h => h); clear hm76
         refine st_skip (congrArg some hb74) ?_
         refine st_skip (congrArg some hb74) ?_
         refine st (v := (B true)) (rv_pick_t (congrArg B hb74) rfl) ?_
         refine w_end ?_
         obtain rfl := Option.some.inj h
         exact ⟨rfl, _, σ75, fr_join ⟨rfl, rfl, rfl, rfl, rfl, trivial⟩, rfl, H.sel' [0, 1, 2] rfl rfl⟩
        ·replace h := bif_f hb74 h
         refine sq_g (v := (Sl aa_0 a_0 ca_0)) (congrArg some hb74) (rv_move rfl) ?_
         refine sq_g (v := (I r69)) (congrArg some hb74) (rv_move rfl) ?_
         obtain ⟨x77, hx78, h'⟩ := bind_some h
         clear h
         have h := h'; clear h'
         obtain ⟨b80, o81, hi79, -⟩ := (H.ro 0 rfl).ix hx78
         refine sq_g (v := (pt b80 o81)) (congrArg some hb74) (rv_ix Try.underlying23 ti32 rfl rfl hi79) ?_
         obtain ⟨_, ⟨_, _, rfl, rfl, ⟨_, _, rfl, ⟨_, rfl, hR86⟩, rfl⟩⟩, hl82, hc83⟩ := ((H.ro 0 rfl).at hx78 hi79).cells
         obtain ⟨a84, c85, rfl⟩ := hR86.isSl
         replace H := H.add (d := Ch.ro 0 (Sl a84 x77.2.1 c85) x77.2.1) hR86 (fun _ h => h)
         clear hR86
         refine sq_g (v := (.agg #[(I x77.1), (Sl a84 x77.2.1 c85), (I x77.2.2)])) (congrArg some hb74) (rv_load Try.underlying32 rfl ti32 rfl hl82 hc83) ?_
         refine sq_g (v := (Sl ab_1 b_1 cb_1)) (congrArg some hb74) (rv_move rfl) ?_
         refine sq_g (v := (I s57.2)) (congrArg some hb74) (rv_move rfl) ?_
         obtain ⟨x87, hx88, h'⟩ := bind_some h
         clear h
         have h := h'; clear h'
         obtain ⟨b90, o91, hi89, -⟩ := (H.ro 2 rfl).ix hx88
         refine sq_g (v := (pt b90 o91)) (congrArg some hb74) (rv_ix Try.underlying23 ti32 rfl rfl hi89) ?_
         obtain ⟨_, ⟨_, _, rfl, rfl, ⟨_, _, rfl, ⟨_, rfl, hR96⟩, rfl⟩⟩, hl92, hc93⟩ := ((H.ro 2 rfl).at hx88 hi89).cells
         obtain ⟨a94, c95, rfl⟩ := hR96.isSl
         replace H := H.add (d := Ch.ro 0 (Sl a94 x87.2.1 c95) x87.2.1) hR96 (fun _ h => h)
         clear hR96
         refine sq_g (v := (.agg #[(I x87.1), (Sl a94 x87.2.1 c95), (I x87.2.2)])) (congrArg some hb74) (rv_load Try.underlying32 rfl ti32 rfl hl92 hc93) ?_
         refine sq_end ?_
         intro σ97 hm98
         replace H := H.grow (hm98.mono fun _ h => h); clear hm98
         obtain ⟨r99, hx100, h'⟩ := bind_some h
         clear h
         have h := h'; clear h'
         have hc101 := c_spec_sameItem (aa_0_1 := a84) (ca_0_1 := c85) (ab_1_1 := a94) (cb_1_1 := c95) hx100
         refine st_call (cx_call hc101 (ent_f hc101.fn rfl) hn0 (show Hp S0 σ0 _ ([Ch.ro 0 (Sl a84 x77.2.1 c85) x77.2.1, Ch.ro 0 (Sl a94 x87.2.1 c95) x87.2.1] ++ [Ch.ro 0 (Sl a94 x87.2.1 c95) x87.2.1, Ch.ro 0 (Sl a84 x77.2.1 c85) x77.2.1, Ch.ro 0 (Sl aa_0 a_0 ca_0) a_0, Ch.ro 0 (Sl ab_1 b_1 cb_1) b_1, Ch.own n0 n0 (Sl a59 s57.1 c60) s57.1]) from (H.sel' [1, 0, 0, 1, 2, 3, 4] rfl rfl))) (wanted_yes rfl (by exact (congrArg some hb74))) ?_
         rintro _ σ102 ⟨_, ⟨rfl, rfl⟩, H, -⟩
         replace H : Hp S0 σ0 σ102 [Ch.ro 0 (Sl a94 x87.2.1 c95) x87.2.1, Ch.ro 0 (Sl a84 x77.2.1 c85) x77.2.1, Ch.ro 0 (Sl aa_0 a_0 ca_0) a_0, Ch.ro 0 (Sl ab_1 b_1 cb_1) b_1, Ch.own n0 n0 (Sl a59 s57.1 c60) s57.1] := H
         refine st_g (v := (B (!r99))) (congrArg some hb74) (rv_not rfl) ?_
         refine st (v := (B (!r99))) (rv_pick_f (congrArg B hb74) rfl) ?_
         refine w_end ?_
         obtain rfl := Option.some.inj h
         exact ⟨rfl, _, σ102, fr_join ⟨rfl, rfl, rfl, rfl, rfl, trivial⟩, rfl, H.sel' [2, 3, 4] rfl rfl⟩
       ·clear hj
        have h := h'
        clear h' H
        rintro e a w ⟨rfl, ρ, σ103, rfl, rfl, H⟩
        refine q_then ?_
        refine cd_cond o73 rfl (fun hb104 => ?_) (fun hb104 => ?_)
        ·replace h := bif_t hb104 h
         refine rg ?_
         refine st (v := (Sl a59 s57.1 c60)) (rv_move rfl) ?_
         refine st (v := (Sl ab_1 b_1 cb_1)) (rv_move rfl) ?_
         refine st (v := (I s57.2)) (rv_move rfl) ?_
         obtain ⟨x105, hx106, h'⟩ := bind_some h
         clear h
         have h := h'; clear h'
         obtain ⟨b108, o109, hi107, -⟩ := (H.ro 1 rfl).ix hx106
         refine st (v := (pt b108 o109)) (rv_ix Try.underlying23 ti32 rfl rfl hi107) ?_
         obtain ⟨_, ⟨_, _, rfl, rfl, ⟨_, _, rfl, ⟨_, rfl, hR114⟩, rfl⟩⟩, hl110, hc111⟩ := ((H.ro 1 rfl).at hx106 hi107).cells
         obtain ⟨a112, c113, rfl⟩ := hR114.isSl
         replace H := H.add (d := Ch.ro 0 (Sl a112 x105.2.1 c113) x105.2.1) hR114 (fun _ h => h)
         clear hR114
         refine st (v := (.agg #[(I x105.1), (Sl a112 x105.2.1 c113), (I x105.2.2)])) (rv_load Try.underlying32 rfl ti32 rfl hl110 hc111) ?_
         obtain ⟨r115, hx116, h'⟩ := bind_some h
         clear h
         have h := h'; clear h'
         have hc117 := c_spec_copyItem (ax_0_1 := a112) (cx_0_1 := c113) hx116
         refine st_call (cx_call hc117 (ent_f hc117.fn rfl) hn0 (show Hp S0 σ0 _ ([Ch.ro 0 (Sl a112 x105.2.1 c113) x105.2.1] ++ [Ch.ro 0 (Sl a112 x105.2.1 c113) x105.2.1, Ch.ro 0 (Sl aa_0 a_0 ca_0) a_0, Ch.ro 0 (Sl ab_1 b_1 cb_1) b_1, Ch.own n0 n0 (Sl a59 s57.1 c60) s57.1]) from (H.sel' [0, 0, 1, 2, 3] rfl rfl))) wn ?_
         rintro _ σ120 ⟨_, ⟨a118, c119, rfl, rfl⟩, H, -⟩
         replace H : Hp S0 σ0 σ120 [Ch.own n0 n0 (Sl a118 r115.2.1 c119) r115.2.1, Ch.ro 0 (Sl a112 x105.2.1 c113) x105.2.1, Ch.ro 0 (Sl aa_0 a_0 ca_0) a_0, Ch.ro 0 (Sl ab_1 b_1 cb_1) b_1, Ch.own n0 n0 (Sl a59 s57.1 c60) s57.1] := H
         refine st (v := (.agg #[(I 1), (I r115.1), (Sl a118 r115.2.1 c119), (I r115.2.2)])) (rv_build (ps := [(0, (I 1)), (1, (.agg #[(I r115.1), (Sl a118 r115.2.1 c119), (I r115.2.2)]))]) Try.underlying42 ti42 (bp42 Try.underlying42) rfl (by kernel_rfl)) ?_
         obtain ⟨σ121, hw122, H, -⟩ := H.pub 0 rfl (Nat.le_refl _)
         rw [← hw122]; clear hw122
         refine st_ex (ex_buildSlice (el := n0) (xs := ([(1, (r115.1, r115.2.1, r115.2.2))] : List (Int × (Int × (List Int) × Int)))) (ps := [(0, (.agg #[(I 1), (I r115.1), (Sl a118 r115.2.1 c119), (I r115.2.2)]))]) (cs := [(I 1), (I r115.1), (Sl a118 r115.2.1 c119), (I r115.2.2)]) H hn0 Try.underlying35 ti42 rfl rfl (by kernel_rfl) (.cons (c := [(I 1), (I r115.1), (Sl a118 r115.2.1 c119), (I r115.2.2)]) ⟨[(I 1)], [(I r115.1), (Sl a118 r115.2.1 c119), (I r115.2.2)], rfl, rfl, ⟨[(I r115.1)], [(Sl a118 r115.2.1 c119), (I r115.2.2)], rfl, rfl, ⟨[(Sl a118 r115.2.1 c119)], [(I r115.2.2)], rfl, ⟨_, rfl, (H.ro 0 rfl)⟩, rfl⟩⟩⟩ (.nil)) rfl) wn ?_
         rintro _ σ124 ⟨b123, rfl, H, -⟩
         obtain ⟨xs125, hx126, h'⟩ := bind_some h
         clear h
         have h := h'; clear h'
         refine st_ex (ex_append H (i := 5) rfl Try.underlying35 Try.underlying35 ti42 rfl rfl (by decide) (H.own 0 rfl).rd hx126 hn0 rfl rfl) wn ?_
         rintro _ σ129 ⟨a127, c128, rfl, H, -⟩
         refine st (v := (Sl a127 xs125 c128)) (rv_assign rfl) ?_
         refine w_end ?_
         refine q_blk ?_
         obtain rfl := Option.some.inj h
         exact ⟨rfl, _, σ129, a127, c128, fr_join ⟨rfl, rfl, rfl, rfl, trivial⟩, rfl, H.sel' [4, 5, 0] rfl rfl⟩
        ·replace h := bif_f hb104 h
         refine c_skip ?_
         refine q_blk ?_
         obtain rfl := Option.some.inj h
         exact ⟨rfl, _, σ103, a59, c60, fr_join ⟨rfl, rfl, rfl, rfl, trivial⟩, rfl, H.sel' [0, 1, 2] rfl rfl⟩
      ·clear hj
       have h := h'
       clear h' H
       rintro e a w ⟨rfl, ρ, σ130, a131, c132, rfl, rfl, H⟩
       refine q_then ?_
       refine rg ?_
       refine st (v := (I s57.2)) (rv_move rfl) ?_
       refine st (v := (I (w64 (s57.2 + 1)))) (rv_add (a := s57.2) (b := 1) rfl rfl) ?_
       refine st (v := (I (w64 (s57.2 + 1)))) (rv_assign rfl) ?_
       refine w_end ?_
       refine q_then ?_
       obtain rfl := Option.some.inj h
       exact ⟨_, rfl, _, σ130, a131, c132, fr_join ⟨rfl, rfl, rfl, rfl, trivial⟩, rfl, H.sel' [0, 1, 2] rfl rfl⟩
     ·replace h := bif_f hb61 h
      refine c_exit ?_
      refine q_then_x ?_
      refine q_then_x ?_
      refine q_blk_hit ?_
      obtain rfl := Option.some.inj h
      obtain rfl := hres _ rfl
      exact ⟨rfl, _, σ58, a59, c60, fr_join ⟨rfl, trivial⟩, rfl, H.sel' [2] rfl rfl⟩
    ·clear hj
     have h := h'
     clear h' H
     rintro e a w ⟨rfl, ρ, σ133, a134, c135, rfl, rfl, H⟩
     refine q_then ?_
     refine c_seq ?_
     refine rg ?_
     refine st (v := (Sl a134 o56 c135)) (rv_move rfl) ?_
     refine st (v := (Sl a134 o56 c135)) (rv_assign rfl) ?_
     refine w_end ?_
     refine q_then ?_
     refine c_ret ?_
     obtain rfl := Option.some.inj h
     exact fin_ret (v := (Sl a134 o56 c135)) (results_ok Try.results30 (res_tmp (v := (Sl a134 o56 c135)) rfl res_nil) rfl) ⟨a134, c135, rfl, rfl⟩ (H.sel' [0] rfl rfl)

end Go.Vs
