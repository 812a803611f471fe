/- The functions compute what their models say. -/
import Derived.Test.YtgokepoinohioacKBoundsOfPutC2
set_option linter.unusedVariables false
set_option linter.unusedSimpArgs false
set_option maxRecDepth 20000
namespace Go.Vs
open Go Go.Proofs
attribute [local irreducible] Code.wp Code.wpIn wpList wpListIn wpQuiet Calls CallsIn

theorem c_laws_equalInts {a_0 : List Int} {b_1 : List Int} {aa_0 : Option Addr} {ca_0 : Nat} {ab_1 : Option Addr} {cb_1 : Nat} {r : Bool} (h : M.laws_equalInts a_0 b_1 = some r) :
    Cal2 Try.prog 55 [(Sl aa_0 a_0 ca_0), (Sl ab_1 b_1 cb_1)] [Ch.ro 0 (Sl aa_0 a_0 ca_0) a_0, Ch.ro 0 (Sl ab_1 b_1 cb_1) b_1] (fun n0 v L => v = (B r) ∧ L = []) := by
 refine cal2 (n := 26) Try.func55 rfl rfl rfl rfl ?_
 intro S0 σ0 n0 hn0 H
 unfold M.laws_equalInts at h
 refine c_seq ?_
 refine rg ?_
 refine st (v := (B false)) (rv_assign rfl) ?_
 refine w_end ?_
 refine q_then ?_
 refine c_seq ?_
 refine c_seq ?_
 refine rg ?_
 refine st (v := (Sl aa_0 a_0 ca_0)) (rv_move rfl) ?_
 refine st (v := (I (a_0.length : Int))) (rv_len Try.underlying24 rfl) ?_
 refine st (v := (Sl ab_1 b_1 cb_1)) (rv_move rfl) ?_
 refine st (v := (I (b_1.length : Int))) (rv_len Try.underlying24 rfl) ?_
 refine st (v := (B ((a_0.length : Int) != (b_1.length : Int)))) (rv_neq (a := (a_0.length : Int)) (b := (b_1.length : Int)) rfl rfl) ?_
 refine w_end ?_
 refine q_then ?_
 refine cd_cond ((a_0.length : Int) != (b_1.length : Int)) rfl (fun hb1 => ?_) (fun hb1 => ?_)
 ·replace h := bif_t hb1 h
  refine c_seq ?_
  refine rg ?_
  refine st (v := (B false)) (rv_assign rfl) ?_
  refine w_end ?_
  refine q_then ?_
  refine c_ret ?_
  refine q_then_r ?_
  obtain rfl := Option.some.inj h
  exact fin_ret (v := (B false)) (results_ok Try.results55 (res_tmp (v := (B false)) rfl res_nil) rfl) ⟨rfl, rfl⟩ (H.sel' [] rfl rfl)
 ·replace h := bif_f hb1 h
  refine c_skip ?_
  refine q_then ?_
  refine c_seq ?_
  refine c_seq ?_
  refine rg ?_
  refine st (v := (I 0)) (rv_assign rfl) ?_
  refine w_end ?_
  refine q_then ?_
  obtain ⟨o2, hj, h'⟩ := bind_some h
  clear h
  refine c_cut (fun e a w => (∃ t, o2 = (.inl t) ∧ e = .normal ∧ ∃ (ρ : Nat → Value) (σ : St), a = fr 26 (updL ρ []) ∧ w = σ.w ∧ Hp S0 σ0 σ []) ∨ (∃ t, o2 = (.inr t) ∧ e = .ret ∧ ∃ (ρ : Nat → Value) (σ : St), a = fr 26 (updL ρ [(4, (B t))]) ∧ w = σ.w ∧ Hp S0 σ0 σ [])) ?_ ?_
  ·clear h'
   rename _ = some o2 => h
   refine c_blk ?_
   refine wp_loopM _ h (fun s3 a w => ∃ (ρ : Nat → Value) (σ : St), a = fr 26 (updL ρ [(0, (Sl aa_0 a_0 ca_0)), (1, (Sl ab_1 b_1 cb_1)), (5, (I s3))]) ∧ w = σ.w ∧ Hp S0 σ0 σ [Ch.ro 0 (Sl aa_0 a_0 ca_0) a_0, Ch.ro 0 (Sl ab_1 b_1 cb_1) b_1]) ⟨_, σ0, fr_join ⟨rfl, rfl, rfl, trivial⟩, rfl, H.sel' [0, 1] rfl rfl⟩ ?_
   clear h H
   rintro s3 a w o ⟨ρ, σ4, rfl, rfl, H⟩ h hres
   refine c_seq ?_
   refine c_seq ?_
   refine rg ?_
   refine st (v := (I s3)) (rv_move rfl) ?_
   refine st (v := (Sl aa_0 a_0 ca_0)) (rv_move rfl) ?_
   refine st (v := (I (a_0.length : Int))) (rv_len Try.underlying24 rfl) ?_
   refine st (v := (B (decide (s3 < (a_0.length : Int))))) (rv_lss (a := s3) (b := (a_0.length : Int)) rfl rfl) ?_
   refine w_end ?_
   refine q_then ?_
   refine cd_cond (decide (s3 < (a_0.length : Int))) rfl (fun hb5 => ?_) (fun hb5 => ?_)
   ·replace h := bif_t hb5 h
    refine c_skip ?_
    refine q_then ?_
    refine c_seq ?_
    refine c_blk ?_
    refine c_seq ?_
    refine rgP (σ := σ4) 8 (by kernel_rfl) (by kernel_rfl) (by kernel_rfl) ?_
    refine sq (v := (Sl aa_0 a_0 ca_0)) (rv_move rfl) ?_
    refine sq (v := (I s3)) (rv_move rfl) ?_
    obtain ⟨x6, hx7, h'⟩ := bind_some h
    clear h
    have h := h'; clear h'
    obtain ⟨b9, o10, hi8, -⟩ := (H.ro 0 rfl).ix hx7
    refine sq (v := (pt b9 o10)) (rv_ix Try.underlying24 ti3 rfl rfl hi8) ?_
    have hc11 := ((H.ro 0 rfl).at hx7 hi8).int
    refine sq (v := (I x6)) (rv_load1 Try.underlying3 rfl rfl hc11) ?_
    refine sq (v := (Sl ab_1 b_1 cb_1)) (rv_move rfl) ?_
    refine sq (v := (I s3)) (rv_move rfl) ?_
    obtain ⟨x12, hx13, h'⟩ := bind_some h
    clear h
    have h := h'; clear h'
    obtain ⟨b15, o16, hi14, -⟩ := (H.ro 1 rfl).ix hx13
    refine sq (v := (pt b15 o16)) (rv_ix Try.underlying24 ti3 rfl rfl hi14) ?_
    have hc17 := ((H.ro 1 rfl).at hx13 hi14).int
    refine sq (v := (I x12)) (rv_load1 Try.underlying3 rfl rfl hc17) ?_
    refine sq_end ?_
    intro σ18 hm19
    replace H := H.grow (hm19.mono fun _ h => h); clear hm19
    refine st (v := (B (x6 != x12))) (rv_neq (a := x6) (b := x12) rfl rfl) ?_
    refine w_end ?_
    refine q_then ?_
    refine cd_cond (x6 != x12) rfl (fun hb20 => ?_) (fun hb20 => ?_)
    ·replace h := bif_t hb20 h
     refine c_seq ?_
     refine rg ?_
     refine st (v := (B false)) (rv_assign rfl) ?_
     refine w_end ?_
     refine q_then ?_
     refine c_ret ?_
     refine q_blk_r ?_
     refine q_then_r ?_
     refine q_then_r ?_
     refine q_blk_r ?_
     obtain rfl := Option.some.inj h
     obtain rfl := hres _ rfl
     exact .inr (⟨_, rfl, rfl, _, σ18, fr_join ⟨rfl, trivial⟩, rfl, H.sel' [] rfl rfl⟩)
    ·replace h := bif_f hb20 h
     refine c_skip ?_
     refine q_blk ?_
     refine q_then ?_
     refine rg ?_
     refine st (v := (I s3)) (rv_move rfl) ?_
     refine st (v := (I (w64 (s3 + 1)))) (rv_add (a := s3) (b := 1) rfl rfl) ?_
     refine st (v := (I (w64 (s3 + 1)))) (rv_assign rfl) ?_
     refine w_end ?_
     refine q_then ?_
     obtain rfl := Option.some.inj h
     exact ⟨_, rfl, _, σ18, fr_join ⟨rfl, rfl, rfl, trivial⟩, rfl, H.sel' [0, 1] rfl rfl⟩
   ·replace h := bif_f hb5 h
    refine c_exit ?_
    refine q_then_x ?_
    refine q_then_x ?_
    refine q_blk_hit ?_
    obtain rfl := Option.some.inj h
    obtain rfl := hres _ rfl
    exact .inl ⟨_, rfl, rfl, _, σ4, fr_join trivial, rfl, H.sel' [] rfl rfl⟩
  ·clear hj
   have h := h'
   clear h' H
   rintro e a w (⟨t21, rfl, rfl, ρ, σ22, rfl, rfl, H⟩ | ⟨t23, rfl, rfl, ρ, σ24, rfl, rfl, H⟩)
   ·replace h := selim_l h
    refine q_then ?_
    refine c_seq ?_
    refine rg ?_
    refine st (v := (B true)) (rv_assign rfl) ?_
    refine w_end ?_
    refine q_then ?_
    refine c_ret ?_
    obtain rfl := Option.some.inj h
    exact fin_ret (v := (B true)) (results_ok Try.results55 (res_tmp (v := (B true)) rfl res_nil) rfl) ⟨rfl, rfl⟩ (H.sel' [] rfl rfl)
   ·replace h := selim_r h
    refine q_then_r ?_
    obtain rfl := Option.some.inj h
    exact fin_ret (v := (B t23)) (results_ok Try.results55 (res_tmp (v := (B t23)) rfl res_nil) rfl) ⟨rfl, rfl⟩ (H.sel' [] rfl rfl)

theorem c_laws_equalItems {a_0 : List (Int × (List Int) × Int)} {b_1 : List (Int × (List Int) × Int)} {aa_0 : Option Addr} {ca_0 : Nat} {ab_1 : Option Addr} {cb_1 : Nat} {r : Bool} (h : M.laws_equalItems a_0 b_1 = some r) :
    Cal2 Try.prog 15 [(Sl aa_0 a_0 ca_0), (Sl ab_1 b_1 cb_1)] [Ch.ro 0 (Sl aa_0 a_0 ca_0) a_0, Ch.ro 0 (Sl ab_1 b_1 cb_1) b_1] (fun n0 v L => v = (B r) ∧ L = []) := by
 refine cal2 (n := 55) Try.func15 rfl rfl rfl rfl ?_
 intro S0 σ0 n0 hn0 H
 unfold M.laws_equalItems at h
 refine c_seq ?_
 refine rg ?_
 refine st (v := (B false)) (rv_assign rfl) ?_
 refine w_end ?_
 refine q_then ?_
 refine c_seq ?_
 refine c_seq ?_
 refine rg ?_
 refine st (v := (Sl aa_0 a_0 ca_0)) (rv_move rfl) ?_
 refine st (v := (I (a_0.length : Int))) (rv_len Try.underlying23 rfl) ?_
 refine st (v := (Sl ab_1 b_1 cb_1)) (rv_move rfl) ?_
 refine st (v := (I (b_1.length : Int))) (rv_len Try.underlying23 rfl) ?_
 refine st (v := (B ((a_0.length : Int) != (b_1.length : Int)))) (rv_neq (a := (a_0.length : Int)) (b := (b_1.length : Int)) rfl rfl) ?_
 refine w_end ?_
 refine q_then ?_
 refine cd_cond ((a_0.length : Int) != (b_1.length : Int)) rfl (fun hb1 => ?_) (fun hb1 => ?_)
 ·replace h := bif_t hb1 h
  refine c_seq ?_
  refine rg ?_
  refine st (v := (B false)) (rv_assign rfl) ?_
  refine w_end ?_
  refine q_then ?_
  refine c_ret ?_
  refine q_then_r ?_
  obtain rfl := Option.some.inj h
  exact fin_ret (v := (B false)) (results_ok Try.results15 (res_tmp (v := (B false)) rfl res_nil) rfl) ⟨rfl, rfl⟩ (H.sel' [] rfl rfl)
 ·replace h := bif_f hb1 h
  refine c_skip ?_
  refine q_then ?_
  refine c_seq ?_
  refine c_seq ?_
  refine rg ?_
  refine st (v := (I 0)) (rv_assign rfl) ?_
  refine w_end ?_
  refine q_then ?_
  obtain ⟨o2, hj, h'⟩ := bind_some h
  clear h
  refine c_cut (fun e a w => (∃ t, o2 = (.inl t) ∧ e = .normal ∧ ∃ (ρ : Nat → Value) (σ : St), a = fr 55 (updL ρ []) ∧ w = σ.w ∧ Hp S0 σ0 σ []) ∨ (∃ t, o2 = (.inr t) ∧ e = .ret ∧ ∃ (ρ : Nat → Value) (σ : St), a = fr 55 (updL ρ [(4, (B t))]) ∧ w = σ.w ∧ Hp S0 σ0 σ [])) ?_ ?_
  ·clear h'
   rename _ = some o2 => h
   refine c_blk ?_
   refine wp_loopM _ h (fun s3 a w => ∃ (ρ : Nat → Value) (σ : St), a = fr 55 (updL ρ [(0, (Sl aa_0 a_0 ca_0)), (1, (Sl ab_1 b_1 cb_1)), (5, (I s3))]) ∧ w = σ.w ∧ Hp S0 σ0 σ [Ch.ro 0 (Sl aa_0 a_0 ca_0) a_0, Ch.ro 0 (Sl ab_1 b_1 cb_1) b_1]) ⟨_, σ0, fr_join ⟨rfl, rfl, rfl, trivial⟩, rfl, H.sel' [0, 1] rfl rfl⟩ ?_
   clear h H
   rintro s3 a w o ⟨ρ, σ4, rfl, rfl, H⟩ h hres
   refine c_seq ?_
   refine c_seq ?_
   refine rg ?_
   refine st (v := (I s3)) (rv_move rfl) ?_
   refine st (v := (Sl aa_0 a_0 ca_0)) (rv_move rfl) ?_
   refine st (v := (I (a_0.length : Int))) (rv_len Try.underlying23 rfl) ?_
   refine st (v := (B (decide (s3 < (a_0.length : Int))))) (rv_lss (a := s3) (b := (a_0.length : Int)) rfl rfl) ?_
   refine w_end ?_
   refine q_then ?_
   refine cd_cond (decide (s3 < (a_0.length : Int))) rfl (fun hb5 => ?_) (fun hb5 => ?_)
   ·replace h := bif_t hb5 h
    refine c_skip ?_
    refine q_then ?_
    refine c_seq ?_
    refine c_blk ?_
    refine c_seq ?_
    obtain ⟨o6, hj, h'⟩ := bind_some h
    clear h
    refine c_cut (fun e a w => e = .normal ∧ ∃ (ρ : Nat → Value) (σ : St), a = fr 55 (updL ρ [(0, (Sl aa_0 a_0 ca_0)), (1, (Sl ab_1 b_1 cb_1)), (5, (I s3)), (54, (B o6))]) ∧ w = σ.w ∧ Hp S0 σ0 σ [Ch.ro 0 (Sl aa_0 a_0 ca_0) a_0, Ch.ro 0 (Sl ab_1 b_1 cb_1) b_1]) ?_ ?_
    ·clear h'
     rename _ = some o6 => h
     refine rgP (σ := σ4) 35 (by kernel_rfl) (by kernel_rfl) (by kernel_rfl) ?_
     refine sq (v := (Sl aa_0 a_0 ca_0)) (rv_move rfl) ?_
     refine sq (v := (I s3)) (rv_move rfl) ?_
     obtain ⟨x7, hx8, h'⟩ := bind_some h
     clear h
     have h := h'; clear h'
     obtain ⟨b10, o11, hi9, -⟩ := (H.ro 0 rfl).ix hx8
     refine sq (v := (pt b10 o11)) (rv_ix Try.underlying23 ti26 rfl rfl hi9) ?_
     refine sq (v := (pt b10 (o11 + 0))) (rv_fieldAddr (off := 0) (ft := 3) Try.underlying26 rfl ti3 rfl rfl) ?_
     have hc12 := ((H.ro 0 rfl).at hx8 hi9).fst.int
     refine sq (v := (I x7.1)) (rv_load1 Try.underlying3 rfl rfl hc12) ?_
     refine sq (v := (Sl ab_1 b_1 cb_1)) (rv_move rfl) ?_
     refine sq (v := (I s3)) (rv_move rfl) ?_
     obtain ⟨x13, hx14, h'⟩ := bind_some h
     clear h
     have h := h'; clear h'
     obtain ⟨b16, o17, hi15, -⟩ := (H.ro 1 rfl).ix hx14
     refine sq (v := (pt b16 o17)) (rv_ix Try.underlying23 ti26 rfl rfl hi15) ?_
     refine sq (v := (pt b16 (o17 + 0))) (rv_fieldAddr (off := 0) (ft := 3) Try.underlying26 rfl ti3 rfl rfl) ?_
     have hc18 := ((H.ro 1 rfl).at hx14 hi15).fst.int
     refine sq (v := (I x13.1)) (rv_load1 Try.underlying3 rfl rfl hc18) ?_
     refine sq (v := (B (x7.1 != x13.1))) (rv_neq (a := x7.1) (b := x13.1) rfl rfl) ?_
     refine sq (v := (B (x7.1 != x13.1))) (rv_move rfl) ?_
     rcases Bool.eq_false_or_eq_true (x7.1 != x13.1) with hb19 | hb19
     ·replace h := bif_t hb19 h
      refine sq_skip (congrArg some hb19) ?_
      refine sq_skip (congrArg some hb19) ?_
      refine sq_skip (congrArg some hb19) ?_
      refine sq_skip (congrArg some hb19) ?_
      refine sq_skip (congrArg some hb19) ?_
      refine sq_skip (congrArg some hb19) ?_
      refine sq_skip (congrArg some hb19) ?_
      refine sq_skip (congrArg some hb19) ?_
      refine sq_skip (congrArg some hb19) ?_
      refine sq_skip (congrArg some hb19) ?_
      refine sq_skip (congrArg some hb19) ?_
      refine sq (v := (B true)) (rv_pick_t (congrArg B hb19) rfl) ?_
      refine sq (v := (B true)) (rv_move rfl) ?_
      refine sq_skip rfl ?_
      refine sq_skip rfl ?_
      refine sq_skip rfl ?_
      refine sq_skip rfl ?_
      refine sq_skip rfl ?_
      refine sq_skip rfl ?_
      refine sq_skip rfl ?_
      refine sq_skip rfl ?_
      refine sq_skip rfl ?_
      refine sq_skip rfl ?_
      refine sq_end ?_
      intro σ20 hm21
      replace H := H.grow (hm21.mono fun _ h => h); clear hm21
      refine st_skip rfl ?_
      refine st_skip rfl ?_
      refine st (v := (B true)) (rv_pick_t rfl rfl) ?_
      refine w_end ?_
      obtain rfl := Option.some.inj h
      exact ⟨rfl, _, σ20, fr_join ⟨rfl, rfl, rfl, rfl, trivial⟩, rfl, H.sel' [0, 1] rfl rfl⟩
     ·replace h := bif_f hb19 h
      refine sq_g (v := (Sl aa_0 a_0 ca_0)) (congrArg some hb19) (rv_move rfl) ?_
      refine sq_g (v := (I s3)) (congrArg some hb19) (rv_move rfl) ?_
      obtain ⟨x22, hx23, h'⟩ := bind_some h
      clear h
      have h := h'; clear h'
      obtain ⟨b25, o26, hi24, -⟩ := (H.ro 0 rfl).ix hx23
      refine sq_g (v := (pt b25 o26)) (congrArg some hb19) (rv_ix Try.underlying23 ti26 rfl rfl hi24) ?_
      refine sq_g (v := (pt b25 (o26 + 2))) (congrArg some hb19) (rv_fieldAddr (off := 2) (ft := 3) Try.underlying26 rfl ti3 rfl rfl) ?_
      have hc27 := ((H.ro 0 rfl).at hx23 hi24).snd.snd.int
      refine sq_g (v := (I x22.2.2)) (congrArg some hb19) (rv_load1 Try.underlying3 rfl rfl hc27) ?_
      refine sq_g (v := (Sl ab_1 b_1 cb_1)) (congrArg some hb19) (rv_move rfl) ?_
      refine sq_g (v := (I s3)) (congrArg some hb19) (rv_move rfl) ?_
      obtain ⟨x28, hx29, h'⟩ := bind_some h
      clear h
      have h := h'; clear h'
      obtain ⟨b31, o32, hi30, -⟩ := (H.ro 1 rfl).ix hx29
      refine sq_g (v := (pt b31 o32)) (congrArg some hb19) (rv_ix Try.underlying23 ti26 rfl rfl hi30) ?_
      refine sq_g (v := (pt b31 (o32 + 2))) (congrArg some hb19) (rv_fieldAddr (off := 2) (ft := 3) Try.underlying26 rfl ti3 rfl rfl) ?_
      have hc33 := ((H.ro 1 rfl).at hx29 hi30).snd.snd.int
      refine sq_g (v := (I x28.2.2)) (congrArg some hb19) (rv_load1 Try.underlying3 rfl rfl hc33) ?_
      refine sq_g (v := (B (x22.2.2 != x28.2.2))) (congrArg some hb19) (rv_neq (a := x22.2.2) (b := x28.2.2) rfl rfl) ?_
      refine sq (v := (B (x22.2.2 != x28.2.2))) (rv_pick_f (congrArg B hb19) rfl) ?_
      refine sq (v := (B (x22.2.2 != x28.2.2))) (rv_move rfl) ?_
      rcases Bool.eq_false_or_eq_true (x22.2.2 != x28.2.2) with hb34 | hb34
      ·replace h := bif_t hb34 h
       refine sq_skip (congrArg some hb34) ?_
       refine sq_skip (congrArg some hb34) ?_
       refine sq_skip (congrArg some hb34) ?_
       refine sq_skip (congrArg some hb34) ?_
       refine sq_skip (congrArg some hb34) ?_
       refine sq_skip (congrArg some hb34) ?_
       refine sq_skip (congrArg some hb34) ?_
       refine sq_skip (congrArg some hb34) ?_
       refine sq_skip (congrArg some hb34) ?_
       refine sq_skip (congrArg some hb34) ?_
       refine sq_end ?_
       intro σ35 hm36
       replace H := H.grow (hm36.mono fun _ h => h); clear hm36
       refine st_skip (congrArg some hb34) ?_
       refine st_skip (congrArg some hb34) ?_
       refine st (v := (B true)) (rv_pick_t (congrArg B hb34) rfl) ?_
       refine w_end ?_
       obtain rfl := Option.some.inj h
       exact ⟨rfl, _, σ35, fr_join ⟨rfl, rfl, rfl, rfl, trivial⟩, rfl, H.sel' [0, 1] rfl rfl⟩
      ·replace h := bif_f hb34 h
       refine sq_g (v := (Sl aa_0 a_0 ca_0)) (congrArg some hb34) (rv_move rfl) ?_
       refine sq_g (v := (I s3)) (congrArg some hb34) (rv_move rfl) ?_
       obtain ⟨x37, hx38, h'⟩ := bind_some h
       clear h
       have h := h'; clear h'
       obtain ⟨b40, o41, hi39, -⟩ := (H.ro 0 rfl).ix hx38
       refine sq_g (v := (pt b40 o41)) (congrArg some hb34) (rv_ix Try.underlying23 ti26 rfl rfl hi39) ?_
       refine sq_g (v := (pt b40 (o41 + 1))) (congrArg some hb34) (rv_fieldAddr (off := 1) (ft := 24) Try.underlying26 rfl ti24 rfl rfl) ?_
       obtain ⟨v45, hc46, hR44⟩ := ((H.ro 0 rfl).at hx38 hi39).snd.fst.slice
       obtain ⟨a42, c43, rfl⟩ := hR44.isSl
       replace H := H.add (d := Ch.ro 0 (Sl a42 x37.2.1 c43) x37.2.1) hR44 (fun _ h => h)
       clear hR44
       refine sq_g (v := (Sl a42 x37.2.1 c43)) (congrArg some hb34) (rv_load1 Try.underlying24 rfl rfl hc46) ?_
       refine sq_g (v := (Sl ab_1 b_1 cb_1)) (congrArg some hb34) (rv_move rfl) ?_
       refine sq_g (v := (I s3)) (congrArg some hb34) (rv_move rfl) ?_
       obtain ⟨x47, hx48, h'⟩ := bind_some h
       clear h
       have h := h'; clear h'
       obtain ⟨b50, o51, hi49, -⟩ := (H.ro 2 rfl).ix hx48
       refine sq_g (v := (pt b50 o51)) (congrArg some hb34) (rv_ix Try.underlying23 ti26 rfl rfl hi49) ?_
       refine sq_g (v := (pt b50 (o51 + 1))) (congrArg some hb34) (rv_fieldAddr (off := 1) (ft := 24) Try.underlying26 rfl ti24 rfl rfl) ?_
       obtain ⟨v55, hc56, hR54⟩ := ((H.ro 2 rfl).at hx48 hi49).snd.fst.slice
       obtain ⟨a52, c53, rfl⟩ := hR54.isSl
       replace H := H.add (d := Ch.ro 0 (Sl a52 x47.2.1 c53) x47.2.1) hR54 (fun _ h => h)
       clear hR54
       refine sq_g (v := (Sl a52 x47.2.1 c53)) (congrArg some hb34) (rv_load1 Try.underlying24 rfl rfl hc56) ?_
       refine sq_end ?_
       intro σ57 hm58
       replace H := H.grow (hm58.mono fun _ h => h); clear hm58
       obtain ⟨r59, hx60, h'⟩ := bind_some h
       clear h
       have h := h'; clear h'
       have hc61 := c_laws_equalInts (aa_0 := a42) (ca_0 := c43) (ab_1 := a52) (cb_1 := c53) hx60
       refine st_call (cx_call hc61 (ent_f hc61.fn rfl) hn0 (show Hp S0 σ0 _ ([Ch.ro 0 (Sl a42 x37.2.1 c43) x37.2.1, Ch.ro 0 (Sl a52 x47.2.1 c53) x47.2.1] ++ [Ch.ro 0 (Sl a52 x47.2.1 c53) x47.2.1, Ch.ro 0 (Sl a42 x37.2.1 c43) x37.2.1, Ch.ro 0 (Sl aa_0 a_0 ca_0) a_0, Ch.ro 0 (Sl ab_1 b_1 cb_1) b_1]) from (H.sel' [1, 0, 0, 1, 2, 3] rfl rfl))) (wanted_yes rfl (by exact (congrArg some hb34))) ?_
       rintro _ σ62 ⟨_, ⟨rfl, rfl⟩, H, -⟩
       replace H : Hp S0 σ0 σ62 [Ch.ro 0 (Sl a52 x47.2.1 c53) x47.2.1, Ch.ro 0 (Sl a42 x37.2.1 c43) x37.2.1, Ch.ro 0 (Sl aa_0 a_0 ca_0) a_0, Ch.ro 0 (Sl ab_1 b_1 cb_1) b_1] := H
       refine st_g (v := (B (!r59))) (congrArg some hb34) (rv_not rfl) ?_
       refine st (v := (B (!r59))) (rv_pick_f (congrArg B hb34) rfl) ?_
       refine w_end ?_
       obtain rfl := Option.some.inj h
       exact ⟨rfl, _, σ62, fr_join ⟨rfl, rfl, rfl, rfl, trivial⟩, rfl, H.sel' [2, 3] rfl rfl⟩
    ·clear hj
     have h := h'
     clear h' H
     rintro e a w ⟨rfl, ρ, σ63, rfl, rfl, H⟩
     refine q_then ?_
     refine cd_cond o6 rfl (fun hb64 => ?_) (fun hb64 => ?_)
     ·replace h := bif_t hb64 h
      refine c_seq ?_
      refine rg ?_
      refine st (v := (B false)) (rv_assign rfl) ?_
      refine w_end ?_
      refine q_then ?_
      refine c_ret ?_
      refine q_blk_r ?_
      refine q_then_r ?_
      refine q_then_r ?_
      refine q_blk_r ?_
      obtain rfl := Option.some.inj h
      obtain rfl := hres _ rfl
      exact .inr (⟨_, rfl, rfl, _, σ63, fr_join ⟨rfl, trivial⟩, rfl, H.sel' [] rfl rfl⟩)
     ·replace h := bif_f hb64 h
      refine c_skip ?_
      refine q_blk ?_
      refine q_then ?_
      refine rg ?_
      refine st (v := (I s3)) (rv_move rfl) ?_
      refine st (v := (I (w64 (s3 + 1)))) (rv_add (a := s3) (b := 1) rfl rfl) ?_
      refine st (v := (I (w64 (s3 + 1)))) (rv_assign rfl) ?_
      refine w_end ?_
      refine q_then ?_
      obtain rfl := Option.some.inj h
      exact ⟨_, rfl, _, σ63, fr_join ⟨rfl, rfl, rfl, trivial⟩, rfl, H.sel' [0, 1] rfl rfl⟩
   ·replace h := bif_f hb5 h
    refine c_exit ?_
    refine q_then_x ?_
    refine q_then_x ?_
    refine q_blk_hit ?_
    obtain rfl := Option.some.inj h
    obtain rfl := hres _ rfl
    exact .inl ⟨_, rfl, rfl, _, σ4, fr_join trivial, rfl, H.sel' [] rfl rfl⟩
  ·clear hj
   have h := h'
   clear h' H
   rintro e a w (⟨t65, rfl, rfl, ρ, σ66, rfl, rfl, H⟩ | ⟨t67, rfl, rfl, ρ, σ68, rfl, rfl, H⟩)
   ·replace h := selim_l h
    refine q_then ?_
    refine c_seq ?_
    refine rg ?_
    refine st (v := (B true)) (rv_assign rfl) ?_
    refine w_end ?_
    refine q_then ?_
    refine c_ret ?_
    obtain rfl := Option.some.inj h
    exact fin_ret (v := (B true)) (results_ok Try.results15 (res_tmp (v := (B true)) rfl res_nil) rfl) ⟨rfl, rfl⟩ (H.sel' [] rfl rfl)
   ·replace h := selim_r h
    refine q_then_r ?_
    obtain rfl := Option.some.inj h
    exact fin_ret (v := (B t67)) (results_ok Try.results15 (res_tmp (v := (B t67)) rfl res_nil) rfl) ⟨rfl, rfl⟩ (H.sel' [] rfl rfl)

theorem c_impl_BoundsOf {list_0 : List (Int × (List Int) × Int)} {alist_0 : Option Addr} {clist_0 : Nat} {r : (List Int) × (List Int) × Bool} (h : M.impl_BoundsOf list_0 = some r) :
    Cal2 Try.prog 16 [(Sl alist_0 list_0 clist_0)] [Ch.ro 0 (Sl alist_0 list_0 clist_0) list_0] (fun n0 v L => ∃ (az1 : Option Addr), ∃ (cz2 : Nat), ∃ (az4 : Option Addr), ∃ (cz5 : Nat), v = (.tuple #[(Sl az1 r.1 cz2), (Sl az4 r.2.1 cz5), (B r.2.2)]) ∧ L = [Ch.own n0 n0 (Sl az1 r.1 cz2) r.1, Ch.own n0 n0 (Sl az4 r.2.1 cz5) r.2.1] ∧ cz2 = r.1.length ∧ cz5 = r.2.1.length) := by
 refine cal2 (n := 64) Try.func16 rfl rfl rfl rfl ?_
 intro S0 σ0 n0 hn0 H
 unfold M.impl_BoundsOf at h
 refine c_seq ?_
 refine rg ?_
 refine st (v := (.slice none 0 0)) (rv_assign rfl) ?_
 refine st (v := (.slice none 0 0)) (rv_assign rfl) ?_
 refine st (v := (B false)) (rv_assign rfl) ?_
 refine w_end ?_
 refine q_then ?_
 refine c_seq ?_
 refine c_seq ?_
 obtain ⟨o1, hj, h'⟩ := bind_some h
 clear h
 refine c_cut (fun e a w => e = .normal ∧ ∃ (ρ : Nat → Value) (σ : St), a = fr 64 (updL ρ [(0, (Sl alist_0 list_0 clist_0)), (18, (B o1))]) ∧ w = σ.w ∧ Hp S0 σ0 σ [Ch.ro 0 (Sl alist_0 list_0 clist_0) list_0]) ?_ ?_
 ·clear h'
  rename _ = some o1 => h
  refine rg ?_
  refine st (v := (Sl alist_0 list_0 clist_0)) (rv_move rfl) ?_
  obtain ⟨r2, hx3, h'⟩ := bind_some h
  clear h
  have h := h'; clear h'
  have hc4 := c_impl_ValidStore (alist_0 := alist_0) (clist_0 := clist_0) hx3
  refine st_call (cx_call hc4 (ent_f hc4.fn rfl) hn0 (show Hp S0 σ0 _ ([Ch.ro 0 (Sl alist_0 list_0 clist_0) list_0] ++ [Ch.ro 0 (Sl alist_0 list_0 clist_0) list_0]) from (H.sel' [0, 0] rfl rfl))) wn ?_
  rintro _ σ5 ⟨_, ⟨rfl, rfl⟩, H, -⟩
  replace H : Hp S0 σ0 σ5 [Ch.ro 0 (Sl alist_0 list_0 clist_0) list_0] := H
  refine st (v := (B (!r2))) (rv_not rfl) ?_
  refine st (v := (B (!r2))) (rv_move rfl) ?_
  rcases Bool.eq_false_or_eq_true (!r2) with hb6 | hb6
  ·replace h := bif_t hb6 h
   refine st_skip (congrArg some hb6) ?_
   refine st_skip (congrArg some hb6) ?_
   refine st_skip (congrArg some hb6) ?_
   refine st (v := (B true)) (rv_pick_t (congrArg B hb6) rfl) ?_
   refine w_end ?_
   obtain rfl := Option.some.inj h
   exact ⟨rfl, _, σ5, fr_join ⟨rfl, rfl, trivial⟩, rfl, H.sel' [0] rfl rfl⟩
  ·replace h := bif_f hb6 h
   refine st_g (v := (Sl alist_0 list_0 clist_0)) (congrArg some hb6) (rv_move rfl) ?_
   refine st_g (v := (I (list_0.length : Int))) (congrArg some hb6) (rv_len Try.underlying23 rfl) ?_
   refine st_g (v := (B ((list_0.length : Int) == 0))) (congrArg some hb6) (rv_eql (a := (list_0.length : Int)) (b := 0) rfl rfl) ?_
   refine st (v := (B ((list_0.length : Int) == 0))) (rv_pick_f (congrArg B hb6) rfl) ?_
   refine w_end ?_
   obtain rfl := Option.some.inj h
   exact ⟨rfl, _, σ5, fr_join ⟨rfl, rfl, trivial⟩, rfl, H.sel' [0] rfl rfl⟩
 ·clear hj
  have h := h'
  clear h' H
  rintro e a w ⟨rfl, ρ, σ7, rfl, rfl, H⟩
  refine q_then ?_
  refine cd_cond o1 rfl (fun hb8 => ?_) (fun hb8 => ?_)
  ·replace h := bif_t hb8 h
   refine c_seq ?_
   refine rg ?_
   refine st (v := (.slice none 0 0)) (rv_assign rfl) ?_
   refine st (v := (.slice none 0 0)) (rv_assign rfl) ?_
   refine st (v := (B false)) (rv_assign rfl) ?_
   refine w_end ?_
   refine q_then ?_
   refine c_ret ?_
   refine q_then_r ?_
   replace H := H.nilOwn Int n0 n0
   replace H := H.nilOwn Int n0 n0
   obtain rfl := Option.some.inj h
   exact fin_ret (v := (.tuple #[(.slice none 0 0), (.slice none 0 0), (B false)])) (results_ok Try.results16 (res_tmp (v := (.slice none 0 0)) rfl (res_tmp (v := (.slice none 0 0)) rfl (res_tmp (v := (B false)) rfl res_nil))) rfl) ⟨none, 0, none, 0, rfl, rfl, rfl, rfl⟩ (H.sel' [1, 0] rfl rfl)
  ·replace h := bif_f hb8 h
   refine c_skip ?_
   refine q_then ?_
   refine c_seq ?_
   obtain ⟨x9, hx10, h'⟩ := bind_some h
   clear h
   have h := h'; clear h'
   obtain ⟨b12, o13, hi11, -⟩ := (H.ro 0 rfl).ix hx10
   obtain ⟨v17, hc18, hR16⟩ := ((H.ro 0 rfl).at hx10 hi11).snd.fst.slice
   obtain ⟨a14, c15, rfl⟩ := hR16.isSl
   replace H := H.add (d := Ch.ro 0 (Sl a14 x9.2.1 c15) x9.2.1) hR16 (fun _ h => h)
   clear hR16
   obtain ⟨xs19, hx20, h'⟩ := bind_some h
   clear h
   have h := h'; clear h'
   obtain ⟨hl24, hq25⟩ := garr_some hx20
   clear hx20 hq25
   obtain ⟨b21, o22, rfl, hc23⟩ := (H.ro 0 rfl).arr (Nat.lt_of_lt_of_le (by decide) hl24)
   obtain ⟨x26, hx27, h'⟩ := bind_some h
   clear h
   have h := h'; clear h'
   obtain ⟨b29, o30, hi28, -⟩ := (H.ro 1 rfl).ix hx27
   obtain ⟨v34, hc35, hR33⟩ := ((H.ro 1 rfl).at hx27 hi28).snd.fst.slice
   obtain ⟨a31, c32, rfl⟩ := hR33.isSl
   replace H := H.add (d := Ch.ro 0 (Sl a31 x26.2.1 c32) x26.2.1) hR33 (fun _ h => h)
   clear hR33
   obtain ⟨xs36, hx37, h'⟩ := bind_some h
   clear h
   have h := h'; clear h'
   obtain ⟨hl41, hq42⟩ := garr_some hx37
   clear hx37 hq42
   obtain ⟨b38, o39, rfl, hc40⟩ := (H.ro 0 rfl).arr (Nat.lt_of_lt_of_le (by decide) hl41)
   have Hs := H
   refine rg2 (σ := σ7) (Nm := (Nat) × (Nat)) 14 [12, 13] [[false, false], [true, false], [false, true], [true, true]] [[(0, 0), (1, 1), (2, 2), (3, 3)], [(0, 0), (1, 1), (2, 2), (3, 3)], [(0, 0), (1, 1), (2, 2), (3, 3)], [(0, 0), (1, 1), (2, 2), (3, 3)], [(0, 0), (1, 1), (2, 2), (3, 3)], [(0, 0), (1, 1), (2, 2), (3, 3)], [(0, 0), (1, 1), (2, 2), (3, 3)], [(0, 0), (1, 1), (2, 2), (3, 3)], [(0, 0), (1, 1), (2, 2), (3, 3)], [(0, 0), (1, 1), (2, 2), (3, 3)], [(0, 0), (1, 1), (2, 2), (3, 3)], [(0, 0), (1, 1), (2, 2), (3, 3)], [(0, 1), (2, 3)], [(0, 2), (1, 3)]] 3 [fun ((b43, b44) : (Nat) × (Nat)) => fun σm => Hp S0 σ0 σm [Ch.ro 0 (Sl (some ⟨b38, o39, none⟩) x26.2.1 c32) x26.2.1, Ch.ro 0 (Sl (some ⟨b21, o22, none⟩) x9.2.1 c15) x9.2.1, Ch.ro 0 (Sl alist_0 list_0 clist_0) list_0] ∧ Md (cov []) σ7 σm, fun ((b43, b44) : (Nat) × (Nat)) => fun σm => Hp S0 σ0 σm [Ch.bx n0 b43 0 (List.map I (List.replicate 4 0)) [] [], Ch.ro 0 (Sl (some ⟨b38, o39, none⟩) x26.2.1 c32) x26.2.1, Ch.ro 0 (Sl (some ⟨b21, o22, none⟩) x9.2.1 c15) x9.2.1, Ch.ro 0 (Sl alist_0 list_0 clist_0) list_0] ∧ Md (cov []) σ7 σm, fun ((b43, b44) : (Nat) × (Nat)) => fun σm => Hp S0 σ0 σm [Ch.bx n0 b44 0 (List.map I (List.replicate 4 0)) [] [], Ch.ro 0 (Sl (some ⟨b38, o39, none⟩) x26.2.1 c32) x26.2.1, Ch.ro 0 (Sl (some ⟨b21, o22, none⟩) x9.2.1 c15) x9.2.1, Ch.ro 0 (Sl alist_0 list_0 clist_0) list_0] ∧ Md (cov []) σ7 σm, fun ((b43, b44) : (Nat) × (Nat)) => fun σm => Hp S0 σ0 σm [Ch.bx n0 b44 0 (List.map I (List.replicate 4 0)) [] [], Ch.bx n0 b43 0 (List.map I (List.replicate 4 0)) [] [], Ch.ro 0 (Sl (some ⟨b38, o39, none⟩) x26.2.1 c32) x26.2.1, Ch.ro 0 (Sl (some ⟨b21, o22, none⟩) x9.2.1 c15) x9.2.1, Ch.ro 0 (Sl alist_0 list_0 clist_0) list_0] ∧ Md (cov []) σ7 σm] [fun ((b43, b44) : (Nat) × (Nat)) => (Sl alist_0 list_0 clist_0), fun ((b43, b44) : (Nat) × (Nat)) => (pt b12 o13), fun ((b43, b44) : (Nat) × (Nat)) => (pt b12 (o13 + 1)), fun ((b43, b44) : (Nat) × (Nat)) => (Sl (some ⟨b21, o22, none⟩) x9.2.1 c15), fun ((b43, b44) : (Nat) × (Nat)) => (.pointer (some ⟨b21, o22, none⟩)), fun ((b43, b44) : (Nat) × (Nat)) => (.agg (List.map I (List.take 4 x9.2.1)).toArray), fun ((b43, b44) : (Nat) × (Nat)) => (Sl alist_0 list_0 clist_0), fun ((b43, b44) : (Nat) × (Nat)) => (pt b29 o30), fun ((b43, b44) : (Nat) × (Nat)) => (pt b29 (o30 + 1)), fun ((b43, b44) : (Nat) × (Nat)) => (Sl (some ⟨b38, o39, none⟩) x26.2.1 c32), fun ((b43, b44) : (Nat) × (Nat)) => (.pointer (some ⟨b38, o39, none⟩)), fun ((b43, b44) : (Nat) × (Nat)) => (.agg (List.map I (List.take 4 x26.2.1)).toArray), fun ((b43, b44) : (Nat) × (Nat)) => (pt b43 0), fun ((b43, b44) : (Nat) × (Nat)) => (pt b44 0)] (0, 0) (by kernel_rfl) (by kernel_rfl) ?_ ?_ ?_
   ·intro σm m0
    exact ⟨H.grow (m0.mono fun _ h => h.elim), m0⟩
   ·refine ac rfl (by
      intro k; rintro ⟨b43, b44⟩ ρ σm hJ hoff hdep
      have e0 := look_off (N := 64) (hoff 0 rfl) rfl
      exact dp_v (v := (Sl alist_0 list_0 clist_0)) wn (rv_move e0) rfl hJ) ?_
    refine ac rfl (by
      intro k; rintro ⟨b43, b44⟩ ρ σm hJ hoff hdep
      have e19 := hdep 0 rfl rfl 19 rfl
      exact dp_v (v := (pt b12 o13)) wn (rv_ix Try.underlying23 ti26 e19 rfl hi11) rfl hJ) ?_
    refine ac rfl (by
      intro k; rintro ⟨b43, b44⟩ ρ σm hJ hoff hdep
      have e20 := hdep 1 rfl rfl 20 rfl
      exact dp_v (v := (pt b12 (o13 + 1))) wn (rv_fieldAddr (off := 1) (ft := 24) Try.underlying26 rfl ti24 rfl e20) rfl hJ) ?_
    refine all_cons (by
      refine ⟨?_, ?_⟩
      ·rintro ⟨b43, b44⟩ ρ σm hJ hoff hdep
       have e21 := hdep 2 rfl rfl 21 rfl
       obtain ⟨H, m⟩ := id hJ
       replace hc18 := (Hs.ro 2 rfl).hmd hx10 hi11 (k := 1) (by decide) hc18 m
       exact dp_v (v := (Sl (some ⟨b21, o22, none⟩) x9.2.1 c15)) wn (rv_load1 Try.underlying24 rfl e21 hc18) rfl hJ
      refine ⟨?_, ?_⟩
      ·rintro ⟨b43, b44⟩ ρ σm hJ hoff hdep
       have e21 := hdep 2 rfl rfl 21 rfl
       obtain ⟨H, m⟩ := id hJ
       replace hc18 := (Hs.ro 2 rfl).hmd hx10 hi11 (k := 1) (by decide) hc18 m
       exact dp_v (v := (Sl (some ⟨b21, o22, none⟩) x9.2.1 c15)) wn (rv_load1 Try.underlying24 rfl e21 hc18) rfl hJ
      refine ⟨?_, ?_⟩
      ·rintro ⟨b43, b44⟩ ρ σm hJ hoff hdep
       have e21 := hdep 2 rfl rfl 21 rfl
       obtain ⟨H, m⟩ := id hJ
       replace hc18 := (Hs.ro 2 rfl).hmd hx10 hi11 (k := 1) (by decide) hc18 m
       exact dp_v (v := (Sl (some ⟨b21, o22, none⟩) x9.2.1 c15)) wn (rv_load1 Try.underlying24 rfl e21 hc18) rfl hJ
      refine ⟨?_, ?_⟩
      ·rintro ⟨b43, b44⟩ ρ σm hJ hoff hdep
       have e21 := hdep 2 rfl rfl 21 rfl
       obtain ⟨H, m⟩ := id hJ
       replace hc18 := (Hs.ro 2 rfl).hmd hx10 hi11 (k := 1) (by decide) hc18 m
       exact dp_v (v := (Sl (some ⟨b21, o22, none⟩) x9.2.1 c15)) wn (rv_load1 Try.underlying24 rfl e21 hc18) rfl hJ
      trivial) ?_
    refine ac rfl (by
      intro k; rintro ⟨b43, b44⟩ ρ σm hJ hoff hdep
      have e22 := hdep 3 rfl rfl 22 rfl
      exact dp_v (v := (.pointer (some ⟨b21, o22, none⟩))) wn (rv_arrPtr Try.underlying70 e22 hl24) rfl hJ) ?_
    refine all_cons (by
      refine ⟨?_, ?_⟩
      ·rintro ⟨b43, b44⟩ ρ σm hJ hoff hdep
       have e23 := hdep 4 rfl rfl 23 rfl
       obtain ⟨H, m⟩ := id hJ
       replace hc23 := (Hs.ro 1 rfl).arr_md hc23 m
       exact dp_v (v := (.agg (List.map I (List.take 4 x9.2.1)).toArray)) wn (rv_load (cs := List.map I (List.take 4 x9.2.1)) Try.underlying70 rfl ti70 e23 (by rw [List.length_map, List.length_take]; have := hl24; omega) (arr_take hc23)) rfl hJ
      refine ⟨?_, ?_⟩
      ·rintro ⟨b43, b44⟩ ρ σm hJ hoff hdep
       have e23 := hdep 4 rfl rfl 23 rfl
       obtain ⟨H, m⟩ := id hJ
       replace hc23 := (Hs.ro 1 rfl).arr_md hc23 m
       exact dp_v (v := (.agg (List.map I (List.take 4 x9.2.1)).toArray)) wn (rv_load (cs := List.map I (List.take 4 x9.2.1)) Try.underlying70 rfl ti70 e23 (by rw [List.length_map, List.length_take]; have := hl24; omega) (arr_take hc23)) rfl hJ
      refine ⟨?_, ?_⟩
      ·rintro ⟨b43, b44⟩ ρ σm hJ hoff hdep
       have e23 := hdep 4 rfl rfl 23 rfl
       obtain ⟨H, m⟩ := id hJ
       replace hc23 := (Hs.ro 1 rfl).arr_md hc23 m
       exact dp_v (v := (.agg (List.map I (List.take 4 x9.2.1)).toArray)) wn (rv_load (cs := List.map I (List.take 4 x9.2.1)) Try.underlying70 rfl ti70 e23 (by rw [List.length_map, List.length_take]; have := hl24; omega) (arr_take hc23)) rfl hJ
      refine ⟨?_, ?_⟩
      ·rintro ⟨b43, b44⟩ ρ σm hJ hoff hdep
       have e23 := hdep 4 rfl rfl 23 rfl
       obtain ⟨H, m⟩ := id hJ
       replace hc23 := (Hs.ro 1 rfl).arr_md hc23 m
       exact dp_v (v := (.agg (List.map I (List.take 4 x9.2.1)).toArray)) wn (rv_load (cs := List.map I (List.take 4 x9.2.1)) Try.underlying70 rfl ti70 e23 (by rw [List.length_map, List.length_take]; have := hl24; omega) (arr_take hc23)) rfl hJ
      trivial) ?_
    refine ac rfl (by
      intro k; rintro ⟨b43, b44⟩ ρ σm hJ hoff hdep
      have e0 := look_off (N := 64) (hoff 0 rfl) rfl
      exact dp_v (v := (Sl alist_0 list_0 clist_0)) wn (rv_move e0) rfl hJ) ?_
    refine ac rfl (by
      intro k; rintro ⟨b43, b44⟩ ρ σm hJ hoff hdep
      have e25 := hdep 6 rfl rfl 25 rfl
      exact dp_v (v := (pt b29 o30)) wn (rv_ix Try.underlying23 ti26 e25 rfl hi28) rfl hJ) ?_
    refine ac rfl (by
      intro k; rintro ⟨b43, b44⟩ ρ σm hJ hoff hdep
      have e26 := hdep 7 rfl rfl 26 rfl
      exact dp_v (v := (pt b29 (o30 + 1))) wn (rv_fieldAddr (off := 1) (ft := 24) Try.underlying26 rfl ti24 rfl e26) rfl hJ) ?_
    refine all_cons (by
      refine ⟨?_, ?_⟩
      ·rintro ⟨b43, b44⟩ ρ σm hJ hoff hdep
       have e27 := hdep 8 rfl rfl 27 rfl
       obtain ⟨H, m⟩ := id hJ
       replace hc35 := (Hs.ro 2 rfl).hmd hx27 hi28 (k := 1) (by decide) hc35 m
       exact dp_v (v := (Sl (some ⟨b38, o39, none⟩) x26.2.1 c32)) wn (rv_load1 Try.underlying24 rfl e27 hc35) rfl hJ
      refine ⟨?_, ?_⟩
      ·rintro ⟨b43, b44⟩ ρ σm hJ hoff hdep
       have e27 := hdep 8 rfl rfl 27 rfl
       obtain ⟨H, m⟩ := id hJ
       replace hc35 := (Hs.ro 2 rfl).hmd hx27 hi28 (k := 1) (by decide) hc35 m
       exact dp_v (v := (Sl (some ⟨b38, o39, none⟩) x26.2.1 c32)) wn (rv_load1 Try.underlying24 rfl e27 hc35) rfl hJ
      refine ⟨?_, ?_⟩
      ·rintro ⟨b43, b44⟩ ρ σm hJ hoff hdep
       have e27 := hdep 8 rfl rfl 27 rfl
       obtain ⟨H, m⟩ := id hJ
       replace hc35 := (Hs.ro 2 rfl).hmd hx27 hi28 (k := 1) (by decide) hc35 m
       exact dp_v (v := (Sl (some ⟨b38, o39, none⟩) x26.2.1 c32)) wn (rv_load1 Try.underlying24 rfl e27 hc35) rfl hJ
      refine ⟨?_, ?_⟩
      ·rintro ⟨b43, b44⟩ ρ σm hJ hoff hdep
       have e27 := hdep 8 rfl rfl 27 rfl
       obtain ⟨H, m⟩ := id hJ
       replace hc35 := (Hs.ro 2 rfl).hmd hx27 hi28 (k := 1) (by decide) hc35 m
       exact dp_v (v := (Sl (some ⟨b38, o39, none⟩) x26.2.1 c32)) wn (rv_load1 Try.underlying24 rfl e27 hc35) rfl hJ
      trivial) ?_
    refine ac rfl (by
      intro k; rintro ⟨b43, b44⟩ ρ σm hJ hoff hdep
      have e28 := hdep 9 rfl rfl 28 rfl
      exact dp_v (v := (.pointer (some ⟨b38, o39, none⟩))) wn (rv_arrPtr Try.underlying70 e28 hl41) rfl hJ) ?_
    refine all_cons (by
      refine ⟨?_, ?_⟩
      ·rintro ⟨b43, b44⟩ ρ σm hJ hoff hdep
       have e29 := hdep 10 rfl rfl 29 rfl
       obtain ⟨H, m⟩ := id hJ
       replace hc40 := (Hs.ro 0 rfl).arr_md hc40 m
       exact dp_v (v := (.agg (List.map I (List.take 4 x26.2.1)).toArray)) wn (rv_load (cs := List.map I (List.take 4 x26.2.1)) Try.underlying70 rfl ti70 e29 (by rw [List.length_map, List.length_take]; have := hl41; omega) (arr_take hc40)) rfl hJ
      refine ⟨?_, ?_⟩
      ·rintro ⟨b43, b44⟩ ρ σm hJ hoff hdep
       have e29 := hdep 10 rfl rfl 29 rfl
       obtain ⟨H, m⟩ := id hJ
       replace hc40 := (Hs.ro 0 rfl).arr_md hc40 m
       exact dp_v (v := (.agg (List.map I (List.take 4 x26.2.1)).toArray)) wn (rv_load (cs := List.map I (List.take 4 x26.2.1)) Try.underlying70 rfl ti70 e29 (by rw [List.length_map, List.length_take]; have := hl41; omega) (arr_take hc40)) rfl hJ
      refine ⟨?_, ?_⟩
      ·rintro ⟨b43, b44⟩ ρ σm hJ hoff hdep
       have e29 := hdep 10 rfl rfl 29 rfl
       obtain ⟨H, m⟩ := id hJ
       replace hc40 := (Hs.ro 0 rfl).arr_md hc40 m
       exact dp_v (v := (.agg (List.map I (List.take 4 x26.2.1)).toArray)) wn (rv_load (cs := List.map I (List.take 4 x26.2.1)) Try.underlying70 rfl ti70 e29 (by rw [List.length_map, List.length_take]; have := hl41; omega) (arr_take hc40)) rfl hJ
      refine ⟨?_, ?_⟩
      ·rintro ⟨b43, b44⟩ ρ σm hJ hoff hdep
       have e29 := hdep 10 rfl rfl 29 rfl
       obtain ⟨H, m⟩ := id hJ
       replace hc40 := (Hs.ro 0 rfl).arr_md hc40 m
       exact dp_v (v := (.agg (List.map I (List.take 4 x26.2.1)).toArray)) wn (rv_load (cs := List.map I (List.take 4 x26.2.1)) Try.underlying70 rfl ti70 e29 (by rw [List.length_map, List.length_take]; have := hl41; omega) (arr_take hc40)) rfl hJ
      trivial) ?_
    refine all_cons (by
      refine ⟨?_, ?_⟩
      ·rintro ⟨b43, b44⟩ ρ σm hJ hoff hdep
       obtain ⟨H, m⟩ := id hJ
       refine dp_ex wn (ex_alloc (cs := (List.map I (List.replicate 4 0))) H hn0 ti70 rfl) ?_
       rintro _ σq ⟨b43x, rfl, H2, m2⟩
       exact ⟨_, (b43x, b44), rfl, rfl, ⟨H2.sel' [0, 1, 2, 3] rfl rfl, m.comp0 m2⟩, stab [0, 1, 2, 3, 4, 5, 6, 7, 8, 9, 10, 11, 13] (by kernel_rfl) ⟨rfl, rfl, rfl, rfl, rfl, rfl, rfl, rfl, rfl, rfl, rfl, rfl, rfl, trivial⟩⟩
      refine ⟨?_, ?_⟩
      ·rintro ⟨b43, b44⟩ ρ σm hJ hoff hdep
       obtain ⟨H, m⟩ := id hJ
       refine dp_ex wn (ex_alloc (cs := (List.map I (List.replicate 4 0))) H hn0 ti70 rfl) ?_
       rintro _ σq ⟨b43x, rfl, H2, m2⟩
       exact ⟨_, (b43x, b44), rfl, rfl, ⟨H2.sel' [1, 0, 2, 3, 4] rfl rfl, m.comp0 m2⟩, stab [0, 1, 2, 3, 4, 5, 6, 7, 8, 9, 10, 11, 13] (by kernel_rfl) ⟨rfl, rfl, rfl, rfl, rfl, rfl, rfl, rfl, rfl, rfl, rfl, rfl, rfl, trivial⟩⟩
      trivial) ?_
    refine all_cons (by
      refine ⟨?_, ?_⟩
      ·rintro ⟨b43, b44⟩ ρ σm hJ hoff hdep
       obtain ⟨H, m⟩ := id hJ
       refine dp_ex wn (ex_alloc (cs := (List.map I (List.replicate 4 0))) H hn0 ti70 rfl) ?_
       rintro _ σq ⟨b44x, rfl, H2, m2⟩
       exact ⟨_, (b43, b44x), rfl, rfl, ⟨H2.sel' [0, 1, 2, 3] rfl rfl, m.comp0 m2⟩, stab [0, 1, 2, 3, 4, 5, 6, 7, 8, 9, 10, 11, 12] (by kernel_rfl) ⟨rfl, rfl, rfl, rfl, rfl, rfl, rfl, rfl, rfl, rfl, rfl, rfl, rfl, trivial⟩⟩
      refine ⟨?_, ?_⟩
      ·rintro ⟨b43, b44⟩ ρ σm hJ hoff hdep
       obtain ⟨H, m⟩ := id hJ
       refine dp_ex wn (ex_alloc (cs := (List.map I (List.replicate 4 0))) H hn0 ti70 rfl) ?_
       rintro _ σq ⟨b44x, rfl, H2, m2⟩
       exact ⟨_, (b43, b44x), rfl, rfl, ⟨H2.sel' [0, 1, 2, 3, 4] rfl rfl, m.comp0 m2⟩, stab [0, 1, 2, 3, 4, 5, 6, 7, 8, 9, 10, 11, 12] (by kernel_rfl) ⟨rfl, rfl, rfl, rfl, rfl, rfl, rfl, rfl, rfl, rfl, rfl, rfl, rfl, trivial⟩⟩
      trivial) ?_
    exact all_nil
   ·rintro ⟨b43, b44⟩ ρ σ45 hJ hoff hrel
    have e0 := look_off (N := 64) (hoff 0 rfl) rfl
    have e5 := hrel 12 rfl 5 rfl
    have e6 := hrel 13 rfl 6 rfl
    have e24 := hrel 5 rfl 24 rfl
    have e30 := hrel 11 rfl 30 rfl
    obtain ⟨H, -⟩ := (show Hp S0 σ0 σ45 [Ch.bx n0 b44 0 (List.map I (List.replicate 4 0)) [] [], Ch.bx n0 b43 0 (List.map I (List.replicate 4 0)) [] [], Ch.ro 0 (Sl (some ⟨b38, o39, none⟩) x26.2.1 c32) x26.2.1, Ch.ro 0 (Sl (some ⟨b21, o22, none⟩) x9.2.1 c15) x9.2.1, Ch.ro 0 (Sl alist_0 list_0 clist_0) list_0] ∧ Md (cov []) σ7 σ45 from hJ)
    clear hJ Hs
    rw [fr_lookL (L := [(0, (Sl alist_0 list_0 clist_0)), (5, (pt b43 0)), (6, (pt b44 0)), (24, (.agg (List.map I (List.take 4 x9.2.1)).toArray)), (30, (.agg (List.map I (List.take 4 x26.2.1)).toArray))]) ⟨e0, e5, e6, e24, e30, trivial⟩]
    clear hoff hrel e0 e5 e6 e24 e30
    refine st_exS (ex_store_box (k := 0) (cs := (List.map I (List.replicate 4 0))) (vs := (List.map I (List.take 4 x9.2.1))) (cs' := (List.map I (List.take 4 x9.2.1))) H (i := 1) rfl ti70 rfl rfl rfl rfl ((List.length_map _).trans (by rw [List.length_take]; have := hl24; omega)) (arr_fits (k := 4) (by rw [List.length_take]; have := hl24; omega) rfl) (plain_ints _) (arr_all (k := 4) (by rw [List.length_take]; have := hl24; omega) rfl)) wn ?_
    rintro σ46 ⟨H, -⟩
    refine st_exS (ex_store_box (k := 0) (cs := (List.map I (List.replicate 4 0))) (vs := (List.map I (List.take 4 x26.2.1))) (cs' := (List.map I (List.take 4 x26.2.1))) H (i := 1) rfl ti70 rfl rfl rfl rfl ((List.length_map _).trans (by rw [List.length_take]; have := hl41; omega)) (arr_fits (k := 4) (by rw [List.length_take]; have := hl41; omega) rfl) (plain_ints _) (arr_all (k := 4) (by rw [List.length_take]; have := hl41; omega) rfl)) wn ?_
    rintro σ47 ⟨H, -⟩
    refine w_end ?_
    refine q_then ?_
    refine c_seq ?_
    refine c_seq ?_
    refine rg ?_
    refine st (v := (Sl alist_0 list_0 clist_0)) (rv_move rfl) ?_
    obtain ⟨xs48, hx49, h'⟩ := bind_some h
    clear h
    have h := h'; clear h'
    obtain ⟨a50, c51, hs52, hR53⟩ := (H.ro 4 rfl).slice hx49
    replace H := H.add (d := Ch.ro 0 (Sl a50 xs48 c51) xs48) hR53 (fun _ h => h)
    clear hR53
    refine st (v := (Sl a50 xs48 c51)) (rv_slice_l Try.underlying23 ti26 hs52 rfl rfl) ?_
    refine st (v := (I (xs48.length : Int))) (rv_len Try.underlying23 rfl) ?_
    refine st (v := (I 0)) (rv_move rfl) ?_
    refine w_end ?_
    refine q_then ?_
    obtain ⟨o54, hj, h'⟩ := bind_some h
    clear h
    refine c_cut (fun e a w => e = .normal ∧ ∃ (ρ : Nat → Value) (σ : St), a = fr 64 (updL ρ [(5, (pt b43 0)), (6, (pt b44 0))]) ∧ w = σ.w ∧ Hp S0 σ0 σ [Ch.bx n0 b43 0 (List.map I o54.1) [] [], Ch.bx n0 b44 0 (List.map I o54.2) [] []] ∧ o54.1.length = 4 ∧ o54.2.length = 4) ?_ ?_
    ·clear h'
     rename _ = some o54 => h
     refine c_blk ?_
     refine wp_loopM _ h (fun s55 a w => ∃ (ρ : Nat → Value) (σ : St), a = fr 64 (updL ρ [(5, (pt b43 0)), (6, (pt b44 0)), (32, (Sl a50 xs48 c51)), (33, (I (xs48.length : Int))), (34, (I s55.2.2))]) ∧ w = σ.w ∧ Hp S0 σ0 σ [Ch.bx n0 b43 0 (List.map I s55.1) [] [], Ch.bx n0 b44 0 (List.map I s55.2.1) [] [], Ch.ro 0 (Sl a50 xs48 c51) xs48] ∧ s55.1.length = 4 ∧ s55.2.1.length = 4) ⟨_, σ47, fr_join ⟨rfl, rfl, rfl, rfl, rfl, trivial⟩, rfl, H.sel' [2, 1, 0] rfl rfl, (by rw [List.length_take]; have := hl24; omega), (by rw [List.length_take]; have := hl41; omega)⟩ ?_
     clear h H
     rintro s55 a w o ⟨ρ, σ56, rfl, rfl, H, hl57, hl58⟩ h hres
     refine c_seq ?_
     refine rg ?_
     refine st (v := (B (decide (s55.2.2 < (xs48.length : Int))))) (rv_lss (a := s55.2.2) (b := (xs48.length : Int)) rfl rfl) ?_
     refine w_end ?_
     refine q_then ?_
     refine c_seq ?_
     refine cd_cond (decide (s55.2.2 < (xs48.length : Int))) rfl (fun hb59 => ?_) (fun hb59 => ?_)
     ·replace h := bif_t hb59 h
      refine c_skip ?_
      refine q_then ?_
      refine c_seq ?_
      refine c_blk ?_
      refine c_seq ?_
      refine rg ?_
      obtain ⟨x60, hx61, h'⟩ := bind_some h
      clear h
      have h := h'; clear h'
      obtain ⟨b63, o64, hi62, -⟩ := (H.ro 2 rfl).ix hx61
      refine st (v := (pt b63 o64)) (rv_ix Try.underlying23 ti26 rfl rfl hi62) ?_
      obtain ⟨_, ⟨_, _, rfl, rfl, ⟨_, _, rfl, ⟨_, rfl, hR69⟩, rfl⟩⟩, hl65, hc66⟩ := ((H.ro 2 rfl).at hx61 hi62).cells
      obtain ⟨a67, c68, rfl⟩ := hR69.isSl
      replace H := H.add (d := Ch.ro 0 (Sl a67 x60.2.1 c68) x60.2.1) hR69 (fun _ h => h)
      clear hR69
      refine st (v := (.agg #[(I x60.1), (Sl a67 x60.2.1 c68), (I x60.2.2)])) (rv_load Try.underlying26 rfl ti26 rfl hl65 hc66) ?_
      refine st_ex (ex_alloc (cs := [(I 0), (.slice none 0 0), (I 0)]) H hn0 ti26 rfl) wn ?_
      rintro _ σ71 ⟨b70, rfl, H, -⟩
      refine st_exS (ex_store_box (k := 0) (cs := [(I 0), (.slice none 0 0), (I 0)]) (vs := [(I x60.1), (Sl a67 x60.2.1 c68), (I x60.2.2)]) (cs' := [(I x60.1), (Sl a67 x60.2.1 c68), (I x60.2.2)]) H (i := 0) rfl ti26 rfl rfl rfl rfl rfl (Nat.le_of_ble_eq_true rfl) (by simp [plain]) rfl) wn ?_
      rintro σ72 ⟨H, -⟩
      refine w_end ?_
      refine q_then ?_
      refine c_seq ?_
      refine rg ?_
      refine st (v := (pt b70 1)) (rv_fieldAddr (off := 1) (ft := 24) Try.underlying26 rfl ti24 rfl rfl) ?_
      have hc73 := H.cell (u := (Sl a67 x60.2.1 c68)) (o' := 1) 0 1 rfl rfl rfl
      refine st (v := (Sl a67 x60.2.1 c68)) (rv_load1 Try.underlying24 rfl rfl hc73) ?_
      refine st (v := (I (x60.2.1.length : Int))) (rv_len Try.underlying24 rfl) ?_
      refine st (v := (I 0)) (rv_move rfl) ?_
      refine w_end ?_
      refine q_then ?_
      obtain ⟨o74, hj, h'⟩ := bind_some h
      clear h
      refine c_cut (fun e a w => e = .normal ∧ ∃ (ρ : Nat → Value) (σ : St), a = fr 64 (updL ρ [(5, (pt b43 0)), (6, (pt b44 0)), (32, (Sl a50 xs48 c51)), (33, (I (xs48.length : Int))), (34, (I s55.2.2))]) ∧ w = σ.w ∧ Hp S0 σ0 σ [Ch.bx n0 b43 0 (List.map I o74.1) [] [], Ch.bx n0 b44 0 (List.map I o74.2) [] [], Ch.ro 0 (Sl a50 xs48 c51) xs48] ∧ o74.1.length = 4 ∧ o74.2.length = 4) ?_ ?_
      ·clear h'
       rename _ = some o74 => h
       refine c_blk ?_
       refine wp_loopM _ h (fun s75 a w => ∃ (ρ : Nat → Value) (σ : St), a = fr 64 (updL ρ [(5, (pt b43 0)), (6, (pt b44 0)), (32, (Sl a50 xs48 c51)), (33, (I (xs48.length : Int))), (34, (I s55.2.2)), (39, (Sl a67 x60.2.1 c68)), (40, (I (x60.2.1.length : Int))), (41, (I s75.2.2))]) ∧ w = σ.w ∧ Hp S0 σ0 σ [Ch.bx n0 b43 0 (List.map I s75.1) [] [], Ch.bx n0 b44 0 (List.map I s75.2.1) [] [], Ch.ro 0 (Sl a50 xs48 c51) xs48, Ch.ro 0 (Sl a67 x60.2.1 c68) x60.2.1] ∧ s75.1.length = 4 ∧ s75.2.1.length = 4) ⟨_, σ72, fr_join ⟨rfl, rfl, rfl, rfl, rfl, rfl, rfl, rfl, trivial⟩, rfl, H.sel' [2, 3, 4, 1] rfl rfl, hl57, hl58⟩ ?_
       clear h H
       rintro s75 a w o ⟨ρ, σ76, rfl, rfl, H, hl77, hl78⟩ h hres
       refine c_seq ?_
       refine rg ?_
       refine st (v := (B (decide (s75.2.2 < (x60.2.1.length : Int))))) (rv_lss (a := s75.2.2) (b := (x60.2.1.length : Int)) rfl rfl) ?_
       refine w_end ?_
       refine q_then ?_
       refine c_seq ?_
       refine cd_cond (decide (s75.2.2 < (x60.2.1.length : Int))) rfl (fun hb79 => ?_) (fun hb79 => ?_)
       ·replace h := bif_t hb79 h
        refine c_skip ?_
        refine q_then ?_
        refine c_seq ?_
        refine c_blk ?_
        refine c_seq ?_
        refine rg ?_
        refine st (v := (I s75.2.2)) (rv_move rfl) ?_
        obtain ⟨x80, hx81, h'⟩ := bind_some h
        clear h
        have h := h'; clear h'
        obtain ⟨b83, o84, hi82, -⟩ := (H.ro 3 rfl).ix hx81
        refine st (v := (pt b83 o84)) (rv_ix Try.underlying24 ti3 rfl rfl hi82) ?_
        have hc85 := ((H.ro 3 rfl).at hx81 hi82).int
        refine st (v := (I x80)) (rv_load1 Try.underlying3 rfl rfl hc85) ?_
        refine st (v := (I s75.2.2)) (rv_assign rfl) ?_
        refine st (v := (I x80)) (rv_assign rfl) ?_
        refine w_end ?_
        refine q_then ?_
        refine c_seq ?_
        refine rg ?_
        refine st (v := (I s75.2.2)) (rv_move rfl) ?_
        refine st (v := (I s75.2.2)) (rv_move rfl) ?_
        obtain ⟨x86, hx87, h'⟩ := bind_some h
        clear h
        have h := h'; clear h'
        have hl88 := gidx_lt hx87 hl77
        refine st (v := (pt b43 (0 + s75.2.2.toNat * 1))) (rv_indexAddr_array Try.underlying70 ti3 rfl rfl hl88.1 hl88.2) ?_
        have hc89 := Hp.arrCell H 0 rfl hx87
        refine st (v := (I x86)) (rv_load1 Try.underlying3 rfl rfl hc89) ?_
        refine st (v := (I x80)) (rv_move rfl) ?_
        refine st (v := (I (min x86 x80))) (rv_min rfl rfl) ?_
        obtain ⟨x90, hx91, h'⟩ := bind_some h
        clear h
        have h := h'; clear h'
        have hl92 := gidx_lt hx91 hl77
        refine st (v := (pt b43 (0 + s75.2.2.toNat * 1))) (rv_indexAddr_array Try.underlying70 ti3 rfl rfl hl92.1 hl92.2) ?_
        have hl93 := gidx_lt hx91 hl77
        refine st_exS (ex_store_box (k := s75.2.2.toNat * 1) (vs := [(I (min x86 x80))]) (cs' := (List.map I (s75.1.set s75.2.2.toNat (min x86 x80)))) H (i := 0) rfl ti3 rfl rfl rfl rfl rfl (by rw [List.length_map, hl77]; simp; omega) (by simp [plain]) (arr_set' _ _ _)) wn ?_
        rintro σ94 ⟨H, -⟩
        refine w_end ?_
        refine q_then ?_
        refine rg ?_
        refine st (v := (I s75.2.2)) (rv_move rfl) ?_
        refine st (v := (I s75.2.2)) (rv_move rfl) ?_
        obtain ⟨x95, hx96, h'⟩ := bind_some h
        clear h
        have h := h'; clear h'
        have hl97 := gidx_lt hx96 hl78
        refine st (v := (pt b44 (0 + s75.2.2.toNat * 1))) (rv_indexAddr_array Try.underlying70 ti3 rfl rfl hl97.1 hl97.2) ?_
        have hc98 := Hp.arrCell H 1 rfl hx96
        refine st (v := (I x95)) (rv_load1 Try.underlying3 rfl rfl hc98) ?_
        refine st (v := (I x80)) (rv_move rfl) ?_
        refine st (v := (I (max x95 x80))) (rv_max rfl rfl) ?_
        obtain ⟨x99, hx100, h'⟩ := bind_some h
        clear h
        have h := h'; clear h'
        have hl101 := gidx_lt hx100 hl78
        refine st (v := (pt b44 (0 + s75.2.2.toNat * 1))) (rv_indexAddr_array Try.underlying70 ti3 rfl rfl hl101.1 hl101.2) ?_
        have hl102 := gidx_lt hx100 hl78
        refine st_exS (ex_store_box (k := s75.2.2.toNat * 1) (vs := [(I (max x95 x80))]) (cs' := (List.map I (s75.2.1.set s75.2.2.toNat (max x95 x80)))) H (i := 1) rfl ti3 rfl rfl rfl rfl rfl (by rw [List.length_map, hl78]; simp; omega) (by simp [plain]) (arr_set' _ _ _)) wn ?_
        rintro σ103 ⟨H, -⟩
        refine w_end ?_
        refine q_blk ?_
        refine q_then ?_
        refine rg ?_
        refine st (v := (I (w64 (s75.2.2 + 1)))) (rv_add (a := s75.2.2) (b := 1) rfl rfl) ?_
        refine st (v := (I (w64 (s75.2.2 + 1)))) (rv_move rfl) ?_
        refine w_end ?_
        refine q_then ?_
        obtain rfl := Option.some.inj h
        exact ⟨_, rfl, _, σ103, fr_join ⟨rfl, rfl, rfl, rfl, rfl, rfl, rfl, rfl, trivial⟩, rfl, H.sel' [1, 0, 2, 3] rfl rfl, (set_len hl77), (set_len hl78)⟩
       ·replace h := bif_f hb79 h
        refine c_exit ?_
        refine q_then_x ?_
        refine q_then_x ?_
        refine q_blk_hit ?_
        obtain rfl := Option.some.inj h
        obtain rfl := hres _ rfl
        exact ⟨rfl, _, σ76, fr_join ⟨rfl, rfl, rfl, rfl, rfl, trivial⟩, rfl, H.sel' [0, 1, 2] rfl rfl, hl77, hl78⟩
      ·clear hj
       have h := h'
       clear h' H
       rintro e a w ⟨rfl, ρ, σ104, rfl, rfl, H, hl105, hl106⟩
       refine q_blk ?_
       refine q_then ?_
       refine rg ?_
       refine st (v := (I (w64 (s55.2.2 + 1)))) (rv_add (a := s55.2.2) (b := 1) rfl rfl) ?_
       refine st (v := (I (w64 (s55.2.2 + 1)))) (rv_move rfl) ?_
       refine w_end ?_
       refine q_then ?_
       obtain rfl := Option.some.inj h
       exact ⟨_, rfl, _, σ104, fr_join ⟨rfl, rfl, rfl, rfl, rfl, trivial⟩, rfl, H.sel' [0, 1, 2] rfl rfl, hl105, hl106⟩
     ·replace h := bif_f hb59 h
      refine c_exit ?_
      refine q_then_x ?_
      refine q_then_x ?_
      refine q_blk_hit ?_
      obtain rfl := Option.some.inj h
      obtain rfl := hres _ rfl
      exact ⟨rfl, _, σ56, fr_join ⟨rfl, rfl, trivial⟩, rfl, H.sel' [0, 1] rfl rfl, hl57, hl58⟩
    ·clear hj
     have h := h'
     clear h' H
     rintro e a w ⟨rfl, ρ, σ107, rfl, rfl, H, hl108, hl109⟩
     refine q_then ?_
     refine c_seq ?_
     refine rgP (σ := σ107) 3 (by kernel_rfl) (by kernel_rfl) (by kernel_rfl) ?_
     replace H := Hp.arr (el := n0) H (i := 0) rfl hl108
     refine sq (v := (Sl (some ⟨b43, 0, none⟩) o54.1 4)) (rv_slice_arrL Try.underlying70 ti3 (by decide) rfl hl108) ?_
     replace H := Hp.arr (el := n0) H (i := 1) rfl hl109
     refine sq (v := (Sl (some ⟨b44, 0, none⟩) o54.2 4)) (rv_slice_arrL Try.underlying70 ti3 (by decide) rfl hl109) ?_
     refine sq (v := (Sl (some ⟨b43, 0, none⟩) o54.1 4)) (rv_assign rfl) ?_
     refine sq_end ?_
     intro σ110 hm111
     replace H := H.grow (hm111.mono fun _ h => h); clear hm111
     refine st (v := (Sl (some ⟨b44, 0, none⟩) o54.2 4)) (rv_assign rfl) ?_
     refine st (v := (B true)) (rv_assign rfl) ?_
     refine w_end ?_
     refine q_then ?_
     refine c_ret ?_
     obtain rfl := Option.some.inj h
     exact fin_ret (v := (.tuple #[(Sl (some ⟨b43, 0, none⟩) o54.1 4), (Sl (some ⟨b44, 0, none⟩) o54.2 4), (B true)])) (results_ok Try.results16 (res_tmp (v := (Sl (some ⟨b43, 0, none⟩) o54.1 4)) rfl (res_tmp (v := (Sl (some ⟨b44, 0, none⟩) o54.2 4)) rfl (res_tmp (v := (B true)) rfl res_nil))) rfl) ⟨(some ⟨b43, 0, none⟩), 4, (some ⟨b44, 0, none⟩), 4, rfl, rfl, hl108.symm, hl109.symm⟩ (H.sel' [1, 0] rfl rfl)

theorem c_laws_FnBoundsOfPut {code_0 : List UInt8} {acode_0 : Option Addr} {ccode_0 : Nat} {r : Bool} (h : M.laws_FnBoundsOfPut code_0 = some r) :
    Cal2 Try.prog 3 [(Sl acode_0 code_0 ccode_0)] [Ch.ro 0 (Sl acode_0 code_0 ccode_0) code_0] (fun n0 v L => v = (B r) ∧ L = []) := by
 refine cal2 (n := 125) Try.func3 rfl rfl rfl rfl ?_
 intro S0 σ0 n0 hn0 H
 unfold M.laws_FnBoundsOfPut at h
 refine c_seq ?_
 refine rg ?_
 refine st (v := (B false)) (rv_assign rfl) ?_
 refine w_end ?_
 refine q_then ?_
 refine c_seq ?_
 refine c_seq ?_
 refine rg ?_
 refine st (v := (Sl acode_0 code_0 ccode_0)) (rv_move rfl) ?_
 refine st (v := (I (code_0.length : Int))) (rv_len Try.underlying22 rfl) ?_
 refine st (v := (B (decide (1048576 < (code_0.length : Int))))) (rv_gtr (a := (code_0.length : Int)) (b := 1048576) rfl rfl) ?_
 refine w_end ?_
 refine q_then ?_
 refine cd_cond (decide (1048576 < (code_0.length : Int))) rfl (fun hb1 => ?_) (fun hb1 => ?_)
 ·replace h := bif_t hb1 h
  refine c_seq ?_
  refine rg ?_
  refine st (v := (B true)) (rv_assign rfl) ?_
  refine w_end ?_
  refine q_then ?_
  refine c_ret ?_
  refine q_then_r ?_
  obtain rfl := Option.some.inj h
  exact fin_ret (v := (B true)) (results_ok Try.results3 (res_tmp (v := (B true)) rfl res_nil) rfl) ⟨rfl, rfl⟩ (H.sel' [] rfl rfl)
 ·replace h := bif_f hb1 h
  refine c_skip ?_
  refine q_then ?_
  refine c_seq ?_
  refine rg ?_
  refine st (v := (Sl acode_0 code_0 ccode_0)) (rv_move rfl) ?_
  obtain ⟨r2, hx3, h'⟩ := bind_some h
  clear h
  have h := h'; clear h'
  have hc4 := c_spec_DrawPutItem (acode_0 := acode_0) (ccode_0 := ccode_0) hx3
  refine st_call (cx_call hc4 (ent_f hc4.fn rfl) hn0 (show Hp S0 σ0 _ ([Ch.ro 0 (Sl acode_0 code_0 ccode_0) code_0] ++ [Ch.ro 0 (Sl acode_0 code_0 ccode_0) code_0]) from (H.sel' [0, 0] rfl rfl))) wn ?_
  rintro _ σ9 ⟨_, ⟨a5, c6, a7, c8, rfl, rfl⟩, H, -⟩
  replace H : Hp S0 σ0 σ9 [Ch.own n0 n0 (Sl a5 r2.1 c6) r2.1, Ch.own n0 n0 (Sl a7 r2.2.2.1 c8) r2.2.2.1, Ch.ro 0 (Sl acode_0 code_0 ccode_0) code_0] := H
  refine st (v := (.tuple #[(Sl a5 r2.1 c6), (.agg #[(I r2.2.1), (Sl a7 r2.2.2.1 c8), (I r2.2.2.2)])])) (rv_move rfl) ?_
  refine st (v := (Sl a5 r2.1 c6)) (rv_extract rfl rfl) ?_
  refine st (v := (.agg #[(I r2.2.1), (Sl a7 r2.2.2.1 c8), (I r2.2.2.2)])) (rv_extract rfl rfl) ?_
  refine st_ex (ex_alloc (cs := [(I 0), (.slice none 0 0), (I 0)]) H hn0 ti26 rfl) wn ?_
  rintro _ σ11 ⟨b10, rfl, H, -⟩
  refine st (v := (Sl a5 r2.1 c6)) (rv_assign rfl) ?_
  refine st_exS (ex_store_box (k := 0) (cs := [(I 0), (.slice none 0 0), (I 0)]) (vs := [(I r2.2.1), (Sl a7 r2.2.2.1 c8), (I r2.2.2.2)]) (cs' := [(I r2.2.1), (Sl a7 r2.2.2.1 c8), (I r2.2.2.2)]) H (i := 0) rfl ti26 rfl rfl rfl rfl rfl (Nat.le_of_ble_eq_true rfl) (by simp [plain]) rfl) wn ?_
  rintro σ12 ⟨H, -⟩
  refine w_end ?_
  refine q_then ?_
  refine c_seq ?_
  refine rg ?_
  refine st (v := (Sl a5 r2.1 c6)) (rv_move rfl) ?_
  have hc13 := H.cells 0 rfl
  refine st (v := (.agg #[(I r2.2.1), (Sl a7 r2.2.2.1 c8), (I r2.2.2.2)])) (rv_load (cs := [(I r2.2.1), (Sl a7 r2.2.2.1 c8), (I r2.2.2.2)]) Try.underlying26 rfl ti26 rfl rfl hc13) ?_
  obtain ⟨σ14, hw15, H, -⟩ := H.pub 1 rfl (Nat.le_refl _)
  rw [← hw15]; clear hw15
  obtain ⟨σ16, hw17, H, -⟩ := H.pub 2 rfl (Nat.le_refl _)
  rw [← hw17]; clear hw17
  replace H := H.roLow 1 0 rfl (Nat.zero_le _)
  replace H := H.roLow 1 0 rfl (Nat.zero_le _)
  obtain ⟨r18, hx19, h'⟩ := bind_some h
  clear h
  have h := h'; clear h'
  have hc20 := c_impl_PutItem (alist_0 := a5) (clist_0 := c6) (ax_1_1 := a7) (cx_1_1 := c8) hx19
  refine st_call (cx_call hc20 (ent_f hc20.fn rfl) hn0 (show Hp S0 σ0 _ ([Ch.ro 0 (Sl a5 r2.1 c6) r2.1, Ch.ro 0 (Sl a7 r2.2.2.1 c8) r2.2.2.1] ++ [Ch.ro 0 (Sl a7 r2.2.2.1 c8) r2.2.2.1, Ch.ro 0 (Sl a5 r2.1 c6) r2.1, Ch.ro n0 (Sl a7 r2.2.2.1 c8) r2.2.2.1, Ch.ro n0 (Sl a5 r2.1 c6) r2.1, Ch.bx n0 b10 0 [(I r2.2.1), (Sl a7 r2.2.2.1 c8), (I r2.2.2.2)] [] [], Ch.ro 0 (Sl acode_0 code_0 ccode_0) code_0]) from (H.sel' [1, 0, 0, 1, 2, 3, 4, 5] rfl rfl))) wn ?_
  rintro _ σ23 ⟨_, ⟨a21, c22, rfl, rfl⟩, H, -⟩
  replace H : Hp S0 σ0 σ23 [Ch.own 0 0 (Sl a21 r18.1 c22) r18.1, Ch.ro 0 (Sl a7 r2.2.2.1 c8) r2.2.2.1, Ch.ro 0 (Sl a5 r2.1 c6) r2.1, Ch.ro n0 (Sl a7 r2.2.2.1 c8) r2.2.2.1, Ch.ro n0 (Sl a5 r2.1 c6) r2.1, Ch.bx n0 b10 0 [(I r2.2.1), (Sl a7 r2.2.2.1 c8), (I r2.2.2.2)] [] [], Ch.ro 0 (Sl acode_0 code_0 ccode_0) code_0] := H
  refine st (v := (.tuple #[(Sl a21 r18.1 c22), (B r18.2)])) (rv_move rfl) ?_
  refine st (v := (Sl a21 r18.1 c22)) (rv_extract rfl rfl) ?_
  refine st (v := (B r18.2)) (rv_extract rfl rfl) ?_
  refine st (v := (Sl a21 r18.1 c22)) (rv_assign rfl) ?_
  refine st (v := (B r18.2)) (rv_assign rfl) ?_
  refine w_end ?_
  refine q_then ?_
  refine c_seq ?_
  refine rg ?_
  refine st (v := (Sl a5 r2.1 c6)) (rv_move rfl) ?_
  have hc24 := H.cells 5 rfl
  refine st (v := (.agg #[(I r2.2.1), (Sl a7 r2.2.2.1 c8), (I r2.2.2.2)])) (rv_load (cs := [(I r2.2.1), (Sl a7 r2.2.2.1 c8), (I r2.2.2.2)]) Try.underlying26 rfl ti26 rfl rfl hc24) ?_
  replace H := H.roLow 4 0 rfl (Nat.zero_le _)
  replace H := H.roLow 4 0 rfl (Nat.zero_le _)
  obtain ⟨r25, hx26, h'⟩ := bind_some h
  clear h
  have h := h'; clear h'
  have hc27 := c_spec_PutItem (alist_0 := a5) (clist_0 := c6) (ax_1_1 := a7) (cx_1_1 := c8) hx26
  refine st_call (cx_call hc27 (ent_f hc27.fn rfl) hn0 (show Hp S0 σ0 _ ([Ch.ro 0 (Sl a5 r2.1 c6) r2.1, Ch.ro 0 (Sl a7 r2.2.2.1 c8) r2.2.2.1] ++ [Ch.ro 0 (Sl a7 r2.2.2.1 c8) r2.2.2.1, Ch.ro 0 (Sl a5 r2.1 c6) r2.1, Ch.own 0 0 (Sl a21 r18.1 c22) r18.1, Ch.ro 0 (Sl a7 r2.2.2.1 c8) r2.2.2.1, Ch.ro 0 (Sl a5 r2.1 c6) r2.1, Ch.ro n0 (Sl a7 r2.2.2.1 c8) r2.2.2.1, Ch.ro n0 (Sl a5 r2.1 c6) r2.1, Ch.bx n0 b10 0 [(I r2.2.1), (Sl a7 r2.2.2.1 c8), (I r2.2.2.2)] [] [], Ch.ro 0 (Sl acode_0 code_0 ccode_0) code_0]) from (H.sel' [1, 0, 0, 1, 2, 3, 4, 5, 6, 7, 8] rfl rfl))) wn ?_
  rintro _ σ30 ⟨_, ⟨a28, c29, rfl, rfl⟩, H, -⟩
  replace H : Hp S0 σ0 σ30 [Ch.own n0 n0 (Sl a28 r25.1 c29) r25.1, Ch.ro 0 (Sl a7 r2.2.2.1 c8) r2.2.2.1, Ch.ro 0 (Sl a5 r2.1 c6) r2.1, Ch.own 0 0 (Sl a21 r18.1 c22) r18.1, Ch.ro 0 (Sl a7 r2.2.2.1 c8) r2.2.2.1, Ch.ro 0 (Sl a5 r2.1 c6) r2.1, Ch.ro n0 (Sl a7 r2.2.2.1 c8) r2.2.2.1, Ch.ro n0 (Sl a5 r2.1 c6) r2.1, Ch.bx n0 b10 0 [(I r2.2.1), (Sl a7 r2.2.2.1 c8), (I r2.2.2.2)] [] [], Ch.ro 0 (Sl acode_0 code_0 ccode_0) code_0] := H
  replace H : Hp S0 σ0 σ30 [Ch.own n0 n0 (Sl a28 r25.1 c29) r25.1, Ch.own 0 0 (Sl a21 r18.1 c22) r18.1, Ch.ro n0 (Sl a7 r2.2.2.1 c8) r2.2.2.1, Ch.ro n0 (Sl a5 r2.1 c6) r2.1, Ch.bx n0 b10 0 [(I r2.2.1), (Sl a7 r2.2.2.1 c8), (I r2.2.2.2)] [] []] := H.sel' [0, 3, 6, 7, 8] rfl rfl
  refine st (v := (.tuple #[(Sl a28 r25.1 c29), (B r25.2)])) (rv_move rfl) ?_
  refine st (v := (Sl a28 r25.1 c29)) (rv_extract rfl rfl) ?_
  refine st (v := (B r25.2)) (rv_extract rfl rfl) ?_
  refine st (v := (Sl a28 r25.1 c29)) (rv_assign rfl) ?_
  refine st (v := (B r25.2)) (rv_assign rfl) ?_
  refine w_end ?_
  refine q_then ?_
  refine c_seq ?_
  refine c_seq ?_
  obtain ⟨o31, hj, h'⟩ := bind_some h
  clear h
  refine c_cut (fun e a w => e = .normal ∧ ∃ (ρ : Nat → Value) (σ : St), a = fr 125 (updL ρ [(3, (Sl a5 r2.1 c6)), (4, (pt b10 0)), (5, (Sl a21 r18.1 c22)), (6, (B r18.2)), (7, (Sl a28 r25.1 c29)), (8, (B r25.2)), (60, (B o31))]) ∧ w = σ.w ∧ Hp S0 σ0 σ [Ch.ro n0 (Sl a5 r2.1 c6) r2.1, Ch.ro n0 (Sl a7 r2.2.2.1 c8) r2.2.2.1, Ch.bx n0 b10 0 [(I r2.2.1), (Sl a7 r2.2.2.1 c8), (I r2.2.2.2)] [] [], Ch.own 0 0 (Sl a21 r18.1 c22) r18.1, Ch.own n0 n0 (Sl a28 r25.1 c29) r25.1]) ?_ ?_
  ·clear h'
   rename _ = some o31 => h
   refine rg ?_
   refine st (v := (Sl a21 r18.1 c22)) (rv_move rfl) ?_
   refine st (v := (Sl a28 r25.1 c29)) (rv_move rfl) ?_
   obtain ⟨r32, hx33, h'⟩ := bind_some h
   clear h
   have h := h'; clear h'
   have hc34 := c_laws_equalItems (aa_0 := a21) (ca_0 := c22) (ab_1 := a28) (cb_1 := c29) hx33
   have hle := Nat.le_trans hn0 H.size
   refine st_call (cx_lend (Loan.lend (Loan.lend Loan.nil)) hc34 (ent_f hc34.fn rfl) (show Hp S0 σ0 _ ([Ch.own 0 0 (Sl a21 r18.1 c22) r18.1, Ch.own n0 n0 (Sl a28 r25.1 c29) r25.1] ++ ([] ++ [Ch.ro n0 (Sl a7 r2.2.2.1 c8) r2.2.2.1, Ch.ro n0 (Sl a5 r2.1 c6) r2.1, Ch.bx n0 b10 0 [(I r2.2.1), (Sl a7 r2.2.2.1 c8), (I r2.2.2.2)] [] []])) from (H.sel' [1, 0, 2, 3, 4] rfl rfl)) (by rintro _ _ _ ⟨rfl, rfl⟩; exact trivial)) wn ?_
   rintro _ σ35 ⟨_, ⟨rfl, rfl⟩, H, -, -⟩
   replace H : Hp S0 σ0 σ35 [Ch.own 0 0 (Sl a21 r18.1 c22) r18.1, Ch.own n0 n0 (Sl a28 r25.1 c29) r25.1, Ch.ro n0 (Sl a7 r2.2.2.1 c8) r2.2.2.1, Ch.ro n0 (Sl a5 r2.1 c6) r2.1, Ch.bx n0 b10 0 [(I r2.2.1), (Sl a7 r2.2.2.1 c8), (I r2.2.2.2)] [] []] := H
   clear hle
   replace H : Hp S0 σ0 σ35 [Ch.own 0 0 (Sl a21 r18.1 c22) r18.1, Ch.own n0 n0 (Sl a28 r25.1 c29) r25.1, Ch.ro n0 (Sl a7 r2.2.2.1 c8) r2.2.2.1, Ch.ro n0 (Sl a5 r2.1 c6) r2.1, Ch.bx n0 b10 0 [(I r2.2.1), (Sl a7 r2.2.2.1 c8), (I r2.2.2.2)] [] []] := H
   refine st (v := (B (!r32))) (rv_not rfl) ?_
   refine st (v := (B (!r32))) (rv_move rfl) ?_
   rcases Bool.eq_false_or_eq_true (!r32) with hb36 | hb36
   ·replace h := bif_t hb36 h
    refine st_skip (congrArg some hb36) ?_
    refine st_skip (congrArg some hb36) ?_
    refine st_skip (congrArg some hb36) ?_
    refine st (v := (B true)) (rv_pick_t (congrArg B hb36) rfl) ?_
    refine st (v := (B true)) (rv_move rfl) ?_
    refine st_skip rfl ?_
    refine st_skip rfl ?_
    refine st (v := (B true)) (rv_pick_t rfl rfl) ?_
    refine st (v := (B true)) (rv_move rfl) ?_
    refine st_skip rfl ?_
    refine st_skip rfl ?_
    refine st_skip rfl ?_
    refine st (v := (B true)) (rv_pick_t rfl rfl) ?_
    refine st (v := (B true)) (rv_move rfl) ?_
    refine st_skip rfl ?_
    refine st_skip rfl ?_
    refine st_skip rfl ?_
    refine st_skip rfl ?_
    refine st_skip rfl ?_
    refine st (v := (B true)) (rv_pick_t rfl rfl) ?_
    refine w_end ?_
    obtain rfl := Option.some.inj h
    exact ⟨rfl, _, σ35, fr_join ⟨rfl, rfl, rfl, rfl, rfl, rfl, rfl, trivial⟩, rfl, H.sel' [3, 2, 4, 0, 1] rfl rfl⟩
   ·replace h := bif_f hb36 h
    refine st_g (v := (B r18.2)) (congrArg some hb36) (rv_move rfl) ?_
    refine st_g (v := (B r25.2)) (congrArg some hb36) (rv_move rfl) ?_
    refine st_g (v := (B (r18.2 != r25.2))) (congrArg some hb36) (rv_bneq Try.underlying4 rfl rfl) ?_
    refine st (v := (B (r18.2 != r25.2))) (rv_pick_f (congrArg B hb36) rfl) ?_
    refine st (v := (B (r18.2 != r25.2))) (rv_move rfl) ?_
    rcases Bool.eq_false_or_eq_true (r18.2 != r25.2) with hb37 | hb37
    ·replace h := bif_t hb37 h
     refine st_skip (congrArg some hb37) ?_
     refine st_skip (congrArg some hb37) ?_
     refine st (v := (B true)) (rv_pick_t (congrArg B hb37) rfl) ?_
     refine st (v := (B true)) (rv_move rfl) ?_
     refine st_skip rfl ?_
     refine st_skip rfl ?_
     refine st_skip rfl ?_
     refine st (v := (B true)) (rv_pick_t rfl rfl) ?_
     refine st (v := (B true)) (rv_move rfl) ?_
     refine st_skip rfl ?_
     refine st_skip rfl ?_
     refine st_skip rfl ?_
     refine st_skip rfl ?_
     refine st_skip rfl ?_
     refine st (v := (B true)) (rv_pick_t rfl rfl) ?_
     refine w_end ?_
     obtain rfl := Option.some.inj h
     exact ⟨rfl, _, σ35, fr_join ⟨rfl, rfl, rfl, rfl, rfl, rfl, rfl, trivial⟩, rfl, H.sel' [3, 2, 4, 0, 1] rfl rfl⟩
    ·replace h := bif_f hb37 h
     refine st_g (v := (B r18.2)) (congrArg some hb37) (rv_move rfl) ?_
     refine st_g (v := (B (!r18.2))) (congrArg some hb37) (rv_not rfl) ?_
     refine st (v := (B (!r18.2))) (rv_pick_f (congrArg B hb37) rfl) ?_
     refine st (v := (B (!r18.2))) (rv_move rfl) ?_
     rcases Bool.eq_false_or_eq_true (!r18.2) with hb38 | hb38
     ·replace h := bif_t hb38 h
      refine st_skip (congrArg some hb38) ?_
      refine st_skip (congrArg some hb38) ?_
      refine st_skip (congrArg some hb38) ?_
      refine st (v := (B true)) (rv_pick_t (congrArg B hb38) rfl) ?_
      refine st (v := (B true)) (rv_move rfl) ?_
      refine st_skip rfl ?_
      refine st_skip rfl ?_
      refine st_skip rfl ?_
      refine st_skip rfl ?_
      refine st_skip rfl ?_
      refine st (v := (B true)) (rv_pick_t rfl rfl) ?_
      refine w_end ?_
      obtain rfl := Option.some.inj h
      exact ⟨rfl, _, σ35, fr_join ⟨rfl, rfl, rfl, rfl, rfl, rfl, rfl, trivial⟩, rfl, H.sel' [3, 2, 4, 0, 1] rfl rfl⟩
     ·replace h := bif_f hb38 h
      refine st_g (v := (Sl a5 r2.1 c6)) (congrArg some hb38) (rv_move rfl) ?_
      refine st_g (v := (I (r2.1.length : Int))) (congrArg some hb38) (rv_len Try.underlying23 rfl) ?_
      refine st_g (v := (B ((r2.1.length : Int) == 0))) (congrArg some hb38) (rv_eql (a := (r2.1.length : Int)) (b := 0) rfl rfl) ?_
      refine st (v := (B ((r2.1.length : Int) == 0))) (rv_pick_f (congrArg B hb38) rfl) ?_
      refine st (v := (B ((r2.1.length : Int) == 0))) (rv_move rfl) ?_
      rcases Bool.eq_false_or_eq_true ((r2.1.length : Int) == 0) with hb39 | hb39
      ·replace h := bif_t hb39 h
       refine st_skip (congrArg some hb39) ?_
       refine st_skip (congrArg some hb39) ?_
       refine st_skip (congrArg some hb39) ?_
       refine st_skip (congrArg some hb39) ?_
       refine st_skip (congrArg some hb39) ?_
       refine st (v := (B true)) (rv_pick_t (congrArg B hb39) rfl) ?_
       refine w_end ?_
       obtain rfl := Option.some.inj h
       exact ⟨rfl, _, σ35, fr_join ⟨rfl, rfl, rfl, rfl, rfl, rfl, rfl, trivial⟩, rfl, H.sel' [3, 2, 4, 0, 1] rfl rfl⟩
      ·replace h := bif_f hb39 h
       refine st_g (v := (Sl a21 r18.1 c22)) (congrArg some hb39) (rv_move rfl) ?_
       refine st_g (v := (I (r18.1.length : Int))) (congrArg some hb39) (rv_len Try.underlying23 rfl) ?_
       refine st_g (v := (Sl a5 r2.1 c6)) (congrArg some hb39) (rv_move rfl) ?_
       refine st_g (v := (I (r2.1.length : Int))) (congrArg some hb39) (rv_len Try.underlying23 rfl) ?_
       refine st_g (v := (B ((r18.1.length : Int) == (r2.1.length : Int)))) (congrArg some hb39) (rv_eql (a := (r18.1.length : Int)) (b := (r2.1.length : Int)) rfl rfl) ?_
       refine st (v := (B ((r18.1.length : Int) == (r2.1.length : Int)))) (rv_pick_f (congrArg B hb39) rfl) ?_
       refine w_end ?_
       obtain rfl := Option.some.inj h
       exact ⟨rfl, _, σ35, fr_join ⟨rfl, rfl, rfl, rfl, rfl, rfl, rfl, trivial⟩, rfl, H.sel' [3, 2, 4, 0, 1] rfl rfl⟩
  ·clear hj
   have h := h'
   clear h' H
   rintro e a w ⟨rfl, ρ, σ40, rfl, rfl, H⟩
   refine q_then ?_
   refine cd_cond o31 rfl (fun hb41 => ?_) (fun hb41 => ?_)
   ·replace h := bif_t hb41 h
    refine c_seq ?_
    refine rg ?_
    refine st (v := (Sl a21 r18.1 c22)) (rv_move rfl) ?_
    refine st (v := (Sl a28 r25.1 c29)) (rv_move rfl) ?_
    obtain ⟨σ42, hw43, H, -⟩ := H.pub 3 rfl (Nat.le_refl _)
    rw [← hw43]; clear hw43
    obtain ⟨σ44, hw45, H, -⟩ := H.pub 4 rfl (Nat.le_refl _)
    rw [← hw45]; clear hw45
    replace H := H.roLow 0 0 rfl (Nat.zero_le _)
    obtain ⟨r46, hx47, h'⟩ := bind_some h
    clear h
    have h := h'; clear h'
    have hc48 := c_laws_equalItems (aa_0 := a21) (ca_0 := c22) (ab_1 := a28) (cb_1 := c29) hx47
    refine st_call (cx_call hc48 (ent_f hc48.fn rfl) hn0 (show Hp S0 σ0 _ ([Ch.ro 0 (Sl a21 r18.1 c22) r18.1, Ch.ro 0 (Sl a28 r25.1 c29) r25.1] ++ [Ch.ro 0 (Sl a28 r25.1 c29) r25.1, Ch.ro n0 (Sl a28 r25.1 c29) r25.1, Ch.ro 0 (Sl a21 r18.1 c22) r18.1, Ch.ro n0 (Sl a5 r2.1 c6) r2.1, Ch.ro n0 (Sl a7 r2.2.2.1 c8) r2.2.2.1, Ch.bx n0 b10 0 [(I r2.2.1), (Sl a7 r2.2.2.1 c8), (I r2.2.2.2)] [] []]) from (H.sel' [2, 0, 0, 1, 2, 3, 4, 5] rfl rfl))) wn ?_
    rintro _ σ49 ⟨_, ⟨rfl, rfl⟩, H, -⟩
    replace H : Hp S0 σ0 σ49 [Ch.ro 0 (Sl a28 r25.1 c29) r25.1, Ch.ro n0 (Sl a28 r25.1 c29) r25.1, Ch.ro 0 (Sl a21 r18.1 c22) r18.1, Ch.ro n0 (Sl a5 r2.1 c6) r2.1, Ch.ro n0 (Sl a7 r2.2.2.1 c8) r2.2.2.1, Ch.bx n0 b10 0 [(I r2.2.1), (Sl a7 r2.2.2.1 c8), (I r2.2.2.2)] [] []] := H
    refine st (v := (B r46)) (rv_move rfl) ?_
    rcases Bool.eq_false_or_eq_true r46 with hb50 | hb50
    ·replace h := bif_t hb50 h
     refine st_g (v := (B r18.2)) (congrArg some hb50) (rv_move rfl) ?_
     refine st_g (v := (B r25.2)) (congrArg some hb50) (rv_move rfl) ?_
     refine st_g (v := (B (r18.2 == r25.2))) (congrArg some hb50) (rv_beql Try.underlying4 rfl rfl) ?_
     refine st (v := (B (r18.2 == r25.2))) (rv_pick_t (congrArg B hb50) rfl) ?_
     refine st (v := (B (r18.2 == r25.2))) (rv_assign rfl) ?_
     refine w_end ?_
     refine q_then ?_
     refine c_ret ?_
     refine q_then_r ?_
     obtain rfl := Option.some.inj h
     exact fin_ret (v := (B (r18.2 == r25.2))) (results_ok Try.results3 (res_tmp (v := (B (r18.2 == r25.2))) rfl res_nil) rfl) ⟨rfl, rfl⟩ (H.sel' [] rfl rfl)
    ·replace h := bif_f hb50 h
     refine st_skip (congrArg some hb50) ?_
     refine st_skip (congrArg some hb50) ?_
     refine st_skip (congrArg some hb50) ?_
     refine st (v := (B false)) (rv_pick_f (congrArg B hb50) rfl) ?_
     refine st (v := (B false)) (rv_assign rfl) ?_
     refine w_end ?_
     refine q_then ?_
     refine c_ret ?_
     refine q_then_r ?_
     obtain rfl := Option.some.inj h
     exact fin_ret (v := (B false)) (results_ok Try.results3 (res_tmp (v := (B false)) rfl res_nil) rfl) ⟨rfl, rfl⟩ (H.sel' [] rfl rfl)
   ·replace h := bif_f hb41 h
    refine c_skip ?_
    refine q_then ?_
    refine c_seq ?_
    refine rg ?_
    refine st (v := (Sl a5 r2.1 c6)) (rv_move rfl) ?_
    replace H := H.roLow 0 0 rfl (Nat.zero_le _)
    obtain ⟨r51, hx52, h'⟩ := bind_some h
    clear h
    have h := h'; clear h'
    have hc53 := c_impl_BoundsOf (alist_0 := a5) (clist_0 := c6) hx52
    refine st_call (cx_call hc53 (ent_f hc53.fn rfl) hn0 (show Hp S0 σ0 _ ([Ch.ro 0 (Sl a5 r2.1 c6) r2.1] ++ [Ch.ro 0 (Sl a5 r2.1 c6) r2.1, Ch.ro n0 (Sl a5 r2.1 c6) r2.1, Ch.ro n0 (Sl a7 r2.2.2.1 c8) r2.2.2.1, Ch.bx n0 b10 0 [(I r2.2.1), (Sl a7 r2.2.2.1 c8), (I r2.2.2.2)] [] [], Ch.own 0 0 (Sl a21 r18.1 c22) r18.1, Ch.own n0 n0 (Sl a28 r25.1 c29) r25.1]) from (H.sel' [0, 0, 1, 2, 3, 4, 5] rfl rfl))) wn ?_
    rintro _ σ60 ⟨_, ⟨a54, c55, a57, c58, rfl, rfl, ht56, ht59⟩, H, -⟩
    replace H : Hp S0 σ0 σ60 [Ch.own n0 n0 (Sl a54 r51.1 c55) r51.1, Ch.own n0 n0 (Sl a57 r51.2.1 c58) r51.2.1, Ch.ro 0 (Sl a5 r2.1 c6) r2.1, Ch.ro n0 (Sl a5 r2.1 c6) r2.1, Ch.ro n0 (Sl a7 r2.2.2.1 c8) r2.2.2.1, Ch.bx n0 b10 0 [(I r2.2.1), (Sl a7 r2.2.2.1 c8), (I r2.2.2.2)] [] [], Ch.own 0 0 (Sl a21 r18.1 c22) r18.1, Ch.own n0 n0 (Sl a28 r25.1 c29) r25.1] := H
    replace H : Hp S0 σ0 σ60 [Ch.own n0 n0 (Sl a54 r51.1 c55) r51.1, Ch.own n0 n0 (Sl a57 r51.2.1 c58) r51.2.1, Ch.ro n0 (Sl a7 r2.2.2.1 c8) r2.2.2.1, Ch.bx n0 b10 0 [(I r2.2.1), (Sl a7 r2.2.2.1 c8), (I r2.2.2.2)] [] [], Ch.own 0 0 (Sl a21 r18.1 c22) r18.1] := H.sel' [0, 1, 4, 5, 6] rfl rfl
    refine st (v := (.tuple #[(Sl a54 r51.1 c55), (Sl a57 r51.2.1 c58), (B r51.2.2)])) (rv_move rfl) ?_
    refine st (v := (Sl a54 r51.1 c55)) (rv_extract rfl rfl) ?_
    refine st (v := (Sl a57 r51.2.1 c58)) (rv_extract rfl rfl) ?_
    refine st (v := (B r51.2.2)) (rv_extract rfl rfl) ?_
    refine st (v := (Sl a54 r51.1 c55)) (rv_assign rfl) ?_
    refine st (v := (Sl a57 r51.2.1 c58)) (rv_assign rfl) ?_
    refine st (v := (B r51.2.2)) (rv_assign rfl) ?_
    refine w_end ?_
    refine q_then ?_
    refine c_seq ?_
    refine rg ?_
    refine st (v := (Sl a21 r18.1 c22)) (rv_move rfl) ?_
    obtain ⟨σ61, hw62, H, -⟩ := H.pub 4 rfl (Nat.le_refl _)
    rw [← hw62]; clear hw62
    obtain ⟨r63, hx64, h'⟩ := bind_some h
    clear h
    have h := h'; clear h'
    have hc65 := c_impl_BoundsOf (alist_0 := a21) (clist_0 := c22) hx64
    refine st_call (cx_call hc65 (ent_f hc65.fn rfl) hn0 (show Hp S0 σ0 _ ([Ch.ro 0 (Sl a21 r18.1 c22) r18.1] ++ [Ch.ro 0 (Sl a21 r18.1 c22) r18.1, Ch.own n0 n0 (Sl a54 r51.1 c55) r51.1, Ch.own n0 n0 (Sl a57 r51.2.1 c58) r51.2.1, Ch.ro n0 (Sl a7 r2.2.2.1 c8) r2.2.2.1, Ch.bx n0 b10 0 [(I r2.2.1), (Sl a7 r2.2.2.1 c8), (I r2.2.2.2)] [] []]) from (H.sel' [0, 0, 1, 2, 3, 4] rfl rfl))) wn ?_
    rintro _ σ72 ⟨_, ⟨a66, c67, a69, c70, rfl, rfl, ht68, ht71⟩, H, -⟩
    replace H : Hp S0 σ0 σ72 [Ch.own n0 n0 (Sl a66 r63.1 c67) r63.1, Ch.own n0 n0 (Sl a69 r63.2.1 c70) r63.2.1, Ch.ro 0 (Sl a21 r18.1 c22) r18.1, Ch.own n0 n0 (Sl a54 r51.1 c55) r51.1, Ch.own n0 n0 (Sl a57 r51.2.1 c58) r51.2.1, Ch.ro n0 (Sl a7 r2.2.2.1 c8) r2.2.2.1, Ch.bx n0 b10 0 [(I r2.2.1), (Sl a7 r2.2.2.1 c8), (I r2.2.2.2)] [] []] := H
    refine st (v := (.tuple #[(Sl a66 r63.1 c67), (Sl a69 r63.2.1 c70), (B r63.2.2)])) (rv_move rfl) ?_
    refine st (v := (Sl a66 r63.1 c67)) (rv_extract rfl rfl) ?_
    refine st (v := (Sl a69 r63.2.1 c70)) (rv_extract rfl rfl) ?_
    refine st (v := (B r63.2.2)) (rv_extract rfl rfl) ?_
    refine st (v := (Sl a66 r63.1 c67)) (rv_assign rfl) ?_
    refine st (v := (Sl a69 r63.2.1 c70)) (rv_assign rfl) ?_
    refine st (v := (B r63.2.2)) (rv_assign rfl) ?_
    refine w_end ?_
    refine q_then ?_
    refine c_seq ?_
    refine c_seq ?_
    refine rg ?_
    refine st (v := (I 0)) (rv_assign rfl) ?_
    refine w_end ?_
    refine q_then ?_
    obtain ⟨o73, hj, h'⟩ := bind_some h
    clear h
    refine c_cut (fun e a w => (∃ t, o73 = (.inl t) ∧ e = .normal ∧ ∃ (ρ : Nat → Value) (σ : St), a = fr 125 (updL ρ []) ∧ w = σ.w ∧ Hp S0 σ0 σ []) ∨ (∃ t, o73 = (.inr t) ∧ e = .ret ∧ ∃ (ρ : Nat → Value) (σ : St), a = fr 125 (updL ρ [(2, (B t))]) ∧ w = σ.w ∧ Hp S0 σ0 σ [])) ?_ ?_
    ·clear h'
     rename _ = some o73 => h
     refine c_blk ?_
     refine wp_loopM _ h (fun s74 a w => ∃ (ρ : Nat → Value) (σ : St), a = fr 125 (updL ρ [(4, (pt b10 0)), (9, (Sl a54 r51.1 c55)), (10, (Sl a57 r51.2.1 c58)), (11, (B r51.2.2)), (12, (Sl a66 r63.1 c67)), (13, (Sl a69 r63.2.1 c70)), (14, (B r63.2.2)), (15, (I s74))]) ∧ w = σ.w ∧ Hp S0 σ0 σ [Ch.ro n0 (Sl a7 r2.2.2.1 c8) r2.2.2.1, Ch.bx n0 b10 0 [(I r2.2.1), (Sl a7 r2.2.2.1 c8), (I r2.2.2.2)] [] [], Ch.own n0 n0 (Sl a54 r51.1 c55) r51.1, Ch.own n0 n0 (Sl a57 r51.2.1 c58) r51.2.1, Ch.own n0 n0 (Sl a66 r63.1 c67) r63.1, Ch.own n0 n0 (Sl a69 r63.2.1 c70) r63.2.1]) ⟨_, σ72, fr_join ⟨rfl, rfl, rfl, rfl, rfl, rfl, rfl, rfl, trivial⟩, rfl, H.sel' [5, 6, 3, 4, 0, 1] rfl rfl⟩ ?_
     clear h H
     rintro s74 a w o ⟨ρ, σ75, rfl, rfl, H⟩ h hres
     refine c_seq ?_
     refine c_seq ?_
     refine rg ?_
     refine st (v := (I s74)) (rv_move rfl) ?_
     refine st (v := (B (decide (s74 < 4)))) (rv_lss (a := s74) (b := 4) rfl rfl) ?_
     refine w_end ?_
     refine q_then ?_
     refine cd_cond (decide (s74 < 4)) rfl (fun hb76 => ?_) (fun hb76 => ?_)
     ·replace h := bif_t hb76 h
      refine c_skip ?_
      refine q_then ?_
      refine c_seq ?_
      refine c_blk ?_
      refine c_seq ?_
      obtain ⟨o77, hj, h'⟩ := bind_some h
      clear h
      refine c_cut (fun e a w => e = .normal ∧ ∃ (ρ : Nat → Value) (σ : St), a = fr 125 (updL ρ [(4, (pt b10 0)), (9, (Sl a54 r51.1 c55)), (10, (Sl a57 r51.2.1 c58)), (11, (B r51.2.2)), (12, (Sl a66 r63.1 c67)), (13, (Sl a69 r63.2.1 c70)), (14, (B r63.2.2)), (15, (I s74)), (124, (B o77))]) ∧ w = σ.w ∧ Hp S0 σ0 σ [Ch.ro n0 (Sl a7 r2.2.2.1 c8) r2.2.2.1, Ch.bx n0 b10 0 [(I r2.2.1), (Sl a7 r2.2.2.1 c8), (I r2.2.2.2)] [] [], Ch.own n0 n0 (Sl a54 r51.1 c55) r51.1, Ch.own n0 n0 (Sl a57 r51.2.1 c58) r51.2.1, Ch.own n0 n0 (Sl a66 r63.1 c67) r63.1, Ch.own n0 n0 (Sl a69 r63.2.1 c70) r63.2.1]) ?_ ?_
      ·clear h'
       rename _ = some o77 => h
       refine rgP (σ := σ75) 38 (by kernel_rfl) (by kernel_rfl) (by kernel_rfl) ?_
       refine sq (v := (B r51.2.2)) (rv_move rfl) ?_
       refine sq (v := (B (!r51.2.2))) (rv_not rfl) ?_
       refine sq (v := (B (!r51.2.2))) (rv_move rfl) ?_
       rcases Bool.eq_false_or_eq_true (!r51.2.2) with hb78 | hb78
       ·replace h := bif_t hb78 h
        refine sq_skip (congrArg some hb78) ?_
        refine sq_skip (congrArg some hb78) ?_
        refine sq (v := (B true)) (rv_pick_t (congrArg B hb78) rfl) ?_
        refine sq (v := (B true)) (rv_move rfl) ?_
        refine sq_skip rfl ?_
        refine sq_skip rfl ?_
        refine sq_skip rfl ?_
        refine sq_skip rfl ?_
        refine sq_skip rfl ?_
        refine sq_skip rfl ?_
        refine sq_skip rfl ?_
        refine sq_skip rfl ?_
        refine sq_skip rfl ?_
        refine sq_skip rfl ?_
        refine sq_skip rfl ?_
        refine sq_skip rfl ?_
        refine sq_skip rfl ?_
        refine sq_skip rfl ?_
        refine sq_skip rfl ?_
        refine sq (v := (B true)) (rv_pick_t rfl rfl) ?_
        refine sq (v := (B true)) (rv_move rfl) ?_
        refine sq_skip rfl ?_
        refine sq_skip rfl ?_
        refine sq_skip rfl ?_
        refine sq_skip rfl ?_
        refine sq_skip rfl ?_
        refine sq_skip rfl ?_
        refine sq_skip rfl ?_
        refine sq_skip rfl ?_
        refine sq_skip rfl ?_
        refine sq_skip rfl ?_
        refine sq_skip rfl ?_
        refine sq_skip rfl ?_
        refine sq_skip rfl ?_
        refine sq_skip rfl ?_
        refine sq_end ?_
        intro σ79 hm80
        replace H := H.grow (hm80.mono fun _ h => h); clear hm80
        refine st_skip rfl ?_
        refine st (v := (B true)) (rv_pick_t rfl rfl) ?_
        refine w_end ?_
        obtain rfl := Option.some.inj h
        exact ⟨rfl, _, σ79, fr_join ⟨rfl, rfl, rfl, rfl, rfl, rfl, rfl, rfl, rfl, trivial⟩, rfl, H.sel' [0, 1, 2, 3, 4, 5] rfl rfl⟩
       ·replace h := bif_f hb78 h
        refine sq_g (v := (B r63.2.2)) (congrArg some hb78) (rv_move rfl) ?_
        refine sq_g (v := (B (!r63.2.2))) (congrArg some hb78) (rv_not rfl) ?_
        refine sq (v := (B (!r63.2.2))) (rv_pick_f (congrArg B hb78) rfl) ?_
        refine sq (v := (B (!r63.2.2))) (rv_move rfl) ?_
        rcases Bool.eq_false_or_eq_true (!r63.2.2) with hb81 | hb81
        ·replace h := bif_t hb81 h
         refine sq_skip (congrArg some hb81) ?_
         refine sq_skip (congrArg some hb81) ?_
         refine sq_skip (congrArg some hb81) ?_
         refine sq_skip (congrArg some hb81) ?_
         refine sq_skip (congrArg some hb81) ?_
         refine sq_skip (congrArg some hb81) ?_
         refine sq_skip (congrArg some hb81) ?_
         refine sq_skip (congrArg some hb81) ?_
         refine sq_skip (congrArg some hb81) ?_
         refine sq_skip (congrArg some hb81) ?_
         refine sq_skip (congrArg some hb81) ?_
         refine sq_skip (congrArg some hb81) ?_
         refine sq_skip (congrArg some hb81) ?_
         refine sq_skip (congrArg some hb81) ?_
         refine sq_skip (congrArg some hb81) ?_
         refine sq (v := (B true)) (rv_pick_t (congrArg B hb81) rfl) ?_
         refine sq (v := (B true)) (rv_move rfl) ?_
         refine sq_skip rfl ?_
         refine sq_skip rfl ?_
         refine sq_skip rfl ?_
         refine sq_skip rfl ?_
         refine sq_skip rfl ?_
         refine sq_skip rfl ?_
         refine sq_skip rfl ?_
         refine sq_skip rfl ?_
         refine sq_skip rfl ?_
         refine sq_skip rfl ?_
         refine sq_skip rfl ?_
         refine sq_skip rfl ?_
         refine sq_skip rfl ?_
         refine sq_skip rfl ?_
         refine sq_end ?_
         intro σ82 hm83
         replace H := H.grow (hm83.mono fun _ h => h); clear hm83
         refine st_skip rfl ?_
         refine st (v := (B true)) (rv_pick_t rfl rfl) ?_
         refine w_end ?_
         obtain rfl := Option.some.inj h
         exact ⟨rfl, _, σ82, fr_join ⟨rfl, rfl, rfl, rfl, rfl, rfl, rfl, rfl, rfl, trivial⟩, rfl, H.sel' [0, 1, 2, 3, 4, 5] rfl rfl⟩
        ·replace h := bif_f hb81 h
         refine sq_g (v := (Sl a66 r63.1 c67)) (congrArg some hb81) (rv_move rfl) ?_
         refine sq_g (v := (I s74)) (congrArg some hb81) (rv_move rfl) ?_
         obtain ⟨x84, hx85, h'⟩ := bind_some h
         clear h
         have h := h'; clear h'
         obtain ⟨b87, o88, hi86, -⟩ := (H.own 4 rfl).ix hx85
         refine sq_g (v := (pt b87 o88)) (congrArg some hb81) (rv_ix Try.underlying24 ti3 rfl rfl hi86) ?_
         have hc89 := ((H.own 4 rfl).at hx85 hi86).int
         refine sq_g (v := (I x84)) (congrArg some hb81) (rv_load1 Try.underlying3 rfl rfl hc89) ?_
         refine sq_g (v := (Sl a54 r51.1 c55)) (congrArg some hb81) (rv_move rfl) ?_
         refine sq_g (v := (I s74)) (congrArg some hb81) (rv_move rfl) ?_
         obtain ⟨x90, hx91, h'⟩ := bind_some h
         clear h
         have h := h'; clear h'
         obtain ⟨b93, o94, hi92, -⟩ := (H.own 2 rfl).ix hx91
         refine sq_g (v := (pt b93 o94)) (congrArg some hb81) (rv_ix Try.underlying24 ti3 rfl rfl hi92) ?_
         have hc95 := ((H.own 2 rfl).at hx91 hi92).int
         refine sq_g (v := (I x90)) (congrArg some hb81) (rv_load1 Try.underlying3 rfl rfl hc95) ?_
         refine sq_g (v := (pt b10 1)) (congrArg some hb81) (rv_fieldAddr (off := 1) (ft := 24) Try.underlying26 rfl ti24 rfl rfl) ?_
         have hc96 := H.cell (u := (Sl a7 r2.2.2.1 c8)) (o' := 1) 1 1 rfl rfl rfl
         refine sq_g (v := (Sl a7 r2.2.2.1 c8)) (congrArg some hb81) (rv_load1 Try.underlying24 rfl rfl hc96) ?_
         refine sq_g (v := (I s74)) (congrArg some hb81) (rv_move rfl) ?_
         obtain ⟨x97, hx98, h'⟩ := bind_some h
         clear h
         have h := h'; clear h'
         obtain ⟨b100, o101, hi99, -⟩ := (H.ro 0 rfl).ix hx98
         refine sq_g (v := (pt b100 o101)) (congrArg some hb81) (rv_ix Try.underlying24 ti3 rfl rfl hi99) ?_
         have hc102 := ((H.ro 0 rfl).at hx98 hi99).int
         refine sq_g (v := (I x97)) (congrArg some hb81) (rv_load1 Try.underlying3 rfl rfl hc102) ?_
         refine sq_g (v := (I (min x90 x97))) (congrArg some hb81) (rv_min rfl rfl) ?_
         refine sq_g (v := (B (x84 != (min x90 x97)))) (congrArg some hb81) (rv_neq (a := x84) (b := (min x90 x97)) rfl rfl) ?_
         refine sq (v := (B (x84 != (min x90 x97)))) (rv_pick_f (congrArg B hb81) rfl) ?_
         refine sq (v := (B (x84 != (min x90 x97)))) (rv_move rfl) ?_
         rcases Bool.eq_false_or_eq_true (x84 != (min x90 x97)) with hb103 | hb103
         ·replace h := bif_t hb103 h
          refine sq_skip (congrArg some hb103) ?_
          refine sq_skip (congrArg some hb103) ?_
          refine sq_skip (congrArg some hb103) ?_
          refine sq_skip (congrArg some hb103) ?_
          refine sq_skip (congrArg some hb103) ?_
          refine sq_skip (congrArg some hb103) ?_
          refine sq_skip (congrArg some hb103) ?_
          refine sq_skip (congrArg some hb103) ?_
          refine sq_skip (congrArg some hb103) ?_
          refine sq_skip (congrArg some hb103) ?_
          refine sq_skip (congrArg some hb103) ?_
          refine sq_skip (congrArg some hb103) ?_
          refine sq_skip (congrArg some hb103) ?_
          refine sq_skip (congrArg some hb103) ?_
          refine sq_end ?_
          intro σ104 hm105
          replace H := H.grow (hm105.mono fun _ h => h); clear hm105
          refine st_skip (congrArg some hb103) ?_
          refine st (v := (B true)) (rv_pick_t (congrArg B hb103) rfl) ?_
          refine w_end ?_
          obtain rfl := Option.some.inj h
          exact ⟨rfl, _, σ104, fr_join ⟨rfl, rfl, rfl, rfl, rfl, rfl, rfl, rfl, rfl, trivial⟩, rfl, H.sel' [0, 1, 2, 3, 4, 5] rfl rfl⟩
         ·replace h := bif_f hb103 h
          refine sq_g (v := (Sl a69 r63.2.1 c70)) (congrArg some hb103) (rv_move rfl) ?_
          refine sq_g (v := (I s74)) (congrArg some hb103) (rv_move rfl) ?_
          obtain ⟨x106, hx107, h'⟩ := bind_some h
          clear h
          have h := h'; clear h'
          obtain ⟨b109, o110, hi108, -⟩ := (H.own 5 rfl).ix hx107
          refine sq_g (v := (pt b109 o110)) (congrArg some hb103) (rv_ix Try.underlying24 ti3 rfl rfl hi108) ?_
          have hc111 := ((H.own 5 rfl).at hx107 hi108).int
          refine sq_g (v := (I x106)) (congrArg some hb103) (rv_load1 Try.underlying3 rfl rfl hc111) ?_
          refine sq_g (v := (Sl a57 r51.2.1 c58)) (congrArg some hb103) (rv_move rfl) ?_
          refine sq_g (v := (I s74)) (congrArg some hb103) (rv_move rfl) ?_
          obtain ⟨x112, hx113, h'⟩ := bind_some h
          clear h
          have h := h'; clear h'
          obtain ⟨b115, o116, hi114, -⟩ := (H.own 3 rfl).ix hx113
          refine sq_g (v := (pt b115 o116)) (congrArg some hb103) (rv_ix Try.underlying24 ti3 rfl rfl hi114) ?_
          have hc117 := ((H.own 3 rfl).at hx113 hi114).int
          refine sq_g (v := (I x112)) (congrArg some hb103) (rv_load1 Try.underlying3 rfl rfl hc117) ?_
          refine sq_g (v := (pt b10 1)) (congrArg some hb103) (rv_fieldAddr (off := 1) (ft := 24) Try.underlying26 rfl ti24 rfl rfl) ?_
          have hc118 := H.cell (u := (Sl a7 r2.2.2.1 c8)) (o' := 1) 1 1 rfl rfl rfl
          refine sq_g (v := (Sl a7 r2.2.2.1 c8)) (congrArg some hb103) (rv_load1 Try.underlying24 rfl rfl hc118) ?_
          refine sq_g (v := (I s74)) (congrArg some hb103) (rv_move rfl) ?_
          obtain ⟨x119, hx120, h'⟩ := bind_some h
          clear h
          have h := h'; clear h'
          obtain ⟨b122, o123, hi121, -⟩ := (H.ro 0 rfl).ix hx120
          refine sq_g (v := (pt b122 o123)) (congrArg some hb103) (rv_ix Try.underlying24 ti3 rfl rfl hi121) ?_
          have hc124 := ((H.ro 0 rfl).at hx120 hi121).int
          refine sq_g (v := (I x119)) (congrArg some hb103) (rv_load1 Try.underlying3 rfl rfl hc124) ?_
          refine sq_g (v := (I (max x112 x119))) (congrArg some hb103) (rv_max rfl rfl) ?_
          refine sq_end ?_
          intro σ125 hm126
          replace H := H.grow (hm126.mono fun _ h => h); clear hm126
          refine st_g (v := (B (x106 != (max x112 x119)))) (congrArg some hb103) (rv_neq (a := x106) (b := (max x112 x119)) rfl rfl) ?_
          refine st (v := (B (x106 != (max x112 x119)))) (rv_pick_f (congrArg B hb103) rfl) ?_
          refine w_end ?_
          obtain rfl := Option.some.inj h
          exact ⟨rfl, _, σ125, fr_join ⟨rfl, rfl, rfl, rfl, rfl, rfl, rfl, rfl, rfl, trivial⟩, rfl, H.sel' [0, 1, 2, 3, 4, 5] rfl rfl⟩
      ·clear hj
       have h := h'
       clear h' H
       rintro e a w ⟨rfl, ρ, σ127, rfl, rfl, H⟩
       refine q_then ?_
       refine cd_cond o77 rfl (fun hb128 => ?_) (fun hb128 => ?_)
       ·replace h := bif_t hb128 h
        refine c_seq ?_
        refine rg ?_
        refine st (v := (B false)) (rv_assign rfl) ?_
        refine w_end ?_
        refine q_then ?_
        refine c_ret ?_
        refine q_blk_r ?_
        refine q_then_r ?_
        refine q_then_r ?_
        refine q_blk_r ?_
        obtain rfl := Option.some.inj h
        obtain rfl := hres _ rfl
        exact .inr (⟨_, rfl, rfl, _, σ127, fr_join ⟨rfl, trivial⟩, rfl, H.sel' [] rfl rfl⟩)
       ·replace h := bif_f hb128 h
        refine c_skip ?_
        refine q_blk ?_
        refine q_then ?_
        refine rg ?_
        refine st (v := (I s74)) (rv_move rfl) ?_
        refine st (v := (I (w64 (s74 + 1)))) (rv_add (a := s74) (b := 1) rfl rfl) ?_
        refine st (v := (I (w64 (s74 + 1)))) (rv_assign rfl) ?_
        refine w_end ?_
        refine q_then ?_
        obtain rfl := Option.some.inj h
        exact ⟨_, rfl, _, σ127, fr_join ⟨rfl, rfl, rfl, rfl, rfl, rfl, rfl, rfl, trivial⟩, rfl, H.sel' [0, 1, 2, 3, 4, 5] rfl rfl⟩
     ·replace h := bif_f hb76 h
      refine c_exit ?_
      refine q_then_x ?_
      refine q_then_x ?_
      refine q_blk_hit ?_
      obtain rfl := Option.some.inj h
      obtain rfl := hres _ rfl
      exact .inl ⟨_, rfl, rfl, _, σ75, fr_join trivial, rfl, H.sel' [] rfl rfl⟩
    ·clear hj
     have h := h'
     clear h' H
     rintro e a w (⟨t129, rfl, rfl, ρ, σ130, rfl, rfl, H⟩ | ⟨t131, rfl, rfl, ρ, σ132, rfl, rfl, H⟩)
     ·replace h := selim_l h
      refine q_then ?_
      refine c_seq ?_
      refine rg ?_
      refine st (v := (B true)) (rv_assign rfl) ?_
      refine w_end ?_
      refine q_then ?_
      refine c_ret ?_
      obtain rfl := Option.some.inj h
      exact fin_ret (v := (B true)) (results_ok Try.results3 (res_tmp (v := (B true)) rfl res_nil) rfl) ⟨rfl, rfl⟩ (H.sel' [] rfl rfl)
     ·replace h := selim_r h
      refine q_then_r ?_
      obtain rfl := Option.some.inj h
      exact fin_ret (v := (B t131)) (results_ok Try.results3 (res_tmp (v := (B t131)) rfl res_nil) rfl) ⟨rfl, rfl⟩ (H.sel' [] rfl rfl)

end Go.Vs
