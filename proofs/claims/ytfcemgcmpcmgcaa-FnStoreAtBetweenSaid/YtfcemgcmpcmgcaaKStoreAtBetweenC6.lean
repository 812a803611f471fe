/- The functions compute what their models say. -/
import Derived.Test.YtfcemgcmpcmgcaaKStoreAtBetweenC5
set_option linter.unusedVariables false
set_option linter.unusedSimpArgs false
set_option maxRecDepth 20000
namespace Go.Vs
open Go Go.Proofs
attribute [local irreducible] Code.wp Code.wpIn wpList wpListIn wpQuiet Calls CallsIn

theorem c_laws_equalInts {a_0 : List Int} {b_1 : List Int} {aa_0 : Option Addr} {ca_0 : Nat} {ab_1 : Option Addr} {cb_1 : Nat} {r : Bool} (h : M.laws_equalInts a_0 b_1 = some r) :
    Cal2 Try.prog 37 [(Sl aa_0 a_0 ca_0), (Sl ab_1 b_1 cb_1)] [Ch.ro 0 (Sl aa_0 a_0 ca_0) a_0, Ch.ro 0 (Sl ab_1 b_1 cb_1) b_1] (fun n0 v L => v = (B r) ∧ L = []) := by
 refine cal2 (n := 26) Try.func37 rfl rfl rfl rfl ?_
 intro S0 σ0 n0 hn0 H
 unfold M.laws_equalInts at h
 refine c_seq ?_
 refine rg ?_
 refine st (v := (B false)) (rv_assign rfl) ?_
 refine w_end ?_
 refine q_then ?_
 refine c_seq ?_
 refine c_seq ?_
 refine rg ?_
 refine st (v := (Sl aa_0 a_0 ca_0)) (rv_move rfl) ?_
 refine st (v := (I (a_0.length : Int))) (rv_len Try.underlying24 rfl) ?_
 refine st (v := (Sl ab_1 b_1 cb_1)) (rv_move rfl) ?_
 refine st (v := (I (b_1.length : Int))) (rv_len Try.underlying24 rfl) ?_
 refine st (v := (B ((a_0.length : Int) != (b_1.length : Int)))) (rv_neq (a := (a_0.length : Int)) (b := (b_1.length : Int)) rfl rfl) ?_
 refine w_end ?_
 refine q_then ?_
 refine cd_cond ((a_0.length : Int) != (b_1.length : Int)) rfl (fun hb1 => ?_) (fun hb1 => ?_)
 ·replace h := bif_t hb1 h
  refine c_seq ?_
  refine rg ?_
  refine st (v := (B false)) (rv_assign rfl) ?_
  refine w_end ?_
  refine q_then ?_
  refine c_ret ?_
  refine q_then_r ?_
  obtain rfl := Option.some.inj h
  exact fin_ret (v := (B false)) (results_ok Try.results37 (res_tmp (v := (B false)) rfl res_nil) rfl) ⟨rfl, rfl⟩ (H.sel' [] rfl rfl)
 ·replace h := bif_f hb1 h
  refine c_skip ?_
  refine q_then ?_
  refine c_seq ?_
  refine c_seq ?_
  refine rg ?_
  refine st (v := (I 0)) (rv_assign rfl) ?_
  refine w_end ?_
  refine q_then ?_
  obtain ⟨o2, hj, h'⟩ := bind_some h
  clear h
  refine c_cut (fun e a w => (∃ t, o2 = (.inl t) ∧ e = .normal ∧ ∃ (ρ : Nat → Value) (σ : St), a = fr 26 (updL ρ []) ∧ w = σ.w ∧ Hp S0 σ0 σ []) ∨ (∃ t, o2 = (.inr t) ∧ e = .ret ∧ ∃ (ρ : Nat → Value) (σ : St), a = fr 26 (updL ρ [(4, (B t))]) ∧ w = σ.w ∧ Hp S0 σ0 σ [])) ?_ ?_
  ·clear h'
   rename _ = some o2 => h
   refine c_blk ?_
   refine wp_loopM _ h (fun s3 a w => ∃ (ρ : Nat → Value) (σ : St), a = fr 26 (updL ρ [(0, (Sl aa_0 a_0 ca_0)), (1, (Sl ab_1 b_1 cb_1)), (5, (I s3))]) ∧ w = σ.w ∧ Hp S0 σ0 σ [Ch.ro 0 (Sl aa_0 a_0 ca_0) a_0, Ch.ro 0 (Sl ab_1 b_1 cb_1) b_1]) ⟨_, σ0, fr_join ⟨rfl, rfl, rfl, trivial⟩, rfl, H.sel' [0, 1] rfl rfl⟩ ?_
   clear h H
   rintro s3 a w o ⟨ρ, σ4, rfl, rfl, H⟩ h hres
   refine c_seq ?_
   refine c_seq ?_
   refine rg ?_
   refine st (v := (I s3)) (rv_move rfl) ?_
   refine st (v := (Sl aa_0 a_0 ca_0)) (rv_move rfl) ?_
   refine st (v := (I (a_0.length : Int))) (rv_len Try.underlying24 rfl) ?_
   refine st (v := (B (decide (s3 < (a_0.length : Int))))) (rv_lss (a := s3) (b := (a_0.length : Int)) rfl rfl) ?_
   refine w_end ?_
   refine q_then ?_
   refine cd_cond (decide (s3 < (a_0.length : Int))) rfl (fun hb5 => ?_) (fun hb5 => ?_)
   ·replace h := bif_t hb5 h
    refine c_skip ?_
    refine q_then ?_
    refine c_seq ?_
    refine c_blk ?_
    refine c_seq ?_
    refine rgP (σ := σ4) 8 (by kernel_rfl) (by kernel_rfl) (by kernel_rfl) ?_
    refine sq (v := (Sl aa_0 a_0 ca_0)) (rv_move rfl) ?_
    refine sq (v := (I s3)) (rv_move rfl) ?_
    obtain ⟨x6, hx7, h'⟩ := bind_some h
    clear h
    have h := h'; clear h'
    obtain ⟨b9, o10, hi8, -⟩ := (H.ro 0 rfl).ix hx7
    refine sq (v := (pt b9 o10)) (rv_ix Try.underlying24 ti3 rfl rfl hi8) ?_
    have hc11 := ((H.ro 0 rfl).at hx7 hi8).int
    refine sq (v := (I x6)) (rv_load1 Try.underlying3 rfl rfl hc11) ?_
    refine sq (v := (Sl ab_1 b_1 cb_1)) (rv_move rfl) ?_
    refine sq (v := (I s3)) (rv_move rfl) ?_
    obtain ⟨x12, hx13, h'⟩ := bind_some h
    clear h
    have h := h'; clear h'
    obtain ⟨b15, o16, hi14, -⟩ := (H.ro 1 rfl).ix hx13
    refine sq (v := (pt b15 o16)) (rv_ix Try.underlying24 ti3 rfl rfl hi14) ?_
    have hc17 := ((H.ro 1 rfl).at hx13 hi14).int
    refine sq (v := (I x12)) (rv_load1 Try.underlying3 rfl rfl hc17) ?_
    refine sq_end ?_
    intro σ18 hm19
    replace H := H.grow (hm19.mono fun _ h => h); clear hm19
    refine st (v := (B (x6 != x12))) (rv_neq (a := x6) (b := x12) rfl rfl) ?_
    refine w_end ?_
    refine q_then ?_
    refine cd_cond (x6 != x12) rfl (fun hb20 => ?_) (fun hb20 => ?_)
    ·replace h := bif_t hb20 h
     refine c_seq ?_
     refine rg ?_
     refine st (v := (B false)) (rv_assign rfl) ?_
     refine w_end ?_
     refine q_then ?_
     refine c_ret ?_
     refine q_blk_r ?_
     refine q_then_r ?_
     refine q_then_r ?_
     refine q_blk_r ?_
     obtain rfl := Option.some.inj h
     obtain rfl := hres _ rfl
     exact .inr (⟨_, rfl, rfl, _, σ18, fr_join ⟨rfl, trivial⟩, rfl, H.sel' [] rfl rfl⟩)
    ·replace h := bif_f hb20 h
     refine c_skip ?_
     refine q_blk ?_
     refine q_then ?_
     refine rg ?_
     refine st (v := (I s3)) (rv_move rfl) ?_
     refine st (v := (I (w64 (s3 + 1)))) (rv_add (a := s3) (b := 1) rfl rfl) ?_
     refine st (v := (I (w64 (s3 + 1)))) (rv_assign rfl) ?_
     refine w_end ?_
     refine q_then ?_
     obtain rfl := Option.some.inj h
     exact ⟨_, rfl, _, σ18, fr_join ⟨rfl, rfl, rfl, trivial⟩, rfl, H.sel' [0, 1] rfl rfl⟩
   ·replace h := bif_f hb5 h
    refine c_exit ?_
    refine q_then_x ?_
    refine q_then_x ?_
    refine q_blk_hit ?_
    obtain rfl := Option.some.inj h
    obtain rfl := hres _ rfl
    exact .inl ⟨_, rfl, rfl, _, σ4, fr_join trivial, rfl, H.sel' [] rfl rfl⟩
  ·clear hj
   have h := h'
   clear h' H
   rintro e a w (⟨t21, rfl, rfl, ρ, σ22, rfl, rfl, H⟩ | ⟨t23, rfl, rfl, ρ, σ24, rfl, rfl, H⟩)
   ·replace h := selim_l h
    refine q_then ?_
    refine c_seq ?_
    refine rg ?_
    refine st (v := (B true)) (rv_assign rfl) ?_
    refine w_end ?_
    refine q_then ?_
    refine c_ret ?_
    obtain rfl := Option.some.inj h
    exact fin_ret (v := (B true)) (results_ok Try.results37 (res_tmp (v := (B true)) rfl res_nil) rfl) ⟨rfl, rfl⟩ (H.sel' [] rfl rfl)
   ·replace h := selim_r h
    refine q_then_r ?_
    obtain rfl := Option.some.inj h
    exact fin_ret (v := (B t23)) (results_ok Try.results37 (res_tmp (v := (B t23)) rfl res_nil) rfl) ⟨rfl, rfl⟩ (H.sel' [] rfl rfl)

theorem c_laws_equalItems {a_0 : List (Int × (List Int) × Int)} {b_1 : List (Int × (List Int) × Int)} {aa_0 : Option Addr} {ca_0 : Nat} {ab_1 : Option Addr} {cb_1 : Nat} {r : Bool} (h : M.laws_equalItems a_0 b_1 = some r) :
    Cal2 Try.prog 21 [(Sl aa_0 a_0 ca_0), (Sl ab_1 b_1 cb_1)] [Ch.ro 0 (Sl aa_0 a_0 ca_0) a_0, Ch.ro 0 (Sl ab_1 b_1 cb_1) b_1] (fun n0 v L => v = (B r) ∧ L = []) := by
 refine cal2 (n := 55) Try.func21 rfl rfl rfl rfl ?_
 intro S0 σ0 n0 hn0 H
 unfold M.laws_equalItems at h
 refine c_seq ?_
 refine rg ?_
 refine st (v := (B false)) (rv_assign rfl) ?_
 refine w_end ?_
 refine q_then ?_
 refine c_seq ?_
 refine c_seq ?_
 refine rg ?_
 refine st (v := (Sl aa_0 a_0 ca_0)) (rv_move rfl) ?_
 refine st (v := (I (a_0.length : Int))) (rv_len Try.underlying33 rfl) ?_
 refine st (v := (Sl ab_1 b_1 cb_1)) (rv_move rfl) ?_
 refine st (v := (I (b_1.length : Int))) (rv_len Try.underlying33 rfl) ?_
 refine st (v := (B ((a_0.length : Int) != (b_1.length : Int)))) (rv_neq (a := (a_0.length : Int)) (b := (b_1.length : Int)) rfl rfl) ?_
 refine w_end ?_
 refine q_then ?_
 refine cd_cond ((a_0.length : Int) != (b_1.length : Int)) rfl (fun hb1 => ?_) (fun hb1 => ?_)
 ·replace h := bif_t hb1 h
  refine c_seq ?_
  refine rg ?_
  refine st (v := (B false)) (rv_assign rfl) ?_
  refine w_end ?_
  refine q_then ?_
  refine c_ret ?_
  refine q_then_r ?_
  obtain rfl := Option.some.inj h
  exact fin_ret (v := (B false)) (results_ok Try.results21 (res_tmp (v := (B false)) rfl res_nil) rfl) ⟨rfl, rfl⟩ (H.sel' [] rfl rfl)
 ·replace h := bif_f hb1 h
  refine c_skip ?_
  refine q_then ?_
  refine c_seq ?_
  refine c_seq ?_
  refine rg ?_
  refine st (v := (I 0)) (rv_assign rfl) ?_
  refine w_end ?_
  refine q_then ?_
  obtain ⟨o2, hj, h'⟩ := bind_some h
  clear h
  refine c_cut (fun e a w => (∃ t, o2 = (.inl t) ∧ e = .normal ∧ ∃ (ρ : Nat → Value) (σ : St), a = fr 55 (updL ρ []) ∧ w = σ.w ∧ Hp S0 σ0 σ []) ∨ (∃ t, o2 = (.inr t) ∧ e = .ret ∧ ∃ (ρ : Nat → Value) (σ : St), a = fr 55 (updL ρ [(4, (B t))]) ∧ w = σ.w ∧ Hp S0 σ0 σ [])) ?_ ?_
  ·clear h'
   rename _ = some o2 => h
   refine c_blk ?_
   refine wp_loopM _ h (fun s3 a w => ∃ (ρ : Nat → Value) (σ : St), a = fr 55 (updL ρ [(0, (Sl aa_0 a_0 ca_0)), (1, (Sl ab_1 b_1 cb_1)), (5, (I s3))]) ∧ w = σ.w ∧ Hp S0 σ0 σ [Ch.ro 0 (Sl aa_0 a_0 ca_0) a_0, Ch.ro 0 (Sl ab_1 b_1 cb_1) b_1]) ⟨_, σ0, fr_join ⟨rfl, rfl, rfl, trivial⟩, rfl, H.sel' [0, 1] rfl rfl⟩ ?_
   clear h H
   rintro s3 a w o ⟨ρ, σ4, rfl, rfl, H⟩ h hres
   refine c_seq ?_
   refine c_seq ?_
   refine rg ?_
   refine st (v := (I s3)) (rv_move rfl) ?_
   refine st (v := (Sl aa_0 a_0 ca_0)) (rv_move rfl) ?_
   refine st (v := (I (a_0.length : Int))) (rv_len Try.underlying33 rfl) ?_
   refine st (v := (B (decide (s3 < (a_0.length : Int))))) (rv_lss (a := s3) (b := (a_0.length : Int)) rfl rfl) ?_
   refine w_end ?_
   refine q_then ?_
   refine cd_cond (decide (s3 < (a_0.length : Int))) rfl (fun hb5 => ?_) (fun hb5 => ?_)
   ·replace h := bif_t hb5 h
    refine c_skip ?_
    refine q_then ?_
    refine c_seq ?_
    refine c_blk ?_
    refine c_seq ?_
    obtain ⟨o6, hj, h'⟩ := bind_some h
    clear h
    refine c_cut (fun e a w => e = .normal ∧ ∃ (ρ : Nat → Value) (σ : St), a = fr 55 (updL ρ [(0, (Sl aa_0 a_0 ca_0)), (1, (Sl ab_1 b_1 cb_1)), (5, (I s3)), (54, (B o6))]) ∧ w = σ.w ∧ Hp S0 σ0 σ [Ch.ro 0 (Sl aa_0 a_0 ca_0) a_0, Ch.ro 0 (Sl ab_1 b_1 cb_1) b_1]) ?_ ?_
    ·clear h'
     rename _ = some o6 => h
     refine rgP (σ := σ4) 35 (by kernel_rfl) (by kernel_rfl) (by kernel_rfl) ?_
     refine sq (v := (Sl aa_0 a_0 ca_0)) (rv_move rfl) ?_
     refine sq (v := (I s3)) (rv_move rfl) ?_
     obtain ⟨x7, hx8, h'⟩ := bind_some h
     clear h
     have h := h'; clear h'
     obtain ⟨b10, o11, hi9, -⟩ := (H.ro 0 rfl).ix hx8
     refine sq (v := (pt b10 o11)) (rv_ix Try.underlying33 ti41 rfl rfl hi9) ?_
     refine sq (v := (pt b10 (o11 + 0))) (rv_fieldAddr (off := 0) (ft := 3) Try.underlying41 rfl ti3 rfl rfl) ?_
     have hc12 := ((H.ro 0 rfl).at hx8 hi9).fst.int
     refine sq (v := (I x7.1)) (rv_load1 Try.underlying3 rfl rfl hc12) ?_
     refine sq (v := (Sl ab_1 b_1 cb_1)) (rv_move rfl) ?_
     refine sq (v := (I s3)) (rv_move rfl) ?_
     obtain ⟨x13, hx14, h'⟩ := bind_some h
     clear h
     have h := h'; clear h'
     obtain ⟨b16, o17, hi15, -⟩ := (H.ro 1 rfl).ix hx14
     refine sq (v := (pt b16 o17)) (rv_ix Try.underlying33 ti41 rfl rfl hi15) ?_
     refine sq (v := (pt b16 (o17 + 0))) (rv_fieldAddr (off := 0) (ft := 3) Try.underlying41 rfl ti3 rfl rfl) ?_
     have hc18 := ((H.ro 1 rfl).at hx14 hi15).fst.int
     refine sq (v := (I x13.1)) (rv_load1 Try.underlying3 rfl rfl hc18) ?_
     refine sq (v := (B (x7.1 != x13.1))) (rv_neq (a := x7.1) (b := x13.1) rfl rfl) ?_
     refine sq (v := (B (x7.1 != x13.1))) (rv_move rfl) ?_
     rcases Bool.eq_false_or_eq_true (x7.1 != x13.1) with hb19 | hb19
     ·replace h := bif_t hb19 h
      refine sq_skip (congrArg some hb19) ?_
      refine sq_skip (congrArg some hb19) ?_
      refine sq_skip (congrArg some hb19) ?_
      refine sq_skip (congrArg some hb19) ?_
      refine sq_skip (congrArg some hb19) ?_
      refine sq_skip (congrArg some hb19) ?_
      refine sq_skip (congrArg some hb19) ?_
      refine sq_skip (congrArg some hb19) ?_
      refine sq_skip (congrArg some hb19) ?_
      refine sq_skip (congrArg some hb19) ?_
      refine sq_skip (congrArg some hb19) ?_
      refine sq (v := (B true)) (rv_pick_t (congrArg B hb19) rfl) ?_
      refine sq (v := (B true)) (rv_move rfl) ?_
      refine sq_skip rfl ?_
      refine sq_skip rfl ?_
      refine sq_skip rfl ?_
      refine sq_skip rfl ?_
      refine sq_skip rfl ?_
      refine sq_skip rfl ?_
      refine sq_skip rfl ?_
      refine sq_skip rfl ?_
      refine sq_skip rfl ?_
      refine sq_skip rfl ?_
      refine sq_end ?_
      intro σ20 hm21
      replace H := H.grow (hm21.mono fun _ h => h); clear hm21
      refine st_skip rfl ?_
      refine st_skip rfl ?_
      refine st (v := (B true)) (rv_pick_t rfl rfl) ?_
      refine w_end ?_
      obtain rfl := Option.some.inj h
      exact ⟨rfl, _, σ20, fr_join ⟨rfl, rfl, rfl, rfl, trivial⟩, rfl, H.sel' [0, 1] rfl rfl⟩
     ·replace h := bif_f hb19 h
      refine sq_g (v := (Sl aa_0 a_0 ca_0)) (congrArg some hb19) (rv_move rfl) ?_
      refine sq_g (v := (I s3)) (congrArg some hb19) (rv_move rfl) ?_
      obtain ⟨x22, hx23, h'⟩ := bind_some h
      clear h
      have h := h'; clear h'
      obtain ⟨b25, o26, hi24, -⟩ := (H.ro 0 rfl).ix hx23
      refine sq_g (v := (pt b25 o26)) (congrArg some hb19) (rv_ix Try.underlying33 ti41 rfl rfl hi24) ?_
      refine sq_g (v := (pt b25 (o26 + 2))) (congrArg some hb19) (rv_fieldAddr (off := 2) (ft := 3) Try.underlying41 rfl ti3 rfl rfl) ?_
      have hc27 := ((H.ro 0 rfl).at hx23 hi24).snd.snd.int
      refine sq_g (v := (I x22.2.2)) (congrArg some hb19) (rv_load1 Try.underlying3 rfl rfl hc27) ?_
      refine sq_g (v := (Sl ab_1 b_1 cb_1)) (congrArg some hb19) (rv_move rfl) ?_
      refine sq_g (v := (I s3)) (congrArg some hb19) (rv_move rfl) ?_
      obtain ⟨x28, hx29, h'⟩ := bind_some h
      clear h
      have h := h'; clear h'
      obtain ⟨b31, o32, hi30, -⟩ := (H.ro 1 rfl).ix hx29
      refine sq_g (v := (pt b31 o32)) (congrArg some hb19) (rv_ix Try.underlying33 ti41 rfl rfl hi30) ?_
      refine sq_g (v := (pt b31 (o32 + 2))) (congrArg some hb19) (rv_fieldAddr (off := 2) (ft := 3) Try.underlying41 rfl ti3 rfl rfl) ?_
      have hc33 := ((H.ro 1 rfl).at hx29 hi30).snd.snd.int
      refine sq_g (v := (I x28.2.2)) (congrArg some hb19) (rv_load1 Try.underlying3 rfl rfl hc33) ?_
      refine sq_g (v := (B (x22.2.2 != x28.2.2))) (congrArg some hb19) (rv_neq (a := x22.2.2) (b := x28.2.2) rfl rfl) ?_
      refine sq (v := (B (x22.2.2 != x28.2.2))) (rv_pick_f (congrArg B hb19) rfl) ?_
      refine sq (v := (B (x22.2.2 != x28.2.2))) (rv_move rfl) ?_
      rcases Bool.eq_false_or_eq_true (x22.2.2 != x28.2.2) with hb34 | hb34
      ·replace h := bif_t hb34 h
       refine sq_skip (congrArg some hb34) ?_
       refine sq_skip (congrArg some hb34) ?_
       refine sq_skip (congrArg some hb34) ?_
       refine sq_skip (congrArg some hb34) ?_
       refine sq_skip (congrArg some hb34) ?_
       refine sq_skip (congrArg some hb34) ?_
       refine sq_skip (congrArg some hb34) ?_
       refine sq_skip (congrArg some hb34) ?_
       refine sq_skip (congrArg some hb34) ?_
       refine sq_skip (congrArg some hb34) ?_
       refine sq_end ?_
       intro σ35 hm36
       replace H := H.grow (hm36.mono fun _ h => h); clear hm36
       refine st_skip (congrArg some hb34) ?_
       refine st_skip (congrArg some hb34) ?_
       refine st (v := (B true)) (rv_pick_t (congrArg B hb34) rfl) ?_
       refine w_end ?_
       obtain rfl := Option.some.inj h
       exact ⟨rfl, _, σ35, fr_join ⟨rfl, rfl, rfl, rfl, trivial⟩, rfl, H.sel' [0, 1] rfl rfl⟩
      ·replace h := bif_f hb34 h
       refine sq_g (v := (Sl aa_0 a_0 ca_0)) (congrArg some hb34) (rv_move rfl) ?_
       refine sq_g (v := (I s3)) (congrArg some hb34) (rv_move rfl) ?_
       obtain ⟨x37, hx38, h'⟩ := bind_some h
       clear h
       have h := h'; clear h'
       obtain ⟨b40, o41, hi39, -⟩ := (H.ro 0 rfl).ix hx38
       refine sq_g (v := (pt b40 o41)) (congrArg some hb34) (rv_ix Try.underlying33 ti41 rfl rfl hi39) ?_
       refine sq_g (v := (pt b40 (o41 + 1))) (congrArg some hb34) (rv_fieldAddr (off := 1) (ft := 24) Try.underlying41 rfl ti24 rfl rfl) ?_
       obtain ⟨v45, hc46, hR44⟩ := ((H.ro 0 rfl).at hx38 hi39).snd.fst.slice
       obtain ⟨a42, c43, rfl⟩ := hR44.isSl
       replace H := H.add (d := Ch.ro 0 (Sl a42 x37.2.1 c43) x37.2.1) hR44 (fun _ h => h)
       clear hR44
       refine sq_g (v := (Sl a42 x37.2.1 c43)) (congrArg some hb34) (rv_load1 Try.underlying24 rfl rfl hc46) ?_
       refine sq_g (v := (Sl ab_1 b_1 cb_1)) (congrArg some hb34) (rv_move rfl) ?_
       refine sq_g (v := (I s3)) (congrArg some hb34) (rv_move rfl) ?_
       obtain ⟨x47, hx48, h'⟩ := bind_some h
       clear h
       have h := h'; clear h'
       obtain ⟨b50, o51, hi49, -⟩ := (H.ro 2 rfl).ix hx48
       refine sq_g (v := (pt b50 o51)) (congrArg some hb34) (rv_ix Try.underlying33 ti41 rfl rfl hi49) ?_
       refine sq_g (v := (pt b50 (o51 + 1))) (congrArg some hb34) (rv_fieldAddr (off := 1) (ft := 24) Try.underlying41 rfl ti24 rfl rfl) ?_
       obtain ⟨v55, hc56, hR54⟩ := ((H.ro 2 rfl).at hx48 hi49).snd.fst.slice
       obtain ⟨a52, c53, rfl⟩ := hR54.isSl
       replace H := H.add (d := Ch.ro 0 (Sl a52 x47.2.1 c53) x47.2.1) hR54 (fun _ h => h)
       clear hR54
       refine sq_g (v := (Sl a52 x47.2.1 c53)) (congrArg some hb34) (rv_load1 Try.underlying24 rfl rfl hc56) ?_
       refine sq_end ?_
       intro σ57 hm58
       replace H := H.grow (hm58.mono fun _ h => h); clear hm58
       obtain ⟨r59, hx60, h'⟩ := bind_some h
       clear h
       have h := h'; clear h'
       have hc61 := c_laws_equalInts (aa_0 := a42) (ca_0 := c43) (ab_1 := a52) (cb_1 := c53) hx60
       refine st_call (cx_call hc61 (ent_f hc61.fn rfl) hn0 (show Hp S0 σ0 _ ([Ch.ro 0 (Sl a42 x37.2.1 c43) x37.2.1, Ch.ro 0 (Sl a52 x47.2.1 c53) x47.2.1] ++ [Ch.ro 0 (Sl a52 x47.2.1 c53) x47.2.1, Ch.ro 0 (Sl a42 x37.2.1 c43) x37.2.1, Ch.ro 0 (Sl aa_0 a_0 ca_0) a_0, Ch.ro 0 (Sl ab_1 b_1 cb_1) b_1]) from (H.sel' [1, 0, 0, 1, 2, 3] rfl rfl))) (wanted_yes rfl (by exact (congrArg some hb34))) ?_
       rintro _ σ62 ⟨_, ⟨rfl, rfl⟩, H, -⟩
       replace H : Hp S0 σ0 σ62 [Ch.ro 0 (Sl a52 x47.2.1 c53) x47.2.1, Ch.ro 0 (Sl a42 x37.2.1 c43) x37.2.1, Ch.ro 0 (Sl aa_0 a_0 ca_0) a_0, Ch.ro 0 (Sl ab_1 b_1 cb_1) b_1] := H
       refine st_g (v := (B (!r59))) (congrArg some hb34) (rv_not rfl) ?_
       refine st (v := (B (!r59))) (rv_pick_f (congrArg B hb34) rfl) ?_
       refine w_end ?_
       obtain rfl := Option.some.inj h
       exact ⟨rfl, _, σ62, fr_join ⟨rfl, rfl, rfl, rfl, trivial⟩, rfl, H.sel' [2, 3] rfl rfl⟩
    ·clear hj
     have h := h'
     clear h' H
     rintro e a w ⟨rfl, ρ, σ63, rfl, rfl, H⟩
     refine q_then ?_
     refine cd_cond o6 rfl (fun hb64 => ?_) (fun hb64 => ?_)
     ·replace h := bif_t hb64 h
      refine c_seq ?_
      refine rg ?_
      refine st (v := (B false)) (rv_assign rfl) ?_
      refine w_end ?_
      refine q_then ?_
      refine c_ret ?_
      refine q_blk_r ?_
      refine q_then_r ?_
      refine q_then_r ?_
      refine q_blk_r ?_
      obtain rfl := Option.some.inj h
      obtain rfl := hres _ rfl
      exact .inr (⟨_, rfl, rfl, _, σ63, fr_join ⟨rfl, trivial⟩, rfl, H.sel' [] rfl rfl⟩)
     ·replace h := bif_f hb64 h
      refine c_skip ?_
      refine q_blk ?_
      refine q_then ?_
      refine rg ?_
      refine st (v := (I s3)) (rv_move rfl) ?_
      refine st (v := (I (w64 (s3 + 1)))) (rv_add (a := s3) (b := 1) rfl rfl) ?_
      refine st (v := (I (w64 (s3 + 1)))) (rv_assign rfl) ?_
      refine w_end ?_
      refine q_then ?_
      obtain rfl := Option.some.inj h
      exact ⟨_, rfl, _, σ63, fr_join ⟨rfl, rfl, rfl, trivial⟩, rfl, H.sel' [0, 1] rfl rfl⟩
   ·replace h := bif_f hb5 h
    refine c_exit ?_
    refine q_then_x ?_
    refine q_then_x ?_
    refine q_blk_hit ?_
    obtain rfl := Option.some.inj h
    obtain rfl := hres _ rfl
    exact .inl ⟨_, rfl, rfl, _, σ4, fr_join trivial, rfl, H.sel' [] rfl rfl⟩
  ·clear hj
   have h := h'
   clear h' H
   rintro e a w (⟨t65, rfl, rfl, ρ, σ66, rfl, rfl, H⟩ | ⟨t67, rfl, rfl, ρ, σ68, rfl, rfl, H⟩)
   ·replace h := selim_l h
    refine q_then ?_
    refine c_seq ?_
    refine rg ?_
    refine st (v := (B true)) (rv_assign rfl) ?_
    refine w_end ?_
    refine q_then ?_
    refine c_ret ?_
    obtain rfl := Option.some.inj h
    exact fin_ret (v := (B true)) (results_ok Try.results21 (res_tmp (v := (B true)) rfl res_nil) rfl) ⟨rfl, rfl⟩ (H.sel' [] rfl rfl)
   ·replace h := selim_r h
    refine q_then_r ?_
    obtain rfl := Option.some.inj h
    exact fin_ret (v := (B t67)) (results_ok Try.results21 (res_tmp (v := (B t67)) rfl res_nil) rfl) ⟨rfl, rfl⟩ (H.sel' [] rfl rfl)

theorem c_spec_toInt {b_0 : Bool}  {r : Int} (h : M.spec_toInt b_0 = some r) :
    Cal2 Try.prog 83 [(B b_0)] [] (fun n0 v L => v = (I r) ∧ L = []) := by
 refine cal2 (n := 4) Try.func83 rfl rfl rfl rfl ?_
 intro S0 σ0 n0 hn0 H
 unfold M.spec_toInt at h
 refine c_seq ?_
 refine rg ?_
 refine st (v := (I 0)) (rv_assign rfl) ?_
 refine w_end ?_
 refine q_then ?_
 refine c_seq ?_
 refine c_seq ?_
 refine rg ?_
 refine st (v := (B b_0)) (rv_move rfl) ?_
 refine w_end ?_
 refine q_then ?_
 refine cd_cond b_0 rfl (fun hb1 => ?_) (fun hb1 => ?_)
 ·replace h := bif_t hb1 h
  refine c_seq ?_
  refine rg ?_
  refine st (v := (I 1)) (rv_assign rfl) ?_
  refine w_end ?_
  refine q_then ?_
  refine c_ret ?_
  refine q_then_r ?_
  obtain rfl := Option.some.inj h
  exact fin_ret (v := (I 1)) (results_ok Try.results83 (res_tmp (v := (I 1)) rfl res_nil) rfl) ⟨rfl, rfl⟩ (H.sel' [] rfl rfl)
 ·replace h := bif_f hb1 h
  refine c_skip ?_
  refine q_then ?_
  refine c_seq ?_
  refine rg ?_
  refine st (v := (I 0)) (rv_assign rfl) ?_
  refine w_end ?_
  refine q_then ?_
  refine c_ret ?_
  obtain rfl := Option.some.inj h
  exact fin_ret (v := (I 0)) (results_ok Try.results83 (res_tmp (v := (I 0)) rfl res_nil) rfl) ⟨rfl, rfl⟩ (H.sel' [] rfl rfl)

theorem c_spec_upTo {h_0 : (List (Int × (Int × (List Int) × Int))) × (List Int)} {t_1 : Int} {ah_0_0 : Option Addr} {ch_0_0 : Nat} {ah_0_1 : Option Addr} {ch_0_1 : Nat} {r : Int} (h : M.spec_upTo h_0 t_1 = some r) :
    Cal2 Try.prog 52 [(.agg #[(Sl ah_0_0 h_0.1 ch_0_0), (Sl ah_0_1 h_0.2 ch_0_1)]), (I t_1)] [Ch.ro 0 (Sl ah_0_0 h_0.1 ch_0_0) h_0.1, Ch.ro 0 (Sl ah_0_1 h_0.2 ch_0_1) h_0.2] (fun n0 v L => v = (I r) ∧ L = []) := by
 refine cal2 (n := 25) Try.func52 rfl rfl rfl rfl ?_
 intro S0 σ0 n0 hn0 H
 unfold M.spec_upTo at h
 refine c_seq ?_
 refine rg ?_
 refine st_ex (ex_box (cs := [(Sl ah_0_0 h_0.1 ch_0_0), (Sl ah_0_1 h_0.2 ch_0_1)]) H hn0 rfl rfl) wn ?_
 rintro _ σ2 ⟨b1, rfl, H, -⟩
 refine st (v := (I 0)) (rv_assign rfl) ?_
 refine w_end ?_
 refine q_then ?_
 refine c_seq ?_
 refine rg ?_
 refine st (v := (I 0)) (rv_assign rfl) ?_
 refine w_end ?_
 refine q_then ?_
 refine c_seq ?_
 refine c_seq ?_
 refine rg ?_
 refine st (v := (I 0)) (rv_assign rfl) ?_
 refine w_end ?_
 refine q_then ?_
 obtain ⟨o3, hj, h'⟩ := bind_some h
 clear h
 refine c_cut (fun e a w => e = .normal ∧ ∃ (ρ : Nat → Value) (σ : St), a = fr 25 (updL ρ [(5, (I o3))]) ∧ w = σ.w ∧ Hp S0 σ0 σ []) ?_ ?_
 ·clear h'
  rename _ = some o3 => h
  refine c_blk ?_
  refine wp_loopM _ h (fun s4 a w => ∃ (ρ : Nat → Value) (σ : St), a = fr 25 (updL ρ [(1, (I t_1)), (2, (pt b1 0)), (5, (I s4.1)), (6, (I s4.2))]) ∧ w = σ.w ∧ Hp S0 σ0 σ [Ch.ro 0 (Sl ah_0_0 h_0.1 ch_0_0) h_0.1, Ch.ro 0 (Sl ah_0_1 h_0.2 ch_0_1) h_0.2, Ch.bx n0 b1 0 [(Sl ah_0_0 h_0.1 ch_0_0), (Sl ah_0_1 h_0.2 ch_0_1)] [] []]) ⟨_, σ2, fr_join ⟨rfl, rfl, rfl, rfl, trivial⟩, rfl, H.sel' [1, 2, 0] rfl rfl⟩ ?_
  clear h H
  rintro s4 a w o ⟨ρ, σ5, rfl, rfl, H⟩ h hres
  refine c_seq ?_
  refine c_seq ?_
  refine rg ?_
  refine st (v := (I s4.2)) (rv_move rfl) ?_
  refine st (v := (pt b1 1)) (rv_fieldAddr (off := 1) (ft := 24) Try.underlying26 rfl ti24 rfl rfl) ?_
  have hc6 := H.cell (u := (Sl ah_0_1 h_0.2 ch_0_1)) (o' := 1) 2 1 rfl rfl rfl
  refine st (v := (Sl ah_0_1 h_0.2 ch_0_1)) (rv_load1 Try.underlying24 rfl rfl hc6) ?_
  refine st (v := (I (h_0.2.length : Int))) (rv_len Try.underlying24 rfl) ?_
  refine st (v := (B (decide (s4.2 < (h_0.2.length : Int))))) (rv_lss (a := s4.2) (b := (h_0.2.length : Int)) rfl rfl) ?_
  refine w_end ?_
  refine q_then ?_
  refine cd_cond (decide (s4.2 < (h_0.2.length : Int))) rfl (fun hb7 => ?_) (fun hb7 => ?_)
  ·replace h := bif_t hb7 h
   refine c_skip ?_
   refine q_then ?_
   refine c_seq ?_
   refine c_blk ?_
   refine rg ?_
   refine st (v := (I s4.1)) (rv_move rfl) ?_
   refine st (v := (pt b1 1)) (rv_fieldAddr (off := 1) (ft := 24) Try.underlying26 rfl ti24 rfl rfl) ?_
   have hc8 := H.cell (u := (Sl ah_0_1 h_0.2 ch_0_1)) (o' := 1) 2 1 rfl rfl rfl
   refine st (v := (Sl ah_0_1 h_0.2 ch_0_1)) (rv_load1 Try.underlying24 rfl rfl hc8) ?_
   refine st (v := (I s4.2)) (rv_move rfl) ?_
   obtain ⟨x9, hx10, h'⟩ := bind_some h
   clear h
   have h := h'; clear h'
   obtain ⟨b12, o13, hi11, -⟩ := (H.ro 1 rfl).ix hx10
   refine st (v := (pt b12 o13)) (rv_ix Try.underlying24 ti3 rfl rfl hi11) ?_
   have hc14 := ((H.ro 1 rfl).at hx10 hi11).int
   refine st (v := (I x9)) (rv_load1 Try.underlying3 rfl rfl hc14) ?_
   refine st (v := (I t_1)) (rv_move rfl) ?_
   refine st (v := (B (decide (x9 ≤ t_1)))) (rv_leq (a := x9) (b := t_1) rfl rfl) ?_
   obtain ⟨r15, hx16, h'⟩ := bind_some h
   clear h
   have h := h'; clear h'
   have hc17 := c_spec_toInt hx16
   refine st_call (cx_call hc17 (ent_f hc17.fn rfl) hn0 (show Hp S0 σ0 _ ([] ++ [Ch.ro 0 (Sl ah_0_0 h_0.1 ch_0_0) h_0.1, Ch.ro 0 (Sl ah_0_1 h_0.2 ch_0_1) h_0.2, Ch.bx n0 b1 0 [(Sl ah_0_0 h_0.1 ch_0_0), (Sl ah_0_1 h_0.2 ch_0_1)] [] []]) from (H.sel' [0, 1, 2] rfl rfl))) wn ?_
   rintro _ σ18 ⟨_, ⟨rfl, rfl⟩, H, -⟩
   replace H : Hp S0 σ0 σ18 [Ch.ro 0 (Sl ah_0_0 h_0.1 ch_0_0) h_0.1, Ch.ro 0 (Sl ah_0_1 h_0.2 ch_0_1) h_0.2, Ch.bx n0 b1 0 [(Sl ah_0_0 h_0.1 ch_0_0), (Sl ah_0_1 h_0.2 ch_0_1)] [] []] := H
   refine st (v := (I (w64 (s4.1 + r15)))) (rv_add (a := s4.1) (b := r15) rfl rfl) ?_
   refine st (v := (I (w64 (s4.1 + r15)))) (rv_assign rfl) ?_
   refine w_end ?_
   refine q_blk ?_
   refine q_then ?_
   refine rg ?_
   refine st (v := (I s4.2)) (rv_move rfl) ?_
   refine st (v := (I (w64 (s4.2 + 1)))) (rv_add (a := s4.2) (b := 1) rfl rfl) ?_
   refine st (v := (I (w64 (s4.2 + 1)))) (rv_assign rfl) ?_
   refine w_end ?_
   refine q_then ?_
   obtain rfl := Option.some.inj h
   exact ⟨_, rfl, _, σ18, fr_join ⟨rfl, rfl, rfl, rfl, trivial⟩, rfl, H.sel' [0, 1, 2] rfl rfl⟩
  ·replace h := bif_f hb7 h
   refine c_exit ?_
   refine q_then_x ?_
   refine q_then_x ?_
   refine q_blk_hit ?_
   obtain rfl := Option.some.inj h
   obtain rfl := hres _ rfl
   exact ⟨rfl, _, σ5, fr_join ⟨rfl, trivial⟩, rfl, H.sel' [] rfl rfl⟩
 ·clear hj
  have h := h'
  clear h' H
  rintro e a w ⟨rfl, ρ, σ19, rfl, rfl, H⟩
  refine q_then ?_
  refine c_seq ?_
  refine rg ?_
  refine st (v := (I o3)) (rv_move rfl) ?_
  refine st (v := (I o3)) (rv_assign rfl) ?_
  refine w_end ?_
  refine q_then ?_
  refine c_ret ?_
  obtain rfl := Option.some.inj h
  exact fin_ret (v := (I o3)) (results_ok Try.results52 (res_tmp (v := (I o3)) rfl res_nil) rfl) ⟨rfl, rfl⟩ (H.sel' [] rfl rfl)

theorem c_spec_StoreAt {h_0 : (List (Int × (Int × (List Int) × Int))) × (List Int)} {t_1 : Int} {ah_0_0 : Option Addr} {ch_0_0 : Nat} {ah_0_1 : Option Addr} {ch_0_1 : Nat} {r : (List (Int × (List Int) × Int))} (h : M.spec_StoreAt h_0 t_1 = some r) :
    Cal2 Try.prog 22 [(.agg #[(Sl ah_0_0 h_0.1 ch_0_0), (Sl ah_0_1 h_0.2 ch_0_1)]), (I t_1)] [Ch.ro 0 (Sl ah_0_0 h_0.1 ch_0_0) h_0.1, Ch.ro 0 (Sl ah_0_1 h_0.2 ch_0_1) h_0.2] (fun n0 v L => ∃ (az1 : Option Addr), ∃ (cz2 : Nat), v = (Sl az1 r cz2) ∧ L = [Ch.own n0 n0 (Sl az1 r cz2) r]) := by
 refine cal2 (n := 27) Try.func22 rfl rfl rfl rfl ?_
 intro S0 σ0 n0 hn0 H
 unfold M.spec_StoreAt at h
 refine c_seq ?_
 refine rg ?_
 refine st_ex (ex_box (cs := [(Sl ah_0_0 h_0.1 ch_0_0), (Sl ah_0_1 h_0.2 ch_0_1)]) H hn0 rfl rfl) wn ?_
 rintro _ σ2 ⟨b1, rfl, H, -⟩
 refine st (v := (.slice none 0 0)) (rv_assign rfl) ?_
 refine w_end ?_
 refine q_then ?_
 refine c_seq ?_
 refine c_seq ?_
 obtain ⟨o3, hj, h'⟩ := bind_some h
 clear h
 refine c_cut (fun e a w => e = .normal ∧ ∃ (ρ : Nat → Value) (σ : St), a = fr 27 (updL ρ [(1, (I t_1)), (2, (pt b1 0)), (14, (B o3))]) ∧ w = σ.w ∧ Hp S0 σ0 σ [Ch.ro 0 (Sl ah_0_0 h_0.1 ch_0_0) h_0.1, Ch.ro 0 (Sl ah_0_1 h_0.2 ch_0_1) h_0.2, Ch.bx n0 b1 0 [(Sl ah_0_0 h_0.1 ch_0_0), (Sl ah_0_1 h_0.2 ch_0_1)] [] []]) ?_ ?_
 ·clear h'
  rename _ = some o3 => h
  refine rg ?_
  have hc4 := H.cells 0 rfl
  refine st (v := (.agg #[(Sl ah_0_0 h_0.1 ch_0_0), (Sl ah_0_1 h_0.2 ch_0_1)])) (rv_load (cs := [(Sl ah_0_0 h_0.1 ch_0_0), (Sl ah_0_1 h_0.2 ch_0_1)]) Try.underlying26 rfl ti26 rfl rfl hc4) ?_
  obtain ⟨r5, hx6, h'⟩ := bind_some h
  clear h
  have h := h'; clear h'
  have hc7 := c_spec_validHistory (ah_0_0 := ah_0_0) (ch_0_0 := ch_0_0) (ah_0_1 := ah_0_1) (ch_0_1 := ch_0_1) hx6
  refine st_call (cx_call hc7 (ent_f hc7.fn rfl) hn0 (show Hp S0 σ0 _ ([Ch.ro 0 (Sl ah_0_0 h_0.1 ch_0_0) h_0.1, Ch.ro 0 (Sl ah_0_1 h_0.2 ch_0_1) h_0.2] ++ [Ch.bx n0 b1 0 [(Sl ah_0_0 h_0.1 ch_0_0), (Sl ah_0_1 h_0.2 ch_0_1)] [] [], Ch.ro 0 (Sl ah_0_0 h_0.1 ch_0_0) h_0.1, Ch.ro 0 (Sl ah_0_1 h_0.2 ch_0_1) h_0.2]) from (H.sel' [1, 2, 0, 1, 2] rfl rfl))) wn ?_
  rintro _ σ8 ⟨_, ⟨rfl, rfl⟩, H, -⟩
  replace H : Hp S0 σ0 σ8 [Ch.bx n0 b1 0 [(Sl ah_0_0 h_0.1 ch_0_0), (Sl ah_0_1 h_0.2 ch_0_1)] [] [], Ch.ro 0 (Sl ah_0_0 h_0.1 ch_0_0) h_0.1, Ch.ro 0 (Sl ah_0_1 h_0.2 ch_0_1) h_0.2] := H
  refine st (v := (B (!r5))) (rv_not rfl) ?_
  refine st (v := (B (!r5))) (rv_move rfl) ?_
  rcases Bool.eq_false_or_eq_true (!r5) with hb9 | hb9
  ·replace h := bif_t hb9 h
   refine st_skip (congrArg some hb9) ?_
   refine st_skip (congrArg some hb9) ?_
   refine st_skip (congrArg some hb9) ?_
   refine st (v := (B true)) (rv_pick_t (congrArg B hb9) rfl) ?_
   refine w_end ?_
   obtain rfl := Option.some.inj h
   exact ⟨rfl, _, σ8, fr_join ⟨rfl, rfl, rfl, trivial⟩, rfl, H.sel' [1, 2, 0] rfl rfl⟩
  ·replace h := bif_f hb9 h
   refine st_g (v := (I t_1)) (congrArg some hb9) (rv_move rfl) ?_
   obtain ⟨r10, hx11, h'⟩ := bind_some h
   clear h
   have h := h'; clear h'
   have hc12 := c_spec_inRange hx11
   refine st_call (cx_call hc12 (ent_f hc12.fn rfl) hn0 (show Hp S0 σ0 _ ([] ++ [Ch.bx n0 b1 0 [(Sl ah_0_0 h_0.1 ch_0_0), (Sl ah_0_1 h_0.2 ch_0_1)] [] [], Ch.ro 0 (Sl ah_0_0 h_0.1 ch_0_0) h_0.1, Ch.ro 0 (Sl ah_0_1 h_0.2 ch_0_1) h_0.2]) from (H.sel' [0, 1, 2] rfl rfl))) (wanted_yes rfl (by exact (congrArg some hb9))) ?_
   rintro _ σ13 ⟨_, ⟨rfl, rfl⟩, H, -⟩
   replace H : Hp S0 σ0 σ13 [Ch.bx n0 b1 0 [(Sl ah_0_0 h_0.1 ch_0_0), (Sl ah_0_1 h_0.2 ch_0_1)] [] [], Ch.ro 0 (Sl ah_0_0 h_0.1 ch_0_0) h_0.1, Ch.ro 0 (Sl ah_0_1 h_0.2 ch_0_1) h_0.2] := H
   refine st_g (v := (B (!r10))) (congrArg some hb9) (rv_not rfl) ?_
   refine st (v := (B (!r10))) (rv_pick_f (congrArg B hb9) rfl) ?_
   refine w_end ?_
   obtain rfl := Option.some.inj h
   exact ⟨rfl, _, σ13, fr_join ⟨rfl, rfl, rfl, trivial⟩, rfl, H.sel' [1, 2, 0] rfl rfl⟩
 ·clear hj
  have h := h'
  clear h' H
  rintro e a w ⟨rfl, ρ, σ14, rfl, rfl, H⟩
  refine q_then ?_
  refine cd_cond o3 rfl (fun hb15 => ?_) (fun hb15 => ?_)
  ·replace h := bif_t hb15 h
   refine c_seq ?_
   refine rg ?_
   refine st (v := (.slice none 0 0)) (rv_assign rfl) ?_
   refine w_end ?_
   refine q_then ?_
   refine c_ret ?_
   refine q_then_r ?_
   replace H := H.nilOwn (Int × (List Int) × Int) n0 n0
   obtain rfl := Option.some.inj h
   exact fin_ret (v := (.slice none 0 0)) (results_ok Try.results22 (res_tmp (v := (.slice none 0 0)) rfl res_nil) rfl) ⟨none, 0, rfl, rfl⟩ (H.sel' [0] rfl rfl)
  ·replace h := bif_f hb15 h
   refine c_skip ?_
   refine q_then ?_
   refine c_seq ?_
   have hc17 := H.cell (u := (Sl ah_0_0 h_0.1 ch_0_0)) (o' := 0) 2 0 rfl rfl rfl
   have hc18 := H.cells 2 rfl
   obtain ⟨r19, hx20, h'⟩ := bind_some h
   clear h
   have h := h'; clear h'
   have hc21 := c_spec_upTo (ah_0_0 := ah_0_0) (ch_0_0 := ch_0_0) (ah_0_1 := ah_0_1) (ch_0_1 := ch_0_1) hx20
   obtain ⟨xs22, hx23, h'⟩ := bind_some h
   clear h
   have h := h'; clear h'
   obtain ⟨a24, c25, hs26, hR27⟩ := (H.ro 0 rfl).slice hx23
   replace H := H.add (d := Ch.ro 0 (Sl a24 xs22 c25) xs22) hR27 (fun _ h => h)
   clear hR27
   obtain ⟨r28, hx29, h'⟩ := bind_some h
   clear h
   have h := h'; clear h'
   have hc30 := fun (b16 : Nat) => c_spec_ReplayLog (alist_0 := (some ⟨b16, 0, none⟩)) (clist_0 := 0) (alog_1 := a24) (clog_1 := c25) hx29
   have Hs := H
   refine rg2 (σ := σ14) (Nm := (Nat) × (Option Addr) × (Nat)) 12 [0, 5, 7] [[false, false, false], [true, false, false], [false, true, false], [true, true, false], [true, true, true]] [[(0, 1), (2, 3)], [(0, 0), (1, 1), (2, 2), (3, 3)], [(0, 0), (1, 1), (2, 2), (3, 3)], [(0, 0), (1, 1)], [(0, 0), (1, 1)], [(0, 2), (1, 3)], [(2, 2), (3, 3)], [(3, 4)], [(4, 4)], [(4, 4)], [(4, 4)], [(4, 4)]] 4 [fun ((b16, a31, c32) : (Nat) × (Option Addr) × (Nat)) => fun σm => Hp S0 σ0 σm [Ch.ro 0 (Sl a24 xs22 c25) xs22, Ch.ro 0 (Sl ah_0_0 h_0.1 ch_0_0) h_0.1, Ch.ro 0 (Sl ah_0_1 h_0.2 ch_0_1) h_0.2, Ch.bx n0 b1 0 [(Sl ah_0_0 h_0.1 ch_0_0), (Sl ah_0_1 h_0.2 ch_0_1)] [] []] ∧ Md (cov []) σ14 σm, fun ((b16, a31, c32) : (Nat) × (Option Addr) × (Nat)) => fun σm => Hp S0 σ0 σm [Ch.ro 0 (Sl (some ⟨b16, 0, none⟩) ([] : List (Int × (List Int) × Int)) 0) ([] : List (Int × (List Int) × Int)), Ch.ro 0 (Sl a24 xs22 c25) xs22, Ch.ro 0 (Sl ah_0_0 h_0.1 ch_0_0) h_0.1, Ch.ro 0 (Sl ah_0_1 h_0.2 ch_0_1) h_0.2, Ch.bx n0 b1 0 [(Sl ah_0_0 h_0.1 ch_0_0), (Sl ah_0_1 h_0.2 ch_0_1)] [] []] ∧ Md (fun i => (cov []) i ∨ (fun i => (cov []) i ∨ (fun b => blk (Sl (some ⟨b16, 0, none⟩) ([] : List (Int × (List Int) × Int)) 0) = some b) i) i) σ14 σm, fun ((b16, a31, c32) : (Nat) × (Option Addr) × (Nat)) => fun σm => Hp S0 σ0 σm [Ch.ro 0 (Sl a24 xs22 c25) xs22, Ch.ro 0 (Sl ah_0_0 h_0.1 ch_0_0) h_0.1, Ch.ro 0 (Sl ah_0_1 h_0.2 ch_0_1) h_0.2, Ch.bx n0 b1 0 [(Sl ah_0_0 h_0.1 ch_0_0), (Sl ah_0_1 h_0.2 ch_0_1)] [] []] ∧ Md (cov []) σ14 σm, fun ((b16, a31, c32) : (Nat) × (Option Addr) × (Nat)) => fun σm => Hp S0 σ0 σm [Ch.ro 0 (Sl (some ⟨b16, 0, none⟩) ([] : List (Int × (List Int) × Int)) 0) ([] : List (Int × (List Int) × Int)), Ch.ro 0 (Sl a24 xs22 c25) xs22, Ch.ro 0 (Sl ah_0_0 h_0.1 ch_0_0) h_0.1, Ch.ro 0 (Sl ah_0_1 h_0.2 ch_0_1) h_0.2, Ch.bx n0 b1 0 [(Sl ah_0_0 h_0.1 ch_0_0), (Sl ah_0_1 h_0.2 ch_0_1)] [] []] ∧ Md (fun i => (cov []) i ∨ (fun i => (cov []) i ∨ (fun b => blk (Sl (some ⟨b16, 0, none⟩) ([] : List (Int × (List Int) × Int)) 0) = some b) i) i) σ14 σm, fun ((b16, a31, c32) : (Nat) × (Option Addr) × (Nat)) => fun σm => Hp S0 σ0 σm [Ch.own n0 n0 (Sl a31 r28.1 c32) r28.1, Ch.ro 0 (Sl (some ⟨b16, 0, none⟩) ([] : List (Int × (List Int) × Int)) 0) ([] : List (Int × (List Int) × Int)), Ch.ro 0 (Sl a24 xs22 c25) xs22, Ch.ro 0 (Sl ah_0_0 h_0.1 ch_0_0) h_0.1, Ch.ro 0 (Sl ah_0_1 h_0.2 ch_0_1) h_0.2, Ch.bx n0 b1 0 [(Sl ah_0_0 h_0.1 ch_0_0), (Sl ah_0_1 h_0.2 ch_0_1)] [] []] ∧ Md (fun i => (cov []) i ∨ (fun i => (cov []) i ∨ (fun b => blk (Sl (some ⟨b16, 0, none⟩) ([] : List (Int × (List Int) × Int)) 0) = some b) i) i) σ14 σm] [fun ((b16, a31, c32) : (Nat) × (Option Addr) × (Nat)) => (Sl (some ⟨b16, 0, none⟩) ([] : List (Int × (List Int) × Int)) 0), fun ((b16, a31, c32) : (Nat) × (Option Addr) × (Nat)) => (pt b1 0), fun ((b16, a31, c32) : (Nat) × (Option Addr) × (Nat)) => (Sl ah_0_0 h_0.1 ch_0_0), fun ((b16, a31, c32) : (Nat) × (Option Addr) × (Nat)) => (.agg #[(Sl ah_0_0 h_0.1 ch_0_0), (Sl ah_0_1 h_0.2 ch_0_1)]), fun ((b16, a31, c32) : (Nat) × (Option Addr) × (Nat)) => (I t_1), fun ((b16, a31, c32) : (Nat) × (Option Addr) × (Nat)) => (I r19), fun ((b16, a31, c32) : (Nat) × (Option Addr) × (Nat)) => (Sl a24 xs22 c25), fun ((b16, a31, c32) : (Nat) × (Option Addr) × (Nat)) => (.tuple #[(Sl a31 r28.1 c32), (I r28.2)]), fun ((b16, a31, c32) : (Nat) × (Option Addr) × (Nat)) => (.tuple #[(Sl a31 r28.1 c32), (I r28.2)]), fun ((b16, a31, c32) : (Nat) × (Option Addr) × (Nat)) => (Sl a31 r28.1 c32), fun ((b16, a31, c32) : (Nat) × (Option Addr) × (Nat)) => (I r28.2), fun ((b16, a31, c32) : (Nat) × (Option Addr) × (Nat)) => (Sl a31 r28.1 c32)] (0, none, 0) (by kernel_rfl) (by kernel_rfl) ?_ ?_ ?_
   ·intro σm m0
    exact ⟨H.grow (m0.mono fun _ h => h.elim), m0⟩
   ·refine all_cons (by
      refine ⟨?_, ?_⟩
      ·rintro ⟨b16, a31, c32⟩ ρ σm hJ hoff hdep
       obtain ⟨H, m⟩ := id hJ
       refine dp_ex wn (ex_buildSlice (el := 0) (xs := ([] : List (Int × (List Int) × Int))) (ps := []) (cs := []) H hn0 Try.underlying33 ti41 rfl rfl (by kernel_rfl) (.nil) rfl) ?_
       rintro _ σq ⟨b16x, rfl, H2, m2⟩
       obtain ⟨σr0, hwr0, H2, mr0⟩ := H2.pub 0 rfl (Nat.zero_le _)
       exact ⟨_, (b16x, a31, c32), hwr0, rfl, ⟨H2.sel' [0, 1, 2, 3, 4] rfl rfl, m.comp (m2.comp mr0)⟩, stab [1, 2, 3, 4, 5, 6] (by kernel_rfl) ⟨rfl, rfl, rfl, rfl, rfl, rfl, trivial⟩⟩
      refine ⟨?_, ?_⟩
      ·rintro ⟨b16, a31, c32⟩ ρ σm hJ hoff hdep
       obtain ⟨H, m⟩ := id hJ
       refine dp_ex wn (ex_buildSlice (el := 0) (xs := ([] : List (Int × (List Int) × Int))) (ps := []) (cs := []) H hn0 Try.underlying33 ti41 rfl rfl (by kernel_rfl) (.nil) rfl) ?_
       rintro _ σq ⟨b16x, rfl, H2, m2⟩
       obtain ⟨σr0, hwr0, H2, mr0⟩ := H2.pub 0 rfl (Nat.zero_le _)
       exact ⟨_, (b16x, a31, c32), hwr0, rfl, ⟨H2.sel' [0, 1, 2, 3, 4] rfl rfl, m.comp (m2.comp mr0)⟩, stab [1, 2, 3, 4, 5, 6] (by kernel_rfl) ⟨rfl, rfl, rfl, rfl, rfl, rfl, trivial⟩⟩
      trivial) ?_
    refine ac rfl (by
      intro k; rintro ⟨b16, a31, c32⟩ ρ σm hJ hoff hdep
      have e2 := look_off (N := 27) (hoff 2 rfl) rfl
      exact dp_v (v := (pt b1 0)) wn (rv_fieldAddr (off := 0) (ft := 23) Try.underlying26 rfl ti23 rfl e2) rfl hJ) ?_
    refine all_cons (by
      refine ⟨?_, ?_⟩
      ·rintro ⟨b16, a31, c32⟩ ρ σm hJ hoff hdep
       have e17 := hdep 1 rfl rfl 17 rfl
       obtain ⟨H, m⟩ := id hJ
       have hc17 := H.cell (u := (Sl ah_0_0 h_0.1 ch_0_0)) (o' := 0) 3 0 rfl rfl rfl
       exact dp_v (v := (Sl ah_0_0 h_0.1 ch_0_0)) wn (rv_load1 Try.underlying23 rfl e17 hc17) rfl hJ
      refine ⟨?_, ?_⟩
      ·rintro ⟨b16, a31, c32⟩ ρ σm hJ hoff hdep
       have e17 := hdep 1 rfl rfl 17 rfl
       obtain ⟨H, m⟩ := id hJ
       have hc17 := H.cell (u := (Sl ah_0_0 h_0.1 ch_0_0)) (o' := 0) 4 0 rfl rfl rfl
       exact dp_v (v := (Sl ah_0_0 h_0.1 ch_0_0)) wn (rv_load1 Try.underlying23 rfl e17 hc17) rfl hJ
      refine ⟨?_, ?_⟩
      ·rintro ⟨b16, a31, c32⟩ ρ σm hJ hoff hdep
       have e17 := hdep 1 rfl rfl 17 rfl
       obtain ⟨H, m⟩ := id hJ
       have hc17 := H.cell (u := (Sl ah_0_0 h_0.1 ch_0_0)) (o' := 0) 3 0 rfl rfl rfl
       exact dp_v (v := (Sl ah_0_0 h_0.1 ch_0_0)) wn (rv_load1 Try.underlying23 rfl e17 hc17) rfl hJ
      refine ⟨?_, ?_⟩
      ·rintro ⟨b16, a31, c32⟩ ρ σm hJ hoff hdep
       have e17 := hdep 1 rfl rfl 17 rfl
       obtain ⟨H, m⟩ := id hJ
       have hc17 := H.cell (u := (Sl ah_0_0 h_0.1 ch_0_0)) (o' := 0) 4 0 rfl rfl rfl
       exact dp_v (v := (Sl ah_0_0 h_0.1 ch_0_0)) wn (rv_load1 Try.underlying23 rfl e17 hc17) rfl hJ
      trivial) ?_
    refine all_cons (by
      refine ⟨?_, ?_⟩
      ·rintro ⟨b16, a31, c32⟩ ρ σm hJ hoff hdep
       have e2 := look_off (N := 27) (hoff 2 rfl) rfl
       obtain ⟨H, m⟩ := id hJ
       have hc18 := H.cells 3 rfl
       exact dp_v (v := (.agg #[(Sl ah_0_0 h_0.1 ch_0_0), (Sl ah_0_1 h_0.2 ch_0_1)])) wn (rv_load (cs := [(Sl ah_0_0 h_0.1 ch_0_0), (Sl ah_0_1 h_0.2 ch_0_1)]) Try.underlying26 rfl ti26 e2 rfl hc18) rfl hJ
      refine ⟨?_, ?_⟩
      ·rintro ⟨b16, a31, c32⟩ ρ σm hJ hoff hdep
       have e2 := look_off (N := 27) (hoff 2 rfl) rfl
       obtain ⟨H, m⟩ := id hJ
       have hc18 := H.cells 4 rfl
       exact dp_v (v := (.agg #[(Sl ah_0_0 h_0.1 ch_0_0), (Sl ah_0_1 h_0.2 ch_0_1)])) wn (rv_load (cs := [(Sl ah_0_0 h_0.1 ch_0_0), (Sl ah_0_1 h_0.2 ch_0_1)]) Try.underlying26 rfl ti26 e2 rfl hc18) rfl hJ
      trivial) ?_
    refine ac rfl (by
      intro k; rintro ⟨b16, a31, c32⟩ ρ σm hJ hoff hdep
      have e1 := look_off (N := 27) (hoff 1 rfl) rfl
      exact dp_v (v := (I t_1)) wn (rv_move e1) rfl hJ) ?_
    refine all_cons (by
      refine ⟨?_, ?_⟩
      ·rintro ⟨b16, a31, c32⟩ ρ σm hJ hoff hdep
       have e19 : look 27 ρ 19 = (.agg #[(Sl ah_0_0 h_0.1 ch_0_0), (Sl ah_0_1 h_0.2 ch_0_1)]) := hdep 3 rfl rfl 19 rfl
       have e20 : look 27 ρ 20 = (I t_1) := hdep 4 rfl rfl 20 rfl
       obtain ⟨H, m⟩ := id hJ
       refine dp_cx wn (cx_call hc21 (ent_f hc21.fn (by show [look 27 ρ 19, look 27 ρ 20] = _; rw [e19, e20])) hn0 (show Hp S0 σ0 _ ([Ch.ro 0 (Sl ah_0_0 h_0.1 ch_0_0) h_0.1, Ch.ro 0 (Sl ah_0_1 h_0.2 ch_0_1) h_0.2] ++ [Ch.ro 0 (Sl a24 xs22 c25) xs22, Ch.ro 0 (Sl ah_0_0 h_0.1 ch_0_0) h_0.1, Ch.ro 0 (Sl ah_0_1 h_0.2 ch_0_1) h_0.2, Ch.bx n0 b1 0 [(Sl ah_0_0 h_0.1 ch_0_0), (Sl ah_0_1 h_0.2 ch_0_1)] [] []]) from (H.sel' [1, 2, 0, 1, 2, 3] rfl rfl))) ?_
       rintro _ σq ⟨_, ⟨rfl, rfl⟩, H2, m2⟩
       exact ⟨_, (b16, a31, c32), rfl, rfl, ⟨H2.sel' [0, 1, 2, 3] rfl rfl, m.comp0 (m2.mono (fun i h => by simp [cov, Ch.ro] at h))⟩, stab [0, 1, 2, 3, 4] (by kernel_rfl) ⟨rfl, rfl, rfl, rfl, rfl, trivial⟩⟩
      refine ⟨?_, ?_⟩
      ·rintro ⟨b16, a31, c32⟩ ρ σm hJ hoff hdep
       have e19 : look 27 ρ 19 = (.agg #[(Sl ah_0_0 h_0.1 ch_0_0), (Sl ah_0_1 h_0.2 ch_0_1)]) := hdep 3 rfl rfl 19 rfl
       have e20 : look 27 ρ 20 = (I t_1) := hdep 4 rfl rfl 20 rfl
       obtain ⟨H, m⟩ := id hJ
       refine dp_cx wn (cx_call hc21 (ent_f hc21.fn (by show [look 27 ρ 19, look 27 ρ 20] = _; rw [e19, e20])) hn0 (show Hp S0 σ0 _ ([Ch.ro 0 (Sl ah_0_0 h_0.1 ch_0_0) h_0.1, Ch.ro 0 (Sl ah_0_1 h_0.2 ch_0_1) h_0.2] ++ [Ch.ro 0 (Sl (some ⟨b16, 0, none⟩) ([] : List (Int × (List Int) × Int)) 0) ([] : List (Int × (List Int) × Int)), Ch.ro 0 (Sl a24 xs22 c25) xs22, Ch.ro 0 (Sl ah_0_0 h_0.1 ch_0_0) h_0.1, Ch.ro 0 (Sl ah_0_1 h_0.2 ch_0_1) h_0.2, Ch.bx n0 b1 0 [(Sl ah_0_0 h_0.1 ch_0_0), (Sl ah_0_1 h_0.2 ch_0_1)] [] []]) from (H.sel' [2, 3, 0, 1, 2, 3, 4] rfl rfl))) ?_
       rintro _ σq ⟨_, ⟨rfl, rfl⟩, H2, m2⟩
       exact ⟨_, (b16, a31, c32), rfl, rfl, ⟨H2.sel' [0, 1, 2, 3, 4] rfl rfl, m.comp0 (m2.mono (fun i h => by simp [cov, Ch.ro] at h))⟩, stab [0, 1, 2, 3, 4] (by kernel_rfl) ⟨rfl, rfl, rfl, rfl, rfl, trivial⟩⟩
      trivial) ?_
    refine ac rfl (by
      intro k; rintro ⟨b16, a31, c32⟩ ρ σm hJ hoff hdep
      have e18 := hdep 2 rfl rfl 18 rfl
      have e21 := hdep 5 rfl rfl 21 rfl
      exact dp_v (v := (Sl a24 xs22 c25)) wn (rv_slice_h Try.underlying23 ti43 hs26 e18 e21) rfl hJ) ?_
    refine all_cons (by
      refine ⟨?_, ?_⟩
      ·rintro ⟨b16, a31, c32⟩ ρ σm hJ hoff hdep
       have e16 : look 27 ρ 16 = (Sl (some ⟨b16, 0, none⟩) ([] : List (Int × (List Int) × Int)) 0) := hdep 0 rfl rfl 16 rfl
       have e22 : look 27 ρ 22 = (Sl a24 xs22 c25) := hdep 6 rfl rfl 22 rfl
       obtain ⟨H, m⟩ := id hJ
       refine dp_cx wn (cx_call (hc30 b16) (ent_f (hc30 b16).fn (by show [look 27 ρ 16, look 27 ρ 22] = _; rw [e16, e22])) hn0 (show Hp S0 σ0 _ ([Ch.ro 0 (Sl (some ⟨b16, 0, none⟩) ([] : List (Int × (List Int) × Int)) 0) ([] : List (Int × (List Int) × Int)), Ch.ro 0 (Sl a24 xs22 c25) xs22] ++ [Ch.ro 0 (Sl (some ⟨b16, 0, none⟩) ([] : List (Int × (List Int) × Int)) 0) ([] : List (Int × (List Int) × Int)), Ch.ro 0 (Sl a24 xs22 c25) xs22, Ch.ro 0 (Sl ah_0_0 h_0.1 ch_0_0) h_0.1, Ch.ro 0 (Sl ah_0_1 h_0.2 ch_0_1) h_0.2, Ch.bx n0 b1 0 [(Sl ah_0_0 h_0.1 ch_0_0), (Sl ah_0_1 h_0.2 ch_0_1)] [] []]) from (H.sel' [0, 1, 0, 1, 2, 3, 4] rfl rfl))) ?_
       rintro _ σq ⟨_, ⟨a31x, c32x, rfl, rfl⟩, H2, m2⟩
       exact ⟨_, (b16, a31x, c32x), rfl, rfl, ⟨H2.sel' [0, 1, 2, 3, 4, 5] rfl rfl, m.comp0 (m2.mono (fun i h => by simp [cov, Ch.ro] at h))⟩, stab [0, 1, 2, 3, 4, 5, 6] (by kernel_rfl) ⟨rfl, rfl, rfl, rfl, rfl, rfl, rfl, trivial⟩⟩
      trivial) ?_
    refine ac rfl (by
      intro k; rintro ⟨b16, a31, c32⟩ ρ σm hJ hoff hdep
      have e23 := hdep 7 rfl rfl 23 rfl
      exact dp_v (v := (.tuple #[(Sl a31 r28.1 c32), (I r28.2)])) wn (rv_move e23) rfl hJ) ?_
    refine ac rfl (by
      intro k; rintro ⟨b16, a31, c32⟩ ρ σm hJ hoff hdep
      have e15 := hdep 8 rfl rfl 15 rfl
      exact dp_v (v := (Sl a31 r28.1 c32)) wn (rv_extract e15 rfl) rfl hJ) ?_
    refine ac rfl (by
      intro k; rintro ⟨b16, a31, c32⟩ ρ σm hJ hoff hdep
      have e15 := hdep 8 rfl rfl 15 rfl
      exact dp_v (v := (I r28.2)) wn (rv_extract e15 rfl) rfl hJ) ?_
    refine ac rfl (by
      intro k; rintro ⟨b16, a31, c32⟩ ρ σm hJ hoff hdep
      have e24 := hdep 9 rfl rfl 24 rfl
      exact dp_v (v := (Sl a31 r28.1 c32)) wn (rv_assign e24) rfl hJ) ?_
    exact all_nil
   ·rintro ⟨b16, a31, c32⟩ ρ σ33 hJ hoff hrel
    have e5 := hrel 11 rfl 5 rfl
    have e25 := hrel 10 rfl 25 rfl
    obtain ⟨H, -⟩ := (show Hp S0 σ0 σ33 [Ch.own n0 n0 (Sl a31 r28.1 c32) r28.1, Ch.ro 0 (Sl (some ⟨b16, 0, none⟩) ([] : List (Int × (List Int) × Int)) 0) ([] : List (Int × (List Int) × Int)), Ch.ro 0 (Sl a24 xs22 c25) xs22, Ch.ro 0 (Sl ah_0_0 h_0.1 ch_0_0) h_0.1, Ch.ro 0 (Sl ah_0_1 h_0.2 ch_0_1) h_0.2, Ch.bx n0 b1 0 [(Sl ah_0_0 h_0.1 ch_0_0), (Sl ah_0_1 h_0.2 ch_0_1)] [] []] ∧ Md (fun i => (cov []) i ∨ (fun i => (cov []) i ∨ (fun b => blk (Sl (some ⟨b16, 0, none⟩) ([] : List (Int × (List Int) × Int)) 0) = some b) i) i) σ14 σ33 from hJ)
    clear hJ Hs
    rw [fr_lookL (L := [(5, (Sl a31 r28.1 c32)), (25, (I r28.2))]) ⟨e5, e25, trivial⟩]
    clear hoff hrel e5 e25
    refine st (v := (I r28.2)) (rv_assign rfl) ?_
    refine w_end ?_
    refine q_then ?_
    refine c_seq ?_
    refine rg ?_
    refine st (v := (Sl a31 r28.1 c32)) (rv_move rfl) ?_
    refine st (v := (Sl a31 r28.1 c32)) (rv_assign rfl) ?_
    refine w_end ?_
    refine q_then ?_
    refine c_ret ?_
    obtain rfl := Option.some.inj h
    exact fin_ret (v := (Sl a31 r28.1 c32)) (results_ok Try.results22 (res_tmp (v := (Sl a31 r28.1 c32)) rfl res_nil) rfl) ⟨a31, c32, rfl, rfl⟩ (H.sel' [0] rfl rfl)

theorem c_laws_isIn {list_0 : List Int} {n_1 : Int} {alist_0 : Option Addr} {clist_0 : Nat} {r : Bool} (h : M.laws_isIn list_0 n_1 = some r) :
    Cal2 Try.prog 25 [(Sl alist_0 list_0 clist_0), (I n_1)] [Ch.ro 0 (Sl alist_0 list_0 clist_0) list_0] (fun n0 v L => v = (B r) ∧ L = []) := by
 refine cal2 (n := 18) Try.func25 rfl rfl rfl rfl ?_
 intro S0 σ0 n0 hn0 H
 unfold M.laws_isIn at h
 refine c_seq ?_
 refine rg ?_
 refine st (v := (B false)) (rv_assign rfl) ?_
 refine w_end ?_
 refine q_then ?_
 refine c_seq ?_
 refine c_seq ?_
 refine rg ?_
 refine st (v := (I 0)) (rv_assign rfl) ?_
 refine w_end ?_
 refine q_then ?_
 obtain ⟨o1, hj, h'⟩ := bind_some h
 clear h
 refine c_cut (fun e a w => (∃ t, o1 = (.inl t) ∧ e = .normal ∧ ∃ (ρ : Nat → Value) (σ : St), a = fr 18 (updL ρ []) ∧ w = σ.w ∧ Hp S0 σ0 σ []) ∨ (∃ t, o1 = (.inr t) ∧ e = .ret ∧ ∃ (ρ : Nat → Value) (σ : St), a = fr 18 (updL ρ [(4, (B t))]) ∧ w = σ.w ∧ Hp S0 σ0 σ [])) ?_ ?_
 ·clear h'
  rename _ = some o1 => h
  refine c_blk ?_
  refine wp_loopM _ h (fun s2 a w => ∃ (ρ : Nat → Value) (σ : St), a = fr 18 (updL ρ [(0, (Sl alist_0 list_0 clist_0)), (1, (I n_1)), (5, (I s2))]) ∧ w = σ.w ∧ Hp S0 σ0 σ [Ch.ro 0 (Sl alist_0 list_0 clist_0) list_0]) ⟨_, σ0, fr_join ⟨rfl, rfl, rfl, trivial⟩, rfl, H.sel' [0] rfl rfl⟩ ?_
  clear h H
  rintro s2 a w o ⟨ρ, σ3, rfl, rfl, H⟩ h hres
  refine c_seq ?_
  refine c_seq ?_
  refine rg ?_
  refine st (v := (I s2)) (rv_move rfl) ?_
  refine st (v := (Sl alist_0 list_0 clist_0)) (rv_move rfl) ?_
  refine st (v := (I (list_0.length : Int))) (rv_len Try.underlying24 rfl) ?_
  refine st (v := (B (decide (s2 < (list_0.length : Int))))) (rv_lss (a := s2) (b := (list_0.length : Int)) rfl rfl) ?_
  refine w_end ?_
  refine q_then ?_
  refine cd_cond (decide (s2 < (list_0.length : Int))) rfl (fun hb4 => ?_) (fun hb4 => ?_)
  ·replace h := bif_t hb4 h
   refine c_skip ?_
   refine q_then ?_
   refine c_seq ?_
   refine c_blk ?_
   refine c_seq ?_
   refine rg ?_
   refine st (v := (Sl alist_0 list_0 clist_0)) (rv_move rfl) ?_
   refine st (v := (I s2)) (rv_move rfl) ?_
   obtain ⟨x5, hx6, h'⟩ := bind_some h
   clear h
   have h := h'; clear h'
   obtain ⟨b8, o9, hi7, -⟩ := (H.ro 0 rfl).ix hx6
   refine st (v := (pt b8 o9)) (rv_ix Try.underlying24 ti3 rfl rfl hi7) ?_
   have hc10 := ((H.ro 0 rfl).at hx6 hi7).int
   refine st (v := (I x5)) (rv_load1 Try.underlying3 rfl rfl hc10) ?_
   refine st (v := (I n_1)) (rv_move rfl) ?_
   refine st (v := (B (x5 == n_1))) (rv_eql (a := x5) (b := n_1) rfl rfl) ?_
   refine w_end ?_
   refine q_then ?_
   refine cd_cond (x5 == n_1) rfl (fun hb11 => ?_) (fun hb11 => ?_)
   ·replace h := bif_t hb11 h
    refine c_seq ?_
    refine rg ?_
    refine st (v := (B true)) (rv_assign rfl) ?_
    refine w_end ?_
    refine q_then ?_
    refine c_ret ?_
    refine q_blk_r ?_
    refine q_then_r ?_
    refine q_then_r ?_
    refine q_blk_r ?_
    obtain rfl := Option.some.inj h
    obtain rfl := hres _ rfl
    exact .inr (⟨_, rfl, rfl, _, σ3, fr_join ⟨rfl, trivial⟩, rfl, H.sel' [] rfl rfl⟩)
   ·replace h := bif_f hb11 h
    refine c_skip ?_
    refine q_blk ?_
    refine q_then ?_
    refine rg ?_
    refine st (v := (I s2)) (rv_move rfl) ?_
    refine st (v := (I (w64 (s2 + 1)))) (rv_add (a := s2) (b := 1) rfl rfl) ?_
    refine st (v := (I (w64 (s2 + 1)))) (rv_assign rfl) ?_
    refine w_end ?_
    refine q_then ?_
    obtain rfl := Option.some.inj h
    exact ⟨_, rfl, _, σ3, fr_join ⟨rfl, rfl, rfl, trivial⟩, rfl, H.sel' [0] rfl rfl⟩
  ·replace h := bif_f hb4 h
   refine c_exit ?_
   refine q_then_x ?_
   refine q_then_x ?_
   refine q_blk_hit ?_
   obtain rfl := Option.some.inj h
   obtain rfl := hres _ rfl
   exact .inl ⟨_, rfl, rfl, _, σ3, fr_join trivial, rfl, H.sel' [] rfl rfl⟩
 ·clear hj
  have h := h'
  clear h' H
  rintro e a w (⟨t12, rfl, rfl, ρ, σ13, rfl, rfl, H⟩ | ⟨t14, rfl, rfl, ρ, σ15, rfl, rfl, H⟩)
  ·replace h := selim_l h
   refine q_then ?_
   refine c_seq ?_
   refine rg ?_
   refine st (v := (B false)) (rv_assign rfl) ?_
   refine w_end ?_
   refine q_then ?_
   refine c_ret ?_
   obtain rfl := Option.some.inj h
   exact fin_ret (v := (B false)) (results_ok Try.results25 (res_tmp (v := (B false)) rfl res_nil) rfl) ⟨rfl, rfl⟩ (H.sel' [] rfl rfl)
  ·replace h := selim_r h
   refine q_then_r ?_
   obtain rfl := Option.some.inj h
   exact fin_ret (v := (B t14)) (results_ok Try.results25 (res_tmp (v := (B t14)) rfl res_nil) rfl) ⟨rfl, rfl⟩ (H.sel' [] rfl rfl)

theorem c_laws_FnStoreAtBetween {code_0 : List UInt8} {acode_0 : Option Addr} {ccode_0 : Nat} {r : Bool} (h : M.laws_FnStoreAtBetween code_0 = some r) :
    Cal2 Try.prog 5 [(Sl acode_0 code_0 ccode_0)] [Ch.ro 0 (Sl acode_0 code_0 ccode_0) code_0] (fun n0 v L => v = (B r) ∧ L = []) := by
 refine cal2 (n := 53) Try.func5 rfl rfl rfl rfl ?_
 intro S0 σ0 n0 hn0 H
 unfold M.laws_FnStoreAtBetween at h
 refine c_seq ?_
 refine rg ?_
 refine st (v := (B false)) (rv_assign rfl) ?_
 refine w_end ?_
 refine q_then ?_
 refine c_seq ?_
 refine c_seq ?_
 refine rg ?_
 refine st (v := (Sl acode_0 code_0 ccode_0)) (rv_move rfl) ?_
 refine st (v := (I (code_0.length : Int))) (rv_len Try.underlying22 rfl) ?_
 refine st (v := (B (decide (1048576 < (code_0.length : Int))))) (rv_gtr (a := (code_0.length : Int)) (b := 1048576) rfl rfl) ?_
 refine w_end ?_
 refine q_then ?_
 refine cd_cond (decide (1048576 < (code_0.length : Int))) rfl (fun hb1 => ?_) (fun hb1 => ?_)
 ·replace h := bif_t hb1 h
  refine c_seq ?_
  refine rg ?_
  refine st (v := (B true)) (rv_assign rfl) ?_
  refine w_end ?_
  refine q_then ?_
  refine c_ret ?_
  refine q_then_r ?_
  obtain rfl := Option.some.inj h
  exact fin_ret (v := (B true)) (results_ok Try.results5 (res_tmp (v := (B true)) rfl res_nil) rfl) ⟨rfl, rfl⟩ (H.sel' [] rfl rfl)
 ·replace h := bif_f hb1 h
  refine c_skip ?_
  refine q_then ?_
  refine c_seq ?_
  refine rg ?_
  refine st (v := (Sl acode_0 code_0 ccode_0)) (rv_move rfl) ?_
  obtain ⟨r2, hx3, h'⟩ := bind_some h
  clear h
  have h := h'; clear h'
  have hc4 := c_spec_DrawStoreAt (acode_0 := acode_0) (ccode_0 := ccode_0) hx3
  refine st_call (cx_call hc4 (ent_f hc4.fn rfl) hn0 (show Hp S0 σ0 _ ([Ch.ro 0 (Sl acode_0 code_0 ccode_0) code_0] ++ [Ch.ro 0 (Sl acode_0 code_0 ccode_0) code_0]) from (H.sel' [0, 0] rfl rfl))) wn ?_
  rintro _ σ9 ⟨_, ⟨a5, c6, a7, c8, rfl, rfl⟩, H, -⟩
  replace H : Hp S0 σ0 σ9 [Ch.ro n0 (Sl a5 r2.1.1 c6) r2.1.1, Ch.ro n0 (Sl a7 r2.1.2 c8) r2.1.2, Ch.ro 0 (Sl acode_0 code_0 ccode_0) code_0] := H
  refine st (v := (.tuple #[(.agg #[(Sl a5 r2.1.1 c6), (Sl a7 r2.1.2 c8)]), (I r2.2)])) (rv_move rfl) ?_
  refine st (v := (.agg #[(Sl a5 r2.1.1 c6), (Sl a7 r2.1.2 c8)])) (rv_extract rfl rfl) ?_
  refine st (v := (I r2.2)) (rv_extract rfl rfl) ?_
  refine st_ex (ex_alloc (cs := [(.slice none 0 0), (.slice none 0 0)]) H hn0 ti26 rfl) wn ?_
  rintro _ σ11 ⟨b10, rfl, H, -⟩
  refine st_exS (ex_store_box (k := 0) (cs := [(.slice none 0 0), (.slice none 0 0)]) (vs := [(Sl a5 r2.1.1 c6), (Sl a7 r2.1.2 c8)]) (cs' := [(Sl a5 r2.1.1 c6), (Sl a7 r2.1.2 c8)]) H (i := 0) rfl ti26 rfl rfl rfl rfl rfl (Nat.le_of_ble_eq_true rfl) (by simp [plain]) rfl) wn ?_
  rintro σ12 ⟨H, -⟩
  refine st (v := (I r2.2)) (rv_assign rfl) ?_
  refine w_end ?_
  refine q_then ?_
  refine c_seq ?_
  refine rg ?_
  have hc13 := H.cells 0 rfl
  refine st (v := (.agg #[(Sl a5 r2.1.1 c6), (Sl a7 r2.1.2 c8)])) (rv_load (cs := [(Sl a5 r2.1.1 c6), (Sl a7 r2.1.2 c8)]) Try.underlying26 rfl ti26 rfl rfl hc13) ?_
  refine st (v := (I r2.2)) (rv_move rfl) ?_
  replace H := H.roLow 1 0 rfl (Nat.zero_le _)
  replace H := H.roLow 3 0 rfl (Nat.zero_le _)
  obtain ⟨r14, hx15, h'⟩ := bind_some h
  clear h
  have h := h'; clear h'
  have hc16 := c_impl_StoreAt (ah_0_0 := a5) (ch_0_0 := c6) (ah_0_1 := a7) (ch_0_1 := c8) hx15
  refine st_call (cx_call hc16 (ent_f hc16.fn rfl) hn0 (show Hp S0 σ0 _ ([Ch.ro 0 (Sl a5 r2.1.1 c6) r2.1.1, Ch.ro 0 (Sl a7 r2.1.2 c8) r2.1.2] ++ [Ch.ro 0 (Sl a7 r2.1.2 c8) r2.1.2, Ch.ro 0 (Sl a5 r2.1.1 c6) r2.1.1, Ch.bx n0 b10 0 [(Sl a5 r2.1.1 c6), (Sl a7 r2.1.2 c8)] [] [], Ch.ro n0 (Sl a5 r2.1.1 c6) r2.1.1, Ch.ro n0 (Sl a7 r2.1.2 c8) r2.1.2, Ch.ro 0 (Sl acode_0 code_0 ccode_0) code_0]) from (H.sel' [1, 0, 0, 1, 2, 3, 4, 5] rfl rfl))) wn ?_
  rintro _ σ19 ⟨_, ⟨a17, c18, rfl, rfl⟩, H, -⟩
  replace H : Hp S0 σ0 σ19 [Ch.own 0 0 (Sl a17 r14 c18) r14, Ch.ro 0 (Sl a7 r2.1.2 c8) r2.1.2, Ch.ro 0 (Sl a5 r2.1.1 c6) r2.1.1, Ch.bx n0 b10 0 [(Sl a5 r2.1.1 c6), (Sl a7 r2.1.2 c8)] [] [], Ch.ro n0 (Sl a5 r2.1.1 c6) r2.1.1, Ch.ro n0 (Sl a7 r2.1.2 c8) r2.1.2, Ch.ro 0 (Sl acode_0 code_0 ccode_0) code_0] := H
  refine st (v := (Sl a17 r14 c18)) (rv_assign rfl) ?_
  refine w_end ?_
  refine q_then ?_
  refine c_seq ?_
  refine c_seq ?_
  obtain ⟨o20, hj, h'⟩ := bind_some h
  clear h
  refine c_cut (fun e a w => e = .normal ∧ ∃ (ρ : Nat → Value) (σ : St), a = fr 53 (updL ρ [(3, (pt b10 0)), (4, (I r2.2)), (5, (Sl a17 r14 c18)), (41, (B o20))]) ∧ w = σ.w ∧ Hp S0 σ0 σ [Ch.ro n0 (Sl a5 r2.1.1 c6) r2.1.1, Ch.ro n0 (Sl a7 r2.1.2 c8) r2.1.2, Ch.bx n0 b10 0 [(Sl a5 r2.1.1 c6), (Sl a7 r2.1.2 c8)] [] [], Ch.own 0 0 (Sl a17 r14 c18) r14]) ?_ ?_
  ·clear h'
   rename _ = some o20 => h
   refine rg ?_
   refine st (v := (Sl a17 r14 c18)) (rv_move rfl) ?_
   have hc21 := H.cells 3 rfl
   refine st (v := (.agg #[(Sl a5 r2.1.1 c6), (Sl a7 r2.1.2 c8)])) (rv_load (cs := [(Sl a5 r2.1.1 c6), (Sl a7 r2.1.2 c8)]) Try.underlying26 rfl ti26 rfl rfl hc21) ?_
   refine st (v := (I r2.2)) (rv_move rfl) ?_
   replace H := H.roLow 4 0 rfl (Nat.zero_le _)
   replace H := H.roLow 6 0 rfl (Nat.zero_le _)
   obtain ⟨r22, hx23, h'⟩ := bind_some h
   clear h
   have h := h'; clear h'
   have hc24 := c_spec_StoreAt (ah_0_0 := a5) (ch_0_0 := c6) (ah_0_1 := a7) (ch_0_1 := c8) hx23
   refine st_call (cx_call hc24 (ent_f hc24.fn rfl) hn0 (show Hp S0 σ0 _ ([Ch.ro 0 (Sl a5 r2.1.1 c6) r2.1.1, Ch.ro 0 (Sl a7 r2.1.2 c8) r2.1.2] ++ [Ch.ro 0 (Sl a7 r2.1.2 c8) r2.1.2, Ch.ro 0 (Sl a5 r2.1.1 c6) r2.1.1, Ch.own 0 0 (Sl a17 r14 c18) r14, Ch.ro 0 (Sl a7 r2.1.2 c8) r2.1.2, Ch.ro 0 (Sl a5 r2.1.1 c6) r2.1.1, Ch.bx n0 b10 0 [(Sl a5 r2.1.1 c6), (Sl a7 r2.1.2 c8)] [] [], Ch.ro n0 (Sl a5 r2.1.1 c6) r2.1.1, Ch.ro n0 (Sl a7 r2.1.2 c8) r2.1.2, Ch.ro 0 (Sl acode_0 code_0 ccode_0) code_0]) from (H.sel' [1, 0, 0, 1, 2, 3, 4, 5, 6, 7, 8] rfl rfl))) wn ?_
   rintro _ σ27 ⟨_, ⟨a25, c26, rfl, rfl⟩, H, -⟩
   replace H : Hp S0 σ0 σ27 [Ch.own n0 n0 (Sl a25 r22 c26) r22, Ch.ro 0 (Sl a7 r2.1.2 c8) r2.1.2, Ch.ro 0 (Sl a5 r2.1.1 c6) r2.1.1, Ch.own 0 0 (Sl a17 r14 c18) r14, Ch.ro 0 (Sl a7 r2.1.2 c8) r2.1.2, Ch.ro 0 (Sl a5 r2.1.1 c6) r2.1.1, Ch.bx n0 b10 0 [(Sl a5 r2.1.1 c6), (Sl a7 r2.1.2 c8)] [] [], Ch.ro n0 (Sl a5 r2.1.1 c6) r2.1.1, Ch.ro n0 (Sl a7 r2.1.2 c8) r2.1.2, Ch.ro 0 (Sl acode_0 code_0 ccode_0) code_0] := H
   replace H : Hp S0 σ0 σ27 [Ch.own n0 n0 (Sl a25 r22 c26) r22, Ch.own 0 0 (Sl a17 r14 c18) r14, Ch.bx n0 b10 0 [(Sl a5 r2.1.1 c6), (Sl a7 r2.1.2 c8)] [] [], Ch.ro n0 (Sl a5 r2.1.1 c6) r2.1.1, Ch.ro n0 (Sl a7 r2.1.2 c8) r2.1.2] := H.sel' [0, 3, 6, 7, 8] rfl rfl
   obtain ⟨σ28, hw29, H, -⟩ := H.pub 0 rfl (Nat.le_refl _)
   rw [← hw29]; clear hw29
   replace H := H.roLow 0 0 rfl (Nat.zero_le _)
   obtain ⟨r30, hx31, h'⟩ := bind_some h
   clear h
   have h := h'; clear h'
   have hc32 := c_laws_equalItems (aa_0 := a17) (ca_0 := c18) (ab_1 := a25) (cb_1 := c26) hx31
   have hle := Nat.le_trans hn0 H.size
   refine st_call (cx_lend (Loan.lend (Loan.same Loan.nil)) hc32 (ent_f hc32.fn rfl) (show Hp S0 σ0 _ ([Ch.own 0 0 (Sl a17 r14 c18) r14] ++ ([Ch.ro 0 (Sl a25 r22 c26) r22] ++ [Ch.ro 0 (Sl a25 r22 c26) r22, Ch.ro n0 (Sl a25 r22 c26) r22, Ch.bx n0 b10 0 [(Sl a5 r2.1.1 c6), (Sl a7 r2.1.2 c8)] [] [], Ch.ro n0 (Sl a5 r2.1.1 c6) r2.1.1, Ch.ro n0 (Sl a7 r2.1.2 c8) r2.1.2])) from (H.sel' [2, 0, 0, 1, 3, 4, 5] rfl rfl)) (by rintro _ _ _ ⟨rfl, rfl⟩; exact trivial)) wn ?_
   rintro _ σ33 ⟨_, ⟨rfl, rfl⟩, H, -, -⟩
   replace H : Hp S0 σ0 σ33 [Ch.own 0 0 (Sl a17 r14 c18) r14, Ch.ro 0 (Sl a25 r22 c26) r22, Ch.ro n0 (Sl a25 r22 c26) r22, Ch.bx n0 b10 0 [(Sl a5 r2.1.1 c6), (Sl a7 r2.1.2 c8)] [] [], Ch.ro n0 (Sl a5 r2.1.1 c6) r2.1.1, Ch.ro n0 (Sl a7 r2.1.2 c8) r2.1.2] := H
   clear hle
   replace H : Hp S0 σ0 σ33 [Ch.own 0 0 (Sl a17 r14 c18) r14, Ch.ro 0 (Sl a25 r22 c26) r22, Ch.ro n0 (Sl a25 r22 c26) r22, Ch.bx n0 b10 0 [(Sl a5 r2.1.1 c6), (Sl a7 r2.1.2 c8)] [] [], Ch.ro n0 (Sl a5 r2.1.1 c6) r2.1.1, Ch.ro n0 (Sl a7 r2.1.2 c8) r2.1.2] := H
   refine st (v := (B (!r30))) (rv_not rfl) ?_
   refine st (v := (B (!r30))) (rv_move rfl) ?_
   rcases Bool.eq_false_or_eq_true (!r30) with hb34 | hb34
   ·replace h := bif_t hb34 h
    refine st_skip (congrArg some hb34) ?_
    refine st_skip (congrArg some hb34) ?_
    refine st_skip (congrArg some hb34) ?_
    refine st (v := (B true)) (rv_pick_t (congrArg B hb34) rfl) ?_
    refine st (v := (B true)) (rv_move rfl) ?_
    refine st_skip rfl ?_
    refine st_skip rfl ?_
    refine st (v := (B true)) (rv_pick_t rfl rfl) ?_
    refine st (v := (B true)) (rv_move rfl) ?_
    refine st_skip rfl ?_
    refine st_skip rfl ?_
    refine st (v := (B true)) (rv_pick_t rfl rfl) ?_
    refine st (v := (B true)) (rv_move rfl) ?_
    refine st_skip rfl ?_
    refine st_skip rfl ?_
    refine st_skip rfl ?_
    refine st_skip rfl ?_
    refine st (v := (B true)) (rv_pick_t rfl rfl) ?_
    refine w_end ?_
    obtain rfl := Option.some.inj h
    exact ⟨rfl, _, σ33, fr_join ⟨rfl, rfl, rfl, rfl, trivial⟩, rfl, H.sel' [4, 5, 3, 0] rfl rfl⟩
   ·replace h := bif_f hb34 h
    have hc35 := H.cells 3 rfl
    refine st_g (v := (.agg #[(Sl a5 r2.1.1 c6), (Sl a7 r2.1.2 c8)])) (congrArg some hb34) (rv_load (cs := [(Sl a5 r2.1.1 c6), (Sl a7 r2.1.2 c8)]) Try.underlying26 rfl ti26 rfl rfl hc35) ?_
    replace H := H.roLow 4 0 rfl (Nat.zero_le _)
    replace H := H.roLow 6 0 rfl (Nat.zero_le _)
    obtain ⟨r36, hx37, h'⟩ := bind_some h
    clear h
    have h := h'; clear h'
    have hc38 := c_impl_ValidHistory (ah_0_0 := a5) (ch_0_0 := c6) (ah_0_1 := a7) (ch_0_1 := c8) hx37
    refine st_call (cx_call hc38 (ent_f hc38.fn rfl) hn0 (show Hp S0 σ0 _ ([Ch.ro 0 (Sl a5 r2.1.1 c6) r2.1.1, Ch.ro 0 (Sl a7 r2.1.2 c8) r2.1.2] ++ [Ch.ro 0 (Sl a7 r2.1.2 c8) r2.1.2, Ch.ro 0 (Sl a5 r2.1.1 c6) r2.1.1, Ch.own 0 0 (Sl a17 r14 c18) r14, Ch.ro 0 (Sl a25 r22 c26) r22, Ch.ro n0 (Sl a25 r22 c26) r22, Ch.bx n0 b10 0 [(Sl a5 r2.1.1 c6), (Sl a7 r2.1.2 c8)] [] [], Ch.ro n0 (Sl a5 r2.1.1 c6) r2.1.1, Ch.ro n0 (Sl a7 r2.1.2 c8) r2.1.2]) from (H.sel' [1, 0, 0, 1, 2, 3, 4, 5, 6, 7] rfl rfl))) (wanted_yes rfl (by exact (congrArg some hb34))) ?_
    rintro _ σ39 ⟨_, ⟨rfl, rfl⟩, H, -⟩
    replace H : Hp S0 σ0 σ39 [Ch.ro 0 (Sl a7 r2.1.2 c8) r2.1.2, Ch.ro 0 (Sl a5 r2.1.1 c6) r2.1.1, Ch.own 0 0 (Sl a17 r14 c18) r14, Ch.ro 0 (Sl a25 r22 c26) r22, Ch.ro n0 (Sl a25 r22 c26) r22, Ch.bx n0 b10 0 [(Sl a5 r2.1.1 c6), (Sl a7 r2.1.2 c8)] [] [], Ch.ro n0 (Sl a5 r2.1.1 c6) r2.1.1, Ch.ro n0 (Sl a7 r2.1.2 c8) r2.1.2] := H
    replace H : Hp S0 σ0 σ39 [Ch.own 0 0 (Sl a17 r14 c18) r14, Ch.bx n0 b10 0 [(Sl a5 r2.1.1 c6), (Sl a7 r2.1.2 c8)] [] [], Ch.ro n0 (Sl a5 r2.1.1 c6) r2.1.1, Ch.ro n0 (Sl a7 r2.1.2 c8) r2.1.2] := H.sel' [2, 5, 6, 7] rfl rfl
    refine st_g (v := (B (!r36))) (congrArg some hb34) (rv_not rfl) ?_
    refine st (v := (B (!r36))) (rv_pick_f (congrArg B hb34) rfl) ?_
    refine st (v := (B (!r36))) (rv_move rfl) ?_
    rcases Bool.eq_false_or_eq_true (!r36) with hb40 | hb40
    ·replace h := bif_t hb40 h
     refine st_skip (congrArg some hb40) ?_
     refine st_skip (congrArg some hb40) ?_
     refine st (v := (B true)) (rv_pick_t (congrArg B hb40) rfl) ?_
     refine st (v := (B true)) (rv_move rfl) ?_
     refine st_skip rfl ?_
     refine st_skip rfl ?_
     refine st (v := (B true)) (rv_pick_t rfl rfl) ?_
     refine st (v := (B true)) (rv_move rfl) ?_
     refine st_skip rfl ?_
     refine st_skip rfl ?_
     refine st_skip rfl ?_
     refine st_skip rfl ?_
     refine st (v := (B true)) (rv_pick_t rfl rfl) ?_
     refine w_end ?_
     obtain rfl := Option.some.inj h
     exact ⟨rfl, _, σ39, fr_join ⟨rfl, rfl, rfl, rfl, trivial⟩, rfl, H.sel' [2, 3, 1, 0] rfl rfl⟩
    ·replace h := bif_f hb40 h
     refine st_g (v := (I r2.2)) (congrArg some hb40) (rv_move rfl) ?_
     refine st_g (v := (B (decide (r2.2 < 1)))) (congrArg some hb40) (rv_lss (a := r2.2) (b := 1) rfl rfl) ?_
     refine st (v := (B (decide (r2.2 < 1)))) (rv_pick_f (congrArg B hb40) rfl) ?_
     refine st (v := (B (decide (r2.2 < 1)))) (rv_move rfl) ?_
     rcases Bool.eq_false_or_eq_true (decide (r2.2 < 1)) with hb41 | hb41
     ·replace h := bif_t hb41 h
      refine st_skip (congrArg some hb41) ?_
      refine st_skip (congrArg some hb41) ?_
      refine st (v := (B true)) (rv_pick_t (congrArg B hb41) rfl) ?_
      refine st (v := (B true)) (rv_move rfl) ?_
      refine st_skip rfl ?_
      refine st_skip rfl ?_
      refine st_skip rfl ?_
      refine st_skip rfl ?_
      refine st (v := (B true)) (rv_pick_t rfl rfl) ?_
      refine w_end ?_
      obtain rfl := Option.some.inj h
      exact ⟨rfl, _, σ39, fr_join ⟨rfl, rfl, rfl, rfl, trivial⟩, rfl, H.sel' [2, 3, 1, 0] rfl rfl⟩
     ·replace h := bif_f hb41 h
      refine st_g (v := (I r2.2)) (congrArg some hb41) (rv_move rfl) ?_
      refine st_g (v := (B (decide (1000 < r2.2)))) (congrArg some hb41) (rv_gtr (a := r2.2) (b := 1000) rfl rfl) ?_
      refine st (v := (B (decide (1000 < r2.2)))) (rv_pick_f (congrArg B hb41) rfl) ?_
      refine st (v := (B (decide (1000 < r2.2)))) (rv_move rfl) ?_
      rcases Bool.eq_false_or_eq_true (decide (1000 < r2.2)) with hb42 | hb42
      ·replace h := bif_t hb42 h
       refine st_skip (congrArg some hb42) ?_
       refine st_skip (congrArg some hb42) ?_
       refine st_skip (congrArg some hb42) ?_
       refine st_skip (congrArg some hb42) ?_
       refine st (v := (B true)) (rv_pick_t (congrArg B hb42) rfl) ?_
       refine w_end ?_
       obtain rfl := Option.some.inj h
       exact ⟨rfl, _, σ39, fr_join ⟨rfl, rfl, rfl, rfl, trivial⟩, rfl, H.sel' [2, 3, 1, 0] rfl rfl⟩
      ·replace h := bif_f hb42 h
       refine st_g (v := (pt b10 1)) (congrArg some hb42) (rv_fieldAddr (off := 1) (ft := 24) Try.underlying26 rfl ti24 rfl rfl) ?_
       have hc43 := H.cell (u := (Sl a7 r2.1.2 c8)) (o' := 1) 1 1 rfl rfl rfl
       refine st_g (v := (Sl a7 r2.1.2 c8)) (congrArg some hb42) (rv_load1 Try.underlying24 rfl rfl hc43) ?_
       refine st_g (v := (I r2.2)) (congrArg some hb42) (rv_move rfl) ?_
       replace H := H.roLow 3 0 rfl (Nat.zero_le _)
       obtain ⟨r44, hx45, h'⟩ := bind_some h
       clear h
       have h := h'; clear h'
       have hc46 := c_laws_isIn (alist_0 := a7) (clist_0 := c8) hx45
       refine st_call (cx_call hc46 (ent_f hc46.fn rfl) hn0 (show Hp S0 σ0 _ ([Ch.ro 0 (Sl a7 r2.1.2 c8) r2.1.2] ++ [Ch.ro 0 (Sl a7 r2.1.2 c8) r2.1.2, Ch.own 0 0 (Sl a17 r14 c18) r14, Ch.bx n0 b10 0 [(Sl a5 r2.1.1 c6), (Sl a7 r2.1.2 c8)] [] [], Ch.ro n0 (Sl a5 r2.1.1 c6) r2.1.1, Ch.ro n0 (Sl a7 r2.1.2 c8) r2.1.2]) from (H.sel' [0, 0, 1, 2, 3, 4] rfl rfl))) (wanted_yes rfl (by exact (congrArg some hb42))) ?_
       rintro _ σ47 ⟨_, ⟨rfl, rfl⟩, H, -⟩
       replace H : Hp S0 σ0 σ47 [Ch.ro 0 (Sl a7 r2.1.2 c8) r2.1.2, Ch.own 0 0 (Sl a17 r14 c18) r14, Ch.bx n0 b10 0 [(Sl a5 r2.1.1 c6), (Sl a7 r2.1.2 c8)] [] [], Ch.ro n0 (Sl a5 r2.1.1 c6) r2.1.1, Ch.ro n0 (Sl a7 r2.1.2 c8) r2.1.2] := H
       refine st (v := (B r44)) (rv_pick_f (congrArg B hb42) rfl) ?_
       refine w_end ?_
       obtain rfl := Option.some.inj h
       exact ⟨rfl, _, σ47, fr_join ⟨rfl, rfl, rfl, rfl, trivial⟩, rfl, H.sel' [3, 4, 2, 1] rfl rfl⟩
  ·clear hj
   have h := h'
   clear h' H
   rintro e a w ⟨rfl, ρ, σ48, rfl, rfl, H⟩
   refine q_then ?_
   refine cd_cond o20 rfl (fun hb49 => ?_) (fun hb49 => ?_)
   ·replace h := bif_t hb49 h
    refine c_seq ?_
    refine rg ?_
    refine st (v := (Sl a17 r14 c18)) (rv_move rfl) ?_
    have hc50 := H.cells 2 rfl
    refine st (v := (.agg #[(Sl a5 r2.1.1 c6), (Sl a7 r2.1.2 c8)])) (rv_load (cs := [(Sl a5 r2.1.1 c6), (Sl a7 r2.1.2 c8)]) Try.underlying26 rfl ti26 rfl rfl hc50) ?_
    refine st (v := (I r2.2)) (rv_move rfl) ?_
    replace H := H.roLow 0 0 rfl (Nat.zero_le _)
    replace H := H.roLow 2 0 rfl (Nat.zero_le _)
    obtain ⟨r51, hx52, h'⟩ := bind_some h
    clear h
    have h := h'; clear h'
    have hc53 := c_spec_StoreAt (ah_0_0 := a5) (ch_0_0 := c6) (ah_0_1 := a7) (ch_0_1 := c8) hx52
    refine st_call (cx_call hc53 (ent_f hc53.fn rfl) hn0 (show Hp S0 σ0 _ ([Ch.ro 0 (Sl a5 r2.1.1 c6) r2.1.1, Ch.ro 0 (Sl a7 r2.1.2 c8) r2.1.2] ++ [Ch.ro 0 (Sl a7 r2.1.2 c8) r2.1.2, Ch.ro 0 (Sl a5 r2.1.1 c6) r2.1.1, Ch.ro n0 (Sl a5 r2.1.1 c6) r2.1.1, Ch.ro n0 (Sl a7 r2.1.2 c8) r2.1.2, Ch.bx n0 b10 0 [(Sl a5 r2.1.1 c6), (Sl a7 r2.1.2 c8)] [] [], Ch.own 0 0 (Sl a17 r14 c18) r14]) from (H.sel' [1, 0, 0, 1, 2, 3, 4, 5] rfl rfl))) wn ?_
    rintro _ σ56 ⟨_, ⟨a54, c55, rfl, rfl⟩, H, -⟩
    replace H : Hp S0 σ0 σ56 [Ch.own n0 n0 (Sl a54 r51 c55) r51, Ch.ro 0 (Sl a7 r2.1.2 c8) r2.1.2, Ch.ro 0 (Sl a5 r2.1.1 c6) r2.1.1, Ch.ro n0 (Sl a5 r2.1.1 c6) r2.1.1, Ch.ro n0 (Sl a7 r2.1.2 c8) r2.1.2, Ch.bx n0 b10 0 [(Sl a5 r2.1.1 c6), (Sl a7 r2.1.2 c8)] [] [], Ch.own 0 0 (Sl a17 r14 c18) r14] := H
    obtain ⟨σ57, hw58, H, -⟩ := H.pub 6 rfl (Nat.le_refl _)
    rw [← hw58]; clear hw58
    obtain ⟨σ59, hw60, H, -⟩ := H.pub 1 rfl (Nat.le_refl _)
    rw [← hw60]; clear hw60
    replace H := H.roLow 0 0 rfl (Nat.zero_le _)
    obtain ⟨r61, hx62, h'⟩ := bind_some h
    clear h
    have h := h'; clear h'
    have hc63 := c_laws_equalItems (aa_0 := a17) (ca_0 := c18) (ab_1 := a54) (cb_1 := c55) hx62
    refine st_call (cx_call hc63 (ent_f hc63.fn rfl) hn0 (show Hp S0 σ0 _ ([Ch.ro 0 (Sl a17 r14 c18) r14, Ch.ro 0 (Sl a54 r51 c55) r51] ++ [Ch.ro 0 (Sl a54 r51 c55) r51, Ch.ro n0 (Sl a54 r51 c55) r51, Ch.ro 0 (Sl a17 r14 c18) r14, Ch.ro 0 (Sl a7 r2.1.2 c8) r2.1.2, Ch.ro 0 (Sl a5 r2.1.1 c6) r2.1.1, Ch.ro n0 (Sl a5 r2.1.1 c6) r2.1.1, Ch.ro n0 (Sl a7 r2.1.2 c8) r2.1.2, Ch.bx n0 b10 0 [(Sl a5 r2.1.1 c6), (Sl a7 r2.1.2 c8)] [] []]) from (H.sel' [2, 0, 0, 1, 2, 3, 4, 5, 6, 7] rfl rfl))) wn ?_
    rintro _ σ64 ⟨_, ⟨rfl, rfl⟩, H, -⟩
    replace H : Hp S0 σ0 σ64 [Ch.ro 0 (Sl a54 r51 c55) r51, Ch.ro n0 (Sl a54 r51 c55) r51, Ch.ro 0 (Sl a17 r14 c18) r14, Ch.ro 0 (Sl a7 r2.1.2 c8) r2.1.2, Ch.ro 0 (Sl a5 r2.1.1 c6) r2.1.1, Ch.ro n0 (Sl a5 r2.1.1 c6) r2.1.1, Ch.ro n0 (Sl a7 r2.1.2 c8) r2.1.2, Ch.bx n0 b10 0 [(Sl a5 r2.1.1 c6), (Sl a7 r2.1.2 c8)] [] []] := H
    replace H : Hp S0 σ0 σ64 [] := H.sel' [] rfl rfl
    refine st (v := (B r61)) (rv_assign rfl) ?_
    refine w_end ?_
    refine q_then ?_
    refine c_ret ?_
    refine q_then_r ?_
    obtain rfl := Option.some.inj h
    exact fin_ret (v := (B r61)) (results_ok Try.results5 (res_tmp (v := (B r61)) rfl res_nil) rfl) ⟨rfl, rfl⟩ (H.sel' [] rfl rfl)
   ·replace h := bif_f hb49 h
    refine c_skip ?_
    refine q_then ?_
    refine c_seq ?_
    refine rg ?_
    have hc65 := H.cells 2 rfl
    refine st (v := (.agg #[(Sl a5 r2.1.1 c6), (Sl a7 r2.1.2 c8)])) (rv_load (cs := [(Sl a5 r2.1.1 c6), (Sl a7 r2.1.2 c8)]) Try.underlying26 rfl ti26 rfl rfl hc65) ?_
    refine st (v := (I r2.2)) (rv_move rfl) ?_
    refine st (v := (I (w64 (r2.2 - 1)))) (rv_sub (a := r2.2) (b := 1) rfl rfl) ?_
    replace H := H.roLow 0 0 rfl (Nat.zero_le _)
    replace H := H.roLow 2 0 rfl (Nat.zero_le _)
    obtain ⟨r66, hx67, h'⟩ := bind_some h
    clear h
    have h := h'; clear h'
    have hc68 := c_impl_StoreAt (ah_0_0 := a5) (ch_0_0 := c6) (ah_0_1 := a7) (ch_0_1 := c8) hx67
    refine st_call (cx_call hc68 (ent_f hc68.fn rfl) hn0 (show Hp S0 σ0 _ ([Ch.ro 0 (Sl a5 r2.1.1 c6) r2.1.1, Ch.ro 0 (Sl a7 r2.1.2 c8) r2.1.2] ++ [Ch.ro 0 (Sl a7 r2.1.2 c8) r2.1.2, Ch.ro 0 (Sl a5 r2.1.1 c6) r2.1.1, Ch.ro n0 (Sl a5 r2.1.1 c6) r2.1.1, Ch.ro n0 (Sl a7 r2.1.2 c8) r2.1.2, Ch.bx n0 b10 0 [(Sl a5 r2.1.1 c6), (Sl a7 r2.1.2 c8)] [] [], Ch.own 0 0 (Sl a17 r14 c18) r14]) from (H.sel' [1, 0, 0, 1, 2, 3, 4, 5] rfl rfl))) wn ?_
    rintro _ σ71 ⟨_, ⟨a69, c70, rfl, rfl⟩, H, -⟩
    replace H : Hp S0 σ0 σ71 [Ch.own 0 0 (Sl a69 r66 c70) r66, Ch.ro 0 (Sl a7 r2.1.2 c8) r2.1.2, Ch.ro 0 (Sl a5 r2.1.1 c6) r2.1.1, Ch.ro n0 (Sl a5 r2.1.1 c6) r2.1.1, Ch.ro n0 (Sl a7 r2.1.2 c8) r2.1.2, Ch.bx n0 b10 0 [(Sl a5 r2.1.1 c6), (Sl a7 r2.1.2 c8)] [] [], Ch.own 0 0 (Sl a17 r14 c18) r14] := H
    refine st (v := (Sl a17 r14 c18)) (rv_move rfl) ?_
    obtain ⟨σ72, hw73, H, -⟩ := H.pub 0 rfl (Nat.le_refl _)
    rw [← hw73]; clear hw73
    obtain ⟨σ74, hw75, H, -⟩ := H.pub 6 rfl (Nat.le_refl _)
    rw [← hw75]; clear hw75
    obtain ⟨r76, hx77, h'⟩ := bind_some h
    clear h
    have h := h'; clear h'
    have hc78 := c_laws_equalItems (aa_0 := a69) (ca_0 := c70) (ab_1 := a17) (cb_1 := c18) hx77
    refine st_call (cx_call hc78 (ent_f hc78.fn rfl) hn0 (show Hp S0 σ0 _ ([Ch.ro 0 (Sl a69 r66 c70) r66, Ch.ro 0 (Sl a17 r14 c18) r14] ++ [Ch.ro 0 (Sl a17 r14 c18) r14, Ch.ro 0 (Sl a69 r66 c70) r66, Ch.ro 0 (Sl a7 r2.1.2 c8) r2.1.2, Ch.ro 0 (Sl a5 r2.1.1 c6) r2.1.1, Ch.ro n0 (Sl a5 r2.1.1 c6) r2.1.1, Ch.ro n0 (Sl a7 r2.1.2 c8) r2.1.2, Ch.bx n0 b10 0 [(Sl a5 r2.1.1 c6), (Sl a7 r2.1.2 c8)] [] []]) from (H.sel' [1, 0, 0, 1, 2, 3, 4, 5, 6] rfl rfl))) wn ?_
    rintro _ σ79 ⟨_, ⟨rfl, rfl⟩, H, -⟩
    replace H : Hp S0 σ0 σ79 [Ch.ro 0 (Sl a17 r14 c18) r14, Ch.ro 0 (Sl a69 r66 c70) r66, Ch.ro 0 (Sl a7 r2.1.2 c8) r2.1.2, Ch.ro 0 (Sl a5 r2.1.1 c6) r2.1.1, Ch.ro n0 (Sl a5 r2.1.1 c6) r2.1.1, Ch.ro n0 (Sl a7 r2.1.2 c8) r2.1.2, Ch.bx n0 b10 0 [(Sl a5 r2.1.1 c6), (Sl a7 r2.1.2 c8)] [] []] := H
    refine st (v := (B r76)) (rv_assign rfl) ?_
    refine w_end ?_
    refine q_then ?_
    refine c_ret ?_
    obtain rfl := Option.some.inj h
    exact fin_ret (v := (B r76)) (results_ok Try.results5 (res_tmp (v := (B r76)) rfl res_nil) rfl) ⟨rfl, rfl⟩ (H.sel' [] rfl rfl)

end Go.Vs
