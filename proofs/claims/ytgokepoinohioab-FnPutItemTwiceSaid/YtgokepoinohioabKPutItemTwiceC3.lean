/- The functions compute what their models say. -/
import Derived.Test.YtgokepoinohioabKPutItemTwiceC2
set_option linter.unusedVariables false
set_option linter.unusedSimpArgs false
set_option maxRecDepth 20000
namespace Go.Vs
open Go Go.Proofs
attribute [local irreducible] Code.wp Code.wpIn wpList wpListIn wpQuiet Calls CallsIn

theorem c_laws_equalInts {a_0 : List Int} {b_1 : List Int} {aa_0 : Option Addr} {ca_0 : Nat} {ab_1 : Option Addr} {cb_1 : Nat} {r : Bool} (h : M.laws_equalInts a_0 b_1 = some r) :
    Cal2 Try.prog 30 [(Sl aa_0 a_0 ca_0), (Sl ab_1 b_1 cb_1)] [Ch.ro 0 (Sl aa_0 a_0 ca_0) a_0, Ch.ro 0 (Sl ab_1 b_1 cb_1) b_1] (fun n0 v L => v = (B r) ∧ L = []) := by
 refine cal2 (n := 26) Try.func30 rfl rfl rfl rfl ?_
 intro S0 σ0 n0 hn0 H
 unfold M.laws_equalInts at h
 refine c_seq ?_
 refine rg ?_
 refine st (v := (B false)) (rv_assign rfl) ?_
 refine w_end ?_
 refine q_then ?_
 refine c_seq ?_
 refine c_seq ?_
 refine rg ?_
 refine st (v := (Sl aa_0 a_0 ca_0)) (rv_move rfl) ?_
 refine st (v := (I (a_0.length : Int))) (rv_len Try.underlying24 rfl) ?_
 refine st (v := (Sl ab_1 b_1 cb_1)) (rv_move rfl) ?_
 refine st (v := (I (b_1.length : Int))) (rv_len Try.underlying24 rfl) ?_
 refine st (v := (B ((a_0.length : Int) != (b_1.length : Int)))) (rv_neq (a := (a_0.length : Int)) (b := (b_1.length : Int)) rfl rfl) ?_
 refine w_end ?_
 refine q_then ?_
 refine cd_cond ((a_0.length : Int) != (b_1.length : Int)) rfl (fun hb1 => ?_) (fun hb1 => ?_)
 ·replace h := bif_t hb1 h
  refine c_seq ?_
  refine rg ?_
  refine st (v := (B false)) (rv_assign rfl) ?_
  refine w_end ?_
  refine q_then ?_
  refine c_ret ?_
  refine q_then_r ?_
  obtain rfl := Option.some.inj h
  exact fin_ret (v := (B false)) (results_ok Try.results30 (res_tmp (v := (B false)) rfl res_nil) rfl) ⟨rfl, rfl⟩ (H.sel' [] rfl rfl)
 ·replace h := bif_f hb1 h
  refine c_skip ?_
  refine q_then ?_
  refine c_seq ?_
  refine c_seq ?_
  refine rg ?_
  refine st (v := (I 0)) (rv_assign rfl) ?_
  refine w_end ?_
  refine q_then ?_
  obtain ⟨o2, hj, h'⟩ := bind_some h
  clear h
  refine c_cut (fun e a w => (∃ t, o2 = (.inl t) ∧ e = .normal ∧ ∃ (ρ : Nat → Value) (σ : St), a = fr 26 (updL ρ []) ∧ w = σ.w ∧ Hp S0 σ0 σ []) ∨ (∃ t, o2 = (.inr t) ∧ e = .ret ∧ ∃ (ρ : Nat → Value) (σ : St), a = fr 26 (updL ρ [(4, (B t))]) ∧ w = σ.w ∧ Hp S0 σ0 σ [])) ?_ ?_
  ·clear h'
   rename _ = some o2 => h
   refine c_blk ?_
   refine wp_loopM _ h (fun s3 a w => ∃ (ρ : Nat → Value) (σ : St), a = fr 26 (updL ρ [(0, (Sl aa_0 a_0 ca_0)), (1, (Sl ab_1 b_1 cb_1)), (5, (I s3))]) ∧ w = σ.w ∧ Hp S0 σ0 σ [Ch.ro 0 (Sl aa_0 a_0 ca_0) a_0, Ch.ro 0 (Sl ab_1 b_1 cb_1) b_1]) ⟨_, σ0, fr_join ⟨rfl, rfl, rfl, trivial⟩, rfl, H.sel' [0, 1] rfl rfl⟩ ?_
   clear h H
   rintro s3 a w o ⟨ρ, σ4, rfl, rfl, H⟩ h hres
   refine c_seq ?_
   refine c_seq ?_
   refine rg ?_
   refine st (v := (I s3)) (rv_move rfl) ?_
   refine st (v := (Sl aa_0 a_0 ca_0)) (rv_move rfl) ?_
   refine st (v := (I (a_0.length : Int))) (rv_len Try.underlying24 rfl) ?_
   refine st (v := (B (decide (s3 < (a_0.length : Int))))) (rv_lss (a := s3) (b := (a_0.length : Int)) rfl rfl) ?_
   refine w_end ?_
   refine q_then ?_
   refine cd_cond (decide (s3 < (a_0.length : Int))) rfl (fun hb5 => ?_) (fun hb5 => ?_)
   ·replace h := bif_t hb5 h
    refine c_skip ?_
    refine q_then ?_
    refine c_seq ?_
    refine c_blk ?_
    refine c_seq ?_
    refine rgP (σ := σ4) 8 (by kernel_rfl) (by kernel_rfl) (by kernel_rfl) ?_
    refine sq (v := (Sl aa_0 a_0 ca_0)) (rv_move rfl) ?_
    refine sq (v := (I s3)) (rv_move rfl) ?_
    obtain ⟨x6, hx7, h'⟩ := bind_some h
    clear h
    have h := h'; clear h'
    obtain ⟨b9, o10, hi8, -⟩ := (H.ro 0 rfl).ix hx7
    refine sq (v := (pt b9 o10)) (rv_ix Try.underlying24 ti3 rfl rfl hi8) ?_
    have hc11 := ((H.ro 0 rfl).at hx7 hi8).int
    refine sq (v := (I x6)) (rv_load1 Try.underlying3 rfl rfl hc11) ?_
    refine sq (v := (Sl ab_1 b_1 cb_1)) (rv_move rfl) ?_
    refine sq (v := (I s3)) (rv_move rfl) ?_
    obtain ⟨x12, hx13, h'⟩ := bind_some h
    clear h
    have h := h'; clear h'
    obtain ⟨b15, o16, hi14, -⟩ := (H.ro 1 rfl).ix hx13
    refine sq (v := (pt b15 o16)) (rv_ix Try.underlying24 ti3 rfl rfl hi14) ?_
    have hc17 := ((H.ro 1 rfl).at hx13 hi14).int
    refine sq (v := (I x12)) (rv_load1 Try.underlying3 rfl rfl hc17) ?_
    refine sq_end ?_
    intro σ18 hm19
    replace H := H.grow (hm19.mono fun _ h => h); clear hm19
    refine st (v := (B (x6 != x12))) (rv_neq (a := x6) (b := x12) rfl rfl) ?_
    refine w_end ?_
    refine q_then ?_
    refine cd_cond (x6 != x12) rfl (fun hb20 => ?_) (fun hb20 => ?_)
    ·replace h := bif_t hb20 h
     refine c_seq ?_
     refine rg ?_
     refine st (v := (B false)) (rv_assign rfl) ?_
     refine w_end ?_
     refine q_then ?_
     refine c_ret ?_
     refine q_blk_r ?_
     refine q_then_r ?_
     refine q_then_r ?_
     refine q_blk_r ?_
     obtain rfl := Option.some.inj h
     obtain rfl := hres _ rfl
     exact .inr (⟨_, rfl, rfl, _, σ18, fr_join ⟨rfl, trivial⟩, rfl, H.sel' [] rfl rfl⟩)
    ·replace h := bif_f hb20 h
     refine c_skip ?_
     refine q_blk ?_
     refine q_then ?_
     refine rg ?_
     refine st (v := (I s3)) (rv_move rfl) ?_
     refine st (v := (I (w64 (s3 + 1)))) (rv_add (a := s3) (b := 1) rfl rfl) ?_
     refine st (v := (I (w64 (s3 + 1)))) (rv_assign rfl) ?_
     refine w_end ?_
     refine q_then ?_
     obtain rfl := Option.some.inj h
     exact ⟨_, rfl, _, σ18, fr_join ⟨rfl, rfl, rfl, trivial⟩, rfl, H.sel' [0, 1] rfl rfl⟩
   ·replace h := bif_f hb5 h
    refine c_exit ?_
    refine q_then_x ?_
    refine q_then_x ?_
    refine q_blk_hit ?_
    obtain rfl := Option.some.inj h
    obtain rfl := hres _ rfl
    exact .inl ⟨_, rfl, rfl, _, σ4, fr_join trivial, rfl, H.sel' [] rfl rfl⟩
  ·clear hj
   have h := h'
   clear h' H
   rintro e a w (⟨t21, rfl, rfl, ρ, σ22, rfl, rfl, H⟩ | ⟨t23, rfl, rfl, ρ, σ24, rfl, rfl, H⟩)
   ·replace h := selim_l h
    refine q_then ?_
    refine c_seq ?_
    refine rg ?_
    refine st (v := (B true)) (rv_assign rfl) ?_
    refine w_end ?_
    refine q_then ?_
    refine c_ret ?_
    obtain rfl := Option.some.inj h
    exact fin_ret (v := (B true)) (results_ok Try.results30 (res_tmp (v := (B true)) rfl res_nil) rfl) ⟨rfl, rfl⟩ (H.sel' [] rfl rfl)
   ·replace h := selim_r h
    refine q_then_r ?_
    obtain rfl := Option.some.inj h
    exact fin_ret (v := (B t23)) (results_ok Try.results30 (res_tmp (v := (B t23)) rfl res_nil) rfl) ⟨rfl, rfl⟩ (H.sel' [] rfl rfl)

theorem c_laws_equalItems {a_0 : List (Int × (List Int) × Int)} {b_1 : List (Int × (List Int) × Int)} {aa_0 : Option Addr} {ca_0 : Nat} {ab_1 : Option Addr} {cb_1 : Nat} {r : Bool} (h : M.laws_equalItems a_0 b_1 = some r) :
    Cal2 Try.prog 18 [(Sl aa_0 a_0 ca_0), (Sl ab_1 b_1 cb_1)] [Ch.ro 0 (Sl aa_0 a_0 ca_0) a_0, Ch.ro 0 (Sl ab_1 b_1 cb_1) b_1] (fun n0 v L => v = (B r) ∧ L = []) := by
 refine cal2 (n := 55) Try.func18 rfl rfl rfl rfl ?_
 intro S0 σ0 n0 hn0 H
 unfold M.laws_equalItems at h
 refine c_seq ?_
 refine rg ?_
 refine st (v := (B false)) (rv_assign rfl) ?_
 refine w_end ?_
 refine q_then ?_
 refine c_seq ?_
 refine c_seq ?_
 refine rg ?_
 refine st (v := (Sl aa_0 a_0 ca_0)) (rv_move rfl) ?_
 refine st (v := (I (a_0.length : Int))) (rv_len Try.underlying23 rfl) ?_
 refine st (v := (Sl ab_1 b_1 cb_1)) (rv_move rfl) ?_
 refine st (v := (I (b_1.length : Int))) (rv_len Try.underlying23 rfl) ?_
 refine st (v := (B ((a_0.length : Int) != (b_1.length : Int)))) (rv_neq (a := (a_0.length : Int)) (b := (b_1.length : Int)) rfl rfl) ?_
 refine w_end ?_
 refine q_then ?_
 refine cd_cond ((a_0.length : Int) != (b_1.length : Int)) rfl (fun hb1 => ?_) (fun hb1 => ?_)
 ·replace h := bif_t hb1 h
  refine c_seq ?_
  refine rg ?_
  refine st (v := (B false)) (rv_assign rfl) ?_
  refine w_end ?_
  refine q_then ?_
  refine c_ret ?_
  refine q_then_r ?_
  obtain rfl := Option.some.inj h
  exact fin_ret (v := (B false)) (results_ok Try.results18 (res_tmp (v := (B false)) rfl res_nil) rfl) ⟨rfl, rfl⟩ (H.sel' [] rfl rfl)
 ·replace h := bif_f hb1 h
  refine c_skip ?_
  refine q_then ?_
  refine c_seq ?_
  refine c_seq ?_
  refine rg ?_
  refine st (v := (I 0)) (rv_assign rfl) ?_
  refine w_end ?_
  refine q_then ?_
  obtain ⟨o2, hj, h'⟩ := bind_some h
  clear h
  refine c_cut (fun e a w => (∃ t, o2 = (.inl t) ∧ e = .normal ∧ ∃ (ρ : Nat → Value) (σ : St), a = fr 55 (updL ρ []) ∧ w = σ.w ∧ Hp S0 σ0 σ []) ∨ (∃ t, o2 = (.inr t) ∧ e = .ret ∧ ∃ (ρ : Nat → Value) (σ : St), a = fr 55 (updL ρ [(4, (B t))]) ∧ w = σ.w ∧ Hp S0 σ0 σ [])) ?_ ?_
  ·clear h'
   rename _ = some o2 => h
   refine c_blk ?_
   refine wp_loopM _ h (fun s3 a w => ∃ (ρ : Nat → Value) (σ : St), a = fr 55 (updL ρ [(0, (Sl aa_0 a_0 ca_0)), (1, (Sl ab_1 b_1 cb_1)), (5, (I s3))]) ∧ w = σ.w ∧ Hp S0 σ0 σ [Ch.ro 0 (Sl aa_0 a_0 ca_0) a_0, Ch.ro 0 (Sl ab_1 b_1 cb_1) b_1]) ⟨_, σ0, fr_join ⟨rfl, rfl, rfl, trivial⟩, rfl, H.sel' [0, 1] rfl rfl⟩ ?_
   clear h H
   rintro s3 a w o ⟨ρ, σ4, rfl, rfl, H⟩ h hres
   refine c_seq ?_
   refine c_seq ?_
   refine rg ?_
   refine st (v := (I s3)) (rv_move rfl) ?_
   refine st (v := (Sl aa_0 a_0 ca_0)) (rv_move rfl) ?_
   refine st (v := (I (a_0.length : Int))) (rv_len Try.underlying23 rfl) ?_
   refine st (v := (B (decide (s3 < (a_0.length : Int))))) (rv_lss (a := s3) (b := (a_0.length : Int)) rfl rfl) ?_
   refine w_end ?_
   refine q_then ?_
   refine cd_cond (decide (s3 < (a_0.length : Int))) rfl (fun hb5 => ?_) (fun hb5 => ?_)
   ·replace h := bif_t hb5 h
    refine c_skip ?_
    refine q_then ?_
    refine c_seq ?_
    refine c_blk ?_
    refine c_seq ?_
    obtain ⟨o6, hj, h'⟩ := bind_some h
    clear h
    refine c_cut (fun e a w => e = .normal ∧ ∃ (ρ : Nat → Value) (σ : St), a = fr 55 (updL ρ [(0, (Sl aa_0 a_0 ca_0)), (1, (Sl ab_1 b_1 cb_1)), (5, (I s3)), (54, (B o6))]) ∧ w = σ.w ∧ Hp S0 σ0 σ [Ch.ro 0 (Sl aa_0 a_0 ca_0) a_0, Ch.ro 0 (Sl ab_1 b_1 cb_1) b_1]) ?_ ?_
    ·clear h'
     rename _ = some o6 => h
     refine rgP (σ := σ4) 35 (by kernel_rfl) (by kernel_rfl) (by kernel_rfl) ?_
     refine sq (v := (Sl aa_0 a_0 ca_0)) (rv_move rfl) ?_
     refine sq (v := (I s3)) (rv_move rfl) ?_
     obtain ⟨x7, hx8, h'⟩ := bind_some h
     clear h
     have h := h'; clear h'
     obtain ⟨b10, o11, hi9, -⟩ := (H.ro 0 rfl).ix hx8
     refine sq (v := (pt b10 o11)) (rv_ix Try.underlying23 ti26 rfl rfl hi9) ?_
     refine sq (v := (pt b10 (o11 + 0))) (rv_fieldAddr (off := 0) (ft := 3) Try.underlying26 rfl ti3 rfl rfl) ?_
     have hc12 := ((H.ro 0 rfl).at hx8 hi9).fst.int
     refine sq (v := (I x7.1)) (rv_load1 Try.underlying3 rfl rfl hc12) ?_
     refine sq (v := (Sl ab_1 b_1 cb_1)) (rv_move rfl) ?_
     refine sq (v := (I s3)) (rv_move rfl) ?_
     obtain ⟨x13, hx14, h'⟩ := bind_some h
     clear h
     have h := h'; clear h'
     obtain ⟨b16, o17, hi15, -⟩ := (H.ro 1 rfl).ix hx14
     refine sq (v := (pt b16 o17)) (rv_ix Try.underlying23 ti26 rfl rfl hi15) ?_
     refine sq (v := (pt b16 (o17 + 0))) (rv_fieldAddr (off := 0) (ft := 3) Try.underlying26 rfl ti3 rfl rfl) ?_
     have hc18 := ((H.ro 1 rfl).at hx14 hi15).fst.int
     refine sq (v := (I x13.1)) (rv_load1 Try.underlying3 rfl rfl hc18) ?_
     refine sq (v := (B (x7.1 != x13.1))) (rv_neq (a := x7.1) (b := x13.1) rfl rfl) ?_
     refine sq (v := (B (x7.1 != x13.1))) (rv_move rfl) ?_
     rcases Bool.eq_false_or_eq_true (x7.1 != x13.1) with hb19 | hb19
     ·replace h := bif_t hb19 h
      refine sq_skip (congrArg some hb19) ?_
      refine sq_skip (congrArg some hb19) ?_
      refine sq_skip (congrArg some hb19) ?_
      refine sq_skip (congrArg some hb19) ?_
      refine sq_skip (congrArg some hb19) ?_
      refine sq_skip (congrArg some hb19) ?_
      refine sq_skip (congrArg some hb19) ?_
      refine sq_skip (congrArg some hb19) ?_
      refine sq_skip (congrArg some hb19) ?_
      refine sq_skip (congrArg some hb19) ?_
      refine sq_skip (congrArg some hb19) ?_
      refine sq (v := (B true)) (rv_pick_t (congrArg B hb19) rfl) ?_
      refine sq (v := (B true)) (rv_move rfl) ?_
      refine sq_skip rfl ?_
      refine sq_skip rfl ?_
      refine sq_skip rfl ?_
      refine sq_skip rfl ?_
      refine sq_skip rfl ?_
      refine sq_skip rfl ?_
      refine sq_skip rfl ?_
      refine sq_skip rfl ?_
      refine sq_skip rfl ?_
      refine sq_skip rfl ?_
      refine sq_end ?_
      intro σ20 hm21
      replace H := H.grow (hm21.mono fun _ h => h); clear hm21
      refine st_skip rfl ?_
      refine st_skip rfl ?_
      refine st (v := (B true)) (rv_pick_t rfl rfl) ?_
      refine w_end ?_
      obtain rfl := Option.some.inj h
      exact ⟨rfl, _, σ20, fr_join ⟨rfl, rfl, rfl, rfl, trivial⟩, rfl, H.sel' [0, 1] rfl rfl⟩
     ·replace h := bif_f hb19 h
      refine sq_g (v := (Sl aa_0 a_0 ca_0)) (congrArg some hb19) (rv_move rfl) ?_
      refine sq_g (v := (I s3)) (congrArg some hb19) (rv_move rfl) ?_
      obtain ⟨x22, hx23, h'⟩ := bind_some h
      clear h
      have h := h'; clear h'
      obtain ⟨b25, o26, hi24, -⟩ := (H.ro 0 rfl).ix hx23
      refine sq_g (v := (pt b25 o26)) (congrArg some hb19) (rv_ix Try.underlying23 ti26 rfl rfl hi24) ?_
      refine sq_g (v := (pt b25 (o26 + 2))) (congrArg some hb19) (rv_fieldAddr (off := 2) (ft := 3) Try.underlying26 rfl ti3 rfl rfl) ?_
      have hc27 := ((H.ro 0 rfl).at hx23 hi24).snd.snd.int
      refine sq_g (v := (I x22.2.2)) (congrArg some hb19) (rv_load1 Try.underlying3 rfl rfl hc27) ?_
      refine sq_g (v := (Sl ab_1 b_1 cb_1)) (congrArg some hb19) (rv_move rfl) ?_
      refine sq_g (v := (I s3)) (congrArg some hb19) (rv_move rfl) ?_
      obtain ⟨x28, hx29, h'⟩ := bind_some h
      clear h
      have h := h'; clear h'
      obtain ⟨b31, o32, hi30, -⟩ := (H.ro 1 rfl).ix hx29
      refine sq_g (v := (pt b31 o32)) (congrArg some hb19) (rv_ix Try.underlying23 ti26 rfl rfl hi30) ?_
      refine sq_g (v := (pt b31 (o32 + 2))) (congrArg some hb19) (rv_fieldAddr (off := 2) (ft := 3) Try.underlying26 rfl ti3 rfl rfl) ?_
      have hc33 := ((H.ro 1 rfl).at hx29 hi30).snd.snd.int
      refine sq_g (v := (I x28.2.2)) (congrArg some hb19) (rv_load1 Try.underlying3 rfl rfl hc33) ?_
      refine sq_g (v := (B (x22.2.2 != x28.2.2))) (congrArg some hb19) (rv_neq (a := x22.2.2) (b := x28.2.2) rfl rfl) ?_
      refine sq (v := (B (x22.2.2 != x28.2.2))) (rv_pick_f (congrArg B hb19) rfl) ?_
      refine sq (v := (B (x22.2.2 != x28.2.2))) (rv_move rfl) ?_
      rcases Bool.eq_false_or_eq_true (x22.2.2 != x28.2.2) with hb34 | hb34
      ·replace h := bif_t hb34 h
       refine sq_skip (congrArg some hb34) ?_
       refine sq_skip (congrArg some hb34) ?_
       refine sq_skip (congrArg some hb34) ?_
       refine sq_skip (congrArg some hb34) ?_
       refine sq_skip (congrArg some hb34) ?_
       refine sq_skip (congrArg some hb34) ?_
       refine sq_skip (congrArg some hb34) ?_
       refine sq_skip (congrArg some hb34) ?_
       refine sq_skip (congrArg some hb34) ?_
       refine sq_skip (congrArg some hb34) ?_
       refine sq_end ?_
       intro σ35 hm36
       replace H := H.grow (hm36.mono fun _ h => h); clear hm36
       refine st_skip (congrArg some hb34) ?_
       refine st_skip (congrArg some hb34) ?_
       refine st (v := (B true)) (rv_pick_t (congrArg B hb34) rfl) ?_
       refine w_end ?_
       obtain rfl := Option.some.inj h
       exact ⟨rfl, _, σ35, fr_join ⟨rfl, rfl, rfl, rfl, trivial⟩, rfl, H.sel' [0, 1] rfl rfl⟩
      ·replace h := bif_f hb34 h
       refine sq_g (v := (Sl aa_0 a_0 ca_0)) (congrArg some hb34) (rv_move rfl) ?_
       refine sq_g (v := (I s3)) (congrArg some hb34) (rv_move rfl) ?_
       obtain ⟨x37, hx38, h'⟩ := bind_some h
       clear h
       have h := h'; clear h'
       obtain ⟨b40, o41, hi39, -⟩ := (H.ro 0 rfl).ix hx38
       refine sq_g (v := (pt b40 o41)) (congrArg some hb34) (rv_ix Try.underlying23 ti26 rfl rfl hi39) ?_
       refine sq_g (v := (pt b40 (o41 + 1))) (congrArg some hb34) (rv_fieldAddr (off := 1) (ft := 24) Try.underlying26 rfl ti24 rfl rfl) ?_
       obtain ⟨v45, hc46, hR44⟩ := ((H.ro 0 rfl).at hx38 hi39).snd.fst.slice
       obtain ⟨a42, c43, rfl⟩ := hR44.isSl
       replace H := H.add (d := Ch.ro 0 (Sl a42 x37.2.1 c43) x37.2.1) hR44 (fun _ h => h)
       clear hR44
       refine sq_g (v := (Sl a42 x37.2.1 c43)) (congrArg some hb34) (rv_load1 Try.underlying24 rfl rfl hc46) ?_
       refine sq_g (v := (Sl ab_1 b_1 cb_1)) (congrArg some hb34) (rv_move rfl) ?_
       refine sq_g (v := (I s3)) (congrArg some hb34) (rv_move rfl) ?_
       obtain ⟨x47, hx48, h'⟩ := bind_some h
       clear h
       have h := h'; clear h'
       obtain ⟨b50, o51, hi49, -⟩ := (H.ro 2 rfl).ix hx48
       refine sq_g (v := (pt b50 o51)) (congrArg some hb34) (rv_ix Try.underlying23 ti26 rfl rfl hi49) ?_
       refine sq_g (v := (pt b50 (o51 + 1))) (congrArg some hb34) (rv_fieldAddr (off := 1) (ft := 24) Try.underlying26 rfl ti24 rfl rfl) ?_
       obtain ⟨v55, hc56, hR54⟩ := ((H.ro 2 rfl).at hx48 hi49).snd.fst.slice
       obtain ⟨a52, c53, rfl⟩ := hR54.isSl
       replace H := H.add (d := Ch.ro 0 (Sl a52 x47.2.1 c53) x47.2.1) hR54 (fun _ h => h)
       clear hR54
       refine sq_g (v := (Sl a52 x47.2.1 c53)) (congrArg some hb34) (rv_load1 Try.underlying24 rfl rfl hc56) ?_
       refine sq_end ?_
       intro σ57 hm58
       replace H := H.grow (hm58.mono fun _ h => h); clear hm58
       obtain ⟨r59, hx60, h'⟩ := bind_some h
       clear h
       have h := h'; clear h'
       have hc61 := c_laws_equalInts (aa_0 := a42) (ca_0 := c43) (ab_1 := a52) (cb_1 := c53) hx60
       refine st_call (cx_call hc61 (ent_f hc61.fn rfl) hn0 (show Hp S0 σ0 _ ([Ch.ro 0 (Sl a42 x37.2.1 c43) x37.2.1, Ch.ro 0 (Sl a52 x47.2.1 c53) x47.2.1] ++ [Ch.ro 0 (Sl a52 x47.2.1 c53) x47.2.1, Ch.ro 0 (Sl a42 x37.2.1 c43) x37.2.1, Ch.ro 0 (Sl aa_0 a_0 ca_0) a_0, Ch.ro 0 (Sl ab_1 b_1 cb_1) b_1]) from (H.sel' [1, 0, 0, 1, 2, 3] rfl rfl))) (wanted_yes rfl (by exact (congrArg some hb34))) ?_
       rintro _ σ62 ⟨_, ⟨rfl, rfl⟩, H, -⟩
       replace H : Hp S0 σ0 σ62 [Ch.ro 0 (Sl a52 x47.2.1 c53) x47.2.1, Ch.ro 0 (Sl a42 x37.2.1 c43) x37.2.1, Ch.ro 0 (Sl aa_0 a_0 ca_0) a_0, Ch.ro 0 (Sl ab_1 b_1 cb_1) b_1] := H
       refine st_g (v := (B (!r59))) (congrArg some hb34) (rv_not rfl) ?_
       refine st (v := (B (!r59))) (rv_pick_f (congrArg B hb34) rfl) ?_
       refine w_end ?_
       obtain rfl := Option.some.inj h
       exact ⟨rfl, _, σ62, fr_join ⟨rfl, rfl, rfl, rfl, trivial⟩, rfl, H.sel' [2, 3] rfl rfl⟩
    ·clear hj
     have h := h'
     clear h' H
     rintro e a w ⟨rfl, ρ, σ63, rfl, rfl, H⟩
     refine q_then ?_
     refine cd_cond o6 rfl (fun hb64 => ?_) (fun hb64 => ?_)
     ·replace h := bif_t hb64 h
      refine c_seq ?_
      refine rg ?_
      refine st (v := (B false)) (rv_assign rfl) ?_
      refine w_end ?_
      refine q_then ?_
      refine c_ret ?_
      refine q_blk_r ?_
      refine q_then_r ?_
      refine q_then_r ?_
      refine q_blk_r ?_
      obtain rfl := Option.some.inj h
      obtain rfl := hres _ rfl
      exact .inr (⟨_, rfl, rfl, _, σ63, fr_join ⟨rfl, trivial⟩, rfl, H.sel' [] rfl rfl⟩)
     ·replace h := bif_f hb64 h
      refine c_skip ?_
      refine q_blk ?_
      refine q_then ?_
      refine rg ?_
      refine st (v := (I s3)) (rv_move rfl) ?_
      refine st (v := (I (w64 (s3 + 1)))) (rv_add (a := s3) (b := 1) rfl rfl) ?_
      refine st (v := (I (w64 (s3 + 1)))) (rv_assign rfl) ?_
      refine w_end ?_
      refine q_then ?_
      obtain rfl := Option.some.inj h
      exact ⟨_, rfl, _, σ63, fr_join ⟨rfl, rfl, rfl, trivial⟩, rfl, H.sel' [0, 1] rfl rfl⟩
   ·replace h := bif_f hb5 h
    refine c_exit ?_
    refine q_then_x ?_
    refine q_then_x ?_
    refine q_blk_hit ?_
    obtain rfl := Option.some.inj h
    obtain rfl := hres _ rfl
    exact .inl ⟨_, rfl, rfl, _, σ4, fr_join trivial, rfl, H.sel' [] rfl rfl⟩
  ·clear hj
   have h := h'
   clear h' H
   rintro e a w (⟨t65, rfl, rfl, ρ, σ66, rfl, rfl, H⟩ | ⟨t67, rfl, rfl, ρ, σ68, rfl, rfl, H⟩)
   ·replace h := selim_l h
    refine q_then ?_
    refine c_seq ?_
    refine rg ?_
    refine st (v := (B true)) (rv_assign rfl) ?_
    refine w_end ?_
    refine q_then ?_
    refine c_ret ?_
    obtain rfl := Option.some.inj h
    exact fin_ret (v := (B true)) (results_ok Try.results18 (res_tmp (v := (B true)) rfl res_nil) rfl) ⟨rfl, rfl⟩ (H.sel' [] rfl rfl)
   ·replace h := selim_r h
    refine q_then_r ?_
    obtain rfl := Option.some.inj h
    exact fin_ret (v := (B t67)) (results_ok Try.results18 (res_tmp (v := (B t67)) rfl res_nil) rfl) ⟨rfl, rfl⟩ (H.sel' [] rfl rfl)

theorem c_laws_FnPutItemTwice {code_0 : List UInt8} {acode_0 : Option Addr} {ccode_0 : Nat} {r : Bool} (h : M.laws_FnPutItemTwice code_0 = some r) :
    Cal2 Try.prog 4 [(Sl acode_0 code_0 ccode_0)] [Ch.ro 0 (Sl acode_0 code_0 ccode_0) code_0] (fun n0 v L => v = (B r) ∧ L = []) := by
 refine cal2 (n := 80) Try.func4 rfl rfl rfl rfl ?_
 intro S0 σ0 n0 hn0 H
 unfold M.laws_FnPutItemTwice at h
 refine c_seq ?_
 refine rg ?_
 refine st (v := (B false)) (rv_assign rfl) ?_
 refine w_end ?_
 refine q_then ?_
 refine c_seq ?_
 refine c_seq ?_
 refine rg ?_
 refine st (v := (Sl acode_0 code_0 ccode_0)) (rv_move rfl) ?_
 refine st (v := (I (code_0.length : Int))) (rv_len Try.underlying22 rfl) ?_
 refine st (v := (B (decide (1048576 < (code_0.length : Int))))) (rv_gtr (a := (code_0.length : Int)) (b := 1048576) rfl rfl) ?_
 refine w_end ?_
 refine q_then ?_
 refine cd_cond (decide (1048576 < (code_0.length : Int))) rfl (fun hb1 => ?_) (fun hb1 => ?_)
 ·replace h := bif_t hb1 h
  refine c_seq ?_
  refine rg ?_
  refine st (v := (B true)) (rv_assign rfl) ?_
  refine w_end ?_
  refine q_then ?_
  refine c_ret ?_
  refine q_then_r ?_
  obtain rfl := Option.some.inj h
  exact fin_ret (v := (B true)) (results_ok Try.results4 (res_tmp (v := (B true)) rfl res_nil) rfl) ⟨rfl, rfl⟩ (H.sel' [] rfl rfl)
 ·replace h := bif_f hb1 h
  refine c_skip ?_
  refine q_then ?_
  refine c_seq ?_
  refine rg ?_
  refine st (v := (Sl acode_0 code_0 ccode_0)) (rv_move rfl) ?_
  obtain ⟨r2, hx3, h'⟩ := bind_some h
  clear h
  have h := h'; clear h'
  have hc4 := c_spec_DrawPutItem (acode_0 := acode_0) (ccode_0 := ccode_0) hx3
  refine st_call (cx_call hc4 (ent_f hc4.fn rfl) hn0 (show Hp S0 σ0 _ ([Ch.ro 0 (Sl acode_0 code_0 ccode_0) code_0] ++ [Ch.ro 0 (Sl acode_0 code_0 ccode_0) code_0]) from (H.sel' [0, 0] rfl rfl))) wn ?_
  rintro _ σ9 ⟨_, ⟨a5, c6, a7, c8, rfl, rfl⟩, H, -⟩
  replace H : Hp S0 σ0 σ9 [Ch.own n0 n0 (Sl a5 r2.1 c6) r2.1, Ch.own n0 n0 (Sl a7 r2.2.2.1 c8) r2.2.2.1, Ch.ro 0 (Sl acode_0 code_0 ccode_0) code_0] := H
  refine st (v := (.tuple #[(Sl a5 r2.1 c6), (.agg #[(I r2.2.1), (Sl a7 r2.2.2.1 c8), (I r2.2.2.2)])])) (rv_move rfl) ?_
  refine st (v := (Sl a5 r2.1 c6)) (rv_extract rfl rfl) ?_
  refine st (v := (.agg #[(I r2.2.1), (Sl a7 r2.2.2.1 c8), (I r2.2.2.2)])) (rv_extract rfl rfl) ?_
  refine st_ex (ex_alloc (cs := [(I 0), (.slice none 0 0), (I 0)]) H hn0 ti26 rfl) wn ?_
  rintro _ σ11 ⟨b10, rfl, H, -⟩
  refine st (v := (Sl a5 r2.1 c6)) (rv_assign rfl) ?_
  refine st_exS (ex_store_box (k := 0) (cs := [(I 0), (.slice none 0 0), (I 0)]) (vs := [(I r2.2.1), (Sl a7 r2.2.2.1 c8), (I r2.2.2.2)]) (cs' := [(I r2.2.1), (Sl a7 r2.2.2.1 c8), (I r2.2.2.2)]) H (i := 0) rfl ti26 rfl rfl rfl rfl rfl (Nat.le_of_ble_eq_true rfl) (by simp [plain]) rfl) wn ?_
  rintro σ12 ⟨H, -⟩
  refine w_end ?_
  refine q_then ?_
  refine c_seq ?_
  refine rg ?_
  refine st (v := (Sl a5 r2.1 c6)) (rv_move rfl) ?_
  have hc13 := H.cells 0 rfl
  refine st (v := (.agg #[(I r2.2.1), (Sl a7 r2.2.2.1 c8), (I r2.2.2.2)])) (rv_load (cs := [(I r2.2.1), (Sl a7 r2.2.2.1 c8), (I r2.2.2.2)]) Try.underlying26 rfl ti26 rfl rfl hc13) ?_
  obtain ⟨σ14, hw15, H, -⟩ := H.pub 1 rfl (Nat.le_refl _)
  rw [← hw15]; clear hw15
  obtain ⟨σ16, hw17, H, -⟩ := H.pub 2 rfl (Nat.le_refl _)
  rw [← hw17]; clear hw17
  replace H := H.roLow 1 0 rfl (Nat.zero_le _)
  replace H := H.roLow 1 0 rfl (Nat.zero_le _)
  obtain ⟨r18, hx19, h'⟩ := bind_some h
  clear h
  have h := h'; clear h'
  have hc20 := c_impl_PutItem (alist_0 := a5) (clist_0 := c6) (ax_1_1 := a7) (cx_1_1 := c8) hx19
  refine st_call (cx_call hc20 (ent_f hc20.fn rfl) hn0 (show Hp S0 σ0 _ ([Ch.ro 0 (Sl a5 r2.1 c6) r2.1, Ch.ro 0 (Sl a7 r2.2.2.1 c8) r2.2.2.1] ++ [Ch.ro 0 (Sl a7 r2.2.2.1 c8) r2.2.2.1, Ch.ro 0 (Sl a5 r2.1 c6) r2.1, Ch.ro n0 (Sl a7 r2.2.2.1 c8) r2.2.2.1, Ch.ro n0 (Sl a5 r2.1 c6) r2.1, Ch.bx n0 b10 0 [(I r2.2.1), (Sl a7 r2.2.2.1 c8), (I r2.2.2.2)] [] [], Ch.ro 0 (Sl acode_0 code_0 ccode_0) code_0]) from (H.sel' [1, 0, 0, 1, 2, 3, 4, 5] rfl rfl))) wn ?_
  rintro _ σ23 ⟨_, ⟨a21, c22, rfl, rfl⟩, H, -⟩
  replace H : Hp S0 σ0 σ23 [Ch.own 0 0 (Sl a21 r18.1 c22) r18.1, Ch.ro 0 (Sl a7 r2.2.2.1 c8) r2.2.2.1, Ch.ro 0 (Sl a5 r2.1 c6) r2.1, Ch.ro n0 (Sl a7 r2.2.2.1 c8) r2.2.2.1, Ch.ro n0 (Sl a5 r2.1 c6) r2.1, Ch.bx n0 b10 0 [(I r2.2.1), (Sl a7 r2.2.2.1 c8), (I r2.2.2.2)] [] [], Ch.ro 0 (Sl acode_0 code_0 ccode_0) code_0] := H
  refine st (v := (.tuple #[(Sl a21 r18.1 c22), (B r18.2)])) (rv_move rfl) ?_
  refine st (v := (Sl a21 r18.1 c22)) (rv_extract rfl rfl) ?_
  refine st (v := (B r18.2)) (rv_extract rfl rfl) ?_
  refine st (v := (Sl a21 r18.1 c22)) (rv_assign rfl) ?_
  refine st (v := (B r18.2)) (rv_assign rfl) ?_
  refine w_end ?_
  refine q_then ?_
  refine c_seq ?_
  refine rg ?_
  refine st (v := (Sl a5 r2.1 c6)) (rv_move rfl) ?_
  have hc24 := H.cells 5 rfl
  refine st (v := (.agg #[(I r2.2.1), (Sl a7 r2.2.2.1 c8), (I r2.2.2.2)])) (rv_load (cs := [(I r2.2.1), (Sl a7 r2.2.2.1 c8), (I r2.2.2.2)]) Try.underlying26 rfl ti26 rfl rfl hc24) ?_
  replace H := H.roLow 4 0 rfl (Nat.zero_le _)
  replace H := H.roLow 4 0 rfl (Nat.zero_le _)
  obtain ⟨r25, hx26, h'⟩ := bind_some h
  clear h
  have h := h'; clear h'
  have hc27 := c_spec_PutItem (alist_0 := a5) (clist_0 := c6) (ax_1_1 := a7) (cx_1_1 := c8) hx26
  refine st_call (cx_call hc27 (ent_f hc27.fn rfl) hn0 (show Hp S0 σ0 _ ([Ch.ro 0 (Sl a5 r2.1 c6) r2.1, Ch.ro 0 (Sl a7 r2.2.2.1 c8) r2.2.2.1] ++ [Ch.ro 0 (Sl a7 r2.2.2.1 c8) r2.2.2.1, Ch.ro 0 (Sl a5 r2.1 c6) r2.1, Ch.own 0 0 (Sl a21 r18.1 c22) r18.1, Ch.ro 0 (Sl a7 r2.2.2.1 c8) r2.2.2.1, Ch.ro 0 (Sl a5 r2.1 c6) r2.1, Ch.ro n0 (Sl a7 r2.2.2.1 c8) r2.2.2.1, Ch.ro n0 (Sl a5 r2.1 c6) r2.1, Ch.bx n0 b10 0 [(I r2.2.1), (Sl a7 r2.2.2.1 c8), (I r2.2.2.2)] [] [], Ch.ro 0 (Sl acode_0 code_0 ccode_0) code_0]) from (H.sel' [1, 0, 0, 1, 2, 3, 4, 5, 6, 7, 8] rfl rfl))) wn ?_
  rintro _ σ30 ⟨_, ⟨a28, c29, rfl, rfl⟩, H, -⟩
  replace H : Hp S0 σ0 σ30 [Ch.own n0 n0 (Sl a28 r25.1 c29) r25.1, Ch.ro 0 (Sl a7 r2.2.2.1 c8) r2.2.2.1, Ch.ro 0 (Sl a5 r2.1 c6) r2.1, Ch.own 0 0 (Sl a21 r18.1 c22) r18.1, Ch.ro 0 (Sl a7 r2.2.2.1 c8) r2.2.2.1, Ch.ro 0 (Sl a5 r2.1 c6) r2.1, Ch.ro n0 (Sl a7 r2.2.2.1 c8) r2.2.2.1, Ch.ro n0 (Sl a5 r2.1 c6) r2.1, Ch.bx n0 b10 0 [(I r2.2.1), (Sl a7 r2.2.2.1 c8), (I r2.2.2.2)] [] [], Ch.ro 0 (Sl acode_0 code_0 ccode_0) code_0] := H
  replace H : Hp S0 σ0 σ30 [Ch.own n0 n0 (Sl a28 r25.1 c29) r25.1, Ch.own 0 0 (Sl a21 r18.1 c22) r18.1, Ch.ro n0 (Sl a7 r2.2.2.1 c8) r2.2.2.1, Ch.ro n0 (Sl a5 r2.1 c6) r2.1, Ch.bx n0 b10 0 [(I r2.2.1), (Sl a7 r2.2.2.1 c8), (I r2.2.2.2)] [] []] := H.sel' [0, 3, 6, 7, 8] rfl rfl
  refine st (v := (.tuple #[(Sl a28 r25.1 c29), (B r25.2)])) (rv_move rfl) ?_
  refine st (v := (Sl a28 r25.1 c29)) (rv_extract rfl rfl) ?_
  refine st (v := (B r25.2)) (rv_extract rfl rfl) ?_
  refine st (v := (Sl a28 r25.1 c29)) (rv_assign rfl) ?_
  refine st (v := (B r25.2)) (rv_assign rfl) ?_
  refine w_end ?_
  refine q_then ?_
  refine c_seq ?_
  refine c_seq ?_
  obtain ⟨o31, hj, h'⟩ := bind_some h
  clear h
  refine c_cut (fun e a w => e = .normal ∧ ∃ (ρ : Nat → Value) (σ : St), a = fr 80 (updL ρ [(3, (Sl a5 r2.1 c6)), (4, (pt b10 0)), (5, (Sl a21 r18.1 c22)), (6, (B r18.2)), (7, (Sl a28 r25.1 c29)), (8, (B r25.2)), (46, (B o31))]) ∧ w = σ.w ∧ Hp S0 σ0 σ [Ch.ro n0 (Sl a5 r2.1 c6) r2.1, Ch.ro n0 (Sl a7 r2.2.2.1 c8) r2.2.2.1, Ch.bx n0 b10 0 [(I r2.2.1), (Sl a7 r2.2.2.1 c8), (I r2.2.2.2)] [] [], Ch.own 0 0 (Sl a21 r18.1 c22) r18.1, Ch.own n0 n0 (Sl a28 r25.1 c29) r25.1]) ?_ ?_
  ·clear h'
   rename _ = some o31 => h
   refine rg ?_
   refine st (v := (Sl a21 r18.1 c22)) (rv_move rfl) ?_
   refine st (v := (Sl a28 r25.1 c29)) (rv_move rfl) ?_
   obtain ⟨r32, hx33, h'⟩ := bind_some h
   clear h
   have h := h'; clear h'
   have hc34 := c_laws_equalItems (aa_0 := a21) (ca_0 := c22) (ab_1 := a28) (cb_1 := c29) hx33
   have hle := Nat.le_trans hn0 H.size
   refine st_call (cx_lend (Loan.lend (Loan.lend Loan.nil)) hc34 (ent_f hc34.fn rfl) (show Hp S0 σ0 _ ([Ch.own 0 0 (Sl a21 r18.1 c22) r18.1, Ch.own n0 n0 (Sl a28 r25.1 c29) r25.1] ++ ([] ++ [Ch.ro n0 (Sl a7 r2.2.2.1 c8) r2.2.2.1, Ch.ro n0 (Sl a5 r2.1 c6) r2.1, Ch.bx n0 b10 0 [(I r2.2.1), (Sl a7 r2.2.2.1 c8), (I r2.2.2.2)] [] []])) from (H.sel' [1, 0, 2, 3, 4] rfl rfl)) (by rintro _ _ _ ⟨rfl, rfl⟩; exact trivial)) wn ?_
   rintro _ σ35 ⟨_, ⟨rfl, rfl⟩, H, -, -⟩
   replace H : Hp S0 σ0 σ35 [Ch.own 0 0 (Sl a21 r18.1 c22) r18.1, Ch.own n0 n0 (Sl a28 r25.1 c29) r25.1, Ch.ro n0 (Sl a7 r2.2.2.1 c8) r2.2.2.1, Ch.ro n0 (Sl a5 r2.1 c6) r2.1, Ch.bx n0 b10 0 [(I r2.2.1), (Sl a7 r2.2.2.1 c8), (I r2.2.2.2)] [] []] := H
   clear hle
   replace H : Hp S0 σ0 σ35 [Ch.own 0 0 (Sl a21 r18.1 c22) r18.1, Ch.own n0 n0 (Sl a28 r25.1 c29) r25.1, Ch.ro n0 (Sl a7 r2.2.2.1 c8) r2.2.2.1, Ch.ro n0 (Sl a5 r2.1 c6) r2.1, Ch.bx n0 b10 0 [(I r2.2.1), (Sl a7 r2.2.2.1 c8), (I r2.2.2.2)] [] []] := H
   refine st (v := (B (!r32))) (rv_not rfl) ?_
   refine st (v := (B (!r32))) (rv_move rfl) ?_
   rcases Bool.eq_false_or_eq_true (!r32) with hb36 | hb36
   ·replace h := bif_t hb36 h
    refine st_skip (congrArg some hb36) ?_
    refine st_skip (congrArg some hb36) ?_
    refine st_skip (congrArg some hb36) ?_
    refine st (v := (B true)) (rv_pick_t (congrArg B hb36) rfl) ?_
    refine st (v := (B true)) (rv_move rfl) ?_
    refine st_skip rfl ?_
    refine st_skip rfl ?_
    refine st (v := (B true)) (rv_pick_t rfl rfl) ?_
    refine w_end ?_
    obtain rfl := Option.some.inj h
    exact ⟨rfl, _, σ35, fr_join ⟨rfl, rfl, rfl, rfl, rfl, rfl, rfl, trivial⟩, rfl, H.sel' [3, 2, 4, 0, 1] rfl rfl⟩
   ·replace h := bif_f hb36 h
    refine st_g (v := (B r18.2)) (congrArg some hb36) (rv_move rfl) ?_
    refine st_g (v := (B r25.2)) (congrArg some hb36) (rv_move rfl) ?_
    refine st_g (v := (B (r18.2 != r25.2))) (congrArg some hb36) (rv_bneq Try.underlying4 rfl rfl) ?_
    refine st (v := (B (r18.2 != r25.2))) (rv_pick_f (congrArg B hb36) rfl) ?_
    refine st (v := (B (r18.2 != r25.2))) (rv_move rfl) ?_
    rcases Bool.eq_false_or_eq_true (r18.2 != r25.2) with hb37 | hb37
    ·replace h := bif_t hb37 h
     refine st_skip (congrArg some hb37) ?_
     refine st_skip (congrArg some hb37) ?_
     refine st (v := (B true)) (rv_pick_t (congrArg B hb37) rfl) ?_
     refine w_end ?_
     obtain rfl := Option.some.inj h
     exact ⟨rfl, _, σ35, fr_join ⟨rfl, rfl, rfl, rfl, rfl, rfl, rfl, trivial⟩, rfl, H.sel' [3, 2, 4, 0, 1] rfl rfl⟩
    ·replace h := bif_f hb37 h
     refine st_g (v := (B r18.2)) (congrArg some hb37) (rv_move rfl) ?_
     refine st_g (v := (B (!r18.2))) (congrArg some hb37) (rv_not rfl) ?_
     refine st (v := (B (!r18.2))) (rv_pick_f (congrArg B hb37) rfl) ?_
     refine w_end ?_
     obtain rfl := Option.some.inj h
     exact ⟨rfl, _, σ35, fr_join ⟨rfl, rfl, rfl, rfl, rfl, rfl, rfl, trivial⟩, rfl, H.sel' [3, 2, 4, 0, 1] rfl rfl⟩
  ·clear hj
   have h := h'
   clear h' H
   rintro e a w ⟨rfl, ρ, σ38, rfl, rfl, H⟩
   refine q_then ?_
   refine cd_cond o31 rfl (fun hb39 => ?_) (fun hb39 => ?_)
   ·replace h := bif_t hb39 h
    refine c_seq ?_
    refine rg ?_
    refine st (v := (Sl a21 r18.1 c22)) (rv_move rfl) ?_
    refine st (v := (Sl a28 r25.1 c29)) (rv_move rfl) ?_
    obtain ⟨σ40, hw41, H, -⟩ := H.pub 3 rfl (Nat.le_refl _)
    rw [← hw41]; clear hw41
    obtain ⟨σ42, hw43, H, -⟩ := H.pub 4 rfl (Nat.le_refl _)
    rw [← hw43]; clear hw43
    replace H := H.roLow 0 0 rfl (Nat.zero_le _)
    obtain ⟨r44, hx45, h'⟩ := bind_some h
    clear h
    have h := h'; clear h'
    have hc46 := c_laws_equalItems (aa_0 := a21) (ca_0 := c22) (ab_1 := a28) (cb_1 := c29) hx45
    refine st_call (cx_call hc46 (ent_f hc46.fn rfl) hn0 (show Hp S0 σ0 _ ([Ch.ro 0 (Sl a21 r18.1 c22) r18.1, Ch.ro 0 (Sl a28 r25.1 c29) r25.1] ++ [Ch.ro 0 (Sl a28 r25.1 c29) r25.1, Ch.ro n0 (Sl a28 r25.1 c29) r25.1, Ch.ro 0 (Sl a21 r18.1 c22) r18.1, Ch.ro n0 (Sl a5 r2.1 c6) r2.1, Ch.ro n0 (Sl a7 r2.2.2.1 c8) r2.2.2.1, Ch.bx n0 b10 0 [(I r2.2.1), (Sl a7 r2.2.2.1 c8), (I r2.2.2.2)] [] []]) from (H.sel' [2, 0, 0, 1, 2, 3, 4, 5] rfl rfl))) wn ?_
    rintro _ σ47 ⟨_, ⟨rfl, rfl⟩, H, -⟩
    replace H : Hp S0 σ0 σ47 [Ch.ro 0 (Sl a28 r25.1 c29) r25.1, Ch.ro n0 (Sl a28 r25.1 c29) r25.1, Ch.ro 0 (Sl a21 r18.1 c22) r18.1, Ch.ro n0 (Sl a5 r2.1 c6) r2.1, Ch.ro n0 (Sl a7 r2.2.2.1 c8) r2.2.2.1, Ch.bx n0 b10 0 [(I r2.2.1), (Sl a7 r2.2.2.1 c8), (I r2.2.2.2)] [] []] := H
    refine st (v := (B r44)) (rv_move rfl) ?_
    rcases Bool.eq_false_or_eq_true r44 with hb48 | hb48
    ·replace h := bif_t hb48 h
     refine st_g (v := (B r18.2)) (congrArg some hb48) (rv_move rfl) ?_
     refine st_g (v := (B r25.2)) (congrArg some hb48) (rv_move rfl) ?_
     refine st_g (v := (B (r18.2 == r25.2))) (congrArg some hb48) (rv_beql Try.underlying4 rfl rfl) ?_
     refine st (v := (B (r18.2 == r25.2))) (rv_pick_t (congrArg B hb48) rfl) ?_
     refine st (v := (B (r18.2 == r25.2))) (rv_assign rfl) ?_
     refine w_end ?_
     refine q_then ?_
     refine c_ret ?_
     refine q_then_r ?_
     obtain rfl := Option.some.inj h
     exact fin_ret (v := (B (r18.2 == r25.2))) (results_ok Try.results4 (res_tmp (v := (B (r18.2 == r25.2))) rfl res_nil) rfl) ⟨rfl, rfl⟩ (H.sel' [] rfl rfl)
    ·replace h := bif_f hb48 h
     refine st_skip (congrArg some hb48) ?_
     refine st_skip (congrArg some hb48) ?_
     refine st_skip (congrArg some hb48) ?_
     refine st (v := (B false)) (rv_pick_f (congrArg B hb48) rfl) ?_
     refine st (v := (B false)) (rv_assign rfl) ?_
     refine w_end ?_
     refine q_then ?_
     refine c_ret ?_
     refine q_then_r ?_
     obtain rfl := Option.some.inj h
     exact fin_ret (v := (B false)) (results_ok Try.results4 (res_tmp (v := (B false)) rfl res_nil) rfl) ⟨rfl, rfl⟩ (H.sel' [] rfl rfl)
   ·replace h := bif_f hb39 h
    refine c_skip ?_
    refine q_then ?_
    refine c_seq ?_
    refine rg ?_
    refine st (v := (pt b10 0)) (rv_fieldAddr (off := 0) (ft := 3) Try.underlying26 rfl ti3 rfl rfl) ?_
    have hc49 := H.cell (u := (I r2.2.1)) (o' := 0) 2 0 rfl rfl rfl
    refine st (v := (I r2.2.1)) (rv_load1 Try.underlying3 rfl rfl hc49) ?_
    refine st_ex (ex_buildSlice (el := n0) (xs := ([1, 2, 3, 4] : List Int)) (ps := [(0, (I 1)), (1, (I 2)), (2, (I 3)), (3, (I 4))]) (cs := [(I 1), (I 2), (I 3), (I 4)]) H hn0 Try.underlying24 ti3 rfl rfl (by kernel_rfl) (.cons (c := [(I 1)]) rfl (.cons (c := [(I 2)]) rfl (.cons (c := [(I 3)]) rfl (.cons (c := [(I 4)]) rfl (.nil))))) rfl) wn ?_
    rintro _ σ51 ⟨b50, rfl, H, -⟩
    refine st (v := (.agg #[(I r2.2.1), (Sl (some ⟨b50, 0, none⟩) ([1, 2, 3, 4] : List Int) 4), (I 5)])) (rv_build (ps := [(0, (I r2.2.1)), (1, (Sl (some ⟨b50, 0, none⟩) ([1, 2, 3, 4] : List Int) 4)), (2, (I 5))]) Try.underlying26 ti26 (bp26 Try.underlying26) rfl (by kernel_rfl)) ?_
    refine st_ex (ex_alloc (cs := [(I 0), (.slice none 0 0), (I 0)]) H hn0 ti26 rfl) wn ?_
    rintro _ σ53 ⟨b52, rfl, H, -⟩
    refine st_exS (ex_store_box (k := 0) (cs := [(I 0), (.slice none 0 0), (I 0)]) (vs := [(I r2.2.1), (Sl (some ⟨b50, 0, none⟩) ([1, 2, 3, 4] : List Int) 4), (I 5)]) (cs' := [(I r2.2.1), (Sl (some ⟨b50, 0, none⟩) ([1, 2, 3, 4] : List Int) 4), (I 5)]) H (i := 0) rfl ti26 rfl rfl rfl rfl rfl (Nat.le_of_ble_eq_true rfl) (by simp [plain]) rfl) wn ?_
    rintro σ54 ⟨H, -⟩
    refine w_end ?_
    refine q_then ?_
    refine c_seq ?_
    refine rg ?_
    refine st (v := (Sl a21 r18.1 c22)) (rv_move rfl) ?_
    have hc55 := H.cells 0 rfl
    refine st (v := (.agg #[(I r2.2.1), (Sl (some ⟨b50, 0, none⟩) ([1, 2, 3, 4] : List Int) 4), (I 5)])) (rv_load (cs := [(I r2.2.1), (Sl (some ⟨b50, 0, none⟩) ([1, 2, 3, 4] : List Int) 4), (I 5)]) Try.underlying26 rfl ti26 rfl rfl hc55) ?_
    obtain ⟨σ56, hw57, H, -⟩ := H.pub 5 rfl (Nat.le_refl _)
    rw [← hw57]; clear hw57
    obtain ⟨σ58, hw59, H, -⟩ := H.pub 2 rfl (Nat.le_refl _)
    rw [← hw59]; clear hw59
    replace H := H.roLow 0 0 rfl (Nat.zero_le _)
    obtain ⟨r60, hx61, h'⟩ := bind_some h
    clear h
    have h := h'; clear h'
    have hc62 := c_impl_PutItem (alist_0 := a21) (clist_0 := c22) (ax_1_1 := (some ⟨b50, 0, none⟩)) (cx_1_1 := 4) hx61
    refine st_call (cx_call hc62 (ent_f hc62.fn rfl) hn0 (show Hp S0 σ0 _ ([Ch.ro 0 (Sl a21 r18.1 c22) r18.1, Ch.ro 0 (Sl (some ⟨b50, 0, none⟩) ([1, 2, 3, 4] : List Int) 4) ([1, 2, 3, 4] : List Int)] ++ [Ch.ro 0 (Sl (some ⟨b50, 0, none⟩) ([1, 2, 3, 4] : List Int) 4) ([1, 2, 3, 4] : List Int), Ch.ro n0 (Sl (some ⟨b50, 0, none⟩) ([1, 2, 3, 4] : List Int) 4) ([1, 2, 3, 4] : List Int), Ch.ro 0 (Sl a21 r18.1 c22) r18.1, Ch.bx n0 b52 0 [(I r2.2.1), (Sl (some ⟨b50, 0, none⟩) ([1, 2, 3, 4] : List Int) 4), (I 5)] [] [], Ch.ro n0 (Sl a5 r2.1 c6) r2.1, Ch.ro n0 (Sl a7 r2.2.2.1 c8) r2.2.2.1, Ch.bx n0 b10 0 [(I r2.2.1), (Sl a7 r2.2.2.1 c8), (I r2.2.2.2)] [] [], Ch.own n0 n0 (Sl a28 r25.1 c29) r25.1]) from (H.sel' [2, 0, 0, 1, 2, 3, 4, 5, 6, 7] rfl rfl))) wn ?_
    rintro _ σ65 ⟨_, ⟨a63, c64, rfl, rfl⟩, H, -⟩
    replace H : Hp S0 σ0 σ65 [Ch.own 0 0 (Sl a63 r60.1 c64) r60.1, Ch.ro 0 (Sl (some ⟨b50, 0, none⟩) ([1, 2, 3, 4] : List Int) 4) ([1, 2, 3, 4] : List Int), Ch.ro n0 (Sl (some ⟨b50, 0, none⟩) ([1, 2, 3, 4] : List Int) 4) ([1, 2, 3, 4] : List Int), Ch.ro 0 (Sl a21 r18.1 c22) r18.1, Ch.bx n0 b52 0 [(I r2.2.1), (Sl (some ⟨b50, 0, none⟩) ([1, 2, 3, 4] : List Int) 4), (I 5)] [] [], Ch.ro n0 (Sl a5 r2.1 c6) r2.1, Ch.ro n0 (Sl a7 r2.2.2.1 c8) r2.2.2.1, Ch.bx n0 b10 0 [(I r2.2.1), (Sl a7 r2.2.2.1 c8), (I r2.2.2.2)] [] [], Ch.own n0 n0 (Sl a28 r25.1 c29) r25.1] := H
    replace H : Hp S0 σ0 σ65 [Ch.own 0 0 (Sl a63 r60.1 c64) r60.1, Ch.ro n0 (Sl (some ⟨b50, 0, none⟩) ([1, 2, 3, 4] : List Int) 4) ([1, 2, 3, 4] : List Int), Ch.bx n0 b52 0 [(I r2.2.1), (Sl (some ⟨b50, 0, none⟩) ([1, 2, 3, 4] : List Int) 4), (I 5)] [] [], Ch.ro n0 (Sl a5 r2.1 c6) r2.1] := H.sel' [0, 2, 4, 5] rfl rfl
    refine st (v := (.tuple #[(Sl a63 r60.1 c64), (B r60.2)])) (rv_move rfl) ?_
    refine st (v := (Sl a63 r60.1 c64)) (rv_extract rfl rfl) ?_
    refine st (v := (B r60.2)) (rv_extract rfl rfl) ?_
    refine st (v := (Sl a63 r60.1 c64)) (rv_assign rfl) ?_
    refine st (v := (B r60.2)) (rv_assign rfl) ?_
    refine w_end ?_
    refine q_then ?_
    refine c_seq ?_
    refine rg ?_
    refine st (v := (Sl a5 r2.1 c6)) (rv_move rfl) ?_
    have hc66 := H.cells 2 rfl
    refine st (v := (.agg #[(I r2.2.1), (Sl (some ⟨b50, 0, none⟩) ([1, 2, 3, 4] : List Int) 4), (I 5)])) (rv_load (cs := [(I r2.2.1), (Sl (some ⟨b50, 0, none⟩) ([1, 2, 3, 4] : List Int) 4), (I 5)]) Try.underlying26 rfl ti26 rfl rfl hc66) ?_
    replace H := H.roLow 3 0 rfl (Nat.zero_le _)
    replace H := H.roLow 2 0 rfl (Nat.zero_le _)
    obtain ⟨r67, hx68, h'⟩ := bind_some h
    clear h
    have h := h'; clear h'
    have hc69 := c_impl_PutItem (alist_0 := a5) (clist_0 := c6) (ax_1_1 := (some ⟨b50, 0, none⟩)) (cx_1_1 := 4) hx68
    refine st_call (cx_call hc69 (ent_f hc69.fn rfl) hn0 (show Hp S0 σ0 _ ([Ch.ro 0 (Sl a5 r2.1 c6) r2.1, Ch.ro 0 (Sl (some ⟨b50, 0, none⟩) ([1, 2, 3, 4] : List Int) 4) ([1, 2, 3, 4] : List Int)] ++ [Ch.ro 0 (Sl (some ⟨b50, 0, none⟩) ([1, 2, 3, 4] : List Int) 4) ([1, 2, 3, 4] : List Int), Ch.ro 0 (Sl a5 r2.1 c6) r2.1, Ch.own 0 0 (Sl a63 r60.1 c64) r60.1, Ch.ro n0 (Sl (some ⟨b50, 0, none⟩) ([1, 2, 3, 4] : List Int) 4) ([1, 2, 3, 4] : List Int), Ch.bx n0 b52 0 [(I r2.2.1), (Sl (some ⟨b50, 0, none⟩) ([1, 2, 3, 4] : List Int) 4), (I 5)] [] [], Ch.ro n0 (Sl a5 r2.1 c6) r2.1]) from (H.sel' [1, 0, 0, 1, 2, 3, 4, 5] rfl rfl))) wn ?_
    rintro _ σ72 ⟨_, ⟨a70, c71, rfl, rfl⟩, H, -⟩
    replace H : Hp S0 σ0 σ72 [Ch.own 0 0 (Sl a70 r67.1 c71) r67.1, Ch.ro 0 (Sl (some ⟨b50, 0, none⟩) ([1, 2, 3, 4] : List Int) 4) ([1, 2, 3, 4] : List Int), Ch.ro 0 (Sl a5 r2.1 c6) r2.1, Ch.own 0 0 (Sl a63 r60.1 c64) r60.1, Ch.ro n0 (Sl (some ⟨b50, 0, none⟩) ([1, 2, 3, 4] : List Int) 4) ([1, 2, 3, 4] : List Int), Ch.bx n0 b52 0 [(I r2.2.1), (Sl (some ⟨b50, 0, none⟩) ([1, 2, 3, 4] : List Int) 4), (I 5)] [] [], Ch.ro n0 (Sl a5 r2.1 c6) r2.1] := H
    refine st (v := (.tuple #[(Sl a70 r67.1 c71), (B r67.2)])) (rv_move rfl) ?_
    refine st (v := (Sl a70 r67.1 c71)) (rv_extract rfl rfl) ?_
    refine st (v := (B r67.2)) (rv_extract rfl rfl) ?_
    refine st (v := (Sl a70 r67.1 c71)) (rv_assign rfl) ?_
    refine st (v := (B r67.2)) (rv_assign rfl) ?_
    refine w_end ?_
    refine q_then ?_
    refine c_seq ?_
    refine rg ?_
    refine st (v := (B r60.2)) (rv_move rfl) ?_
    refine st (v := (B r60.2)) (rv_move rfl) ?_
    rcases Bool.eq_false_or_eq_true r60.2 with hb73 | hb73
    ·replace h := bif_t hb73 h
     refine st_g (v := (B r67.2)) (congrArg some hb73) (rv_move rfl) ?_
     refine st (v := (B r67.2)) (rv_pick_t (congrArg B hb73) rfl) ?_
     refine st (v := (B r67.2)) (rv_move rfl) ?_
     rcases Bool.eq_false_or_eq_true r67.2 with hb74 | hb74
     ·replace h := bif_t hb74 h
      refine st_g (v := (Sl a63 r60.1 c64)) (congrArg some hb74) (rv_move rfl) ?_
      refine st_g (v := (Sl a70 r67.1 c71)) (congrArg some hb74) (rv_move rfl) ?_
      obtain ⟨σ75, hw76, H, -⟩ := H.pub 3 rfl (Nat.le_refl _)
      rw [← hw76]; clear hw76
      obtain ⟨σ77, hw78, H, -⟩ := H.pub 1 rfl (Nat.le_refl _)
      rw [← hw78]; clear hw78
      obtain ⟨r79, hx80, h'⟩ := bind_some h
      clear h
      have h := h'; clear h'
      have hc81 := c_laws_equalItems (aa_0 := a63) (ca_0 := c64) (ab_1 := a70) (cb_1 := c71) hx80
      refine st_call (cx_call hc81 (ent_f hc81.fn rfl) hn0 (show Hp S0 σ0 _ ([Ch.ro 0 (Sl a63 r60.1 c64) r60.1, Ch.ro 0 (Sl a70 r67.1 c71) r67.1] ++ [Ch.ro 0 (Sl a70 r67.1 c71) r67.1, Ch.ro 0 (Sl a63 r60.1 c64) r60.1, Ch.ro 0 (Sl (some ⟨b50, 0, none⟩) ([1, 2, 3, 4] : List Int) 4) ([1, 2, 3, 4] : List Int), Ch.ro 0 (Sl a5 r2.1 c6) r2.1, Ch.ro n0 (Sl (some ⟨b50, 0, none⟩) ([1, 2, 3, 4] : List Int) 4) ([1, 2, 3, 4] : List Int), Ch.bx n0 b52 0 [(I r2.2.1), (Sl (some ⟨b50, 0, none⟩) ([1, 2, 3, 4] : List Int) 4), (I 5)] [] [], Ch.ro n0 (Sl a5 r2.1 c6) r2.1]) from (H.sel' [1, 0, 0, 1, 2, 3, 4, 5, 6] rfl rfl))) (wanted_yes rfl (by exact (congrArg some hb74))) ?_
      rintro _ σ82 ⟨_, ⟨rfl, rfl⟩, H, -⟩
      replace H : Hp S0 σ0 σ82 [Ch.ro 0 (Sl a70 r67.1 c71) r67.1, Ch.ro 0 (Sl a63 r60.1 c64) r60.1, Ch.ro 0 (Sl (some ⟨b50, 0, none⟩) ([1, 2, 3, 4] : List Int) 4) ([1, 2, 3, 4] : List Int), Ch.ro 0 (Sl a5 r2.1 c6) r2.1, Ch.ro n0 (Sl (some ⟨b50, 0, none⟩) ([1, 2, 3, 4] : List Int) 4) ([1, 2, 3, 4] : List Int), Ch.bx n0 b52 0 [(I r2.2.1), (Sl (some ⟨b50, 0, none⟩) ([1, 2, 3, 4] : List Int) 4), (I 5)] [] [], Ch.ro n0 (Sl a5 r2.1 c6) r2.1] := H
      refine st (v := (B r79)) (rv_pick_t (congrArg B hb74) rfl) ?_
      refine st (v := (B r79)) (rv_assign rfl) ?_
      refine w_end ?_
      refine q_then ?_
      refine c_ret ?_
      obtain rfl := Option.some.inj h
      exact fin_ret (v := (B r79)) (results_ok Try.results4 (res_tmp (v := (B r79)) rfl res_nil) rfl) ⟨rfl, rfl⟩ (H.sel' [] rfl rfl)
     ·replace h := bif_f hb74 h
      refine st_skip (congrArg some hb74) ?_
      refine st_skip (congrArg some hb74) ?_
      refine st_skip (congrArg some hb74) ?_
      refine st (v := (B false)) (rv_pick_f (congrArg B hb74) rfl) ?_
      refine st (v := (B false)) (rv_assign rfl) ?_
      refine w_end ?_
      refine q_then ?_
      refine c_ret ?_
      obtain rfl := Option.some.inj h
      exact fin_ret (v := (B false)) (results_ok Try.results4 (res_tmp (v := (B false)) rfl res_nil) rfl) ⟨rfl, rfl⟩ (H.sel' [] rfl rfl)
    ·replace h := bif_f hb73 h
     refine st_skip (congrArg some hb73) ?_
     refine st (v := (B false)) (rv_pick_f (congrArg B hb73) rfl) ?_
     refine st (v := (B false)) (rv_move rfl) ?_
     refine st_skip rfl ?_
     refine st_skip rfl ?_
     refine st_skip rfl ?_
     refine st (v := (B false)) (rv_pick_f rfl rfl) ?_
     refine st (v := (B false)) (rv_assign rfl) ?_
     refine w_end ?_
     refine q_then ?_
     refine c_ret ?_
     obtain rfl := Option.some.inj h
     exact fin_ret (v := (B false)) (results_ok Try.results4 (res_tmp (v := (B false)) rfl res_nil) rfl) ⟨rfl, rfl⟩ (H.sel' [] rfl rfl)

end Go.Vs
