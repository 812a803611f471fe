/- The functions compute what their models say. -/
import Derived.Test.YtanbdmdbfjonhaaKFilterStoreTwiceC2
set_option linter.unusedVariables false
set_option linter.unusedSimpArgs false
set_option maxRecDepth 20000
namespace Go.Vs
open Go Go.Proofs
attribute [local irreducible] Code.wp Code.wpIn wpList wpListIn wpQuiet Calls CallsIn

theorem c_laws_equalItems {a_0 : List (Int × (List Int) × Int)} {b_1 : List (Int × (List Int) × Int)} {aa_0 : Option Addr} {ca_0 : Nat} {ab_1 : Option Addr} {cb_1 : Nat} {r : Bool} (h : M.laws_equalItems a_0 b_1 = some r) :
    Cal2 Try.prog 22 [(Sl aa_0 a_0 ca_0), (Sl ab_1 b_1 cb_1)] [Ch.ro 0 (Sl aa_0 a_0 ca_0) a_0, Ch.ro 0 (Sl ab_1 b_1 cb_1) b_1] (fun n0 v L => v = (B r) ∧ L = []) := by
 refine cal2 (n := 55) Try.func22 rfl rfl rfl rfl ?_
 intro S0 σ0 n0 hn0 H
 unfold M.laws_equalItems at h
 refine c_seq ?_
 refine rg ?_
 refine st (v := (B false)) (rv_assign rfl) ?_
 refine w_end ?_
 refine q_then ?_
 refine c_seq ?_
 refine c_seq ?_
 refine rg ?_
 refine st (v := (Sl aa_0 a_0 ca_0)) (rv_move rfl) ?_
 refine st (v := (I (a_0.length : Int))) (rv_len Try.underlying23 rfl) ?_
 refine st (v := (Sl ab_1 b_1 cb_1)) (rv_move rfl) ?_
 refine st (v := (I (b_1.length : Int))) (rv_len Try.underlying23 rfl) ?_
 refine st (v := (B ((a_0.length : Int) != (b_1.length : Int)))) (rv_neq (a := (a_0.length : Int)) (b := (b_1.length : Int)) rfl rfl) ?_
 refine w_end ?_
 refine q_then ?_
 refine cd_cond ((a_0.length : Int) != (b_1.length : Int)) rfl (fun hb1 => ?_) (fun hb1 => ?_)
 ·replace h := bif_t hb1 h
  refine c_seq ?_
  refine rg ?_
  refine st (v := (B false)) (rv_assign rfl) ?_
  refine w_end ?_
  refine q_then ?_
  refine c_ret ?_
  refine q_then_r ?_
  obtain rfl := Option.some.inj h
  exact fin_ret (v := (B false)) (results_ok Try.results22 (res_tmp (v := (B false)) rfl res_nil) rfl) ⟨rfl, rfl⟩ (H.sel' [] rfl rfl)
 ·replace h := bif_f hb1 h
  refine c_skip ?_
  refine q_then ?_
  refine c_seq ?_
  refine c_seq ?_
  refine rg ?_
  refine st (v := (I 0)) (rv_assign rfl) ?_
  refine w_end ?_
  refine q_then ?_
  obtain ⟨o2, hj, h'⟩ := bind_some h
  clear h
  refine c_cut (fun e a w => (∃ t, o2 = (.inl t) ∧ e = .normal ∧ ∃ (ρ : Nat → Value) (σ : St), a = fr 55 (updL ρ []) ∧ w = σ.w ∧ Hp S0 σ0 σ []) ∨ (∃ t, o2 = (.inr t) ∧ e = .ret ∧ ∃ (ρ : Nat → Value) (σ : St), a = fr 55 (updL ρ [(4, (B t))]) ∧ w = σ.w ∧ Hp S0 σ0 σ [])) ?_ ?_
  ·clear h'
   rename _ = some o2 => h
   refine c_blk ?_
   refine wp_loopM _ h (fun s3 a w => ∃ (ρ : Nat → Value) (σ : St), a = fr 55 (updL ρ [(0, (Sl aa_0 a_0 ca_0)), (1, (Sl ab_1 b_1 cb_1)), (5, (I s3))]) ∧ w = σ.w ∧ Hp S0 σ0 σ [Ch.ro 0 (Sl aa_0 a_0 ca_0) a_0, Ch.ro 0 (Sl ab_1 b_1 cb_1) b_1]) ⟨_, σ0, fr_join ⟨rfl, rfl, rfl, trivial⟩, rfl, H.sel' [0, 1] rfl rfl⟩ ?_
   clear h H
   rintro s3 a w o ⟨ρ, σ4, rfl, rfl, H⟩ h hres
   refine c_seq ?_
   refine c_seq ?_
   refine rg ?_
   refine st (v := (I s3)) (rv_move rfl) ?_
   refine st (v := (Sl aa_0 a_0 ca_0)) (rv_move rfl) ?_
   refine st (v := (I (a_0.length : Int))) (rv_len Try.underlying23 rfl) ?_
   refine st (v := (B (decide (s3 < (a_0.length : Int))))) (rv_lss (a := s3) (b := (a_0.length : Int)) rfl rfl) ?_
   refine w_end ?_
   refine q_then ?_
   refine cd_cond (decide (s3 < (a_0.length : Int))) rfl (fun hb5 => ?_) (fun hb5 => ?_)
   ·replace h := bif_t hb5 h
    refine c_skip ?_
    refine q_then ?_
    refine c_seq ?_
    refine c_blk ?_
    refine c_seq ?_
    obtain ⟨o6, hj, h'⟩ := bind_some h
    clear h
    refine c_cut (fun e a w => e = .normal ∧ ∃ (ρ : Nat → Value) (σ : St), a = fr 55 (updL ρ [(0, (Sl aa_0 a_0 ca_0)), (1, (Sl ab_1 b_1 cb_1)), (5, (I s3)), (54, (B o6))]) ∧ w = σ.w ∧ Hp S0 σ0 σ [Ch.ro 0 (Sl aa_0 a_0 ca_0) a_0, Ch.ro 0 (Sl ab_1 b_1 cb_1) b_1]) ?_ ?_
    ·clear h'
     rename _ = some o6 => h
     refine rgP (σ := σ4) 35 (by kernel_rfl) (by kernel_rfl) (by kernel_rfl) ?_
     refine sq (v := (Sl aa_0 a_0 ca_0)) (rv_move rfl) ?_
     refine sq (v := (I s3)) (rv_move rfl) ?_
     obtain ⟨x7, hx8, h'⟩ := bind_some h
     clear h
     have h := h'; clear h'
     obtain ⟨b10, o11, hi9, -⟩ := (H.ro 0 rfl).ix hx8
     refine sq (v := (pt b10 o11)) (rv_ix Try.underlying23 ti32 rfl rfl hi9) ?_
     refine sq (v := (pt b10 (o11 + 0))) (rv_fieldAddr (off := 0) (ft := 3) Try.underlying32 rfl ti3 rfl rfl) ?_
     have hc12 := ((H.ro 0 rfl).at hx8 hi9).fst.int
     refine sq (v := (I x7.1)) (rv_load1 Try.underlying3 rfl rfl hc12) ?_
     refine sq (v := (Sl ab_1 b_1 cb_1)) (rv_move rfl) ?_
     refine sq (v := (I s3)) (rv_move rfl) ?_
     obtain ⟨x13, hx14, h'⟩ := bind_some h
     clear h
     have h := h'; clear h'
     obtain ⟨b16, o17, hi15, -⟩ := (H.ro 1 rfl).ix hx14
     refine sq (v := (pt b16 o17)) (rv_ix Try.underlying23 ti32 rfl rfl hi15) ?_
     refine sq (v := (pt b16 (o17 + 0))) (rv_fieldAddr (off := 0) (ft := 3) Try.underlying32 rfl ti3 rfl rfl) ?_
     have hc18 := ((H.ro 1 rfl).at hx14 hi15).fst.int
     refine sq (v := (I x13.1)) (rv_load1 Try.underlying3 rfl rfl hc18) ?_
     refine sq (v := (B (x7.1 != x13.1))) (rv_neq (a := x7.1) (b := x13.1) rfl rfl) ?_
     refine sq (v := (B (x7.1 != x13.1))) (rv_move rfl) ?_
     rcases Bool.eq_false_or_eq_true (x7.1 != x13.1) with hb19 | hb19
     ·replace h := bif_t hb19 h
      refine sq_skip (congrArg some hb19) ?_
      refine sq_skip (congrArg some hb19) ?_
      refine sq_skip (congrArg some hb19) ?_
      refine sq_skip (congrArg some hb19) ?_
      refine sq_skip (congrArg some hb19) ?_
      refine sq_skip (congrArg some hb19) ?_
      refine sq_skip (congrArg some hb19) ?_
      refine sq_skip (congrArg some hb19) ?_
      refine sq_skip (congrArg some hb19) ?_
      refine sq_skip (congrArg some hb19) ?_
      refine sq_skip (congrArg some hb19) ?_
      refine sq (v := (B true)) (rv_pick_t (congrArg B hb19) rfl) ?_
      refine sq (v := (B true)) (rv_move rfl) ?_
      refine sq_skip rfl ?_
      refine sq_skip rfl ?_
      refine sq_skip rfl ?_
      refine sq_skip rfl ?_
      refine sq_skip rfl ?_
      refine sq_skip rfl ?_
      refine sq_skip rfl ?_
      refine sq_skip rfl ?_
      refine sq_skip rfl ?_
      refine sq_skip rfl ?_
      refine sq_end ?_
      intro σ20 hm21
      replace H := H.grow (hm21.mono fun _ h => h); clear hm21
      refine st_skip rfl ?_
      refine st_skip rfl ?_
      refine st (v := (B true)) (rv_pick_t rfl rfl) ?_
      refine w_end ?_
      obtain rfl := Option.some.inj h
      exact ⟨rfl, _, σ20, fr_join ⟨rfl, rfl, rfl, rfl, trivial⟩, rfl, H.sel' [0, 1] rfl rfl⟩
     ·replace h := bif_f hb19 h
      refine sq_g (v := (Sl aa_0 a_0 ca_0)) (congrArg some hb19) (rv_move rfl) ?_
      refine sq_g (v := (I s3)) (congrArg some hb19) (rv_move rfl) ?_
      obtain ⟨x22, hx23, h'⟩ := bind_some h
      clear h
      have h := h'; clear h'
      obtain ⟨b25, o26, hi24, -⟩ := (H.ro 0 rfl).ix hx23
      refine sq_g (v := (pt b25 o26)) (congrArg some hb19) (rv_ix Try.underlying23 ti32 rfl rfl hi24) ?_
      refine sq_g (v := (pt b25 (o26 + 2))) (congrArg some hb19) (rv_fieldAddr (off := 2) (ft := 3) Try.underlying32 rfl ti3 rfl rfl) ?_
      have hc27 := ((H.ro 0 rfl).at hx23 hi24).snd.snd.int
      refine sq_g (v := (I x22.2.2)) (congrArg some hb19) (rv_load1 Try.underlying3 rfl rfl hc27) ?_
      refine sq_g (v := (Sl ab_1 b_1 cb_1)) (congrArg some hb19) (rv_move rfl) ?_
      refine sq_g (v := (I s3)) (congrArg some hb19) (rv_move rfl) ?_
      obtain ⟨x28, hx29, h'⟩ := bind_some h
      clear h
      have h := h'; clear h'
      obtain ⟨b31, o32, hi30, -⟩ := (H.ro 1 rfl).ix hx29
      refine sq_g (v := (pt b31 o32)) (congrArg some hb19) (rv_ix Try.underlying23 ti32 rfl rfl hi30) ?_
      refine sq_g (v := (pt b31 (o32 + 2))) (congrArg some hb19) (rv_fieldAddr (off := 2) (ft := 3) Try.underlying32 rfl ti3 rfl rfl) ?_
      have hc33 := ((H.ro 1 rfl).at hx29 hi30).snd.snd.int
      refine sq_g (v := (I x28.2.2)) (congrArg some hb19) (rv_load1 Try.underlying3 rfl rfl hc33) ?_
      refine sq_g (v := (B (x22.2.2 != x28.2.2))) (congrArg some hb19) (rv_neq (a := x22.2.2) (b := x28.2.2) rfl rfl) ?_
      refine sq (v := (B (x22.2.2 != x28.2.2))) (rv_pick_f (congrArg B hb19) rfl) ?_
      refine sq (v := (B (x22.2.2 != x28.2.2))) (rv_move rfl) ?_
      rcases Bool.eq_false_or_eq_true (x22.2.2 != x28.2.2) with hb34 | hb34
      ·replace h := bif_t hb34 h
       refine sq_skip (congrArg some hb34) ?_
       refine sq_skip (congrArg some hb34) ?_
       refine sq_skip (congrArg some hb34) ?_
       refine sq_skip (congrArg some hb34) ?_
       refine sq_skip (congrArg some hb34) ?_
       refine sq_skip (congrArg some hb34) ?_
       refine sq_skip (congrArg some hb34) ?_
       refine sq_skip (congrArg some hb34) ?_
       refine sq_skip (congrArg some hb34) ?_
       refine sq_skip (congrArg some hb34) ?_
       refine sq_end ?_
       intro σ35 hm36
       replace H := H.grow (hm36.mono fun _ h => h); clear hm36
       refine st_skip (congrArg some hb34) ?_
       refine st_skip (congrArg some hb34) ?_
       refine st (v := (B true)) (rv_pick_t (congrArg B hb34) rfl) ?_
       refine w_end ?_
       obtain rfl := Option.some.inj h
       exact ⟨rfl, _, σ35, fr_join ⟨rfl, rfl, rfl, rfl, trivial⟩, rfl, H.sel' [0, 1] rfl rfl⟩
      ·replace h := bif_f hb34 h
       refine sq_g (v := (Sl aa_0 a_0 ca_0)) (congrArg some hb34) (rv_move rfl) ?_
       refine sq_g (v := (I s3)) (congrArg some hb34) (rv_move rfl) ?_
       obtain ⟨x37, hx38, h'⟩ := bind_some h
       clear h
       have h := h'; clear h'
       obtain ⟨b40, o41, hi39, -⟩ := (H.ro 0 rfl).ix hx38
       refine sq_g (v := (pt b40 o41)) (congrArg some hb34) (rv_ix Try.underlying23 ti32 rfl rfl hi39) ?_
       refine sq_g (v := (pt b40 (o41 + 1))) (congrArg some hb34) (rv_fieldAddr (off := 1) (ft := 30) Try.underlying32 rfl ti30 rfl rfl) ?_
       obtain ⟨v45, hc46, hR44⟩ := ((H.ro 0 rfl).at hx38 hi39).snd.fst.slice
       obtain ⟨a42, c43, rfl⟩ := hR44.isSl
       replace H := H.add (d := Ch.ro 0 (Sl a42 x37.2.1 c43) x37.2.1) hR44 (fun _ h => h)
       clear hR44
       refine sq_g (v := (Sl a42 x37.2.1 c43)) (congrArg some hb34) (rv_load1 Try.underlying30 rfl rfl hc46) ?_
       refine sq_g (v := (Sl ab_1 b_1 cb_1)) (congrArg some hb34) (rv_move rfl) ?_
       refine sq_g (v := (I s3)) (congrArg some hb34) (rv_move rfl) ?_
       obtain ⟨x47, hx48, h'⟩ := bind_some h
       clear h
       have h := h'; clear h'
       obtain ⟨b50, o51, hi49, -⟩ := (H.ro 2 rfl).ix hx48
       refine sq_g (v := (pt b50 o51)) (congrArg some hb34) (rv_ix Try.underlying23 ti32 rfl rfl hi49) ?_
       refine sq_g (v := (pt b50 (o51 + 1))) (congrArg some hb34) (rv_fieldAddr (off := 1) (ft := 30) Try.underlying32 rfl ti30 rfl rfl) ?_
       obtain ⟨v55, hc56, hR54⟩ := ((H.ro 2 rfl).at hx48 hi49).snd.fst.slice
       obtain ⟨a52, c53, rfl⟩ := hR54.isSl
       replace H := H.add (d := Ch.ro 0 (Sl a52 x47.2.1 c53) x47.2.1) hR54 (fun _ h => h)
       clear hR54
       refine sq_g (v := (Sl a52 x47.2.1 c53)) (congrArg some hb34) (rv_load1 Try.underlying30 rfl rfl hc56) ?_
       refine sq_end ?_
       intro σ57 hm58
       replace H := H.grow (hm58.mono fun _ h => h); clear hm58
       obtain ⟨r59, hx60, h'⟩ := bind_some h
       clear h
       have h := h'; clear h'
       have hc61 := c_laws_equalInts (aa_0 := a42) (ca_0 := c43) (ab_1 := a52) (cb_1 := c53) hx60
       refine st_call (cx_call hc61 (ent_f hc61.fn rfl) hn0 (show Hp S0 σ0 _ ([Ch.ro 0 (Sl a42 x37.2.1 c43) x37.2.1, Ch.ro 0 (Sl a52 x47.2.1 c53) x47.2.1] ++ [Ch.ro 0 (Sl a52 x47.2.1 c53) x47.2.1, Ch.ro 0 (Sl a42 x37.2.1 c43) x37.2.1, Ch.ro 0 (Sl aa_0 a_0 ca_0) a_0, Ch.ro 0 (Sl ab_1 b_1 cb_1) b_1]) from (H.sel' [1, 0, 0, 1, 2, 3] rfl rfl))) (wanted_yes rfl (by exact (congrArg some hb34))) ?_
       rintro _ σ62 ⟨_, ⟨rfl, rfl⟩, H, -⟩
       replace H : Hp S0 σ0 σ62 [Ch.ro 0 (Sl a52 x47.2.1 c53) x47.2.1, Ch.ro 0 (Sl a42 x37.2.1 c43) x37.2.1, Ch.ro 0 (Sl aa_0 a_0 ca_0) a_0, Ch.ro 0 (Sl ab_1 b_1 cb_1) b_1] := H
       refine st_g (v := (B (!r59))) (congrArg some hb34) (rv_not rfl) ?_
       refine st (v := (B (!r59))) (rv_pick_f (congrArg B hb34) rfl) ?_
       refine w_end ?_
       obtain rfl := Option.some.inj h
       exact ⟨rfl, _, σ62, fr_join ⟨rfl, rfl, rfl, rfl, trivial⟩, rfl, H.sel' [2, 3] rfl rfl⟩
    ·clear hj
     have h := h'
     clear h' H
     rintro e a w ⟨rfl, ρ, σ63, rfl, rfl, H⟩
     refine q_then ?_
     refine cd_cond o6 rfl (fun hb64 => ?_) (fun hb64 => ?_)
     ·replace h := bif_t hb64 h
      refine c_seq ?_
      refine rg ?_
      refine st (v := (B false)) (rv_assign rfl) ?_
      refine w_end ?_
      refine q_then ?_
      refine c_ret ?_
      refine q_blk_r ?_
      refine q_then_r ?_
      refine q_then_r ?_
      refine q_blk_r ?_
      obtain rfl := Option.some.inj h
      obtain rfl := hres _ rfl
      exact .inr (⟨_, rfl, rfl, _, σ63, fr_join ⟨rfl, trivial⟩, rfl, H.sel' [] rfl rfl⟩)
     ·replace h := bif_f hb64 h
      refine c_skip ?_
      refine q_blk ?_
      refine q_then ?_
      refine rg ?_
      refine st (v := (I s3)) (rv_move rfl) ?_
      refine st (v := (I (w64 (s3 + 1)))) (rv_add (a := s3) (b := 1) rfl rfl) ?_
      refine st (v := (I (w64 (s3 + 1)))) (rv_assign rfl) ?_
      refine w_end ?_
      refine q_then ?_
      obtain rfl := Option.some.inj h
      exact ⟨_, rfl, _, σ63, fr_join ⟨rfl, rfl, rfl, trivial⟩, rfl, H.sel' [0, 1] rfl rfl⟩
   ·replace h := bif_f hb5 h
    refine c_exit ?_
    refine q_then_x ?_
    refine q_then_x ?_
    refine q_blk_hit ?_
    obtain rfl := Option.some.inj h
    obtain rfl := hres _ rfl
    exact .inl ⟨_, rfl, rfl, _, σ4, fr_join trivial, rfl, H.sel' [] rfl rfl⟩
  ·clear hj
   have h := h'
   clear h' H
   rintro e a w (⟨t65, rfl, rfl, ρ, σ66, rfl, rfl, H⟩ | ⟨t67, rfl, rfl, ρ, σ68, rfl, rfl, H⟩)
   ·replace h := selim_l h
    refine q_then ?_
    refine c_seq ?_
    refine rg ?_
    refine st (v := (B true)) (rv_assign rfl) ?_
    refine w_end ?_
    refine q_then ?_
    refine c_ret ?_
    obtain rfl := Option.some.inj h
    exact fin_ret (v := (B true)) (results_ok Try.results22 (res_tmp (v := (B true)) rfl res_nil) rfl) ⟨rfl, rfl⟩ (H.sel' [] rfl rfl)
   ·replace h := selim_r h
    refine q_then_r ?_
    obtain rfl := Option.some.inj h
    exact fin_ret (v := (B t67)) (results_ok Try.results22 (res_tmp (v := (B t67)) rfl res_nil) rfl) ⟨rfl, rfl⟩ (H.sel' [] rfl rfl)

theorem c_spec_validFilter {f_0 : Int × Int × Int}  {r : Bool} (h : M.spec_validFilter f_0 = some r) :
    Cal2 Try.prog 63 [(.agg #[(I f_0.1), (I f_0.2.1), (I f_0.2.2)])] [] (fun n0 v L => v = (B r) ∧ L = []) := by
 refine cal2 (n := 16) Try.func63 rfl rfl rfl rfl ?_
 intro S0 σ0 n0 hn0 H
 unfold M.spec_validFilter at h
 refine c_seq ?_
 refine rg ?_
 refine st_ex (ex_box (cs := [(I f_0.1), (I f_0.2.1), (I f_0.2.2)]) H hn0 rfl rfl) wn ?_
 rintro _ σ2 ⟨b1, rfl, H, -⟩
 refine st (v := (B false)) (rv_assign rfl) ?_
 refine w_end ?_
 refine q_then ?_
 refine c_seq ?_
 refine rg ?_
 refine st (v := (pt b1 0)) (rv_fieldAddr (off := 0) (ft := 3) Try.underlying38 rfl ti3 rfl rfl) ?_
 have hc3 := H.cell (u := (I f_0.1)) (o' := 0) 0 0 rfl rfl rfl
 refine st (v := (I f_0.1)) (rv_load1 Try.underlying3 rfl rfl hc3) ?_
 obtain ⟨r4, hx5, h'⟩ := bind_some h
 clear h
 have h := h'; clear h'
 have hc6 := c_spec_inRange hx5
 refine st_call (cx_call hc6 (ent_f hc6.fn rfl) hn0 (show Hp S0 σ0 _ ([] ++ [Ch.bx n0 b1 0 [(I f_0.1), (I f_0.2.1), (I f_0.2.2)] [] []]) from (H.sel' [0] rfl rfl))) wn ?_
 rintro _ σ7 ⟨_, ⟨rfl, rfl⟩, H, -⟩
 replace H : Hp S0 σ0 σ7 [Ch.bx n0 b1 0 [(I f_0.1), (I f_0.2.1), (I f_0.2.2)] [] []] := H
 refine st (v := (B r4)) (rv_move rfl) ?_
 rcases Bool.eq_false_or_eq_true r4 with hb8 | hb8
 ·replace h := bif_t hb8 h
  refine st_g (v := (pt b1 1)) (congrArg some hb8) (rv_fieldAddr (off := 1) (ft := 3) Try.underlying38 rfl ti3 rfl rfl) ?_
  have hc9 := H.cell (u := (I f_0.2.1)) (o' := 1) 0 1 rfl rfl rfl
  refine st_g (v := (I f_0.2.1)) (congrArg some hb8) (rv_load1 Try.underlying3 rfl rfl hc9) ?_
  obtain ⟨r10, hx11, h'⟩ := bind_some h
  clear h
  have h := h'; clear h'
  have hc12 := c_spec_inRange hx11
  refine st_call (cx_call hc12 (ent_f hc12.fn rfl) hn0 (show Hp S0 σ0 _ ([] ++ [Ch.bx n0 b1 0 [(I f_0.1), (I f_0.2.1), (I f_0.2.2)] [] []]) from (H.sel' [0] rfl rfl))) (wanted_yes rfl (by exact (congrArg some hb8))) ?_
  rintro _ σ13 ⟨_, ⟨rfl, rfl⟩, H, -⟩
  replace H : Hp S0 σ0 σ13 [Ch.bx n0 b1 0 [(I f_0.1), (I f_0.2.1), (I f_0.2.2)] [] []] := H
  refine st (v := (B r10)) (rv_pick_t (congrArg B hb8) rfl) ?_
  refine st (v := (B r10)) (rv_move rfl) ?_
  rcases Bool.eq_false_or_eq_true r10 with hb14 | hb14
  ·replace h := bif_t hb14 h
   refine st_g (v := (pt b1 2)) (congrArg some hb14) (rv_fieldAddr (off := 2) (ft := 3) Try.underlying38 rfl ti3 rfl rfl) ?_
   have hc15 := H.cell (u := (I f_0.2.2)) (o' := 2) 0 2 rfl rfl rfl
   refine st_g (v := (I f_0.2.2)) (congrArg some hb14) (rv_load1 Try.underlying3 rfl rfl hc15) ?_
   obtain ⟨r16, hx17, h'⟩ := bind_some h
   clear h
   have h := h'; clear h'
   have hc18 := c_spec_inRange hx17
   refine st_call (cx_call hc18 (ent_f hc18.fn rfl) hn0 (show Hp S0 σ0 _ ([] ++ [Ch.bx n0 b1 0 [(I f_0.1), (I f_0.2.1), (I f_0.2.2)] [] []]) from (H.sel' [0] rfl rfl))) (wanted_yes rfl (by exact (congrArg some hb14))) ?_
   rintro _ σ19 ⟨_, ⟨rfl, rfl⟩, H, -⟩
   replace H : Hp S0 σ0 σ19 [Ch.bx n0 b1 0 [(I f_0.1), (I f_0.2.1), (I f_0.2.2)] [] []] := H
   refine st (v := (B r16)) (rv_pick_t (congrArg B hb14) rfl) ?_
   refine st (v := (B r16)) (rv_assign rfl) ?_
   refine w_end ?_
   refine q_then ?_
   refine c_ret ?_
   obtain rfl := Option.some.inj h
   exact fin_ret (v := (B r16)) (results_ok Try.results63 (res_tmp (v := (B r16)) rfl res_nil) rfl) ⟨rfl, rfl⟩ (H.sel' [] rfl rfl)
  ·replace h := bif_f hb14 h
   refine st_skip (congrArg some hb14) ?_
   refine st_skip (congrArg some hb14) ?_
   refine st_skip (congrArg some hb14) ?_
   refine st (v := (B false)) (rv_pick_f (congrArg B hb14) rfl) ?_
   refine st (v := (B false)) (rv_assign rfl) ?_
   refine w_end ?_
   refine q_then ?_
   refine c_ret ?_
   obtain rfl := Option.some.inj h
   exact fin_ret (v := (B false)) (results_ok Try.results63 (res_tmp (v := (B false)) rfl res_nil) rfl) ⟨rfl, rfl⟩ (H.sel' [] rfl rfl)
 ·replace h := bif_f hb8 h
  refine st_skip (congrArg some hb8) ?_
  refine st_skip (congrArg some hb8) ?_
  refine st_skip (congrArg some hb8) ?_
  refine st (v := (B false)) (rv_pick_f (congrArg B hb8) rfl) ?_
  refine st (v := (B false)) (rv_move rfl) ?_
  refine st_skip rfl ?_
  refine st_skip rfl ?_
  refine st_skip rfl ?_
  refine st (v := (B false)) (rv_pick_f rfl rfl) ?_
  refine st (v := (B false)) (rv_assign rfl) ?_
  refine w_end ?_
  refine q_then ?_
  refine c_ret ?_
  obtain rfl := Option.some.inj h
  exact fin_ret (v := (B false)) (results_ok Try.results63 (res_tmp (v := (B false)) rfl res_nil) rfl) ⟨rfl, rfl⟩ (H.sel' [] rfl rfl)

theorem c_spec_passes {f_0 : Int × Int × Int} {tags_1 : Int}  {r : Bool} (h : M.spec_passes f_0 tags_1 = some r) :
    Cal2 Try.prog 64 [(.agg #[(I f_0.1), (I f_0.2.1), (I f_0.2.2)]), (I tags_1)] [] (fun n0 v L => v = (B r) ∧ L = []) := by
 refine cal2 (n := 31) Try.func64 rfl rfl rfl rfl ?_
 intro S0 σ0 n0 hn0 H
 unfold M.spec_passes at h
 refine c_seq ?_
 refine rg ?_
 refine st_ex (ex_box (cs := [(I f_0.1), (I f_0.2.1), (I f_0.2.2)]) H hn0 rfl rfl) wn ?_
 rintro _ σ2 ⟨b1, rfl, H, -⟩
 refine st (v := (B false)) (rv_assign rfl) ?_
 refine w_end ?_
 refine q_then ?_
 refine c_seq ?_
 refine rg ?_
 refine st (v := (I tags_1)) (rv_move rfl) ?_
 refine st (v := (pt b1 0)) (rv_fieldAddr (off := 0) (ft := 3) Try.underlying38 rfl ti3 rfl rfl) ?_
 have hc3 := H.cell (u := (I f_0.1)) (o' := 0) 0 0 rfl rfl rfl
 refine st (v := (I f_0.1)) (rv_load1 Try.underlying3 rfl rfl hc3) ?_
 refine st (v := (I (gand tags_1 f_0.1))) (rv_and (a := tags_1) (b := f_0.1) rfl rfl) ?_
 refine st (v := (pt b1 0)) (rv_fieldAddr (off := 0) (ft := 3) Try.underlying38 rfl ti3 rfl rfl) ?_
 have hc4 := H.cell (u := (I f_0.1)) (o' := 0) 0 0 rfl rfl rfl
 refine st (v := (I f_0.1)) (rv_load1 Try.underlying3 rfl rfl hc4) ?_
 refine st (v := (B ((gand tags_1 f_0.1) == f_0.1))) (rv_eql (a := (gand tags_1 f_0.1)) (b := f_0.1) rfl rfl) ?_
 refine st (v := (B ((gand tags_1 f_0.1) == f_0.1))) (rv_move rfl) ?_
 rcases Bool.eq_false_or_eq_true ((gand tags_1 f_0.1) == f_0.1) with hb5 | hb5
 ·replace h := bif_t hb5 h
  refine st_g (v := (I tags_1)) (congrArg some hb5) (rv_move rfl) ?_
  refine st_g (v := (pt b1 1)) (congrArg some hb5) (rv_fieldAddr (off := 1) (ft := 3) Try.underlying38 rfl ti3 rfl rfl) ?_
  have hc6 := H.cell (u := (I f_0.2.1)) (o' := 1) 0 1 rfl rfl rfl
  refine st_g (v := (I f_0.2.1)) (congrArg some hb5) (rv_load1 Try.underlying3 rfl rfl hc6) ?_
  refine st_g (v := (I (gand tags_1 f_0.2.1))) (congrArg some hb5) (rv_and (a := tags_1) (b := f_0.2.1) rfl rfl) ?_
  refine st_g (v := (B ((gand tags_1 f_0.2.1) == 0))) (congrArg some hb5) (rv_eql (a := (gand tags_1 f_0.2.1)) (b := 0) rfl rfl) ?_
  refine st (v := (B ((gand tags_1 f_0.2.1) == 0))) (rv_pick_t (congrArg B hb5) rfl) ?_
  refine st (v := (B ((gand tags_1 f_0.2.1) == 0))) (rv_move rfl) ?_
  rcases Bool.eq_false_or_eq_true ((gand tags_1 f_0.2.1) == 0) with hb7 | hb7
  ·replace h := bif_t hb7 h
   refine st_g (v := (pt b1 2)) (congrArg some hb7) (rv_fieldAddr (off := 2) (ft := 3) Try.underlying38 rfl ti3 rfl rfl) ?_
   have hc8 := H.cell (u := (I f_0.2.2)) (o' := 2) 0 2 rfl rfl rfl
   refine st_g (v := (I f_0.2.2)) (congrArg some hb7) (rv_load1 Try.underlying3 rfl rfl hc8) ?_
   refine st_g (v := (B (f_0.2.2 == 0))) (congrArg some hb7) (rv_eql (a := f_0.2.2) (b := 0) rfl rfl) ?_
   refine st_g (v := (B (f_0.2.2 == 0))) (congrArg some hb7) (rv_move rfl) ?_
   rcases Bool.eq_false_or_eq_true (f_0.2.2 == 0) with hb9 | hb9
   ·replace h := bif_t hb9 h
    refine st_skip (congrArg some hb9) ?_
    refine st_skip (congrArg some hb9) ?_
    refine st_skip (congrArg some hb9) ?_
    refine st_skip (congrArg some hb9) ?_
    refine st_skip (congrArg some hb9) ?_
    refine st_g (v := (B true)) (congrArg some hb7) (rv_pick_t (congrArg B hb9) rfl) ?_
    refine st (v := (B true)) (rv_pick_t (congrArg B hb7) rfl) ?_
    refine st (v := (B true)) (rv_assign rfl) ?_
    refine w_end ?_
    refine q_then ?_
    refine c_ret ?_
    obtain rfl := Option.some.inj h
    exact fin_ret (v := (B true)) (results_ok Try.results64 (res_tmp (v := (B true)) rfl res_nil) rfl) ⟨rfl, rfl⟩ (H.sel' [] rfl rfl)
   ·replace h := bif_f hb9 h
    refine st_g (v := (I tags_1)) (congrArg some hb9) (rv_move rfl) ?_
    refine st_g (v := (pt b1 2)) (congrArg some hb9) (rv_fieldAddr (off := 2) (ft := 3) Try.underlying38 rfl ti3 rfl rfl) ?_
    have hc10 := H.cell (u := (I f_0.2.2)) (o' := 2) 0 2 rfl rfl rfl
    refine st_g (v := (I f_0.2.2)) (congrArg some hb9) (rv_load1 Try.underlying3 rfl rfl hc10) ?_
    refine st_g (v := (I (gand tags_1 f_0.2.2))) (congrArg some hb9) (rv_and (a := tags_1) (b := f_0.2.2) rfl rfl) ?_
    refine st_g (v := (B ((gand tags_1 f_0.2.2) != 0))) (congrArg some hb9) (rv_neq (a := (gand tags_1 f_0.2.2)) (b := 0) rfl rfl) ?_
    refine st_g (v := (B ((gand tags_1 f_0.2.2) != 0))) (congrArg some hb7) (rv_pick_f (congrArg B hb9) rfl) ?_
    refine st (v := (B ((gand tags_1 f_0.2.2) != 0))) (rv_pick_t (congrArg B hb7) rfl) ?_
    refine st (v := (B ((gand tags_1 f_0.2.2) != 0))) (rv_assign rfl) ?_
    refine w_end ?_
    refine q_then ?_
    refine c_ret ?_
    obtain rfl := Option.some.inj h
    exact fin_ret (v := (B ((gand tags_1 f_0.2.2) != 0))) (results_ok Try.results64 (res_tmp (v := (B ((gand tags_1 f_0.2.2) != 0))) rfl res_nil) rfl) ⟨rfl, rfl⟩ (H.sel' [] rfl rfl)
  ·replace h := bif_f hb7 h
   refine st_skip (congrArg some hb7) ?_
   refine st_skip (congrArg some hb7) ?_
   refine st_skip (congrArg some hb7) ?_
   refine st_skip (congrArg some hb7) ?_
   refine st_skip_u rfl ?_
   refine st_skip_u rfl ?_
   refine st_skip_u rfl ?_
   refine st_skip_u rfl ?_
   refine st_skip_u rfl ?_
   refine st_skip (congrArg some hb7) ?_
   refine st (v := (B false)) (rv_pick_f (congrArg B hb7) rfl) ?_
   refine st (v := (B false)) (rv_assign rfl) ?_
   refine w_end ?_
   refine q_then ?_
   refine c_ret ?_
   obtain rfl := Option.some.inj h
   exact fin_ret (v := (B false)) (results_ok Try.results64 (res_tmp (v := (B false)) rfl res_nil) rfl) ⟨rfl, rfl⟩ (H.sel' [] rfl rfl)
 ·replace h := bif_f hb5 h
  refine st_skip (congrArg some hb5) ?_
  refine st_skip (congrArg some hb5) ?_
  refine st_skip (congrArg some hb5) ?_
  refine st_skip (congrArg some hb5) ?_
  refine st_skip (congrArg some hb5) ?_
  refine st (v := (B false)) (rv_pick_f (congrArg B hb5) rfl) ?_
  refine st (v := (B false)) (rv_move rfl) ?_
  refine st_skip rfl ?_
  refine st_skip rfl ?_
  refine st_skip rfl ?_
  refine st_skip rfl ?_
  refine st_skip_u rfl ?_
  refine st_skip_u rfl ?_
  refine st_skip_u rfl ?_
  refine st_skip_u rfl ?_
  refine st_skip_u rfl ?_
  refine st_skip rfl ?_
  refine st (v := (B false)) (rv_pick_f rfl rfl) ?_
  refine st (v := (B false)) (rv_assign rfl) ?_
  refine w_end ?_
  refine q_then ?_
  refine c_ret ?_
  obtain rfl := Option.some.inj h
  exact fin_ret (v := (B false)) (results_ok Try.results64 (res_tmp (v := (B false)) rfl res_nil) rfl) ⟨rfl, rfl⟩ (H.sel' [] rfl rfl)

theorem c_spec_FilterStore {list_0 : List (Int × (List Int) × Int)} {f_1 : Int × Int × Int} {alist_0 : Option Addr} {clist_0 : Nat} {r : (List (Int × (List Int) × Int))} (h : M.spec_FilterStore list_0 f_1 = some r) :
    Cal2 Try.prog 23 [(Sl alist_0 list_0 clist_0), (.agg #[(I f_1.1), (I f_1.2.1), (I f_1.2.2)])] [Ch.ro 0 (Sl alist_0 list_0 clist_0) list_0] (fun n0 v L => ∃ (az1 : Option Addr), ∃ (cz2 : Nat), v = (Sl az1 r cz2) ∧ L = [Ch.own n0 n0 (Sl az1 r cz2) r]) := by
 refine cal2 (n := 38) Try.func23 rfl rfl rfl rfl ?_
 intro S0 σ0 n0 hn0 H
 unfold M.spec_FilterStore at h
 refine c_seq ?_
 refine rg ?_
 refine st_ex (ex_box (cs := [(I f_1.1), (I f_1.2.1), (I f_1.2.2)]) H hn0 rfl rfl) wn ?_
 rintro _ σ2 ⟨b1, rfl, H, -⟩
 refine st (v := (.slice none 0 0)) (rv_assign rfl) ?_
 refine w_end ?_
 refine q_then ?_
 refine c_seq ?_
 refine rg ?_
 refine st_ex (ex_buildSlice (el := n0) (xs := ([] : List (Int × (List Int) × Int))) (ps := []) (cs := []) H hn0 Try.underlying23 ti32 rfl rfl (by kernel_rfl) (.nil) rfl) wn ?_
 rintro _ σ4 ⟨b3, rfl, H, -⟩
 refine st (v := (Sl (some ⟨b3, 0, none⟩) ([] : List (Int × (List Int) × Int)) 0)) (rv_assign rfl) ?_
 refine w_end ?_
 refine q_then ?_
 refine c_seq ?_
 refine c_seq ?_
 obtain ⟨o5, hj, h'⟩ := bind_some h
 clear h
 refine c_cut (fun e a w => e = .normal ∧ ∃ (ρ : Nat → Value) (σ : St), a = fr 38 (updL ρ [(0, (Sl alist_0 list_0 clist_0)), (3, (pt b1 0)), (5, (Sl (some ⟨b3, 0, none⟩) ([] : List (Int × (List Int) × Int)) 0)), (15, (B o5))]) ∧ w = σ.w ∧ Hp S0 σ0 σ [Ch.ro 0 (Sl alist_0 list_0 clist_0) list_0, Ch.bx n0 b1 0 [(I f_1.1), (I f_1.2.1), (I f_1.2.2)] [] [], Ch.own n0 n0 (Sl (some ⟨b3, 0, none⟩) ([] : List (Int × (List Int) × Int)) 0) ([] : List (Int × (List Int) × Int))]) ?_ ?_
 ·clear h'
  rename _ = some o5 => h
  refine rg ?_
  refine st (v := (Sl alist_0 list_0 clist_0)) (rv_move rfl) ?_
  obtain ⟨r6, hx7, h'⟩ := bind_some h
  clear h
  have h := h'; clear h'
  have hc8 := c_spec_validStore (alist_0 := alist_0) (clist_0 := clist_0) hx7
  refine st_call (cx_call hc8 (ent_f hc8.fn rfl) hn0 (show Hp S0 σ0 _ ([Ch.ro 0 (Sl alist_0 list_0 clist_0) list_0] ++ [Ch.own n0 n0 (Sl (some ⟨b3, 0, none⟩) ([] : List (Int × (List Int) × Int)) 0) ([] : List (Int × (List Int) × Int)), Ch.bx n0 b1 0 [(I f_1.1), (I f_1.2.1), (I f_1.2.2)] [] [], Ch.ro 0 (Sl alist_0 list_0 clist_0) list_0]) from (H.sel' [2, 0, 1, 2] rfl rfl))) wn ?_
  rintro _ σ9 ⟨_, ⟨rfl, rfl⟩, H, -⟩
  replace H : Hp S0 σ0 σ9 [Ch.own n0 n0 (Sl (some ⟨b3, 0, none⟩) ([] : List (Int × (List Int) × Int)) 0) ([] : List (Int × (List Int) × Int)), Ch.bx n0 b1 0 [(I f_1.1), (I f_1.2.1), (I f_1.2.2)] [] [], Ch.ro 0 (Sl alist_0 list_0 clist_0) list_0] := H
  refine st (v := (B (!r6))) (rv_not rfl) ?_
  refine st (v := (B (!r6))) (rv_move rfl) ?_
  rcases Bool.eq_false_or_eq_true (!r6) with hb10 | hb10
  ·replace h := bif_t hb10 h
   refine st_skip (congrArg some hb10) ?_
   refine st_skip (congrArg some hb10) ?_
   refine st_skip (congrArg some hb10) ?_
   refine st (v := (B true)) (rv_pick_t (congrArg B hb10) rfl) ?_
   refine w_end ?_
   obtain rfl := Option.some.inj h
   exact ⟨rfl, _, σ9, fr_join ⟨rfl, rfl, rfl, rfl, trivial⟩, rfl, H.sel' [2, 1, 0] rfl rfl⟩
  ·replace h := bif_f hb10 h
   have hc11 := H.cells 1 rfl
   refine st_g (v := (.agg #[(I f_1.1), (I f_1.2.1), (I f_1.2.2)])) (congrArg some hb10) (rv_load (cs := [(I f_1.1), (I f_1.2.1), (I f_1.2.2)]) Try.underlying38 rfl ti38 rfl rfl hc11) ?_
   obtain ⟨r12, hx13, h'⟩ := bind_some h
   clear h
   have h := h'; clear h'
   have hc14 := c_spec_validFilter hx13
   refine st_call (cx_call hc14 (ent_f hc14.fn rfl) hn0 (show Hp S0 σ0 _ ([] ++ [Ch.own n0 n0 (Sl (some ⟨b3, 0, none⟩) ([] : List (Int × (List Int) × Int)) 0) ([] : List (Int × (List Int) × Int)), Ch.bx n0 b1 0 [(I f_1.1), (I f_1.2.1), (I f_1.2.2)] [] [], Ch.ro 0 (Sl alist_0 list_0 clist_0) list_0]) from (H.sel' [0, 1, 2] rfl rfl))) (wanted_yes rfl (by exact (congrArg some hb10))) ?_
   rintro _ σ15 ⟨_, ⟨rfl, rfl⟩, H, -⟩
   replace H : Hp S0 σ0 σ15 [Ch.own n0 n0 (Sl (some ⟨b3, 0, none⟩) ([] : List (Int × (List Int) × Int)) 0) ([] : List (Int × (List Int) × Int)), Ch.bx n0 b1 0 [(I f_1.1), (I f_1.2.1), (I f_1.2.2)] [] [], Ch.ro 0 (Sl alist_0 list_0 clist_0) list_0] := H
   refine st_g (v := (B (!r12))) (congrArg some hb10) (rv_not rfl) ?_
   refine st (v := (B (!r12))) (rv_pick_f (congrArg B hb10) rfl) ?_
   refine w_end ?_
   obtain rfl := Option.some.inj h
   exact ⟨rfl, _, σ15, fr_join ⟨rfl, rfl, rfl, rfl, trivial⟩, rfl, H.sel' [2, 1, 0] rfl rfl⟩
 ·clear hj
  have h := h'
  clear h' H
  rintro e a w ⟨rfl, ρ, σ16, rfl, rfl, H⟩
  refine q_then ?_
  refine cd_cond o5 rfl (fun hb17 => ?_) (fun hb17 => ?_)
  ·replace h := bif_t hb17 h
   refine c_seq ?_
   refine rg ?_
   refine st (v := (.slice none 0 0)) (rv_assign rfl) ?_
   refine w_end ?_
   refine q_then ?_
   refine c_ret ?_
   refine q_then_r ?_
   replace H := H.nilOwn (Int × (List Int) × Int) n0 n0
   obtain rfl := Option.some.inj h
   exact fin_ret (v := (.slice none 0 0)) (results_ok Try.results23 (res_tmp (v := (.slice none 0 0)) rfl res_nil) rfl) ⟨none, 0, rfl, rfl⟩ (H.sel' [0] rfl rfl)
  ·replace h := bif_f hb17 h
   refine c_skip ?_
   refine q_then ?_
   refine c_seq ?_
   refine c_seq ?_
   refine rg ?_
   refine st (v := (I 0)) (rv_assign rfl) ?_
   refine w_end ?_
   refine q_then ?_
   obtain ⟨o18, hj, h'⟩ := bind_some h
   clear h
   refine c_cut (fun e a w => e = .normal ∧ ∃ (ρ : Nat → Value) (σ : St) (aj1 : Option Addr) (cj2 : Nat), a = fr 38 (updL ρ [(5, (Sl aj1 o18 cj2))]) ∧ w = σ.w ∧ Hp S0 σ0 σ [Ch.own n0 n0 (Sl aj1 o18 cj2) o18]) ?_ ?_
   ·clear h'
    rename _ = some o18 => h
    refine c_blk ?_
    refine wp_loopM _ h (fun s19 a w => ∃ (ρ : Nat → Value) (σ : St) (aj1 : Option Addr) (cj2 : Nat), a = fr 38 (updL ρ [(0, (Sl alist_0 list_0 clist_0)), (3, (pt b1 0)), (5, (Sl aj1 s19.1 cj2)), (6, (I s19.2))]) ∧ w = σ.w ∧ Hp S0 σ0 σ [Ch.ro 0 (Sl alist_0 list_0 clist_0) list_0, Ch.bx n0 b1 0 [(I f_1.1), (I f_1.2.1), (I f_1.2.2)] [] [], Ch.own n0 n0 (Sl aj1 s19.1 cj2) s19.1]) ⟨_, σ16, (some ⟨b3, 0, none⟩), 0, fr_join ⟨rfl, rfl, rfl, rfl, trivial⟩, rfl, H.sel' [0, 1, 2] rfl rfl⟩ ?_
    clear h H
    rintro s19 a w o ⟨ρ, σ20, a21, c22, rfl, rfl, H⟩ h hres
    refine c_seq ?_
    refine c_seq ?_
    refine rg ?_
    refine st (v := (I s19.2)) (rv_move rfl) ?_
    refine st (v := (Sl alist_0 list_0 clist_0)) (rv_move rfl) ?_
    refine st (v := (I (list_0.length : Int))) (rv_len Try.underlying23 rfl) ?_
    refine st (v := (B (decide (s19.2 < (list_0.length : Int))))) (rv_lss (a := s19.2) (b := (list_0.length : Int)) rfl rfl) ?_
    refine w_end ?_
    refine q_then ?_
    refine cd_cond (decide (s19.2 < (list_0.length : Int))) rfl (fun hb23 => ?_) (fun hb23 => ?_)
    ·replace h := bif_t hb23 h
     refine c_skip ?_
     refine q_then ?_
     refine c_seq ?_
     obtain ⟨o24, hj, h'⟩ := bind_some h
     clear h
     refine c_cut (fun e a w => e = .normal ∧ ∃ (ρ : Nat → Value) (σ : St) (aj1 : Option Addr) (cj2 : Nat), a = fr 38 (updL ρ [(0, (Sl alist_0 list_0 clist_0)), (3, (pt b1 0)), (5, (Sl aj1 o24 cj2)), (6, (I s19.2))]) ∧ w = σ.w ∧ Hp S0 σ0 σ [Ch.ro 0 (Sl alist_0 list_0 clist_0) list_0, Ch.bx n0 b1 0 [(I f_1.1), (I f_1.2.1), (I f_1.2.2)] [] [], Ch.own n0 n0 (Sl aj1 o24 cj2) o24]) ?_ ?_
     ·clear h'
      rename _ = some o24 => h
      refine c_blk ?_
      refine c_seq ?_
      refine rgP (σ := σ20) 6 (by kernel_rfl) (by kernel_rfl) (by kernel_rfl) ?_
      have hc25 := H.cells 1 rfl
      refine sq (v := (.agg #[(I f_1.1), (I f_1.2.1), (I f_1.2.2)])) (rv_load (cs := [(I f_1.1), (I f_1.2.1), (I f_1.2.2)]) Try.underlying38 rfl ti38 rfl rfl hc25) ?_
      refine sq (v := (Sl alist_0 list_0 clist_0)) (rv_move rfl) ?_
      refine sq (v := (I s19.2)) (rv_move rfl) ?_
      obtain ⟨x26, hx27, h'⟩ := bind_some h
      clear h
      have h := h'; clear h'
      obtain ⟨b29, o30, hi28, -⟩ := (H.ro 0 rfl).ix hx27
      refine sq (v := (pt b29 o30)) (rv_ix Try.underlying23 ti32 rfl rfl hi28) ?_
      refine sq (v := (pt b29 (o30 + 2))) (rv_fieldAddr (off := 2) (ft := 3) Try.underlying32 rfl ti3 rfl rfl) ?_
      have hc31 := ((H.ro 0 rfl).at hx27 hi28).snd.snd.int
      refine sq (v := (I x26.2.2)) (rv_load1 Try.underlying3 rfl rfl hc31) ?_
      refine sq_end ?_
      intro σ32 hm33
      replace H := H.grow (hm33.mono fun _ h => h); clear hm33
      obtain ⟨r34, hx35, h'⟩ := bind_some h
      clear h
      have h := h'; clear h'
      have hc36 := c_spec_passes hx35
      refine st_call (cx_call hc36 (ent_f hc36.fn rfl) hn0 (show Hp S0 σ0 _ ([] ++ [Ch.ro 0 (Sl alist_0 list_0 clist_0) list_0, Ch.bx n0 b1 0 [(I f_1.1), (I f_1.2.1), (I f_1.2.2)] [] [], Ch.own n0 n0 (Sl a21 s19.1 c22) s19.1]) from (H.sel' [0, 1, 2] rfl rfl))) wn ?_
      rintro _ σ37 ⟨_, ⟨rfl, rfl⟩, H, -⟩
      replace H : Hp S0 σ0 σ37 [Ch.ro 0 (Sl alist_0 list_0 clist_0) list_0, Ch.bx n0 b1 0 [(I f_1.1), (I f_1.2.1), (I f_1.2.2)] [] [], Ch.own n0 n0 (Sl a21 s19.1 c22) s19.1] := H
      refine w_end ?_
      refine q_then ?_
      refine cd_cond r34 rfl (fun hb38 => ?_) (fun hb38 => ?_)
      ·replace h := bif_t hb38 h
       refine rg ?_
       refine st (v := (Sl a21 s19.1 c22)) (rv_move rfl) ?_
       refine st (v := (Sl alist_0 list_0 clist_0)) (rv_move rfl) ?_
       refine st (v := (I s19.2)) (rv_move rfl) ?_
       obtain ⟨x39, hx40, h'⟩ := bind_some h
       clear h
       have h := h'; clear h'
       obtain ⟨b42, o43, hi41, -⟩ := (H.ro 0 rfl).ix hx40
       refine st (v := (pt b42 o43)) (rv_ix Try.underlying23 ti32 rfl rfl hi41) ?_
       obtain ⟨_, ⟨_, _, rfl, rfl, ⟨_, _, rfl, ⟨_, rfl, hR48⟩, rfl⟩⟩, hl44, hc45⟩ := ((H.ro 0 rfl).at hx40 hi41).cells
       obtain ⟨a46, c47, rfl⟩ := hR48.isSl
       replace H := H.add (d := Ch.ro 0 (Sl a46 x39.2.1 c47) x39.2.1) hR48 (fun _ h => h)
       clear hR48
       refine st (v := (.agg #[(I x39.1), (Sl a46 x39.2.1 c47), (I x39.2.2)])) (rv_load Try.underlying32 rfl ti32 rfl hl44 hc45) ?_
       obtain ⟨r49, hx50, h'⟩ := bind_some h
       clear h
       have h := h'; clear h'
       have hc51 := c_spec_copyItem (ax_0_1 := a46) (cx_0_1 := c47) hx50
       refine st_call (cx_call hc51 (ent_f hc51.fn rfl) hn0 (show Hp S0 σ0 _ ([Ch.ro 0 (Sl a46 x39.2.1 c47) x39.2.1] ++ [Ch.ro 0 (Sl a46 x39.2.1 c47) x39.2.1, Ch.ro 0 (Sl alist_0 list_0 clist_0) list_0, Ch.bx n0 b1 0 [(I f_1.1), (I f_1.2.1), (I f_1.2.2)] [] [], Ch.own n0 n0 (Sl a21 s19.1 c22) s19.1]) from (H.sel' [0, 0, 1, 2, 3] rfl rfl))) wn ?_
       rintro _ σ54 ⟨_, ⟨a52, c53, rfl, rfl⟩, H, -⟩
       replace H : Hp S0 σ0 σ54 [Ch.own n0 n0 (Sl a52 r49.2.1 c53) r49.2.1, Ch.ro 0 (Sl a46 x39.2.1 c47) x39.2.1, Ch.ro 0 (Sl alist_0 list_0 clist_0) list_0, Ch.bx n0 b1 0 [(I f_1.1), (I f_1.2.1), (I f_1.2.2)] [] [], Ch.own n0 n0 (Sl a21 s19.1 c22) s19.1] := H
       obtain ⟨σ55, hw56, H, -⟩ := H.pub 0 rfl (Nat.le_refl _)
       rw [← hw56]; clear hw56
       refine st_ex (ex_buildSlice (el := n0) (xs := ([(r49.1, r49.2.1, r49.2.2)] : List (Int × (List Int) × Int))) (ps := [(0, (.agg #[(I r49.1), (Sl a52 r49.2.1 c53), (I r49.2.2)]))]) (cs := [(I r49.1), (Sl a52 r49.2.1 c53), (I r49.2.2)]) H hn0 Try.underlying23 ti32 rfl rfl (by kernel_rfl) (.cons (c := [(I r49.1), (Sl a52 r49.2.1 c53), (I r49.2.2)]) ⟨[(I r49.1)], [(Sl a52 r49.2.1 c53), (I r49.2.2)], rfl, rfl, ⟨[(Sl a52 r49.2.1 c53)], [(I r49.2.2)], rfl, ⟨_, rfl, (H.ro 0 rfl)⟩, rfl⟩⟩ (.nil)) rfl) wn ?_
       rintro _ σ58 ⟨b57, rfl, H, -⟩
       obtain ⟨xs59, hx60, h'⟩ := bind_some h
       clear h
       have h := h'; clear h'
       refine st_ex (ex_append H (i := 5) rfl Try.underlying23 Try.underlying23 ti32 rfl rfl (by decide) (H.own 0 rfl).rd hx60 hn0 rfl rfl) wn ?_
       rintro _ σ63 ⟨a61, c62, rfl, H, -⟩
       refine st (v := (Sl a61 xs59 c62)) (rv_assign rfl) ?_
       refine w_end ?_
       refine q_blk ?_
       obtain rfl := Option.some.inj h
       exact ⟨rfl, _, σ63, a61, c62, fr_join ⟨rfl, rfl, rfl, rfl, trivial⟩, rfl, H.sel' [4, 5, 0] rfl rfl⟩
      ·replace h := bif_f hb38 h
       refine c_skip ?_
       refine q_blk ?_
       obtain rfl := Option.some.inj h
       exact ⟨rfl, _, σ37, a21, c22, fr_join ⟨rfl, rfl, rfl, rfl, trivial⟩, rfl, H.sel' [0, 1, 2] rfl rfl⟩
     ·clear hj
      have h := h'
      clear h' H
      rintro e a w ⟨rfl, ρ, σ64, a65, c66, rfl, rfl, H⟩
      refine q_then ?_
      refine rg ?_
      refine st (v := (I s19.2)) (rv_move rfl) ?_
      refine st (v := (I (w64 (s19.2 + 1)))) (rv_add (a := s19.2) (b := 1) rfl rfl) ?_
      refine st (v := (I (w64 (s19.2 + 1)))) (rv_assign rfl) ?_
      refine w_end ?_
      refine q_then ?_
      obtain rfl := Option.some.inj h
      exact ⟨_, rfl, _, σ64, a65, c66, fr_join ⟨rfl, rfl, rfl, rfl, trivial⟩, rfl, H.sel' [0, 1, 2] rfl rfl⟩
    ·replace h := bif_f hb23 h
     refine c_exit ?_
     refine q_then_x ?_
     refine q_then_x ?_
     refine q_blk_hit ?_
     obtain rfl := Option.some.inj h
     obtain rfl := hres _ rfl
     exact ⟨rfl, _, σ20, a21, c22, fr_join ⟨rfl, trivial⟩, rfl, H.sel' [2] rfl rfl⟩
   ·clear hj
    have h := h'
    clear h' H
    rintro e a w ⟨rfl, ρ, σ67, a68, c69, rfl, rfl, H⟩
    refine q_then ?_
    refine c_seq ?_
    refine rg ?_
    refine st (v := (Sl a68 o18 c69)) (rv_move rfl) ?_
    refine st (v := (Sl a68 o18 c69)) (rv_assign rfl) ?_
    refine w_end ?_
    refine q_then ?_
    refine c_ret ?_
    obtain rfl := Option.some.inj h
    exact fin_ret (v := (Sl a68 o18 c69)) (results_ok Try.results23 (res_tmp (v := (Sl a68 o18 c69)) rfl res_nil) rfl) ⟨a68, c69, rfl, rfl⟩ (H.sel' [0] rfl rfl)

theorem c_laws_FnFilterStoreTwice {code_0 : List UInt8} {acode_0 : Option Addr} {ccode_0 : Nat} {r : Bool} (h : M.laws_FnFilterStoreTwice code_0 = some r) :
    Cal2 Try.prog 6 [(Sl acode_0 code_0 ccode_0)] [Ch.ro 0 (Sl acode_0 code_0 ccode_0) code_0] (fun n0 v L => v = (B r) ∧ L = []) := by
 refine cal2 (n := 50) Try.func6 rfl rfl rfl rfl ?_
 intro S0 σ0 n0 hn0 H
 unfold M.laws_FnFilterStoreTwice at h
 refine c_seq ?_
 refine rg ?_
 refine st (v := (B false)) (rv_assign rfl) ?_
 refine w_end ?_
 refine q_then ?_
 refine c_seq ?_
 refine c_seq ?_
 refine rg ?_
 refine st (v := (Sl acode_0 code_0 ccode_0)) (rv_move rfl) ?_
 refine st (v := (I (code_0.length : Int))) (rv_len Try.underlying22 rfl) ?_
 refine st (v := (B (decide (1048576 < (code_0.length : Int))))) (rv_gtr (a := (code_0.length : Int)) (b := 1048576) rfl rfl) ?_
 refine w_end ?_
 refine q_then ?_
 refine cd_cond (decide (1048576 < (code_0.length : Int))) rfl (fun hb1 => ?_) (fun hb1 => ?_)
 ·replace h := bif_t hb1 h
  refine c_seq ?_
  refine rg ?_
  refine st (v := (B true)) (rv_assign rfl) ?_
  refine w_end ?_
  refine q_then ?_
  refine c_ret ?_
  refine q_then_r ?_
  obtain rfl := Option.some.inj h
  exact fin_ret (v := (B true)) (results_ok Try.results6 (res_tmp (v := (B true)) rfl res_nil) rfl) ⟨rfl, rfl⟩ (H.sel' [] rfl rfl)
 ·replace h := bif_f hb1 h
  refine c_skip ?_
  refine q_then ?_
  refine c_seq ?_
  refine rg ?_
  refine st (v := (Sl acode_0 code_0 ccode_0)) (rv_move rfl) ?_
  obtain ⟨r2, hx3, h'⟩ := bind_some h
  clear h
  have h := h'; clear h'
  have hc4 := c_spec_DrawFilterStore (acode_0 := acode_0) (ccode_0 := ccode_0) hx3
  refine st_call (cx_call hc4 (ent_f hc4.fn rfl) hn0 (show Hp S0 σ0 _ ([Ch.ro 0 (Sl acode_0 code_0 ccode_0) code_0] ++ [Ch.ro 0 (Sl acode_0 code_0 ccode_0) code_0]) from (H.sel' [0, 0] rfl rfl))) wn ?_
  rintro _ σ7 ⟨_, ⟨a5, c6, rfl, rfl⟩, H, -⟩
  replace H : Hp S0 σ0 σ7 [Ch.own n0 n0 (Sl a5 r2.1 c6) r2.1, Ch.ro 0 (Sl acode_0 code_0 ccode_0) code_0] := H
  refine st (v := (.tuple #[(Sl a5 r2.1 c6), (.agg #[(I r2.2.1), (I r2.2.2.1), (I r2.2.2.2)])])) (rv_move rfl) ?_
  refine st (v := (Sl a5 r2.1 c6)) (rv_extract rfl rfl) ?_
  refine st (v := (.agg #[(I r2.2.1), (I r2.2.2.1), (I r2.2.2.2)])) (rv_extract rfl rfl) ?_
  refine st_ex (ex_alloc (cs := [(I 0), (I 0), (I 0)]) H hn0 ti38 rfl) wn ?_
  rintro _ σ9 ⟨b8, rfl, H, -⟩
  refine st (v := (Sl a5 r2.1 c6)) (rv_assign rfl) ?_
  refine st_exS (ex_store_box (k := 0) (cs := [(I 0), (I 0), (I 0)]) (vs := [(I r2.2.1), (I r2.2.2.1), (I r2.2.2.2)]) (cs' := [(I r2.2.1), (I r2.2.2.1), (I r2.2.2.2)]) H (i := 0) rfl ti38 rfl rfl rfl rfl rfl (Nat.le_of_ble_eq_true rfl) (by simp [plain]) rfl) wn ?_
  rintro σ10 ⟨H, -⟩
  refine w_end ?_
  refine q_then ?_
  refine c_seq ?_
  refine rg ?_
  refine st (v := (Sl a5 r2.1 c6)) (rv_move rfl) ?_
  have hc11 := H.cells 0 rfl
  refine st (v := (.agg #[(I r2.2.1), (I r2.2.2.1), (I r2.2.2.2)])) (rv_load (cs := [(I r2.2.1), (I r2.2.2.1), (I r2.2.2.2)]) Try.underlying38 rfl ti38 rfl rfl hc11) ?_
  obtain ⟨r12, hx13, h'⟩ := bind_some h
  clear h
  have h := h'; clear h'
  have hc14 := c_impl_FilterStore (alist_0 := a5) (clist_0 := c6) hx13
  have hle := Nat.le_trans hn0 H.size
  refine st_call (cx_lend (Loan.lend Loan.nil) hc14 (ent_f hc14.fn rfl) (show Hp S0 σ0 _ ([Ch.own n0 n0 (Sl a5 r2.1 c6) r2.1] ++ ([] ++ [Ch.bx n0 b8 0 [(I r2.2.1), (I r2.2.2.1), (I r2.2.2.2)] [] [], Ch.ro 0 (Sl acode_0 code_0 ccode_0) code_0])) from (H.sel' [1, 0, 2] rfl rfl)) (by rintro _ _ _ ⟨_, _, rfl, rfl, _⟩; exact ⟨Ab.own (Nat.le_refl _), trivial⟩)) wn ?_
  rintro _ σ18 ⟨_, ⟨a15, c16, rfl, rfl, ht17⟩, H, -, -⟩
  replace H : Hp S0 σ0 σ18 [Ch.own σ10.size σ10.size (Sl a15 r12 c16) r12, Ch.own n0 n0 (Sl a5 r2.1 c6) r2.1, Ch.bx n0 b8 0 [(I r2.2.1), (I r2.2.2.1), (I r2.2.2.2)] [] [], Ch.ro 0 (Sl acode_0 code_0 ccode_0) code_0] := H
  replace H := H.ownLow 0 n0 n0 rfl hle hle
  clear hle
  replace H : Hp S0 σ0 σ18 [Ch.own n0 n0 (Sl a15 r12 c16) r12, Ch.own n0 n0 (Sl a5 r2.1 c6) r2.1, Ch.bx n0 b8 0 [(I r2.2.1), (I r2.2.2.1), (I r2.2.2.2)] [] [], Ch.ro 0 (Sl acode_0 code_0 ccode_0) code_0] := H
  refine st (v := (Sl a15 r12 c16)) (rv_assign rfl) ?_
  refine w_end ?_
  refine q_then ?_
  refine c_seq ?_
  refine c_seq ?_
  obtain ⟨o19, hj, h'⟩ := bind_some h
  clear h
  refine c_cut (fun e a w => e = .normal ∧ ∃ (ρ : Nat → Value) (σ : St), a = fr 50 (updL ρ [(3, (Sl a5 r2.1 c6)), (4, (pt b8 0)), (5, (Sl a15 r12 c16)), (32, (B o19))]) ∧ w = σ.w ∧ Hp S0 σ0 σ [Ch.own n0 n0 (Sl a5 r2.1 c6) r2.1, Ch.bx n0 b8 0 [(I r2.2.1), (I r2.2.2.1), (I r2.2.2.2)] [] [], Ch.own n0 n0 (Sl a15 r12 c16) r12]) ?_ ?_
  ·clear h'
   rename _ = some o19 => h
   refine rg ?_
   refine st (v := (Sl a15 r12 c16)) (rv_move rfl) ?_
   refine st (v := (Sl a5 r2.1 c6)) (rv_move rfl) ?_
   have hc20 := H.cells 2 rfl
   refine st (v := (.agg #[(I r2.2.1), (I r2.2.2.1), (I r2.2.2.2)])) (rv_load (cs := [(I r2.2.1), (I r2.2.2.1), (I r2.2.2.2)]) Try.underlying38 rfl ti38 rfl rfl hc20) ?_
   obtain ⟨r21, hx22, h'⟩ := bind_some h
   clear h
   have h := h'; clear h'
   have hc23 := c_spec_FilterStore (alist_0 := a5) (clist_0 := c6) hx22
   have hle := Nat.le_trans hn0 H.size
   refine st_call (cx_lend (Loan.lend Loan.nil) hc23 (ent_f hc23.fn rfl) (show Hp S0 σ0 _ ([Ch.own n0 n0 (Sl a5 r2.1 c6) r2.1] ++ ([] ++ [Ch.own n0 n0 (Sl a15 r12 c16) r12, Ch.bx n0 b8 0 [(I r2.2.1), (I r2.2.2.1), (I r2.2.2.2)] [] [], Ch.ro 0 (Sl acode_0 code_0 ccode_0) code_0])) from (H.sel' [1, 0, 2, 3] rfl rfl)) (by rintro _ _ _ ⟨_, _, rfl, rfl⟩; exact ⟨Ab.own (Nat.le_refl _), trivial⟩)) wn ?_
   rintro _ σ26 ⟨_, ⟨a24, c25, rfl, rfl⟩, H, -, -⟩
   replace H : Hp S0 σ0 σ26 [Ch.own σ18.size σ18.size (Sl a24 r21 c25) r21, Ch.own n0 n0 (Sl a5 r2.1 c6) r2.1, Ch.own n0 n0 (Sl a15 r12 c16) r12, Ch.bx n0 b8 0 [(I r2.2.1), (I r2.2.2.1), (I r2.2.2.2)] [] [], Ch.ro 0 (Sl acode_0 code_0 ccode_0) code_0] := H
   replace H := H.ownLow 0 n0 n0 rfl hle hle
   clear hle
   replace H : Hp S0 σ0 σ26 [Ch.own n0 n0 (Sl a24 r21 c25) r21, Ch.own n0 n0 (Sl a5 r2.1 c6) r2.1, Ch.own n0 n0 (Sl a15 r12 c16) r12, Ch.bx n0 b8 0 [(I r2.2.1), (I r2.2.2.1), (I r2.2.2.2)] [] [], Ch.ro 0 (Sl acode_0 code_0 ccode_0) code_0] := H
   obtain ⟨σ27, hw28, H, -⟩ := H.pub 0 rfl (Nat.le_refl _)
   rw [← hw28]; clear hw28
   replace H := H.roLow 0 0 rfl (Nat.zero_le _)
   obtain ⟨r29, hx30, h'⟩ := bind_some h
   clear h
   have h := h'; clear h'
   have hc31 := c_laws_equalItems (aa_0 := a15) (ca_0 := c16) (ab_1 := a24) (cb_1 := c25) hx30
   have hle := Nat.le_trans hn0 H.size
   refine st_call (cx_lend (Loan.lend (Loan.same Loan.nil)) hc31 (ent_f hc31.fn rfl) (show Hp S0 σ0 _ ([Ch.own n0 n0 (Sl a15 r12 c16) r12] ++ ([Ch.ro 0 (Sl a24 r21 c25) r21] ++ [Ch.ro 0 (Sl a24 r21 c25) r21, Ch.ro n0 (Sl a24 r21 c25) r21, Ch.own n0 n0 (Sl a5 r2.1 c6) r2.1, Ch.bx n0 b8 0 [(I r2.2.1), (I r2.2.2.1), (I r2.2.2.2)] [] [], Ch.ro 0 (Sl acode_0 code_0 ccode_0) code_0])) from (H.sel' [3, 0, 0, 1, 2, 4, 5] rfl rfl)) (by rintro _ _ _ ⟨rfl, rfl⟩; exact trivial)) wn ?_
   rintro _ σ32 ⟨_, ⟨rfl, rfl⟩, H, -, -⟩
   replace H : Hp S0 σ0 σ32 [Ch.own n0 n0 (Sl a15 r12 c16) r12, Ch.ro 0 (Sl a24 r21 c25) r21, Ch.ro n0 (Sl a24 r21 c25) r21, Ch.own n0 n0 (Sl a5 r2.1 c6) r2.1, Ch.bx n0 b8 0 [(I r2.2.1), (I r2.2.2.1), (I r2.2.2.2)] [] [], Ch.ro 0 (Sl acode_0 code_0 ccode_0) code_0] := H
   clear hle
   replace H : Hp S0 σ0 σ32 [Ch.own n0 n0 (Sl a15 r12 c16) r12, Ch.ro 0 (Sl a24 r21 c25) r21, Ch.ro n0 (Sl a24 r21 c25) r21, Ch.own n0 n0 (Sl a5 r2.1 c6) r2.1, Ch.bx n0 b8 0 [(I r2.2.1), (I r2.2.2.1), (I r2.2.2.2)] [] [], Ch.ro 0 (Sl acode_0 code_0 ccode_0) code_0] := H
   refine st (v := (B (!r29))) (rv_not rfl) ?_
   refine st (v := (B (!r29))) (rv_move rfl) ?_
   rcases Bool.eq_false_or_eq_true (!r29) with hb33 | hb33
   ·replace h := bif_t hb33 h
    refine st_skip (congrArg some hb33) ?_
    refine st_skip (congrArg some hb33) ?_
    refine st_skip (congrArg some hb33) ?_
    refine st (v := (B true)) (rv_pick_t (congrArg B hb33) rfl) ?_
    refine st (v := (B true)) (rv_move rfl) ?_
    refine st_skip rfl ?_
    refine st_skip rfl ?_
    refine st_skip rfl ?_
    refine st (v := (B true)) (rv_pick_t rfl rfl) ?_
    refine w_end ?_
    obtain rfl := Option.some.inj h
    exact ⟨rfl, _, σ32, fr_join ⟨rfl, rfl, rfl, rfl, trivial⟩, rfl, H.sel' [3, 4, 0] rfl rfl⟩
   ·replace h := bif_f hb33 h
    refine st_g (v := (Sl a5 r2.1 c6)) (congrArg some hb33) (rv_move rfl) ?_
    obtain ⟨r34, hx35, h'⟩ := bind_some h
    clear h
    have h := h'; clear h'
    have hc36 := c_impl_ValidStore (alist_0 := a5) (clist_0 := c6) hx35
    have hle := Nat.le_trans hn0 H.size
    refine st_call (cx_lend (Loan.lend Loan.nil) hc36 (ent_f hc36.fn rfl) (show Hp S0 σ0 _ ([Ch.own n0 n0 (Sl a5 r2.1 c6) r2.1] ++ ([] ++ [Ch.own n0 n0 (Sl a15 r12 c16) r12, Ch.ro 0 (Sl a24 r21 c25) r21, Ch.ro n0 (Sl a24 r21 c25) r21, Ch.bx n0 b8 0 [(I r2.2.1), (I r2.2.2.1), (I r2.2.2.2)] [] [], Ch.ro 0 (Sl acode_0 code_0 ccode_0) code_0])) from (H.sel' [3, 0, 1, 2, 4, 5] rfl rfl)) (by rintro _ _ _ ⟨rfl, rfl⟩; exact trivial)) (wanted_yes rfl (by exact (congrArg some hb33))) ?_
    rintro _ σ37 ⟨_, ⟨rfl, rfl⟩, H, -, -⟩
    replace H : Hp S0 σ0 σ37 [Ch.own n0 n0 (Sl a5 r2.1 c6) r2.1, Ch.own n0 n0 (Sl a15 r12 c16) r12, Ch.ro 0 (Sl a24 r21 c25) r21, Ch.ro n0 (Sl a24 r21 c25) r21, Ch.bx n0 b8 0 [(I r2.2.1), (I r2.2.2.1), (I r2.2.2.2)] [] [], Ch.ro 0 (Sl acode_0 code_0 ccode_0) code_0] := H
    clear hle
    replace H : Hp S0 σ0 σ37 [Ch.own n0 n0 (Sl a5 r2.1 c6) r2.1, Ch.own n0 n0 (Sl a15 r12 c16) r12, Ch.ro 0 (Sl a24 r21 c25) r21, Ch.ro n0 (Sl a24 r21 c25) r21, Ch.bx n0 b8 0 [(I r2.2.1), (I r2.2.2.1), (I r2.2.2.2)] [] [], Ch.ro 0 (Sl acode_0 code_0 ccode_0) code_0] := H
    refine st_g (v := (B (!r34))) (congrArg some hb33) (rv_not rfl) ?_
    refine st (v := (B (!r34))) (rv_pick_f (congrArg B hb33) rfl) ?_
    refine st (v := (B (!r34))) (rv_move rfl) ?_
    rcases Bool.eq_false_or_eq_true (!r34) with hb38 | hb38
    ·replace h := bif_t hb38 h
     refine st_skip (congrArg some hb38) ?_
     refine st_skip (congrArg some hb38) ?_
     refine st_skip (congrArg some hb38) ?_
     refine st (v := (B true)) (rv_pick_t (congrArg B hb38) rfl) ?_
     refine w_end ?_
     obtain rfl := Option.some.inj h
     exact ⟨rfl, _, σ37, fr_join ⟨rfl, rfl, rfl, rfl, trivial⟩, rfl, H.sel' [0, 4, 1] rfl rfl⟩
    ·replace h := bif_f hb38 h
     have hc39 := H.cells 4 rfl
     refine st_g (v := (.agg #[(I r2.2.1), (I r2.2.2.1), (I r2.2.2.2)])) (congrArg some hb38) (rv_load (cs := [(I r2.2.1), (I r2.2.2.1), (I r2.2.2.2)]) Try.underlying38 rfl ti38 rfl rfl hc39) ?_
     obtain ⟨r40, hx41, h'⟩ := bind_some h
     clear h
     have h := h'; clear h'
     have hc42 := c_impl_ValidFilter hx41
     refine st_call (cx_call hc42 (ent_f hc42.fn rfl) hn0 (show Hp S0 σ0 _ ([] ++ [Ch.own n0 n0 (Sl a5 r2.1 c6) r2.1, Ch.own n0 n0 (Sl a15 r12 c16) r12, Ch.ro 0 (Sl a24 r21 c25) r21, Ch.ro n0 (Sl a24 r21 c25) r21, Ch.bx n0 b8 0 [(I r2.2.1), (I r2.2.2.1), (I r2.2.2.2)] [] [], Ch.ro 0 (Sl acode_0 code_0 ccode_0) code_0]) from (H.sel' [0, 1, 2, 3, 4, 5] rfl rfl))) (wanted_yes rfl (by exact (congrArg some hb38))) ?_
     rintro _ σ43 ⟨_, ⟨rfl, rfl⟩, H, -⟩
     replace H : Hp S0 σ0 σ43 [Ch.own n0 n0 (Sl a5 r2.1 c6) r2.1, Ch.own n0 n0 (Sl a15 r12 c16) r12, Ch.ro 0 (Sl a24 r21 c25) r21, Ch.ro n0 (Sl a24 r21 c25) r21, Ch.bx n0 b8 0 [(I r2.2.1), (I r2.2.2.1), (I r2.2.2.2)] [] [], Ch.ro 0 (Sl acode_0 code_0 ccode_0) code_0] := H
     refine st_g (v := (B (!r40))) (congrArg some hb38) (rv_not rfl) ?_
     refine st (v := (B (!r40))) (rv_pick_f (congrArg B hb38) rfl) ?_
     refine w_end ?_
     obtain rfl := Option.some.inj h
     exact ⟨rfl, _, σ43, fr_join ⟨rfl, rfl, rfl, rfl, trivial⟩, rfl, H.sel' [0, 4, 1] rfl rfl⟩
  ·clear hj
   have h := h'
   clear h' H
   rintro e a w ⟨rfl, ρ, σ44, rfl, rfl, H⟩
   refine q_then ?_
   refine cd_cond o19 rfl (fun hb45 => ?_) (fun hb45 => ?_)
   ·replace h := bif_t hb45 h
    refine c_seq ?_
    refine rg ?_
    refine st (v := (Sl a15 r12 c16)) (rv_move rfl) ?_
    refine st (v := (Sl a5 r2.1 c6)) (rv_move rfl) ?_
    have hc46 := H.cells 1 rfl
    refine st (v := (.agg #[(I r2.2.1), (I r2.2.2.1), (I r2.2.2.2)])) (rv_load (cs := [(I r2.2.1), (I r2.2.2.1), (I r2.2.2.2)]) Try.underlying38 rfl ti38 rfl rfl hc46) ?_
    obtain ⟨σ47, hw48, H, -⟩ := H.pub 0 rfl (Nat.le_refl _)
    rw [← hw48]; clear hw48
    replace H := H.roLow 0 0 rfl (Nat.zero_le _)
    obtain ⟨r49, hx50, h'⟩ := bind_some h
    clear h
    have h := h'; clear h'
    have hc51 := c_spec_FilterStore (alist_0 := a5) (clist_0 := c6) hx50
    refine st_call (cx_call hc51 (ent_f hc51.fn rfl) hn0 (show Hp S0 σ0 _ ([Ch.ro 0 (Sl a5 r2.1 c6) r2.1] ++ [Ch.ro 0 (Sl a5 r2.1 c6) r2.1, Ch.ro n0 (Sl a5 r2.1 c6) r2.1, Ch.bx n0 b8 0 [(I r2.2.1), (I r2.2.2.1), (I r2.2.2.2)] [] [], Ch.own n0 n0 (Sl a15 r12 c16) r12]) from (H.sel' [0, 0, 1, 2, 3] rfl rfl))) wn ?_
    rintro _ σ54 ⟨_, ⟨a52, c53, rfl, rfl⟩, H, -⟩
    replace H : Hp S0 σ0 σ54 [Ch.own n0 n0 (Sl a52 r49 c53) r49, Ch.ro 0 (Sl a5 r2.1 c6) r2.1, Ch.ro n0 (Sl a5 r2.1 c6) r2.1, Ch.bx n0 b8 0 [(I r2.2.1), (I r2.2.2.1), (I r2.2.2.2)] [] [], Ch.own n0 n0 (Sl a15 r12 c16) r12] := H
    obtain ⟨σ55, hw56, H, -⟩ := H.pub 4 rfl (Nat.le_refl _)
    rw [← hw56]; clear hw56
    obtain ⟨σ57, hw58, H, -⟩ := H.pub 1 rfl (Nat.le_refl _)
    rw [← hw58]; clear hw58
    replace H := H.roLow 1 0 rfl (Nat.zero_le _)
    replace H := H.roLow 1 0 rfl (Nat.zero_le _)
    obtain ⟨r59, hx60, h'⟩ := bind_some h
    clear h
    have h := h'; clear h'
    have hc61 := c_laws_equalItems (aa_0 := a15) (ca_0 := c16) (ab_1 := a52) (cb_1 := c53) hx60
    refine st_call (cx_call hc61 (ent_f hc61.fn rfl) hn0 (show Hp S0 σ0 _ ([Ch.ro 0 (Sl a15 r12 c16) r12, Ch.ro 0 (Sl a52 r49 c53) r49] ++ [Ch.ro 0 (Sl a52 r49 c53) r49, Ch.ro 0 (Sl a15 r12 c16) r12, Ch.ro n0 (Sl a52 r49 c53) r49, Ch.ro n0 (Sl a15 r12 c16) r12, Ch.ro 0 (Sl a5 r2.1 c6) r2.1, Ch.ro n0 (Sl a5 r2.1 c6) r2.1, Ch.bx n0 b8 0 [(I r2.2.1), (I r2.2.2.1), (I r2.2.2.2)] [] []]) from (H.sel' [1, 0, 0, 1, 2, 3, 4, 5, 6] rfl rfl))) wn ?_
    rintro _ σ62 ⟨_, ⟨rfl, rfl⟩, H, -⟩
    replace H : Hp S0 σ0 σ62 [Ch.ro 0 (Sl a52 r49 c53) r49, Ch.ro 0 (Sl a15 r12 c16) r12, Ch.ro n0 (Sl a52 r49 c53) r49, Ch.ro n0 (Sl a15 r12 c16) r12, Ch.ro 0 (Sl a5 r2.1 c6) r2.1, Ch.ro n0 (Sl a5 r2.1 c6) r2.1, Ch.bx n0 b8 0 [(I r2.2.1), (I r2.2.2.1), (I r2.2.2.2)] [] []] := H
    refine st (v := (B r59)) (rv_assign rfl) ?_
    refine w_end ?_
    refine q_then ?_
    refine c_ret ?_
    refine q_then_r ?_
    obtain rfl := Option.some.inj h
    exact fin_ret (v := (B r59)) (results_ok Try.results6 (res_tmp (v := (B r59)) rfl res_nil) rfl) ⟨rfl, rfl⟩ (H.sel' [] rfl rfl)
   ·replace h := bif_f hb45 h
    refine c_skip ?_
    refine q_then ?_
    refine c_seq ?_
    refine rg ?_
    refine st (v := (Sl a15 r12 c16)) (rv_move rfl) ?_
    have hc63 := H.cells 1 rfl
    refine st (v := (.agg #[(I r2.2.1), (I r2.2.2.1), (I r2.2.2.2)])) (rv_load (cs := [(I r2.2.1), (I r2.2.2.1), (I r2.2.2.2)]) Try.underlying38 rfl ti38 rfl rfl hc63) ?_
    obtain ⟨r64, hx65, h'⟩ := bind_some h
    clear h
    have h := h'; clear h'
    have hc66 := c_impl_FilterStore (alist_0 := a15) (clist_0 := c16) hx65
    have hle := Nat.le_trans hn0 H.size
    refine st_call (cx_lend (Loan.lend Loan.nil) hc66 (ent_f hc66.fn rfl) (show Hp S0 σ0 _ ([Ch.own n0 n0 (Sl a15 r12 c16) r12] ++ ([] ++ [Ch.own n0 n0 (Sl a5 r2.1 c6) r2.1, Ch.bx n0 b8 0 [(I r2.2.1), (I r2.2.2.1), (I r2.2.2.2)] [] []])) from (H.sel' [2, 0, 1] rfl rfl)) (by rintro _ _ _ ⟨_, _, rfl, rfl, _⟩; exact ⟨Ab.own (Nat.le_refl _), trivial⟩)) wn ?_
    rintro _ σ70 ⟨_, ⟨a67, c68, rfl, rfl, ht69⟩, H, -, -⟩
    replace H : Hp S0 σ0 σ70 [Ch.own σ44.size σ44.size (Sl a67 r64 c68) r64, Ch.own n0 n0 (Sl a15 r12 c16) r12, Ch.own n0 n0 (Sl a5 r2.1 c6) r2.1, Ch.bx n0 b8 0 [(I r2.2.1), (I r2.2.2.1), (I r2.2.2.2)] [] []] := H
    replace H := H.ownLow 0 n0 n0 rfl hle hle
    clear hle
    replace H : Hp S0 σ0 σ70 [Ch.own n0 n0 (Sl a67 r64 c68) r64, Ch.own n0 n0 (Sl a15 r12 c16) r12, Ch.own n0 n0 (Sl a5 r2.1 c6) r2.1, Ch.bx n0 b8 0 [(I r2.2.1), (I r2.2.2.1), (I r2.2.2.2)] [] []] := H
    refine st (v := (Sl a15 r12 c16)) (rv_move rfl) ?_
    obtain ⟨σ71, hw72, H, -⟩ := H.pub 0 rfl (Nat.le_refl _)
    rw [← hw72]; clear hw72
    obtain ⟨σ73, hw74, H, -⟩ := H.pub 1 rfl (Nat.le_refl _)
    rw [← hw74]; clear hw74
    replace H := H.roLow 1 0 rfl (Nat.zero_le _)
    replace H := H.roLow 1 0 rfl (Nat.zero_le _)
    obtain ⟨r75, hx76, h'⟩ := bind_some h
    clear h
    have h := h'; clear h'
    have hc77 := c_laws_equalItems (aa_0 := a67) (ca_0 := c68) (ab_1 := a15) (cb_1 := c16) hx76
    refine st_call (cx_call hc77 (ent_f hc77.fn rfl) hn0 (show Hp S0 σ0 _ ([Ch.ro 0 (Sl a67 r64 c68) r64, Ch.ro 0 (Sl a15 r12 c16) r12] ++ [Ch.ro 0 (Sl a15 r12 c16) r12, Ch.ro 0 (Sl a67 r64 c68) r64, Ch.ro n0 (Sl a15 r12 c16) r12, Ch.ro n0 (Sl a67 r64 c68) r64, Ch.own n0 n0 (Sl a5 r2.1 c6) r2.1, Ch.bx n0 b8 0 [(I r2.2.1), (I r2.2.2.1), (I r2.2.2.2)] [] []]) from (H.sel' [1, 0, 0, 1, 2, 3, 4, 5] rfl rfl))) wn ?_
    rintro _ σ78 ⟨_, ⟨rfl, rfl⟩, H, -⟩
    replace H : Hp S0 σ0 σ78 [Ch.ro 0 (Sl a15 r12 c16) r12, Ch.ro 0 (Sl a67 r64 c68) r64, Ch.ro n0 (Sl a15 r12 c16) r12, Ch.ro n0 (Sl a67 r64 c68) r64, Ch.own n0 n0 (Sl a5 r2.1 c6) r2.1, Ch.bx n0 b8 0 [(I r2.2.1), (I r2.2.2.1), (I r2.2.2.2)] [] []] := H
    refine st (v := (B r75)) (rv_move rfl) ?_
    rcases Bool.eq_false_or_eq_true r75 with hb79 | hb79
    ·replace h := bif_t hb79 h
     refine st_g (v := (Sl a5 r2.1 c6)) (congrArg some hb79) (rv_move rfl) ?_
     refine st_g (v := (.agg #[(I 0), (I 0), (I 0)])) (congrArg some hb79) (rv_build (ps := []) Try.underlying38 ti38 (bp38 Try.underlying38) rfl (by kernel_rfl)) ?_
     obtain ⟨r80, hx81, h'⟩ := bind_some h
     clear h
     have h := h'; clear h'
     have hc82 := c_impl_FilterStore (alist_0 := a5) (clist_0 := c6) hx81
     have hle := Nat.le_trans hn0 H.size
     refine st_call (cx_lend (Loan.lend Loan.nil) hc82 (ent_f hc82.fn rfl) (show Hp S0 σ0 _ ([Ch.own n0 n0 (Sl a5 r2.1 c6) r2.1] ++ ([] ++ [Ch.ro 0 (Sl a15 r12 c16) r12, Ch.ro 0 (Sl a67 r64 c68) r64, Ch.ro n0 (Sl a15 r12 c16) r12, Ch.ro n0 (Sl a67 r64 c68) r64, Ch.bx n0 b8 0 [(I r2.2.1), (I r2.2.2.1), (I r2.2.2.2)] [] []])) from (H.sel' [4, 0, 1, 2, 3, 5] rfl rfl)) (by rintro _ _ _ ⟨_, _, rfl, rfl, _⟩; exact ⟨Ab.own (Nat.le_refl _), trivial⟩)) (wanted_yes rfl (by exact (congrArg some hb79))) ?_
     rintro _ σ86 ⟨_, ⟨a83, c84, rfl, rfl, ht85⟩, H, -, -⟩
     replace H : Hp S0 σ0 σ86 [Ch.own σ78.size σ78.size (Sl a83 r80 c84) r80, Ch.own n0 n0 (Sl a5 r2.1 c6) r2.1, Ch.ro 0 (Sl a15 r12 c16) r12, Ch.ro 0 (Sl a67 r64 c68) r64, Ch.ro n0 (Sl a15 r12 c16) r12, Ch.ro n0 (Sl a67 r64 c68) r64, Ch.bx n0 b8 0 [(I r2.2.1), (I r2.2.2.1), (I r2.2.2.2)] [] []] := H
     replace H := H.ownLow 0 n0 n0 rfl hle hle
     clear hle
     replace H : Hp S0 σ0 σ86 [Ch.own n0 n0 (Sl a83 r80 c84) r80, Ch.own n0 n0 (Sl a5 r2.1 c6) r2.1, Ch.ro 0 (Sl a15 r12 c16) r12, Ch.ro 0 (Sl a67 r64 c68) r64, Ch.ro n0 (Sl a15 r12 c16) r12, Ch.ro n0 (Sl a67 r64 c68) r64, Ch.bx n0 b8 0 [(I r2.2.1), (I r2.2.2.1), (I r2.2.2.2)] [] []] := H
     refine st_g (v := (Sl a5 r2.1 c6)) (congrArg some hb79) (rv_move rfl) ?_
     obtain ⟨σ87, hw88, H, -⟩ := H.pub 0 rfl (Nat.le_refl _)
     rw [← hw88]; clear hw88
     obtain ⟨σ89, hw90, H, -⟩ := H.pub 1 rfl (Nat.le_refl _)
     rw [← hw90]; clear hw90
     replace H := H.roLow 1 0 rfl (Nat.zero_le _)
     replace H := H.roLow 1 0 rfl (Nat.zero_le _)
     obtain ⟨r91, hx92, h'⟩ := bind_some h
     clear h
     have h := h'; clear h'
     have hc93 := c_laws_equalItems (aa_0 := a83) (ca_0 := c84) (ab_1 := a5) (cb_1 := c6) hx92
     refine st_call (cx_call hc93 (ent_f hc93.fn rfl) hn0 (show Hp S0 σ0 _ ([Ch.ro 0 (Sl a83 r80 c84) r80, Ch.ro 0 (Sl a5 r2.1 c6) r2.1] ++ [Ch.ro 0 (Sl a5 r2.1 c6) r2.1, Ch.ro 0 (Sl a83 r80 c84) r80, Ch.ro n0 (Sl a5 r2.1 c6) r2.1, Ch.ro n0 (Sl a83 r80 c84) r80, Ch.ro 0 (Sl a15 r12 c16) r12, Ch.ro 0 (Sl a67 r64 c68) r64, Ch.ro n0 (Sl a15 r12 c16) r12, Ch.ro n0 (Sl a67 r64 c68) r64, Ch.bx n0 b8 0 [(I r2.2.1), (I r2.2.2.1), (I r2.2.2.2)] [] []]) from (H.sel' [1, 0, 0, 1, 2, 3, 4, 5, 6, 7, 8] rfl rfl))) (wanted_yes rfl (by exact (congrArg some hb79))) ?_
     rintro _ σ94 ⟨_, ⟨rfl, rfl⟩, H, -⟩
     replace H : Hp S0 σ0 σ94 [Ch.ro 0 (Sl a5 r2.1 c6) r2.1, Ch.ro 0 (Sl a83 r80 c84) r80, Ch.ro n0 (Sl a5 r2.1 c6) r2.1, Ch.ro n0 (Sl a83 r80 c84) r80, Ch.ro 0 (Sl a15 r12 c16) r12, Ch.ro 0 (Sl a67 r64 c68) r64, Ch.ro n0 (Sl a15 r12 c16) r12, Ch.ro n0 (Sl a67 r64 c68) r64, Ch.bx n0 b8 0 [(I r2.2.1), (I r2.2.2.1), (I r2.2.2.2)] [] []] := H
     replace H : Hp S0 σ0 σ94 [] := H.sel' [] rfl rfl
     refine st (v := (B r91)) (rv_pick_t (congrArg B hb79) rfl) ?_
     refine st (v := (B r91)) (rv_assign rfl) ?_
     refine w_end ?_
     refine q_then ?_
     refine c_ret ?_
     obtain rfl := Option.some.inj h
     exact fin_ret (v := (B r91)) (results_ok Try.results6 (res_tmp (v := (B r91)) rfl res_nil) rfl) ⟨rfl, rfl⟩ (H.sel' [] rfl rfl)
    ·replace h := bif_f hb79 h
     refine st_skip (congrArg some hb79) ?_
     refine st_skip (congrArg some hb79) ?_
     refine st_skip (congrArg some hb79) ?_
     refine st_skip (congrArg some hb79) ?_
     refine st_skip (congrArg some hb79) ?_
     refine st (v := (B false)) (rv_pick_f (congrArg B hb79) rfl) ?_
     refine st (v := (B false)) (rv_assign rfl) ?_
     refine w_end ?_
     refine q_then ?_
     refine c_ret ?_
     obtain rfl := Option.some.inj h
     exact fin_ret (v := (B false)) (results_ok Try.results6 (res_tmp (v := (B false)) rfl res_nil) rfl) ⟨rfl, rfl⟩ (H.sel' [] rfl rfl)

end Go.Vs
