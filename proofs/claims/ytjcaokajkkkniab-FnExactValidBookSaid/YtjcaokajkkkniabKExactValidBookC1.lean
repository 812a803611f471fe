/- The functions compute what their models say. -/
import Derived.Test.YtjcaokajkkkniabKExactValidBookM
import Derived.Test.YtjcaokajkkkniabExactValidBookEng1
import Derived.Test.YtjcaokajkkkniabProg
set_option linter.unusedVariables false
set_option linter.unusedSimpArgs false
set_option maxRecDepth 20000
namespace Go.Vs
open Go Go.Proofs
attribute [local irreducible] Code.wp Code.wpIn wpList wpListIn wpQuiet Calls CallsIn

theorem ti3 : TI Try.prog 3 (.int .i64 0) 1 8 := TI.mk' (by kernel_rfl)
theorem ti27 : TI Try.prog 27 (.slice none 0 0) 1 24 := TI.mk' (by kernel_rfl)
theorem ti29 : TI Try.prog 29 (.slice none 0 0) 1 24 := TI.mk' (by kernel_rfl)
theorem ti39 : TI Try.prog 39 (.agg #[(.slice none 0 0), (.slice none 0 0)]) 2 48 := TI.mk' (by kernel_rfl)
theorem ti49 : TI Try.prog 49 (.agg #[(.slice none 0 0), (.slice none 0 0)]) 2 48 := TI.mk' (by kernel_rfl)

theorem c_laws_szIntS {a_0 : List Int} {left_1 : Int} {aa_0 : Option Addr} {ca_0 : Nat} {r : Int} (h : M.laws_szIntS a_0 left_1 = some r) :
    Cal2 Try.prog 96 [(Sl aa_0 a_0 ca_0), (I left_1)] [Ch.ro 0 (Sl aa_0 a_0 ca_0) a_0] (fun n0 v L => v = (I r) ∧ L = []) := by
 refine cal2 (n := 12) Try.func96 rfl rfl rfl rfl ?_
 intro S0 σ0 n0 hn0 H
 unfold M.laws_szIntS at h
 refine c_seq ?_
 refine rg ?_
 refine st (v := (I 0)) (rv_assign rfl) ?_
 refine w_end ?_
 refine q_then ?_
 refine c_seq ?_
 refine rg ?_
 refine st (v := (I left_1)) (rv_move rfl) ?_
 refine st (v := (Sl aa_0 a_0 ca_0)) (rv_move rfl) ?_
 refine st (v := (I (a_0.length : Int))) (rv_len Try.underlying29 rfl) ?_
 refine st (v := (I (w64 (left_1 - (a_0.length : Int))))) (rv_sub (a := left_1) (b := (a_0.length : Int)) rfl rfl) ?_
 refine st (v := (I (w64 (left_1 - (a_0.length : Int))))) (rv_assign rfl) ?_
 refine w_end ?_
 refine q_then ?_
 refine c_seq ?_
 refine c_seq ?_
 refine rg ?_
 refine st (v := (I (w64 (left_1 - (a_0.length : Int))))) (rv_move rfl) ?_
 refine st (v := (B (decide ((w64 (left_1 - (a_0.length : Int))) < 0)))) (rv_lss (a := (w64 (left_1 - (a_0.length : Int)))) (b := 0) rfl rfl) ?_
 refine w_end ?_
 refine q_then ?_
 refine cd_cond (decide ((w64 (left_1 - (a_0.length : Int))) < 0)) rfl (fun hb1 => ?_) (fun hb1 => ?_)
 ·replace h := bif_t hb1 h
  refine c_seq ?_
  refine rg ?_
  refine st (v := (I (-1))) (rv_assign rfl) ?_
  refine w_end ?_
  refine q_then ?_
  refine c_ret ?_
  refine q_then_r ?_
  obtain rfl := Option.some.inj h
  exact fin_ret (v := (I (-1))) (results_ok Try.results96 (res_tmp (v := (I (-1))) rfl res_nil) rfl) ⟨rfl, rfl⟩ (H.sel' [] rfl rfl)
 ·replace h := bif_f hb1 h
  refine c_skip ?_
  refine q_then ?_
  refine c_seq ?_
  refine rg ?_
  refine st (v := (I (w64 (left_1 - (a_0.length : Int))))) (rv_move rfl) ?_
  refine st (v := (I (w64 (left_1 - (a_0.length : Int))))) (rv_assign rfl) ?_
  refine w_end ?_
  refine q_then ?_
  refine c_ret ?_
  obtain rfl := Option.some.inj h
  exact fin_ret (v := (I (w64 (left_1 - (a_0.length : Int))))) (results_ok Try.results96 (res_tmp (v := (I (w64 (left_1 - (a_0.length : Int))))) rfl res_nil) rfl) ⟨rfl, rfl⟩ (H.sel' [] rfl rfl)

theorem c_laws_szIntSS {a_0 : List (List Int)} {left_1 : Int} {aa_0 : Option Addr} {ca_0 : Nat} {r : Int} (h : M.laws_szIntSS a_0 left_1 = some r) :
    Cal2 Try.prog 69 [(Sl aa_0 a_0 ca_0), (I left_1)] [Ch.ro 0 (Sl aa_0 a_0 ca_0) a_0] (fun n0 v L => v = (I r) ∧ L = []) := by
 refine cal2 (n := 27) Try.func69 rfl rfl rfl rfl ?_
 intro S0 σ0 n0 hn0 H
 unfold M.laws_szIntSS at h
 refine c_seq ?_
 refine rg ?_
 refine st (v := (I 0)) (rv_assign rfl) ?_
 refine w_end ?_
 refine q_then ?_
 refine c_seq ?_
 refine rg ?_
 refine st (v := (I left_1)) (rv_move rfl) ?_
 refine st (v := (Sl aa_0 a_0 ca_0)) (rv_move rfl) ?_
 refine st (v := (I (a_0.length : Int))) (rv_len Try.underlying27 rfl) ?_
 refine st (v := (I (w64 (left_1 - (a_0.length : Int))))) (rv_sub (a := left_1) (b := (a_0.length : Int)) rfl rfl) ?_
 refine st (v := (I (w64 (left_1 - (a_0.length : Int))))) (rv_assign rfl) ?_
 refine w_end ?_
 refine q_then ?_
 refine c_seq ?_
 refine c_seq ?_
 refine rg ?_
 refine st (v := (I (w64 (left_1 - (a_0.length : Int))))) (rv_move rfl) ?_
 refine st (v := (B (decide ((w64 (left_1 - (a_0.length : Int))) < 0)))) (rv_lss (a := (w64 (left_1 - (a_0.length : Int)))) (b := 0) rfl rfl) ?_
 refine w_end ?_
 refine q_then ?_
 refine cd_cond (decide ((w64 (left_1 - (a_0.length : Int))) < 0)) rfl (fun hb1 => ?_) (fun hb1 => ?_)
 ·replace h := bif_t hb1 h
  refine c_seq ?_
  refine rg ?_
  refine st (v := (I (-1))) (rv_assign rfl) ?_
  refine w_end ?_
  refine q_then ?_
  refine c_ret ?_
  refine q_then_r ?_
  obtain rfl := Option.some.inj h
  exact fin_ret (v := (I (-1))) (results_ok Try.results69 (res_tmp (v := (I (-1))) rfl res_nil) rfl) ⟨rfl, rfl⟩ (H.sel' [] rfl rfl)
 ·replace h := bif_f hb1 h
  refine c_skip ?_
  refine q_then ?_
  refine c_seq ?_
  refine c_seq ?_
  refine rg ?_
  refine st (v := (I 0)) (rv_assign rfl) ?_
  refine w_end ?_
  refine q_then ?_
  obtain ⟨o2, hj, h'⟩ := bind_some h
  clear h
  refine c_cut (fun e a w => (∃ t, o2 = (.inl t) ∧ e = .normal ∧ ∃ (ρ : Nat → Value) (σ : St), a = fr 27 (updL ρ [(1, (I t))]) ∧ w = σ.w ∧ Hp S0 σ0 σ []) ∨ (∃ t, o2 = (.inr t) ∧ e = .ret ∧ ∃ (ρ : Nat → Value) (σ : St), a = fr 27 (updL ρ [(4, (I t))]) ∧ w = σ.w ∧ Hp S0 σ0 σ [])) ?_ ?_
  ·clear h'
   rename _ = some o2 => h
   refine c_blk ?_
   refine wp_loopM _ h (fun s3 a w => ∃ (ρ : Nat → Value) (σ : St), a = fr 27 (updL ρ [(0, (Sl aa_0 a_0 ca_0)), (1, (I s3.1)), (5, (I s3.2))]) ∧ w = σ.w ∧ Hp S0 σ0 σ [Ch.ro 0 (Sl aa_0 a_0 ca_0) a_0]) ⟨_, σ0, fr_join ⟨rfl, rfl, rfl, trivial⟩, rfl, H.sel' [0] rfl rfl⟩ ?_
   clear h H
   rintro s3 a w o ⟨ρ, σ4, rfl, rfl, H⟩ h hres
   refine c_seq ?_
   refine c_seq ?_
   refine rg ?_
   refine st (v := (I s3.2)) (rv_move rfl) ?_
   refine st (v := (Sl aa_0 a_0 ca_0)) (rv_move rfl) ?_
   refine st (v := (I (a_0.length : Int))) (rv_len Try.underlying27 rfl) ?_
   refine st (v := (B (decide (s3.2 < (a_0.length : Int))))) (rv_lss (a := s3.2) (b := (a_0.length : Int)) rfl rfl) ?_
   refine w_end ?_
   refine q_then ?_
   refine cd_cond (decide (s3.2 < (a_0.length : Int))) rfl (fun hb5 => ?_) (fun hb5 => ?_)
   ·replace h := bif_t hb5 h
    refine c_skip ?_
    refine q_then ?_
    refine c_seq ?_
    refine c_blk ?_
    refine c_seq ?_
    refine rg ?_
    refine st (v := (Sl aa_0 a_0 ca_0)) (rv_move rfl) ?_
    refine st (v := (I s3.2)) (rv_move rfl) ?_
    obtain ⟨x6, hx7, h'⟩ := bind_some h
    clear h
    have h := h'; clear h'
    obtain ⟨b9, o10, hi8, -⟩ := (H.ro 0 rfl).ix hx7
    refine st (v := (pt b9 o10)) (rv_ix Try.underlying27 ti29 rfl rfl hi8) ?_
    obtain ⟨v14, hc15, hR13⟩ := ((H.ro 0 rfl).at hx7 hi8).slice
    obtain ⟨a11, c12, rfl⟩ := hR13.isSl
    replace H := H.add (d := Ch.ro 0 (Sl a11 x6 c12) x6) hR13 (fun _ h => h)
    clear hR13
    refine st (v := (Sl a11 x6 c12)) (rv_load1 Try.underlying29 rfl rfl hc15) ?_
    refine st (v := (I s3.1)) (rv_move rfl) ?_
    obtain ⟨r16, hx17, h'⟩ := bind_some h
    clear h
    have h := h'; clear h'
    have hc18 := c_laws_szIntS (aa_0 := a11) (ca_0 := c12) hx17
    refine st_call (cx_call hc18 (ent_f hc18.fn rfl) hn0 (show Hp S0 σ0 _ ([Ch.ro 0 (Sl a11 x6 c12) x6] ++ [Ch.ro 0 (Sl a11 x6 c12) x6, Ch.ro 0 (Sl aa_0 a_0 ca_0) a_0]) from (H.sel' [0, 0, 1] rfl rfl))) wn ?_
    rintro _ σ19 ⟨_, ⟨rfl, rfl⟩, H, -⟩
    replace H : Hp S0 σ0 σ19 [Ch.ro 0 (Sl a11 x6 c12) x6, Ch.ro 0 (Sl aa_0 a_0 ca_0) a_0] := H
    refine st (v := (I r16)) (rv_assign rfl) ?_
    refine w_end ?_
    refine q_then ?_
    refine c_seq ?_
    refine rg ?_
    refine st (v := (I r16)) (rv_move rfl) ?_
    refine st (v := (B (decide (r16 < 0)))) (rv_lss (a := r16) (b := 0) rfl rfl) ?_
    refine w_end ?_
    refine q_then ?_
    refine cd_cond (decide (r16 < 0)) rfl (fun hb20 => ?_) (fun hb20 => ?_)
    ·replace h := bif_t hb20 h
     refine c_seq ?_
     refine rg ?_
     refine st (v := (I (-1))) (rv_assign rfl) ?_
     refine w_end ?_
     refine q_then ?_
     refine c_ret ?_
     refine q_blk_r ?_
     refine q_then_r ?_
     refine q_then_r ?_
     refine q_blk_r ?_
     obtain rfl := Option.some.inj h
     obtain rfl := hres _ rfl
     exact .inr (⟨_, rfl, rfl, _, σ19, fr_join ⟨rfl, trivial⟩, rfl, H.sel' [] rfl rfl⟩)
    ·replace h := bif_f hb20 h
     refine c_skip ?_
     refine q_blk ?_
     refine q_then ?_
     refine rg ?_
     refine st (v := (I s3.2)) (rv_move rfl) ?_
     refine st (v := (I (w64 (s3.2 + 1)))) (rv_add (a := s3.2) (b := 1) rfl rfl) ?_
     refine st (v := (I (w64 (s3.2 + 1)))) (rv_assign rfl) ?_
     refine w_end ?_
     refine q_then ?_
     obtain rfl := Option.some.inj h
     exact ⟨_, rfl, _, σ19, fr_join ⟨rfl, rfl, rfl, trivial⟩, rfl, H.sel' [1] rfl rfl⟩
   ·replace h := bif_f hb5 h
    refine c_exit ?_
    refine q_then_x ?_
    refine q_then_x ?_
    refine q_blk_hit ?_
    obtain rfl := Option.some.inj h
    obtain rfl := hres _ rfl
    exact .inl ⟨_, rfl, rfl, _, σ4, fr_join ⟨rfl, trivial⟩, rfl, H.sel' [] rfl rfl⟩
  ·clear hj
   have h := h'
   clear h' H
   rintro e a w (⟨t21, rfl, rfl, ρ, σ22, rfl, rfl, H⟩ | ⟨t23, rfl, rfl, ρ, σ24, rfl, rfl, H⟩)
   ·replace h := selim_l h
    refine q_then ?_
    refine c_seq ?_
    refine rg ?_
    refine st (v := (I t21)) (rv_move rfl) ?_
    refine st (v := (I t21)) (rv_assign rfl) ?_
    refine w_end ?_
    refine q_then ?_
    refine c_ret ?_
    obtain rfl := Option.some.inj h
    exact fin_ret (v := (I t21)) (results_ok Try.results69 (res_tmp (v := (I t21)) rfl res_nil) rfl) ⟨rfl, rfl⟩ (H.sel' [] rfl rfl)
   ·replace h := selim_r h
    refine q_then_r ?_
    obtain rfl := Option.some.inj h
    exact fin_ret (v := (I t23)) (results_ok Try.results69 (res_tmp (v := (I t23)) rfl res_nil) rfl) ⟨rfl, rfl⟩ (H.sel' [] rfl rfl)

theorem c_laws_szBook {a_0 : (List (List Int)) × (List (List Int))} {left_1 : Int} {aa_0_0 : Option Addr} {ca_0_0 : Nat} {aa_0_1 : Option Addr} {ca_0_1 : Nat} {r : Int} (h : M.laws_szBook a_0 left_1 = some r) :
    Cal2 Try.prog 32 [(.agg #[(Sl aa_0_0 a_0.1 ca_0_0), (Sl aa_0_1 a_0.2 ca_0_1)]), (I left_1)] [Ch.ro 0 (Sl aa_0_0 a_0.1 ca_0_0) a_0.1, Ch.ro 0 (Sl aa_0_1 a_0.2 ca_0_1) a_0.2] (fun n0 v L => v = (I r) ∧ L = []) := by
 refine cal2 (n := 18) Try.func32 rfl rfl rfl rfl ?_
 intro S0 σ0 n0 hn0 H
 unfold M.laws_szBook at h
 refine c_seq ?_
 refine rg ?_
 refine st_ex (ex_box (cs := [(Sl aa_0_0 a_0.1 ca_0_0), (Sl aa_0_1 a_0.2 ca_0_1)]) H hn0 rfl rfl) wn ?_
 rintro _ σ2 ⟨b1, rfl, H, -⟩
 refine st (v := (I 0)) (rv_assign rfl) ?_
 refine w_end ?_
 refine q_then ?_
 refine c_seq ?_
 refine rg ?_
 refine st (v := (pt b1 0)) (rv_fieldAddr (off := 0) (ft := 27) Try.underlying49 rfl ti27 rfl rfl) ?_
 have hc3 := H.cell (u := (Sl aa_0_0 a_0.1 ca_0_0)) (o' := 0) 0 0 rfl rfl rfl
 refine st (v := (Sl aa_0_0 a_0.1 ca_0_0)) (rv_load1 Try.underlying27 rfl rfl hc3) ?_
 refine st (v := (I left_1)) (rv_move rfl) ?_
 obtain ⟨r4, hx5, h'⟩ := bind_some h
 clear h
 have h := h'; clear h'
 have hc6 := c_laws_szIntSS (aa_0 := aa_0_0) (ca_0 := ca_0_0) hx5
 refine st_call (cx_call hc6 (ent_f hc6.fn rfl) hn0 (show Hp S0 σ0 _ ([Ch.ro 0 (Sl aa_0_0 a_0.1 ca_0_0) a_0.1] ++ [Ch.bx n0 b1 0 [(Sl aa_0_0 a_0.1 ca_0_0), (Sl aa_0_1 a_0.2 ca_0_1)] [] [], Ch.ro 0 (Sl aa_0_0 a_0.1 ca_0_0) a_0.1, Ch.ro 0 (Sl aa_0_1 a_0.2 ca_0_1) a_0.2]) from (H.sel' [1, 0, 1, 2] rfl rfl))) wn ?_
 rintro _ σ7 ⟨_, ⟨rfl, rfl⟩, H, -⟩
 replace H : Hp S0 σ0 σ7 [Ch.bx n0 b1 0 [(Sl aa_0_0 a_0.1 ca_0_0), (Sl aa_0_1 a_0.2 ca_0_1)] [] [], Ch.ro 0 (Sl aa_0_0 a_0.1 ca_0_0) a_0.1, Ch.ro 0 (Sl aa_0_1 a_0.2 ca_0_1) a_0.2] := H
 refine st (v := (I r4)) (rv_assign rfl) ?_
 refine w_end ?_
 refine q_then ?_
 refine c_seq ?_
 refine c_seq ?_
 refine rg ?_
 refine st (v := (I r4)) (rv_move rfl) ?_
 refine st (v := (B (decide (r4 < 0)))) (rv_lss (a := r4) (b := 0) rfl rfl) ?_
 refine w_end ?_
 refine q_then ?_
 refine cd_cond (decide (r4 < 0)) rfl (fun hb8 => ?_) (fun hb8 => ?_)
 ·replace h := bif_t hb8 h
  refine c_seq ?_
  refine rg ?_
  refine st (v := (I (-1))) (rv_assign rfl) ?_
  refine w_end ?_
  refine q_then ?_
  refine c_ret ?_
  refine q_then_r ?_
  obtain rfl := Option.some.inj h
  exact fin_ret (v := (I (-1))) (results_ok Try.results32 (res_tmp (v := (I (-1))) rfl res_nil) rfl) ⟨rfl, rfl⟩ (H.sel' [] rfl rfl)
 ·replace h := bif_f hb8 h
  refine c_skip ?_
  refine q_then ?_
  refine c_seq ?_
  refine rg ?_
  refine st (v := (pt b1 1)) (rv_fieldAddr (off := 1) (ft := 27) Try.underlying49 rfl ti27 rfl rfl) ?_
  have hc9 := H.cell (u := (Sl aa_0_1 a_0.2 ca_0_1)) (o' := 1) 0 1 rfl rfl rfl
  refine st (v := (Sl aa_0_1 a_0.2 ca_0_1)) (rv_load1 Try.underlying27 rfl rfl hc9) ?_
  refine st (v := (I r4)) (rv_move rfl) ?_
  obtain ⟨r10, hx11, h'⟩ := bind_some h
  clear h
  have h := h'; clear h'
  have hc12 := c_laws_szIntSS (aa_0 := aa_0_1) (ca_0 := ca_0_1) hx11
  refine st_call (cx_call hc12 (ent_f hc12.fn rfl) hn0 (show Hp S0 σ0 _ ([Ch.ro 0 (Sl aa_0_1 a_0.2 ca_0_1) a_0.2] ++ [Ch.bx n0 b1 0 [(Sl aa_0_0 a_0.1 ca_0_0), (Sl aa_0_1 a_0.2 ca_0_1)] [] [], Ch.ro 0 (Sl aa_0_0 a_0.1 ca_0_0) a_0.1, Ch.ro 0 (Sl aa_0_1 a_0.2 ca_0_1) a_0.2]) from (H.sel' [2, 0, 1, 2] rfl rfl))) wn ?_
  rintro _ σ13 ⟨_, ⟨rfl, rfl⟩, H, -⟩
  replace H : Hp S0 σ0 σ13 [Ch.bx n0 b1 0 [(Sl aa_0_0 a_0.1 ca_0_0), (Sl aa_0_1 a_0.2 ca_0_1)] [] [], Ch.ro 0 (Sl aa_0_0 a_0.1 ca_0_0) a_0.1, Ch.ro 0 (Sl aa_0_1 a_0.2 ca_0_1) a_0.2] := H
  refine st (v := (I r10)) (rv_assign rfl) ?_
  refine w_end ?_
  refine q_then ?_
  refine c_seq ?_
  refine c_seq ?_
  refine rg ?_
  refine st (v := (I r10)) (rv_move rfl) ?_
  refine st (v := (B (decide (r10 < 0)))) (rv_lss (a := r10) (b := 0) rfl rfl) ?_
  refine w_end ?_
  refine q_then ?_
  refine cd_cond (decide (r10 < 0)) rfl (fun hb14 => ?_) (fun hb14 => ?_)
  ·replace h := bif_t hb14 h
   refine c_seq ?_
   refine rg ?_
   refine st (v := (I (-1))) (rv_assign rfl) ?_
   refine w_end ?_
   refine q_then ?_
   refine c_ret ?_
   refine q_then_r ?_
   obtain rfl := Option.some.inj h
   exact fin_ret (v := (I (-1))) (results_ok Try.results32 (res_tmp (v := (I (-1))) rfl res_nil) rfl) ⟨rfl, rfl⟩ (H.sel' [] rfl rfl)
  ·replace h := bif_f hb14 h
   refine c_skip ?_
   refine q_then ?_
   refine c_seq ?_
   refine rg ?_
   refine st (v := (I r10)) (rv_move rfl) ?_
   refine st (v := (I r10)) (rv_assign rfl) ?_
   refine w_end ?_
   refine q_then ?_
   refine c_ret ?_
   obtain rfl := Option.some.inj h
   exact fin_ret (v := (I r10)) (results_ok Try.results32 (res_tmp (v := (I r10)) rfl res_nil) rfl) ⟨rfl, rfl⟩ (H.sel' [] rfl rfl)

theorem c_spec_inRange {n_0 : Int} {low_1 : Int} {high_2 : Int}  {r : Bool} (h : M.spec_inRange n_0 low_1 high_2 = some r) :
    Cal2 Try.prog 46 [(I n_0), (I low_1), (I high_2)] [] (fun n0 v L => v = (B r) ∧ L = []) := by
 refine cal2 (n := 15) Try.func46 rfl rfl rfl rfl ?_
 intro S0 σ0 n0 hn0 H
 unfold M.spec_inRange at h
 refine c_seq ?_
 refine rg ?_
 refine st (v := (B false)) (rv_assign rfl) ?_
 refine w_end ?_
 refine q_then ?_
 refine c_seq ?_
 refine rg ?_
 refine st (v := (I low_1)) (rv_move rfl) ?_
 refine st (v := (I n_0)) (rv_move rfl) ?_
 refine st (v := (B (decide (low_1 ≤ n_0)))) (rv_leq (a := low_1) (b := n_0) rfl rfl) ?_
 refine st (v := (B (decide (low_1 ≤ n_0)))) (rv_move rfl) ?_
 rcases Bool.eq_false_or_eq_true (decide (low_1 ≤ n_0)) with hb1 | hb1
 ·replace h := bif_t hb1 h
  refine st_g (v := (I n_0)) (congrArg some hb1) (rv_move rfl) ?_
  refine st_g (v := (I high_2)) (congrArg some hb1) (rv_move rfl) ?_
  refine st_g (v := (B (decide (n_0 ≤ high_2)))) (congrArg some hb1) (rv_leq (a := n_0) (b := high_2) rfl rfl) ?_
  refine st (v := (B (decide (n_0 ≤ high_2)))) (rv_pick_t (congrArg B hb1) rfl) ?_
  refine st (v := (B (decide (n_0 ≤ high_2)))) (rv_assign rfl) ?_
  refine w_end ?_
  refine q_then ?_
  refine c_ret ?_
  obtain rfl := Option.some.inj h
  exact fin_ret (v := (B (decide (n_0 ≤ high_2)))) (results_ok Try.results46 (res_tmp (v := (B (decide (n_0 ≤ high_2)))) rfl res_nil) rfl) ⟨rfl, rfl⟩ (H.sel' [] rfl rfl)
 ·replace h := bif_f hb1 h
  refine st_skip (congrArg some hb1) ?_
  refine st_skip (congrArg some hb1) ?_
  refine st_skip (congrArg some hb1) ?_
  refine st (v := (B false)) (rv_pick_f (congrArg B hb1) rfl) ?_
  refine st (v := (B false)) (rv_assign rfl) ?_
  refine w_end ?_
  refine q_then ?_
  refine c_ret ?_
  obtain rfl := Option.some.inj h
  exact fin_ret (v := (B false)) (results_ok Try.results46 (res_tmp (v := (B false)) rfl res_nil) rfl) ⟨rfl, rfl⟩ (H.sel' [] rfl rfl)

theorem c_spec_allIn {list_0 : List Int} {low_1 : Int} {high_2 : Int} {alist_0 : Option Addr} {clist_0 : Nat} {r : Bool} (h : M.spec_allIn list_0 low_1 high_2 = some r) :
    Cal2 Try.prog 85 [(Sl alist_0 list_0 clist_0), (I low_1), (I high_2)] [Ch.ro 0 (Sl alist_0 list_0 clist_0) list_0] (fun n0 v L => v = (B r) ∧ L = []) := by
 refine cal2 (n := 22) Try.func85 rfl rfl rfl rfl ?_
 intro S0 σ0 n0 hn0 H
 unfold M.spec_allIn at h
 refine c_seq ?_
 refine rg ?_
 refine st (v := (B false)) (rv_assign rfl) ?_
 refine w_end ?_
 refine q_then ?_
 refine c_seq ?_
 refine c_seq ?_
 refine rg ?_
 refine st (v := (I 0)) (rv_assign rfl) ?_
 refine w_end ?_
 refine q_then ?_
 obtain ⟨o1, hj, h'⟩ := bind_some h
 clear h
 refine c_cut (fun e a w => (∃ t, o1 = (.inl t) ∧ e = .normal ∧ ∃ (ρ : Nat → Value) (σ : St), a = fr 22 (updL ρ []) ∧ w = σ.w ∧ Hp S0 σ0 σ []) ∨ (∃ t, o1 = (.inr t) ∧ e = .ret ∧ ∃ (ρ : Nat → Value) (σ : St), a = fr 22 (updL ρ [(6, (B t))]) ∧ w = σ.w ∧ Hp S0 σ0 σ [])) ?_ ?_
 ·clear h'
  rename _ = some o1 => h
  refine c_blk ?_
  refine wp_loopM _ h (fun s2 a w => ∃ (ρ : Nat → Value) (σ : St), a = fr 22 (updL ρ [(0, (Sl alist_0 list_0 clist_0)), (1, (I low_1)), (2, (I high_2)), (7, (I s2))]) ∧ w = σ.w ∧ Hp S0 σ0 σ [Ch.ro 0 (Sl alist_0 list_0 clist_0) list_0]) ⟨_, σ0, fr_join ⟨rfl, rfl, rfl, rfl, trivial⟩, rfl, H.sel' [0] rfl rfl⟩ ?_
  clear h H
  rintro s2 a w o ⟨ρ, σ3, rfl, rfl, H⟩ h hres
  refine c_seq ?_
  refine c_seq ?_
  refine rg ?_
  refine st (v := (I s2)) (rv_move rfl) ?_
  refine st (v := (Sl alist_0 list_0 clist_0)) (rv_move rfl) ?_
  refine st (v := (I (list_0.length : Int))) (rv_len Try.underlying29 rfl) ?_
  refine st (v := (B (decide (s2 < (list_0.length : Int))))) (rv_lss (a := s2) (b := (list_0.length : Int)) rfl rfl) ?_
  refine w_end ?_
  refine q_then ?_
  refine cd_cond (decide (s2 < (list_0.length : Int))) rfl (fun hb4 => ?_) (fun hb4 => ?_)
  ·replace h := bif_t hb4 h
   refine c_skip ?_
   refine q_then ?_
   refine c_seq ?_
   refine c_blk ?_
   refine c_seq ?_
   refine rg ?_
   refine st (v := (Sl alist_0 list_0 clist_0)) (rv_move rfl) ?_
   refine st (v := (I s2)) (rv_move rfl) ?_
   obtain ⟨x5, hx6, h'⟩ := bind_some h
   clear h
   have h := h'; clear h'
   obtain ⟨b8, o9, hi7, -⟩ := (H.ro 0 rfl).ix hx6
   refine st (v := (pt b8 o9)) (rv_ix Try.underlying29 ti3 rfl rfl hi7) ?_
   have hc10 := ((H.ro 0 rfl).at hx6 hi7).int
   refine st (v := (I x5)) (rv_load1 Try.underlying3 rfl rfl hc10) ?_
   refine st (v := (I low_1)) (rv_move rfl) ?_
   refine st (v := (I high_2)) (rv_move rfl) ?_
   obtain ⟨r11, hx12, h'⟩ := bind_some h
   clear h
   have h := h'; clear h'
   have hc13 := c_spec_inRange hx12
   refine st_call (cx_call hc13 (ent_f hc13.fn rfl) hn0 (show Hp S0 σ0 _ ([] ++ [Ch.ro 0 (Sl alist_0 list_0 clist_0) list_0]) from (H.sel' [0] rfl rfl))) wn ?_
   rintro _ σ14 ⟨_, ⟨rfl, rfl⟩, H, -⟩
   replace H : Hp S0 σ0 σ14 [Ch.ro 0 (Sl alist_0 list_0 clist_0) list_0] := H
   refine st (v := (B (!r11))) (rv_not rfl) ?_
   refine w_end ?_
   refine q_then ?_
   refine cd_cond (!r11) rfl (fun hb15 => ?_) (fun hb15 => ?_)
   ·replace h := bif_t hb15 h
    refine c_seq ?_
    refine rg ?_
    refine st (v := (B false)) (rv_assign rfl) ?_
    refine w_end ?_
    refine q_then ?_
    refine c_ret ?_
    refine q_blk_r ?_
    refine q_then_r ?_
    refine q_then_r ?_
    refine q_blk_r ?_
    obtain rfl := Option.some.inj h
    obtain rfl := hres _ rfl
    exact .inr (⟨_, rfl, rfl, _, σ14, fr_join ⟨rfl, trivial⟩, rfl, H.sel' [] rfl rfl⟩)
   ·replace h := bif_f hb15 h
    refine c_skip ?_
    refine q_blk ?_
    refine q_then ?_
    refine rg ?_
    refine st (v := (I s2)) (rv_move rfl) ?_
    refine st (v := (I (w64 (s2 + 1)))) (rv_add (a := s2) (b := 1) rfl rfl) ?_
    refine st (v := (I (w64 (s2 + 1)))) (rv_assign rfl) ?_
    refine w_end ?_
    refine q_then ?_
    obtain rfl := Option.some.inj h
    exact ⟨_, rfl, _, σ14, fr_join ⟨rfl, rfl, rfl, rfl, trivial⟩, rfl, H.sel' [0] rfl rfl⟩
  ·replace h := bif_f hb4 h
   refine c_exit ?_
   refine q_then_x ?_
   refine q_then_x ?_
   refine q_blk_hit ?_
   obtain rfl := Option.some.inj h
   obtain rfl := hres _ rfl
   exact .inl ⟨_, rfl, rfl, _, σ3, fr_join trivial, rfl, H.sel' [] rfl rfl⟩
 ·clear hj
  have h := h'
  clear h' H
  rintro e a w (⟨t16, rfl, rfl, ρ, σ17, rfl, rfl, H⟩ | ⟨t18, rfl, rfl, ρ, σ19, rfl, rfl, H⟩)
  ·replace h := selim_l h
   refine q_then ?_
   refine c_seq ?_
   refine rg ?_
   refine st (v := (B true)) (rv_assign rfl) ?_
   refine w_end ?_
   refine q_then ?_
   refine c_ret ?_
   obtain rfl := Option.some.inj h
   exact fin_ret (v := (B true)) (results_ok Try.results85 (res_tmp (v := (B true)) rfl res_nil) rfl) ⟨rfl, rfl⟩ (H.sel' [] rfl rfl)
  ·replace h := selim_r h
   refine q_then_r ?_
   obtain rfl := Option.some.inj h
   exact fin_ret (v := (B t18)) (results_ok Try.results85 (res_tmp (v := (B t18)) rfl res_nil) rfl) ⟨rfl, rfl⟩ (H.sel' [] rfl rfl)

theorem c_spec_validHalves {list_0 : List (List Int)} {alist_0 : Option Addr} {clist_0 : Nat} {r : Bool} (h : M.spec_validHalves list_0 = some r) :
    Cal2 Try.prog 93 [(Sl alist_0 list_0 clist_0)] [Ch.ro 0 (Sl alist_0 list_0 clist_0) list_0] (fun n0 v L => v = (B r) ∧ L = []) := by
 refine cal2 (n := 24) Try.func93 rfl rfl rfl rfl ?_
 intro S0 σ0 n0 hn0 H
 unfold M.spec_validHalves at h
 refine c_seq ?_
 refine rg ?_
 refine st (v := (B false)) (rv_assign rfl) ?_
 refine w_end ?_
 refine q_then ?_
 refine c_seq ?_
 refine c_seq ?_
 refine rg ?_
 refine st (v := (I 0)) (rv_assign rfl) ?_
 refine w_end ?_
 refine q_then ?_
 obtain ⟨o1, hj, h'⟩ := bind_some h
 clear h
 refine c_cut (fun e a w => (∃ t, o1 = (.inl t) ∧ e = .normal ∧ ∃ (ρ : Nat → Value) (σ : St), a = fr 24 (updL ρ []) ∧ w = σ.w ∧ Hp S0 σ0 σ []) ∨ (∃ t, o1 = (.inr t) ∧ e = .ret ∧ ∃ (ρ : Nat → Value) (σ : St), a = fr 24 (updL ρ [(2, (B t))]) ∧ w = σ.w ∧ Hp S0 σ0 σ [])) ?_ ?_
 ·clear h'
  rename _ = some o1 => h
  refine c_blk ?_
  refine wp_loopM _ h (fun s2 a w => ∃ (ρ : Nat → Value) (σ : St), a = fr 24 (updL ρ [(0, (Sl alist_0 list_0 clist_0)), (3, (I s2))]) ∧ w = σ.w ∧ Hp S0 σ0 σ [Ch.ro 0 (Sl alist_0 list_0 clist_0) list_0]) ⟨_, σ0, fr_join ⟨rfl, rfl, trivial⟩, rfl, H.sel' [0] rfl rfl⟩ ?_
  clear h H
  rintro s2 a w o ⟨ρ, σ3, rfl, rfl, H⟩ h hres
  refine c_seq ?_
  refine c_seq ?_
  refine rg ?_
  refine st (v := (I s2)) (rv_move rfl) ?_
  refine st (v := (Sl alist_0 list_0 clist_0)) (rv_move rfl) ?_
  refine st (v := (I (list_0.length : Int))) (rv_len Try.underlying27 rfl) ?_
  refine st (v := (B (decide (s2 < (list_0.length : Int))))) (rv_lss (a := s2) (b := (list_0.length : Int)) rfl rfl) ?_
  refine w_end ?_
  refine q_then ?_
  refine cd_cond (decide (s2 < (list_0.length : Int))) rfl (fun hb4 => ?_) (fun hb4 => ?_)
  ·replace h := bif_t hb4 h
   refine c_skip ?_
   refine q_then ?_
   refine c_seq ?_
   refine c_blk ?_
   refine c_seq ?_
   obtain ⟨o5, hj, h'⟩ := bind_some h
   clear h
   refine c_cut (fun e a w => e = .normal ∧ ∃ (ρ : Nat → Value) (σ : St), a = fr 24 (updL ρ [(0, (Sl alist_0 list_0 clist_0)), (3, (I s2)), (23, (B o5))]) ∧ w = σ.w ∧ Hp S0 σ0 σ [Ch.ro 0 (Sl alist_0 list_0 clist_0) list_0]) ?_ ?_
   ·clear h'
    rename _ = some o5 => h
    refine rg ?_
    refine st (v := (Sl alist_0 list_0 clist_0)) (rv_move rfl) ?_
    refine st (v := (I s2)) (rv_move rfl) ?_
    obtain ⟨x6, hx7, h'⟩ := bind_some h
    clear h
    have h := h'; clear h'
    obtain ⟨b9, o10, hi8, -⟩ := (H.ro 0 rfl).ix hx7
    refine st (v := (pt b9 o10)) (rv_ix Try.underlying27 ti29 rfl rfl hi8) ?_
    obtain ⟨v14, hc15, hR13⟩ := ((H.ro 0 rfl).at hx7 hi8).slice
    obtain ⟨a11, c12, rfl⟩ := hR13.isSl
    replace H := H.add (d := Ch.ro 0 (Sl a11 x6 c12) x6) hR13 (fun _ h => h)
    clear hR13
    refine st (v := (Sl a11 x6 c12)) (rv_load1 Try.underlying29 rfl rfl hc15) ?_
    refine st (v := (I (x6.length : Int))) (rv_len Try.underlying29 rfl) ?_
    refine st (v := (B ((x6.length : Int) != 2))) (rv_neq (a := (x6.length : Int)) (b := 2) rfl rfl) ?_
    refine st (v := (B ((x6.length : Int) != 2))) (rv_move rfl) ?_
    rcases Bool.eq_false_or_eq_true ((x6.length : Int) != 2) with hb16 | hb16
    ·replace h := bif_t hb16 h
     refine st_skip (congrArg some hb16) ?_
     refine st_skip (congrArg some hb16) ?_
     refine st_skip (congrArg some hb16) ?_
     refine st_skip (congrArg some hb16) ?_
     refine st_skip (congrArg some hb16) ?_
     refine st_skip (congrArg some hb16) ?_
     refine st (v := (B true)) (rv_pick_t (congrArg B hb16) rfl) ?_
     refine w_end ?_
     obtain rfl := Option.some.inj h
     exact ⟨rfl, _, σ3, fr_join ⟨rfl, rfl, rfl, trivial⟩, rfl, H.sel' [1] rfl rfl⟩
    ·replace h := bif_f hb16 h
     refine st_g (v := (Sl alist_0 list_0 clist_0)) (congrArg some hb16) (rv_move rfl) ?_
     refine st_g (v := (I s2)) (congrArg some hb16) (rv_move rfl) ?_
     obtain ⟨x17, hx18, h'⟩ := bind_some h
     clear h
     have h := h'; clear h'
     obtain ⟨b20, o21, hi19, -⟩ := (H.ro 1 rfl).ix hx18
     refine st_g (v := (pt b20 o21)) (congrArg some hb16) (rv_ix Try.underlying27 ti29 rfl rfl hi19) ?_
     obtain ⟨v25, hc26, hR24⟩ := ((H.ro 1 rfl).at hx18 hi19).slice
     obtain ⟨a22, c23, rfl⟩ := hR24.isSl
     replace H := H.add (d := Ch.ro 0 (Sl a22 x17 c23) x17) hR24 (fun _ h => h)
     clear hR24
     refine st_g (v := (Sl a22 x17 c23)) (congrArg some hb16) (rv_load1 Try.underlying29 rfl rfl hc26) ?_
     obtain ⟨r27, hx28, h'⟩ := bind_some h
     clear h
     have h := h'; clear h'
     have hc29 := c_spec_allIn (alist_0 := a22) (clist_0 := c23) hx28
     refine st_call (cx_call hc29 (ent_f hc29.fn rfl) hn0 (show Hp S0 σ0 _ ([Ch.ro 0 (Sl a22 x17 c23) x17] ++ [Ch.ro 0 (Sl a22 x17 c23) x17, Ch.ro 0 (Sl a11 x6 c12) x6, Ch.ro 0 (Sl alist_0 list_0 clist_0) list_0]) from (H.sel' [0, 0, 1, 2] rfl rfl))) (wanted_yes rfl (by exact (congrArg some hb16))) ?_
     rintro _ σ30 ⟨_, ⟨rfl, rfl⟩, H, -⟩
     replace H : Hp S0 σ0 σ30 [Ch.ro 0 (Sl a22 x17 c23) x17, Ch.ro 0 (Sl a11 x6 c12) x6, Ch.ro 0 (Sl alist_0 list_0 clist_0) list_0] := H
     refine st_g (v := (B (!r27))) (congrArg some hb16) (rv_not rfl) ?_
     refine st (v := (B (!r27))) (rv_pick_f (congrArg B hb16) rfl) ?_
     refine w_end ?_
     obtain rfl := Option.some.inj h
     exact ⟨rfl, _, σ30, fr_join ⟨rfl, rfl, rfl, trivial⟩, rfl, H.sel' [2] rfl rfl⟩
   ·clear hj
    have h := h'
    clear h' H
    rintro e a w ⟨rfl, ρ, σ31, rfl, rfl, H⟩
    refine q_then ?_
    refine cd_cond o5 rfl (fun hb32 => ?_) (fun hb32 => ?_)
    ·replace h := bif_t hb32 h
     refine c_seq ?_
     refine rg ?_
     refine st (v := (B false)) (rv_assign rfl) ?_
     refine w_end ?_
     refine q_then ?_
     refine c_ret ?_
     refine q_blk_r ?_
     refine q_then_r ?_
     refine q_then_r ?_
     refine q_blk_r ?_
     obtain rfl := Option.some.inj h
     obtain rfl := hres _ rfl
     exact .inr (⟨_, rfl, rfl, _, σ31, fr_join ⟨rfl, trivial⟩, rfl, H.sel' [] rfl rfl⟩)
    ·replace h := bif_f hb32 h
     refine c_skip ?_
     refine q_blk ?_
     refine q_then ?_
     refine rg ?_
     refine st (v := (I s2)) (rv_move rfl) ?_
     refine st (v := (I (w64 (s2 + 1)))) (rv_add (a := s2) (b := 1) rfl rfl) ?_
     refine st (v := (I (w64 (s2 + 1)))) (rv_assign rfl) ?_
     refine w_end ?_
     refine q_then ?_
     obtain rfl := Option.some.inj h
     exact ⟨_, rfl, _, σ31, fr_join ⟨rfl, rfl, trivial⟩, rfl, H.sel' [0] rfl rfl⟩
  ·replace h := bif_f hb4 h
   refine c_exit ?_
   refine q_then_x ?_
   refine q_then_x ?_
   refine q_blk_hit ?_
   obtain rfl := Option.some.inj h
   obtain rfl := hres _ rfl
   exact .inl ⟨_, rfl, rfl, _, σ3, fr_join trivial, rfl, H.sel' [] rfl rfl⟩
 ·clear hj
  have h := h'
  clear h' H
  rintro e a w (⟨t33, rfl, rfl, ρ, σ34, rfl, rfl, H⟩ | ⟨t35, rfl, rfl, ρ, σ36, rfl, rfl, H⟩)
  ·replace h := selim_l h
   refine q_then ?_
   refine c_seq ?_
   refine rg ?_
   refine st (v := (B true)) (rv_assign rfl) ?_
   refine w_end ?_
   refine q_then ?_
   refine c_ret ?_
   obtain rfl := Option.some.inj h
   exact fin_ret (v := (B true)) (results_ok Try.results93 (res_tmp (v := (B true)) rfl res_nil) rfl) ⟨rfl, rfl⟩ (H.sel' [] rfl rfl)
  ·replace h := selim_r h
   refine q_then_r ?_
   obtain rfl := Option.some.inj h
   exact fin_ret (v := (B t35)) (results_ok Try.results93 (res_tmp (v := (B t35)) rfl res_nil) rfl) ⟨rfl, rfl⟩ (H.sel' [] rfl rfl)

theorem c_spec_validBook {b_0 : (List (List Int)) × (List (List Int))} {ab_0_0 : Option Addr} {cb_0_0 : Nat} {ab_0_1 : Option Addr} {cb_0_1 : Nat} {r : Bool} (h : M.spec_validBook b_0 = some r) :
    Cal2 Try.prog 64 [(.agg #[(Sl ab_0_0 b_0.1 cb_0_0), (Sl ab_0_1 b_0.2 cb_0_1)])] [Ch.ro 0 (Sl ab_0_0 b_0.1 cb_0_0) b_0.1, Ch.ro 0 (Sl ab_0_1 b_0.2 cb_0_1) b_0.2] (fun n0 v L => v = (B r) ∧ L = []) := by
 refine cal2 (n := 23) Try.func64 rfl rfl rfl rfl ?_
 intro S0 σ0 n0 hn0 H
 unfold M.spec_validBook at h
 refine c_seq ?_
 refine rg ?_
 refine st_ex (ex_box (cs := [(Sl ab_0_0 b_0.1 cb_0_0), (Sl ab_0_1 b_0.2 cb_0_1)]) H hn0 rfl rfl) wn ?_
 rintro _ σ2 ⟨b1, rfl, H, -⟩
 refine st (v := (B false)) (rv_assign rfl) ?_
 refine w_end ?_
 refine q_then ?_
 refine c_seq ?_
 refine rg ?_
 refine st (v := (pt b1 0)) (rv_fieldAddr (off := 0) (ft := 27) Try.underlying39 rfl ti27 rfl rfl) ?_
 have hc3 := H.cell (u := (Sl ab_0_0 b_0.1 cb_0_0)) (o' := 0) 0 0 rfl rfl rfl
 refine st (v := (Sl ab_0_0 b_0.1 cb_0_0)) (rv_load1 Try.underlying27 rfl rfl hc3) ?_
 refine st (v := (I (b_0.1.length : Int))) (rv_len Try.underlying27 rfl) ?_
 refine st (v := (B ((b_0.1.length : Int) == 4))) (rv_eql (a := (b_0.1.length : Int)) (b := 4) rfl rfl) ?_
 refine st (v := (B ((b_0.1.length : Int) == 4))) (rv_move rfl) ?_
 rcases Bool.eq_false_or_eq_true ((b_0.1.length : Int) == 4) with hb4 | hb4
 ·replace h := bif_t hb4 h
  refine st_g (v := (pt b1 1)) (congrArg some hb4) (rv_fieldAddr (off := 1) (ft := 27) Try.underlying39 rfl ti27 rfl rfl) ?_
  have hc5 := H.cell (u := (Sl ab_0_1 b_0.2 cb_0_1)) (o' := 1) 0 1 rfl rfl rfl
  refine st_g (v := (Sl ab_0_1 b_0.2 cb_0_1)) (congrArg some hb4) (rv_load1 Try.underlying27 rfl rfl hc5) ?_
  refine st_g (v := (I (b_0.2.length : Int))) (congrArg some hb4) (rv_len Try.underlying27 rfl) ?_
  refine st_g (v := (B ((b_0.2.length : Int) == 4))) (congrArg some hb4) (rv_eql (a := (b_0.2.length : Int)) (b := 4) rfl rfl) ?_
  refine st (v := (B ((b_0.2.length : Int) == 4))) (rv_pick_t (congrArg B hb4) rfl) ?_
  refine st (v := (B ((b_0.2.length : Int) == 4))) (rv_move rfl) ?_
  rcases Bool.eq_false_or_eq_true ((b_0.2.length : Int) == 4) with hb6 | hb6
  ·replace h := bif_t hb6 h
   refine st_g (v := (pt b1 0)) (congrArg some hb6) (rv_fieldAddr (off := 0) (ft := 27) Try.underlying39 rfl ti27 rfl rfl) ?_
   have hc7 := H.cell (u := (Sl ab_0_0 b_0.1 cb_0_0)) (o' := 0) 0 0 rfl rfl rfl
   refine st_g (v := (Sl ab_0_0 b_0.1 cb_0_0)) (congrArg some hb6) (rv_load1 Try.underlying27 rfl rfl hc7) ?_
   obtain ⟨r8, hx9, h'⟩ := bind_some h
   clear h
   have h := h'; clear h'
   have hc10 := c_spec_validHalves (alist_0 := ab_0_0) (clist_0 := cb_0_0) hx9
   refine st_call (cx_call hc10 (ent_f hc10.fn rfl) hn0 (show Hp S0 σ0 _ ([Ch.ro 0 (Sl ab_0_0 b_0.1 cb_0_0) b_0.1] ++ [Ch.bx n0 b1 0 [(Sl ab_0_0 b_0.1 cb_0_0), (Sl ab_0_1 b_0.2 cb_0_1)] [] [], Ch.ro 0 (Sl ab_0_0 b_0.1 cb_0_0) b_0.1, Ch.ro 0 (Sl ab_0_1 b_0.2 cb_0_1) b_0.2]) from (H.sel' [1, 0, 1, 2] rfl rfl))) (wanted_yes rfl (by exact (congrArg some hb6))) ?_
   rintro _ σ11 ⟨_, ⟨rfl, rfl⟩, H, -⟩
   replace H : Hp S0 σ0 σ11 [Ch.bx n0 b1 0 [(Sl ab_0_0 b_0.1 cb_0_0), (Sl ab_0_1 b_0.2 cb_0_1)] [] [], Ch.ro 0 (Sl ab_0_0 b_0.1 cb_0_0) b_0.1, Ch.ro 0 (Sl ab_0_1 b_0.2 cb_0_1) b_0.2] := H
   refine st (v := (B r8)) (rv_pick_t (congrArg B hb6) rfl) ?_
   refine st (v := (B r8)) (rv_move rfl) ?_
   rcases Bool.eq_false_or_eq_true r8 with hb12 | hb12
   ·replace h := bif_t hb12 h
    refine st_g (v := (pt b1 1)) (congrArg some hb12) (rv_fieldAddr (off := 1) (ft := 27) Try.underlying39 rfl ti27 rfl rfl) ?_
    have hc13 := H.cell (u := (Sl ab_0_1 b_0.2 cb_0_1)) (o' := 1) 0 1 rfl rfl rfl
    refine st_g (v := (Sl ab_0_1 b_0.2 cb_0_1)) (congrArg some hb12) (rv_load1 Try.underlying27 rfl rfl hc13) ?_
    obtain ⟨r14, hx15, h'⟩ := bind_some h
    clear h
    have h := h'; clear h'
    have hc16 := c_spec_validHalves (alist_0 := ab_0_1) (clist_0 := cb_0_1) hx15
    refine st_call (cx_call hc16 (ent_f hc16.fn rfl) hn0 (show Hp S0 σ0 _ ([Ch.ro 0 (Sl ab_0_1 b_0.2 cb_0_1) b_0.2] ++ [Ch.bx n0 b1 0 [(Sl ab_0_0 b_0.1 cb_0_0), (Sl ab_0_1 b_0.2 cb_0_1)] [] [], Ch.ro 0 (Sl ab_0_0 b_0.1 cb_0_0) b_0.1, Ch.ro 0 (Sl ab_0_1 b_0.2 cb_0_1) b_0.2]) from (H.sel' [2, 0, 1, 2] rfl rfl))) (wanted_yes rfl (by exact (congrArg some hb12))) ?_
    rintro _ σ17 ⟨_, ⟨rfl, rfl⟩, H, -⟩
    replace H : Hp S0 σ0 σ17 [Ch.bx n0 b1 0 [(Sl ab_0_0 b_0.1 cb_0_0), (Sl ab_0_1 b_0.2 cb_0_1)] [] [], Ch.ro 0 (Sl ab_0_0 b_0.1 cb_0_0) b_0.1, Ch.ro 0 (Sl ab_0_1 b_0.2 cb_0_1) b_0.2] := H
    refine st (v := (B r14)) (rv_pick_t (congrArg B hb12) rfl) ?_
    refine st (v := (B r14)) (rv_assign rfl) ?_
    refine w_end ?_
    refine q_then ?_
    refine c_ret ?_
    obtain rfl := Option.some.inj h
    exact fin_ret (v := (B r14)) (results_ok Try.results64 (res_tmp (v := (B r14)) rfl res_nil) rfl) ⟨rfl, rfl⟩ (H.sel' [] rfl rfl)
   ·replace h := bif_f hb12 h
    refine st_skip (congrArg some hb12) ?_
    refine st_skip (congrArg some hb12) ?_
    refine st_skip (congrArg some hb12) ?_
    refine st (v := (B false)) (rv_pick_f (congrArg B hb12) rfl) ?_
    refine st (v := (B false)) (rv_assign rfl) ?_
    refine w_end ?_
    refine q_then ?_
    refine c_ret ?_
    obtain rfl := Option.some.inj h
    exact fin_ret (v := (B false)) (results_ok Try.results64 (res_tmp (v := (B false)) rfl res_nil) rfl) ⟨rfl, rfl⟩ (H.sel' [] rfl rfl)
  ·replace h := bif_f hb6 h
   refine st_skip (congrArg some hb6) ?_
   refine st_skip (congrArg some hb6) ?_
   refine st_skip (congrArg some hb6) ?_
   refine st (v := (B false)) (rv_pick_f (congrArg B hb6) rfl) ?_
   refine st (v := (B false)) (rv_move rfl) ?_
   refine st_skip rfl ?_
   refine st_skip rfl ?_
   refine st_skip rfl ?_
   refine st (v := (B false)) (rv_pick_f rfl rfl) ?_
   refine st (v := (B false)) (rv_assign rfl) ?_
   refine w_end ?_
   refine q_then ?_
   refine c_ret ?_
   obtain rfl := Option.some.inj h
   exact fin_ret (v := (B false)) (results_ok Try.results64 (res_tmp (v := (B false)) rfl res_nil) rfl) ⟨rfl, rfl⟩ (H.sel' [] rfl rfl)
 ·replace h := bif_f hb4 h
  refine st_skip (congrArg some hb4) ?_
  refine st_skip (congrArg some hb4) ?_
  refine st_skip (congrArg some hb4) ?_
  refine st_skip (congrArg some hb4) ?_
  refine st (v := (B false)) (rv_pick_f (congrArg B hb4) rfl) ?_
  refine st (v := (B false)) (rv_move rfl) ?_
  refine st_skip rfl ?_
  refine st_skip rfl ?_
  refine st_skip rfl ?_
  refine st (v := (B false)) (rv_pick_f rfl rfl) ?_
  refine st (v := (B false)) (rv_move rfl) ?_
  refine st_skip rfl ?_
  refine st_skip rfl ?_
  refine st_skip rfl ?_
  refine st (v := (B false)) (rv_pick_f rfl rfl) ?_
  refine st (v := (B false)) (rv_assign rfl) ?_
  refine w_end ?_
  refine q_then ?_
  refine c_ret ?_
  obtain rfl := Option.some.inj h
  exact fin_ret (v := (B false)) (results_ok Try.results64 (res_tmp (v := (B false)) rfl res_nil) rfl) ⟨rfl, rfl⟩ (H.sel' [] rfl rfl)

theorem c_spec_ValidBook {b_0 : (List (List Int)) × (List (List Int))} {ab_0_0 : Option Addr} {cb_0_0 : Nat} {ab_0_1 : Option Addr} {cb_0_1 : Nat} {r : Bool} (h : M.spec_ValidBook b_0 = some r) :
    Cal2 Try.prog 33 [(.agg #[(Sl ab_0_0 b_0.1 cb_0_0), (Sl ab_0_1 b_0.2 cb_0_1)])] [Ch.ro 0 (Sl ab_0_0 b_0.1 cb_0_0) b_0.1, Ch.ro 0 (Sl ab_0_1 b_0.2 cb_0_1) b_0.2] (fun n0 v L => v = (B r) ∧ L = []) := by
 refine cal2 (n := 5) Try.func33 rfl rfl rfl rfl ?_
 intro S0 σ0 n0 hn0 H
 unfold M.spec_ValidBook at h
 refine c_seq ?_
 refine rg ?_
 refine st_ex (ex_box (cs := [(Sl ab_0_0 b_0.1 cb_0_0), (Sl ab_0_1 b_0.2 cb_0_1)]) H hn0 rfl rfl) wn ?_
 rintro _ σ2 ⟨b1, rfl, H, -⟩
 refine st (v := (B false)) (rv_assign rfl) ?_
 refine w_end ?_
 refine q_then ?_
 refine c_seq ?_
 refine rg ?_
 have hc3 := H.cells 0 rfl
 refine st (v := (.agg #[(Sl ab_0_0 b_0.1 cb_0_0), (Sl ab_0_1 b_0.2 cb_0_1)])) (rv_load (cs := [(Sl ab_0_0 b_0.1 cb_0_0), (Sl ab_0_1 b_0.2 cb_0_1)]) Try.underlying39 rfl ti39 rfl rfl hc3) ?_
 obtain ⟨r4, hx5, h'⟩ := bind_some h
 clear h
 have h := h'; clear h'
 have hc6 := c_spec_validBook (ab_0_0 := ab_0_0) (cb_0_0 := cb_0_0) (ab_0_1 := ab_0_1) (cb_0_1 := cb_0_1) hx5
 refine st_call (cx_call hc6 (ent_f hc6.fn rfl) hn0 (show Hp S0 σ0 _ ([Ch.ro 0 (Sl ab_0_0 b_0.1 cb_0_0) b_0.1, Ch.ro 0 (Sl ab_0_1 b_0.2 cb_0_1) b_0.2] ++ [Ch.bx n0 b1 0 [(Sl ab_0_0 b_0.1 cb_0_0), (Sl ab_0_1 b_0.2 cb_0_1)] [] [], Ch.ro 0 (Sl ab_0_0 b_0.1 cb_0_0) b_0.1, Ch.ro 0 (Sl ab_0_1 b_0.2 cb_0_1) b_0.2]) from (H.sel' [1, 2, 0, 1, 2] rfl rfl))) wn ?_
 rintro _ σ7 ⟨_, ⟨rfl, rfl⟩, H, -⟩
 replace H : Hp S0 σ0 σ7 [Ch.bx n0 b1 0 [(Sl ab_0_0 b_0.1 cb_0_0), (Sl ab_0_1 b_0.2 cb_0_1)] [] [], Ch.ro 0 (Sl ab_0_0 b_0.1 cb_0_0) b_0.1, Ch.ro 0 (Sl ab_0_1 b_0.2 cb_0_1) b_0.2] := H
 refine st (v := (B r4)) (rv_assign rfl) ?_
 refine w_end ?_
 refine q_then ?_
 refine c_ret ?_
 obtain rfl := Option.some.inj h
 exact fin_ret (v := (B r4)) (results_ok Try.results33 (res_tmp (v := (B r4)) rfl res_nil) rfl) ⟨rfl, rfl⟩ (H.sel' [] rfl rfl)

theorem c_laws_toIntS {a_0 : List Int} {aa_0 : Option Addr} {ca_0 : Nat} {r : (List Int)} (h : M.laws_toIntS a_0 = some r) :
    Cal2 Try.prog 37 [(Sl aa_0 a_0 ca_0)] [Ch.ro 0 (Sl aa_0 a_0 ca_0) a_0] (fun n0 v L => ∃ (az1 : Option Addr), ∃ (cz2 : Nat), v = (Sl az1 r cz2) ∧ L = [Ch.own n0 n0 (Sl az1 r cz2) r] ∧ cz2 = r.length) := by
 refine cal2 (n := 22) Try.func37 rfl rfl rfl rfl ?_
 intro S0 σ0 n0 hn0 H
 unfold M.laws_toIntS at h
 refine c_seq ?_
 refine rg ?_
 refine st (v := (.slice none 0 0)) (rv_assign rfl) ?_
 refine w_end ?_
 refine q_then ?_
 refine c_seq ?_
 refine rg ?_
 refine st (v := (Sl aa_0 a_0 ca_0)) (rv_move rfl) ?_
 refine st (v := (I (a_0.length : Int))) (rv_len Try.underlying29 rfl) ?_
 obtain ⟨xs1, hx2, h'⟩ := bind_some h
 clear h
 have h := h'; clear h'
 refine st_ex (ex_make (el := n0) (z0 := (0 : Int)) (zs := [(I 0)]) H hn0 Try.underlying29 ti3 rfl rfl rfl (by decide) hx2 rfl rfl) wn ?_
 rintro _ σ6 ⟨b3, c4, rfl, ht5, H, -⟩
 replace ht5 := ht5.trans (gmake_len hx2).symm
 refine st (v := (Sl (some ⟨b3, 0, none⟩) xs1 c4)) (rv_assign rfl) ?_
 refine w_end ?_
 refine q_then ?_
 refine c_seq ?_
 refine c_seq ?_
 refine rg ?_
 refine st (v := (I 0)) (rv_assign rfl) ?_
 refine w_end ?_
 refine q_then ?_
 obtain ⟨o7, hj, h'⟩ := bind_some h
 clear h
 refine c_cut (fun e a w => e = .normal ∧ ∃ (ρ : Nat → Value) (σ : St), a = fr 22 (updL ρ [(3, (Sl (some ⟨b3, 0, none⟩) o7 c4))]) ∧ w = σ.w ∧ Hp S0 σ0 σ [Ch.own n0 n0 (Sl (some ⟨b3, 0, none⟩) o7 c4) o7] ∧ c4 = o7.length ∧ o7.length = xs1.length) ?_ ?_
 ·clear h'
  rename _ = some o7 => h
  refine c_blk ?_
  refine wp_loopM _ h (fun s8 a w => ∃ (ρ : Nat → Value) (σ : St), a = fr 22 (updL ρ [(0, (Sl aa_0 a_0 ca_0)), (3, (Sl (some ⟨b3, 0, none⟩) s8.1 c4)), (4, (I s8.2))]) ∧ w = σ.w ∧ Hp S0 σ0 σ [Ch.ro 0 (Sl aa_0 a_0 ca_0) a_0, Ch.own n0 n0 (Sl (some ⟨b3, 0, none⟩) s8.1 c4) s8.1] ∧ c4 = s8.1.length ∧ s8.1.length = xs1.length) ⟨_, σ6, fr_join ⟨rfl, rfl, rfl, trivial⟩, rfl, H.sel' [1, 0] rfl rfl, ht5, rfl⟩ ?_
  clear h H
  rintro s8 a w o ⟨ρ, σ9, rfl, rfl, H, ht10, hn11⟩ h hres
  refine c_seq ?_
  refine c_seq ?_
  refine rg ?_
  refine st (v := (I s8.2)) (rv_move rfl) ?_
  refine st (v := (Sl aa_0 a_0 ca_0)) (rv_move rfl) ?_
  refine st (v := (I (a_0.length : Int))) (rv_len Try.underlying29 rfl) ?_
  refine st (v := (B (decide (s8.2 < (a_0.length : Int))))) (rv_lss (a := s8.2) (b := (a_0.length : Int)) rfl rfl) ?_
  refine w_end ?_
  refine q_then ?_
  refine cd_cond (decide (s8.2 < (a_0.length : Int))) rfl (fun hb12 => ?_) (fun hb12 => ?_)
  ·replace h := bif_t hb12 h
   refine c_skip ?_
   refine q_then ?_
   refine c_seq ?_
   refine c_blk ?_
   refine rg ?_
   refine st (v := (Sl (some ⟨b3, 0, none⟩) s8.1 c4)) (rv_move rfl) ?_
   refine st (v := (I s8.2)) (rv_move rfl) ?_
   refine st (v := (Sl aa_0 a_0 ca_0)) (rv_move rfl) ?_
   refine st (v := (I s8.2)) (rv_move rfl) ?_
   obtain ⟨x13, hx14, h'⟩ := bind_some h
   clear h
   have h := h'; clear h'
   obtain ⟨b16, o17, hi15, -⟩ := (H.ro 0 rfl).ix hx14
   refine st (v := (pt b16 o17)) (rv_ix Try.underlying29 ti3 rfl rfl hi15) ?_
   have hc18 := ((H.ro 0 rfl).at hx14 hi15).int
   refine st (v := (I x13)) (rv_load1 Try.underlying3 rfl rfl hc18) ?_
   obtain ⟨x19, hx20, h'⟩ := bind_some h
   clear h
   have h := h'; clear h'
   obtain ⟨b22, o23, hi21, -⟩ := (H.own 1 rfl).ix hx20
   refine st (v := (pt b22 o23)) (rv_ix Try.underlying29 ti3 rfl rfl hi21) ?_
   refine st_exS (ex_store_own (e' := x13) (vs := [(I x13)]) (k := 0) H (i := 1) rfl ti3 hx20 hi21 rfl rfl rfl rfl rfl (Nat.le_of_ble_eq_true rfl) (by simp [plain]) (by rintro _ rfl; exact rfl)) wn ?_
   rintro σ24 ⟨H, -⟩
   have hsl : (Sl (some ⟨b3, 0, none⟩) s8.1 c4) = (Sl (some ⟨b3, 0, none⟩) (s8.1.set s8.2.toNat x13) c4) := sl_len List.length_set.symm
   rw [hsl]; rw [hsl] at H; clear hsl
   refine w_end ?_
   refine q_blk ?_
   refine q_then ?_
   refine rg ?_
   refine st (v := (I s8.2)) (rv_move rfl) ?_
   refine st (v := (I (w64 (s8.2 + 1)))) (rv_add (a := s8.2) (b := 1) rfl rfl) ?_
   refine st (v := (I (w64 (s8.2 + 1)))) (rv_assign rfl) ?_
   refine w_end ?_
   refine q_then ?_
   obtain rfl := Option.some.inj h
   exact ⟨_, rfl, _, σ24, fr_join ⟨rfl, rfl, rfl, trivial⟩, rfl, H.sel' [1, 0] rfl rfl, (ht10.trans List.length_set.symm), (List.length_set.trans hn11)⟩
  ·replace h := bif_f hb12 h
   refine c_exit ?_
   refine q_then_x ?_
   refine q_then_x ?_
   refine q_blk_hit ?_
   obtain rfl := Option.some.inj h
   obtain rfl := hres _ rfl
   exact ⟨rfl, _, σ9, fr_join ⟨rfl, trivial⟩, rfl, H.sel' [1] rfl rfl, ht10, hn11⟩
 ·clear hj
  have h := h'
  clear h' H
  rintro e a w ⟨rfl, ρ, σ25, rfl, rfl, H, ht26, hn27⟩
  refine q_then ?_
  refine c_seq ?_
  refine rg ?_
  refine st (v := (Sl (some ⟨b3, 0, none⟩) o7 c4)) (rv_move rfl) ?_
  refine st (v := (Sl (some ⟨b3, 0, none⟩) o7 c4)) (rv_assign rfl) ?_
  refine w_end ?_
  refine q_then ?_
  refine c_ret ?_
  obtain rfl := Option.some.inj h
  exact fin_ret (v := (Sl (some ⟨b3, 0, none⟩) o7 c4)) (results_ok Try.results37 (res_tmp (v := (Sl (some ⟨b3, 0, none⟩) o7 c4)) rfl res_nil) rfl) ⟨(some ⟨b3, 0, none⟩), c4, rfl, rfl, ht26⟩ (H.sel' [0] rfl rfl)

theorem c_laws_toIntSS {a_0 : List (List Int)} {aa_0 : Option Addr} {ca_0 : Nat} {r : (List (List Int))} (h : M.laws_toIntSS a_0 = some r) :
    Cal2 Try.prog 70 [(Sl aa_0 a_0 ca_0)] [Ch.ro 0 (Sl aa_0 a_0 ca_0) a_0] (fun n0 v L => ∃ (az1 : Option Addr), ∃ (cz2 : Nat), v = (Sl az1 r cz2) ∧ L = [Ch.own n0 n0 (Sl az1 r cz2) r] ∧ cz2 = r.length) := by
 refine cal2 (n := 23) Try.func70 rfl rfl rfl rfl ?_
 intro S0 σ0 n0 hn0 H
 unfold M.laws_toIntSS at h
 refine c_seq ?_
 refine rg ?_
 refine st (v := (.slice none 0 0)) (rv_assign rfl) ?_
 refine w_end ?_
 refine q_then ?_
 refine c_seq ?_
 refine rg ?_
 refine st (v := (Sl aa_0 a_0 ca_0)) (rv_move rfl) ?_
 refine st (v := (I (a_0.length : Int))) (rv_len Try.underlying27 rfl) ?_
 obtain ⟨xs1, hx2, h'⟩ := bind_some h
 clear h
 have h := h'; clear h'
 refine st_ex (ex_make (el := n0) (z0 := ([] : List Int)) (zs := [(.slice none 0 0)]) H hn0 Try.underlying27 ti29 rfl rfl (⟨_, rfl, RS.nil⟩) (by decide) hx2 rfl rfl) wn ?_
 rintro _ σ6 ⟨b3, c4, rfl, ht5, H, -⟩
 replace ht5 := ht5.trans (gmake_len hx2).symm
 refine st (v := (Sl (some ⟨b3, 0, none⟩) xs1 c4)) (rv_assign rfl) ?_
 refine w_end ?_
 refine q_then ?_
 refine c_seq ?_
 refine c_seq ?_
 refine rg ?_
 refine st (v := (I 0)) (rv_assign rfl) ?_
 refine w_end ?_
 refine q_then ?_
 obtain ⟨o7, hj, h'⟩ := bind_some h
 clear h
 refine c_cut (fun e a w => e = .normal ∧ ∃ (ρ : Nat → Value) (σ : St), a = fr 23 (updL ρ [(3, (Sl (some ⟨b3, 0, none⟩) o7 c4))]) ∧ w = σ.w ∧ Hp S0 σ0 σ [Ch.own n0 n0 (Sl (some ⟨b3, 0, none⟩) o7 c4) o7] ∧ c4 = o7.length ∧ o7.length = xs1.length) ?_ ?_
 ·clear h'
  rename _ = some o7 => h
  refine c_blk ?_
  refine wp_loopM _ h (fun s8 a w => ∃ (ρ : Nat → Value) (σ : St), a = fr 23 (updL ρ [(0, (Sl aa_0 a_0 ca_0)), (3, (Sl (some ⟨b3, 0, none⟩) s8.1 c4)), (4, (I s8.2))]) ∧ w = σ.w ∧ Hp S0 σ0 σ [Ch.ro 0 (Sl aa_0 a_0 ca_0) a_0, Ch.own n0 n0 (Sl (some ⟨b3, 0, none⟩) s8.1 c4) s8.1] ∧ c4 = s8.1.length ∧ s8.1.length = xs1.length) ⟨_, σ6, fr_join ⟨rfl, rfl, rfl, trivial⟩, rfl, H.sel' [1, 0] rfl rfl, ht5, rfl⟩ ?_
  clear h H
  rintro s8 a w o ⟨ρ, σ9, rfl, rfl, H, ht10, hn11⟩ h hres
  refine c_seq ?_
  refine c_seq ?_
  refine rg ?_
  refine st (v := (I s8.2)) (rv_move rfl) ?_
  refine st (v := (Sl aa_0 a_0 ca_0)) (rv_move rfl) ?_
  refine st (v := (I (a_0.length : Int))) (rv_len Try.underlying27 rfl) ?_
  refine st (v := (B (decide (s8.2 < (a_0.length : Int))))) (rv_lss (a := s8.2) (b := (a_0.length : Int)) rfl rfl) ?_
  refine w_end ?_
  refine q_then ?_
  refine cd_cond (decide (s8.2 < (a_0.length : Int))) rfl (fun hb12 => ?_) (fun hb12 => ?_)
  ·replace h := bif_t hb12 h
   refine c_skip ?_
   refine q_then ?_
   refine c_seq ?_
   refine c_blk ?_
   refine rg ?_
   refine st (v := (Sl (some ⟨b3, 0, none⟩) s8.1 c4)) (rv_move rfl) ?_
   refine st (v := (I s8.2)) (rv_move rfl) ?_
   refine st (v := (Sl aa_0 a_0 ca_0)) (rv_move rfl) ?_
   refine st (v := (I s8.2)) (rv_move rfl) ?_
   obtain ⟨x13, hx14, h'⟩ := bind_some h
   clear h
   have h := h'; clear h'
   obtain ⟨b16, o17, hi15, -⟩ := (H.ro 0 rfl).ix hx14
   refine st (v := (pt b16 o17)) (rv_ix Try.underlying27 ti29 rfl rfl hi15) ?_
   obtain ⟨v21, hc22, hR20⟩ := ((H.ro 0 rfl).at hx14 hi15).slice
   obtain ⟨a18, c19, rfl⟩ := hR20.isSl
   replace H := H.add (d := Ch.ro 0 (Sl a18 x13 c19) x13) hR20 (fun _ h => h)
   clear hR20
   refine st (v := (Sl a18 x13 c19)) (rv_load1 Try.underlying29 rfl rfl hc22) ?_
   obtain ⟨r23, hx24, h'⟩ := bind_some h
   clear h
   have h := h'; clear h'
   have hc25 := c_laws_toIntS (aa_0 := a18) (ca_0 := c19) hx24
   refine st_call (cx_call hc25 (ent_f hc25.fn rfl) hn0 (show Hp S0 σ0 _ ([Ch.ro 0 (Sl a18 x13 c19) x13] ++ [Ch.ro 0 (Sl a18 x13 c19) x13, Ch.ro 0 (Sl aa_0 a_0 ca_0) a_0, Ch.own n0 n0 (Sl (some ⟨b3, 0, none⟩) s8.1 c4) s8.1]) from (H.sel' [0, 0, 1, 2] rfl rfl))) wn ?_
   rintro _ σ29 ⟨_, ⟨a26, c27, rfl, rfl, ht28⟩, H, -⟩
   replace H : Hp S0 σ0 σ29 [Ch.own n0 n0 (Sl a26 r23 c27) r23, Ch.ro 0 (Sl a18 x13 c19) x13, Ch.ro 0 (Sl aa_0 a_0 ca_0) a_0, Ch.own n0 n0 (Sl (some ⟨b3, 0, none⟩) s8.1 c4) s8.1] := H
   obtain ⟨x30, hx31, h'⟩ := bind_some h
   clear h
   have h := h'; clear h'
   obtain ⟨b33, o34, hi32, -⟩ := (H.own 3 rfl).ix hx31
   refine st (v := (pt b33 o34)) (rv_ix Try.underlying27 ti29 rfl rfl hi32) ?_
   obtain ⟨σ35, hw36, H, -⟩ := H.pub 0 rfl (Nat.le_refl _)
   rw [← hw36]; clear hw36
   refine st_exS (ex_store_own (e' := r23) (vs := [(Sl a26 r23 c27)]) (k := 0) H (i := 3) rfl ti29 hx31 hi32 rfl rfl rfl rfl rfl (Nat.le_of_ble_eq_true rfl) (by simp [plain]) (by rintro _ ⟨_, rfl, hR39⟩; exact ⟨_, rfl, (H.ro 0 rfl)⟩)) wn ?_
   rintro σ40 ⟨H, -⟩
   have hsl : (Sl (some ⟨b3, 0, none⟩) s8.1 c4) = (Sl (some ⟨b3, 0, none⟩) (s8.1.set s8.2.toNat r23) c4) := sl_len List.length_set.symm
   rw [hsl]; rw [hsl] at H; clear hsl
   refine w_end ?_
   refine q_blk ?_
   refine q_then ?_
   refine rg ?_
   refine st (v := (I s8.2)) (rv_move rfl) ?_
   refine st (v := (I (w64 (s8.2 + 1)))) (rv_add (a := s8.2) (b := 1) rfl rfl) ?_
   refine st (v := (I (w64 (s8.2 + 1)))) (rv_assign rfl) ?_
   refine w_end ?_
   refine q_then ?_
   obtain rfl := Option.some.inj h
   exact ⟨_, rfl, _, σ40, fr_join ⟨rfl, rfl, rfl, trivial⟩, rfl, H.sel' [3, 0] rfl rfl, (ht10.trans List.length_set.symm), (List.length_set.trans hn11)⟩
  ·replace h := bif_f hb12 h
   refine c_exit ?_
   refine q_then_x ?_
   refine q_then_x ?_
   refine q_blk_hit ?_
   obtain rfl := Option.some.inj h
   obtain rfl := hres _ rfl
   exact ⟨rfl, _, σ9, fr_join ⟨rfl, trivial⟩, rfl, H.sel' [1] rfl rfl, ht10, hn11⟩
 ·clear hj
  have h := h'
  clear h' H
  rintro e a w ⟨rfl, ρ, σ41, rfl, rfl, H, ht42, hn43⟩
  refine q_then ?_
  refine c_seq ?_
  refine rg ?_
  refine st (v := (Sl (some ⟨b3, 0, none⟩) o7 c4)) (rv_move rfl) ?_
  refine st (v := (Sl (some ⟨b3, 0, none⟩) o7 c4)) (rv_assign rfl) ?_
  refine w_end ?_
  refine q_then ?_
  refine c_ret ?_
  obtain rfl := Option.some.inj h
  exact fin_ret (v := (Sl (some ⟨b3, 0, none⟩) o7 c4)) (results_ok Try.results70 (res_tmp (v := (Sl (some ⟨b3, 0, none⟩) o7 c4)) rfl res_nil) rfl) ⟨(some ⟨b3, 0, none⟩), c4, rfl, rfl, ht42⟩ (H.sel' [0] rfl rfl)

theorem c_laws_toBook {a_0 : (List (List Int)) × (List (List Int))} {aa_0_0 : Option Addr} {ca_0_0 : Nat} {aa_0_1 : Option Addr} {ca_0_1 : Nat} {r : ((List (List Int)) × (List (List Int)))} (h : M.laws_toBook a_0 = some r) :
    Cal2 Try.prog 34 [(.agg #[(Sl aa_0_0 a_0.1 ca_0_0), (Sl aa_0_1 a_0.2 ca_0_1)])] [Ch.ro 0 (Sl aa_0_0 a_0.1 ca_0_0) a_0.1, Ch.ro 0 (Sl aa_0_1 a_0.2 ca_0_1) a_0.2] (fun n0 v L => ∃ (az1 : Option Addr), ∃ (cz2 : Nat), ∃ (az4 : Option Addr), ∃ (cz5 : Nat), v = (.agg #[(Sl az1 r.1 cz2), (Sl az4 r.2 cz5)]) ∧ L = [Ch.own n0 n0 (Sl az1 r.1 cz2) r.1, Ch.own n0 n0 (Sl az4 r.2 cz5) r.2] ∧ cz2 = r.1.length ∧ cz5 = r.2.length) := by
 refine cal2 (n := 13) Try.func34 rfl rfl rfl rfl ?_
 intro S0 σ0 n0 hn0 H
 unfold M.laws_toBook at h
 refine c_seq ?_
 refine rg ?_
 refine st_ex (ex_box (cs := [(Sl aa_0_0 a_0.1 ca_0_0), (Sl aa_0_1 a_0.2 ca_0_1)]) H hn0 rfl rfl) wn ?_
 rintro _ σ2 ⟨b1, rfl, H, -⟩
 refine st_ex (ex_alloc (cs := [(.slice none 0 0), (.slice none 0 0)]) H hn0 ti39 rfl) wn ?_
 rintro _ σ4 ⟨b3, rfl, H, -⟩
 refine w_end ?_
 refine q_then ?_
 refine c_seq ?_
 refine rg ?_
 refine st_ex (ex_alloc (cs := [(.slice none 0 0), (.slice none 0 0)]) H hn0 ti39 rfl) wn ?_
 rintro _ σ6 ⟨b5, rfl, H, -⟩
 refine w_end ?_
 refine q_then ?_
 refine c_seq ?_
 refine rg ?_
 refine st (v := (pt b1 0)) (rv_fieldAddr (off := 0) (ft := 27) Try.underlying49 rfl ti27 rfl rfl) ?_
 have hc7 := H.cell (u := (Sl aa_0_0 a_0.1 ca_0_0)) (o' := 0) 2 0 rfl rfl rfl
 refine st (v := (Sl aa_0_0 a_0.1 ca_0_0)) (rv_load1 Try.underlying27 rfl rfl hc7) ?_
 obtain ⟨r8, hx9, h'⟩ := bind_some h
 clear h
 have h := h'; clear h'
 have hc10 := c_laws_toIntSS (aa_0 := aa_0_0) (ca_0 := ca_0_0) hx9
 refine st_call (cx_call hc10 (ent_f hc10.fn rfl) hn0 (show Hp S0 σ0 _ ([Ch.ro 0 (Sl aa_0_0 a_0.1 ca_0_0) a_0.1] ++ [Ch.bx n0 b5 0 [(.slice none 0 0), (.slice none 0 0)] [] [], Ch.bx n0 b3 0 [(.slice none 0 0), (.slice none 0 0)] [] [], Ch.bx n0 b1 0 [(Sl aa_0_0 a_0.1 ca_0_0), (Sl aa_0_1 a_0.2 ca_0_1)] [] [], Ch.ro 0 (Sl aa_0_0 a_0.1 ca_0_0) a_0.1, Ch.ro 0 (Sl aa_0_1 a_0.2 ca_0_1) a_0.2]) from (H.sel' [3, 0, 1, 2, 3, 4] rfl rfl))) wn ?_
 rintro _ σ14 ⟨_, ⟨a11, c12, rfl, rfl, ht13⟩, H, -⟩
 replace H : Hp S0 σ0 σ14 [Ch.own n0 n0 (Sl a11 r8 c12) r8, Ch.bx n0 b5 0 [(.slice none 0 0), (.slice none 0 0)] [] [], Ch.bx n0 b3 0 [(.slice none 0 0), (.slice none 0 0)] [] [], Ch.bx n0 b1 0 [(Sl aa_0_0 a_0.1 ca_0_0), (Sl aa_0_1 a_0.2 ca_0_1)] [] [], Ch.ro 0 (Sl aa_0_0 a_0.1 ca_0_0) a_0.1, Ch.ro 0 (Sl aa_0_1 a_0.2 ca_0_1) a_0.2] := H
 refine st (v := (pt b5 0)) (rv_fieldAddr (off := 0) (ft := 27) Try.underlying39 rfl ti27 rfl rfl) ?_
 refine st_exS (ex_store_box (k := 0) (cs := [(.slice none 0 0), (.slice none 0 0)]) (vs := [(Sl a11 r8 c12)]) (cs' := [(Sl a11 r8 c12), (.slice none 0 0)]) H (i := 1) rfl ti27 rfl rfl rfl rfl rfl (Nat.le_of_ble_eq_true rfl) (by simp [plain]) rfl) wn ?_
 rintro σ15 ⟨H, -⟩
 refine w_end ?_
 refine q_then ?_
 refine c_seq ?_
 refine rg ?_
 refine st (v := (pt b1 1)) (rv_fieldAddr (off := 1) (ft := 27) Try.underlying49 rfl ti27 rfl rfl) ?_
 have hc16 := H.cell (u := (Sl aa_0_1 a_0.2 ca_0_1)) (o' := 1) 3 1 rfl rfl rfl
 refine st (v := (Sl aa_0_1 a_0.2 ca_0_1)) (rv_load1 Try.underlying27 rfl rfl hc16) ?_
 obtain ⟨r17, hx18, h'⟩ := bind_some h
 clear h
 have h := h'; clear h'
 have hc19 := c_laws_toIntSS (aa_0 := aa_0_1) (ca_0 := ca_0_1) hx18
 refine st_call (cx_call hc19 (ent_f hc19.fn rfl) hn0 (show Hp S0 σ0 _ ([Ch.ro 0 (Sl aa_0_1 a_0.2 ca_0_1) a_0.2] ++ [Ch.bx n0 b5 0 [(Sl a11 r8 c12), (.slice none 0 0)] [] [], Ch.own n0 n0 (Sl a11 r8 c12) r8, Ch.bx n0 b3 0 [(.slice none 0 0), (.slice none 0 0)] [] [], Ch.bx n0 b1 0 [(Sl aa_0_0 a_0.1 ca_0_0), (Sl aa_0_1 a_0.2 ca_0_1)] [] [], Ch.ro 0 (Sl aa_0_0 a_0.1 ca_0_0) a_0.1, Ch.ro 0 (Sl aa_0_1 a_0.2 ca_0_1) a_0.2]) from (H.sel' [5, 0, 1, 2, 3, 4, 5] rfl rfl))) wn ?_
 rintro _ σ23 ⟨_, ⟨a20, c21, rfl, rfl, ht22⟩, H, -⟩
 replace H : Hp S0 σ0 σ23 [Ch.own n0 n0 (Sl a20 r17 c21) r17, Ch.bx n0 b5 0 [(Sl a11 r8 c12), (.slice none 0 0)] [] [], Ch.own n0 n0 (Sl a11 r8 c12) r8, Ch.bx n0 b3 0 [(.slice none 0 0), (.slice none 0 0)] [] [], Ch.bx n0 b1 0 [(Sl aa_0_0 a_0.1 ca_0_0), (Sl aa_0_1 a_0.2 ca_0_1)] [] [], Ch.ro 0 (Sl aa_0_0 a_0.1 ca_0_0) a_0.1, Ch.ro 0 (Sl aa_0_1 a_0.2 ca_0_1) a_0.2] := H
 refine st (v := (pt b5 1)) (rv_fieldAddr (off := 1) (ft := 27) Try.underlying39 rfl ti27 rfl rfl) ?_
 refine st_exS (ex_store_box (k := 1) (cs := [(Sl a11 r8 c12), (.slice none 0 0)]) (vs := [(Sl a20 r17 c21)]) (cs' := [(Sl a11 r8 c12), (Sl a20 r17 c21)]) H (i := 1) rfl ti27 rfl rfl rfl rfl rfl (Nat.le_of_ble_eq_true rfl) (by simp [plain]) rfl) wn ?_
 rintro σ24 ⟨H, -⟩
 refine w_end ?_
 refine q_then ?_
 refine c_seq ?_
 refine rg ?_
 have hc25 := H.cells 0 rfl
 refine st (v := (.agg #[(Sl a11 r8 c12), (Sl a20 r17 c21)])) (rv_load (cs := [(Sl a11 r8 c12), (Sl a20 r17 c21)]) Try.underlying39 rfl ti39 rfl rfl hc25) ?_
 refine st_exS (ex_store_box (k := 0) (cs := [(.slice none 0 0), (.slice none 0 0)]) (vs := [(Sl a11 r8 c12), (Sl a20 r17 c21)]) (cs' := [(Sl a11 r8 c12), (Sl a20 r17 c21)]) H (i := 3) rfl ti39 rfl rfl rfl rfl rfl (Nat.le_of_ble_eq_true rfl) (by simp [plain]) rfl) wn ?_
 rintro σ26 ⟨H, -⟩
 refine w_end ?_
 refine q_then ?_
 refine c_ret ?_
 obtain rfl := Option.some.inj h
 exact fin_ret (v := (.agg #[(Sl a11 r8 c12), (Sl a20 r17 c21)])) (results_ok Try.results34 (res_cell rfl (run_cellRes (cs := [(Sl a11 r8 c12), (Sl a20 r17 c21)]) Try.underlying39 rfl ti39 rfl (H.cells 0 rfl)) res_nil) rfl) ⟨a11, c12, a20, c21, rfl, rfl, ht13, ht22⟩ (H.sel' [3, 2] rfl rfl)

theorem c_impl_validCoords {coords_0 : List Int} {acoords_0 : Option Addr} {ccoords_0 : Nat} {r : Bool} (h : M.impl_validCoords coords_0 = some r) :
    Cal2 Try.prog 68 [(Sl acoords_0 coords_0 ccoords_0)] [Ch.ro 0 (Sl acoords_0 coords_0 ccoords_0) coords_0] (fun n0 v L => v = (B r) ∧ L = []) := by
 refine cal2 (n := 18) Try.func68 rfl rfl rfl rfl ?_
 intro S0 σ0 n0 hn0 H
 unfold M.impl_validCoords at h
 refine c_seq ?_
 refine rg ?_
 refine st (v := (B false)) (rv_assign rfl) ?_
 refine w_end ?_
 refine q_then ?_
 refine c_seq ?_
 refine c_seq ?_
 refine rg ?_
 refine st (v := (Sl acoords_0 coords_0 ccoords_0)) (rv_move rfl) ?_
 refine st (v := (I (coords_0.length : Int))) (rv_len Try.underlying29 rfl) ?_
 refine st (v := (I 0)) (rv_move rfl) ?_
 refine w_end ?_
 refine q_then ?_
 obtain ⟨o1, hj, h'⟩ := bind_some h
 clear h
 refine c_cut (fun e a w => (∃ t, o1 = (.inl t) ∧ e = .normal ∧ ∃ (ρ : Nat → Value) (σ : St), a = fr 18 (updL ρ []) ∧ w = σ.w ∧ Hp S0 σ0 σ []) ∨ (∃ t, o1 = (.inr t) ∧ e = .ret ∧ ∃ (ρ : Nat → Value) (σ : St), a = fr 18 (updL ρ [(2, (B t))]) ∧ w = σ.w ∧ Hp S0 σ0 σ [])) ?_ ?_
 ·clear h'
  rename _ = some o1 => h
  refine c_blk ?_
  refine wp_loopM _ h (fun s2 a w => ∃ (ρ : Nat → Value) (σ : St), a = fr 18 (updL ρ [(5, (Sl acoords_0 coords_0 ccoords_0)), (6, (I (coords_0.length : Int))), (7, (I s2))]) ∧ w = σ.w ∧ Hp S0 σ0 σ [Ch.ro 0 (Sl acoords_0 coords_0 ccoords_0) coords_0]) ⟨_, σ0, fr_join ⟨rfl, rfl, rfl, trivial⟩, rfl, H.sel' [0] rfl rfl⟩ ?_
  clear h H
  rintro s2 a w o ⟨ρ, σ3, rfl, rfl, H⟩ h hres
  refine c_seq ?_
  refine rg ?_
  refine st (v := (B (decide (s2 < (coords_0.length : Int))))) (rv_lss (a := s2) (b := (coords_0.length : Int)) rfl rfl) ?_
  refine w_end ?_
  refine q_then ?_
  refine c_seq ?_
  refine cd_cond (decide (s2 < (coords_0.length : Int))) rfl (fun hb4 => ?_) (fun hb4 => ?_)
  ·replace h := bif_t hb4 h
   refine c_skip ?_
   refine q_then ?_
   refine c_seq ?_
   refine c_blk ?_
   refine c_seq ?_
   refine rg ?_
   obtain ⟨x5, hx6, h'⟩ := bind_some h
   clear h
   have h := h'; clear h'
   obtain ⟨b8, o9, hi7, -⟩ := (H.ro 0 rfl).ix hx6
   refine st (v := (pt b8 o9)) (rv_ix Try.underlying29 ti3 rfl rfl hi7) ?_
   have hc10 := ((H.ro 0 rfl).at hx6 hi7).int
   refine st (v := (I x5)) (rv_load1 Try.underlying3 rfl rfl hc10) ?_
   refine st (v := (I x5)) (rv_assign rfl) ?_
   refine w_end ?_
   refine q_then ?_
   refine c_seq ?_
   obtain ⟨o11, hj, h'⟩ := bind_some h
   clear h
   refine c_cut (fun e a w => e = .normal ∧ ∃ (ρ : Nat → Value) (σ : St), a = fr 18 (updL ρ [(5, (Sl acoords_0 coords_0 ccoords_0)), (6, (I (coords_0.length : Int))), (7, (I s2)), (16, (B o11))]) ∧ w = σ.w ∧ Hp S0 σ0 σ [Ch.ro 0 (Sl acoords_0 coords_0 ccoords_0) coords_0]) ?_ ?_
   ·clear h'
    rename _ = some o11 => h
    refine rg ?_
    refine st (v := (I x5)) (rv_move rfl) ?_
    refine st (v := (B (decide (x5 < (-100))))) (rv_lss (a := x5) (b := (-100)) rfl rfl) ?_
    refine st (v := (B (decide (x5 < (-100))))) (rv_move rfl) ?_
    rcases Bool.eq_false_or_eq_true (decide (x5 < (-100))) with hb12 | hb12
    ·replace h := bif_t hb12 h
     refine st_skip (congrArg some hb12) ?_
     refine st_skip (congrArg some hb12) ?_
     refine st (v := (B true)) (rv_pick_t (congrArg B hb12) rfl) ?_
     refine w_end ?_
     obtain rfl := Option.some.inj h
     exact ⟨rfl, _, σ3, fr_join ⟨rfl, rfl, rfl, rfl, trivial⟩, rfl, H.sel' [0] rfl rfl⟩
    ·replace h := bif_f hb12 h
     refine st_g (v := (I x5)) (congrArg some hb12) (rv_move rfl) ?_
     refine st_g (v := (B (decide (100 < x5)))) (congrArg some hb12) (rv_gtr (a := x5) (b := 100) rfl rfl) ?_
     refine st (v := (B (decide (100 < x5)))) (rv_pick_f (congrArg B hb12) rfl) ?_
     refine w_end ?_
     obtain rfl := Option.some.inj h
     exact ⟨rfl, _, σ3, fr_join ⟨rfl, rfl, rfl, rfl, trivial⟩, rfl, H.sel' [0] rfl rfl⟩
   ·clear hj
    have h := h'
    clear h' H
    rintro e a w ⟨rfl, ρ, σ13, rfl, rfl, H⟩
    refine q_then ?_
    refine cd_cond o11 rfl (fun hb14 => ?_) (fun hb14 => ?_)
    ·replace h := bif_t hb14 h
     refine c_seq ?_
     refine rg ?_
     refine st (v := (B false)) (rv_assign rfl) ?_
     refine w_end ?_
     refine q_then ?_
     refine c_ret ?_
     refine q_blk_r ?_
     refine q_then_r ?_
     refine q_then_r ?_
     refine q_blk_r ?_
     obtain rfl := Option.some.inj h
     obtain rfl := hres _ rfl
     exact .inr (⟨_, rfl, rfl, _, σ13, fr_join ⟨rfl, trivial⟩, rfl, H.sel' [] rfl rfl⟩)
    ·replace h := bif_f hb14 h
     refine c_skip ?_
     refine q_blk ?_
     refine q_then ?_
     refine rg ?_
     refine st (v := (I (w64 (s2 + 1)))) (rv_add (a := s2) (b := 1) rfl rfl) ?_
     refine st (v := (I (w64 (s2 + 1)))) (rv_move rfl) ?_
     refine w_end ?_
     refine q_then ?_
     obtain rfl := Option.some.inj h
     exact ⟨_, rfl, _, σ13, fr_join ⟨rfl, rfl, rfl, trivial⟩, rfl, H.sel' [0] rfl rfl⟩
  ·replace h := bif_f hb4 h
   refine c_exit ?_
   refine q_then_x ?_
   refine q_then_x ?_
   refine q_blk_hit ?_
   obtain rfl := Option.some.inj h
   obtain rfl := hres _ rfl
   exact .inl ⟨_, rfl, rfl, _, σ3, fr_join trivial, rfl, H.sel' [] rfl rfl⟩
 ·clear hj
  have h := h'
  clear h' H
  rintro e a w (⟨t15, rfl, rfl, ρ, σ16, rfl, rfl, H⟩ | ⟨t17, rfl, rfl, ρ, σ18, rfl, rfl, H⟩)
  ·replace h := selim_l h
   refine q_then ?_
   refine c_seq ?_
   refine rg ?_
   refine st (v := (B true)) (rv_assign rfl) ?_
   refine w_end ?_
   refine q_then ?_
   refine c_ret ?_
   obtain rfl := Option.some.inj h
   exact fin_ret (v := (B true)) (results_ok Try.results68 (res_tmp (v := (B true)) rfl res_nil) rfl) ⟨rfl, rfl⟩ (H.sel' [] rfl rfl)
  ·replace h := selim_r h
   refine q_then_r ?_
   obtain rfl := Option.some.inj h
   exact fin_ret (v := (B t17)) (results_ok Try.results68 (res_tmp (v := (B t17)) rfl res_nil) rfl) ⟨rfl, rfl⟩ (H.sel' [] rfl rfl)

theorem c_impl_validSide {side_0 : List (List Int)} {aside_0 : Option Addr} {cside_0 : Nat} {r : Bool} (h : M.impl_validSide side_0 = some r) :
    Cal2 Try.prog 71 [(Sl aside_0 side_0 cside_0)] [Ch.ro 0 (Sl aside_0 side_0 cside_0) side_0] (fun n0 v L => v = (B r) ∧ L = []) := by
 refine cal2 (n := 23) Try.func71 rfl rfl rfl rfl ?_
 intro S0 σ0 n0 hn0 H
 unfold M.impl_validSide at h
 refine c_seq ?_
 refine rg ?_
 refine st (v := (B false)) (rv_assign rfl) ?_
 refine w_end ?_
 refine q_then ?_
 refine c_seq ?_
 refine c_seq ?_
 refine rg ?_
 refine st (v := (Sl aside_0 side_0 cside_0)) (rv_move rfl) ?_
 refine st (v := (I (side_0.length : Int))) (rv_len Try.underlying27 rfl) ?_
 refine st (v := (B ((side_0.length : Int) != 4))) (rv_neq (a := (side_0.length : Int)) (b := 4) rfl rfl) ?_
 refine w_end ?_
 refine q_then ?_
 refine cd_cond ((side_0.length : Int) != 4) rfl (fun hb1 => ?_) (fun hb1 => ?_)
 ·replace h := bif_t hb1 h
  refine c_seq ?_
  refine rg ?_
  refine st (v := (B false)) (rv_assign rfl) ?_
  refine w_end ?_
  refine q_then ?_
  refine c_ret ?_
  refine q_then_r ?_
  obtain rfl := Option.some.inj h
  exact fin_ret (v := (B false)) (results_ok Try.results71 (res_tmp (v := (B false)) rfl res_nil) rfl) ⟨rfl, rfl⟩ (H.sel' [] rfl rfl)
 ·replace h := bif_f hb1 h
  refine c_skip ?_
  refine q_then ?_
  refine c_seq ?_
  refine c_seq ?_
  refine rg ?_
  refine st (v := (Sl aside_0 side_0 cside_0)) (rv_move rfl) ?_
  refine st (v := (I (side_0.length : Int))) (rv_len Try.underlying27 rfl) ?_
  refine st (v := (I 0)) (rv_move rfl) ?_
  refine w_end ?_
  refine q_then ?_
  obtain ⟨o2, hj, h'⟩ := bind_some h
  clear h
  refine c_cut (fun e a w => (∃ t, o2 = (.inl t) ∧ e = .normal ∧ ∃ (ρ : Nat → Value) (σ : St), a = fr 23 (updL ρ []) ∧ w = σ.w ∧ Hp S0 σ0 σ []) ∨ (∃ t, o2 = (.inr t) ∧ e = .ret ∧ ∃ (ρ : Nat → Value) (σ : St), a = fr 23 (updL ρ [(2, (B t))]) ∧ w = σ.w ∧ Hp S0 σ0 σ [])) ?_ ?_
  ·clear h'
   rename _ = some o2 => h
   refine c_blk ?_
   refine wp_loopM _ h (fun s3 a w => ∃ (ρ : Nat → Value) (σ : St), a = fr 23 (updL ρ [(8, (Sl aside_0 side_0 cside_0)), (9, (I (side_0.length : Int))), (10, (I s3))]) ∧ w = σ.w ∧ Hp S0 σ0 σ [Ch.ro 0 (Sl aside_0 side_0 cside_0) side_0]) ⟨_, σ0, fr_join ⟨rfl, rfl, rfl, trivial⟩, rfl, H.sel' [0] rfl rfl⟩ ?_
   clear h H
   rintro s3 a w o ⟨ρ, σ4, rfl, rfl, H⟩ h hres
   refine c_seq ?_
   refine rg ?_
   refine st (v := (B (decide (s3 < (side_0.length : Int))))) (rv_lss (a := s3) (b := (side_0.length : Int)) rfl rfl) ?_
   refine w_end ?_
   refine q_then ?_
   refine c_seq ?_
   refine cd_cond (decide (s3 < (side_0.length : Int))) rfl (fun hb5 => ?_) (fun hb5 => ?_)
   ·replace h := bif_t hb5 h
    refine c_skip ?_
    refine q_then ?_
    refine c_seq ?_
    refine c_blk ?_
    refine c_seq ?_
    refine rg ?_
    obtain ⟨x6, hx7, h'⟩ := bind_some h
    clear h
    have h := h'; clear h'
    obtain ⟨b9, o10, hi8, -⟩ := (H.ro 0 rfl).ix hx7
    refine st (v := (pt b9 o10)) (rv_ix Try.underlying27 ti29 rfl rfl hi8) ?_
    obtain ⟨v14, hc15, hR13⟩ := ((H.ro 0 rfl).at hx7 hi8).slice
    obtain ⟨a11, c12, rfl⟩ := hR13.isSl
    replace H := H.add (d := Ch.ro 0 (Sl a11 x6 c12) x6) hR13 (fun _ h => h)
    clear hR13
    refine st (v := (Sl a11 x6 c12)) (rv_load1 Try.underlying29 rfl rfl hc15) ?_
    refine st (v := (Sl a11 x6 c12)) (rv_assign rfl) ?_
    refine w_end ?_
    refine q_then ?_
    refine c_seq ?_
    obtain ⟨o16, hj, h'⟩ := bind_some h
    clear h
    refine c_cut (fun e a w => e = .normal ∧ ∃ (ρ : Nat → Value) (σ : St), a = fr 23 (updL ρ [(8, (Sl aside_0 side_0 cside_0)), (9, (I (side_0.length : Int))), (10, (I s3)), (21, (B o16))]) ∧ w = σ.w ∧ Hp S0 σ0 σ [Ch.ro 0 (Sl aside_0 side_0 cside_0) side_0]) ?_ ?_
    ·clear h'
     rename _ = some o16 => h
     refine rg ?_
     refine st (v := (Sl a11 x6 c12)) (rv_move rfl) ?_
     refine st (v := (I (x6.length : Int))) (rv_len Try.underlying29 rfl) ?_
     refine st (v := (B ((x6.length : Int) != 2))) (rv_neq (a := (x6.length : Int)) (b := 2) rfl rfl) ?_
     refine st (v := (B ((x6.length : Int) != 2))) (rv_move rfl) ?_
     rcases Bool.eq_false_or_eq_true ((x6.length : Int) != 2) with hb17 | hb17
     ·replace h := bif_t hb17 h
      refine st_skip (congrArg some hb17) ?_
      refine st_skip (congrArg some hb17) ?_
      refine st_skip (congrArg some hb17) ?_
      refine st (v := (B true)) (rv_pick_t (congrArg B hb17) rfl) ?_
      refine w_end ?_
      obtain rfl := Option.some.inj h
      exact ⟨rfl, _, σ4, fr_join ⟨rfl, rfl, rfl, rfl, trivial⟩, rfl, H.sel' [1] rfl rfl⟩
     ·replace h := bif_f hb17 h
      refine st_g (v := (Sl a11 x6 c12)) (congrArg some hb17) (rv_move rfl) ?_
      obtain ⟨r18, hx19, h'⟩ := bind_some h
      clear h
      have h := h'; clear h'
      have hc20 := c_impl_validCoords (acoords_0 := a11) (ccoords_0 := c12) hx19
      refine st_call (cx_call hc20 (ent_f hc20.fn rfl) hn0 (show Hp S0 σ0 _ ([Ch.ro 0 (Sl a11 x6 c12) x6] ++ [Ch.ro 0 (Sl a11 x6 c12) x6, Ch.ro 0 (Sl aside_0 side_0 cside_0) side_0]) from (H.sel' [0, 0, 1] rfl rfl))) (wanted_yes rfl (by exact (congrArg some hb17))) ?_
      rintro _ σ21 ⟨_, ⟨rfl, rfl⟩, H, -⟩
      replace H : Hp S0 σ0 σ21 [Ch.ro 0 (Sl a11 x6 c12) x6, Ch.ro 0 (Sl aside_0 side_0 cside_0) side_0] := H
      refine st_g (v := (B (!r18))) (congrArg some hb17) (rv_not rfl) ?_
      refine st (v := (B (!r18))) (rv_pick_f (congrArg B hb17) rfl) ?_
      refine w_end ?_
      obtain rfl := Option.some.inj h
      exact ⟨rfl, _, σ21, fr_join ⟨rfl, rfl, rfl, rfl, trivial⟩, rfl, H.sel' [1] rfl rfl⟩
    ·clear hj
     have h := h'
     clear h' H
     rintro e a w ⟨rfl, ρ, σ22, rfl, rfl, H⟩
     refine q_then ?_
     refine cd_cond o16 rfl (fun hb23 => ?_) (fun hb23 => ?_)
     ·replace h := bif_t hb23 h
      refine c_seq ?_
      refine rg ?_
      refine st (v := (B false)) (rv_assign rfl) ?_
      refine w_end ?_
      refine q_then ?_
      refine c_ret ?_
      refine q_blk_r ?_
      refine q_then_r ?_
      refine q_then_r ?_
      refine q_blk_r ?_
      obtain rfl := Option.some.inj h
      obtain rfl := hres _ rfl
      exact .inr (⟨_, rfl, rfl, _, σ22, fr_join ⟨rfl, trivial⟩, rfl, H.sel' [] rfl rfl⟩)
     ·replace h := bif_f hb23 h
      refine c_skip ?_
      refine q_blk ?_
      refine q_then ?_
      refine rg ?_
      refine st (v := (I (w64 (s3 + 1)))) (rv_add (a := s3) (b := 1) rfl rfl) ?_
      refine st (v := (I (w64 (s3 + 1)))) (rv_move rfl) ?_
      refine w_end ?_
      refine q_then ?_
      obtain rfl := Option.some.inj h
      exact ⟨_, rfl, _, σ22, fr_join ⟨rfl, rfl, rfl, trivial⟩, rfl, H.sel' [0] rfl rfl⟩
   ·replace h := bif_f hb5 h
    refine c_exit ?_
    refine q_then_x ?_
    refine q_then_x ?_
    refine q_blk_hit ?_
    obtain rfl := Option.some.inj h
    obtain rfl := hres _ rfl
    exact .inl ⟨_, rfl, rfl, _, σ4, fr_join trivial, rfl, H.sel' [] rfl rfl⟩
  ·clear hj
   have h := h'
   clear h' H
   rintro e a w (⟨t24, rfl, rfl, ρ, σ25, rfl, rfl, H⟩ | ⟨t26, rfl, rfl, ρ, σ27, rfl, rfl, H⟩)
   ·replace h := selim_l h
    refine q_then ?_
    refine c_seq ?_
    refine rg ?_
    refine st (v := (B true)) (rv_assign rfl) ?_
    refine w_end ?_
    refine q_then ?_
    refine c_ret ?_
    obtain rfl := Option.some.inj h
    exact fin_ret (v := (B true)) (results_ok Try.results71 (res_tmp (v := (B true)) rfl res_nil) rfl) ⟨rfl, rfl⟩ (H.sel' [] rfl rfl)
   ·replace h := selim_r h
    refine q_then_r ?_
    obtain rfl := Option.some.inj h
    exact fin_ret (v := (B t26)) (results_ok Try.results71 (res_tmp (v := (B t26)) rfl res_nil) rfl) ⟨rfl, rfl⟩ (H.sel' [] rfl rfl)

theorem c_impl_ValidBook {b_0 : (List (List Int)) × (List (List Int))} {ab_0_0 : Option Addr} {cb_0_0 : Nat} {ab_0_1 : Option Addr} {cb_0_1 : Nat} {r : Bool} (h : M.impl_ValidBook b_0 = some r) :
    Cal2 Try.prog 35 [(.agg #[(Sl ab_0_0 b_0.1 cb_0_0), (Sl ab_0_1 b_0.2 cb_0_1)])] [Ch.ro 0 (Sl ab_0_0 b_0.1 cb_0_0) b_0.1, Ch.ro 0 (Sl ab_0_1 b_0.2 cb_0_1) b_0.2] (fun n0 v L => v = (B r) ∧ L = []) := by
 refine cal2 (n := 11) Try.func35 rfl rfl rfl rfl ?_
 intro S0 σ0 n0 hn0 H
 unfold M.impl_ValidBook at h
 refine c_seq ?_
 refine rg ?_
 refine st_ex (ex_box (cs := [(Sl ab_0_0 b_0.1 cb_0_0), (Sl ab_0_1 b_0.2 cb_0_1)]) H hn0 rfl rfl) wn ?_
 rintro _ σ2 ⟨b1, rfl, H, -⟩
 refine st (v := (B false)) (rv_assign rfl) ?_
 refine w_end ?_
 refine q_then ?_
 refine c_seq ?_
 refine rg ?_
 refine st (v := (pt b1 0)) (rv_fieldAddr (off := 0) (ft := 27) Try.underlying39 rfl ti27 rfl rfl) ?_
 have hc3 := H.cell (u := (Sl ab_0_0 b_0.1 cb_0_0)) (o' := 0) 0 0 rfl rfl rfl
 refine st (v := (Sl ab_0_0 b_0.1 cb_0_0)) (rv_load1 Try.underlying27 rfl rfl hc3) ?_
 obtain ⟨r4, hx5, h'⟩ := bind_some h
 clear h
 have h := h'; clear h'
 have hc6 := c_impl_validSide (aside_0 := ab_0_0) (cside_0 := cb_0_0) hx5
 refine st_call (cx_call hc6 (ent_f hc6.fn rfl) hn0 (show Hp S0 σ0 _ ([Ch.ro 0 (Sl ab_0_0 b_0.1 cb_0_0) b_0.1] ++ [Ch.bx n0 b1 0 [(Sl ab_0_0 b_0.1 cb_0_0), (Sl ab_0_1 b_0.2 cb_0_1)] [] [], Ch.ro 0 (Sl ab_0_0 b_0.1 cb_0_0) b_0.1, Ch.ro 0 (Sl ab_0_1 b_0.2 cb_0_1) b_0.2]) from (H.sel' [1, 0, 1, 2] rfl rfl))) wn ?_
 rintro _ σ7 ⟨_, ⟨rfl, rfl⟩, H, -⟩
 replace H : Hp S0 σ0 σ7 [Ch.bx n0 b1 0 [(Sl ab_0_0 b_0.1 cb_0_0), (Sl ab_0_1 b_0.2 cb_0_1)] [] [], Ch.ro 0 (Sl ab_0_0 b_0.1 cb_0_0) b_0.1, Ch.ro 0 (Sl ab_0_1 b_0.2 cb_0_1) b_0.2] := H
 refine st (v := (B r4)) (rv_move rfl) ?_
 rcases Bool.eq_false_or_eq_true r4 with hb8 | hb8
 ·replace h := bif_t hb8 h
  refine st_g (v := (pt b1 1)) (congrArg some hb8) (rv_fieldAddr (off := 1) (ft := 27) Try.underlying39 rfl ti27 rfl rfl) ?_
  have hc9 := H.cell (u := (Sl ab_0_1 b_0.2 cb_0_1)) (o' := 1) 0 1 rfl rfl rfl
  refine st_g (v := (Sl ab_0_1 b_0.2 cb_0_1)) (congrArg some hb8) (rv_load1 Try.underlying27 rfl rfl hc9) ?_
  obtain ⟨r10, hx11, h'⟩ := bind_some h
  clear h
  have h := h'; clear h'
  have hc12 := c_impl_validSide (aside_0 := ab_0_1) (cside_0 := cb_0_1) hx11
  refine st_call (cx_call hc12 (ent_f hc12.fn rfl) hn0 (show Hp S0 σ0 _ ([Ch.ro 0 (Sl ab_0_1 b_0.2 cb_0_1) b_0.2] ++ [Ch.bx n0 b1 0 [(Sl ab_0_0 b_0.1 cb_0_0), (Sl ab_0_1 b_0.2 cb_0_1)] [] [], Ch.ro 0 (Sl ab_0_0 b_0.1 cb_0_0) b_0.1, Ch.ro 0 (Sl ab_0_1 b_0.2 cb_0_1) b_0.2]) from (H.sel' [2, 0, 1, 2] rfl rfl))) (wanted_yes rfl (by exact (congrArg some hb8))) ?_
  rintro _ σ13 ⟨_, ⟨rfl, rfl⟩, H, -⟩
  replace H : Hp S0 σ0 σ13 [Ch.bx n0 b1 0 [(Sl ab_0_0 b_0.1 cb_0_0), (Sl ab_0_1 b_0.2 cb_0_1)] [] [], Ch.ro 0 (Sl ab_0_0 b_0.1 cb_0_0) b_0.1, Ch.ro 0 (Sl ab_0_1 b_0.2 cb_0_1) b_0.2] := H
  refine st (v := (B r10)) (rv_pick_t (congrArg B hb8) rfl) ?_
  refine st (v := (B r10)) (rv_assign rfl) ?_
  refine w_end ?_
  refine q_then ?_
  refine c_ret ?_
  obtain rfl := Option.some.inj h
  exact fin_ret (v := (B r10)) (results_ok Try.results35 (res_tmp (v := (B r10)) rfl res_nil) rfl) ⟨rfl, rfl⟩ (H.sel' [] rfl rfl)
 ·replace h := bif_f hb8 h
  refine st_skip (congrArg some hb8) ?_
  refine st_skip (congrArg some hb8) ?_
  refine st_skip (congrArg some hb8) ?_
  refine st (v := (B false)) (rv_pick_f (congrArg B hb8) rfl) ?_
  refine st (v := (B false)) (rv_assign rfl) ?_
  refine w_end ?_
  refine q_then ?_
  refine c_ret ?_
  obtain rfl := Option.some.inj h
  exact fin_ret (v := (B false)) (results_ok Try.results35 (res_tmp (v := (B false)) rfl res_nil) rfl) ⟨rfl, rfl⟩ (H.sel' [] rfl rfl)

theorem c_laws_eqIntS {a_0 : List Int} {b_1 : List Int} {aa_0 : Option Addr} {ca_0 : Nat} {ab_1 : Option Addr} {cb_1 : Nat} {r : Bool} (h : M.laws_eqIntS a_0 b_1 = some r) :
    Cal2 Try.prog 38 [(Sl aa_0 a_0 ca_0), (Sl ab_1 b_1 cb_1)] [Ch.ro 0 (Sl aa_0 a_0 ca_0) a_0, Ch.ro 0 (Sl ab_1 b_1 cb_1) b_1] (fun n0 v L => v = (B r) ∧ L = []) := by
 refine cal2 (n := 26) Try.func38 rfl rfl rfl rfl ?_
 intro S0 σ0 n0 hn0 H
 unfold M.laws_eqIntS at h
 refine c_seq ?_
 refine rg ?_
 refine st (v := (B false)) (rv_assign rfl) ?_
 refine w_end ?_
 refine q_then ?_
 refine c_seq ?_
 refine c_seq ?_
 refine rg ?_
 refine st (v := (Sl aa_0 a_0 ca_0)) (rv_move rfl) ?_
 refine st (v := (I (a_0.length : Int))) (rv_len Try.underlying29 rfl) ?_
 refine st (v := (Sl ab_1 b_1 cb_1)) (rv_move rfl) ?_
 refine st (v := (I (b_1.length : Int))) (rv_len Try.underlying29 rfl) ?_
 refine st (v := (B ((a_0.length : Int) != (b_1.length : Int)))) (rv_neq (a := (a_0.length : Int)) (b := (b_1.length : Int)) rfl rfl) ?_
 refine w_end ?_
 refine q_then ?_
 refine cd_cond ((a_0.length : Int) != (b_1.length : Int)) rfl (fun hb1 => ?_) (fun hb1 => ?_)
 ·replace h := bif_t hb1 h
  refine c_seq ?_
  refine rg ?_
  refine st (v := (B false)) (rv_assign rfl) ?_
  refine w_end ?_
  refine q_then ?_
  refine c_ret ?_
  refine q_then_r ?_
  obtain rfl := Option.some.inj h
  exact fin_ret (v := (B false)) (results_ok Try.results38 (res_tmp (v := (B false)) rfl res_nil) rfl) ⟨rfl, rfl⟩ (H.sel' [] rfl rfl)
 ·replace h := bif_f hb1 h
  refine c_skip ?_
  refine q_then ?_
  refine c_seq ?_
  refine c_seq ?_
  refine rg ?_
  refine st (v := (I 0)) (rv_assign rfl) ?_
  refine w_end ?_
  refine q_then ?_
  obtain ⟨o2, hj, h'⟩ := bind_some h
  clear h
  refine c_cut (fun e a w => (∃ t, o2 = (.inl t) ∧ e = .normal ∧ ∃ (ρ : Nat → Value) (σ : St), a = fr 26 (updL ρ []) ∧ w = σ.w ∧ Hp S0 σ0 σ []) ∨ (∃ t, o2 = (.inr t) ∧ e = .ret ∧ ∃ (ρ : Nat → Value) (σ : St), a = fr 26 (updL ρ [(4, (B t))]) ∧ w = σ.w ∧ Hp S0 σ0 σ [])) ?_ ?_
  ·clear h'
   rename _ = some o2 => h
   refine c_blk ?_
   refine wp_loopM _ h (fun s3 a w => ∃ (ρ : Nat → Value) (σ : St), a = fr 26 (updL ρ [(0, (Sl aa_0 a_0 ca_0)), (1, (Sl ab_1 b_1 cb_1)), (5, (I s3))]) ∧ w = σ.w ∧ Hp S0 σ0 σ [Ch.ro 0 (Sl aa_0 a_0 ca_0) a_0, Ch.ro 0 (Sl ab_1 b_1 cb_1) b_1]) ⟨_, σ0, fr_join ⟨rfl, rfl, rfl, trivial⟩, rfl, H.sel' [0, 1] rfl rfl⟩ ?_
   clear h H
   rintro s3 a w o ⟨ρ, σ4, rfl, rfl, H⟩ h hres
   refine c_seq ?_
   refine c_seq ?_
   refine rg ?_
   refine st (v := (I s3)) (rv_move rfl) ?_
   refine st (v := (Sl aa_0 a_0 ca_0)) (rv_move rfl) ?_
   refine st (v := (I (a_0.length : Int))) (rv_len Try.underlying29 rfl) ?_
   refine st (v := (B (decide (s3 < (a_0.length : Int))))) (rv_lss (a := s3) (b := (a_0.length : Int)) rfl rfl) ?_
   refine w_end ?_
   refine q_then ?_
   refine cd_cond (decide (s3 < (a_0.length : Int))) rfl (fun hb5 => ?_) (fun hb5 => ?_)
   ·replace h := bif_t hb5 h
    refine c_skip ?_
    refine q_then ?_
    refine c_seq ?_
    refine c_blk ?_
    refine c_seq ?_
    refine rgP (σ := σ4) 8 (by kernel_rfl) (by kernel_rfl) (by kernel_rfl) ?_
    refine sq (v := (Sl aa_0 a_0 ca_0)) (rv_move rfl) ?_
    refine sq (v := (I s3)) (rv_move rfl) ?_
    obtain ⟨x6, hx7, h'⟩ := bind_some h
    clear h
    have h := h'; clear h'
    obtain ⟨b9, o10, hi8, -⟩ := (H.ro 0 rfl).ix hx7
    refine sq (v := (pt b9 o10)) (rv_ix Try.underlying29 ti3 rfl rfl hi8) ?_
    have hc11 := ((H.ro 0 rfl).at hx7 hi8).int
    refine sq (v := (I x6)) (rv_load1 Try.underlying3 rfl rfl hc11) ?_
    refine sq (v := (Sl ab_1 b_1 cb_1)) (rv_move rfl) ?_
    refine sq (v := (I s3)) (rv_move rfl) ?_
    obtain ⟨x12, hx13, h'⟩ := bind_some h
    clear h
    have h := h'; clear h'
    obtain ⟨b15, o16, hi14, -⟩ := (H.ro 1 rfl).ix hx13
    refine sq (v := (pt b15 o16)) (rv_ix Try.underlying29 ti3 rfl rfl hi14) ?_
    have hc17 := ((H.ro 1 rfl).at hx13 hi14).int
    refine sq (v := (I x12)) (rv_load1 Try.underlying3 rfl rfl hc17) ?_
    refine sq_end ?_
    intro σ18 hm19
    replace H := H.grow (hm19.mono fun _ h => h); clear hm19
    refine st (v := (B (x6 != x12))) (rv_neq (a := x6) (b := x12) rfl rfl) ?_
    refine w_end ?_
    refine q_then ?_
    refine cd_cond (x6 != x12) rfl (fun hb20 => ?_) (fun hb20 => ?_)
    ·replace h := bif_t hb20 h
     refine c_seq ?_
     refine rg ?_
     refine st (v := (B false)) (rv_assign rfl) ?_
     refine w_end ?_
     refine q_then ?_
     refine c_ret ?_
     refine q_blk_r ?_
     refine q_then_r ?_
     refine q_then_r ?_
     refine q_blk_r ?_
     obtain rfl := Option.some.inj h
     obtain rfl := hres _ rfl
     exact .inr (⟨_, rfl, rfl, _, σ18, fr_join ⟨rfl, trivial⟩, rfl, H.sel' [] rfl rfl⟩)
    ·replace h := bif_f hb20 h
     refine c_skip ?_
     refine q_blk ?_
     refine q_then ?_
     refine rg ?_
     refine st (v := (I s3)) (rv_move rfl) ?_
     refine st (v := (I (w64 (s3 + 1)))) (rv_add (a := s3) (b := 1) rfl rfl) ?_
     refine st (v := (I (w64 (s3 + 1)))) (rv_assign rfl) ?_
     refine w_end ?_
     refine q_then ?_
     obtain rfl := Option.some.inj h
     exact ⟨_, rfl, _, σ18, fr_join ⟨rfl, rfl, rfl, trivial⟩, rfl, H.sel' [0, 1] rfl rfl⟩
   ·replace h := bif_f hb5 h
    refine c_exit ?_
    refine q_then_x ?_
    refine q_then_x ?_
    refine q_blk_hit ?_
    obtain rfl := Option.some.inj h
    obtain rfl := hres _ rfl
    exact .inl ⟨_, rfl, rfl, _, σ4, fr_join trivial, rfl, H.sel' [] rfl rfl⟩
  ·clear hj
   have h := h'
   clear h' H
   rintro e a w (⟨t21, rfl, rfl, ρ, σ22, rfl, rfl, H⟩ | ⟨t23, rfl, rfl, ρ, σ24, rfl, rfl, H⟩)
   ·replace h := selim_l h
    refine q_then ?_
    refine c_seq ?_
    refine rg ?_
    refine st (v := (B true)) (rv_assign rfl) ?_
    refine w_end ?_
    refine q_then ?_
    refine c_ret ?_
    obtain rfl := Option.some.inj h
    exact fin_ret (v := (B true)) (results_ok Try.results38 (res_tmp (v := (B true)) rfl res_nil) rfl) ⟨rfl, rfl⟩ (H.sel' [] rfl rfl)
   ·replace h := selim_r h
    refine q_then_r ?_
    obtain rfl := Option.some.inj h
    exact fin_ret (v := (B t23)) (results_ok Try.results38 (res_tmp (v := (B t23)) rfl res_nil) rfl) ⟨rfl, rfl⟩ (H.sel' [] rfl rfl)

theorem c_laws_eqIntSS {a_0 : List (List Int)} {b_1 : List (List Int)} {aa_0 : Option Addr} {ca_0 : Nat} {ab_1 : Option Addr} {cb_1 : Nat} {r : Bool} (h : M.laws_eqIntSS a_0 b_1 = some r) :
    Cal2 Try.prog 72 [(Sl aa_0 a_0 ca_0), (Sl ab_1 b_1 cb_1)] [Ch.ro 0 (Sl aa_0 a_0 ca_0) a_0, Ch.ro 0 (Sl ab_1 b_1 cb_1) b_1] (fun n0 v L => v = (B r) ∧ L = []) := by
 refine cal2 (n := 27) Try.func72 rfl rfl rfl rfl ?_
 intro S0 σ0 n0 hn0 H
 unfold M.laws_eqIntSS at h
 refine c_seq ?_
 refine rg ?_
 refine st (v := (B false)) (rv_assign rfl) ?_
 refine w_end ?_
 refine q_then ?_
 refine c_seq ?_
 refine c_seq ?_
 refine rg ?_
 refine st (v := (Sl aa_0 a_0 ca_0)) (rv_move rfl) ?_
 refine st (v := (I (a_0.length : Int))) (rv_len Try.underlying27 rfl) ?_
 refine st (v := (Sl ab_1 b_1 cb_1)) (rv_move rfl) ?_
 refine st (v := (I (b_1.length : Int))) (rv_len Try.underlying27 rfl) ?_
 refine st (v := (B ((a_0.length : Int) != (b_1.length : Int)))) (rv_neq (a := (a_0.length : Int)) (b := (b_1.length : Int)) rfl rfl) ?_
 refine w_end ?_
 refine q_then ?_
 refine cd_cond ((a_0.length : Int) != (b_1.length : Int)) rfl (fun hb1 => ?_) (fun hb1 => ?_)
 ·replace h := bif_t hb1 h
  refine c_seq ?_
  refine rg ?_
  refine st (v := (B false)) (rv_assign rfl) ?_
  refine w_end ?_
  refine q_then ?_
  refine c_ret ?_
  refine q_then_r ?_
  obtain rfl := Option.some.inj h
  exact fin_ret (v := (B false)) (results_ok Try.results72 (res_tmp (v := (B false)) rfl res_nil) rfl) ⟨rfl, rfl⟩ (H.sel' [] rfl rfl)
 ·replace h := bif_f hb1 h
  refine c_skip ?_
  refine q_then ?_
  refine c_seq ?_
  refine c_seq ?_
  refine rg ?_
  refine st (v := (I 0)) (rv_assign rfl) ?_
  refine w_end ?_
  refine q_then ?_
  obtain ⟨o2, hj, h'⟩ := bind_some h
  clear h
  refine c_cut (fun e a w => (∃ t, o2 = (.inl t) ∧ e = .normal ∧ ∃ (ρ : Nat → Value) (σ : St), a = fr 27 (updL ρ []) ∧ w = σ.w ∧ Hp S0 σ0 σ []) ∨ (∃ t, o2 = (.inr t) ∧ e = .ret ∧ ∃ (ρ : Nat → Value) (σ : St), a = fr 27 (updL ρ [(4, (B t))]) ∧ w = σ.w ∧ Hp S0 σ0 σ [])) ?_ ?_
  ·clear h'
   rename _ = some o2 => h
   refine c_blk ?_
   refine wp_loopM _ h (fun s3 a w => ∃ (ρ : Nat → Value) (σ : St), a = fr 27 (updL ρ [(0, (Sl aa_0 a_0 ca_0)), (1, (Sl ab_1 b_1 cb_1)), (5, (I s3))]) ∧ w = σ.w ∧ Hp S0 σ0 σ [Ch.ro 0 (Sl aa_0 a_0 ca_0) a_0, Ch.ro 0 (Sl ab_1 b_1 cb_1) b_1]) ⟨_, σ0, fr_join ⟨rfl, rfl, rfl, trivial⟩, rfl, H.sel' [0, 1] rfl rfl⟩ ?_
   clear h H
   rintro s3 a w o ⟨ρ, σ4, rfl, rfl, H⟩ h hres
   refine c_seq ?_
   refine c_seq ?_
   refine rg ?_
   refine st (v := (I s3)) (rv_move rfl) ?_
   refine st (v := (Sl aa_0 a_0 ca_0)) (rv_move rfl) ?_
   refine st (v := (I (a_0.length : Int))) (rv_len Try.underlying27 rfl) ?_
   refine st (v := (B (decide (s3 < (a_0.length : Int))))) (rv_lss (a := s3) (b := (a_0.length : Int)) rfl rfl) ?_
   refine w_end ?_
   refine q_then ?_
   refine cd_cond (decide (s3 < (a_0.length : Int))) rfl (fun hb5 => ?_) (fun hb5 => ?_)
   ·replace h := bif_t hb5 h
    refine c_skip ?_
    refine q_then ?_
    refine c_seq ?_
    refine c_blk ?_
    refine c_seq ?_
    refine rgP (σ := σ4) 8 (by kernel_rfl) (by kernel_rfl) (by kernel_rfl) ?_
    refine sq (v := (Sl aa_0 a_0 ca_0)) (rv_move rfl) ?_
    refine sq (v := (I s3)) (rv_move rfl) ?_
    obtain ⟨x6, hx7, h'⟩ := bind_some h
    clear h
    have h := h'; clear h'
    obtain ⟨b9, o10, hi8, -⟩ := (H.ro 0 rfl).ix hx7
    refine sq (v := (pt b9 o10)) (rv_ix Try.underlying27 ti29 rfl rfl hi8) ?_
    obtain ⟨v14, hc15, hR13⟩ := ((H.ro 0 rfl).at hx7 hi8).slice
    obtain ⟨a11, c12, rfl⟩ := hR13.isSl
    replace H := H.add (d := Ch.ro 0 (Sl a11 x6 c12) x6) hR13 (fun _ h => h)
    clear hR13
    refine sq (v := (Sl a11 x6 c12)) (rv_load1 Try.underlying29 rfl rfl hc15) ?_
    refine sq (v := (Sl ab_1 b_1 cb_1)) (rv_move rfl) ?_
    refine sq (v := (I s3)) (rv_move rfl) ?_
    obtain ⟨x16, hx17, h'⟩ := bind_some h
    clear h
    have h := h'; clear h'
    obtain ⟨b19, o20, hi18, -⟩ := (H.ro 2 rfl).ix hx17
    refine sq (v := (pt b19 o20)) (rv_ix Try.underlying27 ti29 rfl rfl hi18) ?_
    obtain ⟨v24, hc25, hR23⟩ := ((H.ro 2 rfl).at hx17 hi18).slice
    obtain ⟨a21, c22, rfl⟩ := hR23.isSl
    replace H := H.add (d := Ch.ro 0 (Sl a21 x16 c22) x16) hR23 (fun _ h => h)
    clear hR23
    refine sq (v := (Sl a21 x16 c22)) (rv_load1 Try.underlying29 rfl rfl hc25) ?_
    refine sq_end ?_
    intro σ26 hm27
    replace H := H.grow (hm27.mono fun _ h => h); clear hm27
    obtain ⟨r28, hx29, h'⟩ := bind_some h
    clear h
    have h := h'; clear h'
    have hc30 := c_laws_eqIntS (aa_0 := a11) (ca_0 := c12) (ab_1 := a21) (cb_1 := c22) hx29
    refine st_call (cx_call hc30 (ent_f hc30.fn rfl) hn0 (show Hp S0 σ0 _ ([Ch.ro 0 (Sl a11 x6 c12) x6, Ch.ro 0 (Sl a21 x16 c22) x16] ++ [Ch.ro 0 (Sl a21 x16 c22) x16, Ch.ro 0 (Sl a11 x6 c12) x6, Ch.ro 0 (Sl aa_0 a_0 ca_0) a_0, Ch.ro 0 (Sl ab_1 b_1 cb_1) b_1]) from (H.sel' [1, 0, 0, 1, 2, 3] rfl rfl))) wn ?_
    rintro _ σ31 ⟨_, ⟨rfl, rfl⟩, H, -⟩
    replace H : Hp S0 σ0 σ31 [Ch.ro 0 (Sl a21 x16 c22) x16, Ch.ro 0 (Sl a11 x6 c12) x6, Ch.ro 0 (Sl aa_0 a_0 ca_0) a_0, Ch.ro 0 (Sl ab_1 b_1 cb_1) b_1] := H
    refine st (v := (B (!r28))) (rv_not rfl) ?_
    refine w_end ?_
    refine q_then ?_
    refine cd_cond (!r28) rfl (fun hb32 => ?_) (fun hb32 => ?_)
    ·replace h := bif_t hb32 h
     refine c_seq ?_
     refine rg ?_
     refine st (v := (B false)) (rv_assign rfl) ?_
     refine w_end ?_
     refine q_then ?_
     refine c_ret ?_
     refine q_blk_r ?_
     refine q_then_r ?_
     refine q_then_r ?_
     refine q_blk_r ?_
     obtain rfl := Option.some.inj h
     obtain rfl := hres _ rfl
     exact .inr (⟨_, rfl, rfl, _, σ31, fr_join ⟨rfl, trivial⟩, rfl, H.sel' [] rfl rfl⟩)
    ·replace h := bif_f hb32 h
     refine c_skip ?_
     refine q_blk ?_
     refine q_then ?_
     refine rg ?_
     refine st (v := (I s3)) (rv_move rfl) ?_
     refine st (v := (I (w64 (s3 + 1)))) (rv_add (a := s3) (b := 1) rfl rfl) ?_
     refine st (v := (I (w64 (s3 + 1)))) (rv_assign rfl) ?_
     refine w_end ?_
     refine q_then ?_
     obtain rfl := Option.some.inj h
     exact ⟨_, rfl, _, σ31, fr_join ⟨rfl, rfl, rfl, trivial⟩, rfl, H.sel' [2, 3] rfl rfl⟩
   ·replace h := bif_f hb5 h
    refine c_exit ?_
    refine q_then_x ?_
    refine q_then_x ?_
    refine q_blk_hit ?_
    obtain rfl := Option.some.inj h
    obtain rfl := hres _ rfl
    exact .inl ⟨_, rfl, rfl, _, σ4, fr_join trivial, rfl, H.sel' [] rfl rfl⟩
  ·clear hj
   have h := h'
   clear h' H
   rintro e a w (⟨t33, rfl, rfl, ρ, σ34, rfl, rfl, H⟩ | ⟨t35, rfl, rfl, ρ, σ36, rfl, rfl, H⟩)
   ·replace h := selim_l h
    refine q_then ?_
    refine c_seq ?_
    refine rg ?_
    refine st (v := (B true)) (rv_assign rfl) ?_
    refine w_end ?_
    refine q_then ?_
    refine c_ret ?_
    obtain rfl := Option.some.inj h
    exact fin_ret (v := (B true)) (results_ok Try.results72 (res_tmp (v := (B true)) rfl res_nil) rfl) ⟨rfl, rfl⟩ (H.sel' [] rfl rfl)
   ·replace h := selim_r h
    refine q_then_r ?_
    obtain rfl := Option.some.inj h
    exact fin_ret (v := (B t35)) (results_ok Try.results72 (res_tmp (v := (B t35)) rfl res_nil) rfl) ⟨rfl, rfl⟩ (H.sel' [] rfl rfl)

theorem c_laws_eqBook {a_0 : (List (List Int)) × (List (List Int))} {b_1 : (List (List Int)) × (List (List Int))} {aa_0_0 : Option Addr} {ca_0_0 : Nat} {aa_0_1 : Option Addr} {ca_0_1 : Nat} {ab_1_0 : Option Addr} {cb_1_0 : Nat} {ab_1_1 : Option Addr} {cb_1_1 : Nat} {r : Bool} (h : M.laws_eqBook a_0 b_1 = some r) :
    Cal2 Try.prog 36 [(.agg #[(Sl aa_0_0 a_0.1 ca_0_0), (Sl aa_0_1 a_0.2 ca_0_1)]), (.agg #[(Sl ab_1_0 b_1.1 cb_1_0), (Sl ab_1_1 b_1.2 cb_1_1)])] [Ch.ro 0 (Sl aa_0_0 a_0.1 ca_0_0) a_0.1, Ch.ro 0 (Sl aa_0_1 a_0.2 ca_0_1) a_0.2, Ch.ro 0 (Sl ab_1_0 b_1.1 cb_1_0) b_1.1, Ch.ro 0 (Sl ab_1_1 b_1.2 cb_1_1) b_1.2] (fun n0 v L => v = (B r) ∧ L = []) := by
 refine cal2 (n := 17) Try.func36 rfl rfl rfl rfl ?_
 intro S0 σ0 n0 hn0 H
 unfold M.laws_eqBook at h
 refine c_seq ?_
 refine rg ?_
 refine st_ex (ex_box (cs := [(Sl aa_0_0 a_0.1 ca_0_0), (Sl aa_0_1 a_0.2 ca_0_1)]) H hn0 rfl rfl) wn ?_
 rintro _ σ2 ⟨b1, rfl, H, -⟩
 refine st_ex (ex_box (cs := [(Sl ab_1_0 b_1.1 cb_1_0), (Sl ab_1_1 b_1.2 cb_1_1)]) H hn0 rfl rfl) wn ?_
 rintro _ σ4 ⟨b3, rfl, H, -⟩
 refine st (v := (B false)) (rv_assign rfl) ?_
 refine w_end ?_
 refine q_then ?_
 refine c_seq ?_
 refine c_seq ?_
 refine rg ?_
 refine st (v := (pt b1 0)) (rv_fieldAddr (off := 0) (ft := 27) Try.underlying39 rfl ti27 rfl rfl) ?_
 have hc5 := H.cell (u := (Sl aa_0_0 a_0.1 ca_0_0)) (o' := 0) 1 0 rfl rfl rfl
 refine st (v := (Sl aa_0_0 a_0.1 ca_0_0)) (rv_load1 Try.underlying27 rfl rfl hc5) ?_
 refine st (v := (pt b3 0)) (rv_fieldAddr (off := 0) (ft := 27) Try.underlying39 rfl ti27 rfl rfl) ?_
 have hc6 := H.cell (u := (Sl ab_1_0 b_1.1 cb_1_0)) (o' := 0) 0 0 rfl rfl rfl
 refine st (v := (Sl ab_1_0 b_1.1 cb_1_0)) (rv_load1 Try.underlying27 rfl rfl hc6) ?_
 obtain ⟨r7, hx8, h'⟩ := bind_some h
 clear h
 have h := h'; clear h'
 have hc9 := c_laws_eqIntSS (aa_0 := aa_0_0) (ca_0 := ca_0_0) (ab_1 := ab_1_0) (cb_1 := cb_1_0) hx8
 refine st_call (cx_call hc9 (ent_f hc9.fn rfl) hn0 (show Hp S0 σ0 _ ([Ch.ro 0 (Sl aa_0_0 a_0.1 ca_0_0) a_0.1, Ch.ro 0 (Sl ab_1_0 b_1.1 cb_1_0) b_1.1] ++ [Ch.bx n0 b3 0 [(Sl ab_1_0 b_1.1 cb_1_0), (Sl ab_1_1 b_1.2 cb_1_1)] [] [], Ch.bx n0 b1 0 [(Sl aa_0_0 a_0.1 ca_0_0), (Sl aa_0_1 a_0.2 ca_0_1)] [] [], Ch.ro 0 (Sl aa_0_0 a_0.1 ca_0_0) a_0.1, Ch.ro 0 (Sl aa_0_1 a_0.2 ca_0_1) a_0.2, Ch.ro 0 (Sl ab_1_0 b_1.1 cb_1_0) b_1.1, Ch.ro 0 (Sl ab_1_1 b_1.2 cb_1_1) b_1.2]) from (H.sel' [2, 4, 0, 1, 2, 3, 4, 5] rfl rfl))) wn ?_
 rintro _ σ10 ⟨_, ⟨rfl, rfl⟩, H, -⟩
 replace H : Hp S0 σ0 σ10 [Ch.bx n0 b3 0 [(Sl ab_1_0 b_1.1 cb_1_0), (Sl ab_1_1 b_1.2 cb_1_1)] [] [], Ch.bx n0 b1 0 [(Sl aa_0_0 a_0.1 ca_0_0), (Sl aa_0_1 a_0.2 ca_0_1)] [] [], Ch.ro 0 (Sl aa_0_0 a_0.1 ca_0_0) a_0.1, Ch.ro 0 (Sl aa_0_1 a_0.2 ca_0_1) a_0.2, Ch.ro 0 (Sl ab_1_0 b_1.1 cb_1_0) b_1.1, Ch.ro 0 (Sl ab_1_1 b_1.2 cb_1_1) b_1.2] := H
 refine st (v := (B (!r7))) (rv_not rfl) ?_
 refine w_end ?_
 refine q_then ?_
 refine cd_cond (!r7) rfl (fun hb11 => ?_) (fun hb11 => ?_)
 ·replace h := bif_t hb11 h
  refine c_seq ?_
  refine rg ?_
  refine st (v := (B false)) (rv_assign rfl) ?_
  refine w_end ?_
  refine q_then ?_
  refine c_ret ?_
  refine q_then_r ?_
  obtain rfl := Option.some.inj h
  exact fin_ret (v := (B false)) (results_ok Try.results36 (res_tmp (v := (B false)) rfl res_nil) rfl) ⟨rfl, rfl⟩ (H.sel' [] rfl rfl)
 ·replace h := bif_f hb11 h
  refine c_skip ?_
  refine q_then ?_
  refine c_seq ?_
  refine c_seq ?_
  refine rg ?_
  refine st (v := (pt b1 1)) (rv_fieldAddr (off := 1) (ft := 27) Try.underlying39 rfl ti27 rfl rfl) ?_
  have hc12 := H.cell (u := (Sl aa_0_1 a_0.2 ca_0_1)) (o' := 1) 1 1 rfl rfl rfl
  refine st (v := (Sl aa_0_1 a_0.2 ca_0_1)) (rv_load1 Try.underlying27 rfl rfl hc12) ?_
  refine st (v := (pt b3 1)) (rv_fieldAddr (off := 1) (ft := 27) Try.underlying39 rfl ti27 rfl rfl) ?_
  have hc13 := H.cell (u := (Sl ab_1_1 b_1.2 cb_1_1)) (o' := 1) 0 1 rfl rfl rfl
  refine st (v := (Sl ab_1_1 b_1.2 cb_1_1)) (rv_load1 Try.underlying27 rfl rfl hc13) ?_
  obtain ⟨r14, hx15, h'⟩ := bind_some h
  clear h
  have h := h'; clear h'
  have hc16 := c_laws_eqIntSS (aa_0 := aa_0_1) (ca_0 := ca_0_1) (ab_1 := ab_1_1) (cb_1 := cb_1_1) hx15
  refine st_call (cx_call hc16 (ent_f hc16.fn rfl) hn0 (show Hp S0 σ0 _ ([Ch.ro 0 (Sl aa_0_1 a_0.2 ca_0_1) a_0.2, Ch.ro 0 (Sl ab_1_1 b_1.2 cb_1_1) b_1.2] ++ [Ch.bx n0 b3 0 [(Sl ab_1_0 b_1.1 cb_1_0), (Sl ab_1_1 b_1.2 cb_1_1)] [] [], Ch.bx n0 b1 0 [(Sl aa_0_0 a_0.1 ca_0_0), (Sl aa_0_1 a_0.2 ca_0_1)] [] [], Ch.ro 0 (Sl aa_0_0 a_0.1 ca_0_0) a_0.1, Ch.ro 0 (Sl aa_0_1 a_0.2 ca_0_1) a_0.2, Ch.ro 0 (Sl ab_1_0 b_1.1 cb_1_0) b_1.1, Ch.ro 0 (Sl ab_1_1 b_1.2 cb_1_1) b_1.2]) from (H.sel' [3, 5, 0, 1, 2, 3, 4, 5] rfl rfl))) wn ?_
  rintro _ σ17 ⟨_, ⟨rfl, rfl⟩, H, -⟩
  replace H : Hp S0 σ0 σ17 [Ch.bx n0 b3 0 [(Sl ab_1_0 b_1.1 cb_1_0), (Sl ab_1_1 b_1.2 cb_1_1)] [] [], Ch.bx n0 b1 0 [(Sl aa_0_0 a_0.1 ca_0_0), (Sl aa_0_1 a_0.2 ca_0_1)] [] [], Ch.ro 0 (Sl aa_0_0 a_0.1 ca_0_0) a_0.1, Ch.ro 0 (Sl aa_0_1 a_0.2 ca_0_1) a_0.2, Ch.ro 0 (Sl ab_1_0 b_1.1 cb_1_0) b_1.1, Ch.ro 0 (Sl ab_1_1 b_1.2 cb_1_1) b_1.2] := H
  refine st (v := (B (!r14))) (rv_not rfl) ?_
  refine w_end ?_
  refine q_then ?_
  refine cd_cond (!r14) rfl (fun hb18 => ?_) (fun hb18 => ?_)
  ·replace h := bif_t hb18 h
   refine c_seq ?_
   refine rg ?_
   refine st (v := (B false)) (rv_assign rfl) ?_
   refine w_end ?_
   refine q_then ?_
   refine c_ret ?_
   refine q_then_r ?_
   obtain rfl := Option.some.inj h
   exact fin_ret (v := (B false)) (results_ok Try.results36 (res_tmp (v := (B false)) rfl res_nil) rfl) ⟨rfl, rfl⟩ (H.sel' [] rfl rfl)
  ·replace h := bif_f hb18 h
   refine c_skip ?_
   refine q_then ?_
   refine c_seq ?_
   refine rg ?_
   refine st (v := (B true)) (rv_assign rfl) ?_
   refine w_end ?_
   refine q_then ?_
   refine c_ret ?_
   obtain rfl := Option.some.inj h
   exact fin_ret (v := (B true)) (results_ok Try.results36 (res_tmp (v := (B true)) rfl res_nil) rfl) ⟨rfl, rfl⟩ (H.sel' [] rfl rfl)

theorem c_laws_FnExactValidBook {aB_0 : (List (List Int)) × (List (List Int))} {aaB_0_0 : Option Addr} {caB_0_0 : Nat} {aaB_0_1 : Option Addr} {caB_0_1 : Nat} {r : Bool} (h : M.laws_FnExactValidBook aB_0 = some r) :
    Cal2 Try.prog 11 [(.agg #[(Sl aaB_0_0 aB_0.1 caB_0_0), (Sl aaB_0_1 aB_0.2 caB_0_1)])] [Ch.ro 0 (Sl aaB_0_0 aB_0.1 caB_0_0) aB_0.1, Ch.ro 0 (Sl aaB_0_1 aB_0.2 caB_0_1) aB_0.2] (fun n0 v L => v = (B r) ∧ L = []) := by
 refine cal2 (n := 27) Try.func11 rfl rfl rfl rfl ?_
 intro S0 σ0 n0 hn0 H
 unfold M.laws_FnExactValidBook at h
 refine c_seq ?_
 refine rg ?_
 refine st_ex (ex_box (cs := [(Sl aaB_0_0 aB_0.1 caB_0_0), (Sl aaB_0_1 aB_0.2 caB_0_1)]) H hn0 rfl rfl) wn ?_
 rintro _ σ2 ⟨b1, rfl, H, -⟩
 refine st (v := (B false)) (rv_assign rfl) ?_
 refine w_end ?_
 refine q_then ?_
 refine c_seq ?_
 refine rg ?_
 refine st (v := (I 1048576)) (rv_assign rfl) ?_
 refine w_end ?_
 refine q_then ?_
 refine c_seq ?_
 refine rg ?_
 have hc3 := H.cells 0 rfl
 refine st (v := (.agg #[(Sl aaB_0_0 aB_0.1 caB_0_0), (Sl aaB_0_1 aB_0.2 caB_0_1)])) (rv_load (cs := [(Sl aaB_0_0 aB_0.1 caB_0_0), (Sl aaB_0_1 aB_0.2 caB_0_1)]) Try.underlying49 rfl ti49 rfl rfl hc3) ?_
 refine st (v := (I 1048576)) (rv_move rfl) ?_
 obtain ⟨r4, hx5, h'⟩ := bind_some h
 clear h
 have h := h'; clear h'
 have hc6 := c_laws_szBook (aa_0_0 := aaB_0_0) (ca_0_0 := caB_0_0) (aa_0_1 := aaB_0_1) (ca_0_1 := caB_0_1) hx5
 refine st_call (cx_call hc6 (ent_f hc6.fn rfl) hn0 (show Hp S0 σ0 _ ([Ch.ro 0 (Sl aaB_0_0 aB_0.1 caB_0_0) aB_0.1, Ch.ro 0 (Sl aaB_0_1 aB_0.2 caB_0_1) aB_0.2] ++ [Ch.bx n0 b1 0 [(Sl aaB_0_0 aB_0.1 caB_0_0), (Sl aaB_0_1 aB_0.2 caB_0_1)] [] [], Ch.ro 0 (Sl aaB_0_0 aB_0.1 caB_0_0) aB_0.1, Ch.ro 0 (Sl aaB_0_1 aB_0.2 caB_0_1) aB_0.2]) from (H.sel' [1, 2, 0, 1, 2] rfl rfl))) wn ?_
 rintro _ σ7 ⟨_, ⟨rfl, rfl⟩, H, -⟩
 replace H : Hp S0 σ0 σ7 [Ch.bx n0 b1 0 [(Sl aaB_0_0 aB_0.1 caB_0_0), (Sl aaB_0_1 aB_0.2 caB_0_1)] [] [], Ch.ro 0 (Sl aaB_0_0 aB_0.1 caB_0_0) aB_0.1, Ch.ro 0 (Sl aaB_0_1 aB_0.2 caB_0_1) aB_0.2] := H
 refine st (v := (I r4)) (rv_assign rfl) ?_
 refine w_end ?_
 refine q_then ?_
 refine c_seq ?_
 refine c_seq ?_
 refine rg ?_
 refine st (v := (I r4)) (rv_move rfl) ?_
 refine st (v := (B (decide (r4 < 0)))) (rv_lss (a := r4) (b := 0) rfl rfl) ?_
 refine w_end ?_
 refine q_then ?_
 refine cd_cond (decide (r4 < 0)) rfl (fun hb8 => ?_) (fun hb8 => ?_)
 ·replace h := bif_t hb8 h
  refine c_seq ?_
  refine rg ?_
  refine st (v := (B true)) (rv_assign rfl) ?_
  refine w_end ?_
  refine q_then ?_
  refine c_ret ?_
  refine q_then_r ?_
  obtain rfl := Option.some.inj h
  exact fin_ret (v := (B true)) (results_ok Try.results11 (res_tmp (v := (B true)) rfl res_nil) rfl) ⟨rfl, rfl⟩ (H.sel' [] rfl rfl)
 ·replace h := bif_f hb8 h
  refine c_skip ?_
  refine q_then ?_
  refine c_seq ?_
  refine rg ?_
  have hc9 := H.cells 0 rfl
  refine st (v := (.agg #[(Sl aaB_0_0 aB_0.1 caB_0_0), (Sl aaB_0_1 aB_0.2 caB_0_1)])) (rv_load (cs := [(Sl aaB_0_0 aB_0.1 caB_0_0), (Sl aaB_0_1 aB_0.2 caB_0_1)]) Try.underlying49 rfl ti49 rfl rfl hc9) ?_
  obtain ⟨r10, hx11, h'⟩ := bind_some h
  clear h
  have h := h'; clear h'
  have hc12 := c_laws_toBook (aa_0_0 := aaB_0_0) (ca_0_0 := caB_0_0) (aa_0_1 := aaB_0_1) (ca_0_1 := caB_0_1) hx11
  refine st_call (cx_call hc12 (ent_f hc12.fn rfl) hn0 (show Hp S0 σ0 _ ([Ch.ro 0 (Sl aaB_0_0 aB_0.1 caB_0_0) aB_0.1, Ch.ro 0 (Sl aaB_0_1 aB_0.2 caB_0_1) aB_0.2] ++ [Ch.bx n0 b1 0 [(Sl aaB_0_0 aB_0.1 caB_0_0), (Sl aaB_0_1 aB_0.2 caB_0_1)] [] [], Ch.ro 0 (Sl aaB_0_0 aB_0.1 caB_0_0) aB_0.1, Ch.ro 0 (Sl aaB_0_1 aB_0.2 caB_0_1) aB_0.2]) from (H.sel' [1, 2, 0, 1, 2] rfl rfl))) wn ?_
  rintro _ σ19 ⟨_, ⟨a13, c14, a16, c17, rfl, rfl, ht15, ht18⟩, H, -⟩
  replace H : Hp S0 σ0 σ19 [Ch.own n0 n0 (Sl a13 r10.1 c14) r10.1, Ch.own n0 n0 (Sl a16 r10.2 c17) r10.2, Ch.bx n0 b1 0 [(Sl aaB_0_0 aB_0.1 caB_0_0), (Sl aaB_0_1 aB_0.2 caB_0_1)] [] [], Ch.ro 0 (Sl aaB_0_0 aB_0.1 caB_0_0) aB_0.1, Ch.ro 0 (Sl aaB_0_1 aB_0.2 caB_0_1) aB_0.2] := H
  obtain ⟨σ20, hw21, H, -⟩ := H.pub 0 rfl (Nat.le_refl _)
  rw [← hw21]; clear hw21
  obtain ⟨σ22, hw23, H, -⟩ := H.pub 1 rfl (Nat.le_refl _)
  rw [← hw23]; clear hw23
  replace H := H.roLow 1 0 rfl (Nat.zero_le _)
  replace H := H.roLow 1 0 rfl (Nat.zero_le _)
  obtain ⟨r24, hx25, h'⟩ := bind_some h
  clear h
  have h := h'; clear h'
  have hc26 := c_spec_ValidBook (ab_0_0 := a13) (cb_0_0 := c14) (ab_0_1 := a16) (cb_0_1 := c17) hx25
  refine st_call (cx_call hc26 (ent_f hc26.fn rfl) hn0 (show Hp S0 σ0 _ ([Ch.ro 0 (Sl a13 r10.1 c14) r10.1, Ch.ro 0 (Sl a16 r10.2 c17) r10.2] ++ [Ch.ro 0 (Sl a16 r10.2 c17) r10.2, Ch.ro 0 (Sl a13 r10.1 c14) r10.1, Ch.ro n0 (Sl a16 r10.2 c17) r10.2, Ch.ro n0 (Sl a13 r10.1 c14) r10.1, Ch.bx n0 b1 0 [(Sl aaB_0_0 aB_0.1 caB_0_0), (Sl aaB_0_1 aB_0.2 caB_0_1)] [] [], Ch.ro 0 (Sl aaB_0_0 aB_0.1 caB_0_0) aB_0.1, Ch.ro 0 (Sl aaB_0_1 aB_0.2 caB_0_1) aB_0.2]) from (H.sel' [1, 0, 0, 1, 2, 3, 4, 5, 6] rfl rfl))) wn ?_
  rintro _ σ27 ⟨_, ⟨rfl, rfl⟩, H, -⟩
  replace H : Hp S0 σ0 σ27 [Ch.ro 0 (Sl a16 r10.2 c17) r10.2, Ch.ro 0 (Sl a13 r10.1 c14) r10.1, Ch.ro n0 (Sl a16 r10.2 c17) r10.2, Ch.ro n0 (Sl a13 r10.1 c14) r10.1, Ch.bx n0 b1 0 [(Sl aaB_0_0 aB_0.1 caB_0_0), (Sl aaB_0_1 aB_0.2 caB_0_1)] [] [], Ch.ro 0 (Sl aaB_0_0 aB_0.1 caB_0_0) aB_0.1, Ch.ro 0 (Sl aaB_0_1 aB_0.2 caB_0_1) aB_0.2] := H
  refine st (v := (B r24)) (rv_assign rfl) ?_
  refine w_end ?_
  refine q_then ?_
  refine c_seq ?_
  refine rg ?_
  have hc28 := H.cells 4 rfl
  refine st (v := (.agg #[(Sl aaB_0_0 aB_0.1 caB_0_0), (Sl aaB_0_1 aB_0.2 caB_0_1)])) (rv_load (cs := [(Sl aaB_0_0 aB_0.1 caB_0_0), (Sl aaB_0_1 aB_0.2 caB_0_1)]) Try.underlying49 rfl ti49 rfl rfl hc28) ?_
  obtain ⟨r29, hx30, h'⟩ := bind_some h
  clear h
  have h := h'; clear h'
  have hc31 := c_laws_toBook (aa_0_0 := aaB_0_0) (ca_0_0 := caB_0_0) (aa_0_1 := aaB_0_1) (ca_0_1 := caB_0_1) hx30
  refine st_call (cx_call hc31 (ent_f hc31.fn rfl) hn0 (show Hp S0 σ0 _ ([Ch.ro 0 (Sl aaB_0_0 aB_0.1 caB_0_0) aB_0.1, Ch.ro 0 (Sl aaB_0_1 aB_0.2 caB_0_1) aB_0.2] ++ [Ch.ro 0 (Sl a16 r10.2 c17) r10.2, Ch.ro 0 (Sl a13 r10.1 c14) r10.1, Ch.ro n0 (Sl a16 r10.2 c17) r10.2, Ch.ro n0 (Sl a13 r10.1 c14) r10.1, Ch.bx n0 b1 0 [(Sl aaB_0_0 aB_0.1 caB_0_0), (Sl aaB_0_1 aB_0.2 caB_0_1)] [] [], Ch.ro 0 (Sl aaB_0_0 aB_0.1 caB_0_0) aB_0.1, Ch.ro 0 (Sl aaB_0_1 aB_0.2 caB_0_1) aB_0.2]) from (H.sel' [5, 6, 0, 1, 2, 3, 4, 5, 6] rfl rfl))) wn ?_
  rintro _ σ38 ⟨_, ⟨a32, c33, a35, c36, rfl, rfl, ht34, ht37⟩, H, -⟩
  replace H : Hp S0 σ0 σ38 [Ch.own n0 n0 (Sl a32 r29.1 c33) r29.1, Ch.own n0 n0 (Sl a35 r29.2 c36) r29.2, Ch.ro 0 (Sl a16 r10.2 c17) r10.2, Ch.ro 0 (Sl a13 r10.1 c14) r10.1, Ch.ro n0 (Sl a16 r10.2 c17) r10.2, Ch.ro n0 (Sl a13 r10.1 c14) r10.1, Ch.bx n0 b1 0 [(Sl aaB_0_0 aB_0.1 caB_0_0), (Sl aaB_0_1 aB_0.2 caB_0_1)] [] [], Ch.ro 0 (Sl aaB_0_0 aB_0.1 caB_0_0) aB_0.1, Ch.ro 0 (Sl aaB_0_1 aB_0.2 caB_0_1) aB_0.2] := H
  replace H : Hp S0 σ0 σ38 [Ch.own n0 n0 (Sl a32 r29.1 c33) r29.1, Ch.own n0 n0 (Sl a35 r29.2 c36) r29.2, Ch.bx n0 b1 0 [(Sl aaB_0_0 aB_0.1 caB_0_0), (Sl aaB_0_1 aB_0.2 caB_0_1)] [] [], Ch.ro 0 (Sl aaB_0_0 aB_0.1 caB_0_0) aB_0.1, Ch.ro 0 (Sl aaB_0_1 aB_0.2 caB_0_1) aB_0.2] := H.sel' [0, 1, 6, 7, 8] rfl rfl
  refine st_ex (ex_alloc (cs := [(.slice none 0 0), (.slice none 0 0)]) H hn0 ti39 rfl) wn ?_
  rintro _ σ40 ⟨b39, rfl, H, -⟩
  refine st_exS (ex_store_box (k := 0) (cs := [(.slice none 0 0), (.slice none 0 0)]) (vs := [(Sl a32 r29.1 c33), (Sl a35 r29.2 c36)]) (cs' := [(Sl a32 r29.1 c33), (Sl a35 r29.2 c36)]) H (i := 0) rfl ti39 rfl rfl rfl rfl rfl (Nat.le_of_ble_eq_true rfl) (by simp [plain]) rfl) wn ?_
  rintro σ41 ⟨H, -⟩
  refine w_end ?_
  refine q_then ?_
  refine c_seq ?_
  refine rg ?_
  have hc42 := H.cells 0 rfl
  refine st (v := (.agg #[(Sl a32 r29.1 c33), (Sl a35 r29.2 c36)])) (rv_load (cs := [(Sl a32 r29.1 c33), (Sl a35 r29.2 c36)]) Try.underlying39 rfl ti39 rfl rfl hc42) ?_
  obtain ⟨r43, hx44, h'⟩ := bind_some h
  clear h
  have h := h'; clear h'
  have hc45 := c_impl_ValidBook (ab_0_0 := a32) (cb_0_0 := c33) (ab_0_1 := a35) (cb_0_1 := c36) hx44
  have hle := Nat.le_trans hn0 H.size
  refine st_call (cx_lend (Loan.lend (Loan.lend Loan.nil)) hc45 (ent_f hc45.fn rfl) (show Hp S0 σ0 _ ([Ch.own n0 n0 (Sl a32 r29.1 c33) r29.1, Ch.own n0 n0 (Sl a35 r29.2 c36) r29.2] ++ ([] ++ [Ch.bx n0 b39 0 [(Sl a32 r29.1 c33), (Sl a35 r29.2 c36)] [] [], Ch.bx n0 b1 0 [(Sl aaB_0_0 aB_0.1 caB_0_0), (Sl aaB_0_1 aB_0.2 caB_0_1)] [] [], Ch.ro 0 (Sl aaB_0_0 aB_0.1 caB_0_0) aB_0.1, Ch.ro 0 (Sl aaB_0_1 aB_0.2 caB_0_1) aB_0.2])) from (H.sel' [1, 2, 0, 3, 4, 5] rfl rfl)) (by rintro _ _ _ ⟨rfl, rfl⟩; exact trivial)) wn ?_
  rintro _ σ46 ⟨_, ⟨rfl, rfl⟩, H, -, -⟩
  replace H : Hp S0 σ0 σ46 [Ch.own n0 n0 (Sl a32 r29.1 c33) r29.1, Ch.own n0 n0 (Sl a35 r29.2 c36) r29.2, Ch.bx n0 b39 0 [(Sl a32 r29.1 c33), (Sl a35 r29.2 c36)] [] [], Ch.bx n0 b1 0 [(Sl aaB_0_0 aB_0.1 caB_0_0), (Sl aaB_0_1 aB_0.2 caB_0_1)] [] [], Ch.ro 0 (Sl aaB_0_0 aB_0.1 caB_0_0) aB_0.1, Ch.ro 0 (Sl aaB_0_1 aB_0.2 caB_0_1) aB_0.2] := H
  clear hle
  replace H : Hp S0 σ0 σ46 [Ch.own n0 n0 (Sl a32 r29.1 c33) r29.1, Ch.own n0 n0 (Sl a35 r29.2 c36) r29.2, Ch.bx n0 b39 0 [(Sl a32 r29.1 c33), (Sl a35 r29.2 c36)] [] [], Ch.bx n0 b1 0 [(Sl aaB_0_0 aB_0.1 caB_0_0), (Sl aaB_0_1 aB_0.2 caB_0_1)] [] [], Ch.ro 0 (Sl aaB_0_0 aB_0.1 caB_0_0) aB_0.1, Ch.ro 0 (Sl aaB_0_1 aB_0.2 caB_0_1) aB_0.2] := H
  refine st (v := (B r43)) (rv_assign rfl) ?_
  refine w_end ?_
  refine q_then ?_
  refine c_seq ?_
  refine c_seq ?_
  refine rg ?_
  refine st (v := (B r43)) (rv_move rfl) ?_
  refine st (v := (B r24)) (rv_move rfl) ?_
  refine st (v := (B (r43 != r24))) (rv_bneq Try.underlying4 rfl rfl) ?_
  refine w_end ?_
  refine q_then ?_
  refine cd_cond (r43 != r24) rfl (fun hb47 => ?_) (fun hb47 => ?_)
  ·replace h := bif_t hb47 h
   refine c_seq ?_
   refine rg ?_
   refine st (v := (B false)) (rv_assign rfl) ?_
   refine w_end ?_
   refine q_then ?_
   refine c_ret ?_
   refine q_then_r ?_
   obtain rfl := Option.some.inj h
   exact fin_ret (v := (B false)) (results_ok Try.results11 (res_tmp (v := (B false)) rfl res_nil) rfl) ⟨rfl, rfl⟩ (H.sel' [] rfl rfl)
  ·replace h := bif_f hb47 h
   refine c_skip ?_
   refine q_then ?_
   refine c_seq ?_
   refine c_seq ?_
   have hc48 := H.cells 2 rfl
   have hc49 := H.cells 3 rfl
   obtain ⟨r50, hx51, h'⟩ := bind_some h
   clear h
   have h := h'; clear h'
   have hc52 := c_laws_toBook (aa_0_0 := aaB_0_0) (ca_0_0 := caB_0_0) (aa_0_1 := aaB_0_1) (ca_0_1 := caB_0_1) hx51
   have Hs := H
   refine rg2 (σ := σ46) (Nm := (Option Addr) × (Nat) × (Option Addr) × (Nat)) 3 [2] [[false], [true]] [[(0, 0), (1, 1)], [(0, 0)], [(0, 1)]] 1 [fun ((a53, c54, a56, c57) : (Option Addr) × (Nat) × (Option Addr) × (Nat)) => fun σm => Hp S0 σ0 σm [Ch.own n0 n0 (Sl a32 r29.1 c33) r29.1, Ch.own n0 n0 (Sl a35 r29.2 c36) r29.2, Ch.bx n0 b39 0 [(Sl a32 r29.1 c33), (Sl a35 r29.2 c36)] [] [], Ch.bx n0 b1 0 [(Sl aaB_0_0 aB_0.1 caB_0_0), (Sl aaB_0_1 aB_0.2 caB_0_1)] [] [], Ch.ro 0 (Sl aaB_0_0 aB_0.1 caB_0_0) aB_0.1, Ch.ro 0 (Sl aaB_0_1 aB_0.2 caB_0_1) aB_0.2] ∧ Md (cov []) σ46 σm, fun ((a53, c54, a56, c57) : (Option Addr) × (Nat) × (Option Addr) × (Nat)) => fun σm => Hp S0 σ0 σm [Ch.own n0 n0 (Sl a53 r50.1 c54) r50.1, Ch.own n0 n0 (Sl a56 r50.2 c57) r50.2, Ch.own n0 n0 (Sl a32 r29.1 c33) r29.1, Ch.own n0 n0 (Sl a35 r29.2 c36) r29.2, Ch.bx n0 b39 0 [(Sl a32 r29.1 c33), (Sl a35 r29.2 c36)] [] [], Ch.bx n0 b1 0 [(Sl aaB_0_0 aB_0.1 caB_0_0), (Sl aaB_0_1 aB_0.2 caB_0_1)] [] [], Ch.ro 0 (Sl aaB_0_0 aB_0.1 caB_0_0) aB_0.1, Ch.ro 0 (Sl aaB_0_1 aB_0.2 caB_0_1) aB_0.2] ∧ Md (cov []) σ46 σm ∧ c54 = r50.1.length ∧ c57 = r50.2.length] [fun ((a53, c54, a56, c57) : (Option Addr) × (Nat) × (Option Addr) × (Nat)) => (.agg #[(Sl a32 r29.1 c33), (Sl a35 r29.2 c36)]), fun ((a53, c54, a56, c57) : (Option Addr) × (Nat) × (Option Addr) × (Nat)) => (.agg #[(Sl aaB_0_0 aB_0.1 caB_0_0), (Sl aaB_0_1 aB_0.2 caB_0_1)]), fun ((a53, c54, a56, c57) : (Option Addr) × (Nat) × (Option Addr) × (Nat)) => (.agg #[(Sl a53 r50.1 c54), (Sl a56 r50.2 c57)])] (none, 0, none, 0) (by kernel_rfl) (by kernel_rfl) ?_ ?_ ?_
   ·intro σm m0
    exact ⟨H.grow (m0.mono fun _ h => h.elim), m0⟩
   ·refine all_cons (by
      refine ⟨?_, ?_⟩
      ·rintro ⟨a53, c54, a56, c57⟩ ρ σm hJ hoff hdep
       have e5 := look_off (N := 27) (hoff 5 rfl) rfl
       obtain ⟨H, m⟩ := id hJ
       have hc48 := H.cells 2 rfl
       exact dp_v (v := (.agg #[(Sl a32 r29.1 c33), (Sl a35 r29.2 c36)])) wn (rv_load (cs := [(Sl a32 r29.1 c33), (Sl a35 r29.2 c36)]) Try.underlying39 rfl ti39 e5 rfl hc48) rfl hJ
      refine ⟨?_, ?_⟩
      ·rintro ⟨a53, c54, a56, c57⟩ ρ σm hJ hoff hdep
       have e5 := look_off (N := 27) (hoff 5 rfl) rfl
       obtain ⟨H, m, ht55, ht58⟩ := id hJ
       have hc48 := H.cells 4 rfl
       exact dp_v (v := (.agg #[(Sl a32 r29.1 c33), (Sl a35 r29.2 c36)])) wn (rv_load (cs := [(Sl a32 r29.1 c33), (Sl a35 r29.2 c36)]) Try.underlying39 rfl ti39 e5 rfl hc48) rfl hJ
      trivial) ?_
    refine all_cons (by
      refine ⟨?_, ?_⟩
      ·rintro ⟨a53, c54, a56, c57⟩ ρ σm hJ hoff hdep
       have e1 := look_off (N := 27) (hoff 1 rfl) rfl
       obtain ⟨H, m⟩ := id hJ
       have hc49 := H.cells 3 rfl
       exact dp_v (v := (.agg #[(Sl aaB_0_0 aB_0.1 caB_0_0), (Sl aaB_0_1 aB_0.2 caB_0_1)])) wn (rv_load (cs := [(Sl aaB_0_0 aB_0.1 caB_0_0), (Sl aaB_0_1 aB_0.2 caB_0_1)]) Try.underlying49 rfl ti49 e1 rfl hc49) rfl hJ
      trivial) ?_
    refine all_cons (by
      refine ⟨?_, ?_⟩
      ·rintro ⟨a53, c54, a56, c57⟩ ρ σm hJ hoff hdep
       have e23 : look 27 ρ 23 = (.agg #[(Sl aaB_0_0 aB_0.1 caB_0_0), (Sl aaB_0_1 aB_0.2 caB_0_1)]) := hdep 1 rfl rfl 23 rfl
       obtain ⟨H, m⟩ := id hJ
       refine dp_cx wn (cx_call hc52 (ent_f hc52.fn (by show [look 27 ρ 23] = _; rw [e23])) hn0 (show Hp S0 σ0 _ ([Ch.ro 0 (Sl aaB_0_0 aB_0.1 caB_0_0) aB_0.1, Ch.ro 0 (Sl aaB_0_1 aB_0.2 caB_0_1) aB_0.2] ++ [Ch.own n0 n0 (Sl a32 r29.1 c33) r29.1, Ch.own n0 n0 (Sl a35 r29.2 c36) r29.2, Ch.bx n0 b39 0 [(Sl a32 r29.1 c33), (Sl a35 r29.2 c36)] [] [], Ch.bx n0 b1 0 [(Sl aaB_0_0 aB_0.1 caB_0_0), (Sl aaB_0_1 aB_0.2 caB_0_1)] [] [], Ch.ro 0 (Sl aaB_0_0 aB_0.1 caB_0_0) aB_0.1, Ch.ro 0 (Sl aaB_0_1 aB_0.2 caB_0_1) aB_0.2]) from (H.sel' [4, 5, 0, 1, 2, 3, 4, 5] rfl rfl))) ?_
       rintro _ σq ⟨_, ⟨a53x, c54x, a56x, c57x, rfl, rfl, ht55, ht58⟩, H2, m2⟩
       exact ⟨_, (a53x, c54x, a56x, c57x), rfl, rfl, ⟨H2.sel' [0, 1, 2, 3, 4, 5, 6, 7] rfl rfl, m.comp0 (m2.mono (fun i h => by simp [cov, Ch.ro] at h)), ht55, ht58⟩, stab [0, 1] (by kernel_rfl) ⟨rfl, rfl, trivial⟩⟩
      trivial) ?_
    exact all_nil
   ·rintro ⟨a53, c54, a56, c57⟩ ρ σ59 hJ hoff hrel
    have e22 := hrel 0 rfl 22 rfl
    have e24 := hrel 2 rfl 24 rfl
    obtain ⟨H, -, ht55, ht58⟩ := (show Hp S0 σ0 σ59 [Ch.own n0 n0 (Sl a53 r50.1 c54) r50.1, Ch.own n0 n0 (Sl a56 r50.2 c57) r50.2, Ch.own n0 n0 (Sl a32 r29.1 c33) r29.1, Ch.own n0 n0 (Sl a35 r29.2 c36) r29.2, Ch.bx n0 b39 0 [(Sl a32 r29.1 c33), (Sl a35 r29.2 c36)] [] [], Ch.bx n0 b1 0 [(Sl aaB_0_0 aB_0.1 caB_0_0), (Sl aaB_0_1 aB_0.2 caB_0_1)] [] [], Ch.ro 0 (Sl aaB_0_0 aB_0.1 caB_0_0) aB_0.1, Ch.ro 0 (Sl aaB_0_1 aB_0.2 caB_0_1) aB_0.2] ∧ Md (cov []) σ46 σ59 ∧ c54 = r50.1.length ∧ c57 = r50.2.length from hJ)
    clear hJ Hs
    rw [fr_lookL (L := [(22, (.agg #[(Sl a32 r29.1 c33), (Sl a35 r29.2 c36)])), (24, (.agg #[(Sl a53 r50.1 c54), (Sl a56 r50.2 c57)]))]) ⟨e22, e24, trivial⟩]
    clear hoff hrel e22 e24
    obtain ⟨σ60, hw61, H, -⟩ := H.pub 2 rfl (Nat.le_refl _)
    rw [← hw61]; clear hw61
    obtain ⟨σ62, hw63, H, -⟩ := H.pub 3 rfl (Nat.le_refl _)
    rw [← hw63]; clear hw63
    obtain ⟨σ64, hw65, H, -⟩ := H.pub 2 rfl (Nat.le_refl _)
    rw [← hw65]; clear hw65
    obtain ⟨σ66, hw67, H, -⟩ := H.pub 3 rfl (Nat.le_refl _)
    rw [← hw67]; clear hw67
    replace H := H.roLow 3 0 rfl (Nat.zero_le _)
    replace H := H.roLow 3 0 rfl (Nat.zero_le _)
    replace H := H.roLow 3 0 rfl (Nat.zero_le _)
    replace H := H.roLow 3 0 rfl (Nat.zero_le _)
    obtain ⟨r68, hx69, h'⟩ := bind_some h
    clear h
    have h := h'; clear h'
    have hc70 := c_laws_eqBook (aa_0_0 := a32) (ca_0_0 := c33) (aa_0_1 := a35) (ca_0_1 := c36) (ab_1_0 := a53) (cb_1_0 := c54) (ab_1_1 := a56) (cb_1_1 := c57) hx69
    refine st_call (cx_call hc70 (ent_f hc70.fn rfl) hn0 (show Hp S0 σ0 _ ([Ch.ro 0 (Sl a32 r29.1 c33) r29.1, Ch.ro 0 (Sl a35 r29.2 c36) r29.2, Ch.ro 0 (Sl a53 r50.1 c54) r50.1, Ch.ro 0 (Sl a56 r50.2 c57) r50.2] ++ [Ch.ro 0 (Sl a56 r50.2 c57) r50.2, Ch.ro 0 (Sl a53 r50.1 c54) r50.1, Ch.ro 0 (Sl a35 r29.2 c36) r29.2, Ch.ro 0 (Sl a32 r29.1 c33) r29.1, Ch.ro n0 (Sl a56 r50.2 c57) r50.2, Ch.ro n0 (Sl a53 r50.1 c54) r50.1, Ch.ro n0 (Sl a35 r29.2 c36) r29.2, Ch.ro n0 (Sl a32 r29.1 c33) r29.1, Ch.bx n0 b39 0 [(Sl a32 r29.1 c33), (Sl a35 r29.2 c36)] [] [], Ch.bx n0 b1 0 [(Sl aaB_0_0 aB_0.1 caB_0_0), (Sl aaB_0_1 aB_0.2 caB_0_1)] [] [], Ch.ro 0 (Sl aaB_0_0 aB_0.1 caB_0_0) aB_0.1, Ch.ro 0 (Sl aaB_0_1 aB_0.2 caB_0_1) aB_0.2]) from (H.sel' [3, 2, 1, 0, 0, 1, 2, 3, 4, 5, 6, 7, 8, 9, 10, 11] rfl rfl))) wn ?_
    rintro _ σ71 ⟨_, ⟨rfl, rfl⟩, H, -⟩
    replace H : Hp S0 σ0 σ71 [Ch.ro 0 (Sl a56 r50.2 c57) r50.2, Ch.ro 0 (Sl a53 r50.1 c54) r50.1, Ch.ro 0 (Sl a35 r29.2 c36) r29.2, Ch.ro 0 (Sl a32 r29.1 c33) r29.1, Ch.ro n0 (Sl a56 r50.2 c57) r50.2, Ch.ro n0 (Sl a53 r50.1 c54) r50.1, Ch.ro n0 (Sl a35 r29.2 c36) r29.2, Ch.ro n0 (Sl a32 r29.1 c33) r29.1, Ch.bx n0 b39 0 [(Sl a32 r29.1 c33), (Sl a35 r29.2 c36)] [] [], Ch.bx n0 b1 0 [(Sl aaB_0_0 aB_0.1 caB_0_0), (Sl aaB_0_1 aB_0.2 caB_0_1)] [] [], Ch.ro 0 (Sl aaB_0_0 aB_0.1 caB_0_0) aB_0.1, Ch.ro 0 (Sl aaB_0_1 aB_0.2 caB_0_1) aB_0.2] := H
    replace H : Hp S0 σ0 σ71 [] := H.sel' [] rfl rfl
    refine st (v := (B (!r68))) (rv_not rfl) ?_
    refine w_end ?_
    refine q_then ?_
    refine cd_cond (!r68) rfl (fun hb72 => ?_) (fun hb72 => ?_)
    ·replace h := bif_t hb72 h
     refine c_seq ?_
     refine rg ?_
     refine st (v := (B false)) (rv_assign rfl) ?_
     refine w_end ?_
     refine q_then ?_
     refine c_ret ?_
     refine q_then_r ?_
     obtain rfl := Option.some.inj h
     exact fin_ret (v := (B false)) (results_ok Try.results11 (res_tmp (v := (B false)) rfl res_nil) rfl) ⟨rfl, rfl⟩ (H.sel' [] rfl rfl)
    ·replace h := bif_f hb72 h
     refine c_skip ?_
     refine q_then ?_
     refine c_seq ?_
     refine rg ?_
     refine st (v := (B true)) (rv_assign rfl) ?_
     refine w_end ?_
     refine q_then ?_
     refine c_ret ?_
     obtain rfl := Option.some.inj h
     exact fin_ret (v := (B true)) (results_ok Try.results11 (res_tmp (v := (B true)) rfl res_nil) rfl) ⟨rfl, rfl⟩ (H.sel' [] rfl rfl)

end Go.Vs
