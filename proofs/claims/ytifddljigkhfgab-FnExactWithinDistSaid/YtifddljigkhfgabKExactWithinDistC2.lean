/- The functions compute what their models say. -/
import Derived.Test.YtifddljigkhfgabKExactWithinDistC1
set_option linter.unusedVariables false
set_option linter.unusedSimpArgs false
set_option maxRecDepth 20000
namespace Go.Vs
open Go Go.Proofs
attribute [local irreducible] Code.wp Code.wpIn wpList wpListIn wpQuiet Calls CallsIn

theorem c_math_bits_Len32 {x_0 : Int}  {r : Int} (h : M.math_bits_Len32 x_0 = some r) :
    Cal2 Try.prog 141 [(.int .u32 x_0)] [] (fun n0 v L => v = (I r) ∧ L = []) := by
 refine cal2 (n := 19) Try.func141 rfl rfl rfl rfl ?_
 intro S0 σ0 n0 hn0 H
 unfold M.math_bits_Len32 at h
 refine c_seq ?_
 refine rg ?_
 refine st (v := (I 0)) (rv_assign rfl) ?_
 refine w_end ?_
 refine q_then ?_
 refine c_seq ?_
 refine c_seq ?_
 refine rg ?_
 refine st (v := (.int .u32 x_0)) (rv_move rfl) ?_
 refine st (v := (B (decide (65536 ≤ x_0)))) (rvk_geq (k := .u32) (a := x_0) (b := 65536) rfl rfl) ?_
 refine w_end ?_
 refine q_then ?_
 obtain ⟨o1, hj, h'⟩ := bind_some h
 clear h
 refine c_cut (fun e a w => e = .normal ∧ ∃ (ρ : Nat → Value) (σ : St), a = fr 19 (updL ρ [(0, (.int .u32 o1.1)), (2, (I o1.2))]) ∧ w = σ.w ∧ Hp S0 σ0 σ []) ?_ ?_
 ·clear h'
  rename _ = some o1 => h
  refine cd_cond (decide (65536 ≤ x_0)) rfl (fun hb2 => ?_) (fun hb2 => ?_)
  ·replace h := bif_t hb2 h
   refine c_seq ?_
   refine rg ?_
   refine st (v := (.int .u32 x_0)) (rv_move rfl) ?_
   refine st (v := (.int .u32 (gshr .u32 x_0 16))) (rvk_shr (k := .u32) (k' := .u64) (a := x_0) (b := 16) rfl rfl (by decide)) ?_
   refine st (v := (.int .u32 (gshr .u32 x_0 16))) (rv_assign rfl) ?_
   refine w_end ?_
   refine q_then ?_
   refine rg ?_
   refine st (v := (I 16)) (rv_assign rfl) ?_
   refine w_end ?_
   obtain rfl := Option.some.inj h
   exact ⟨rfl, _, σ0, fr_join ⟨rfl, rfl, trivial⟩, rfl, H.sel' [] rfl rfl⟩
  ·replace h := bif_f hb2 h
   refine c_skip ?_
   obtain rfl := Option.some.inj h
   exact ⟨rfl, _, σ0, fr_join ⟨rfl, rfl, trivial⟩, rfl, H.sel' [] rfl rfl⟩
 ·clear hj
  have h := h'
  clear h' H
  rintro e a w ⟨rfl, ρ, σ3, rfl, rfl, H⟩
  refine q_then ?_
  refine c_seq ?_
  refine c_seq ?_
  refine rg ?_
  refine st (v := (.int .u32 o1.1)) (rv_move rfl) ?_
  refine st (v := (B (decide (256 ≤ o1.1)))) (rvk_geq (k := .u32) (a := o1.1) (b := 256) rfl rfl) ?_
  refine w_end ?_
  refine q_then ?_
  obtain ⟨o4, hj, h'⟩ := bind_some h
  clear h
  refine c_cut (fun e a w => e = .normal ∧ ∃ (ρ : Nat → Value) (σ : St), a = fr 19 (updL ρ [(0, (.int .u32 o4.1)), (2, (I o4.2))]) ∧ w = σ.w ∧ Hp S0 σ0 σ []) ?_ ?_
  ·clear h'
   rename _ = some o4 => h
   refine cd_cond (decide (256 ≤ o1.1)) rfl (fun hb5 => ?_) (fun hb5 => ?_)
   ·replace h := bif_t hb5 h
    refine c_seq ?_
    refine rg ?_
    refine st (v := (.int .u32 o1.1)) (rv_move rfl) ?_
    refine st (v := (.int .u32 (gshr .u32 o1.1 8))) (rvk_shr (k := .u32) (k' := .u64) (a := o1.1) (b := 8) rfl rfl (by decide)) ?_
    refine st (v := (.int .u32 (gshr .u32 o1.1 8))) (rv_assign rfl) ?_
    refine w_end ?_
    refine q_then ?_
    refine rg ?_
    refine st (v := (I o1.2)) (rv_move rfl) ?_
    refine st (v := (I (w64 (o1.2 + 8)))) (rv_add (a := o1.2) (b := 8) rfl rfl) ?_
    refine st (v := (I (w64 (o1.2 + 8)))) (rv_assign rfl) ?_
    refine w_end ?_
    obtain rfl := Option.some.inj h
    exact ⟨rfl, _, σ3, fr_join ⟨rfl, rfl, trivial⟩, rfl, H.sel' [] rfl rfl⟩
   ·replace h := bif_f hb5 h
    refine c_skip ?_
    obtain rfl := Option.some.inj h
    exact ⟨rfl, _, σ3, fr_join ⟨rfl, rfl, trivial⟩, rfl, H.sel' [] rfl rfl⟩
  ·clear hj
   have h := h'
   clear h' H
   rintro e a w ⟨rfl, ρ, σ6, rfl, rfl, H⟩
   refine q_then ?_
   refine c_seq ?_
   refine rg ?_
   refine st (v := (I o4.2)) (rv_move rfl) ?_
   refine st (v := (.int .u32 o4.1)) (rv_move rfl) ?_
   refine st (v := (.int .u8 (wk .u8 o4.1))) (rvk_conv (k := .u32) (k' := .u8) (a := o4.1) Try.underlying164 Try.underlying5 rfl) ?_
   obtain ⟨x7, hx8, h'⟩ := bind_some h
   clear h
   have h := h'; clear h'
   refine st (v := (.int .u8 x7)) (rv_sidx (bs := [0, 1, 2, 2, 3, 3, 3, 3, 4, 4, 4, 4, 4, 4, 4, 4, 5, 5, 5, 5, 5, 5, 5, 5, 5, 5, 5, 5, 5, 5, 5, 5, 6, 6, 6, 6, 6, 6, 6, 6, 6, 6, 6, 6, 6, 6, 6, 6, 6, 6, 6, 6, 6, 6, 6, 6, 6, 6, 6, 6, 6, 6, 6, 6, 7, 7, 7, 7, 7, 7, 7, 7, 7, 7, 7, 7, 7, 7, 7, 7, 7, 7, 7, 7, 7, 7, 7, 7, 7, 7, 7, 7, 7, 7, 7, 7, 7, 7, 7, 7, 7, 7, 7, 7, 7, 7, 7, 7, 7, 7, 7, 7, 7, 7, 7, 7, 7, 7, 7, 7, 7, 7, 7, 7, 7, 7, 7, 7, 8, 8, 8, 8, 8, 8, 8, 8, 8, 8, 8, 8, 8, 8, 8, 8, 8, 8, 8, 8, 8, 8, 8, 8, 8, 8, 8, 8, 8, 8, 8, 8, 8, 8, 8, 8, 8, 8, 8, 8, 8, 8, 8, 8, 8, 8, 8, 8, 8, 8, 8, 8, 8, 8, 8, 8, 8, 8, 8, 8, 8, 8, 8, 8, 8, 8, 8, 8, 8, 8, 8, 8, 8, 8, 8, 8, 8, 8, 8, 8, 8, 8, 8, 8, 8, 8, 8, 8, 8, 8, 8, 8, 8, 8, 8, 8, 8, 8, 8, 8, 8, 8, 8, 8, 8, 8, 8, 8, 8, 8, 8, 8, 8, 8, 8, 8, 8, 8, 8, 8, 8, 8, 8, 8, 8, 8, 8, 8]) Try.underlying9 rfl rfl hx8) ?_
   refine st (v := (I (wk .i64 x7))) (rvk_conv (k := .u8) (k' := .i64) (a := x7) Try.underlying5 Try.underlying3 rfl) ?_
   refine st (v := (I (w64 (o4.2 + (wk .i64 x7))))) (rv_add (a := o4.2) (b := (wk .i64 x7)) rfl rfl) ?_
   refine st (v := (I (w64 (o4.2 + (wk .i64 x7))))) (rv_assign rfl) ?_
   refine w_end ?_
   refine q_then ?_
   refine c_ret ?_
   obtain rfl := Option.some.inj h
   exact fin_ret (v := (I (w64 (o4.2 + (wk .i64 x7))))) (results_ok Try.results141 (res_tmp (v := (I (w64 (o4.2 + (wk .i64 x7))))) rfl res_nil) rfl) ⟨rfl, rfl⟩ (H.sel' [] rfl rfl)

theorem c_math_bits_Len64 {x_0 : Int}  {r : Int} (h : M.math_bits_Len64 x_0 = some r) :
    Cal2 Try.prog 142 [(.int .u64 x_0)] [] (fun n0 v L => v = (I r) ∧ L = []) := by
 refine cal2 (n := 25) Try.func142 rfl rfl rfl rfl ?_
 intro S0 σ0 n0 hn0 H
 unfold M.math_bits_Len64 at h
 refine c_seq ?_
 refine rg ?_
 refine st (v := (I 0)) (rv_assign rfl) ?_
 refine w_end ?_
 refine q_then ?_
 refine c_seq ?_
 refine c_seq ?_
 refine rg ?_
 refine st (v := (.int .u64 x_0)) (rv_move rfl) ?_
 refine st (v := (B (decide (4294967296 ≤ x_0)))) (rvk_geq (k := .u64) (a := x_0) (b := 4294967296) rfl rfl) ?_
 refine w_end ?_
 refine q_then ?_
 obtain ⟨o1, hj, h'⟩ := bind_some h
 clear h
 refine c_cut (fun e a w => e = .normal ∧ ∃ (ρ : Nat → Value) (σ : St), a = fr 25 (updL ρ [(0, (.int .u64 o1.1)), (2, (I o1.2))]) ∧ w = σ.w ∧ Hp S0 σ0 σ []) ?_ ?_
 ·clear h'
  rename _ = some o1 => h
  refine cd_cond (decide (4294967296 ≤ x_0)) rfl (fun hb2 => ?_) (fun hb2 => ?_)
  ·replace h := bif_t hb2 h
   refine c_seq ?_
   refine rg ?_
   refine st (v := (.int .u64 x_0)) (rv_move rfl) ?_
   refine st (v := (.int .u64 (gshr .u64 x_0 32))) (rvk_shr (k := .u64) (k' := .u64) (a := x_0) (b := 32) rfl rfl (by decide)) ?_
   refine st (v := (.int .u64 (gshr .u64 x_0 32))) (rv_assign rfl) ?_
   refine w_end ?_
   refine q_then ?_
   refine rg ?_
   refine st (v := (I 32)) (rv_assign rfl) ?_
   refine w_end ?_
   obtain rfl := Option.some.inj h
   exact ⟨rfl, _, σ0, fr_join ⟨rfl, rfl, trivial⟩, rfl, H.sel' [] rfl rfl⟩
  ·replace h := bif_f hb2 h
   refine c_skip ?_
   obtain rfl := Option.some.inj h
   exact ⟨rfl, _, σ0, fr_join ⟨rfl, rfl, trivial⟩, rfl, H.sel' [] rfl rfl⟩
 ·clear hj
  have h := h'
  clear h' H
  rintro e a w ⟨rfl, ρ, σ3, rfl, rfl, H⟩
  refine q_then ?_
  refine c_seq ?_
  refine c_seq ?_
  refine rg ?_
  refine st (v := (.int .u64 o1.1)) (rv_move rfl) ?_
  refine st (v := (B (decide (65536 ≤ o1.1)))) (rvk_geq (k := .u64) (a := o1.1) (b := 65536) rfl rfl) ?_
  refine w_end ?_
  refine q_then ?_
  obtain ⟨o4, hj, h'⟩ := bind_some h
  clear h
  refine c_cut (fun e a w => e = .normal ∧ ∃ (ρ : Nat → Value) (σ : St), a = fr 25 (updL ρ [(0, (.int .u64 o4.1)), (2, (I o4.2))]) ∧ w = σ.w ∧ Hp S0 σ0 σ []) ?_ ?_
  ·clear h'
   rename _ = some o4 => h
   refine cd_cond (decide (65536 ≤ o1.1)) rfl (fun hb5 => ?_) (fun hb5 => ?_)
   ·replace h := bif_t hb5 h
    refine c_seq ?_
    refine rg ?_
    refine st (v := (.int .u64 o1.1)) (rv_move rfl) ?_
    refine st (v := (.int .u64 (gshr .u64 o1.1 16))) (rvk_shr (k := .u64) (k' := .u64) (a := o1.1) (b := 16) rfl rfl (by decide)) ?_
    refine st (v := (.int .u64 (gshr .u64 o1.1 16))) (rv_assign rfl) ?_
    refine w_end ?_
    refine q_then ?_
    refine rg ?_
    refine st (v := (I o1.2)) (rv_move rfl) ?_
    refine st (v := (I (w64 (o1.2 + 16)))) (rv_add (a := o1.2) (b := 16) rfl rfl) ?_
    refine st (v := (I (w64 (o1.2 + 16)))) (rv_assign rfl) ?_
    refine w_end ?_
    obtain rfl := Option.some.inj h
    exact ⟨rfl, _, σ3, fr_join ⟨rfl, rfl, trivial⟩, rfl, H.sel' [] rfl rfl⟩
   ·replace h := bif_f hb5 h
    refine c_skip ?_
    obtain rfl := Option.some.inj h
    exact ⟨rfl, _, σ3, fr_join ⟨rfl, rfl, trivial⟩, rfl, H.sel' [] rfl rfl⟩
  ·clear hj
   have h := h'
   clear h' H
   rintro e a w ⟨rfl, ρ, σ6, rfl, rfl, H⟩
   refine q_then ?_
   refine c_seq ?_
   refine c_seq ?_
   refine rg ?_
   refine st (v := (.int .u64 o4.1)) (rv_move rfl) ?_
   refine st (v := (B (decide (256 ≤ o4.1)))) (rvk_geq (k := .u64) (a := o4.1) (b := 256) rfl rfl) ?_
   refine w_end ?_
   refine q_then ?_
   obtain ⟨o7, hj, h'⟩ := bind_some h
   clear h
   refine c_cut (fun e a w => e = .normal ∧ ∃ (ρ : Nat → Value) (σ : St), a = fr 25 (updL ρ [(0, (.int .u64 o7.1)), (2, (I o7.2))]) ∧ w = σ.w ∧ Hp S0 σ0 σ []) ?_ ?_
   ·clear h'
    rename _ = some o7 => h
    refine cd_cond (decide (256 ≤ o4.1)) rfl (fun hb8 => ?_) (fun hb8 => ?_)
    ·replace h := bif_t hb8 h
     refine c_seq ?_
     refine rg ?_
     refine st (v := (.int .u64 o4.1)) (rv_move rfl) ?_
     refine st (v := (.int .u64 (gshr .u64 o4.1 8))) (rvk_shr (k := .u64) (k' := .u64) (a := o4.1) (b := 8) rfl rfl (by decide)) ?_
     refine st (v := (.int .u64 (gshr .u64 o4.1 8))) (rv_assign rfl) ?_
     refine w_end ?_
     refine q_then ?_
     refine rg ?_
     refine st (v := (I o4.2)) (rv_move rfl) ?_
     refine st (v := (I (w64 (o4.2 + 8)))) (rv_add (a := o4.2) (b := 8) rfl rfl) ?_
     refine st (v := (I (w64 (o4.2 + 8)))) (rv_assign rfl) ?_
     refine w_end ?_
     obtain rfl := Option.some.inj h
     exact ⟨rfl, _, σ6, fr_join ⟨rfl, rfl, trivial⟩, rfl, H.sel' [] rfl rfl⟩
    ·replace h := bif_f hb8 h
     refine c_skip ?_
     obtain rfl := Option.some.inj h
     exact ⟨rfl, _, σ6, fr_join ⟨rfl, rfl, trivial⟩, rfl, H.sel' [] rfl rfl⟩
   ·clear hj
    have h := h'
    clear h' H
    rintro e a w ⟨rfl, ρ, σ9, rfl, rfl, H⟩
    refine q_then ?_
    refine c_seq ?_
    refine rg ?_
    refine st (v := (I o7.2)) (rv_move rfl) ?_
    refine st (v := (.int .u64 o7.1)) (rv_move rfl) ?_
    refine st (v := (.int .u8 (wk .u8 o7.1))) (rvk_conv (k := .u64) (k' := .u8) (a := o7.1) Try.underlying166 Try.underlying5 rfl) ?_
    obtain ⟨x10, hx11, h'⟩ := bind_some h
    clear h
    have h := h'; clear h'
    refine st (v := (.int .u8 x10)) (rv_sidx (bs := [0, 1, 2, 2, 3, 3, 3, 3, 4, 4, 4, 4, 4, 4, 4, 4, 5, 5, 5, 5, 5, 5, 5, 5, 5, 5, 5, 5, 5, 5, 5, 5, 6, 6, 6, 6, 6, 6, 6, 6, 6, 6, 6, 6, 6, 6, 6, 6, 6, 6, 6, 6, 6, 6, 6, 6, 6, 6, 6, 6, 6, 6, 6, 6, 7, 7, 7, 7, 7, 7, 7, 7, 7, 7, 7, 7, 7, 7, 7, 7, 7, 7, 7, 7, 7, 7, 7, 7, 7, 7, 7, 7, 7, 7, 7, 7, 7, 7, 7, 7, 7, 7, 7, 7, 7, 7, 7, 7, 7, 7, 7, 7, 7, 7, 7, 7, 7, 7, 7, 7, 7, 7, 7, 7, 7, 7, 7, 7, 8, 8, 8, 8, 8, 8, 8, 8, 8, 8, 8, 8, 8, 8, 8, 8, 8, 8, 8, 8, 8, 8, 8, 8, 8, 8, 8, 8, 8, 8, 8, 8, 8, 8, 8, 8, 8, 8, 8, 8, 8, 8, 8, 8, 8, 8, 8, 8, 8, 8, 8, 8, 8, 8, 8, 8, 8, 8, 8, 8, 8, 8, 8, 8, 8, 8, 8, 8, 8, 8, 8, 8, 8, 8, 8, 8, 8, 8, 8, 8, 8, 8, 8, 8, 8, 8, 8, 8, 8, 8, 8, 8, 8, 8, 8, 8, 8, 8, 8, 8, 8, 8, 8, 8, 8, 8, 8, 8, 8, 8, 8, 8, 8, 8, 8, 8, 8, 8, 8, 8, 8, 8, 8, 8, 8, 8, 8, 8]) Try.underlying9 rfl rfl hx11) ?_
    refine st (v := (I (wk .i64 x10))) (rvk_conv (k := .u8) (k' := .i64) (a := x10) Try.underlying5 Try.underlying3 rfl) ?_
    refine st (v := (I (w64 (o7.2 + (wk .i64 x10))))) (rv_add (a := o7.2) (b := (wk .i64 x10)) rfl rfl) ?_
    refine st (v := (I (w64 (o7.2 + (wk .i64 x10))))) (rv_assign rfl) ?_
    refine w_end ?_
    refine q_then ?_
    refine c_ret ?_
    obtain rfl := Option.some.inj h
    exact fin_ret (v := (I (w64 (o7.2 + (wk .i64 x10))))) (results_ok Try.results142 (res_tmp (v := (I (w64 (o7.2 + (wk .i64 x10))))) rfl res_nil) rfl) ⟨rfl, rfl⟩ (H.sel' [] rfl rfl)

theorem c_math_bits_Len {x_0 : Int}  {r : Int} (h : M.math_bits_Len x_0 = some r) :
    Cal2 Try.prog 128 [(.int .u64 x_0)] [] (fun n0 v L => v = (I r) ∧ L = []) := by
 refine cal2 (n := 8) Try.func128 rfl rfl rfl rfl ?_
 intro S0 σ0 n0 hn0 H
 unfold M.math_bits_Len at h
 refine c_seq ?_
 refine rg ?_
 refine st (v := (I 0)) (rv_assign rfl) ?_
 refine w_end ?_
 refine q_then ?_
 refine c_seq ?_
 refine cd_false rfl ?_
 refine c_skip ?_
 refine q_then ?_
 refine c_seq ?_
 refine rg ?_
 refine st (v := (.int .u64 x_0)) (rv_move rfl) ?_
 obtain ⟨r1, hx2, h'⟩ := bind_some h
 clear h
 have h := h'; clear h'
 have hc3 := c_math_bits_Len64 hx2
 refine st_call (cx_call hc3 (ent_f hc3.fn rfl) hn0 (show Hp S0 σ0 _ ([] ++ []) from (H.sel' [] rfl rfl))) (wanted_none _ rfl _) ?_
 rintro _ σ4 ⟨_, ⟨rfl, rfl⟩, H, -⟩
 replace H : Hp S0 σ0 σ4 [] := H
 refine st (v := (I r1)) (rv_assign rfl) ?_
 refine w_end ?_
 refine q_then ?_
 refine c_ret ?_
 obtain rfl := Option.some.inj h
 exact fin_ret (v := (I r1)) (results_ok Try.results128 (res_tmp (v := (I r1)) rfl res_nil) rfl) ⟨rfl, rfl⟩ (H.sel' [] rfl rfl)

theorem c_slices_nextPowerOfTwo {length_0 : Int}  {r : Int} (h : M.slices_nextPowerOfTwo length_0 = some r) :
    Cal2 Try.prog 153 [(I length_0)] [] (fun n0 v L => v = (.int .u64 r) ∧ L = []) := by
 refine cal2 (n := 7) Try.func153 rfl rfl rfl rfl ?_
 intro S0 σ0 n0 hn0 H
 unfold M.slices_nextPowerOfTwo at h
 refine c_seq ?_
 refine rg ?_
 refine st (v := (.int .u64 0)) (rv_assign rfl) ?_
 refine w_end ?_
 refine q_then ?_
 refine c_seq ?_
 refine rg ?_
 refine st (v := (I length_0)) (rv_move rfl) ?_
 refine st (v := (.int .u64 (wk .u64 length_0))) (rvk_conv (k := .i64) (k' := .u64) (a := length_0) Try.underlying3 Try.underlying150 rfl) ?_
 obtain ⟨r1, hx2, h'⟩ := bind_some h
 clear h
 have h := h'; clear h'
 have hc3 := c_math_bits_Len hx2
 refine st_call (cx_call hc3 (ent_f hc3.fn rfl) hn0 (show Hp S0 σ0 _ ([] ++ []) from (H.sel' [] rfl rfl))) (wanted_none _ rfl _) ?_
 rintro _ σ4 ⟨_, ⟨rfl, rfl⟩, H, -⟩
 replace H : Hp S0 σ0 σ4 [] := H
 obtain ⟨q5, hx6, h'⟩ := bind_some h
 clear h
 have h := h'; clear h'
 refine st (v := (.int .u64 q5)) (rvk_shlG (k := .u64) (k' := .i64) (a := 1) (b := r1) hx6 rfl rfl) ?_
 refine st (v := (.int .u64 q5)) (rv_assign rfl) ?_
 refine w_end ?_
 refine q_then ?_
 refine c_ret ?_
 obtain rfl := Option.some.inj h
 exact fin_ret (v := (.int .u64 q5)) (results_ok Try.results153 (res_tmp (v := (.int .u64 q5)) rfl res_nil) rfl) ⟨rfl, rfl⟩ (H.sel' [] rfl rfl)

theorem c_slices_xorshift_Next {r_0 : Int} {lor_0 br_0 or_0 : Nat} {prer_0 sufr_0 : List Value} {r : Int × Int} (h : M.slices_xorshift_Next r_0 = some r) :
    Cal2 Try.prog 154 [(pt br_0 or_0)] [Ch.bx lor_0 br_0 or_0 [(.int .u64 r_0)] prer_0 sufr_0] (fun n0 v L => v = (.int .u64 r.1) ∧ L = [Ch.bx lor_0 br_0 or_0 [(.int .u64 r.2)] prer_0 sufr_0]) := by
 refine cal2 (n := 33) Try.func154 rfl rfl rfl rfl ?_
 intro S0 σ0 n0 hn0 H
 unfold M.slices_xorshift_Next at h
 refine c_seq ?_
 refine rg ?_
 refine st (v := (.int .u64 0)) (rv_assign rfl) ?_
 refine w_end ?_
 refine q_then ?_
 refine c_seq ?_
 refine rgP (σ := σ0) 7 (by kernel_rfl) (by kernel_rfl) (by kernel_rfl) ?_
 refine sq (v := (pt br_0 or_0)) (rv_move rfl) ?_
 refine sq (v := (pt br_0 or_0)) (rv_nilCheck rfl) ?_
 have hc1 := H.cell (u := (.int .u64 r_0)) (o' := or_0) 0 0 rfl rfl rfl
 refine sq (v := (.int .u64 r_0)) (rv_load1 Try.underlying173 rfl rfl hc1) ?_
 refine sq (v := (pt br_0 or_0)) (rv_move rfl) ?_
 refine sq (v := (pt br_0 or_0)) (rv_nilCheck rfl) ?_
 have hc2 := H.cell (u := (.int .u64 r_0)) (o' := or_0) 0 0 rfl rfl rfl
 refine sq (v := (.int .u64 r_0)) (rv_load1 Try.underlying173 rfl rfl hc2) ?_
 refine sq (v := (.int .u64 (gshl .u64 r_0 13))) (rvk_shl (k := .u64) (k' := .u64) (a := r_0) (b := 13) rfl rfl (by decide)) ?_
 refine sq_end ?_
 intro σ3 hm4
 replace H := H.grow (hm4.mono fun _ h => h); clear hm4
 refine st (v := (.int .u64 (gxork .u64 r_0 (gshl .u64 r_0 13)))) (rvk_xor (k := .u64) (a := r_0) (b := (gshl .u64 r_0 13)) rfl rfl) ?_
 refine st (v := (pt br_0 or_0)) (rv_nilCheck rfl) ?_
 refine st_exS (ex_store_box (k := 0) (cs := [(.int .u64 r_0)]) (vs := [(.int .u64 (gxork .u64 r_0 (gshl .u64 r_0 13)))]) (cs' := [(.int .u64 (gxork .u64 r_0 (gshl .u64 r_0 13)))]) H (i := 0) rfl ti173 rfl rfl rfl rfl rfl (Nat.le_of_ble_eq_true rfl) (by simp [plain]) rfl) (wanted_none _ rfl _) ?_
 rintro σ5 ⟨H, -⟩
 refine w_end ?_
 refine q_then ?_
 refine c_seq ?_
 refine rgP (σ := σ5) 7 (by kernel_rfl) (by kernel_rfl) (by kernel_rfl) ?_
 refine sq (v := (pt br_0 or_0)) (rv_move rfl) ?_
 refine sq (v := (pt br_0 or_0)) (rv_nilCheck rfl) ?_
 have hc6 := H.cell (u := (.int .u64 (gxork .u64 r_0 (gshl .u64 r_0 13)))) (o' := or_0) 0 0 rfl rfl rfl
 refine sq (v := (.int .u64 (gxork .u64 r_0 (gshl .u64 r_0 13)))) (rv_load1 Try.underlying173 rfl rfl hc6) ?_
 refine sq (v := (pt br_0 or_0)) (rv_move rfl) ?_
 refine sq (v := (pt br_0 or_0)) (rv_nilCheck rfl) ?_
 have hc7 := H.cell (u := (.int .u64 (gxork .u64 r_0 (gshl .u64 r_0 13)))) (o' := or_0) 0 0 rfl rfl rfl
 refine sq (v := (.int .u64 (gxork .u64 r_0 (gshl .u64 r_0 13)))) (rv_load1 Try.underlying173 rfl rfl hc7) ?_
 refine sq (v := (.int .u64 (gshr .u64 (gxork .u64 r_0 (gshl .u64 r_0 13)) 7))) (rvk_shr (k := .u64) (k' := .u64) (a := (gxork .u64 r_0 (gshl .u64 r_0 13))) (b := 7) rfl rfl (by decide)) ?_
 refine sq_end ?_
 intro σ8 hm9
 replace H := H.grow (hm9.mono fun _ h => h); clear hm9
 refine st (v := (.int .u64 (gxork .u64 (gxork .u64 r_0 (gshl .u64 r_0 13)) (gshr .u64 (gxork .u64 r_0 (gshl .u64 r_0 13)) 7)))) (rvk_xor (k := .u64) (a := (gxork .u64 r_0 (gshl .u64 r_0 13))) (b := (gshr .u64 (gxork .u64 r_0 (gshl .u64 r_0 13)) 7)) rfl rfl) ?_
 refine st (v := (pt br_0 or_0)) (rv_nilCheck rfl) ?_
 refine st_exS (ex_store_box (k := 0) (cs := [(.int .u64 (gxork .u64 r_0 (gshl .u64 r_0 13)))]) (vs := [(.int .u64 (gxork .u64 (gxork .u64 r_0 (gshl .u64 r_0 13)) (gshr .u64 (gxork .u64 r_0 (gshl .u64 r_0 13)) 7)))]) (cs' := [(.int .u64 (gxork .u64 (gxork .u64 r_0 (gshl .u64 r_0 13)) (gshr .u64 (gxork .u64 r_0 (gshl .u64 r_0 13)) 7)))]) H (i := 0) rfl ti173 rfl rfl rfl rfl rfl (Nat.le_of_ble_eq_true rfl) (by simp [plain]) rfl) (wanted_none _ rfl _) ?_
 rintro σ10 ⟨H, -⟩
 refine w_end ?_
 refine q_then ?_
 refine c_seq ?_
 refine rgP (σ := σ10) 7 (by kernel_rfl) (by kernel_rfl) (by kernel_rfl) ?_
 refine sq (v := (pt br_0 or_0)) (rv_move rfl) ?_
 refine sq (v := (pt br_0 or_0)) (rv_nilCheck rfl) ?_
 have hc11 := H.cell (u := (.int .u64 (gxork .u64 (gxork .u64 r_0 (gshl .u64 r_0 13)) (gshr .u64 (gxork .u64 r_0 (gshl .u64 r_0 13)) 7)))) (o' := or_0) 0 0 rfl rfl rfl
 refine sq (v := (.int .u64 (gxork .u64 (gxork .u64 r_0 (gshl .u64 r_0 13)) (gshr .u64 (gxork .u64 r_0 (gshl .u64 r_0 13)) 7)))) (rv_load1 Try.underlying173 rfl rfl hc11) ?_
 refine sq (v := (pt br_0 or_0)) (rv_move rfl) ?_
 refine sq (v := (pt br_0 or_0)) (rv_nilCheck rfl) ?_
 have hc12 := H.cell (u := (.int .u64 (gxork .u64 (gxork .u64 r_0 (gshl .u64 r_0 13)) (gshr .u64 (gxork .u64 r_0 (gshl .u64 r_0 13)) 7)))) (o' := or_0) 0 0 rfl rfl rfl
 refine sq (v := (.int .u64 (gxork .u64 (gxork .u64 r_0 (gshl .u64 r_0 13)) (gshr .u64 (gxork .u64 r_0 (gshl .u64 r_0 13)) 7)))) (rv_load1 Try.underlying173 rfl rfl hc12) ?_
 refine sq (v := (.int .u64 (gshl .u64 (gxork .u64 (gxork .u64 r_0 (gshl .u64 r_0 13)) (gshr .u64 (gxork .u64 r_0 (gshl .u64 r_0 13)) 7)) 17))) (rvk_shl (k := .u64) (k' := .u64) (a := (gxork .u64 (gxork .u64 r_0 (gshl .u64 r_0 13)) (gshr .u64 (gxork .u64 r_0 (gshl .u64 r_0 13)) 7))) (b := 17) rfl rfl (by decide)) ?_
 refine sq_end ?_
 intro σ13 hm14
 replace H := H.grow (hm14.mono fun _ h => h); clear hm14
 refine st (v := (.int .u64 (gxork .u64 (gxork .u64 (gxork .u64 r_0 (gshl .u64 r_0 13)) (gshr .u64 (gxork .u64 r_0 (gshl .u64 r_0 13)) 7)) (gshl .u64 (gxork .u64 (gxork .u64 r_0 (gshl .u64 r_0 13)) (gshr .u64 (gxork .u64 r_0 (gshl .u64 r_0 13)) 7)) 17)))) (rvk_xor (k := .u64) (a := (gxork .u64 (gxork .u64 r_0 (gshl .u64 r_0 13)) (gshr .u64 (gxork .u64 r_0 (gshl .u64 r_0 13)) 7))) (b := (gshl .u64 (gxork .u64 (gxork .u64 r_0 (gshl .u64 r_0 13)) (gshr .u64 (gxork .u64 r_0 (gshl .u64 r_0 13)) 7)) 17)) rfl rfl) ?_
 refine st (v := (pt br_0 or_0)) (rv_nilCheck rfl) ?_
 refine st_exS (ex_store_box (k := 0) (cs := [(.int .u64 (gxork .u64 (gxork .u64 r_0 (gshl .u64 r_0 13)) (gshr .u64 (gxork .u64 r_0 (gshl .u64 r_0 13)) 7)))]) (vs := [(.int .u64 (gxork .u64 (gxork .u64 (gxork .u64 r_0 (gshl .u64 r_0 13)) (gshr .u64 (gxork .u64 r_0 (gshl .u64 r_0 13)) 7)) (gshl .u64 (gxork .u64 (gxork .u64 r_0 (gshl .u64 r_0 13)) (gshr .u64 (gxork .u64 r_0 (gshl .u64 r_0 13)) 7)) 17)))]) (cs' := [(.int .u64 (gxork .u64 (gxork .u64 (gxork .u64 r_0 (gshl .u64 r_0 13)) (gshr .u64 (gxork .u64 r_0 (gshl .u64 r_0 13)) 7)) (gshl .u64 (gxork .u64 (gxork .u64 r_0 (gshl .u64 r_0 13)) (gshr .u64 (gxork .u64 r_0 (gshl .u64 r_0 13)) 7)) 17)))]) H (i := 0) rfl ti173 rfl rfl rfl rfl rfl (Nat.le_of_ble_eq_true rfl) (by simp [plain]) rfl) (wanted_none _ rfl _) ?_
 rintro σ15 ⟨H, -⟩
 refine w_end ?_
 refine q_then ?_
 refine c_seq ?_
 refine rg ?_
 refine st (v := (pt br_0 or_0)) (rv_move rfl) ?_
 refine st (v := (pt br_0 or_0)) (rv_nilCheck rfl) ?_
 have hc16 := H.cell (u := (.int .u64 (gxork .u64 (gxork .u64 (gxork .u64 r_0 (gshl .u64 r_0 13)) (gshr .u64 (gxork .u64 r_0 (gshl .u64 r_0 13)) 7)) (gshl .u64 (gxork .u64 (gxork .u64 r_0 (gshl .u64 r_0 13)) (gshr .u64 (gxork .u64 r_0 (gshl .u64 r_0 13)) 7)) 17)))) (o' := or_0) 0 0 rfl rfl rfl
 refine st (v := (.int .u64 (gxork .u64 (gxork .u64 (gxork .u64 r_0 (gshl .u64 r_0 13)) (gshr .u64 (gxork .u64 r_0 (gshl .u64 r_0 13)) 7)) (gshl .u64 (gxork .u64 (gxork .u64 r_0 (gshl .u64 r_0 13)) (gshr .u64 (gxork .u64 r_0 (gshl .u64 r_0 13)) 7)) 17)))) (rv_load1 Try.underlying173 rfl rfl hc16) ?_
 refine st (v := (.int .u64 (gxork .u64 (gxork .u64 (gxork .u64 r_0 (gshl .u64 r_0 13)) (gshr .u64 (gxork .u64 r_0 (gshl .u64 r_0 13)) 7)) (gshl .u64 (gxork .u64 (gxork .u64 r_0 (gshl .u64 r_0 13)) (gshr .u64 (gxork .u64 r_0 (gshl .u64 r_0 13)) 7)) 17)))) (rv_assign rfl) ?_
 refine w_end ?_
 refine q_then ?_
 refine c_ret ?_
 obtain rfl := Option.some.inj h
 exact fin_ret (v := (.int .u64 (gxork .u64 (gxork .u64 (gxork .u64 r_0 (gshl .u64 r_0 13)) (gshr .u64 (gxork .u64 r_0 (gshl .u64 r_0 13)) 7)) (gshl .u64 (gxork .u64 (gxork .u64 r_0 (gshl .u64 r_0 13)) (gshr .u64 (gxork .u64 r_0 (gshl .u64 r_0 13)) 7)) 17)))) (results_ok Try.results154 (res_tmp (v := (.int .u64 (gxork .u64 (gxork .u64 (gxork .u64 r_0 (gshl .u64 r_0 13)) (gshr .u64 (gxork .u64 r_0 (gshl .u64 r_0 13)) 7)) (gshl .u64 (gxork .u64 (gxork .u64 r_0 (gshl .u64 r_0 13)) (gshr .u64 (gxork .u64 r_0 (gshl .u64 r_0 13)) 7)) 17)))) rfl res_nil) rfl) ⟨rfl, rfl⟩ (H.sel' [0] rfl rfl)

theorem c_slices_Values_impl_hitHeap_impl_Hit {s_0 : List (Int × Int)} {as_0 : Option Addr} {cs_0 : Nat} {r : Unit} (h : M.slices_Values_impl_hitHeap_impl_Hit s_0 = some r) :
    Cal2 Try.prog 100 [(Sl as_0 s_0 cs_0)] [Ch.ro 0 (Sl as_0 s_0 cs_0) s_0] (fun n0 v L => ∃ (bz1 : Nat), v = (.func (.func 121) #[] #[(pt bz1 0)]) ∧ L = [Ch.bx n0 bz1 0 [(Sl as_0 s_0 cs_0)] [] []]) := by
 refine cal2 (n := 4) Try.func100 rfl rfl rfl rfl ?_
 intro S0 σ0 n0 hn0 H
 unfold M.slices_Values_impl_hitHeap_impl_Hit at h
 refine c_seq ?_
 refine rg ?_
 refine st_ex (ex_box (cs := [(Sl as_0 s_0 cs_0)]) H hn0 rfl rfl) (wanted_none _ rfl _) ?_
 rintro _ σ2 ⟨b1, rfl, H, -⟩
 refine st (v := .nilFunc) (rv_assign rfl) ?_
 refine w_end ?_
 refine q_then ?_
 refine c_seq ?_
 refine rg ?_
 refine st (v := (.func (.func 121) #[] #[(pt b1 0)])) (rv_makeFunc (vs := [(pt b1 0)]) rfl) ?_
 refine st (v := (.func (.func 121) #[] #[(pt b1 0)])) (rv_assign rfl) ?_
 refine w_end ?_
 refine q_then ?_
 refine c_ret ?_
 obtain rfl := Option.some.inj h
 exact fin_ret (v := (.func (.func 121) #[] #[(pt b1 0)])) (results_ok Try.results100 (res_tmp (v := (.func (.func 121) #[] #[(pt b1 0)])) rfl res_nil) rfl) ⟨b1, rfl, rfl⟩ (H.sel' [0] rfl rfl)

/-- What the iterator does: it hands the elements over in their order. -/
theorem it_slices_AppendSeq_impl_Hit_impl_Hit__slices_Values_impl_hitHeap_impl_Hit_1 {b o c l : Nat} {a : Option Addr} {xs : List (Int × Int)} {J : Nat → St → Prop} (hst : ∀ {i σ σ'}, J i σ → Md (fun _ => False) σ σ' → J i σ')
    (hbx : ∀ {i σ}, J i σ → HCell σ.w.heap b o = some (Sl a xs c) ∧ Rd 0 σ (Sl a xs c) xs) (hn : xs.length ≤ 2147483648)
    (hy : ∀ i, (h : i < xs.length) → ∀ σ, J i σ → YieldAt Fence.wide 0 Try.prog l [(.agg #[(I (xs[i]).1), (I (xs[i]).2)])].toArray σ.w fun e W' => e = .returned (.bool true) ∧ ∃ σ', W' = σ'.w ∧ J (i + 1) σ')
    (σ : St) (h0 : J 0 σ) : CallsIn Fence.wide 0 Try.prog 121 [.func (.yield l) #[] #[], (pt b o)].toArray σ.w fun e W' => (∃ v, e = .returned v) ∧ ∃ σ', W' = σ'.w ∧ J xs.length σ' := by
  refine enterI (n := 16) Try.func121 rfl rfl rfl ?_
  refine wpIn_seq ?_
  obtain ⟨hc, -⟩ := hbx h0
  refine rgI ?_
  refine stI nofun (v := (Sl a xs c)) (rv_load1 Try.underlying79 rfl rfl hc) ?_
  refine stI nofun (v := (I (xs.length : Int))) (rv_len Try.underlying79 rfl) ?_
  refine stI nofun (v := (I 0)) (rv_move rfl) ?_
  refine endI ?_
  refine q_then ?_
  refine wpIn_block ?_
  refine wpIn_loop_ghost (fun k a' w' => ∃ i ρ σ, i + k = xs.length ∧ a' = fr 16 (updL ρ [(0, .func (.yield l) #[] #[]), (1, pt b o), (5, Sl a xs c), (6, I (xs.length : Int)), (7, I (i : Int))]) ∧ w' = σ.w ∧ J i σ) xs.length ⟨0, _, σ, by omega, fr_join ⟨rfl, rfl, rfl, rfl, rfl, trivial⟩, rfl, h0⟩ ?_
  clear hc h0
  rintro k _ _ ⟨i, ρ, σ, hik, rfl, rfl, hJ⟩
  refine wpIn_seq ?_
  refine rgI ?_
  refine stI nofun (v := (B (decide ((i : Int) < (xs.length : Int))))) (rv_lss (a := (i : Int)) (b := (xs.length : Int)) rfl rfl) ?_
  refine endI ?_
  refine q_then ?_
  refine wpIn_seq ?_
  refine cdI_cond (decide ((i : Int) < (xs.length : Int))) rfl (fun hb => ?_) (fun hb => ?_)
  · have hlt : i < xs.length := by have := of_decide_eq_true hb; omega
    refine wpIn_skip ?_
    refine q_then ?_
    refine wpIn_seq ?_
    refine wpIn_block ?_
    refine wpIn_seq ?_
    refine rgI ?_
    have hg : gidx xs (i : Int) = some xs[i] := gidx_at hlt
    obtain ⟨-, hR⟩ := hbx hJ
    obtain ⟨bx, ox, hi, hat⟩ := hR.ix hg
    obtain ⟨_, ⟨_, _, rfl, rfl, rfl⟩, hl, hcx⟩ := hat.cells
    refine stI nofun (v := (pt bx ox)) (rv_ix Try.underlying79 ti64 rfl rfl hi) ?_
    refine stI nofun (v := (.agg #[(I (xs[i]).1), (I (xs[i]).2)])) (rv_load (cs := [(I (xs[i]).1), (I (xs[i]).2)]) Try.underlying64 rfl ti64 rfl hl hcx) ?_
    have H : Hp (cov []) σ σ [] := Hp.begin trivial trivial
    refine stI_ex nofun (ex_alloc (lo := 0) H (Nat.zero_le _) ti64 rfl) ?_
    rintro _ σ2 ⟨b4, rfl, H, -⟩
    refine stI_exS nofun (ex_store_box (vs := [(I (xs[i]).1), (I (xs[i]).2)]) (k := 0) H (i := 0) rfl ti64 rfl rfl rfl rfl rfl (Nat.le_of_ble_eq_true rfl) (by simp [plain]) rfl) ?_
    rintro σ3 ⟨H, -⟩
    refine endI ?_
    refine q_then ?_
    refine wpIn_seq ?_
    refine rgI ?_
    refine stI nofun (v := (.func (.yield l) #[] #[])) (rv_move rfl) ?_
    have hc4 := H.cells 0 rfl
    refine stI nofun (v := (.agg #[(I (xs[i]).1), (I (xs[i]).2)])) (rv_load (cs := [(I (xs[i]).1), (I (xs[i]).2)]) Try.underlying64 rfl ti64 rfl rfl hc4) ?_
    refine stI_yield (args := [(.agg #[(I (xs[i]).1), (I (xs[i]).2)])]) rfl rfl (hy i hlt σ3 (hst hJ H.md)) ?_
    rintro e w' ⟨rfl, σ4, rfl, hJ4⟩
    refine ⟨_, rfl, ?_⟩
    refine stI nofun (v := (B (!true))) (rv_not rfl) ?_
    refine endI ?_
    refine q_then ?_
    refine cdI_cond false rfl (fun hb => by cases hb) (fun _ => ?_)
    refine wpIn_skip ?_
    refine q_blk ?_
    refine q_then ?_
    refine rgI ?_
    refine stI nofun (v := (I (w64 ((i : Int) + 1)))) (rv_add (a := (i : Int)) (b := 1) rfl rfl) ?_
    refine stI nofun (v := (I (w64 ((i : Int) + 1)))) (rv_move rfl) ?_
    refine endI ?_
    have e1 : w64 ((i : Int) + 1) = ((i + 1 : Nat) : Int) := w64_id (by omega) (by omega)
    rw [e1]
    refine q_then ?_
    exact ⟨k - 1, by omega, i + 1, _, σ4, by omega, fr_join ⟨rfl, rfl, rfl, rfl, rfl, trivial⟩, rfl, hJ4⟩
  · have hlt : ¬ i < xs.length := by have := of_decide_eq_false hb; omega
    have : i = xs.length := by omega
    subst this
    refine wpIn_exit ?_
    refine q_then_x ?_
    refine q_then_x ?_
    refine q_blk_hit ?_
    exact fin_plain' (v := .tuple #[]) (results_ok Try.results121 res_nil rfl) ⟨⟨_, rfl⟩, σ, rfl, hJ⟩
/-- append, over and over. -/
theorem c_slices_AppendSeq_impl_Hit_impl_Hit__slices_Values_impl_hitHeap_impl_Hit_1 {seq_1_0 : List (Int × Int)} {aseq_1_0 : Option Addr} {cseq_1_0 : Nat} {loseq_1_0 bseq_1_0 oseq_1_0 : Nat} {preseq_1_0 sufseq_1_0 : List Value} {r : List (Int × Int)} (h : M.slices_AppendSeq_impl_Hit_impl_Hit__slices_Values_impl_hitHeap_impl_Hit_1 seq_1_0 = some r) :
    Cal2 Try.prog 129 [.slice none 0 0, (.func (.func 121) #[] #[(pt bseq_1_0 oseq_1_0)])] [Ch.bx loseq_1_0 bseq_1_0 oseq_1_0 [(Sl aseq_1_0 seq_1_0 cseq_1_0)] preseq_1_0 sufseq_1_0, Ch.ro 0 (Sl aseq_1_0 seq_1_0 cseq_1_0) seq_1_0] (fun n0 v L => ∃ (az1 : Option Addr), ∃ (cz2 : Nat), v = (Sl az1 r cz2) ∧ L = [Ch.own n0 n0 (Sl az1 r cz2) r, Ch.bx loseq_1_0 bseq_1_0 oseq_1_0 [(Sl aseq_1_0 seq_1_0 cseq_1_0)] preseq_1_0 sufseq_1_0]) := by
  obtain ⟨hn, rfl⟩ := coll_some (show M.coll seq_1_0 = some r from h)
  refine ⟨⟨_, _, Try.func129, rfl, rfl⟩, fun σ0 n0 hn0 H => ?_⟩
  refine callsIn_wide.1 (enterI (n := 13) Try.func129 rfl rfl rfl ?_)
  refine wpIn_seq ?_
  refine rgI ?_
  refine stI_ex nofun (ex_box (cs := [.slice none 0 0]) H hn0 rfl rfl) ?_
  rintro _ σ1 ⟨b1, rfl, H, -⟩
  refine stI nofun (v := (.slice none 0 0)) (rv_assign rfl) ?_
  refine endI ?_
  refine q_then ?_
  refine wpIn_seq ?_
  refine wpIn_seq ?_
  refine rgI ?_
  refine stI nofun (v := (.func (.func 121) #[] #[(pt bseq_1_0 oseq_1_0)])) (rv_move rfl) ?_
  refine endI ?_
  refine q_then ?_
  refine wpIn_block ?_
  replace H := H.nilOwn (Int × Int) n0 n0
  refine wp_rangeF (gf := 121) (lb := #[(pt bseq_1_0 oseq_1_0)]) (N := r.length) (encs := fun i => [(.agg #[(I (r.getD i (0, 0)).1), (I (r.getD i (0, 0)).2)])].toArray) (by rw [fr_eval]; rfl) (eg_of ⟨_, _, Try.func121, rfl, rfl⟩) (fun _ _ => rfl)
    (fun i L => ∃ a' c', L = [Ch.own n0 n0 (Sl a' (r.take i) c') (r.take i), Ch.bx n0 b1 0 [(Sl a' (r.take i) c')] [] [], Ch.bx loseq_1_0 bseq_1_0 oseq_1_0 [(Sl aseq_1_0 r cseq_1_0)] preseq_1_0 sufseq_1_0, Ch.ro 0 (Sl aseq_1_0 r cseq_1_0) r]) ⟨none, 0, rfl⟩ H ?_ ?_ ?_
  · intro l J hst hJ hy σ h0
    refine it_slices_AppendSeq_impl_Hit_impl_Hit__slices_Values_impl_hitHeap_impl_Hit_1 (J := J) (a := aseq_1_0) (c := cseq_1_0) hst (fun {i σ} h => ?_) hn (fun i hi σ h => ?_) σ h0
    · obtain ⟨L, R, ⟨a', c', rfl⟩, H⟩ := hJ h
      have H2 := H.drop R
      exact ⟨H2.cells 2 rfl 0 (by simp), (H2.ro 3 rfl).rd⟩
    · have := hy i hi σ h
      simpa [List.getD, hi] using this
  · rintro l D i rc rc' hi σ _ ⟨a', c', rfl⟩ H
    have hgd : r.getD i (0, 0) = r[i] := by simp [List.getD, hi]
    simp only [hgd]
    rw [round_fr]
    refine rgI ?_
    refine stI_ex nofun (ex_alloc (lo := n0) H hn0 ti64 rfl) ?_
    rintro _ σ2 ⟨b5, rfl, H, -⟩
    refine stI_exS nofun (ex_store_box (vs := [(I (r[i]).1), (I (r[i]).2)]) (cs' := [(I (r[i]).1), (I (r[i]).2)]) (k := 0) H (i := 0) rfl ti64 rfl rfl rfl rfl rfl (Nat.le_of_ble_eq_true rfl) (by simp [plain]) rfl) ?_
    rintro σ3 ⟨H, -⟩
    refine endI ?_
    refine q_then ?_
    refine ⟨σ3, _, rfl, H.sel' [1, 2, 0, 3, 4, 5, 6] rfl rfl, ?_⟩
    clear H
    intro σ4 H
    refine wpIn_block ?_
    refine rgI ?_
    have hc1 := H.cells 4 rfl
    refine stI nofun (v := (Sl a' (r.take i) c')) (rv_load1 Try.underlying27 rfl rfl (hc1 0 (by simp))) ?_
    have hc5 := H.cells 2 rfl
    refine stI nofun (v := (.agg #[(I (r[i]).1), (I (r[i]).2)])) (rv_load (cs := [(I (r[i]).1), (I (r[i]).2)]) Try.underlying64 rfl ti64 rfl rfl hc5) ?_
    refine stI_ex nofun (ex_buildSlice (lo := n0) (el := n0) (xs := ([((r[i]).1, (r[i]).2)] : List (Int × Int))) (ps := [(0, (.agg #[(I (r[i]).1), (I (r[i]).2)]))]) (cs := [(I (r[i]).1), (I (r[i]).2)]) H hn0 Try.underlying27 ti64 rfl rfl (by kernel_rfl) (.cons (c := [(I (r[i]).1), (I (r[i]).2)]) ⟨_, _, rfl, rfl, rfl⟩ .nil) rfl) ?_
    rintro _ σ5 ⟨b10, rfl, H, -⟩
    refine stI_ex nofun (ex_append H (i := 4) rfl Try.underlying27 Try.underlying27 ti64 rfl rfl (by decide) (H.own 0 rfl).rd (take_gapp hi hn) hn0 rfl rfl) ?_
    rintro _ σ6 ⟨a2, c2, rfl, H, -⟩
    refine stI_exS nofun (ex_store_box (vs := [(Sl a2 (r.take (i + 1)) c2)]) (cs' := [(Sl a2 (r.take (i + 1)) c2)]) (k := 0) H (i := 5) rfl ti27 rfl rfl rfl rfl rfl (Nat.le_of_ble_eq_true rfl) (by simp [plain, Sl]) rfl) ?_
    rintro σ7 ⟨H, -⟩
    refine endI ?_
    refine q_blk ?_
    exact ⟨rfl, σ7, _, rfl, ⟨a2, c2, rfl⟩, H.sel' [3, 4, 1, 0, 6, 7] rfl rfl⟩
  · rintro D σ _ ⟨a', c', rfl⟩ H
    rw [List.take_length] at H
    refine q_blk ?_
    refine q_then ?_
    refine wpIn_seq ?_
    refine rgD (ds := [{ target := .collected D, args := #[] }]) ?_
    have hc1 := H.cells 2 rfl
    refine stD nofun (v := (Sl a' r c')) (rv_load1 Try.underlying27 rfl rfl (hc1 0 (by simp))) ?_
    refine stD nofun (v := (Sl a' r c')) (rv_assign rfl) ?_
    refine endD ?_
    refine q_then ?_
    refine wpIn_ret ?_
    exact fin_mark (v := Sl a' r c') H (results_ok Try.results129 (res_tmp (v := Sl a' r c') rfl res_nil) rfl) ⟨_, _, _, rfl, rfl, ⟨a', c', rfl, rfl⟩, (H.putDf _).sel' [0, 2] rfl rfl⟩

theorem c_slices_Collect_impl_Hit__slices_Values_impl_hitHeap_impl_Hit_1 {seq_0_0 : List (Int × Int)} {aseq_0_0 : Option Addr} {cseq_0_0 : Nat} {loseq_0_0 bseq_0_0 oseq_0_0 : Nat} {preseq_0_0 sufseq_0_0 : List Value} {r : (List (Int × Int))} (h : M.slices_Collect_impl_Hit__slices_Values_impl_hitHeap_impl_Hit_1 seq_0_0 = some r) :
    Cal2 Try.prog 119 [(.func (.func 121) #[] #[(pt bseq_0_0 oseq_0_0)])] [Ch.bx loseq_0_0 bseq_0_0 oseq_0_0 [(Sl aseq_0_0 seq_0_0 cseq_0_0)] preseq_0_0 sufseq_0_0, Ch.ro 0 (Sl aseq_0_0 seq_0_0 cseq_0_0) seq_0_0] (fun n0 v L => ∃ (az1 : Option Addr), ∃ (cz2 : Nat), v = (Sl az1 r cz2) ∧ L = [Ch.own n0 n0 (Sl az1 r cz2) r, Ch.bx loseq_0_0 bseq_0_0 oseq_0_0 [(Sl aseq_0_0 seq_0_0 cseq_0_0)] preseq_0_0 sufseq_0_0]) := by
 refine cal2 (n := 5) Try.func119 rfl rfl rfl rfl ?_
 intro S0 σ0 n0 hn0 H
 unfold M.slices_Collect_impl_Hit__slices_Values_impl_hitHeap_impl_Hit_1 at h
 refine c_seq ?_
 refine rg ?_
 refine st (v := (.slice none 0 0)) (rv_assign rfl) ?_
 refine w_end ?_
 refine q_then ?_
 refine c_seq ?_
 refine rg ?_
 refine st (v := (.func (.func 121) #[] #[(pt bseq_0_0 oseq_0_0)])) (rv_move rfl) ?_
 obtain ⟨r1, hx2, h'⟩ := bind_some h
 clear h
 have h := h'; clear h'
 have hc3 := c_slices_AppendSeq_impl_Hit_impl_Hit__slices_Values_impl_hitHeap_impl_Hit_1 (loseq_1_0 := loseq_0_0) (bseq_1_0 := bseq_0_0) (oseq_1_0 := oseq_0_0) (preseq_1_0 := preseq_0_0) (sufseq_1_0 := sufseq_0_0) (aseq_1_0 := aseq_0_0) (cseq_1_0 := cseq_0_0) hx2
 refine st_call (cx_call hc3 (ent_f hc3.fn rfl) hn0 (show Hp S0 σ0 _ ([Ch.bx loseq_0_0 bseq_0_0 oseq_0_0 [(Sl aseq_0_0 seq_0_0 cseq_0_0)] preseq_0_0 sufseq_0_0, Ch.ro 0 (Sl aseq_0_0 seq_0_0 cseq_0_0) seq_0_0] ++ [Ch.ro 0 (Sl aseq_0_0 seq_0_0 cseq_0_0) seq_0_0]) from (H.sel' [0, 1, 1] rfl rfl))) (wanted_none _ rfl _) ?_
 rintro _ σ6 ⟨_, ⟨a4, c5, rfl, rfl⟩, H, -⟩
 replace H : Hp S0 σ0 σ6 [Ch.own n0 n0 (Sl a4 r1 c5) r1, Ch.bx loseq_0_0 bseq_0_0 oseq_0_0 [(Sl aseq_0_0 seq_0_0 cseq_0_0)] preseq_0_0 sufseq_0_0, Ch.ro 0 (Sl aseq_0_0 seq_0_0 cseq_0_0) seq_0_0] := H
 refine st (v := (Sl a4 r1 c5)) (rv_assign rfl) ?_
 refine w_end ?_
 refine q_then ?_
 refine c_ret ?_
 obtain rfl := Option.some.inj h
 exact fin_ret (v := (Sl a4 r1 c5)) (results_ok Try.results119 (res_tmp (v := (Sl a4 r1 c5)) rfl res_nil) rfl) ⟨a4, c5, rfl, rfl⟩ (H.sel' [0, 1] rfl rfl)

theorem c_slices_insertionSortCmpFunc_impl_Hit__impl_compareHits {data_0 : List (Int × Int)} {a_1 : Int} {b_2 : Int} {adata_0 : Option Addr} {cdata_0 : Nat} {r : (List (Int × Int))} (h : M.slices_insertionSortCmpFunc_impl_Hit__impl_compareHits data_0 a_1 b_2 = some r) :
    Cal2 Try.prog 143 [(Sl adata_0 data_0 cdata_0), (I a_1), (I b_2), (.func (.func 101) #[] #[])] [Ch.own 0 0 (Sl adata_0 data_0 cdata_0) data_0] (fun n0 v L => v = (.tuple #[]) ∧ L = [Ch.own 0 0 (Sl adata_0 r cdata_0) r] ∧ r.length = data_0.length) := by
 refine cal2 (n := 53) Try.func143 rfl rfl rfl rfl ?_
 intro S0 σ0 n0 hn0 H
 unfold M.slices_insertionSortCmpFunc_impl_Hit__impl_compareHits at h
 refine c_seq ?_
 refine rg ?_
 refine st (v := (I a_1)) (rv_move rfl) ?_
 refine st (v := (I (w64 (a_1 + 1)))) (rv_add (a := a_1) (b := 1) rfl rfl) ?_
 refine st (v := (I (w64 (a_1 + 1)))) (rv_assign rfl) ?_
 refine w_end ?_
 refine q_then ?_
 obtain ⟨o1, hj, h'⟩ := bind_some h
 clear h
 refine c_cut (fun e a w => e = .normal ∧ ∃ (ρ : Nat → Value) (σ : St), a = fr 53 (updL ρ [(0, (Sl adata_0 o1 cdata_0))]) ∧ w = σ.w ∧ Hp S0 σ0 σ [Ch.own 0 0 (Sl adata_0 o1 cdata_0) o1] ∧ o1.length = data_0.length) ?_ ?_
 ·clear h'
  rename _ = some o1 => h
  refine c_blk ?_
  refine wp_loopM _ h (fun s2 a w => ∃ (ρ : Nat → Value) (σ : St), a = fr 53 (updL ρ [(0, (Sl adata_0 s2.1 cdata_0)), (1, (I a_1)), (2, (I b_2)), (3, (.func (.func 101) #[] #[])), (8, (I s2.2))]) ∧ w = σ.w ∧ Hp S0 σ0 σ [Ch.own 0 0 (Sl adata_0 s2.1 cdata_0) s2.1] ∧ s2.1.length = data_0.length) ⟨_, σ0, fr_join ⟨rfl, rfl, rfl, rfl, rfl, trivial⟩, rfl, H.sel' [0] rfl rfl, rfl⟩ ?_
  clear h H
  rintro s2 a w o ⟨ρ, σ3, rfl, rfl, H, hn4⟩ h hres
  refine c_seq ?_
  refine c_seq ?_
  refine rg ?_
  refine st (v := (I s2.2)) (rv_move rfl) ?_
  refine st (v := (I b_2)) (rv_move rfl) ?_
  refine st (v := (B (decide (s2.2 < b_2)))) (rv_lss (a := s2.2) (b := b_2) rfl rfl) ?_
  refine w_end ?_
  refine q_then ?_
  refine cd_cond (decide (s2.2 < b_2)) rfl (fun hb5 => ?_) (fun hb5 => ?_)
  ·replace h := bif_t hb5 h
   refine c_skip ?_
   refine q_then ?_
   refine c_seq ?_
   refine c_blk ?_
   refine c_seq ?_
   refine rg ?_
   refine st (v := (I s2.2)) (rv_move rfl) ?_
   refine st (v := (I s2.2)) (rv_assign rfl) ?_
   refine w_end ?_
   refine q_then ?_
   obtain ⟨o6, hj, h'⟩ := bind_some h
   clear h
   refine c_cut (fun e a w => e = .normal ∧ ∃ (ρ : Nat → Value) (σ : St), a = fr 53 (updL ρ [(0, (Sl adata_0 o6 cdata_0)), (1, (I a_1)), (2, (I b_2)), (3, (.func (.func 101) #[] #[])), (8, (I s2.2))]) ∧ w = σ.w ∧ Hp S0 σ0 σ [Ch.own 0 0 (Sl adata_0 o6 cdata_0) o6] ∧ o6.length = s2.1.length) ?_ ?_
   ·clear h'
    rename _ = some o6 => h
    refine c_blk ?_
    refine wp_loopM _ h (fun s7 a w => ∃ (ρ : Nat → Value) (σ : St), a = fr 53 (updL ρ [(0, (Sl adata_0 s7.1 cdata_0)), (1, (I a_1)), (2, (I b_2)), (3, (.func (.func 101) #[] #[])), (8, (I s2.2)), (9, (I s7.2))]) ∧ w = σ.w ∧ Hp S0 σ0 σ [Ch.own 0 0 (Sl adata_0 s7.1 cdata_0) s7.1] ∧ s7.1.length = s2.1.length) ⟨_, σ3, fr_join ⟨rfl, rfl, rfl, rfl, rfl, rfl, trivial⟩, rfl, H.sel' [0] rfl rfl, rfl⟩ ?_
    clear h H
    rintro s7 a w o ⟨ρ, σ8, rfl, rfl, H, hn9⟩ h hres
    refine c_seq ?_
    refine c_seq ?_
    obtain ⟨o10, hj, h'⟩ := bind_some h
    clear h
    refine c_cut (fun e a w => e = .normal ∧ ∃ (ρ : Nat → Value) (σ : St), a = fr 53 (updL ρ [(0, (Sl adata_0 s7.1 cdata_0)), (1, (I a_1)), (2, (I b_2)), (3, (.func (.func 101) #[] #[])), (8, (I s2.2)), (9, (I s7.2)), (34, (B o10))]) ∧ w = σ.w ∧ Hp S0 σ0 σ [Ch.own 0 0 (Sl adata_0 s7.1 cdata_0) s7.1]) ?_ ?_
    ·clear h'
     rename _ = some o10 => h
     refine rgP (σ := σ8) 14 (by kernel_rfl) (by kernel_rfl) (by kernel_rfl) ?_
     refine sq (v := (I s7.2)) (rv_move rfl) ?_
     refine sq (v := (I a_1)) (rv_move rfl) ?_
     refine sq (v := (B (decide (a_1 < s7.2)))) (rv_gtr (a := s7.2) (b := a_1) rfl rfl) ?_
     refine sq (v := (B (decide (a_1 < s7.2)))) (rv_move rfl) ?_
     rcases Bool.eq_false_or_eq_true (decide (a_1 < s7.2)) with hb11 | hb11
     ·replace h := bif_t hb11 h
      refine sq_g (v := (.func (.func 101) #[] #[])) (congrArg some hb11) (rv_move rfl) ?_
      refine sq_g (v := (Sl adata_0 s7.1 cdata_0)) (congrArg some hb11) (rv_move rfl) ?_
      refine sq_g (v := (I s7.2)) (congrArg some hb11) (rv_move rfl) ?_
      obtain ⟨x12, hx13, h'⟩ := bind_some h
      clear h
      have h := h'; clear h'
      obtain ⟨b15, o16, hi14, -⟩ := (H.own 0 rfl).ix hx13
      refine sq_g (v := (pt b15 o16)) (congrArg some hb11) (rv_ix Try.underlying27 ti64 rfl rfl hi14) ?_
      obtain ⟨_, ⟨_, _, rfl, rfl, rfl⟩, hl17, hc18⟩ := ((H.own 0 rfl).at hx13 hi14).cells
      refine sq_g (v := (.agg #[(I x12.1), (I x12.2)])) (congrArg some hb11) (rv_load Try.underlying64 rfl ti64 rfl hl17 hc18) ?_
      refine sq_g (v := (Sl adata_0 s7.1 cdata_0)) (congrArg some hb11) (rv_move rfl) ?_
      refine sq_g (v := (I s7.2)) (congrArg some hb11) (rv_move rfl) ?_
      refine sq_g (v := (I (w64 (s7.2 - 1)))) (congrArg some hb11) (rv_sub (a := s7.2) (b := 1) rfl rfl) ?_
      obtain ⟨x19, hx20, h'⟩ := bind_some h
      clear h
      have h := h'; clear h'
      obtain ⟨b22, o23, hi21, -⟩ := (H.own 0 rfl).ix hx20
      refine sq_g (v := (pt b22 o23)) (congrArg some hb11) (rv_ix Try.underlying27 ti64 rfl rfl hi21) ?_
      obtain ⟨_, ⟨_, _, rfl, rfl, rfl⟩, hl24, hc25⟩ := ((H.own 0 rfl).at hx20 hi21).cells
      refine sq_g (v := (.agg #[(I x19.1), (I x19.2)])) (congrArg some hb11) (rv_load Try.underlying64 rfl ti64 rfl hl24 hc25) ?_
      refine sq_end ?_
      intro σ26 hm27
      replace H := H.grow (hm27.mono fun _ h => h); clear hm27
      obtain ⟨r28, hx29, h'⟩ := bind_some h
      clear h
      have h := h'; clear h'
      have hc30 := c_impl_compareHits hx29
      refine st_call (cx_call hc30 (ent_v (cap := []) hc30.fn rfl rfl) hn0 (show Hp S0 σ0 _ ([] ++ [Ch.own 0 0 (Sl adata_0 s7.1 cdata_0) s7.1]) from (H.sel' [0] rfl rfl))) (wanted_yes rfl (by exact (congrArg some hb11))) ?_
      rintro _ σ31 ⟨_, ⟨rfl, rfl⟩, H, -⟩
      replace H : Hp S0 σ0 σ31 [Ch.own 0 0 (Sl adata_0 s7.1 cdata_0) s7.1] := H
      refine st_g (v := (B (decide (r28 < 0)))) (congrArg some hb11) (rv_lss (a := r28) (b := 0) rfl rfl) ?_
      refine st (v := (B (decide (r28 < 0)))) (rv_pick_t (congrArg B hb11) rfl) ?_
      refine w_end ?_
      obtain rfl := Option.some.inj h
      exact ⟨rfl, _, σ31, fr_join ⟨rfl, rfl, rfl, rfl, rfl, rfl, rfl, trivial⟩, rfl, H.sel' [0] rfl rfl⟩
     ·replace h := bif_f hb11 h
      refine sq_skip (congrArg some hb11) ?_
      refine sq_skip (congrArg some hb11) ?_
      refine sq_skip (congrArg some hb11) ?_
      refine sq_skip (congrArg some hb11) ?_
      refine sq_skip (congrArg some hb11) ?_
      refine sq_skip (congrArg some hb11) ?_
      refine sq_skip (congrArg some hb11) ?_
      refine sq_skip (congrArg some hb11) ?_
      refine sq_skip (congrArg some hb11) ?_
      refine sq_skip (congrArg some hb11) ?_
      refine sq_end ?_
      intro σ32 hm33
      replace H := H.grow (hm33.mono fun _ h => h); clear hm33
      refine st_skip (congrArg some hb11) ?_
      refine st_skip (congrArg some hb11) ?_
      refine st (v := (B false)) (rv_pick_f (congrArg B hb11) rfl) ?_
      refine w_end ?_
      obtain rfl := Option.some.inj h
      exact ⟨rfl, _, σ32, fr_join ⟨rfl, rfl, rfl, rfl, rfl, rfl, rfl, trivial⟩, rfl, H.sel' [0] rfl rfl⟩
    ·clear hj
     have h := h'
     clear h' H
     rintro e a w ⟨rfl, ρ, σ34, rfl, rfl, H⟩
     refine q_then ?_
     refine cd_cond o10 rfl (fun hb35 => ?_) (fun hb35 => ?_)
     ·replace h := bif_t hb35 h
      refine c_skip ?_
      refine q_then ?_
      refine c_seq ?_
      refine c_blk ?_
      obtain ⟨x36, hx37, h'⟩ := bind_some h
      clear h
      have h := h'; clear h'
      obtain ⟨b39, o40, hi38, -⟩ := (H.own 0 rfl).ix hx37
      obtain ⟨_, ⟨_, _, rfl, rfl, rfl⟩, hl41, hc42⟩ := ((H.own 0 rfl).at hx37 hi38).cells
      obtain ⟨x43, hx44, h'⟩ := bind_some h
      clear h
      have h := h'; clear h'
      obtain ⟨b46, o47, hi45, -⟩ := (H.own 0 rfl).ix hx44
      obtain ⟨_, ⟨_, _, rfl, rfl, rfl⟩, hl48, hc49⟩ := ((H.own 0 rfl).at hx44 hi45).cells
      obtain ⟨x50, hx51, h'⟩ := bind_some h
      clear h
      have h := h'; clear h'
      obtain ⟨b53, o54, hi52, -⟩ := (H.own 0 rfl).ix hx51
      have Hs := H
      refine rg2 (σ := σ34) (Nm := Unit) 16 [15] [[false], [true]] [[(0, 0)], [(0, 0)], [(0, 0), (1, 1)], [(0, 0), (1, 1)], [(0, 0), (1, 1)], [(0, 0)], [(0, 0)], [(0, 0)], [(0, 0)], [(0, 0)], [(0, 0)], [(0, 0)], [(0, 0)], [(0, 0)], [(0, 0)], [(0, 1)]] 1 [fun (_nm : Unit) => fun σm => Hp S0 σ0 σm [Ch.own 0 0 (Sl adata_0 s7.1 cdata_0) s7.1] ∧ Md (cov []) σ34 σm, fun (_nm : Unit) => fun σm => Hp S0 σ0 σm [Ch.own 0 0 (Sl adata_0 s7.1 cdata_0) (s7.1.set s7.2.toNat (x36.1, x36.2))] ∧ Md (fun i => (cov []) i ∨ (fun b => blk (Sl adata_0 s7.1 cdata_0) = some b) i) σ34 σm] [fun (_nm : Unit) => (Sl adata_0 s7.1 cdata_0), fun (_nm : Unit) => (I s7.2), fun (_nm : Unit) => (Sl adata_0 s7.1 cdata_0), fun (_nm : Unit) => (I s7.2), fun (_nm : Unit) => (I (w64 (s7.2 - 1))), fun (_nm : Unit) => (Sl adata_0 s7.1 cdata_0), fun (_nm : Unit) => (I s7.2), fun (_nm : Unit) => (I (w64 (s7.2 - 1))), fun (_nm : Unit) => (pt b39 o40), fun (_nm : Unit) => (.agg #[(I x36.1), (I x36.2)]), fun (_nm : Unit) => (Sl adata_0 s7.1 cdata_0), fun (_nm : Unit) => (I s7.2), fun (_nm : Unit) => (pt b46 o47), fun (_nm : Unit) => (.agg #[(I x43.1), (I x43.2)]), fun (_nm : Unit) => (pt b53 o54), fun (_nm : Unit) => undef] () (by kernel_rfl) (by kernel_rfl) ?_ ?_ ?_
      ·intro σm m0
       exact ⟨H.grow (m0.mono fun _ h => h.elim), m0⟩
      ·refine all_cons (obs_v rfl (by
         intro k; intro _nm ρ σm hJ hoff hdep
         have e0 : look 53 ρ 0 = (Sl adata_0 s7.1 cdata_0) := look_off (hoff 0 rfl) rfl
         exact dp_v (v := (Sl adata_0 s7.1 cdata_0)) (wanted_none _ rfl _) (rv_move e0) rfl hJ)) ?_
       refine all_cons (obs_v rfl (by
         intro k; intro _nm ρ σm hJ hoff hdep
         have e9 : look 53 ρ 9 = (I s7.2) := look_off (hoff 9 rfl) rfl
         exact dp_v (v := (I s7.2)) (wanted_none _ rfl _) (rv_move e9) rfl hJ)) ?_
       refine all_cons (obs_v rfl (by
         intro k; intro _nm ρ σm hJ hoff hdep
         have e0 : look 53 ρ 0 = (Sl adata_0 s7.1 cdata_0) := look_off (hoff 0 rfl) rfl
         exact dp_v (v := (Sl adata_0 s7.1 cdata_0)) (wanted_none _ rfl _) (rv_move e0) rfl hJ)) ?_
       refine all_cons (obs_v rfl (by
         intro k; intro _nm ρ σm hJ hoff hdep
         have e9 : look 53 ρ 9 = (I s7.2) := look_off (hoff 9 rfl) rfl
         exact dp_v (v := (I s7.2)) (wanted_none _ rfl _) (rv_move e9) rfl hJ)) ?_
       refine all_cons (obs_v rfl (by
         intro k; intro _nm ρ σm hJ hoff hdep
         have e40 : look 53 ρ 40 = (I s7.2) := hdep 3 rfl rfl 40 rfl
         exact dp_v (v := (I (w64 (s7.2 - 1)))) (wanted_none _ rfl _) (rv_sub (a := s7.2) (b := 1) e40 rfl) rfl hJ)) ?_
       refine all_cons (obs_v rfl (by
         intro k; intro _nm ρ σm hJ hoff hdep
         have e0 : look 53 ρ 0 = (Sl adata_0 s7.1 cdata_0) := look_off (hoff 0 rfl) rfl
         exact dp_v (v := (Sl adata_0 s7.1 cdata_0)) (wanted_none _ rfl _) (rv_move e0) rfl hJ)) ?_
       refine all_cons (obs_v rfl (by
         intro k; intro _nm ρ σm hJ hoff hdep
         have e9 : look 53 ρ 9 = (I s7.2) := look_off (hoff 9 rfl) rfl
         exact dp_v (v := (I s7.2)) (wanted_none _ rfl _) (rv_move e9) rfl hJ)) ?_
       refine all_cons (obs_v rfl (by
         intro k; intro _nm ρ σm hJ hoff hdep
         have e43 : look 53 ρ 43 = (I s7.2) := hdep 6 rfl rfl 43 rfl
         exact dp_v (v := (I (w64 (s7.2 - 1)))) (wanted_none _ rfl _) (rv_sub (a := s7.2) (b := 1) e43 rfl) rfl hJ)) ?_
       refine all_cons (obs_v rfl (by
         intro k; intro _nm ρ σm hJ hoff hdep
         have e42 : look 53 ρ 42 = (Sl adata_0 s7.1 cdata_0) := hdep 5 rfl rfl 42 rfl
         have e44 : look 53 ρ 44 = (I (w64 (s7.2 - 1))) := hdep 7 rfl rfl 44 rfl
         exact dp_v (v := (pt b39 o40)) (wanted_none _ rfl _) (rv_ix Try.underlying27 ti64 e42 e44 hi38) rfl hJ)) ?_
       refine all_cons (by
         refine ⟨?_, ?_⟩
         ·intro _nm ρ σm hJ hoff hdep
          have e45 : look 53 ρ 45 = (pt b39 o40) := hdep 8 rfl rfl 45 rfl
          obtain ⟨H, m⟩ := id hJ
          obtain ⟨_, ⟨_, _, rfl, rfl, rfl⟩, hl41, hc42⟩ := ((H.own 0 rfl).at hx37 hi38).cells
          exact dp_v (v := (.agg #[(I x36.1), (I x36.2)])) (wanted_none _ rfl _) (rv_load Try.underlying64 rfl ti64 e45 hl41 hc42) rfl hJ
         trivial) ?_
       refine all_cons (obs_v rfl (by
         intro k; intro _nm ρ σm hJ hoff hdep
         have e0 : look 53 ρ 0 = (Sl adata_0 s7.1 cdata_0) := look_off (hoff 0 rfl) rfl
         exact dp_v (v := (Sl adata_0 s7.1 cdata_0)) (wanted_none _ rfl _) (rv_move e0) rfl hJ)) ?_
       refine all_cons (obs_v rfl (by
         intro k; intro _nm ρ σm hJ hoff hdep
         have e9 : look 53 ρ 9 = (I s7.2) := look_off (hoff 9 rfl) rfl
         exact dp_v (v := (I s7.2)) (wanted_none _ rfl _) (rv_move e9) rfl hJ)) ?_
       refine all_cons (obs_v rfl (by
         intro k; intro _nm ρ σm hJ hoff hdep
         have e47 : look 53 ρ 47 = (Sl adata_0 s7.1 cdata_0) := hdep 10 rfl rfl 47 rfl
         have e48 : look 53 ρ 48 = (I s7.2) := hdep 11 rfl rfl 48 rfl
         exact dp_v (v := (pt b46 o47)) (wanted_none _ rfl _) (rv_ix Try.underlying27 ti64 e47 e48 hi45) rfl hJ)) ?_
       refine all_cons (by
         refine ⟨?_, ?_⟩
         ·intro _nm ρ σm hJ hoff hdep
          have e49 : look 53 ρ 49 = (pt b46 o47) := hdep 12 rfl rfl 49 rfl
          obtain ⟨H, m⟩ := id hJ
          obtain ⟨_, ⟨_, _, rfl, rfl, rfl⟩, hl48, hc49⟩ := ((H.own 0 rfl).at hx44 hi45).cells
          exact dp_v (v := (.agg #[(I x43.1), (I x43.2)])) (wanted_none _ rfl _) (rv_load Try.underlying64 rfl ti64 e49 hl48 hc49) rfl hJ
         trivial) ?_
       refine all_cons (obs_v rfl (by
         intro k; intro _nm ρ σm hJ hoff hdep
         have e37 : look 53 ρ 37 = (Sl adata_0 s7.1 cdata_0) := hdep 0 rfl rfl 37 rfl
         have e38 : look 53 ρ 38 = (I s7.2) := hdep 1 rfl rfl 38 rfl
         exact dp_v (v := (pt b53 o54)) (wanted_none _ rfl _) (rv_ix Try.underlying27 ti64 e37 e38 hi52) rfl hJ)) ?_
       refine all_cons (by
         refine ⟨?_, ?_⟩
         ·intro _nm ρ σm hJ hoff hdep
          have e51 : look 53 ρ 51 = (pt b53 o54) := hdep 14 rfl rfl 51 rfl
          have e46 : look 53 ρ 46 = (.agg #[(I x36.1), (I x36.2)]) := hdep 9 rfl rfl 46 rfl
          obtain ⟨H, m⟩ := id hJ
          refine dp_exS (wanted_none _ rfl _) rfl (ex_store_own (e' := (x36.1, x36.2)) (vs := [(I x36.1), (I x36.2)]) (k := 0) H (i := 0) rfl ti64 hx51 hi52 e51 rfl e46 rfl rfl (Nat.le_of_ble_eq_true rfl) (by simp [plain]) (by rintro _ ⟨_, _, rfl, rfl, rfl⟩; exact ⟨[(I x36.1)], [(I x36.2)], rfl, rfl, rfl⟩)) ?_
          rintro σq ⟨H2, m2⟩
          exact ⟨_, (), rfl, ⟨H2.sel' [0] rfl rfl, m.comp m2⟩, stab [0, 1, 2, 3, 4, 5, 6, 7, 8, 9, 10, 11, 12, 13, 14] (by kernel_rfl) ⟨rfl, rfl, rfl, rfl, rfl, rfl, rfl, rfl, rfl, rfl, rfl, rfl, rfl, rfl, rfl, trivial⟩⟩
         trivial) ?_
       exact all_nil
      ·intro _nm ρ σ55 hJ hoff hrel
       have e0 : look 53 ρ 0 = (Sl adata_0 s7.1 cdata_0) := look_off (hoff 0 rfl) rfl
       have e1 : look 53 ρ 1 = (I a_1) := look_off (hoff 1 rfl) rfl
       have e2 : look 53 ρ 2 = (I b_2) := look_off (hoff 2 rfl) rfl
       have e3 : look 53 ρ 3 = (.func (.func 101) #[] #[]) := look_off (hoff 3 rfl) rfl
       have e8 : look 53 ρ 8 = (I s2.2) := look_off (hoff 8 rfl) rfl
       have e9 : look 53 ρ 9 = (I s7.2) := look_off (hoff 9 rfl) rfl
       have e39 : look 53 ρ 39 = (Sl adata_0 s7.1 cdata_0) := hrel 2 rfl 39 rfl
       have e41 : look 53 ρ 41 = (I (w64 (s7.2 - 1))) := hrel 4 rfl 41 rfl
       have e50 : look 53 ρ 50 = (.agg #[(I x43.1), (I x43.2)]) := hrel 13 rfl 50 rfl
       obtain ⟨H, -⟩ := (show Hp S0 σ0 σ55 [Ch.own 0 0 (Sl adata_0 s7.1 cdata_0) (s7.1.set s7.2.toNat (x36.1, x36.2))] ∧ Md (fun i => (cov []) i ∨ (fun b => blk (Sl adata_0 s7.1 cdata_0) = some b) i) σ34 σ55 from hJ)
       clear hJ Hs
       rw [fr_lookL (L := [(0, (Sl adata_0 s7.1 cdata_0)), (1, (I a_1)), (2, (I b_2)), (3, (.func (.func 101) #[] #[])), (8, (I s2.2)), (9, (I s7.2)), (39, (Sl adata_0 s7.1 cdata_0)), (41, (I (w64 (s7.2 - 1)))), (50, (.agg #[(I x43.1), (I x43.2)]))]) ⟨e0, e1, e2, e3, e8, e9, e39, e41, e50, trivial⟩]
       clear hoff hrel e0 e1 e2 e3 e8 e9 e39 e41 e50
       have hsl : (Sl adata_0 s7.1 cdata_0) = (Sl adata_0 (s7.1.set s7.2.toNat (x36.1, x36.2)) cdata_0) := sl_len (by simp)
       rw [hsl]; rw [hsl] at H; clear hsl
       obtain ⟨x56, hx57, h'⟩ := bind_some h
       clear h
       have h := h'; clear h'
       obtain ⟨b59, o60, hi58, -⟩ := (H.own 0 rfl).ix hx57
       refine st (v := (pt b59 o60)) (rv_ix Try.underlying27 ti64 rfl rfl hi58) ?_
       refine st_exS (ex_store_own (e' := (x43.1, x43.2)) (vs := [(I x43.1), (I x43.2)]) (k := 0) H (i := 0) rfl ti64 hx57 hi58 rfl rfl rfl rfl rfl (Nat.le_of_ble_eq_true rfl) (by simp [plain]) (by rintro _ ⟨_, _, rfl, rfl, rfl⟩; exact ⟨[(I x43.1)], [(I x43.2)], rfl, rfl, rfl⟩)) (wanted_none _ rfl _) ?_
       rintro σ61 ⟨H, -⟩
       have hsl : (Sl adata_0 (s7.1.set s7.2.toNat (x36.1, x36.2)) cdata_0) = (Sl adata_0 ((s7.1.set s7.2.toNat (x36.1, x36.2)).set (w64 (s7.2 - 1)).toNat (x43.1, x43.2)) cdata_0) := sl_len List.length_set.symm
       rw [hsl]; rw [hsl] at H; clear hsl
       refine w_end ?_
       refine q_blk ?_
       refine q_then ?_
       refine rg ?_
       refine st (v := (I s7.2)) (rv_move rfl) ?_
       refine st (v := (I (w64 (s7.2 - 1)))) (rv_sub (a := s7.2) (b := 1) rfl rfl) ?_
       refine st (v := (I (w64 (s7.2 - 1)))) (rv_assign rfl) ?_
       refine w_end ?_
       refine q_then ?_
       obtain rfl := Option.some.inj h
       exact ⟨_, rfl, _, σ61, fr_join ⟨rfl, rfl, rfl, rfl, rfl, rfl, trivial⟩, rfl, H.sel' [0] rfl rfl, ((List.length_set.trans (List.length_set.trans (hn9.trans hn4))).trans hn4.symm)⟩
     ·replace h := bif_f hb35 h
      refine c_exit ?_
      refine q_then_x ?_
      refine q_then_x ?_
      refine q_blk_hit ?_
      obtain rfl := Option.some.inj h
      obtain rfl := hres _ rfl
      exact ⟨rfl, _, σ34, fr_join ⟨rfl, rfl, rfl, rfl, rfl, trivial⟩, rfl, H.sel' [0] rfl rfl, ((hn9.trans hn4).trans hn4.symm)⟩
   ·clear hj
    have h := h'
    clear h' H
    rintro e a w ⟨rfl, ρ, σ62, rfl, rfl, H, hn63⟩
    refine q_blk ?_
    refine q_then ?_
    refine rg ?_
    refine st (v := (I s2.2)) (rv_move rfl) ?_
    refine st (v := (I (w64 (s2.2 + 1)))) (rv_add (a := s2.2) (b := 1) rfl rfl) ?_
    refine st (v := (I (w64 (s2.2 + 1)))) (rv_assign rfl) ?_
    refine w_end ?_
    refine q_then ?_
    obtain rfl := Option.some.inj h
    exact ⟨_, rfl, _, σ62, fr_join ⟨rfl, rfl, rfl, rfl, rfl, trivial⟩, rfl, H.sel' [0] rfl rfl, (hn63.trans hn4)⟩
  ·replace h := bif_f hb5 h
   refine c_exit ?_
   refine q_then_x ?_
   refine q_then_x ?_
   refine q_blk_hit ?_
   obtain rfl := Option.some.inj h
   obtain rfl := hres _ rfl
   exact ⟨rfl, _, σ3, fr_join ⟨rfl, trivial⟩, rfl, H.sel' [0] rfl rfl, hn4⟩
 ·clear hj
  have h := h'
  clear h' H
  rintro e a w ⟨rfl, ρ, σ64, rfl, rfl, H, hn65⟩
  obtain rfl := Option.some.inj h
  exact fin_end (v := (.tuple #[])) (results_ok Try.results143 res_nil rfl) ⟨rfl, rfl, hn65⟩ (H.sel' [0] rfl rfl)

theorem c_slices_siftDownCmpFunc_impl_Hit__impl_compareHits {data_0 : List (Int × Int)} {lo_1 : Int} {hi_2 : Int} {first_3 : Int} {adata_0 : Option Addr} {cdata_0 : Nat} {r : (List (Int × Int))} (h : M.slices_siftDownCmpFunc_impl_Hit__impl_compareHits data_0 lo_1 hi_2 first_3 = some r) :
    Cal2 Try.prog 157 [(Sl adata_0 data_0 cdata_0), (I lo_1), (I hi_2), (I first_3), (.func (.func 101) #[] #[])] [Ch.own 0 0 (Sl adata_0 data_0 cdata_0) data_0] (fun n0 v L => v = (.tuple #[]) ∧ L = [Ch.own 0 0 (Sl adata_0 r cdata_0) r] ∧ r.length = data_0.length) := by
 refine cal2 (n := 82) Try.func157 rfl rfl rfl rfl ?_
 intro S0 σ0 n0 hn0 H
 unfold M.slices_siftDownCmpFunc_impl_Hit__impl_compareHits at h
 refine c_seq ?_
 refine rg ?_
 refine st (v := (I lo_1)) (rv_move rfl) ?_
 refine st (v := (I lo_1)) (rv_assign rfl) ?_
 refine w_end ?_
 refine q_then ?_
 obtain ⟨o1, hj, h'⟩ := bind_some h
 clear h
 refine c_cut (fun e a w => (∃ t, o1 = (.inl t) ∧ e = .normal ∧ ∃ (ρ : Nat → Value) (σ : St), a = fr 82 (updL ρ [(0, (Sl adata_0 t cdata_0))]) ∧ w = σ.w ∧ Hp S0 σ0 σ [Ch.own 0 0 (Sl adata_0 t cdata_0) t] ∧ t.length = data_0.length) ∨ (∃ t, o1 = (.inr t) ∧ e = .ret ∧ ∃ (ρ : Nat → Value) (σ : St), a = fr 82 (updL ρ [(0, (Sl adata_0 t cdata_0))]) ∧ w = σ.w ∧ Hp S0 σ0 σ [Ch.own 0 0 (Sl adata_0 t cdata_0) t] ∧ t.length = data_0.length)) ?_ ?_
 ·clear h'
  rename _ = some o1 => h
  refine c_blk ?_
  refine wp_loopM _ h (fun s2 a w => ∃ (ρ : Nat → Value) (σ : St), a = fr 82 (updL ρ [(0, (Sl adata_0 s2.1 cdata_0)), (2, (I hi_2)), (3, (I first_3)), (4, (.func (.func 101) #[] #[])), (10, (I s2.2))]) ∧ w = σ.w ∧ Hp S0 σ0 σ [Ch.own 0 0 (Sl adata_0 s2.1 cdata_0) s2.1] ∧ s2.1.length = data_0.length) ⟨_, σ0, fr_join ⟨rfl, rfl, rfl, rfl, rfl, trivial⟩, rfl, H.sel' [0] rfl rfl, rfl⟩ ?_
  clear h H
  rintro s2 a w o ⟨ρ, σ3, rfl, rfl, H, hn4⟩ h hres
  refine c_blk ?_
  refine c_seq ?_
  refine rg ?_
  refine st (v := (I s2.2)) (rv_move rfl) ?_
  refine st (v := (I (w64 (2 * s2.2)))) (rv_mul (a := 2) (b := s2.2) rfl rfl) ?_
  refine st (v := (I (w64 ((w64 (2 * s2.2)) + 1)))) (rv_add (a := (w64 (2 * s2.2))) (b := 1) rfl rfl) ?_
  refine st (v := (I (w64 ((w64 (2 * s2.2)) + 1)))) (rv_assign rfl) ?_
  refine w_end ?_
  refine q_then ?_
  refine c_seq ?_
  refine c_seq ?_
  refine rg ?_
  refine st (v := (I (w64 ((w64 (2 * s2.2)) + 1)))) (rv_move rfl) ?_
  refine st (v := (I hi_2)) (rv_move rfl) ?_
  refine st (v := (B (decide (hi_2 ≤ (w64 ((w64 (2 * s2.2)) + 1)))))) (rv_geq (a := (w64 ((w64 (2 * s2.2)) + 1))) (b := hi_2) rfl rfl) ?_
  refine w_end ?_
  refine q_then ?_
  refine cd_cond (decide (hi_2 ≤ (w64 ((w64 (2 * s2.2)) + 1)))) rfl (fun hb5 => ?_) (fun hb5 => ?_)
  ·replace h := bif_t hb5 h
   refine c_exit ?_
   refine q_then_x ?_
   refine q_blk_x (by decide) ?_
   refine q_then_x ?_
   refine q_blk_hit ?_
   obtain rfl := Option.some.inj h
   obtain rfl := hres _ rfl
   exact .inl ⟨_, rfl, rfl, _, σ3, fr_join ⟨rfl, trivial⟩, rfl, H.sel' [0] rfl rfl, hn4⟩
  ·replace h := bif_f hb5 h
   refine c_skip ?_
   refine q_then ?_
   refine c_seq ?_
   refine c_seq ?_
   obtain ⟨o6, hj, h'⟩ := bind_some h
   clear h
   refine c_cut (fun e a w => e = .normal ∧ ∃ (ρ : Nat → Value) (σ : St), a = fr 82 (updL ρ [(0, (Sl adata_0 s2.1 cdata_0)), (2, (I hi_2)), (3, (I first_3)), (4, (.func (.func 101) #[] #[])), (10, (I s2.2)), (11, (I (w64 ((w64 (2 * s2.2)) + 1)))), (40, (B o6))]) ∧ w = σ.w ∧ Hp S0 σ0 σ [Ch.own 0 0 (Sl adata_0 s2.1 cdata_0) s2.1]) ?_ ?_
   ·clear h'
    rename _ = some o6 => h
    refine rgP (σ := σ3) 19 (by kernel_rfl) (by kernel_rfl) (by kernel_rfl) ?_
    refine sq (v := (I (w64 ((w64 (2 * s2.2)) + 1)))) (rv_move rfl) ?_
    refine sq (v := (I (w64 ((w64 ((w64 (2 * s2.2)) + 1)) + 1)))) (rv_add (a := (w64 ((w64 (2 * s2.2)) + 1))) (b := 1) rfl rfl) ?_
    refine sq (v := (I hi_2)) (rv_move rfl) ?_
    refine sq (v := (B (decide ((w64 ((w64 ((w64 (2 * s2.2)) + 1)) + 1)) < hi_2)))) (rv_lss (a := (w64 ((w64 ((w64 (2 * s2.2)) + 1)) + 1))) (b := hi_2) rfl rfl) ?_
    refine sq (v := (B (decide ((w64 ((w64 ((w64 (2 * s2.2)) + 1)) + 1)) < hi_2)))) (rv_move rfl) ?_
    rcases Bool.eq_false_or_eq_true (decide ((w64 ((w64 ((w64 (2 * s2.2)) + 1)) + 1)) < hi_2)) with hb7 | hb7
    ·replace h := bif_t hb7 h
     refine sq_g (v := (.func (.func 101) #[] #[])) (congrArg some hb7) (rv_move rfl) ?_
     refine sq_g (v := (Sl adata_0 s2.1 cdata_0)) (congrArg some hb7) (rv_move rfl) ?_
     refine sq_g (v := (I first_3)) (congrArg some hb7) (rv_move rfl) ?_
     refine sq_g (v := (I (w64 ((w64 (2 * s2.2)) + 1)))) (congrArg some hb7) (rv_move rfl) ?_
     refine sq_g (v := (I (w64 (first_3 + (w64 ((w64 (2 * s2.2)) + 1)))))) (congrArg some hb7) (rv_add (a := first_3) (b := (w64 ((w64 (2 * s2.2)) + 1))) rfl rfl) ?_
     obtain ⟨x8, hx9, h'⟩ := bind_some h
     clear h
     have h := h'; clear h'
     obtain ⟨b11, o12, hi10, -⟩ := (H.own 0 rfl).ix hx9
     refine sq_g (v := (pt b11 o12)) (congrArg some hb7) (rv_ix Try.underlying27 ti64 rfl rfl hi10) ?_
     obtain ⟨_, ⟨_, _, rfl, rfl, rfl⟩, hl13, hc14⟩ := ((H.own 0 rfl).at hx9 hi10).cells
     refine sq_g (v := (.agg #[(I x8.1), (I x8.2)])) (congrArg some hb7) (rv_load Try.underlying64 rfl ti64 rfl hl13 hc14) ?_
     refine sq_g (v := (Sl adata_0 s2.1 cdata_0)) (congrArg some hb7) (rv_move rfl) ?_
     refine sq_g (v := (I first_3)) (congrArg some hb7) (rv_move rfl) ?_
     refine sq_g (v := (I (w64 ((w64 (2 * s2.2)) + 1)))) (congrArg some hb7) (rv_move rfl) ?_
     refine sq_g (v := (I (w64 (first_3 + (w64 ((w64 (2 * s2.2)) + 1)))))) (congrArg some hb7) (rv_add (a := first_3) (b := (w64 ((w64 (2 * s2.2)) + 1))) rfl rfl) ?_
     refine sq_g (v := (I (w64 ((w64 (first_3 + (w64 ((w64 (2 * s2.2)) + 1)))) + 1)))) (congrArg some hb7) (rv_add (a := (w64 (first_3 + (w64 ((w64 (2 * s2.2)) + 1))))) (b := 1) rfl rfl) ?_
     obtain ⟨x15, hx16, h'⟩ := bind_some h
     clear h
     have h := h'; clear h'
     obtain ⟨b18, o19, hi17, -⟩ := (H.own 0 rfl).ix hx16
     refine sq_g (v := (pt b18 o19)) (congrArg some hb7) (rv_ix Try.underlying27 ti64 rfl rfl hi17) ?_
     obtain ⟨_, ⟨_, _, rfl, rfl, rfl⟩, hl20, hc21⟩ := ((H.own 0 rfl).at hx16 hi17).cells
     refine sq_g (v := (.agg #[(I x15.1), (I x15.2)])) (congrArg some hb7) (rv_load Try.underlying64 rfl ti64 rfl hl20 hc21) ?_
     refine sq_end ?_
     intro σ22 hm23
     replace H := H.grow (hm23.mono fun _ h => h); clear hm23
     obtain ⟨r24, hx25, h'⟩ := bind_some h
     clear h
     have h := h'; clear h'
     have hc26 := c_impl_compareHits hx25
     refine st_call (cx_call hc26 (ent_v (cap := []) hc26.fn rfl rfl) hn0 (show Hp S0 σ0 _ ([] ++ [Ch.own 0 0 (Sl adata_0 s2.1 cdata_0) s2.1]) from (H.sel' [0] rfl rfl))) (wanted_yes rfl (by exact (congrArg some hb7))) ?_
     rintro _ σ27 ⟨_, ⟨rfl, rfl⟩, H, -⟩
     replace H : Hp S0 σ0 σ27 [Ch.own 0 0 (Sl adata_0 s2.1 cdata_0) s2.1] := H
     refine st_g (v := (B (decide (r24 < 0)))) (congrArg some hb7) (rv_lss (a := r24) (b := 0) rfl rfl) ?_
     refine st (v := (B (decide (r24 < 0)))) (rv_pick_t (congrArg B hb7) rfl) ?_
     refine w_end ?_
     obtain rfl := Option.some.inj h
     exact ⟨rfl, _, σ27, fr_join ⟨rfl, rfl, rfl, rfl, rfl, rfl, rfl, trivial⟩, rfl, H.sel' [0] rfl rfl⟩
    ·replace h := bif_f hb7 h
     refine sq_skip (congrArg some hb7) ?_
     refine sq_skip (congrArg some hb7) ?_
     refine sq_skip (congrArg some hb7) ?_
     refine sq_skip (congrArg some hb7) ?_
     refine sq_skip (congrArg some hb7) ?_
     refine sq_skip (congrArg some hb7) ?_
     refine sq_skip (congrArg some hb7) ?_
     refine sq_skip (congrArg some hb7) ?_
     refine sq_skip (congrArg some hb7) ?_
     refine sq_skip (congrArg some hb7) ?_
     refine sq_skip (congrArg some hb7) ?_
     refine sq_skip (congrArg some hb7) ?_
     refine sq_skip (congrArg some hb7) ?_
     refine sq_skip (congrArg some hb7) ?_
     refine sq_end ?_
     intro σ28 hm29
     replace H := H.grow (hm29.mono fun _ h => h); clear hm29
     refine st_skip (congrArg some hb7) ?_
     refine st_skip (congrArg some hb7) ?_
     refine st (v := (B false)) (rv_pick_f (congrArg B hb7) rfl) ?_
     refine w_end ?_
     obtain rfl := Option.some.inj h
     exact ⟨rfl, _, σ28, fr_join ⟨rfl, rfl, rfl, rfl, rfl, rfl, rfl, trivial⟩, rfl, H.sel' [0] rfl rfl⟩
   ·clear hj
    have h := h'
    clear h' H
    rintro e a w ⟨rfl, ρ, σ30, rfl, rfl, H⟩
    refine q_then ?_
    obtain ⟨o31, hj, h'⟩ := bind_some h
    clear h
    refine c_cut (fun e a w => e = .normal ∧ ∃ (ρ : Nat → Value) (σ : St), a = fr 82 (updL ρ [(0, (Sl adata_0 s2.1 cdata_0)), (2, (I hi_2)), (3, (I first_3)), (4, (.func (.func 101) #[] #[])), (10, (I s2.2)), (11, (I o31))]) ∧ w = σ.w ∧ Hp S0 σ0 σ [Ch.own 0 0 (Sl adata_0 s2.1 cdata_0) s2.1]) ?_ ?_
    ·clear h'
     rename _ = some o31 => h
     refine cd_cond o6 rfl (fun hb32 => ?_) (fun hb32 => ?_)
     ·replace h := bif_t hb32 h
      refine rg ?_
      refine st (v := (I (w64 ((w64 (2 * s2.2)) + 1)))) (rv_move rfl) ?_
      refine st (v := (I (w64 ((w64 ((w64 (2 * s2.2)) + 1)) + 1)))) (rv_add (a := (w64 ((w64 (2 * s2.2)) + 1))) (b := 1) rfl rfl) ?_
      refine st (v := (I (w64 ((w64 ((w64 (2 * s2.2)) + 1)) + 1)))) (rv_assign rfl) ?_
      refine w_end ?_
      obtain rfl := Option.some.inj h
      exact ⟨rfl, _, σ30, fr_join ⟨rfl, rfl, rfl, rfl, rfl, rfl, trivial⟩, rfl, H.sel' [0] rfl rfl⟩
     ·replace h := bif_f hb32 h
      refine c_skip ?_
      obtain rfl := Option.some.inj h
      exact ⟨rfl, _, σ30, fr_join ⟨rfl, rfl, rfl, rfl, rfl, rfl, trivial⟩, rfl, H.sel' [0] rfl rfl⟩
    ·clear hj
     have h := h'
     clear h' H
     rintro e a w ⟨rfl, ρ, σ33, rfl, rfl, H⟩
     refine q_then ?_
     refine c_seq ?_
     refine c_seq ?_
     refine rgP (σ := σ33) 13 (by kernel_rfl) (by kernel_rfl) (by kernel_rfl) ?_
     refine sq (v := (.func (.func 101) #[] #[])) (rv_move rfl) ?_
     refine sq (v := (Sl adata_0 s2.1 cdata_0)) (rv_move rfl) ?_
     refine sq (v := (I first_3)) (rv_move rfl) ?_
     refine sq (v := (I s2.2)) (rv_move rfl) ?_
     refine sq (v := (I (w64 (first_3 + s2.2)))) (rv_add (a := first_3) (b := s2.2) rfl rfl) ?_
     obtain ⟨x34, hx35, h'⟩ := bind_some h
     clear h
     have h := h'; clear h'
     obtain ⟨b37, o38, hi36, -⟩ := (H.own 0 rfl).ix hx35
     refine sq (v := (pt b37 o38)) (rv_ix Try.underlying27 ti64 rfl rfl hi36) ?_
     obtain ⟨_, ⟨_, _, rfl, rfl, rfl⟩, hl39, hc40⟩ := ((H.own 0 rfl).at hx35 hi36).cells
     refine sq (v := (.agg #[(I x34.1), (I x34.2)])) (rv_load Try.underlying64 rfl ti64 rfl hl39 hc40) ?_
     refine sq (v := (Sl adata_0 s2.1 cdata_0)) (rv_move rfl) ?_
     refine sq (v := (I first_3)) (rv_move rfl) ?_
     refine sq (v := (I o31)) (rv_move rfl) ?_
     refine sq (v := (I (w64 (first_3 + o31)))) (rv_add (a := first_3) (b := o31) rfl rfl) ?_
     obtain ⟨x41, hx42, h'⟩ := bind_some h
     clear h
     have h := h'; clear h'
     obtain ⟨b44, o45, hi43, -⟩ := (H.own 0 rfl).ix hx42
     refine sq (v := (pt b44 o45)) (rv_ix Try.underlying27 ti64 rfl rfl hi43) ?_
     obtain ⟨_, ⟨_, _, rfl, rfl, rfl⟩, hl46, hc47⟩ := ((H.own 0 rfl).at hx42 hi43).cells
     refine sq (v := (.agg #[(I x41.1), (I x41.2)])) (rv_load Try.underlying64 rfl ti64 rfl hl46 hc47) ?_
     refine sq_end ?_
     intro σ48 hm49
     replace H := H.grow (hm49.mono fun _ h => h); clear hm49
     obtain ⟨r50, hx51, h'⟩ := bind_some h
     clear h
     have h := h'; clear h'
     have hc52 := c_impl_compareHits hx51
     refine st_call (cx_call hc52 (ent_v (cap := []) hc52.fn rfl rfl) hn0 (show Hp S0 σ0 _ ([] ++ [Ch.own 0 0 (Sl adata_0 s2.1 cdata_0) s2.1]) from (H.sel' [0] rfl rfl))) (wanted_none _ rfl _) ?_
     rintro _ σ53 ⟨_, ⟨rfl, rfl⟩, H, -⟩
     replace H : Hp S0 σ0 σ53 [Ch.own 0 0 (Sl adata_0 s2.1 cdata_0) s2.1] := H
     refine st (v := (B (decide (r50 < 0)))) (rv_lss (a := r50) (b := 0) rfl rfl) ?_
     refine st (v := (B (!(decide (r50 < 0))))) (rv_not rfl) ?_
     refine w_end ?_
     refine q_then ?_
     refine cd_cond (!(decide (r50 < 0))) rfl (fun hb54 => ?_) (fun hb54 => ?_)
     ·replace h := bif_t hb54 h
      refine c_ret ?_
      refine q_then_r ?_
      refine q_blk_r ?_
      refine q_then_r ?_
      refine q_blk_r ?_
      obtain rfl := Option.some.inj h
      obtain rfl := hres _ rfl
      exact .inr (⟨_, rfl, rfl, _, σ53, fr_join ⟨rfl, trivial⟩, rfl, H.sel' [0] rfl rfl, hn4⟩)
     ·replace h := bif_f hb54 h
      refine c_skip ?_
      refine q_then ?_
      refine c_seq ?_
      obtain ⟨x55, hx56, h'⟩ := bind_some h
      clear h
      have h := h'; clear h'
      obtain ⟨b58, o59, hi57, -⟩ := (H.own 0 rfl).ix hx56
      obtain ⟨_, ⟨_, _, rfl, rfl, rfl⟩, hl60, hc61⟩ := ((H.own 0 rfl).at hx56 hi57).cells
      obtain ⟨x62, hx63, h'⟩ := bind_some h
      clear h
      have h := h'; clear h'
      obtain ⟨b65, o66, hi64, -⟩ := (H.own 0 rfl).ix hx63
      obtain ⟨_, ⟨_, _, rfl, rfl, rfl⟩, hl67, hc68⟩ := ((H.own 0 rfl).at hx63 hi64).cells
      obtain ⟨x69, hx70, h'⟩ := bind_some h
      clear h
      have h := h'; clear h'
      obtain ⟨b72, o73, hi71, -⟩ := (H.own 0 rfl).ix hx70
      have Hs := H
      refine rg2 (σ := σ53) (Nm := Unit) 22 [21] [[false], [true]] [[(0, 0)], [(0, 0)], [(0, 0)], [(0, 0)], [(0, 0), (1, 1)], [(0, 0), (1, 1)], [(0, 0), (1, 1)], [(0, 0), (1, 1)], [(0, 0)], [(0, 0)], [(0, 0)], [(0, 0)], [(0, 0)], [(0, 0)], [(0, 0)], [(0, 0)], [(0, 0)], [(0, 0)], [(0, 0)], [(0, 0)], [(0, 0)], [(0, 1)]] 1 [fun (_nm : Unit) => fun σm => Hp S0 σ0 σm [Ch.own 0 0 (Sl adata_0 s2.1 cdata_0) s2.1] ∧ Md (cov []) σ53 σm, fun (_nm : Unit) => fun σm => Hp S0 σ0 σm [Ch.own 0 0 (Sl adata_0 s2.1 cdata_0) (s2.1.set (w64 (first_3 + s2.2)).toNat (x55.1, x55.2))] ∧ Md (fun i => (cov []) i ∨ (fun b => blk (Sl adata_0 s2.1 cdata_0) = some b) i) σ53 σm] [fun (_nm : Unit) => (Sl adata_0 s2.1 cdata_0), fun (_nm : Unit) => (I first_3), fun (_nm : Unit) => (I s2.2), fun (_nm : Unit) => (I (w64 (first_3 + s2.2))), fun (_nm : Unit) => (Sl adata_0 s2.1 cdata_0), fun (_nm : Unit) => (I first_3), fun (_nm : Unit) => (I o31), fun (_nm : Unit) => (I (w64 (first_3 + o31))), fun (_nm : Unit) => (Sl adata_0 s2.1 cdata_0), fun (_nm : Unit) => (I first_3), fun (_nm : Unit) => (I o31), fun (_nm : Unit) => (I (w64 (first_3 + o31))), fun (_nm : Unit) => (pt b58 o59), fun (_nm : Unit) => (.agg #[(I x55.1), (I x55.2)]), fun (_nm : Unit) => (Sl adata_0 s2.1 cdata_0), fun (_nm : Unit) => (I first_3), fun (_nm : Unit) => (I s2.2), fun (_nm : Unit) => (I (w64 (first_3 + s2.2))), fun (_nm : Unit) => (pt b65 o66), fun (_nm : Unit) => (.agg #[(I x62.1), (I x62.2)]), fun (_nm : Unit) => (pt b72 o73), fun (_nm : Unit) => undef] () (by kernel_rfl) (by kernel_rfl) ?_ ?_ ?_
      ·intro σm m0
       exact ⟨H.grow (m0.mono fun _ h => h.elim), m0⟩
      ·refine all_cons (obs_v rfl (by
         intro k; intro _nm ρ σm hJ hoff hdep
         have e0 : look 82 ρ 0 = (Sl adata_0 s2.1 cdata_0) := look_off (hoff 0 rfl) rfl
         exact dp_v (v := (Sl adata_0 s2.1 cdata_0)) (wanted_none _ rfl _) (rv_move e0) rfl hJ)) ?_
       refine all_cons (obs_v rfl (by
         intro k; intro _nm ρ σm hJ hoff hdep
         have e3 : look 82 ρ 3 = (I first_3) := look_off (hoff 3 rfl) rfl
         exact dp_v (v := (I first_3)) (wanted_none _ rfl _) (rv_move e3) rfl hJ)) ?_
       refine all_cons (obs_v rfl (by
         intro k; intro _nm ρ σm hJ hoff hdep
         have e10 : look 82 ρ 10 = (I s2.2) := look_off (hoff 10 rfl) rfl
         exact dp_v (v := (I s2.2)) (wanted_none _ rfl _) (rv_move e10) rfl hJ)) ?_
       refine all_cons (obs_v rfl (by
         intro k; intro _nm ρ σm hJ hoff hdep
         have e60 : look 82 ρ 60 = (I first_3) := hdep 1 rfl rfl 60 rfl
         have e61 : look 82 ρ 61 = (I s2.2) := hdep 2 rfl rfl 61 rfl
         exact dp_v (v := (I (w64 (first_3 + s2.2)))) (wanted_none _ rfl _) (rv_add (a := first_3) (b := s2.2) e60 e61) rfl hJ)) ?_
       refine all_cons (obs_v rfl (by
         intro k; intro _nm ρ σm hJ hoff hdep
         have e0 : look 82 ρ 0 = (Sl adata_0 s2.1 cdata_0) := look_off (hoff 0 rfl) rfl
         exact dp_v (v := (Sl adata_0 s2.1 cdata_0)) (wanted_none _ rfl _) (rv_move e0) rfl hJ)) ?_
       refine all_cons (obs_v rfl (by
         intro k; intro _nm ρ σm hJ hoff hdep
         have e3 : look 82 ρ 3 = (I first_3) := look_off (hoff 3 rfl) rfl
         exact dp_v (v := (I first_3)) (wanted_none _ rfl _) (rv_move e3) rfl hJ)) ?_
       refine all_cons (obs_v rfl (by
         intro k; intro _nm ρ σm hJ hoff hdep
         have e11 : look 82 ρ 11 = (I o31) := look_off (hoff 11 rfl) rfl
         exact dp_v (v := (I o31)) (wanted_none _ rfl _) (rv_move e11) rfl hJ)) ?_
       refine all_cons (obs_v rfl (by
         intro k; intro _nm ρ σm hJ hoff hdep
         have e64 : look 82 ρ 64 = (I first_3) := hdep 5 rfl rfl 64 rfl
         have e65 : look 82 ρ 65 = (I o31) := hdep 6 rfl rfl 65 rfl
         exact dp_v (v := (I (w64 (first_3 + o31)))) (wanted_none _ rfl _) (rv_add (a := first_3) (b := o31) e64 e65) rfl hJ)) ?_
       refine all_cons (obs_v rfl (by
         intro k; intro _nm ρ σm hJ hoff hdep
         have e0 : look 82 ρ 0 = (Sl adata_0 s2.1 cdata_0) := look_off (hoff 0 rfl) rfl
         exact dp_v (v := (Sl adata_0 s2.1 cdata_0)) (wanted_none _ rfl _) (rv_move e0) rfl hJ)) ?_
       refine all_cons (obs_v rfl (by
         intro k; intro _nm ρ σm hJ hoff hdep
         have e3 : look 82 ρ 3 = (I first_3) := look_off (hoff 3 rfl) rfl
         exact dp_v (v := (I first_3)) (wanted_none _ rfl _) (rv_move e3) rfl hJ)) ?_
       refine all_cons (obs_v rfl (by
         intro k; intro _nm ρ σm hJ hoff hdep
         have e11 : look 82 ρ 11 = (I o31) := look_off (hoff 11 rfl) rfl
         exact dp_v (v := (I o31)) (wanted_none _ rfl _) (rv_move e11) rfl hJ)) ?_
       refine all_cons (obs_v rfl (by
         intro k; intro _nm ρ σm hJ hoff hdep
         have e68 : look 82 ρ 68 = (I first_3) := hdep 9 rfl rfl 68 rfl
         have e69 : look 82 ρ 69 = (I o31) := hdep 10 rfl rfl 69 rfl
         exact dp_v (v := (I (w64 (first_3 + o31)))) (wanted_none _ rfl _) (rv_add (a := first_3) (b := o31) e68 e69) rfl hJ)) ?_
       refine all_cons (obs_v rfl (by
         intro k; intro _nm ρ σm hJ hoff hdep
         have e67 : look 82 ρ 67 = (Sl adata_0 s2.1 cdata_0) := hdep 8 rfl rfl 67 rfl
         have e70 : look 82 ρ 70 = (I (w64 (first_3 + o31))) := hdep 11 rfl rfl 70 rfl
         exact dp_v (v := (pt b58 o59)) (wanted_none _ rfl _) (rv_ix Try.underlying27 ti64 e67 e70 hi57) rfl hJ)) ?_
       refine all_cons (by
         refine ⟨?_, ?_⟩
         ·intro _nm ρ σm hJ hoff hdep
          have e71 : look 82 ρ 71 = (pt b58 o59) := hdep 12 rfl rfl 71 rfl
          obtain ⟨H, m⟩ := id hJ
          obtain ⟨_, ⟨_, _, rfl, rfl, rfl⟩, hl60, hc61⟩ := ((H.own 0 rfl).at hx56 hi57).cells
          exact dp_v (v := (.agg #[(I x55.1), (I x55.2)])) (wanted_none _ rfl _) (rv_load Try.underlying64 rfl ti64 e71 hl60 hc61) rfl hJ
         trivial) ?_
       refine all_cons (obs_v rfl (by
         intro k; intro _nm ρ σm hJ hoff hdep
         have e0 : look 82 ρ 0 = (Sl adata_0 s2.1 cdata_0) := look_off (hoff 0 rfl) rfl
         exact dp_v (v := (Sl adata_0 s2.1 cdata_0)) (wanted_none _ rfl _) (rv_move e0) rfl hJ)) ?_
       refine all_cons (obs_v rfl (by
         intro k; intro _nm ρ σm hJ hoff hdep
         have e3 : look 82 ρ 3 = (I first_3) := look_off (hoff 3 rfl) rfl
         exact dp_v (v := (I first_3)) (wanted_none _ rfl _) (rv_move e3) rfl hJ)) ?_
       refine all_cons (obs_v rfl (by
         intro k; intro _nm ρ σm hJ hoff hdep
         have e10 : look 82 ρ 10 = (I s2.2) := look_off (hoff 10 rfl) rfl
         exact dp_v (v := (I s2.2)) (wanted_none _ rfl _) (rv_move e10) rfl hJ)) ?_
       refine all_cons (obs_v rfl (by
         intro k; intro _nm ρ σm hJ hoff hdep
         have e74 : look 82 ρ 74 = (I first_3) := hdep 15 rfl rfl 74 rfl
         have e75 : look 82 ρ 75 = (I s2.2) := hdep 16 rfl rfl 75 rfl
         exact dp_v (v := (I (w64 (first_3 + s2.2)))) (wanted_none _ rfl _) (rv_add (a := first_3) (b := s2.2) e74 e75) rfl hJ)) ?_
       refine all_cons (obs_v rfl (by
         intro k; intro _nm ρ σm hJ hoff hdep
         have e73 : look 82 ρ 73 = (Sl adata_0 s2.1 cdata_0) := hdep 14 rfl rfl 73 rfl
         have e76 : look 82 ρ 76 = (I (w64 (first_3 + s2.2))) := hdep 17 rfl rfl 76 rfl
         exact dp_v (v := (pt b65 o66)) (wanted_none _ rfl _) (rv_ix Try.underlying27 ti64 e73 e76 hi64) rfl hJ)) ?_
       refine all_cons (by
         refine ⟨?_, ?_⟩
         ·intro _nm ρ σm hJ hoff hdep
          have e77 : look 82 ρ 77 = (pt b65 o66) := hdep 18 rfl rfl 77 rfl
          obtain ⟨H, m⟩ := id hJ
          obtain ⟨_, ⟨_, _, rfl, rfl, rfl⟩, hl67, hc68⟩ := ((H.own 0 rfl).at hx63 hi64).cells
          exact dp_v (v := (.agg #[(I x62.1), (I x62.2)])) (wanted_none _ rfl _) (rv_load Try.underlying64 rfl ti64 e77 hl67 hc68) rfl hJ
         trivial) ?_
       refine all_cons (obs_v rfl (by
         intro k; intro _nm ρ σm hJ hoff hdep
         have e59 : look 82 ρ 59 = (Sl adata_0 s2.1 cdata_0) := hdep 0 rfl rfl 59 rfl
         have e62 : look 82 ρ 62 = (I (w64 (first_3 + s2.2))) := hdep 3 rfl rfl 62 rfl
         exact dp_v (v := (pt b72 o73)) (wanted_none _ rfl _) (rv_ix Try.underlying27 ti64 e59 e62 hi71) rfl hJ)) ?_
       refine all_cons (by
         refine ⟨?_, ?_⟩
         ·intro _nm ρ σm hJ hoff hdep
          have e79 : look 82 ρ 79 = (pt b72 o73) := hdep 20 rfl rfl 79 rfl
          have e72 : look 82 ρ 72 = (.agg #[(I x55.1), (I x55.2)]) := hdep 13 rfl rfl 72 rfl
          obtain ⟨H, m⟩ := id hJ
          refine dp_exS (wanted_none _ rfl _) rfl (ex_store_own (e' := (x55.1, x55.2)) (vs := [(I x55.1), (I x55.2)]) (k := 0) H (i := 0) rfl ti64 hx70 hi71 e79 rfl e72 rfl rfl (Nat.le_of_ble_eq_true rfl) (by simp [plain]) (by rintro _ ⟨_, _, rfl, rfl, rfl⟩; exact ⟨[(I x55.1)], [(I x55.2)], rfl, rfl, rfl⟩)) ?_
          rintro σq ⟨H2, m2⟩
          exact ⟨_, (), rfl, ⟨H2.sel' [0] rfl rfl, m.comp m2⟩, stab [0, 1, 2, 3, 4, 5, 6, 7, 8, 9, 10, 11, 12, 13, 14, 15, 16, 17, 18, 19, 20] (by kernel_rfl) ⟨rfl, rfl, rfl, rfl, rfl, rfl, rfl, rfl, rfl, rfl, rfl, rfl, rfl, rfl, rfl, rfl, rfl, rfl, rfl, rfl, rfl, trivial⟩⟩
         trivial) ?_
       exact all_nil
      ·intro _nm ρ σ74 hJ hoff hrel
       have e0 : look 82 ρ 0 = (Sl adata_0 s2.1 cdata_0) := look_off (hoff 0 rfl) rfl
       have e2 : look 82 ρ 2 = (I hi_2) := look_off (hoff 2 rfl) rfl
       have e3 : look 82 ρ 3 = (I first_3) := look_off (hoff 3 rfl) rfl
       have e4 : look 82 ρ 4 = (.func (.func 101) #[] #[]) := look_off (hoff 4 rfl) rfl
       have e11 : look 82 ρ 11 = (I o31) := look_off (hoff 11 rfl) rfl
       have e63 : look 82 ρ 63 = (Sl adata_0 s2.1 cdata_0) := hrel 4 rfl 63 rfl
       have e66 : look 82 ρ 66 = (I (w64 (first_3 + o31))) := hrel 7 rfl 66 rfl
       have e78 : look 82 ρ 78 = (.agg #[(I x62.1), (I x62.2)]) := hrel 19 rfl 78 rfl
       obtain ⟨H, -⟩ := (show Hp S0 σ0 σ74 [Ch.own 0 0 (Sl adata_0 s2.1 cdata_0) (s2.1.set (w64 (first_3 + s2.2)).toNat (x55.1, x55.2))] ∧ Md (fun i => (cov []) i ∨ (fun b => blk (Sl adata_0 s2.1 cdata_0) = some b) i) σ53 σ74 from hJ)
       clear hJ Hs
       rw [fr_lookL (L := [(0, (Sl adata_0 s2.1 cdata_0)), (2, (I hi_2)), (3, (I first_3)), (4, (.func (.func 101) #[] #[])), (11, (I o31)), (63, (Sl adata_0 s2.1 cdata_0)), (66, (I (w64 (first_3 + o31)))), (78, (.agg #[(I x62.1), (I x62.2)]))]) ⟨e0, e2, e3, e4, e11, e63, e66, e78, trivial⟩]
       clear hoff hrel e0 e2 e3 e4 e11 e63 e66 e78
       have hsl : (Sl adata_0 s2.1 cdata_0) = (Sl adata_0 (s2.1.set (w64 (first_3 + s2.2)).toNat (x55.1, x55.2)) cdata_0) := sl_len (by simp)
       rw [hsl]; rw [hsl] at H; clear hsl
       obtain ⟨x75, hx76, h'⟩ := bind_some h
       clear h
       have h := h'; clear h'
       obtain ⟨b78, o79, hi77, -⟩ := (H.own 0 rfl).ix hx76
       refine st (v := (pt b78 o79)) (rv_ix Try.underlying27 ti64 rfl rfl hi77) ?_
       refine st_exS (ex_store_own (e' := (x62.1, x62.2)) (vs := [(I x62.1), (I x62.2)]) (k := 0) H (i := 0) rfl ti64 hx76 hi77 rfl rfl rfl rfl rfl (Nat.le_of_ble_eq_true rfl) (by simp [plain]) (by rintro _ ⟨_, _, rfl, rfl, rfl⟩; exact ⟨[(I x62.1)], [(I x62.2)], rfl, rfl, rfl⟩)) (wanted_none _ rfl _) ?_
       rintro σ80 ⟨H, -⟩
       have hsl : (Sl adata_0 (s2.1.set (w64 (first_3 + s2.2)).toNat (x55.1, x55.2)) cdata_0) = (Sl adata_0 ((s2.1.set (w64 (first_3 + s2.2)).toNat (x55.1, x55.2)).set (w64 (first_3 + o31)).toNat (x62.1, x62.2)) cdata_0) := sl_len List.length_set.symm
       rw [hsl]; rw [hsl] at H; clear hsl
       refine w_end ?_
       refine q_then ?_
       refine rg ?_
       refine st (v := (I o31)) (rv_move rfl) ?_
       refine st (v := (I o31)) (rv_assign rfl) ?_
       refine w_end ?_
       refine q_blk ?_
       refine q_then ?_
       obtain rfl := Option.some.inj h
       exact ⟨_, rfl, _, σ80, fr_join ⟨rfl, rfl, rfl, rfl, rfl, trivial⟩, rfl, H.sel' [0] rfl rfl, (List.length_set.trans (List.length_set.trans hn4))⟩
 ·clear hj
  have h := h'
  clear h' H
  rintro e a w (⟨t81, rfl, rfl, ρ, σ82, rfl, rfl, H, hn83⟩ | ⟨t84, rfl, rfl, ρ, σ85, rfl, rfl, H, hn86⟩)
  ·replace h := selim_l h
   obtain rfl := Option.some.inj h
   exact fin_end (v := (.tuple #[])) (results_ok Try.results157 res_nil rfl) ⟨rfl, rfl, hn83⟩ (H.sel' [0] rfl rfl)
  ·replace h := selim_r h
   obtain rfl := Option.some.inj h
   exact fin_ret (v := (.tuple #[])) (results_ok Try.results157 res_nil rfl) ⟨rfl, rfl, hn86⟩ (H.sel' [0] rfl rfl)

theorem c_slices_heapSortCmpFunc_impl_Hit__impl_compareHits {data_0 : List (Int × Int)} {a_1 : Int} {b_2 : Int} {adata_0 : Option Addr} {cdata_0 : Nat} {r : (List (Int × Int))} (h : M.slices_heapSortCmpFunc_impl_Hit__impl_compareHits data_0 a_1 b_2 = some r) :
    Cal2 Try.prog 144 [(Sl adata_0 data_0 cdata_0), (I a_1), (I b_2), (.func (.func 101) #[] #[])] [Ch.own 0 0 (Sl adata_0 data_0 cdata_0) data_0] (fun n0 v L => v = (.tuple #[]) ∧ L = [Ch.own 0 0 (Sl adata_0 r cdata_0) r] ∧ r.length = data_0.length) := by
 refine cal2 (n := 60) Try.func144 rfl rfl rfl rfl ?_
 intro S0 σ0 n0 hn0 H
 unfold M.slices_heapSortCmpFunc_impl_Hit__impl_compareHits at h
 refine c_seq ?_
 refine rg ?_
 refine st (v := (I a_1)) (rv_move rfl) ?_
 refine st (v := (I a_1)) (rv_assign rfl) ?_
 refine w_end ?_
 refine q_then ?_
 refine c_seq ?_
 refine rg ?_
 refine st (v := (I 0)) (rv_assign rfl) ?_
 refine w_end ?_
 refine q_then ?_
 refine c_seq ?_
 refine rg ?_
 refine st (v := (I b_2)) (rv_move rfl) ?_
 refine st (v := (I a_1)) (rv_move rfl) ?_
 refine st (v := (I (w64 (b_2 - a_1)))) (rv_sub (a := b_2) (b := a_1) rfl rfl) ?_
 refine st (v := (I (w64 (b_2 - a_1)))) (rv_assign rfl) ?_
 refine w_end ?_
 refine q_then ?_
 refine c_seq ?_
 refine c_seq ?_
 refine rg ?_
 refine st (v := (I (w64 (b_2 - a_1)))) (rv_move rfl) ?_
 refine st (v := (I (w64 ((w64 (b_2 - a_1)) - 1)))) (rv_sub (a := (w64 (b_2 - a_1))) (b := 1) rfl rfl) ?_
 refine st (v := (I (w64 ((w64 ((w64 (b_2 - a_1)) - 1)).tdiv 2)))) (rv_quo (a := (w64 ((w64 (b_2 - a_1)) - 1))) (b := 2) rfl rfl (by decide)) ?_
 refine st (v := (I (w64 ((w64 ((w64 (b_2 - a_1)) - 1)).tdiv 2)))) (rv_assign rfl) ?_
 refine w_end ?_
 refine q_then ?_
 obtain ⟨o1, hj, h'⟩ := bind_some h
 clear h
 refine c_cut (fun e a w => e = .normal ∧ ∃ (ρ : Nat → Value) (σ : St), a = fr 60 (updL ρ [(0, (Sl adata_0 o1 cdata_0)), (3, (.func (.func 101) #[] #[])), (8, (I a_1)), (9, (I 0)), (10, (I (w64 (b_2 - a_1))))]) ∧ w = σ.w ∧ Hp S0 σ0 σ [Ch.own 0 0 (Sl adata_0 o1 cdata_0) o1] ∧ o1.length = data_0.length) ?_ ?_
 ·clear h'
  rename _ = some o1 => h
  refine c_blk ?_
  refine wp_loopM _ h (fun s2 a w => ∃ (ρ : Nat → Value) (σ : St), a = fr 60 (updL ρ [(0, (Sl adata_0 s2.1 cdata_0)), (3, (.func (.func 101) #[] #[])), (8, (I a_1)), (9, (I 0)), (10, (I (w64 (b_2 - a_1)))), (11, (I s2.2))]) ∧ w = σ.w ∧ Hp S0 σ0 σ [Ch.own 0 0 (Sl adata_0 s2.1 cdata_0) s2.1] ∧ s2.1.length = data_0.length) ⟨_, σ0, fr_join ⟨rfl, rfl, rfl, rfl, rfl, rfl, trivial⟩, rfl, H.sel' [0] rfl rfl, rfl⟩ ?_
  clear h H
  rintro s2 a w o ⟨ρ, σ3, rfl, rfl, H, hn4⟩ h hres
  refine c_seq ?_
  refine c_seq ?_
  refine rg ?_
  refine st (v := (I s2.2)) (rv_move rfl) ?_
  refine st (v := (B (decide (0 ≤ s2.2)))) (rv_geq (a := s2.2) (b := 0) rfl rfl) ?_
  refine w_end ?_
  refine q_then ?_
  refine cd_cond (decide (0 ≤ s2.2)) rfl (fun hb5 => ?_) (fun hb5 => ?_)
  ·replace h := bif_t hb5 h
   refine c_skip ?_
   refine q_then ?_
   refine c_seq ?_
   refine c_blk ?_
   refine rg ?_
   refine st (v := (Sl adata_0 s2.1 cdata_0)) (rv_move rfl) ?_
   refine st (v := (I s2.2)) (rv_move rfl) ?_
   refine st (v := (I (w64 (b_2 - a_1)))) (rv_move rfl) ?_
   refine st (v := (I a_1)) (rv_move rfl) ?_
   refine st (v := (.func (.func 101) #[] #[])) (rv_move rfl) ?_
   obtain ⟨r6, hx7, h'⟩ := bind_some h
   clear h
   have h := h'; clear h'
   have hc8 := c_slices_siftDownCmpFunc_impl_Hit__impl_compareHits (adata_0 := adata_0) (cdata_0 := cdata_0) hx7
   refine st_call (cx_call hc8 (ent_f hc8.fn rfl) hn0 (show Hp S0 σ0 _ ([Ch.own 0 0 (Sl adata_0 s2.1 cdata_0) s2.1] ++ []) from (H.sel' [0] rfl rfl))) (wanted_none _ rfl _) ?_
   rintro _ σ10 ⟨_, ⟨rfl, rfl, hn9⟩, H, -⟩
   replace H : Hp S0 σ0 σ10 [Ch.own 0 0 (Sl adata_0 r6 cdata_0) r6] := H
   have hsl : (Sl adata_0 s2.1 cdata_0) = (Sl adata_0 r6 cdata_0) := sl_len hn9.symm
   try rw [hsl]
   try rw [hsl] at H
   clear hsl
   refine w_end ?_
   refine q_blk ?_
   refine q_then ?_
   refine rg ?_
   refine st (v := (I s2.2)) (rv_move rfl) ?_
   refine st (v := (I (w64 (s2.2 - 1)))) (rv_sub (a := s2.2) (b := 1) rfl rfl) ?_
   refine st (v := (I (w64 (s2.2 - 1)))) (rv_assign rfl) ?_
   refine w_end ?_
   refine q_then ?_
   obtain rfl := Option.some.inj h
   exact ⟨_, rfl, _, σ10, fr_join ⟨rfl, rfl, rfl, rfl, rfl, rfl, trivial⟩, rfl, H.sel' [0] rfl rfl, (hn9.trans hn4)⟩
  ·replace h := bif_f hb5 h
   refine c_exit ?_
   refine q_then_x ?_
   refine q_then_x ?_
   refine q_blk_hit ?_
   obtain rfl := Option.some.inj h
   obtain rfl := hres _ rfl
   exact ⟨rfl, _, σ3, fr_join ⟨rfl, rfl, rfl, rfl, rfl, trivial⟩, rfl, H.sel' [0] rfl rfl, hn4⟩
 ·clear hj
  have h := h'
  clear h' H
  rintro e a w ⟨rfl, ρ, σ11, rfl, rfl, H, hn12⟩
  refine q_then ?_
  refine c_seq ?_
  refine rg ?_
  refine st (v := (I (w64 (b_2 - a_1)))) (rv_move rfl) ?_
  refine st (v := (I (w64 ((w64 (b_2 - a_1)) - 1)))) (rv_sub (a := (w64 (b_2 - a_1))) (b := 1) rfl rfl) ?_
  refine st (v := (I (w64 ((w64 (b_2 - a_1)) - 1)))) (rv_assign rfl) ?_
  refine w_end ?_
  refine q_then ?_
  obtain ⟨o13, hj, h'⟩ := bind_some h
  clear h
  refine c_cut (fun e a w => e = .normal ∧ ∃ (ρ : Nat → Value) (σ : St), a = fr 60 (updL ρ [(0, (Sl adata_0 o13 cdata_0))]) ∧ w = σ.w ∧ Hp S0 σ0 σ [Ch.own 0 0 (Sl adata_0 o13 cdata_0) o13] ∧ o13.length = o1.length) ?_ ?_
  ·clear h'
   rename _ = some o13 => h
   refine c_blk ?_
   refine wp_loopM _ h (fun s14 a w => ∃ (ρ : Nat → Value) (σ : St), a = fr 60 (updL ρ [(0, (Sl adata_0 s14.1 cdata_0)), (3, (.func (.func 101) #[] #[])), (8, (I a_1)), (9, (I 0)), (12, (I s14.2))]) ∧ w = σ.w ∧ Hp S0 σ0 σ [Ch.own 0 0 (Sl adata_0 s14.1 cdata_0) s14.1] ∧ s14.1.length = o1.length) ⟨_, σ11, fr_join ⟨rfl, rfl, rfl, rfl, rfl, trivial⟩, rfl, H.sel' [0] rfl rfl, rfl⟩ ?_
   clear h H
   rintro s14 a w o ⟨ρ, σ15, rfl, rfl, H, hn16⟩ h hres
   refine c_seq ?_
   refine c_seq ?_
   refine rg ?_
   refine st (v := (I s14.2)) (rv_move rfl) ?_
   refine st (v := (B (decide (0 ≤ s14.2)))) (rv_geq (a := s14.2) (b := 0) rfl rfl) ?_
   refine w_end ?_
   refine q_then ?_
   refine cd_cond (decide (0 ≤ s14.2)) rfl (fun hb17 => ?_) (fun hb17 => ?_)
   ·replace h := bif_t hb17 h
    refine c_skip ?_
    refine q_then ?_
    refine c_seq ?_
    refine c_blk ?_
    refine c_seq ?_
    obtain ⟨x18, hx19, h'⟩ := bind_some h
    clear h
    have h := h'; clear h'
    obtain ⟨b21, o22, hi20, -⟩ := (H.own 0 rfl).ix hx19
    obtain ⟨_, ⟨_, _, rfl, rfl, rfl⟩, hl23, hc24⟩ := ((H.own 0 rfl).at hx19 hi20).cells
    obtain ⟨x25, hx26, h'⟩ := bind_some h
    clear h
    have h := h'; clear h'
    obtain ⟨b28, o29, hi27, -⟩ := (H.own 0 rfl).ix hx26
    obtain ⟨_, ⟨_, _, rfl, rfl, rfl⟩, hl30, hc31⟩ := ((H.own 0 rfl).at hx26 hi27).cells
    obtain ⟨x32, hx33, h'⟩ := bind_some h
    clear h
    have h := h'; clear h'
    obtain ⟨b35, o36, hi34, -⟩ := (H.own 0 rfl).ix hx33
    have Hs := H
    refine rg2 (σ := σ15) (Nm := Unit) 18 [17] [[false], [true]] [[(0, 0)], [(0, 0)], [(0, 0), (1, 1)], [(0, 0), (1, 1)], [(0, 0), (1, 1)], [(0, 0), (1, 1)], [(0, 0)], [(0, 0)], [(0, 0)], [(0, 0)], [(0, 0)], [(0, 0)], [(0, 0)], [(0, 0)], [(0, 0)], [(0, 0)], [(0, 0)], [(0, 1)]] 1 [fun (_nm : Unit) => fun σm => Hp S0 σ0 σm [Ch.own 0 0 (Sl adata_0 s14.1 cdata_0) s14.1] ∧ Md (cov []) σ15 σm, fun (_nm : Unit) => fun σm => Hp S0 σ0 σm [Ch.own 0 0 (Sl adata_0 s14.1 cdata_0) (s14.1.set a_1.toNat (x18.1, x18.2))] ∧ Md (fun i => (cov []) i ∨ (fun b => blk (Sl adata_0 s14.1 cdata_0) = some b) i) σ15 σm] [fun (_nm : Unit) => (Sl adata_0 s14.1 cdata_0), fun (_nm : Unit) => (I a_1), fun (_nm : Unit) => (Sl adata_0 s14.1 cdata_0), fun (_nm : Unit) => (I a_1), fun (_nm : Unit) => (I s14.2), fun (_nm : Unit) => (I (w64 (a_1 + s14.2))), fun (_nm : Unit) => (Sl adata_0 s14.1 cdata_0), fun (_nm : Unit) => (I a_1), fun (_nm : Unit) => (I s14.2), fun (_nm : Unit) => (I (w64 (a_1 + s14.2))), fun (_nm : Unit) => (pt b21 o22), fun (_nm : Unit) => (.agg #[(I x18.1), (I x18.2)]), fun (_nm : Unit) => (Sl adata_0 s14.1 cdata_0), fun (_nm : Unit) => (I a_1), fun (_nm : Unit) => (pt b28 o29), fun (_nm : Unit) => (.agg #[(I x25.1), (I x25.2)]), fun (_nm : Unit) => (pt b35 o36), fun (_nm : Unit) => undef] () (by kernel_rfl) (by kernel_rfl) ?_ ?_ ?_
    ·intro σm m0
     exact ⟨H.grow (m0.mono fun _ h => h.elim), m0⟩
    ·refine all_cons (obs_v rfl (by
       intro k; intro _nm ρ σm hJ hoff hdep
       have e0 : look 60 ρ 0 = (Sl adata_0 s14.1 cdata_0) := look_off (hoff 0 rfl) rfl
       exact dp_v (v := (Sl adata_0 s14.1 cdata_0)) (wanted_none _ rfl _) (rv_move e0) rfl hJ)) ?_
     refine all_cons (obs_v rfl (by
       intro k; intro _nm ρ σm hJ hoff hdep
       have e8 : look 60 ρ 8 = (I a_1) := look_off (hoff 8 rfl) rfl
       exact dp_v (v := (I a_1)) (wanted_none _ rfl _) (rv_move e8) rfl hJ)) ?_
     refine all_cons (obs_v rfl (by
       intro k; intro _nm ρ σm hJ hoff hdep
       have e0 : look 60 ρ 0 = (Sl adata_0 s14.1 cdata_0) := look_off (hoff 0 rfl) rfl
       exact dp_v (v := (Sl adata_0 s14.1 cdata_0)) (wanted_none _ rfl _) (rv_move e0) rfl hJ)) ?_
     refine all_cons (obs_v rfl (by
       intro k; intro _nm ρ σm hJ hoff hdep
       have e8 : look 60 ρ 8 = (I a_1) := look_off (hoff 8 rfl) rfl
       exact dp_v (v := (I a_1)) (wanted_none _ rfl _) (rv_move e8) rfl hJ)) ?_
     refine all_cons (obs_v rfl (by
       intro k; intro _nm ρ σm hJ hoff hdep
       have e12 : look 60 ρ 12 = (I s14.2) := look_off (hoff 12 rfl) rfl
       exact dp_v (v := (I s14.2)) (wanted_none _ rfl _) (rv_move e12) rfl hJ)) ?_
     refine all_cons (obs_v rfl (by
       intro k; intro _nm ρ σm hJ hoff hdep
       have e39 : look 60 ρ 39 = (I a_1) := hdep 3 rfl rfl 39 rfl
       have e40 : look 60 ρ 40 = (I s14.2) := hdep 4 rfl rfl 40 rfl
       exact dp_v (v := (I (w64 (a_1 + s14.2)))) (wanted_none _ rfl _) (rv_add (a := a_1) (b := s14.2) e39 e40) rfl hJ)) ?_
     refine all_cons (obs_v rfl (by
       intro k; intro _nm ρ σm hJ hoff hdep
       have e0 : look 60 ρ 0 = (Sl adata_0 s14.1 cdata_0) := look_off (hoff 0 rfl) rfl
       exact dp_v (v := (Sl adata_0 s14.1 cdata_0)) (wanted_none _ rfl _) (rv_move e0) rfl hJ)) ?_
     refine all_cons (obs_v rfl (by
       intro k; intro _nm ρ σm hJ hoff hdep
       have e8 : look 60 ρ 8 = (I a_1) := look_off (hoff 8 rfl) rfl
       exact dp_v (v := (I a_1)) (wanted_none _ rfl _) (rv_move e8) rfl hJ)) ?_
     refine all_cons (obs_v rfl (by
       intro k; intro _nm ρ σm hJ hoff hdep
       have e12 : look 60 ρ 12 = (I s14.2) := look_off (hoff 12 rfl) rfl
       exact dp_v (v := (I s14.2)) (wanted_none _ rfl _) (rv_move e12) rfl hJ)) ?_
     refine all_cons (obs_v rfl (by
       intro k; intro _nm ρ σm hJ hoff hdep
       have e43 : look 60 ρ 43 = (I a_1) := hdep 7 rfl rfl 43 rfl
       have e44 : look 60 ρ 44 = (I s14.2) := hdep 8 rfl rfl 44 rfl
       exact dp_v (v := (I (w64 (a_1 + s14.2)))) (wanted_none _ rfl _) (rv_add (a := a_1) (b := s14.2) e43 e44) rfl hJ)) ?_
     refine all_cons (obs_v rfl (by
       intro k; intro _nm ρ σm hJ hoff hdep
       have e42 : look 60 ρ 42 = (Sl adata_0 s14.1 cdata_0) := hdep 6 rfl rfl 42 rfl
       have e45 : look 60 ρ 45 = (I (w64 (a_1 + s14.2))) := hdep 9 rfl rfl 45 rfl
       exact dp_v (v := (pt b21 o22)) (wanted_none _ rfl _) (rv_ix Try.underlying27 ti64 e42 e45 hi20) rfl hJ)) ?_
     refine all_cons (by
       refine ⟨?_, ?_⟩
       ·intro _nm ρ σm hJ hoff hdep
        have e46 : look 60 ρ 46 = (pt b21 o22) := hdep 10 rfl rfl 46 rfl
        obtain ⟨H, m⟩ := id hJ
        obtain ⟨_, ⟨_, _, rfl, rfl, rfl⟩, hl23, hc24⟩ := ((H.own 0 rfl).at hx19 hi20).cells
        exact dp_v (v := (.agg #[(I x18.1), (I x18.2)])) (wanted_none _ rfl _) (rv_load Try.underlying64 rfl ti64 e46 hl23 hc24) rfl hJ
       trivial) ?_
     refine all_cons (obs_v rfl (by
       intro k; intro _nm ρ σm hJ hoff hdep
       have e0 : look 60 ρ 0 = (Sl adata_0 s14.1 cdata_0) := look_off (hoff 0 rfl) rfl
       exact dp_v (v := (Sl adata_0 s14.1 cdata_0)) (wanted_none _ rfl _) (rv_move e0) rfl hJ)) ?_
     refine all_cons (obs_v rfl (by
       intro k; intro _nm ρ σm hJ hoff hdep
       have e8 : look 60 ρ 8 = (I a_1) := look_off (hoff 8 rfl) rfl
       exact dp_v (v := (I a_1)) (wanted_none _ rfl _) (rv_move e8) rfl hJ)) ?_
     refine all_cons (obs_v rfl (by
       intro k; intro _nm ρ σm hJ hoff hdep
       have e48 : look 60 ρ 48 = (Sl adata_0 s14.1 cdata_0) := hdep 12 rfl rfl 48 rfl
       have e49 : look 60 ρ 49 = (I a_1) := hdep 13 rfl rfl 49 rfl
       exact dp_v (v := (pt b28 o29)) (wanted_none _ rfl _) (rv_ix Try.underlying27 ti64 e48 e49 hi27) rfl hJ)) ?_
     refine all_cons (by
       refine ⟨?_, ?_⟩
       ·intro _nm ρ σm hJ hoff hdep
        have e50 : look 60 ρ 50 = (pt b28 o29) := hdep 14 rfl rfl 50 rfl
        obtain ⟨H, m⟩ := id hJ
        obtain ⟨_, ⟨_, _, rfl, rfl, rfl⟩, hl30, hc31⟩ := ((H.own 0 rfl).at hx26 hi27).cells
        exact dp_v (v := (.agg #[(I x25.1), (I x25.2)])) (wanted_none _ rfl _) (rv_load Try.underlying64 rfl ti64 e50 hl30 hc31) rfl hJ
       trivial) ?_
     refine all_cons (obs_v rfl (by
       intro k; intro _nm ρ σm hJ hoff hdep
       have e36 : look 60 ρ 36 = (Sl adata_0 s14.1 cdata_0) := hdep 0 rfl rfl 36 rfl
       have e37 : look 60 ρ 37 = (I a_1) := hdep 1 rfl rfl 37 rfl
       exact dp_v (v := (pt b35 o36)) (wanted_none _ rfl _) (rv_ix Try.underlying27 ti64 e36 e37 hi34) rfl hJ)) ?_
     refine all_cons (by
       refine ⟨?_, ?_⟩
       ·intro _nm ρ σm hJ hoff hdep
        have e52 : look 60 ρ 52 = (pt b35 o36) := hdep 16 rfl rfl 52 rfl
        have e47 : look 60 ρ 47 = (.agg #[(I x18.1), (I x18.2)]) := hdep 11 rfl rfl 47 rfl
        obtain ⟨H, m⟩ := id hJ
        refine dp_exS (wanted_none _ rfl _) rfl (ex_store_own (e' := (x18.1, x18.2)) (vs := [(I x18.1), (I x18.2)]) (k := 0) H (i := 0) rfl ti64 hx33 hi34 e52 rfl e47 rfl rfl (Nat.le_of_ble_eq_true rfl) (by simp [plain]) (by rintro _ ⟨_, _, rfl, rfl, rfl⟩; exact ⟨[(I x18.1)], [(I x18.2)], rfl, rfl, rfl⟩)) ?_
        rintro σq ⟨H2, m2⟩
        exact ⟨_, (), rfl, ⟨H2.sel' [0] rfl rfl, m.comp m2⟩, stab [0, 1, 2, 3, 4, 5, 6, 7, 8, 9, 10, 11, 12, 13, 14, 15, 16] (by kernel_rfl) ⟨rfl, rfl, rfl, rfl, rfl, rfl, rfl, rfl, rfl, rfl, rfl, rfl, rfl, rfl, rfl, rfl, rfl, trivial⟩⟩
       trivial) ?_
     exact all_nil
    ·intro _nm ρ σ37 hJ hoff hrel
     have e0 : look 60 ρ 0 = (Sl adata_0 s14.1 cdata_0) := look_off (hoff 0 rfl) rfl
     have e3 : look 60 ρ 3 = (.func (.func 101) #[] #[]) := look_off (hoff 3 rfl) rfl
     have e8 : look 60 ρ 8 = (I a_1) := look_off (hoff 8 rfl) rfl
     have e9 : look 60 ρ 9 = (I 0) := look_off (hoff 9 rfl) rfl
     have e12 : look 60 ρ 12 = (I s14.2) := look_off (hoff 12 rfl) rfl
     have e38 : look 60 ρ 38 = (Sl adata_0 s14.1 cdata_0) := hrel 2 rfl 38 rfl
     have e41 : look 60 ρ 41 = (I (w64 (a_1 + s14.2))) := hrel 5 rfl 41 rfl
     have e51 : look 60 ρ 51 = (.agg #[(I x25.1), (I x25.2)]) := hrel 15 rfl 51 rfl
     obtain ⟨H, -⟩ := (show Hp S0 σ0 σ37 [Ch.own 0 0 (Sl adata_0 s14.1 cdata_0) (s14.1.set a_1.toNat (x18.1, x18.2))] ∧ Md (fun i => (cov []) i ∨ (fun b => blk (Sl adata_0 s14.1 cdata_0) = some b) i) σ15 σ37 from hJ)
     clear hJ Hs
     rw [fr_lookL (L := [(0, (Sl adata_0 s14.1 cdata_0)), (3, (.func (.func 101) #[] #[])), (8, (I a_1)), (9, (I 0)), (12, (I s14.2)), (38, (Sl adata_0 s14.1 cdata_0)), (41, (I (w64 (a_1 + s14.2)))), (51, (.agg #[(I x25.1), (I x25.2)]))]) ⟨e0, e3, e8, e9, e12, e38, e41, e51, trivial⟩]
     clear hoff hrel e0 e3 e8 e9 e12 e38 e41 e51
     have hsl : (Sl adata_0 s14.1 cdata_0) = (Sl adata_0 (s14.1.set a_1.toNat (x18.1, x18.2)) cdata_0) := sl_len (by simp)
     rw [hsl]; rw [hsl] at H; clear hsl
     obtain ⟨x38, hx39, h'⟩ := bind_some h
     clear h
     have h := h'; clear h'
     obtain ⟨b41, o42, hi40, -⟩ := (H.own 0 rfl).ix hx39
     refine st (v := (pt b41 o42)) (rv_ix Try.underlying27 ti64 rfl rfl hi40) ?_
     refine st_exS (ex_store_own (e' := (x25.1, x25.2)) (vs := [(I x25.1), (I x25.2)]) (k := 0) H (i := 0) rfl ti64 hx39 hi40 rfl rfl rfl rfl rfl (Nat.le_of_ble_eq_true rfl) (by simp [plain]) (by rintro _ ⟨_, _, rfl, rfl, rfl⟩; exact ⟨[(I x25.1)], [(I x25.2)], rfl, rfl, rfl⟩)) (wanted_none _ rfl _) ?_
     rintro σ43 ⟨H, -⟩
     have hsl : (Sl adata_0 (s14.1.set a_1.toNat (x18.1, x18.2)) cdata_0) = (Sl adata_0 ((s14.1.set a_1.toNat (x18.1, x18.2)).set (w64 (a_1 + s14.2)).toNat (x25.1, x25.2)) cdata_0) := sl_len List.length_set.symm
     rw [hsl]; rw [hsl] at H; clear hsl
     refine w_end ?_
     refine q_then ?_
     refine rg ?_
     refine st (v := (Sl adata_0 ((s14.1.set a_1.toNat (x18.1, x18.2)).set (w64 (a_1 + s14.2)).toNat (x25.1, x25.2)) cdata_0)) (rv_move rfl) ?_
     refine st (v := (I 0)) (rv_move rfl) ?_
     refine st (v := (I s14.2)) (rv_move rfl) ?_
     refine st (v := (I a_1)) (rv_move rfl) ?_
     refine st (v := (.func (.func 101) #[] #[])) (rv_move rfl) ?_
     obtain ⟨r44, hx45, h'⟩ := bind_some h
     clear h
     have h := h'; clear h'
     have hc46 := c_slices_siftDownCmpFunc_impl_Hit__impl_compareHits (adata_0 := adata_0) (cdata_0 := cdata_0) hx45
     refine st_call (cx_call hc46 (ent_f hc46.fn rfl) hn0 (show Hp S0 σ0 _ ([Ch.own 0 0 (Sl adata_0 ((s14.1.set a_1.toNat (x18.1, x18.2)).set (w64 (a_1 + s14.2)).toNat (x25.1, x25.2)) cdata_0) ((s14.1.set a_1.toNat (x18.1, x18.2)).set (w64 (a_1 + s14.2)).toNat (x25.1, x25.2))] ++ []) from (H.sel' [0] rfl rfl))) (wanted_none _ rfl _) ?_
     rintro _ σ48 ⟨_, ⟨rfl, rfl, hn47⟩, H, -⟩
     replace H : Hp S0 σ0 σ48 [Ch.own 0 0 (Sl adata_0 r44 cdata_0) r44] := H
     have hsl : (Sl adata_0 ((s14.1.set a_1.toNat (x18.1, x18.2)).set (w64 (a_1 + s14.2)).toNat (x25.1, x25.2)) cdata_0) = (Sl adata_0 r44 cdata_0) := sl_len hn47.symm
     try rw [hsl]
     try rw [hsl] at H
     clear hsl
     refine w_end ?_
     refine q_blk ?_
     refine q_then ?_
     refine rg ?_
     refine st (v := (I s14.2)) (rv_move rfl) ?_
     refine st (v := (I (w64 (s14.2 - 1)))) (rv_sub (a := s14.2) (b := 1) rfl rfl) ?_
     refine st (v := (I (w64 (s14.2 - 1)))) (rv_assign rfl) ?_
     refine w_end ?_
     refine q_then ?_
     obtain rfl := Option.some.inj h
     exact ⟨_, rfl, _, σ48, fr_join ⟨rfl, rfl, rfl, rfl, rfl, trivial⟩, rfl, H.sel' [0] rfl rfl, ((hn47.trans (List.length_set.trans (List.length_set.trans (hn16.trans hn12)))).trans hn12.symm)⟩
   ·replace h := bif_f hb17 h
    refine c_exit ?_
    refine q_then_x ?_
    refine q_then_x ?_
    refine q_blk_hit ?_
    obtain rfl := Option.some.inj h
    obtain rfl := hres _ rfl
    exact ⟨rfl, _, σ15, fr_join ⟨rfl, trivial⟩, rfl, H.sel' [0] rfl rfl, ((hn16.trans hn12).trans hn12.symm)⟩
  ·clear hj
   have h := h'
   clear h' H
   rintro e a w ⟨rfl, ρ, σ49, rfl, rfl, H, hn50⟩
   obtain rfl := Option.some.inj h
   exact fin_end (v := (.tuple #[])) (results_ok Try.results144 res_nil rfl) ⟨rfl, rfl, (hn50.trans hn12)⟩ (H.sel' [0] rfl rfl)

theorem c_slices_breakPatternsCmpFunc_impl_Hit__impl_compareHits {data_0 : List (Int × Int)} {a_1 : Int} {b_2 : Int} {adata_0 : Option Addr} {cdata_0 : Nat} {r : (List (Int × Int))} (h : M.slices_breakPatternsCmpFunc_impl_Hit__impl_compareHits data_0 a_1 b_2 = some r) :
    Cal2 Try.prog 145 [(Sl adata_0 data_0 cdata_0), (I a_1), (I b_2), (.func (.func 101) #[] #[])] [Ch.own 0 0 (Sl adata_0 data_0 cdata_0) data_0] (fun n0 v L => v = (.tuple #[]) ∧ L = [Ch.own 0 0 (Sl adata_0 r cdata_0) r] ∧ r.length = data_0.length) := by
 refine cal2 (n := 67) Try.func145 rfl rfl rfl rfl ?_
 intro S0 σ0 n0 hn0 H
 unfold M.slices_breakPatternsCmpFunc_impl_Hit__impl_compareHits at h
 refine c_seq ?_
 refine rg ?_
 refine st (v := (I b_2)) (rv_move rfl) ?_
 refine st (v := (I a_1)) (rv_move rfl) ?_
 refine st (v := (I (w64 (b_2 - a_1)))) (rv_sub (a := b_2) (b := a_1) rfl rfl) ?_
 refine st (v := (I (w64 (b_2 - a_1)))) (rv_assign rfl) ?_
 refine w_end ?_
 refine q_then ?_
 refine c_seq ?_
 refine rg ?_
 refine st (v := (I (w64 (b_2 - a_1)))) (rv_move rfl) ?_
 refine st (v := (B (decide (8 ≤ (w64 (b_2 - a_1)))))) (rv_geq (a := (w64 (b_2 - a_1))) (b := 8) rfl rfl) ?_
 refine w_end ?_
 refine q_then ?_
 refine cd_cond (decide (8 ≤ (w64 (b_2 - a_1)))) rfl (fun hb1 => ?_) (fun hb1 => ?_)
 ·replace h := bif_t hb1 h
  refine c_seq ?_
  refine rg ?_
  refine st (v := (I (w64 (b_2 - a_1)))) (rv_move rfl) ?_
  refine st (v := (.int .u64 (wk .u64 (w64 (b_2 - a_1))))) (rvk_conv (k := .i64) (k' := .u64) (a := (w64 (b_2 - a_1))) Try.underlying3 Try.underlying173 rfl) ?_
  refine st_ex (ex_alloc (cs := [(.int .u64 0)]) H hn0 ti173 rfl) (wanted_none _ rfl _) ?_
  rintro _ σ3 ⟨b2, rfl, H, -⟩
  refine st_exS (ex_store_box (k := 0) (cs := [(.int .u64 0)]) (vs := [(.int .u64 (wk .u64 (w64 (b_2 - a_1))))]) (cs' := [(.int .u64 (wk .u64 (w64 (b_2 - a_1))))]) H (i := 0) rfl ti173 rfl rfl rfl rfl rfl (Nat.le_of_ble_eq_true rfl) (by simp [plain]) rfl) (wanted_none _ rfl _) ?_
  rintro σ4 ⟨H, -⟩
  refine w_end ?_
  refine q_then ?_
  refine c_seq ?_
  refine rg ?_
  refine st (v := (I (w64 (b_2 - a_1)))) (rv_move rfl) ?_
  obtain ⟨r5, hx6, h'⟩ := bind_some h
  clear h
  have h := h'; clear h'
  have hc7 := c_slices_nextPowerOfTwo hx6
  refine st_call (cx_call hc7 (ent_f hc7.fn rfl) hn0 (show Hp S0 σ0 _ ([] ++ [Ch.bx n0 b2 0 [(.int .u64 (wk .u64 (w64 (b_2 - a_1))))] [] [], Ch.own 0 0 (Sl adata_0 data_0 cdata_0) data_0]) from (H.sel' [0, 1] rfl rfl))) (wanted_none _ rfl _) ?_
  rintro _ σ8 ⟨_, ⟨rfl, rfl⟩, H, -⟩
  replace H : Hp S0 σ0 σ8 [Ch.bx n0 b2 0 [(.int .u64 (wk .u64 (w64 (b_2 - a_1))))] [] [], Ch.own 0 0 (Sl adata_0 data_0 cdata_0) data_0] := H
  refine st (v := (.int .u64 r5)) (rv_assign rfl) ?_
  refine w_end ?_
  refine q_then ?_
  refine c_seq ?_
  refine rg ?_
  refine st (v := (I a_1)) (rv_move rfl) ?_
  refine st (v := (I (w64 (b_2 - a_1)))) (rv_move rfl) ?_
  refine st (v := (I (w64 ((w64 (b_2 - a_1)).tdiv 4)))) (rv_quo (a := (w64 (b_2 - a_1))) (b := 4) rfl rfl (by decide)) ?_
  refine st (v := (I (w64 ((w64 ((w64 (b_2 - a_1)).tdiv 4)) * 2)))) (rv_mul (a := (w64 ((w64 (b_2 - a_1)).tdiv 4))) (b := 2) rfl rfl) ?_
  refine st (v := (I (w64 (a_1 + (w64 ((w64 ((w64 (b_2 - a_1)).tdiv 4)) * 2)))))) (rv_add (a := a_1) (b := (w64 ((w64 ((w64 (b_2 - a_1)).tdiv 4)) * 2))) rfl rfl) ?_
  refine st (v := (I (w64 ((w64 (a_1 + (w64 ((w64 ((w64 (b_2 - a_1)).tdiv 4)) * 2)))) - 1)))) (rv_sub (a := (w64 (a_1 + (w64 ((w64 ((w64 (b_2 - a_1)).tdiv 4)) * 2))))) (b := 1) rfl rfl) ?_
  refine st (v := (I (w64 ((w64 (a_1 + (w64 ((w64 ((w64 (b_2 - a_1)).tdiv 4)) * 2)))) - 1)))) (rv_assign rfl) ?_
  refine w_end ?_
  refine q_then ?_
  obtain ⟨o9, hj, h'⟩ := bind_some h
  clear h
  refine c_cut (fun e a w => e = .normal ∧ ∃ (ρ : Nat → Value) (σ : St), a = fr 67 (updL ρ [(0, (Sl adata_0 o9 cdata_0))]) ∧ w = σ.w ∧ Hp S0 σ0 σ [Ch.own 0 0 (Sl adata_0 o9 cdata_0) o9] ∧ o9.length = data_0.length) ?_ ?_
  ·clear h'
   rename _ = some o9 => h
   refine c_blk ?_
   refine wp_loopM _ h (fun s10 a w => ∃ (ρ : Nat → Value) (σ : St), a = fr 67 (updL ρ [(0, (Sl adata_0 s10.1 cdata_0)), (1, (I a_1)), (8, (I (w64 (b_2 - a_1)))), (9, (pt b2 0)), (10, (.int .u64 r5)), (11, (I s10.2.2))]) ∧ w = σ.w ∧ Hp S0 σ0 σ [Ch.bx n0 b2 0 [(.int .u64 s10.2.1)] [] [], Ch.own 0 0 (Sl adata_0 s10.1 cdata_0) s10.1] ∧ s10.1.length = data_0.length) ⟨_, σ8, fr_join ⟨rfl, rfl, rfl, rfl, rfl, rfl, trivial⟩, rfl, H.sel' [0, 1] rfl rfl, rfl⟩ ?_
   clear h H
   rintro s10 a w o ⟨ρ, σ11, rfl, rfl, H, hn12⟩ h hres
   refine c_seq ?_
   refine c_seq ?_
   refine rg ?_
   refine st (v := (I s10.2.2)) (rv_move rfl) ?_
   refine st (v := (I a_1)) (rv_move rfl) ?_
   refine st (v := (I (w64 (b_2 - a_1)))) (rv_move rfl) ?_
   refine st (v := (I (w64 ((w64 (b_2 - a_1)).tdiv 4)))) (rv_quo (a := (w64 (b_2 - a_1))) (b := 4) rfl rfl (by decide)) ?_
   refine st (v := (I (w64 ((w64 ((w64 (b_2 - a_1)).tdiv 4)) * 2)))) (rv_mul (a := (w64 ((w64 (b_2 - a_1)).tdiv 4))) (b := 2) rfl rfl) ?_
   refine st (v := (I (w64 (a_1 + (w64 ((w64 ((w64 (b_2 - a_1)).tdiv 4)) * 2)))))) (rv_add (a := a_1) (b := (w64 ((w64 ((w64 (b_2 - a_1)).tdiv 4)) * 2))) rfl rfl) ?_
   refine st (v := (I (w64 ((w64 (a_1 + (w64 ((w64 ((w64 (b_2 - a_1)).tdiv 4)) * 2)))) + 1)))) (rv_add (a := (w64 (a_1 + (w64 ((w64 ((w64 (b_2 - a_1)).tdiv 4)) * 2))))) (b := 1) rfl rfl) ?_
   refine st (v := (B (decide (s10.2.2 ≤ (w64 ((w64 (a_1 + (w64 ((w64 ((w64 (b_2 - a_1)).tdiv 4)) * 2)))) + 1)))))) (rv_leq (a := s10.2.2) (b := (w64 ((w64 (a_1 + (w64 ((w64 ((w64 (b_2 - a_1)).tdiv 4)) * 2)))) + 1))) rfl rfl) ?_
   refine w_end ?_
   refine q_then ?_
   refine cd_cond (decide (s10.2.2 ≤ (w64 ((w64 (a_1 + (w64 ((w64 ((w64 (b_2 - a_1)).tdiv 4)) * 2)))) + 1)))) rfl (fun hb13 => ?_) (fun hb13 => ?_)
   ·replace h := bif_t hb13 h
    refine c_skip ?_
    refine q_then ?_
    refine c_seq ?_
    refine c_blk ?_
    refine c_seq ?_
    refine rg ?_
    obtain ⟨r14, hx15, h'⟩ := bind_some h
    clear h
    have h := h'; clear h'
    have hc16 := c_slices_xorshift_Next (lor_0 := n0) (br_0 := b2) (or_0 := 0) (prer_0 := []) (sufr_0 := []) hx15
    refine st_call (cx_call hc16 (ent_f hc16.fn rfl) hn0 (show Hp S0 σ0 _ ([Ch.bx n0 b2 0 [(.int .u64 s10.2.1)] [] []] ++ [Ch.own 0 0 (Sl adata_0 s10.1 cdata_0) s10.1]) from (H.sel' [0, 1] rfl rfl))) (wanted_none _ rfl _) ?_
    rintro _ σ17 ⟨_, ⟨rfl, rfl⟩, H, -⟩
    replace H : Hp S0 σ0 σ17 [Ch.bx n0 b2 0 [(.int .u64 r14.2)] [] [], Ch.own 0 0 (Sl adata_0 s10.1 cdata_0) s10.1] := H
    refine st (v := (.int .u64 r5)) (rv_move rfl) ?_
    refine st (v := (.int .u64 (wk .u64 (r5 - 1)))) (rvk_sub (k := .u64) (a := r5) (b := 1) rfl rfl) ?_
    refine st (v := (.int .u64 (gandk .u64 r14.1 (wk .u64 (r5 - 1))))) (rvk_and (k := .u64) (a := r14.1) (b := (wk .u64 (r5 - 1))) rfl rfl) ?_
    refine st (v := (I (wk .i64 (gandk .u64 r14.1 (wk .u64 (r5 - 1)))))) (rvk_conv (k := .u64) (k' := .i64) (a := (gandk .u64 r14.1 (wk .u64 (r5 - 1)))) Try.underlying150 Try.underlying3 rfl) ?_
    refine st (v := (I (wk .i64 (gandk .u64 r14.1 (wk .u64 (r5 - 1)))))) (rv_assign rfl) ?_
    refine w_end ?_
    refine q_then ?_
    refine c_seq ?_
    refine c_seq ?_
    refine rg ?_
    refine st (v := (I (wk .i64 (gandk .u64 r14.1 (wk .u64 (r5 - 1)))))) (rv_move rfl) ?_
    refine st (v := (I (w64 (b_2 - a_1)))) (rv_move rfl) ?_
    refine st (v := (B (decide ((w64 (b_2 - a_1)) ≤ (wk .i64 (gandk .u64 r14.1 (wk .u64 (r5 - 1)))))))) (rv_geq (a := (wk .i64 (gandk .u64 r14.1 (wk .u64 (r5 - 1))))) (b := (w64 (b_2 - a_1))) rfl rfl) ?_
    refine w_end ?_
    refine q_then ?_
    obtain ⟨o18, hj, h'⟩ := bind_some h
    clear h
    refine c_cut (fun e a w => e = .normal ∧ ∃ (ρ : Nat → Value) (σ : St), a = fr 67 (updL ρ [(0, (Sl adata_0 s10.1 cdata_0)), (1, (I a_1)), (8, (I (w64 (b_2 - a_1)))), (9, (pt b2 0)), (10, (.int .u64 r5)), (11, (I s10.2.2)), (12, (I o18))]) ∧ w = σ.w ∧ Hp S0 σ0 σ [Ch.own 0 0 (Sl adata_0 s10.1 cdata_0) s10.1, Ch.bx n0 b2 0 [(.int .u64 r14.2)] [] []]) ?_ ?_
    ·clear h'
     rename _ = some o18 => h
     refine cd_cond (decide ((w64 (b_2 - a_1)) ≤ (wk .i64 (gandk .u64 r14.1 (wk .u64 (r5 - 1)))))) rfl (fun hb19 => ?_) (fun hb19 => ?_)
     ·replace h := bif_t hb19 h
      refine rg ?_
      refine st (v := (I (wk .i64 (gandk .u64 r14.1 (wk .u64 (r5 - 1)))))) (rv_move rfl) ?_
      refine st (v := (I (w64 (b_2 - a_1)))) (rv_move rfl) ?_
      refine st (v := (I (w64 ((wk .i64 (gandk .u64 r14.1 (wk .u64 (r5 - 1)))) - (w64 (b_2 - a_1)))))) (rv_sub (a := (wk .i64 (gandk .u64 r14.1 (wk .u64 (r5 - 1))))) (b := (w64 (b_2 - a_1))) rfl rfl) ?_
      refine st (v := (I (w64 ((wk .i64 (gandk .u64 r14.1 (wk .u64 (r5 - 1)))) - (w64 (b_2 - a_1)))))) (rv_assign rfl) ?_
      refine w_end ?_
      obtain rfl := Option.some.inj h
      exact ⟨rfl, _, σ17, fr_join ⟨rfl, rfl, rfl, rfl, rfl, rfl, rfl, trivial⟩, rfl, H.sel' [1, 0] rfl rfl⟩
     ·replace h := bif_f hb19 h
      refine c_skip ?_
      obtain rfl := Option.some.inj h
      exact ⟨rfl, _, σ17, fr_join ⟨rfl, rfl, rfl, rfl, rfl, rfl, rfl, trivial⟩, rfl, H.sel' [1, 0] rfl rfl⟩
    ·clear hj
     have h := h'
     clear h' H
     rintro e a w ⟨rfl, ρ, σ20, rfl, rfl, H⟩
     refine q_then ?_
     obtain ⟨x21, hx22, h'⟩ := bind_some h
     clear h
     have h := h'; clear h'
     obtain ⟨b24, o25, hi23, -⟩ := (H.own 0 rfl).ix hx22
     obtain ⟨_, ⟨_, _, rfl, rfl, rfl⟩, hl26, hc27⟩ := ((H.own 0 rfl).at hx22 hi23).cells
     obtain ⟨x28, hx29, h'⟩ := bind_some h
     clear h
     have h := h'; clear h'
     obtain ⟨b31, o32, hi30, -⟩ := (H.own 0 rfl).ix hx29
     obtain ⟨_, ⟨_, _, rfl, rfl, rfl⟩, hl33, hc34⟩ := ((H.own 0 rfl).at hx29 hi30).cells
     obtain ⟨x35, hx36, h'⟩ := bind_some h
     clear h
     have h := h'; clear h'
     obtain ⟨b38, o39, hi37, -⟩ := (H.own 0 rfl).ix hx36
     have Hs := H
     refine rg2 (σ := σ20) (Nm := Unit) 18 [17] [[false], [true]] [[(0, 0)], [(0, 0)], [(0, 0), (1, 1)], [(0, 0), (1, 1)], [(0, 0), (1, 1)], [(0, 0), (1, 1)], [(0, 0)], [(0, 0)], [(0, 0)], [(0, 0)], [(0, 0)], [(0, 0)], [(0, 0)], [(0, 0)], [(0, 0)], [(0, 0)], [(0, 0)], [(0, 1)]] 1 [fun (_nm : Unit) => fun σm => Hp S0 σ0 σm [Ch.own 0 0 (Sl adata_0 s10.1 cdata_0) s10.1, Ch.bx n0 b2 0 [(.int .u64 r14.2)] [] []] ∧ Md (cov []) σ20 σm, fun (_nm : Unit) => fun σm => Hp S0 σ0 σm [Ch.own 0 0 (Sl adata_0 s10.1 cdata_0) (s10.1.set s10.2.2.toNat (x21.1, x21.2)), Ch.bx n0 b2 0 [(.int .u64 r14.2)] [] []] ∧ Md (fun i => (cov []) i ∨ (fun b => blk (Sl adata_0 s10.1 cdata_0) = some b) i) σ20 σm] [fun (_nm : Unit) => (Sl adata_0 s10.1 cdata_0), fun (_nm : Unit) => (I s10.2.2), fun (_nm : Unit) => (Sl adata_0 s10.1 cdata_0), fun (_nm : Unit) => (I a_1), fun (_nm : Unit) => (I o18), fun (_nm : Unit) => (I (w64 (a_1 + o18))), fun (_nm : Unit) => (Sl adata_0 s10.1 cdata_0), fun (_nm : Unit) => (I a_1), fun (_nm : Unit) => (I o18), fun (_nm : Unit) => (I (w64 (a_1 + o18))), fun (_nm : Unit) => (pt b24 o25), fun (_nm : Unit) => (.agg #[(I x21.1), (I x21.2)]), fun (_nm : Unit) => (Sl adata_0 s10.1 cdata_0), fun (_nm : Unit) => (I s10.2.2), fun (_nm : Unit) => (pt b31 o32), fun (_nm : Unit) => (.agg #[(I x28.1), (I x28.2)]), fun (_nm : Unit) => (pt b38 o39), fun (_nm : Unit) => undef] () (by kernel_rfl) (by kernel_rfl) ?_ ?_ ?_
     ·intro σm m0
      exact ⟨H.grow (m0.mono fun _ h => h.elim), m0⟩
     ·refine all_cons (obs_v rfl (by
        intro k; intro _nm ρ σm hJ hoff hdep
        have e0 : look 67 ρ 0 = (Sl adata_0 s10.1 cdata_0) := look_off (hoff 0 rfl) rfl
        exact dp_v (v := (Sl adata_0 s10.1 cdata_0)) (wanted_none _ rfl _) (rv_move e0) rfl hJ)) ?_
      refine all_cons (obs_v rfl (by
        intro k; intro _nm ρ σm hJ hoff hdep
        have e11 : look 67 ρ 11 = (I s10.2.2) := look_off (hoff 11 rfl) rfl
        exact dp_v (v := (I s10.2.2)) (wanted_none _ rfl _) (rv_move e11) rfl hJ)) ?_
      refine all_cons (obs_v rfl (by
        intro k; intro _nm ρ σm hJ hoff hdep
        have e0 : look 67 ρ 0 = (Sl adata_0 s10.1 cdata_0) := look_off (hoff 0 rfl) rfl
        exact dp_v (v := (Sl adata_0 s10.1 cdata_0)) (wanted_none _ rfl _) (rv_move e0) rfl hJ)) ?_
      refine all_cons (obs_v rfl (by
        intro k; intro _nm ρ σm hJ hoff hdep
        have e1 : look 67 ρ 1 = (I a_1) := look_off (hoff 1 rfl) rfl
        exact dp_v (v := (I a_1)) (wanted_none _ rfl _) (rv_move e1) rfl hJ)) ?_
      refine all_cons (obs_v rfl (by
        intro k; intro _nm ρ σm hJ hoff hdep
        have e12 : look 67 ρ 12 = (I o18) := look_off (hoff 12 rfl) rfl
        exact dp_v (v := (I o18)) (wanted_none _ rfl _) (rv_move e12) rfl hJ)) ?_
      refine all_cons (obs_v rfl (by
        intro k; intro _nm ρ σm hJ hoff hdep
        have e52 : look 67 ρ 52 = (I a_1) := hdep 3 rfl rfl 52 rfl
        have e53 : look 67 ρ 53 = (I o18) := hdep 4 rfl rfl 53 rfl
        exact dp_v (v := (I (w64 (a_1 + o18)))) (wanted_none _ rfl _) (rv_add (a := a_1) (b := o18) e52 e53) rfl hJ)) ?_
      refine all_cons (obs_v rfl (by
        intro k; intro _nm ρ σm hJ hoff hdep
        have e0 : look 67 ρ 0 = (Sl adata_0 s10.1 cdata_0) := look_off (hoff 0 rfl) rfl
        exact dp_v (v := (Sl adata_0 s10.1 cdata_0)) (wanted_none _ rfl _) (rv_move e0) rfl hJ)) ?_
      refine all_cons (obs_v rfl (by
        intro k; intro _nm ρ σm hJ hoff hdep
        have e1 : look 67 ρ 1 = (I a_1) := look_off (hoff 1 rfl) rfl
        exact dp_v (v := (I a_1)) (wanted_none _ rfl _) (rv_move e1) rfl hJ)) ?_
      refine all_cons (obs_v rfl (by
        intro k; intro _nm ρ σm hJ hoff hdep
        have e12 : look 67 ρ 12 = (I o18) := look_off (hoff 12 rfl) rfl
        exact dp_v (v := (I o18)) (wanted_none _ rfl _) (rv_move e12) rfl hJ)) ?_
      refine all_cons (obs_v rfl (by
        intro k; intro _nm ρ σm hJ hoff hdep
        have e56 : look 67 ρ 56 = (I a_1) := hdep 7 rfl rfl 56 rfl
        have e57 : look 67 ρ 57 = (I o18) := hdep 8 rfl rfl 57 rfl
        exact dp_v (v := (I (w64 (a_1 + o18)))) (wanted_none _ rfl _) (rv_add (a := a_1) (b := o18) e56 e57) rfl hJ)) ?_
      refine all_cons (obs_v rfl (by
        intro k; intro _nm ρ σm hJ hoff hdep
        have e55 : look 67 ρ 55 = (Sl adata_0 s10.1 cdata_0) := hdep 6 rfl rfl 55 rfl
        have e58 : look 67 ρ 58 = (I (w64 (a_1 + o18))) := hdep 9 rfl rfl 58 rfl
        exact dp_v (v := (pt b24 o25)) (wanted_none _ rfl _) (rv_ix Try.underlying27 ti64 e55 e58 hi23) rfl hJ)) ?_
      refine all_cons (by
        refine ⟨?_, ?_⟩
        ·intro _nm ρ σm hJ hoff hdep
         have e59 : look 67 ρ 59 = (pt b24 o25) := hdep 10 rfl rfl 59 rfl
         obtain ⟨H, m⟩ := id hJ
         obtain ⟨_, ⟨_, _, rfl, rfl, rfl⟩, hl26, hc27⟩ := ((H.own 0 rfl).at hx22 hi23).cells
         exact dp_v (v := (.agg #[(I x21.1), (I x21.2)])) (wanted_none _ rfl _) (rv_load Try.underlying64 rfl ti64 e59 hl26 hc27) rfl hJ
        trivial) ?_
      refine all_cons (obs_v rfl (by
        intro k; intro _nm ρ σm hJ hoff hdep
        have e0 : look 67 ρ 0 = (Sl adata_0 s10.1 cdata_0) := look_off (hoff 0 rfl) rfl
        exact dp_v (v := (Sl adata_0 s10.1 cdata_0)) (wanted_none _ rfl _) (rv_move e0) rfl hJ)) ?_
      refine all_cons (obs_v rfl (by
        intro k; intro _nm ρ σm hJ hoff hdep
        have e11 : look 67 ρ 11 = (I s10.2.2) := look_off (hoff 11 rfl) rfl
        exact dp_v (v := (I s10.2.2)) (wanted_none _ rfl _) (rv_move e11) rfl hJ)) ?_
      refine all_cons (obs_v rfl (by
        intro k; intro _nm ρ σm hJ hoff hdep
        have e61 : look 67 ρ 61 = (Sl adata_0 s10.1 cdata_0) := hdep 12 rfl rfl 61 rfl
        have e62 : look 67 ρ 62 = (I s10.2.2) := hdep 13 rfl rfl 62 rfl
        exact dp_v (v := (pt b31 o32)) (wanted_none _ rfl _) (rv_ix Try.underlying27 ti64 e61 e62 hi30) rfl hJ)) ?_
      refine all_cons (by
        refine ⟨?_, ?_⟩
        ·intro _nm ρ σm hJ hoff hdep
         have e63 : look 67 ρ 63 = (pt b31 o32) := hdep 14 rfl rfl 63 rfl
         obtain ⟨H, m⟩ := id hJ
         obtain ⟨_, ⟨_, _, rfl, rfl, rfl⟩, hl33, hc34⟩ := ((H.own 0 rfl).at hx29 hi30).cells
         exact dp_v (v := (.agg #[(I x28.1), (I x28.2)])) (wanted_none _ rfl _) (rv_load Try.underlying64 rfl ti64 e63 hl33 hc34) rfl hJ
        trivial) ?_
      refine all_cons (obs_v rfl (by
        intro k; intro _nm ρ σm hJ hoff hdep
        have e49 : look 67 ρ 49 = (Sl adata_0 s10.1 cdata_0) := hdep 0 rfl rfl 49 rfl
        have e50 : look 67 ρ 50 = (I s10.2.2) := hdep 1 rfl rfl 50 rfl
        exact dp_v (v := (pt b38 o39)) (wanted_none _ rfl _) (rv_ix Try.underlying27 ti64 e49 e50 hi37) rfl hJ)) ?_
      refine all_cons (by
        refine ⟨?_, ?_⟩
        ·intro _nm ρ σm hJ hoff hdep
         have e65 : look 67 ρ 65 = (pt b38 o39) := hdep 16 rfl rfl 65 rfl
         have e60 : look 67 ρ 60 = (.agg #[(I x21.1), (I x21.2)]) := hdep 11 rfl rfl 60 rfl
         obtain ⟨H, m⟩ := id hJ
         refine dp_exS (wanted_none _ rfl _) rfl (ex_store_own (e' := (x21.1, x21.2)) (vs := [(I x21.1), (I x21.2)]) (k := 0) H (i := 0) rfl ti64 hx36 hi37 e65 rfl e60 rfl rfl (Nat.le_of_ble_eq_true rfl) (by simp [plain]) (by rintro _ ⟨_, _, rfl, rfl, rfl⟩; exact ⟨[(I x21.1)], [(I x21.2)], rfl, rfl, rfl⟩)) ?_
         rintro σq ⟨H2, m2⟩
         exact ⟨_, (), rfl, ⟨H2.sel' [0, 1] rfl rfl, m.comp m2⟩, stab [0, 1, 2, 3, 4, 5, 6, 7, 8, 9, 10, 11, 12, 13, 14, 15, 16] (by kernel_rfl) ⟨rfl, rfl, rfl, rfl, rfl, rfl, rfl, rfl, rfl, rfl, rfl, rfl, rfl, rfl, rfl, rfl, rfl, trivial⟩⟩
        trivial) ?_
      exact all_nil
     ·intro _nm ρ σ40 hJ hoff hrel
      have e0 : look 67 ρ 0 = (Sl adata_0 s10.1 cdata_0) := look_off (hoff 0 rfl) rfl
      have e1 : look 67 ρ 1 = (I a_1) := look_off (hoff 1 rfl) rfl
      have e8 : look 67 ρ 8 = (I (w64 (b_2 - a_1))) := look_off (hoff 8 rfl) rfl
      have e9 : look 67 ρ 9 = (pt b2 0) := look_off (hoff 9 rfl) rfl
      have e10 : look 67 ρ 10 = (.int .u64 r5) := look_off (hoff 10 rfl) rfl
      have e11 : look 67 ρ 11 = (I s10.2.2) := look_off (hoff 11 rfl) rfl
      have e51 : look 67 ρ 51 = (Sl adata_0 s10.1 cdata_0) := hrel 2 rfl 51 rfl
      have e54 : look 67 ρ 54 = (I (w64 (a_1 + o18))) := hrel 5 rfl 54 rfl
      have e64 : look 67 ρ 64 = (.agg #[(I x28.1), (I x28.2)]) := hrel 15 rfl 64 rfl
      obtain ⟨H, -⟩ := (show Hp S0 σ0 σ40 [Ch.own 0 0 (Sl adata_0 s10.1 cdata_0) (s10.1.set s10.2.2.toNat (x21.1, x21.2)), Ch.bx n0 b2 0 [(.int .u64 r14.2)] [] []] ∧ Md (fun i => (cov []) i ∨ (fun b => blk (Sl adata_0 s10.1 cdata_0) = some b) i) σ20 σ40 from hJ)
      clear hJ Hs
      rw [fr_lookL (L := [(0, (Sl adata_0 s10.1 cdata_0)), (1, (I a_1)), (8, (I (w64 (b_2 - a_1)))), (9, (pt b2 0)), (10, (.int .u64 r5)), (11, (I s10.2.2)), (51, (Sl adata_0 s10.1 cdata_0)), (54, (I (w64 (a_1 + o18)))), (64, (.agg #[(I x28.1), (I x28.2)]))]) ⟨e0, e1, e8, e9, e10, e11, e51, e54, e64, trivial⟩]
      clear hoff hrel e0 e1 e8 e9 e10 e11 e51 e54 e64
      have hsl : (Sl adata_0 s10.1 cdata_0) = (Sl adata_0 (s10.1.set s10.2.2.toNat (x21.1, x21.2)) cdata_0) := sl_len (by simp)
      rw [hsl]; rw [hsl] at H; clear hsl
      obtain ⟨x41, hx42, h'⟩ := bind_some h
      clear h
      have h := h'; clear h'
      obtain ⟨b44, o45, hi43, -⟩ := (H.own 0 rfl).ix hx42
      refine st (v := (pt b44 o45)) (rv_ix Try.underlying27 ti64 rfl rfl hi43) ?_
      refine st_exS (ex_store_own (e' := (x28.1, x28.2)) (vs := [(I x28.1), (I x28.2)]) (k := 0) H (i := 0) rfl ti64 hx42 hi43 rfl rfl rfl rfl rfl (Nat.le_of_ble_eq_true rfl) (by simp [plain]) (by rintro _ ⟨_, _, rfl, rfl, rfl⟩; exact ⟨[(I x28.1)], [(I x28.2)], rfl, rfl, rfl⟩)) (wanted_none _ rfl _) ?_
      rintro σ46 ⟨H, -⟩
      have hsl : (Sl adata_0 (s10.1.set s10.2.2.toNat (x21.1, x21.2)) cdata_0) = (Sl adata_0 ((s10.1.set s10.2.2.toNat (x21.1, x21.2)).set (w64 (a_1 + o18)).toNat (x28.1, x28.2)) cdata_0) := sl_len List.length_set.symm
      rw [hsl]; rw [hsl] at H; clear hsl
      refine w_end ?_
      refine q_blk ?_
      refine q_then ?_
      refine rg ?_
      refine st (v := (I s10.2.2)) (rv_move rfl) ?_
      refine st (v := (I (w64 (s10.2.2 + 1)))) (rv_add (a := s10.2.2) (b := 1) rfl rfl) ?_
      refine st (v := (I (w64 (s10.2.2 + 1)))) (rv_assign rfl) ?_
      refine w_end ?_
      refine q_then ?_
      obtain rfl := Option.some.inj h
      exact ⟨_, rfl, _, σ46, fr_join ⟨rfl, rfl, rfl, rfl, rfl, rfl, trivial⟩, rfl, H.sel' [1, 0] rfl rfl, (List.length_set.trans (List.length_set.trans hn12))⟩
   ·replace h := bif_f hb13 h
    refine c_exit ?_
    refine q_then_x ?_
    refine q_then_x ?_
    refine q_blk_hit ?_
    obtain rfl := Option.some.inj h
    obtain rfl := hres _ rfl
    exact ⟨rfl, _, σ11, fr_join ⟨rfl, trivial⟩, rfl, H.sel' [1] rfl rfl, hn12⟩
  ·clear hj
   have h := h'
   clear h' H
   rintro e a w ⟨rfl, ρ, σ47, rfl, rfl, H, hn48⟩
   obtain rfl := Option.some.inj h
   exact fin_end (v := (.tuple #[])) (results_ok Try.results145 res_nil rfl) ⟨rfl, rfl, hn48⟩ (H.sel' [0] rfl rfl)
 ·replace h := bif_f hb1 h
  refine c_skip ?_
  obtain rfl := Option.some.inj h
  exact fin_end (v := (.tuple #[])) (results_ok Try.results145 res_nil rfl) ⟨rfl, rfl, rfl⟩ (H.sel' [0] rfl rfl)

theorem c_slices_order2CmpFunc_impl_Hit__impl_compareHits {data_0 : List (Int × Int)} {a_1 : Int} {b_2 : Int} {swaps_3 : Int} {adata_0 : Option Addr} {cdata_0 : Nat} {loswaps_3 bswaps_3 oswaps_3 : Nat} {preswaps_3 sufswaps_3 : List Value} {r : Int × Int × Int} (h : M.slices_order2CmpFunc_impl_Hit__impl_compareHits data_0 a_1 b_2 swaps_3 = some r) :
    Cal2 Try.prog 161 [(Sl adata_0 data_0 cdata_0), (I a_1), (I b_2), (pt bswaps_3 oswaps_3), (.func (.func 101) #[] #[])] [Ch.ro 0 (Sl adata_0 data_0 cdata_0) data_0, Ch.bx loswaps_3 bswaps_3 oswaps_3 [(I swaps_3)] preswaps_3 sufswaps_3] (fun n0 v L => v = (.tuple #[(I r.1), (I r.2.1)]) ∧ L = [Ch.bx loswaps_3 bswaps_3 oswaps_3 [(I r.2.2)] preswaps_3 sufswaps_3]) := by
 refine cal2 (n := 32) Try.func161 rfl rfl rfl rfl ?_
 intro S0 σ0 n0 hn0 H
 unfold M.slices_order2CmpFunc_impl_Hit__impl_compareHits at h
 refine c_seq ?_
 refine rg ?_
 refine st (v := (I 0)) (rv_assign rfl) ?_
 refine st (v := (I 0)) (rv_assign rfl) ?_
 refine w_end ?_
 refine q_then ?_
 refine c_seq ?_
 refine c_seq ?_
 refine rgP (σ := σ0) 9 (by kernel_rfl) (by kernel_rfl) (by kernel_rfl) ?_
 refine sq (v := (.func (.func 101) #[] #[])) (rv_move rfl) ?_
 refine sq (v := (Sl adata_0 data_0 cdata_0)) (rv_move rfl) ?_
 refine sq (v := (I b_2)) (rv_move rfl) ?_
 obtain ⟨x1, hx2, h'⟩ := bind_some h
 clear h
 have h := h'; clear h'
 obtain ⟨b4, o5, hi3, -⟩ := (H.ro 0 rfl).ix hx2
 refine sq (v := (pt b4 o5)) (rv_ix Try.underlying27 ti64 rfl rfl hi3) ?_
 obtain ⟨_, ⟨_, _, rfl, rfl, rfl⟩, hl6, hc7⟩ := ((H.ro 0 rfl).at hx2 hi3).cells
 refine sq (v := (.agg #[(I x1.1), (I x1.2)])) (rv_load Try.underlying64 rfl ti64 rfl hl6 hc7) ?_
 refine sq (v := (Sl adata_0 data_0 cdata_0)) (rv_move rfl) ?_
 refine sq (v := (I a_1)) (rv_move rfl) ?_
 obtain ⟨x8, hx9, h'⟩ := bind_some h
 clear h
 have h := h'; clear h'
 obtain ⟨b11, o12, hi10, -⟩ := (H.ro 0 rfl).ix hx9
 refine sq (v := (pt b11 o12)) (rv_ix Try.underlying27 ti64 rfl rfl hi10) ?_
 obtain ⟨_, ⟨_, _, rfl, rfl, rfl⟩, hl13, hc14⟩ := ((H.ro 0 rfl).at hx9 hi10).cells
 refine sq (v := (.agg #[(I x8.1), (I x8.2)])) (rv_load Try.underlying64 rfl ti64 rfl hl13 hc14) ?_
 refine sq_end ?_
 intro σ15 hm16
 replace H := H.grow (hm16.mono fun _ h => h); clear hm16
 obtain ⟨r17, hx18, h'⟩ := bind_some h
 clear h
 have h := h'; clear h'
 have hc19 := c_impl_compareHits hx18
 refine st_call (cx_call hc19 (ent_v (cap := []) hc19.fn rfl rfl) hn0 (show Hp S0 σ0 _ ([] ++ [Ch.ro 0 (Sl adata_0 data_0 cdata_0) data_0, Ch.bx loswaps_3 bswaps_3 oswaps_3 [(I swaps_3)] preswaps_3 sufswaps_3]) from (H.sel' [0, 1] rfl rfl))) (wanted_none _ rfl _) ?_
 rintro _ σ20 ⟨_, ⟨rfl, rfl⟩, H, -⟩
 replace H : Hp S0 σ0 σ20 [Ch.ro 0 (Sl adata_0 data_0 cdata_0) data_0, Ch.bx loswaps_3 bswaps_3 oswaps_3 [(I swaps_3)] preswaps_3 sufswaps_3] := H
 refine st (v := (B (decide (r17 < 0)))) (rv_lss (a := r17) (b := 0) rfl rfl) ?_
 refine w_end ?_
 refine q_then ?_
 refine cd_cond (decide (r17 < 0)) rfl (fun hb21 => ?_) (fun hb21 => ?_)
 ·replace h := bif_t hb21 h
  refine c_seq ?_
  refine rg ?_
  refine st (v := (pt bswaps_3 oswaps_3)) (rv_move rfl) ?_
  refine st (v := (pt bswaps_3 oswaps_3)) (rv_nilCheck rfl) ?_
  have hc22 := H.cell (u := (I swaps_3)) (o' := oswaps_3) 1 0 rfl rfl rfl
  refine st (v := (I swaps_3)) (rv_load1 Try.underlying3 rfl rfl hc22) ?_
  refine st (v := (I (w64 (swaps_3 + 1)))) (rv_add (a := swaps_3) (b := 1) rfl rfl) ?_
  refine st (v := (pt bswaps_3 oswaps_3)) (rv_nilCheck rfl) ?_
  refine st_exS (ex_store_box (k := 0) (cs := [(I swaps_3)]) (vs := [(I (w64 (swaps_3 + 1)))]) (cs' := [(I (w64 (swaps_3 + 1)))]) H (i := 1) rfl ti3 rfl rfl rfl rfl rfl (Nat.le_of_ble_eq_true rfl) (by simp [plain]) rfl) (wanted_none _ rfl _) ?_
  rintro σ23 ⟨H, -⟩
  refine w_end ?_
  refine q_then ?_
  refine c_seq ?_
  refine rg ?_
  refine st (v := (I b_2)) (rv_move rfl) ?_
  refine st (v := (I a_1)) (rv_move rfl) ?_
  refine st (v := (I b_2)) (rv_assign rfl) ?_
  refine st (v := (I a_1)) (rv_assign rfl) ?_
  refine w_end ?_
  refine q_then ?_
  refine c_ret ?_
  refine q_then_r ?_
  obtain rfl := Option.some.inj h
  exact fin_ret (v := (.tuple #[(I b_2), (I a_1)])) (results_ok Try.results161 (res_tmp (v := (I b_2)) rfl (res_tmp (v := (I a_1)) rfl res_nil)) rfl) ⟨rfl, rfl⟩ (H.sel' [0] rfl rfl)
 ·replace h := bif_f hb21 h
  refine c_skip ?_
  refine q_then ?_
  refine c_seq ?_
  refine rg ?_
  refine st (v := (I a_1)) (rv_move rfl) ?_
  refine st (v := (I b_2)) (rv_move rfl) ?_
  refine st (v := (I a_1)) (rv_assign rfl) ?_
  refine st (v := (I b_2)) (rv_assign rfl) ?_
  refine w_end ?_
  refine q_then ?_
  refine c_ret ?_
  obtain rfl := Option.some.inj h
  exact fin_ret (v := (.tuple #[(I a_1), (I b_2)])) (results_ok Try.results161 (res_tmp (v := (I a_1)) rfl (res_tmp (v := (I b_2)) rfl res_nil)) rfl) ⟨rfl, rfl⟩ (H.sel' [1] rfl rfl)

theorem c_slices_medianCmpFunc_impl_Hit__impl_compareHits {data_0 : List (Int × Int)} {a_1 : Int} {b_2 : Int} {c_3 : Int} {swaps_4 : Int} {adata_0 : Option Addr} {cdata_0 : Nat} {loswaps_4 bswaps_4 oswaps_4 : Nat} {preswaps_4 sufswaps_4 : List Value} {r : Int × Int} (h : M.slices_medianCmpFunc_impl_Hit__impl_compareHits data_0 a_1 b_2 c_3 swaps_4 = some r) :
    Cal2 Try.prog 159 [(Sl adata_0 data_0 cdata_0), (I a_1), (I b_2), (I c_3), (pt bswaps_4 oswaps_4), (.func (.func 101) #[] #[])] [Ch.ro 0 (Sl adata_0 data_0 cdata_0) data_0, Ch.bx loswaps_4 bswaps_4 oswaps_4 [(I swaps_4)] preswaps_4 sufswaps_4] (fun n0 v L => v = (I r.1) ∧ L = [Ch.bx loswaps_4 bswaps_4 oswaps_4 [(I r.2)] preswaps_4 sufswaps_4]) := by
 refine cal2 (n := 41) Try.func159 rfl rfl rfl rfl ?_
 intro S0 σ0 n0 hn0 H
 unfold M.slices_medianCmpFunc_impl_Hit__impl_compareHits at h
 refine c_seq ?_
 refine rg ?_
 refine st (v := (I 0)) (rv_assign rfl) ?_
 refine w_end ?_
 refine q_then ?_
 refine c_seq ?_
 refine rg ?_
 refine st (v := (Sl adata_0 data_0 cdata_0)) (rv_move rfl) ?_
 refine st (v := (I a_1)) (rv_move rfl) ?_
 refine st (v := (I b_2)) (rv_move rfl) ?_
 refine st (v := (pt bswaps_4 oswaps_4)) (rv_move rfl) ?_
 refine st (v := (.func (.func 101) #[] #[])) (rv_move rfl) ?_
 obtain ⟨r1, hx2, h'⟩ := bind_some h
 clear h
 have h := h'; clear h'
 have hc3 := c_slices_order2CmpFunc_impl_Hit__impl_compareHits (adata_0 := adata_0) (cdata_0 := cdata_0) (loswaps_3 := loswaps_4) (bswaps_3 := bswaps_4) (oswaps_3 := oswaps_4) (preswaps_3 := preswaps_4) (sufswaps_3 := sufswaps_4) hx2
 refine st_call (cx_call hc3 (ent_f hc3.fn rfl) hn0 (show Hp S0 σ0 _ ([Ch.ro 0 (Sl adata_0 data_0 cdata_0) data_0, Ch.bx loswaps_4 bswaps_4 oswaps_4 [(I swaps_4)] preswaps_4 sufswaps_4] ++ [Ch.ro 0 (Sl adata_0 data_0 cdata_0) data_0]) from (H.sel' [0, 1, 0] rfl rfl))) (wanted_none _ rfl _) ?_
 rintro _ σ4 ⟨_, ⟨rfl, rfl⟩, H, -⟩
 replace H : Hp S0 σ0 σ4 [Ch.bx loswaps_4 bswaps_4 oswaps_4 [(I r1.2.2)] preswaps_4 sufswaps_4, Ch.ro 0 (Sl adata_0 data_0 cdata_0) data_0] := H
 refine st (v := (.tuple #[(I r1.1), (I r1.2.1)])) (rv_move rfl) ?_
 refine st (v := (I r1.1)) (rv_extract rfl rfl) ?_
 refine st (v := (I r1.2.1)) (rv_extract rfl rfl) ?_
 refine st (v := (I r1.1)) (rv_assign rfl) ?_
 refine st (v := (I r1.2.1)) (rv_assign rfl) ?_
 refine w_end ?_
 refine q_then ?_
 refine c_seq ?_
 refine rg ?_
 refine st (v := (Sl adata_0 data_0 cdata_0)) (rv_move rfl) ?_
 refine st (v := (I r1.2.1)) (rv_move rfl) ?_
 refine st (v := (I c_3)) (rv_move rfl) ?_
 refine st (v := (pt bswaps_4 oswaps_4)) (rv_move rfl) ?_
 refine st (v := (.func (.func 101) #[] #[])) (rv_move rfl) ?_
 obtain ⟨r5, hx6, h'⟩ := bind_some h
 clear h
 have h := h'; clear h'
 have hc7 := c_slices_order2CmpFunc_impl_Hit__impl_compareHits (adata_0 := adata_0) (cdata_0 := cdata_0) (loswaps_3 := loswaps_4) (bswaps_3 := bswaps_4) (oswaps_3 := oswaps_4) (preswaps_3 := preswaps_4) (sufswaps_3 := sufswaps_4) hx6
 refine st_call (cx_call hc7 (ent_f hc7.fn rfl) hn0 (show Hp S0 σ0 _ ([Ch.ro 0 (Sl adata_0 data_0 cdata_0) data_0, Ch.bx loswaps_4 bswaps_4 oswaps_4 [(I r1.2.2)] preswaps_4 sufswaps_4] ++ [Ch.ro 0 (Sl adata_0 data_0 cdata_0) data_0]) from (H.sel' [1, 0, 1] rfl rfl))) (wanted_none _ rfl _) ?_
 rintro _ σ8 ⟨_, ⟨rfl, rfl⟩, H, -⟩
 replace H : Hp S0 σ0 σ8 [Ch.bx loswaps_4 bswaps_4 oswaps_4 [(I r5.2.2)] preswaps_4 sufswaps_4, Ch.ro 0 (Sl adata_0 data_0 cdata_0) data_0] := H
 refine st (v := (.tuple #[(I r5.1), (I r5.2.1)])) (rv_move rfl) ?_
 refine st (v := (I r5.1)) (rv_extract rfl rfl) ?_
 refine st (v := (I r5.2.1)) (rv_extract rfl rfl) ?_
 refine st (v := (I r5.1)) (rv_assign rfl) ?_
 refine st (v := (I r5.2.1)) (rv_assign rfl) ?_
 refine w_end ?_
 refine q_then ?_
 refine c_seq ?_
 refine rg ?_
 refine st (v := (Sl adata_0 data_0 cdata_0)) (rv_move rfl) ?_
 refine st (v := (I r1.1)) (rv_move rfl) ?_
 refine st (v := (I r5.1)) (rv_move rfl) ?_
 refine st (v := (pt bswaps_4 oswaps_4)) (rv_move rfl) ?_
 refine st (v := (.func (.func 101) #[] #[])) (rv_move rfl) ?_
 obtain ⟨r9, hx10, h'⟩ := bind_some h
 clear h
 have h := h'; clear h'
 have hc11 := c_slices_order2CmpFunc_impl_Hit__impl_compareHits (adata_0 := adata_0) (cdata_0 := cdata_0) (loswaps_3 := loswaps_4) (bswaps_3 := bswaps_4) (oswaps_3 := oswaps_4) (preswaps_3 := preswaps_4) (sufswaps_3 := sufswaps_4) hx10
 refine st_call (cx_call hc11 (ent_f hc11.fn rfl) hn0 (show Hp S0 σ0 _ ([Ch.ro 0 (Sl adata_0 data_0 cdata_0) data_0, Ch.bx loswaps_4 bswaps_4 oswaps_4 [(I r5.2.2)] preswaps_4 sufswaps_4] ++ [Ch.ro 0 (Sl adata_0 data_0 cdata_0) data_0]) from (H.sel' [1, 0, 1] rfl rfl))) (wanted_none _ rfl _) ?_
 rintro _ σ12 ⟨_, ⟨rfl, rfl⟩, H, -⟩
 replace H : Hp S0 σ0 σ12 [Ch.bx loswaps_4 bswaps_4 oswaps_4 [(I r9.2.2)] preswaps_4 sufswaps_4, Ch.ro 0 (Sl adata_0 data_0 cdata_0) data_0] := H
 refine st (v := (.tuple #[(I r9.1), (I r9.2.1)])) (rv_move rfl) ?_
 refine st (v := (I r9.1)) (rv_extract rfl rfl) ?_
 refine st (v := (I r9.2.1)) (rv_extract rfl rfl) ?_
 refine st (v := (I r9.1)) (rv_assign rfl) ?_
 refine st (v := (I r9.2.1)) (rv_assign rfl) ?_
 refine w_end ?_
 refine q_then ?_
 refine c_seq ?_
 refine rg ?_
 refine st (v := (I r9.2.1)) (rv_move rfl) ?_
 refine st (v := (I r9.2.1)) (rv_assign rfl) ?_
 refine w_end ?_
 refine q_then ?_
 refine c_ret ?_
 obtain rfl := Option.some.inj h
 exact fin_ret (v := (I r9.2.1)) (results_ok Try.results159 (res_tmp (v := (I r9.2.1)) rfl res_nil) rfl) ⟨rfl, rfl⟩ (H.sel' [0] rfl rfl)

theorem c_slices_medianAdjacentCmpFunc_impl_Hit__impl_compareHits {data_0 : List (Int × Int)} {a_1 : Int} {swaps_2 : Int} {adata_0 : Option Addr} {cdata_0 : Nat} {loswaps_2 bswaps_2 oswaps_2 : Nat} {preswaps_2 sufswaps_2 : List Value} {r : Int × Int} (h : M.slices_medianAdjacentCmpFunc_impl_Hit__impl_compareHits data_0 a_1 swaps_2 = some r) :
    Cal2 Try.prog 158 [(Sl adata_0 data_0 cdata_0), (I a_1), (pt bswaps_2 oswaps_2), (.func (.func 101) #[] #[])] [Ch.ro 0 (Sl adata_0 data_0 cdata_0) data_0, Ch.bx loswaps_2 bswaps_2 oswaps_2 [(I swaps_2)] preswaps_2 sufswaps_2] (fun n0 v L => v = (I r.1) ∧ L = [Ch.bx loswaps_2 bswaps_2 oswaps_2 [(I r.2)] preswaps_2 sufswaps_2]) := by
 refine cal2 (n := 18) Try.func158 rfl rfl rfl rfl ?_
 intro S0 σ0 n0 hn0 H
 unfold M.slices_medianAdjacentCmpFunc_impl_Hit__impl_compareHits at h
 refine c_seq ?_
 refine rg ?_
 refine st (v := (I 0)) (rv_assign rfl) ?_
 refine w_end ?_
 refine q_then ?_
 refine c_seq ?_
 refine rg ?_
 refine st (v := (Sl adata_0 data_0 cdata_0)) (rv_move rfl) ?_
 refine st (v := (I a_1)) (rv_move rfl) ?_
 refine st (v := (I (w64 (a_1 - 1)))) (rv_sub (a := a_1) (b := 1) rfl rfl) ?_
 refine st (v := (I a_1)) (rv_move rfl) ?_
 refine st (v := (I a_1)) (rv_move rfl) ?_
 refine st (v := (I (w64 (a_1 + 1)))) (rv_add (a := a_1) (b := 1) rfl rfl) ?_
 refine st (v := (pt bswaps_2 oswaps_2)) (rv_move rfl) ?_
 refine st (v := (.func (.func 101) #[] #[])) (rv_move rfl) ?_
 obtain ⟨r1, hx2, h'⟩ := bind_some h
 clear h
 have h := h'; clear h'
 have hc3 := c_slices_medianCmpFunc_impl_Hit__impl_compareHits (adata_0 := adata_0) (cdata_0 := cdata_0) (loswaps_4 := loswaps_2) (bswaps_4 := bswaps_2) (oswaps_4 := oswaps_2) (preswaps_4 := preswaps_2) (sufswaps_4 := sufswaps_2) hx2
 refine st_call (cx_call hc3 (ent_f hc3.fn rfl) hn0 (show Hp S0 σ0 _ ([Ch.ro 0 (Sl adata_0 data_0 cdata_0) data_0, Ch.bx loswaps_2 bswaps_2 oswaps_2 [(I swaps_2)] preswaps_2 sufswaps_2] ++ [Ch.ro 0 (Sl adata_0 data_0 cdata_0) data_0]) from (H.sel' [0, 1, 0] rfl rfl))) (wanted_none _ rfl _) ?_
 rintro _ σ4 ⟨_, ⟨rfl, rfl⟩, H, -⟩
 replace H : Hp S0 σ0 σ4 [Ch.bx loswaps_2 bswaps_2 oswaps_2 [(I r1.2)] preswaps_2 sufswaps_2, Ch.ro 0 (Sl adata_0 data_0 cdata_0) data_0] := H
 refine st (v := (I r1.1)) (rv_assign rfl) ?_
 refine w_end ?_
 refine q_then ?_
 refine c_ret ?_
 obtain rfl := Option.some.inj h
 exact fin_ret (v := (I r1.1)) (results_ok Try.results158 (res_tmp (v := (I r1.1)) rfl res_nil) rfl) ⟨rfl, rfl⟩ (H.sel' [0] rfl rfl)

theorem c_slices_choosePivotCmpFunc_impl_Hit__impl_compareHits {data_0 : List (Int × Int)} {a_1 : Int} {b_2 : Int} {adata_0 : Option Addr} {cdata_0 : Nat} {r : Int × Int} (h : M.slices_choosePivotCmpFunc_impl_Hit__impl_compareHits data_0 a_1 b_2 = some r) :
    Cal2 Try.prog 146 [(Sl adata_0 data_0 cdata_0), (I a_1), (I b_2), (.func (.func 101) #[] #[])] [Ch.ro 0 (Sl adata_0 data_0 cdata_0) data_0] (fun n0 v L => v = (.tuple #[(I r.1), (I r.2)]) ∧ L = []) := by
 refine cal2 (n := 63) Try.func146 rfl rfl rfl rfl ?_
 intro S0 σ0 n0 hn0 H
 unfold M.slices_choosePivotCmpFunc_impl_Hit__impl_compareHits at h
 refine c_seq ?_
 refine rg ?_
 refine st (v := (I 0)) (rv_assign rfl) ?_
 refine st (v := (I 0)) (rv_assign rfl) ?_
 refine w_end ?_
 refine q_then ?_
 refine c_seq ?_
 refine rg ?_
 refine st (v := (I b_2)) (rv_move rfl) ?_
 refine st (v := (I a_1)) (rv_move rfl) ?_
 refine st (v := (I (w64 (b_2 - a_1)))) (rv_sub (a := b_2) (b := a_1) rfl rfl) ?_
 refine st (v := (I (w64 (b_2 - a_1)))) (rv_assign rfl) ?_
 refine w_end ?_
 refine q_then ?_
 refine c_seq ?_
 refine rg ?_
 refine st_ex (ex_alloc (cs := [(I 0)]) H hn0 ti3 rfl) (wanted_none _ rfl _) ?_
 rintro _ σ2 ⟨b1, rfl, H, -⟩
 refine w_end ?_
 refine q_then ?_
 refine c_seq ?_
 refine rg ?_
 refine st (v := (I a_1)) (rv_move rfl) ?_
 refine st (v := (I (w64 (b_2 - a_1)))) (rv_move rfl) ?_
 refine st (v := (I (w64 ((w64 (b_2 - a_1)).tdiv 4)))) (rv_quo (a := (w64 (b_2 - a_1))) (b := 4) rfl rfl (by decide)) ?_
 refine st (v := (I (w64 ((w64 ((w64 (b_2 - a_1)).tdiv 4)) * 1)))) (rv_mul (a := (w64 ((w64 (b_2 - a_1)).tdiv 4))) (b := 1) rfl rfl) ?_
 refine st (v := (I (w64 (a_1 + (w64 ((w64 ((w64 (b_2 - a_1)).tdiv 4)) * 1)))))) (rv_add (a := a_1) (b := (w64 ((w64 ((w64 (b_2 - a_1)).tdiv 4)) * 1))) rfl rfl) ?_
 refine st (v := (I (w64 (a_1 + (w64 ((w64 ((w64 (b_2 - a_1)).tdiv 4)) * 1)))))) (rv_assign rfl) ?_
 refine w_end ?_
 refine q_then ?_
 refine c_seq ?_
 refine rg ?_
 refine st (v := (I a_1)) (rv_move rfl) ?_
 refine st (v := (I (w64 (b_2 - a_1)))) (rv_move rfl) ?_
 refine st (v := (I (w64 ((w64 (b_2 - a_1)).tdiv 4)))) (rv_quo (a := (w64 (b_2 - a_1))) (b := 4) rfl rfl (by decide)) ?_
 refine st (v := (I (w64 ((w64 ((w64 (b_2 - a_1)).tdiv 4)) * 2)))) (rv_mul (a := (w64 ((w64 (b_2 - a_1)).tdiv 4))) (b := 2) rfl rfl) ?_
 refine st (v := (I (w64 (a_1 + (w64 ((w64 ((w64 (b_2 - a_1)).tdiv 4)) * 2)))))) (rv_add (a := a_1) (b := (w64 ((w64 ((w64 (b_2 - a_1)).tdiv 4)) * 2))) rfl rfl) ?_
 refine st (v := (I (w64 (a_1 + (w64 ((w64 ((w64 (b_2 - a_1)).tdiv 4)) * 2)))))) (rv_assign rfl) ?_
 refine w_end ?_
 refine q_then ?_
 refine c_seq ?_
 refine rg ?_
 refine st (v := (I a_1)) (rv_move rfl) ?_
 refine st (v := (I (w64 (b_2 - a_1)))) (rv_move rfl) ?_
 refine st (v := (I (w64 ((w64 (b_2 - a_1)).tdiv 4)))) (rv_quo (a := (w64 (b_2 - a_1))) (b := 4) rfl rfl (by decide)) ?_
 refine st (v := (I (w64 ((w64 ((w64 (b_2 - a_1)).tdiv 4)) * 3)))) (rv_mul (a := (w64 ((w64 (b_2 - a_1)).tdiv 4))) (b := 3) rfl rfl) ?_
 refine st (v := (I (w64 (a_1 + (w64 ((w64 ((w64 (b_2 - a_1)).tdiv 4)) * 3)))))) (rv_add (a := a_1) (b := (w64 ((w64 ((w64 (b_2 - a_1)).tdiv 4)) * 3))) rfl rfl) ?_
 refine st (v := (I (w64 (a_1 + (w64 ((w64 ((w64 (b_2 - a_1)).tdiv 4)) * 3)))))) (rv_assign rfl) ?_
 refine w_end ?_
 refine q_then ?_
 refine c_seq ?_
 refine c_seq ?_
 refine rg ?_
 refine st (v := (I (w64 (b_2 - a_1)))) (rv_move rfl) ?_
 refine st (v := (B (decide (8 ≤ (w64 (b_2 - a_1)))))) (rv_geq (a := (w64 (b_2 - a_1))) (b := 8) rfl rfl) ?_
 refine w_end ?_
 refine q_then ?_
 obtain ⟨o3, hj, h'⟩ := bind_some h
 clear h
 refine c_cut (fun e a w => e = .normal ∧ ∃ (ρ : Nat → Value) (σ : St), a = fr 63 (updL ρ [(11, (pt b1 0)), (13, (I o3.2))]) ∧ w = σ.w ∧ Hp S0 σ0 σ [Ch.bx n0 b1 0 [(I o3.1)] [] []]) ?_ ?_
 ·clear h'
  rename _ = some o3 => h
  refine cd_cond (decide (8 ≤ (w64 (b_2 - a_1)))) rfl (fun hb4 => ?_) (fun hb4 => ?_)
  ·replace h := bif_t hb4 h
   refine c_seq ?_
   refine c_seq ?_
   refine rg ?_
   refine st (v := (I (w64 (b_2 - a_1)))) (rv_move rfl) ?_
   refine st (v := (B (decide (50 ≤ (w64 (b_2 - a_1)))))) (rv_geq (a := (w64 (b_2 - a_1))) (b := 50) rfl rfl) ?_
   refine w_end ?_
   refine q_then ?_
   obtain ⟨o5, hj, h'⟩ := bind_some h
   clear h
   refine c_cut (fun e a w => e = .normal ∧ ∃ (ρ : Nat → Value) (σ : St), a = fr 63 (updL ρ [(0, (Sl adata_0 data_0 cdata_0)), (3, (.func (.func 101) #[] #[])), (11, (pt b1 0)), (12, (I o5.2.1)), (13, (I o5.2.2.1)), (14, (I o5.2.2.2))]) ∧ w = σ.w ∧ Hp S0 σ0 σ [Ch.bx n0 b1 0 [(I o5.1)] [] [], Ch.ro 0 (Sl adata_0 data_0 cdata_0) data_0]) ?_ ?_
   ·clear h'
    rename _ = some o5 => h
    refine cd_cond (decide (50 ≤ (w64 (b_2 - a_1)))) rfl (fun hb6 => ?_) (fun hb6 => ?_)
    ·replace h := bif_t hb6 h
     refine c_seq ?_
     refine rg ?_
     refine st (v := (Sl adata_0 data_0 cdata_0)) (rv_move rfl) ?_
     refine st (v := (I (w64 (a_1 + (w64 ((w64 ((w64 (b_2 - a_1)).tdiv 4)) * 1)))))) (rv_move rfl) ?_
     refine st (v := (.func (.func 101) #[] #[])) (rv_move rfl) ?_
     obtain ⟨r7, hx8, h'⟩ := bind_some h
     clear h
     have h := h'; clear h'
     have hc9 := c_slices_medianAdjacentCmpFunc_impl_Hit__impl_compareHits (adata_0 := adata_0) (cdata_0 := cdata_0) (loswaps_2 := n0) (bswaps_2 := b1) (oswaps_2 := 0) (preswaps_2 := []) (sufswaps_2 := []) hx8
     refine st_call (cx_call hc9 (ent_f hc9.fn rfl) hn0 (show Hp S0 σ0 _ ([Ch.ro 0 (Sl adata_0 data_0 cdata_0) data_0, Ch.bx n0 b1 0 [(I 0)] [] []] ++ [Ch.ro 0 (Sl adata_0 data_0 cdata_0) data_0]) from (H.sel' [1, 0, 1] rfl rfl))) (wanted_none _ rfl _) ?_
     rintro _ σ10 ⟨_, ⟨rfl, rfl⟩, H, -⟩
     replace H : Hp S0 σ0 σ10 [Ch.bx n0 b1 0 [(I r7.2)] [] [], Ch.ro 0 (Sl adata_0 data_0 cdata_0) data_0] := H
     refine st (v := (I r7.1)) (rv_assign rfl) ?_
     refine w_end ?_
     refine q_then ?_
     refine c_seq ?_
     refine rg ?_
     refine st (v := (Sl adata_0 data_0 cdata_0)) (rv_move rfl) ?_
     refine st (v := (I (w64 (a_1 + (w64 ((w64 ((w64 (b_2 - a_1)).tdiv 4)) * 2)))))) (rv_move rfl) ?_
     refine st (v := (.func (.func 101) #[] #[])) (rv_move rfl) ?_
     obtain ⟨r11, hx12, h'⟩ := bind_some h
     clear h
     have h := h'; clear h'
     have hc13 := c_slices_medianAdjacentCmpFunc_impl_Hit__impl_compareHits (adata_0 := adata_0) (cdata_0 := cdata_0) (loswaps_2 := n0) (bswaps_2 := b1) (oswaps_2 := 0) (preswaps_2 := []) (sufswaps_2 := []) hx12
     refine st_call (cx_call hc13 (ent_f hc13.fn rfl) hn0 (show Hp S0 σ0 _ ([Ch.ro 0 (Sl adata_0 data_0 cdata_0) data_0, Ch.bx n0 b1 0 [(I r7.2)] [] []] ++ [Ch.ro 0 (Sl adata_0 data_0 cdata_0) data_0]) from (H.sel' [1, 0, 1] rfl rfl))) (wanted_none _ rfl _) ?_
     rintro _ σ14 ⟨_, ⟨rfl, rfl⟩, H, -⟩
     replace H : Hp S0 σ0 σ14 [Ch.bx n0 b1 0 [(I r11.2)] [] [], Ch.ro 0 (Sl adata_0 data_0 cdata_0) data_0] := H
     refine st (v := (I r11.1)) (rv_assign rfl) ?_
     refine w_end ?_
     refine q_then ?_
     refine rg ?_
     refine st (v := (Sl adata_0 data_0 cdata_0)) (rv_move rfl) ?_
     refine st (v := (I (w64 (a_1 + (w64 ((w64 ((w64 (b_2 - a_1)).tdiv 4)) * 3)))))) (rv_move rfl) ?_
     refine st (v := (.func (.func 101) #[] #[])) (rv_move rfl) ?_
     obtain ⟨r15, hx16, h'⟩ := bind_some h
     clear h
     have h := h'; clear h'
     have hc17 := c_slices_medianAdjacentCmpFunc_impl_Hit__impl_compareHits (adata_0 := adata_0) (cdata_0 := cdata_0) (loswaps_2 := n0) (bswaps_2 := b1) (oswaps_2 := 0) (preswaps_2 := []) (sufswaps_2 := []) hx16
     refine st_call (cx_call hc17 (ent_f hc17.fn rfl) hn0 (show Hp S0 σ0 _ ([Ch.ro 0 (Sl adata_0 data_0 cdata_0) data_0, Ch.bx n0 b1 0 [(I r11.2)] [] []] ++ [Ch.ro 0 (Sl adata_0 data_0 cdata_0) data_0]) from (H.sel' [1, 0, 1] rfl rfl))) (wanted_none _ rfl _) ?_
     rintro _ σ18 ⟨_, ⟨rfl, rfl⟩, H, -⟩
     replace H : Hp S0 σ0 σ18 [Ch.bx n0 b1 0 [(I r15.2)] [] [], Ch.ro 0 (Sl adata_0 data_0 cdata_0) data_0] := H
     refine st (v := (I r15.1)) (rv_assign rfl) ?_
     refine w_end ?_
     obtain rfl := Option.some.inj h
     exact ⟨rfl, _, σ18, fr_join ⟨rfl, rfl, rfl, rfl, rfl, rfl, trivial⟩, rfl, H.sel' [0, 1] rfl rfl⟩
    ·replace h := bif_f hb6 h
     refine c_skip ?_
     obtain rfl := Option.some.inj h
     exact ⟨rfl, _, σ2, fr_join ⟨rfl, rfl, rfl, rfl, rfl, rfl, trivial⟩, rfl, H.sel' [0, 1] rfl rfl⟩
   ·clear hj
    have h := h'
    clear h' H
    rintro e a w ⟨rfl, ρ, σ19, rfl, rfl, H⟩
    refine q_then ?_
    refine rg ?_
    refine st (v := (Sl adata_0 data_0 cdata_0)) (rv_move rfl) ?_
    refine st (v := (I o5.2.1)) (rv_move rfl) ?_
    refine st (v := (I o5.2.2.1)) (rv_move rfl) ?_
    refine st (v := (I o5.2.2.2)) (rv_move rfl) ?_
    refine st (v := (.func (.func 101) #[] #[])) (rv_move rfl) ?_
    obtain ⟨r20, hx21, h'⟩ := bind_some h
    clear h
    have h := h'; clear h'
    have hc22 := c_slices_medianCmpFunc_impl_Hit__impl_compareHits (adata_0 := adata_0) (cdata_0 := cdata_0) (loswaps_4 := n0) (bswaps_4 := b1) (oswaps_4 := 0) (preswaps_4 := []) (sufswaps_4 := []) hx21
    refine st_call (cx_call hc22 (ent_f hc22.fn rfl) hn0 (show Hp S0 σ0 _ ([Ch.ro 0 (Sl adata_0 data_0 cdata_0) data_0, Ch.bx n0 b1 0 [(I o5.1)] [] []] ++ [Ch.ro 0 (Sl adata_0 data_0 cdata_0) data_0]) from (H.sel' [1, 0, 1] rfl rfl))) (wanted_none _ rfl _) ?_
    rintro _ σ23 ⟨_, ⟨rfl, rfl⟩, H, -⟩
    replace H : Hp S0 σ0 σ23 [Ch.bx n0 b1 0 [(I r20.2)] [] [], Ch.ro 0 (Sl adata_0 data_0 cdata_0) data_0] := H
    refine st (v := (I r20.1)) (rv_assign rfl) ?_
    refine w_end ?_
    obtain rfl := Option.some.inj h
    exact ⟨rfl, _, σ23, fr_join ⟨rfl, rfl, trivial⟩, rfl, H.sel' [0] rfl rfl⟩
  ·replace h := bif_f hb4 h
   refine c_skip ?_
   obtain rfl := Option.some.inj h
   exact ⟨rfl, _, σ2, fr_join ⟨rfl, rfl, trivial⟩, rfl, H.sel' [0] rfl rfl⟩
 ·clear hj
  have h := h'
  clear h' H
  rintro e a w ⟨rfl, ρ, σ24, rfl, rfl, H⟩
  refine q_then ?_
  refine c_seq ?_
  refine rg ?_
  have hc25 := H.cell (u := (I o3.1)) (o' := 0) 0 0 rfl rfl rfl
  refine st (v := (I o3.1)) (rv_load1 Try.underlying3 rfl rfl hc25) ?_
  refine w_end ?_
  refine q_then ?_
  refine c_blk ?_
  refine c_seq ?_
  refine rg ?_
  refine st (v := (B (o3.1 == 0))) (rv_eql (a := o3.1) (b := 0) rfl rfl) ?_
  refine st (v := (B (o3.1 == 0))) (rv_assign rfl) ?_
  refine w_end ?_
  refine q_then ?_
  refine cd_cond (o3.1 == 0) rfl (fun hb26 => ?_) (fun hb26 => ?_)
  ·replace h := bif_t hb26 h
   refine c_seq ?_
   refine rg ?_
   refine st (v := (I o3.2)) (rv_move rfl) ?_
   refine st (v := (I o3.2)) (rv_assign rfl) ?_
   refine st (v := (I 1)) (rv_assign rfl) ?_
   refine w_end ?_
   refine q_then ?_
   refine c_ret ?_
   refine q_blk_r ?_
   obtain rfl := Option.some.inj h
   exact fin_ret (v := (.tuple #[(I o3.2), (I 1)])) (results_ok Try.results146 (res_tmp (v := (I o3.2)) rfl (res_tmp (v := (I 1)) rfl res_nil)) rfl) ⟨rfl, rfl⟩ (H.sel' [] rfl rfl)
  ·replace h := bif_f hb26 h
   refine c_seq ?_
   refine rg ?_
   refine st (v := (B (o3.1 == 12))) (rv_eql (a := o3.1) (b := 12) rfl rfl) ?_
   refine st (v := (B (o3.1 == 12))) (rv_assign rfl) ?_
   refine w_end ?_
   refine q_then ?_
   refine cd_cond (o3.1 == 12) rfl (fun hb27 => ?_) (fun hb27 => ?_)
   ·replace h := bif_t hb27 h
    refine c_seq ?_
    refine rg ?_
    refine st (v := (I o3.2)) (rv_move rfl) ?_
    refine st (v := (I o3.2)) (rv_assign rfl) ?_
    refine st (v := (I 2)) (rv_assign rfl) ?_
    refine w_end ?_
    refine q_then ?_
    refine c_ret ?_
    refine q_blk_r ?_
    obtain rfl := Option.some.inj h
    exact fin_ret (v := (.tuple #[(I o3.2), (I 2)])) (results_ok Try.results146 (res_tmp (v := (I o3.2)) rfl (res_tmp (v := (I 2)) rfl res_nil)) rfl) ⟨rfl, rfl⟩ (H.sel' [] rfl rfl)
   ·replace h := bif_f hb27 h
    refine c_seq ?_
    refine rg ?_
    refine st (v := (I o3.2)) (rv_move rfl) ?_
    refine st (v := (I o3.2)) (rv_assign rfl) ?_
    refine st (v := (I 0)) (rv_assign rfl) ?_
    refine w_end ?_
    refine q_then ?_
    refine c_ret ?_
    refine q_blk_r ?_
    obtain rfl := Option.some.inj h
    exact fin_ret (v := (.tuple #[(I o3.2), (I 0)])) (results_ok Try.results146 (res_tmp (v := (I o3.2)) rfl (res_tmp (v := (I 0)) rfl res_nil)) rfl) ⟨rfl, rfl⟩ (H.sel' [] rfl rfl)

end Go.Vs
