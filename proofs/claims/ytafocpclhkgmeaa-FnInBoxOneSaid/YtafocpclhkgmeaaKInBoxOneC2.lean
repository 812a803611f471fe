/- The functions compute what their models say. -/
import Derived.Test.YtafocpclhkgmeaaKInBoxOneC1
set_option linter.unusedVariables false
set_option linter.unusedSimpArgs false
set_option maxRecDepth 20000
namespace Go.Vs
open Go Go.Proofs
attribute [local irreducible] Code.wp Code.wpIn wpList wpListIn wpQuiet Calls CallsIn

theorem c_math_bits_Len64 {Af : Int}  {r : Int} (h : M.math_bits_Len64 Af = some r) :
    Cal2 Try.prog 134 [(.int .u64 Af)] [] (fun n0 v L => v = (I r) ∧ L = []) := by
 refine cal2 (n := 25) Try.func134 rfl rfl rfl rfl ?_
 intro S0 σ0 n0 hn0 H
 unfold M.math_bits_Len64 at h
 refine c_seq (rg (sa (I 0) rfl (w_end (q_then (c_seq (c_seq (rg (sm (.int .u64 Af) rfl (st (v := (B (decide (4294967296 ≤ Af)))) (rvk_geq (k := .u64) (a := Af) (b := 4294967296) rfl rfl) (w_end (q_then ?_)))))))))))
 obtain ⟨o1, hj, h'⟩ := bind_some h
 clear h
 refine c_cut (fun e a w => e = .normal ∧ ∃ (ρ : Nat → Value) (σ : St), a = fr 25 (updL ρ [(0, (.int .u64 o1.1)), (2, (I o1.2))]) ∧ w = σ.w ∧ Hp S0 σ0 σ []) ?_ ?_
 ·clear h'
  rename _ = some o1 => h
  refine cd_cond (decide (4294967296 ≤ Af)) rfl (fun hb2 => ?_) (fun hb2 => ?_)
  ·replace h := bif_t hb2 h
   refine c_seq (rg (sm (.int .u64 Af) rfl ?_))
   refine st (v := (.int .u64 (gshr .u64 Af 32))) (rvk_shr (k := .u64) (k' := .u64) (a := Af) (b := 32) rfl rfl (by decide)) ?_
   refine sa (.int .u64 (gshr .u64 Af 32)) rfl (w_end (q_then (rg (sa (I 32) rfl (w_end ?_)))))
   obtain rfl := sj h
   exact ⟨rfl, _, σ0, fr_join ⟨rfl, rfl, trivial⟩, rfl, H.sel' [] rfl rfl⟩
  ·replace h := bif_f hb2 h
   refine c_skip ?_
   obtain rfl := sj h
   exact ⟨rfl, _, σ0, fr_join ⟨rfl, rfl, trivial⟩, rfl, H.sel' [] rfl rfl⟩
 ·clear hj
  have h := h'
  clear h' H
  rintro e a w ⟨rfl, ρ, σ3, rfl, rfl, H⟩
  refine q_then (c_seq (c_seq (rg (sm (.int .u64 o1.1) rfl (st (v := (B (decide (65536 ≤ o1.1)))) (rvk_geq (k := .u64) (a := o1.1) (b := 65536) rfl rfl) (w_end (q_then ?_)))))))
  obtain ⟨o4, hj, h'⟩ := bind_some h
  clear h
  refine c_cut (fun e a w => e = .normal ∧ ∃ (ρ : Nat → Value) (σ : St), a = fr 25 (updL ρ [(0, (.int .u64 o4.1)), (2, (I o4.2))]) ∧ w = σ.w ∧ Hp S0 σ0 σ []) ?_ ?_
  ·clear h'
   rename _ = some o4 => h
   refine cd_cond (decide (65536 ≤ o1.1)) rfl (fun hb5 => ?_) (fun hb5 => ?_)
   ·replace h := bif_t hb5 h
    refine c_seq (rg (sm (.int .u64 o1.1) rfl ?_))
    refine st (v := (.int .u64 (gshr .u64 o1.1 16))) (rvk_shr (k := .u64) (k' := .u64) (a := o1.1) (b := 16) rfl rfl (by decide)) ?_
    refine sa (.int .u64 (gshr .u64 o1.1 16)) rfl (w_end (q_then (rg (sm (I o1.2) rfl (st (v := (I (w64 (o1.2 + 16)))) (rv_add (a := o1.2) (b := 16) rfl rfl) (sa (I (w64 (o1.2 + 16))) rfl (w_end ?_)))))))
    obtain rfl := sj h
    exact ⟨rfl, _, σ3, fr_join ⟨rfl, rfl, trivial⟩, rfl, H.sel' [] rfl rfl⟩
   ·replace h := bif_f hb5 h
    refine c_skip ?_
    obtain rfl := sj h
    exact ⟨rfl, _, σ3, fr_join ⟨rfl, rfl, trivial⟩, rfl, H.sel' [] rfl rfl⟩
  ·clear hj
   have h := h'
   clear h' H
   rintro e a w ⟨rfl, ρ, σ6, rfl, rfl, H⟩
   refine q_then (c_seq (c_seq (rg (sm (.int .u64 o4.1) rfl (st (v := (B (decide (256 ≤ o4.1)))) (rvk_geq (k := .u64) (a := o4.1) (b := 256) rfl rfl) (w_end (q_then ?_)))))))
   obtain ⟨o7, hj, h'⟩ := bind_some h
   clear h
   refine c_cut (fun e a w => e = .normal ∧ ∃ (ρ : Nat → Value) (σ : St), a = fr 25 (updL ρ [(0, (.int .u64 o7.1)), (2, (I o7.2))]) ∧ w = σ.w ∧ Hp S0 σ0 σ []) ?_ ?_
   ·clear h'
    rename _ = some o7 => h
    refine cd_cond (decide (256 ≤ o4.1)) rfl (fun hb8 => ?_) (fun hb8 => ?_)
    ·replace h := bif_t hb8 h
     refine c_seq (rg (sm (.int .u64 o4.1) rfl ?_))
     refine st (v := (.int .u64 (gshr .u64 o4.1 8))) (rvk_shr (k := .u64) (k' := .u64) (a := o4.1) (b := 8) rfl rfl (by decide)) ?_
     refine sa (.int .u64 (gshr .u64 o4.1 8)) rfl (w_end (q_then (rg (sm (I o4.2) rfl (st (v := (I (w64 (o4.2 + 8)))) (rv_add (a := o4.2) (b := 8) rfl rfl) (sa (I (w64 (o4.2 + 8))) rfl (w_end ?_)))))))
     obtain rfl := sj h
     exact ⟨rfl, _, σ6, fr_join ⟨rfl, rfl, trivial⟩, rfl, H.sel' [] rfl rfl⟩
    ·replace h := bif_f hb8 h
     refine c_skip ?_
     obtain rfl := sj h
     exact ⟨rfl, _, σ6, fr_join ⟨rfl, rfl, trivial⟩, rfl, H.sel' [] rfl rfl⟩
   ·clear hj
    have h := h'
    clear h' H
    rintro e a w ⟨rfl, ρ, σ9, rfl, rfl, H⟩
    refine q_then (c_seq (rg (sm (I o7.2) rfl (sm (.int .u64 o7.1) rfl (st (v := (.int .u8 (wk .u8 o7.1))) (rvk_conv (k := .u64) (k' := .u8) (a := o7.1) Try.underlying148 Try.underlying5 rfl) ?_)))))
    revert h; refine br fun x10 hx11 h => ?_
    refine st (v := (.int .u8 x10)) (rv_sidx (bs := [0, 1, 2, 2, 3, 3, 3, 3, 4, 4, 4, 4, 4, 4, 4, 4, 5, 5, 5, 5, 5, 5, 5, 5, 5, 5, 5, 5, 5, 5, 5, 5, 6, 6, 6, 6, 6, 6, 6, 6, 6, 6, 6, 6, 6, 6, 6, 6, 6, 6, 6, 6, 6, 6, 6, 6, 6, 6, 6, 6, 6, 6, 6, 6, 7, 7, 7, 7, 7, 7, 7, 7, 7, 7, 7, 7, 7, 7, 7, 7, 7, 7, 7, 7, 7, 7, 7, 7, 7, 7, 7, 7, 7, 7, 7, 7, 7, 7, 7, 7, 7, 7, 7, 7, 7, 7, 7, 7, 7, 7, 7, 7, 7, 7, 7, 7, 7, 7, 7, 7, 7, 7, 7, 7, 7, 7, 7, 7, 8, 8, 8, 8, 8, 8, 8, 8, 8, 8, 8, 8, 8, 8, 8, 8, 8, 8, 8, 8, 8, 8, 8, 8, 8, 8, 8, 8, 8, 8, 8, 8, 8, 8, 8, 8, 8, 8, 8, 8, 8, 8, 8, 8, 8, 8, 8, 8, 8, 8, 8, 8, 8, 8, 8, 8, 8, 8, 8, 8, 8, 8, 8, 8, 8, 8, 8, 8, 8, 8, 8, 8, 8, 8, 8, 8, 8, 8, 8, 8, 8, 8, 8, 8, 8, 8, 8, 8, 8, 8, 8, 8, 8, 8, 8, 8, 8, 8, 8, 8, 8, 8, 8, 8, 8, 8, 8, 8, 8, 8, 8, 8, 8, 8, 8, 8, 8, 8, 8, 8, 8, 8, 8, 8, 8, 8, 8, 8]) Try.underlying9 rfl rfl hx11) (st (v := (I (wk .i64 x10))) (rvk_conv (k := .u8) (k' := .i64) (a := x10) Try.underlying5 Try.underlying3 rfl) (st (v := (I (w64 (o7.2 + (wk .i64 x10))))) (rv_add (a := o7.2) (b := (wk .i64 x10)) rfl rfl) (sa (I (w64 (o7.2 + (wk .i64 x10)))) rfl (w_end (q_then (c_ret ?_))))))
    obtain rfl := sj h
    exact fin_ret (v := (I (w64 (o7.2 + (wk .i64 x10))))) (results_ok Try.results134 (res_tmp (v := (I (w64 (o7.2 + (wk .i64 x10))))) rfl res_nil) rfl) ⟨rfl, rfl⟩ (H.sel' [] rfl rfl)

theorem c_math_bits_Len {Af : Int}  {r : Int} (h : M.math_bits_Len Af = some r) :
    Cal2 Try.prog 124 [(.int .u64 Af)] [] (fun n0 v L => v = (I r) ∧ L = []) := by
 refine cal2 (n := 8) Try.func124 rfl rfl rfl rfl ?_
 intro S0 σ0 n0 hn0 H
 unfold M.math_bits_Len at h
 refine c_seq (rg (sa (I 0) rfl (w_end (q_then (c_seq (cd_false rfl ?_))))))
 refine c_skip (q_then (c_seq (rg (sm (.int .u64 Af) rfl ?_))))
 revert h; refine br fun r1 hx2 h => ?_
 have hc3 := c_math_bits_Len64 hx2
 refine st_call (cx_call hc3 (ent_f hc3.fn rfl) hn0 (H.sel' [] rfl rfl : Hp S0 σ0 _ ([] ++ _))) wn ?_
 rintro _ σ4 ⟨_, ⟨rfl, rfl⟩, H, -⟩
 replace H : Hp _ _ _ [] := H
 refine sa (I r1) rfl (w_end (q_then (c_ret ?_)))
 obtain rfl := sj h
 exact fin_ret (v := (I r1)) (results_ok Try.results124 (res_tmp (v := (I r1)) rfl res_nil) rfl) ⟨rfl, rfl⟩ (H.sel' [] rfl rfl)

theorem c_slices_nextPowerOfTwo {Cj : Int}  {r : Int} (h : M.slices_nextPowerOfTwo Cj = some r) :
    Cal2 Try.prog 136 [(I Cj)] [] (fun n0 v L => v = (.int .u64 r) ∧ L = []) := by
 refine cal2 (n := 7) Try.func136 rfl rfl rfl rfl ?_
 intro S0 σ0 n0 hn0 H
 unfold M.slices_nextPowerOfTwo at h
 refine c_seq (rg (sa (.int .u64 0) rfl (w_end (q_then (c_seq (rg (sm (I Cj) rfl (st (v := (.int .u64 (wk .u64 Cj))) (rvk_conv (k := .i64) (k' := .u64) (a := Cj) Try.underlying3 Try.underlying120 rfl) ?_))))))))
 revert h; refine br fun r1 hx2 h => ?_
 have hc3 := c_math_bits_Len hx2
 refine st_call (cx_call hc3 (ent_f hc3.fn rfl) hn0 (H.sel' [] rfl rfl : Hp S0 σ0 _ ([] ++ _))) wn ?_
 rintro _ σ4 ⟨_, ⟨rfl, rfl⟩, H, -⟩
 replace H : Hp _ _ _ [] := H
 revert h; refine br fun q5 hx6 h => ?_
 refine st (v := (.int .u64 q5)) (rvk_shlG (k := .u64) (k' := .i64) (a := 1) (b := r1) hx6 rfl rfl) (sa (.int .u64 q5) rfl (w_end (q_then (c_ret ?_))))
 obtain rfl := sj h
 exact fin_ret (v := (.int .u64 q5)) (results_ok Try.results136 (res_tmp (v := (.int .u64 q5)) rfl res_nil) rfl) ⟨rfl, rfl⟩ (H.sel' [] rfl rfl)

theorem c_slices_xorshift_Next {Ck : Int} {Cl Cm Cn : Nat} {Cp Cq : List Value} {r : Int × Int} (h : M.slices_xorshift_Next Ck = some r) :
    Cal2 Try.prog 137 [(pt Cm Cn)] [Ch.bx Cl Cm Cn [(.int .u64 Ck)] Cp Cq] (fun n0 v L => v = (.int .u64 r.1) ∧ L = [Ch.bx Cl Cm Cn [(.int .u64 r.2)] Cp Cq]) := by
 refine cal2 (n := 33) Try.func137 rfl rfl rfl rfl ?_
 intro S0 σ0 n0 hn0 H
 unfold M.slices_xorshift_Next at h
 refine c_seq (rg (sa (.int .u64 0) rfl (w_end (q_then (c_seq ?_)))))
 refine rgP (σ := σ0) 7 (by kernel_rfl) (by kernel_rfl) (by kernel_rfl) ?_
 refine sq (v := (pt Cm Cn)) (rv_move rfl) (sq (v := (pt Cm Cn)) (rv_nilCheck rfl) ?_)
 have hc1 := H.cell (u := (.int .u64 Ck)) (o' := Cn) 0 0 rfl rfl rfl
 refine sq (v := (.int .u64 Ck)) (rv_load1 Try.underlying149 rfl rfl hc1) (sq (v := (pt Cm Cn)) (rv_move rfl) (sq (v := (pt Cm Cn)) (rv_nilCheck rfl) ?_))
 have hc2 := H.cell (u := (.int .u64 Ck)) (o' := Cn) 0 0 rfl rfl rfl
 refine sq (v := (.int .u64 Ck)) (rv_load1 Try.underlying149 rfl rfl hc2) ?_
 refine sq (v := (.int .u64 (gshl .u64 Ck 13))) (rvk_shl (k := .u64) (k' := .u64) (a := Ck) (b := 13) rfl rfl (by decide)) ?_
 refine sq_end ?_
 intro σ3 hm4
 replace H := H.grow (hm4.mono fun _ h => h); clear hm4
 refine st (v := (.int .u64 (gxork .u64 Ck (gshl .u64 Ck 13)))) (rvk_xor (k := .u64) (a := Ck) (b := (gshl .u64 Ck 13)) rfl rfl) (st (v := (pt Cm Cn)) (rv_nilCheck rfl) ?_)
 refine st_exS (ex_store_box (k := 0) (cs := [(.int .u64 Ck)]) (vs := [(.int .u64 (gxork .u64 Ck (gshl .u64 Ck 13)))]) (cs' := [(.int .u64 (gxork .u64 Ck (gshl .u64 Ck 13)))]) H (i := 0) rfl ti149 rfl rfl rfl rfl rfl (Nat.le_of_ble_eq_true rfl) (by simp [plain]) rfl) wn ?_
 rintro σ5 ⟨H, -⟩
 refine w_end (q_then (c_seq ?_))
 refine rgP (σ := σ5) 7 (by kernel_rfl) (by kernel_rfl) (by kernel_rfl) ?_
 refine sq (v := (pt Cm Cn)) (rv_move rfl) (sq (v := (pt Cm Cn)) (rv_nilCheck rfl) ?_)
 have hc6 := H.cell (u := (.int .u64 (gxork .u64 Ck (gshl .u64 Ck 13)))) (o' := Cn) 0 0 rfl rfl rfl
 refine sq (v := (.int .u64 (gxork .u64 Ck (gshl .u64 Ck 13)))) (rv_load1 Try.underlying149 rfl rfl hc6) (sq (v := (pt Cm Cn)) (rv_move rfl) (sq (v := (pt Cm Cn)) (rv_nilCheck rfl) ?_))
 have hc7 := H.cell (u := (.int .u64 (gxork .u64 Ck (gshl .u64 Ck 13)))) (o' := Cn) 0 0 rfl rfl rfl
 refine sq (v := (.int .u64 (gxork .u64 Ck (gshl .u64 Ck 13)))) (rv_load1 Try.underlying149 rfl rfl hc7) ?_
 refine sq (v := (.int .u64 (gshr .u64 (gxork .u64 Ck (gshl .u64 Ck 13)) 7))) (rvk_shr (k := .u64) (k' := .u64) (a := (gxork .u64 Ck (gshl .u64 Ck 13))) (b := 7) rfl rfl (by decide)) ?_
 refine sq_end ?_
 intro σ8 hm9
 replace H := H.grow (hm9.mono fun _ h => h); clear hm9
 refine st (v := (.int .u64 (gxork .u64 (gxork .u64 Ck (gshl .u64 Ck 13)) (gshr .u64 (gxork .u64 Ck (gshl .u64 Ck 13)) 7)))) (rvk_xor (k := .u64) (a := (gxork .u64 Ck (gshl .u64 Ck 13))) (b := (gshr .u64 (gxork .u64 Ck (gshl .u64 Ck 13)) 7)) rfl rfl) (st (v := (pt Cm Cn)) (rv_nilCheck rfl) ?_)
 refine st_exS (ex_store_box (k := 0) (cs := [(.int .u64 (gxork .u64 Ck (gshl .u64 Ck 13)))]) (vs := [(.int .u64 (gxork .u64 (gxork .u64 Ck (gshl .u64 Ck 13)) (gshr .u64 (gxork .u64 Ck (gshl .u64 Ck 13)) 7)))]) (cs' := [(.int .u64 (gxork .u64 (gxork .u64 Ck (gshl .u64 Ck 13)) (gshr .u64 (gxork .u64 Ck (gshl .u64 Ck 13)) 7)))]) H (i := 0) rfl ti149 rfl rfl rfl rfl rfl (Nat.le_of_ble_eq_true rfl) (by simp [plain]) rfl) wn ?_
 rintro σ10 ⟨H, -⟩
 refine w_end (q_then (c_seq ?_))
 refine rgP (σ := σ10) 7 (by kernel_rfl) (by kernel_rfl) (by kernel_rfl) ?_
 refine sq (v := (pt Cm Cn)) (rv_move rfl) (sq (v := (pt Cm Cn)) (rv_nilCheck rfl) ?_)
 have hc11 := H.cell (u := (.int .u64 (gxork .u64 (gxork .u64 Ck (gshl .u64 Ck 13)) (gshr .u64 (gxork .u64 Ck (gshl .u64 Ck 13)) 7)))) (o' := Cn) 0 0 rfl rfl rfl
 refine sq (v := (.int .u64 (gxork .u64 (gxork .u64 Ck (gshl .u64 Ck 13)) (gshr .u64 (gxork .u64 Ck (gshl .u64 Ck 13)) 7)))) (rv_load1 Try.underlying149 rfl rfl hc11) (sq (v := (pt Cm Cn)) (rv_move rfl) (sq (v := (pt Cm Cn)) (rv_nilCheck rfl) ?_))
 have hc12 := H.cell (u := (.int .u64 (gxork .u64 (gxork .u64 Ck (gshl .u64 Ck 13)) (gshr .u64 (gxork .u64 Ck (gshl .u64 Ck 13)) 7)))) (o' := Cn) 0 0 rfl rfl rfl
 refine sq (v := (.int .u64 (gxork .u64 (gxork .u64 Ck (gshl .u64 Ck 13)) (gshr .u64 (gxork .u64 Ck (gshl .u64 Ck 13)) 7)))) (rv_load1 Try.underlying149 rfl rfl hc12) ?_
 refine sq (v := (.int .u64 (gshl .u64 (gxork .u64 (gxork .u64 Ck (gshl .u64 Ck 13)) (gshr .u64 (gxork .u64 Ck (gshl .u64 Ck 13)) 7)) 17))) (rvk_shl (k := .u64) (k' := .u64) (a := (gxork .u64 (gxork .u64 Ck (gshl .u64 Ck 13)) (gshr .u64 (gxork .u64 Ck (gshl .u64 Ck 13)) 7))) (b := 17) rfl rfl (by decide)) ?_
 refine sq_end ?_
 intro σ13 hm14
 replace H := H.grow (hm14.mono fun _ h => h); clear hm14
 refine st (v := (.int .u64 (gxork .u64 (gxork .u64 (gxork .u64 Ck (gshl .u64 Ck 13)) (gshr .u64 (gxork .u64 Ck (gshl .u64 Ck 13)) 7)) (gshl .u64 (gxork .u64 (gxork .u64 Ck (gshl .u64 Ck 13)) (gshr .u64 (gxork .u64 Ck (gshl .u64 Ck 13)) 7)) 17)))) (rvk_xor (k := .u64) (a := (gxork .u64 (gxork .u64 Ck (gshl .u64 Ck 13)) (gshr .u64 (gxork .u64 Ck (gshl .u64 Ck 13)) 7))) (b := (gshl .u64 (gxork .u64 (gxork .u64 Ck (gshl .u64 Ck 13)) (gshr .u64 (gxork .u64 Ck (gshl .u64 Ck 13)) 7)) 17)) rfl rfl) (st (v := (pt Cm Cn)) (rv_nilCheck rfl) ?_)
 refine st_exS (ex_store_box (k := 0) (cs := [(.int .u64 (gxork .u64 (gxork .u64 Ck (gshl .u64 Ck 13)) (gshr .u64 (gxork .u64 Ck (gshl .u64 Ck 13)) 7)))]) (vs := [(.int .u64 (gxork .u64 (gxork .u64 (gxork .u64 Ck (gshl .u64 Ck 13)) (gshr .u64 (gxork .u64 Ck (gshl .u64 Ck 13)) 7)) (gshl .u64 (gxork .u64 (gxork .u64 Ck (gshl .u64 Ck 13)) (gshr .u64 (gxork .u64 Ck (gshl .u64 Ck 13)) 7)) 17)))]) (cs' := [(.int .u64 (gxork .u64 (gxork .u64 (gxork .u64 Ck (gshl .u64 Ck 13)) (gshr .u64 (gxork .u64 Ck (gshl .u64 Ck 13)) 7)) (gshl .u64 (gxork .u64 (gxork .u64 Ck (gshl .u64 Ck 13)) (gshr .u64 (gxork .u64 Ck (gshl .u64 Ck 13)) 7)) 17)))]) H (i := 0) rfl ti149 rfl rfl rfl rfl rfl (Nat.le_of_ble_eq_true rfl) (by simp [plain]) rfl) wn ?_
 rintro σ15 ⟨H, -⟩
 refine w_end (q_then (c_seq (rg (sm (pt Cm Cn) rfl (st (v := (pt Cm Cn)) (rv_nilCheck rfl) ?_)))))
 have hc16 := H.cell (u := (.int .u64 (gxork .u64 (gxork .u64 (gxork .u64 Ck (gshl .u64 Ck 13)) (gshr .u64 (gxork .u64 Ck (gshl .u64 Ck 13)) 7)) (gshl .u64 (gxork .u64 (gxork .u64 Ck (gshl .u64 Ck 13)) (gshr .u64 (gxork .u64 Ck (gshl .u64 Ck 13)) 7)) 17)))) (o' := Cn) 0 0 rfl rfl rfl
 refine st (v := (.int .u64 (gxork .u64 (gxork .u64 (gxork .u64 Ck (gshl .u64 Ck 13)) (gshr .u64 (gxork .u64 Ck (gshl .u64 Ck 13)) 7)) (gshl .u64 (gxork .u64 (gxork .u64 Ck (gshl .u64 Ck 13)) (gshr .u64 (gxork .u64 Ck (gshl .u64 Ck 13)) 7)) 17)))) (rv_load1 Try.underlying149 rfl rfl hc16) (sa (.int .u64 (gxork .u64 (gxork .u64 (gxork .u64 Ck (gshl .u64 Ck 13)) (gshr .u64 (gxork .u64 Ck (gshl .u64 Ck 13)) 7)) (gshl .u64 (gxork .u64 (gxork .u64 Ck (gshl .u64 Ck 13)) (gshr .u64 (gxork .u64 Ck (gshl .u64 Ck 13)) 7)) 17))) rfl (w_end (q_then (c_ret ?_))))
 obtain rfl := sj h
 exact fin_ret (v := (.int .u64 (gxork .u64 (gxork .u64 (gxork .u64 Ck (gshl .u64 Ck 13)) (gshr .u64 (gxork .u64 Ck (gshl .u64 Ck 13)) 7)) (gshl .u64 (gxork .u64 (gxork .u64 Ck (gshl .u64 Ck 13)) (gshr .u64 (gxork .u64 Ck (gshl .u64 Ck 13)) 7)) 17)))) (results_ok Try.results137 (res_tmp (v := (.int .u64 (gxork .u64 (gxork .u64 (gxork .u64 Ck (gshl .u64 Ck 13)) (gshr .u64 (gxork .u64 Ck (gshl .u64 Ck 13)) 7)) (gshl .u64 (gxork .u64 (gxork .u64 Ck (gshl .u64 Ck 13)) (gshr .u64 (gxork .u64 Ck (gshl .u64 Ck 13)) 7)) 17)))) rfl res_nil) rfl) ⟨rfl, rfl⟩ (H.sel' [0] rfl rfl)

theorem c_slices_Values_impl_hitHeap_impl_Hit {Cr : List (Int × Int)} {Cs : Option Addr} {Ct : Nat} {r : Unit} (h : M.slices_Values_impl_hitHeap_impl_Hit Cr = some r) :
    Cal2 Try.prog 108 [(Sl Cs Cr Ct)] [Ch.ro 0 (Sl Cs Cr Ct) Cr] (fun n0 v L => ∃ (bz1 : Nat), v = (.func (.func 118) #[] #[(pt bz1 0)]) ∧ L = [Ch.bx n0 bz1 0 [(Sl Cs Cr Ct)] [] []]) := by
 refine cal2 (n := 4) Try.func108 rfl rfl rfl rfl ?_
 intro S0 σ0 n0 hn0 H
 unfold M.slices_Values_impl_hitHeap_impl_Hit at h
 refine c_seq (rg (st_ex (ex_box (cs := [(Sl Cs Cr Ct)]) H hn0 rfl rfl) wn ?_))
 rintro _ σ2 ⟨b1, rfl, H, -⟩
 refine sa (.nilFunc) rfl (w_end (q_then (c_seq (rg (st (v := (.func (.func 118) #[] #[(pt b1 0)])) (rv_makeFunc (vs := [(pt b1 0)]) rfl) (sa (.func (.func 118) #[] #[(pt b1 0)]) rfl (w_end (q_then (c_ret ?_)))))))))
 obtain rfl := sj h
 exact fin_ret (v := (.func (.func 118) #[] #[(pt b1 0)])) (results_ok Try.results108 (res_tmp (v := (.func (.func 118) #[] #[(pt b1 0)])) rfl res_nil) rfl) ⟨b1, rfl, rfl⟩ (H.sel' [0] rfl rfl)

theorem it_slices_AppendSeq_impl_Hit_impl_Hit__slices_Values_impl_hitHeap_impl_Hit_1 {b o c l : Nat} {a : Option Addr} {xs : List (Int × Int)} {J : Nat → St → Prop} (hst : ∀ {i σ σ'}, J i σ → Md (fun _ => False) σ σ' → J i σ')
    (hbx : ∀ {i σ}, J i σ → HCell σ.w.heap b o = some (Sl a xs c) ∧ Rd 0 σ (Sl a xs c) xs) (hn : xs.length ≤ 2147483648)
    (hy : ∀ i, (h : i < xs.length) → ∀ σ, J i σ → YieldAt Fence.wide 0 Try.prog l [(.agg #[(I (xs[i]).1), (I (xs[i]).2)])].toArray σ.w fun e W' => e = .returned (.bool true) ∧ ∃ σ', W' = σ'.w ∧ J (i + 1) σ')
    (σ : St) (h0 : J 0 σ) : CallsIn Fence.wide 0 Try.prog 118 [.func (.yield l) #[] #[], (pt b o)].toArray σ.w fun e W' => (∃ v, e = .returned v) ∧ ∃ σ', W' = σ'.w ∧ J xs.length σ' := by
  refine enterI (n := 16) Try.func118 rfl rfl rfl ?_
  refine wpIn_seq ?_
  obtain ⟨hc, -⟩ := hbx h0
  refine rgI ?_
  refine stI nofun (v := (Sl a xs c)) (rv_load1 Try.underlying97 rfl rfl hc) ?_
  refine stI nofun (v := (I (xs.length : Int))) (rv_len Try.underlying97 rfl) ?_
  refine stI nofun (v := (I 0)) (rv_move rfl) ?_
  refine endI ?_
  refine q_then (wpIn_block ?_)
  refine wpIn_loop_ghost (fun k a' w' => ∃ i ρ σ, i + k = xs.length ∧ a' = fr 16 (updL ρ [(0, .func (.yield l) #[] #[]), (1, pt b o), (5, Sl a xs c), (6, I (xs.length : Int)), (7, I (i : Int))]) ∧ w' = σ.w ∧ J i σ) xs.length ⟨0, _, σ, by omega, fr_join ⟨rfl, rfl, rfl, rfl, rfl, trivial⟩, rfl, h0⟩ ?_
  clear hc h0
  rintro k _ _ ⟨i, ρ, σ, hik, rfl, rfl, hJ⟩
  refine wpIn_seq ?_
  refine rgI ?_
  refine stI nofun (v := (B (decide ((i : Int) < (xs.length : Int))))) (rv_lss (a := (i : Int)) (b := (xs.length : Int)) rfl rfl) ?_
  refine endI ?_
  refine q_then (wpIn_seq ?_)
  refine cdI_cond (decide ((i : Int) < (xs.length : Int))) rfl (fun hb => ?_) (fun hb => ?_)
  · have hlt : i < xs.length := by have := of_decide_eq_true hb; omega
    refine wpIn_skip ?_
    refine q_then (wpIn_seq ?_)
    refine wpIn_block ?_
    refine wpIn_seq ?_
    refine rgI ?_
    have hg : gidx xs (i : Int) = some xs[i] := gidx_at hlt
    obtain ⟨-, hR⟩ := hbx hJ
    obtain ⟨bx, ox, hi, hat⟩ := hR.ix hg
    obtain ⟨_, ⟨_, _, rfl, rfl, rfl⟩, hl, hcx⟩ := hat.cells
    refine stI nofun (v := (pt bx ox)) (rv_ix Try.underlying97 ti35 rfl rfl hi) ?_
    refine stI nofun (v := (.agg #[(I (xs[i]).1), (I (xs[i]).2)])) (rv_load (cs := [(I (xs[i]).1), (I (xs[i]).2)]) Try.underlying35 rfl ti35 rfl hl hcx) ?_
    have H : Hp (cov []) σ σ [] := Hp.begin trivial trivial
    refine stI_ex nofun (ex_alloc (lo := 0) H (Nat.zero_le _) ti35 rfl) ?_
    rintro _ σ2 ⟨b4, rfl, H, -⟩
    refine stI_exS nofun (ex_store_box (vs := [(I (xs[i]).1), (I (xs[i]).2)]) (k := 0) H (i := 0) rfl ti35 rfl rfl rfl rfl rfl (Nat.le_of_ble_eq_true rfl) (by simp [plain]) rfl) ?_
    rintro σ3 ⟨H, -⟩
    refine endI ?_
    refine q_then (wpIn_seq ?_)
    refine rgI ?_
    refine stI nofun (v := (.func (.yield l) #[] #[])) (rv_move rfl) ?_
    have hc4 := H.cells 0 rfl
    refine stI nofun (v := (.agg #[(I (xs[i]).1), (I (xs[i]).2)])) (rv_load (cs := [(I (xs[i]).1), (I (xs[i]).2)]) Try.underlying35 rfl ti35 rfl rfl hc4) ?_
    refine stI_yield (args := [(.agg #[(I (xs[i]).1), (I (xs[i]).2)])]) rfl rfl (hy i hlt σ3 (hst hJ H.md)) ?_
    rintro e w' ⟨rfl, σ4, rfl, hJ4⟩
    refine ⟨_, rfl, ?_⟩
    refine stI nofun (v := (B (!true))) (rv_not rfl) ?_
    refine endI ?_
    refine q_then ?_
    refine cdI_cond false rfl (fun hb => by cases hb) (fun _ => ?_)
    refine wpIn_skip ?_
    refine q_blk (q_then (rgI ?_))
    refine stI nofun (v := (I (w64 ((i : Int) + 1)))) (rv_add (a := (i : Int)) (b := 1) rfl rfl) ?_
    refine stI nofun (v := (I (w64 ((i : Int) + 1)))) (rv_move rfl) ?_
    refine endI ?_
    have e1 : w64 ((i : Int) + 1) = ((i + 1 : Nat) : Int) := w64_id (by omega) (by omega)
    rw [e1]
    refine q_then ?_
    exact ⟨k - 1, by omega, i + 1, _, σ4, by omega, fr_join ⟨rfl, rfl, rfl, rfl, rfl, trivial⟩, rfl, hJ4⟩
  · have hlt : ¬ i < xs.length := by have := of_decide_eq_false hb; omega
    have : i = xs.length := by omega
    subst this
    refine wpIn_exit ?_
    refine q_then_x (q_then_x (q_blk_hit ?_))
    exact fin_plain' (v := .tuple #[]) (results_ok Try.results118 res_nil rfl) ⟨⟨_, rfl⟩, σ, rfl, hJ⟩
theorem c_slices_AppendSeq_impl_Hit_impl_Hit__slices_Values_impl_hitHeap_impl_Hit_1 {Cu : List (Int × Int)} {Cv : Option Addr} {Cw : Nat} {Cy Cz Da : Nat} {Db Dc : List Value} {r : List (Int × Int)} (h : M.slices_AppendSeq_impl_Hit_impl_Hit__slices_Values_impl_hitHeap_impl_Hit_1 Cu = some r) :
    Cal2 Try.prog 122 [.slice none 0 0, (.func (.func 118) #[] #[(pt Cz Da)])] [Ch.bx Cy Cz Da [(Sl Cv Cu Cw)] Db Dc, Ch.ro 0 (Sl Cv Cu Cw) Cu] (fun n0 v L => ∃ (az1 : Option Addr), ∃ (cz2 : Nat), v = (Sl az1 r cz2) ∧ L = [Ch.own n0 n0 (Sl az1 r cz2) r, Ch.bx Cy Cz Da [(Sl Cv Cu Cw)] Db Dc]) := by
  obtain ⟨hn, rfl⟩ := coll_some (show M.coll Cu = some r from h)
  refine ⟨⟨_, _, Try.func122, rfl, rfl⟩, fun σ0 n0 hn0 H => ?_⟩
  refine callsIn_wide.1 (enterI (n := 13) Try.func122 rfl rfl rfl ?_)
  refine wpIn_seq ?_
  refine rgI ?_
  refine stI_ex nofun (ex_box (cs := [.slice none 0 0]) H hn0 rfl rfl) ?_
  rintro _ σ1 ⟨b1, rfl, H, -⟩
  refine stI nofun (v := (.slice none 0 0)) (rv_assign rfl) ?_
  refine endI ?_
  refine q_then (wpIn_seq ?_)
  refine wpIn_seq ?_
  refine rgI ?_
  refine stI nofun (v := (.func (.func 118) #[] #[(pt Cz Da)])) (rv_move rfl) ?_
  refine endI ?_
  refine q_then (wpIn_block ?_)
  replace H := H.nilOwn (Int × Int) n0 n0
  refine wp_rangeF (gf := 118) (lb := #[(pt Cz Da)]) (N := r.length) (encs := fun i => [(.agg #[(I (r.getD i (0, 0)).1), (I (r.getD i (0, 0)).2)])].toArray) (by rw [fr_eval]; rfl) (eg_of ⟨_, _, Try.func118, rfl, rfl⟩) (fun _ _ => rfl)
    (fun i L => ∃ a' c', L = [Ch.own n0 n0 (Sl a' (r.take i) c') (r.take i), Ch.bx n0 b1 0 [(Sl a' (r.take i) c')] [] [], Ch.bx Cy Cz Da [(Sl Cv r Cw)] Db Dc, Ch.ro 0 (Sl Cv r Cw) r]) ⟨none, 0, rfl⟩ H ?_ ?_ ?_
  · intro l J hst hJ hy σ h0
    refine it_slices_AppendSeq_impl_Hit_impl_Hit__slices_Values_impl_hitHeap_impl_Hit_1 (J := J) (a := Cv) (c := Cw) hst (fun {i σ} h => ?_) hn (fun i hi σ h => ?_) σ h0
    · obtain ⟨L, R, ⟨a', c', rfl⟩, H⟩ := hJ h
      have H2 := H.drop R
      exact ⟨H2.cells 2 rfl 0 (by simp), (H2.ro 3 rfl).rd⟩
    · have := hy i hi σ h
      simpa [List.getD, hi] using this
  · rintro l D i rc rc' hi σ _ ⟨a', c', rfl⟩ H
    have hgd : r.getD i (0, 0) = r[i] := by simp [List.getD, hi]
    simp only [hgd]
    rw [round_fr]
    refine rgI ?_
    refine stI_ex nofun (ex_alloc (lo := n0) H hn0 ti35 rfl) ?_
    rintro _ σ2 ⟨b5, rfl, H, -⟩
    refine stI_exS nofun (ex_store_box (vs := [(I (r[i]).1), (I (r[i]).2)]) (cs' := [(I (r[i]).1), (I (r[i]).2)]) (k := 0) H (i := 0) rfl ti35 rfl rfl rfl rfl rfl (Nat.le_of_ble_eq_true rfl) (by simp [plain]) rfl) ?_
    rintro σ3 ⟨H, -⟩
    refine endI ?_
    refine q_then ?_
    refine ⟨σ3, _, rfl, H.sel' [1, 2, 0, 3, 4, 5, 6] rfl rfl, ?_⟩
    clear H
    intro σ4 H
    refine wpIn_block ?_
    refine rgI ?_
    have hc1 := H.cells 4 rfl
    refine stI nofun (v := (Sl a' (r.take i) c')) (rv_load1 Try.underlying27 rfl rfl (hc1 0 (by simp))) ?_
    have hc5 := H.cells 2 rfl
    refine stI nofun (v := (.agg #[(I (r[i]).1), (I (r[i]).2)])) (rv_load (cs := [(I (r[i]).1), (I (r[i]).2)]) Try.underlying35 rfl ti35 rfl rfl hc5) ?_
    refine stI_ex nofun (ex_buildSlice (lo := n0) (el := n0) (xs := ([((r[i]).1, (r[i]).2)] : List (Int × Int))) (ps := [(0, (.agg #[(I (r[i]).1), (I (r[i]).2)]))]) (cs := [(I (r[i]).1), (I (r[i]).2)]) H hn0 Try.underlying27 ti35 rfl rfl (by kernel_rfl) (.cons (c := [(I (r[i]).1), (I (r[i]).2)]) ⟨_, _, rfl, rfl, rfl⟩ .nil) rfl) ?_
    rintro _ σ5 ⟨b10, rfl, H, -⟩
    refine stI_ex nofun (ex_append H (i := 4) rfl Try.underlying27 Try.underlying27 ti35 rfl rfl (by decide) (H.own 0 rfl).rd (take_gapp hi hn) hn0 rfl rfl) ?_
    rintro _ σ6 ⟨a2, c2, rfl, H, -⟩
    refine stI_exS nofun (ex_store_box (vs := [(Sl a2 (r.take (i + 1)) c2)]) (cs' := [(Sl a2 (r.take (i + 1)) c2)]) (k := 0) H (i := 5) rfl ti27 rfl rfl rfl rfl rfl (Nat.le_of_ble_eq_true rfl) (by simp [plain, Sl]) rfl) ?_
    rintro σ7 ⟨H, -⟩
    refine endI ?_
    refine q_blk ?_
    exact ⟨rfl, σ7, _, rfl, ⟨a2, c2, rfl⟩, H.sel' [3, 4, 1, 0, 6, 7] rfl rfl⟩
  · rintro D σ _ ⟨a', c', rfl⟩ H
    rw [List.take_length] at H
    refine q_blk (q_then (wpIn_seq ?_))
    refine rgD (ds := [{ target := .collected D, args := #[] }]) ?_
    have hc1 := H.cells 2 rfl
    refine stD nofun (v := (Sl a' r c')) (rv_load1 Try.underlying27 rfl rfl (hc1 0 (by simp))) ?_
    refine stD nofun (v := (Sl a' r c')) (rv_assign rfl) ?_
    refine endD ?_
    refine q_then (wpIn_ret ?_)
    exact fin_mark (v := Sl a' r c') H (results_ok Try.results122 (res_tmp (v := Sl a' r c') rfl res_nil) rfl) ⟨_, _, _, rfl, rfl, ⟨a', c', rfl, rfl⟩, (H.putDf _).sel' [0, 2] rfl rfl⟩

theorem c_slices_Collect_impl_Hit__slices_Values_impl_hitHeap_impl_Hit_1 {Dd : List (Int × Int)} {De : Option Addr} {Dg : Nat} {Dh Di Dj : Nat} {Dk Dm : List Value} {r : (List (Int × Int))} (h : M.slices_Collect_impl_Hit__slices_Values_impl_hitHeap_impl_Hit_1 Dd = some r) :
    Cal2 Try.prog 116 [(.func (.func 118) #[] #[(pt Di Dj)])] [Ch.bx Dh Di Dj [(Sl De Dd Dg)] Dk Dm, Ch.ro 0 (Sl De Dd Dg) Dd] (fun n0 v L => ∃ (az1 : Option Addr), ∃ (cz2 : Nat), v = (Sl az1 r cz2) ∧ L = [Ch.own n0 n0 (Sl az1 r cz2) r, Ch.bx Dh Di Dj [(Sl De Dd Dg)] Dk Dm]) := by
 refine cal2 (n := 5) Try.func116 rfl rfl rfl rfl ?_
 intro S0 σ0 n0 hn0 H
 unfold M.slices_Collect_impl_Hit__slices_Values_impl_hitHeap_impl_Hit_1 at h
 refine c_seq (rg (sa (.slice none 0 0) rfl (w_end (q_then (c_seq (rg (sm (.func (.func 118) #[] #[(pt Di Dj)]) rfl ?_)))))))
 revert h; refine br fun r1 hx2 h => ?_
 have hc3 := c_slices_AppendSeq_impl_Hit_impl_Hit__slices_Values_impl_hitHeap_impl_Hit_1 (Cy := Dh) (Cz := Di) (Da := Dj) (Db := Dk) (Dc := Dm) (Cv := De) (Cw := Dg) hx2
 refine st_call (cx_call hc3 (ent_f hc3.fn rfl) hn0 (H.sel' [0, 1, 1] rfl rfl : Hp S0 σ0 _ ([_, _] ++ _))) wn ?_
 rintro _ σ6 ⟨_, ⟨a4, c5, rfl, rfl⟩, H, -⟩
 replace H : Hp _ _ _ [_, _, _] := H
 refine sa (Sl a4 r1 c5) rfl (w_end (q_then (c_ret ?_)))
 obtain rfl := sj h
 exact fin_ret (v := (Sl a4 r1 c5)) (results_ok Try.results116 (res_tmp (v := (Sl a4 r1 c5)) rfl res_nil) rfl) ⟨a4, c5, rfl, rfl⟩ (H.sel' [0, 1] rfl rfl)

def sort117_ren : Go.Shelf.Ren := ⟨fun | 6 => 117 | 15 => 124 | 14 => 123 | 28 => 133 | 29 => 134 | 20 => 125 | 21 => 126 | 22 => 127 | 23 => 128 | 24 => 129 | 25 => 130 | 26 => 131 | 27 => 132 | 46 => 135 | 47 => 136 | 48 => 137 | 49 => 138 | 50 => 139 | 57 => 140 | n => n, fun | 22 => 27 | 24 => 35 | 25 => 119 | 3 => 3 | 39 => 120 | 0 => 0 | 53 => 146 | 55 => 148 | 4 => 4 | 46 => 140 | 45 => 139 | 50 => 72 | 5 => 5 | 9 => 9 | 66 => 149 | 70 => 153 | 76 => 155 | 77 => 156 | n => n, fun | n => n⟩
theorem sort117 : Go.Proofs.SlLaysF0.n6 Try.prog sort117_ren := {
  mixed := by kernel_rfl
  f6 := ⟨Try.f117.name, by decide, Try.func117.trans (congrArg some (by kernel_rfl))⟩
  f14 := ⟨Try.f123.name, by decide, Try.func123.trans (congrArg some (by kernel_rfl))⟩
  f15 := Try.func124.trans (congrArg some (by kernel_rfl))
  f20 := ⟨Try.f125.name, by decide, Try.func125.trans (congrArg some (by kernel_rfl))⟩
  f21 := ⟨Try.f126.name, by decide, Try.func126.trans (congrArg some (by kernel_rfl))⟩
  f22 := ⟨Try.f127.name, by decide, Try.func127.trans (congrArg some (by kernel_rfl))⟩
  f23 := ⟨Try.f128.name, by decide, Try.func128.trans (congrArg some (by kernel_rfl))⟩
  f24 := ⟨Try.f129.name, by decide, Try.func129.trans (congrArg some (by kernel_rfl))⟩
  f25 := ⟨Try.f130.name, by decide, Try.func130.trans (congrArg some (by kernel_rfl))⟩
  f26 := ⟨Try.f131.name, by decide, Try.func131.trans (congrArg some (by kernel_rfl))⟩
  f27 := ⟨Try.f132.name, by decide, Try.func132.trans (congrArg some (by kernel_rfl))⟩
  f28 := Try.func133.trans (congrArg some (by kernel_rfl))
  f29 := Try.func134.trans (congrArg some (by kernel_rfl))
  f46 := ⟨Try.f135.name, by decide, Try.func135.trans (congrArg some (by kernel_rfl))⟩
  f47 := Try.func136.trans (congrArg some (by kernel_rfl))
  f48 := Try.func137.trans (congrArg some (by kernel_rfl))
  f49 := ⟨Try.f138.name, by decide, Try.func138.trans (congrArg some (by kernel_rfl))⟩
  f50 := ⟨Try.f139.name, by decide, Try.func139.trans (congrArg some (by kernel_rfl))⟩
  f57 := ⟨Try.f140.name, by decide, Try.func140.trans (congrArg some (by kernel_rfl))⟩
  t0 := Try.underlying0
  a0 := Try.isAgg0
  z0 := Try.sizeOf0
  v0 := Try.zeroValue0
  t3 := Try.underlying3
  a3 := Try.isAgg3
  z3 := Try.sizeOf3
  v3 := Try.zeroValue3
  t4 := Try.underlying4
  a4 := Try.isAgg4
  z4 := Try.sizeOf4
  v4 := Try.zeroValue4
  t5 := Try.underlying5
  a5 := Try.isAgg5
  z5 := Try.sizeOf5
  v5 := Try.zeroValue5
  t9 := Try.underlying9
  a9 := Try.isAgg9
  z9 := Try.sizeOf9
  v9 := Try.zeroValue9
  t22 := Try.underlying27
  a22 := Try.isAgg27
  z22 := Try.sizeOf27
  v22 := Try.zeroValue27
  t25 := Try.underlying119
  a25 := Try.isAgg119
  z25 := Try.sizeOf119
  v25 := Try.zeroValue119
  t39 := Try.underlying120
  a39 := Try.isAgg120
  z39 := Try.sizeOf120
  v39 := Try.zeroValue120
  t45 := Try.underlying139
  a45 := Try.isAgg139
  z45 := Try.sizeOf139
  v45 := Try.zeroValue139
  t46 := Try.underlying140
  a46 := Try.isAgg140
  z46 := Try.sizeOf140
  v46 := Try.zeroValue140
  t50 := Try.underlying72
  a50 := Try.isAgg72
  z50 := Try.sizeOf72
  v50 := Try.zeroValue72
  t53 := Try.underlying146
  a53 := Try.isAgg146
  z53 := Try.sizeOf146
  v53 := Try.zeroValue146
  t55 := Try.underlying148
  a55 := Try.isAgg148
  z55 := Try.sizeOf148
  v55 := Try.zeroValue148
  t66 := Try.underlying149
  a66 := Try.isAgg149
  z66 := Try.sizeOf149
  v66 := Try.zeroValue149
  t70 := Try.underlying153
  a70 := Try.isAgg153
  z70 := Try.sizeOf153
  v70 := Try.zeroValue153
  t76 := Try.underlying155
  a76 := Try.isAgg155
  z76 := Try.sizeOf155
  v76 := Try.zeroValue155
  t77 := Try.underlying156
  a77 := Try.isAgg156
  z77 := Try.sizeOf156
  v77 := Try.zeroValue156 }

theorem c_slices_SortFunc_impl_Hit_impl_Hit__impl_compareHits {Af : List (Int × Int)} {Dn : Option Addr} {Do : Nat} {r : List (Int × Int)} (h : M.slices_SortFunc_impl_Hit_impl_Hit__impl_compareHits Af = some r) :
    Cal2 Try.prog 117 [(Sl Dn Af Do), (.func (.func 109) #[] #[])] [Ch.own 0 0 (Sl Dn Af Do) Af] (fun n0 v L => v = (.tuple #[]) ∧ L = [Ch.own 0 0 (Sl Dn r Do) r] ∧ r.length = Af.length) := by
 obtain ⟨hn, hs, hL, rfl⟩ := sortD_some h
 have hE : ∀ σ σ' : St, Ext σ σ' → (True) → (True) := fun _ _ _ hp => hp
 have hB : ∀ σ : St, allAs σ [] → apart [] → ∃ σp, Pb (cov []) σ σp ∧ True := fun σ _ _ => ⟨σ, ⟨rfl, fun _ _ => rfl, fun _ => Nat.le_refl _⟩, trivial⟩
 have hC : ∀ σ : St, (True) → ∀ x ∈ Af, ∀ y ∈ Af, ∀ cx cy, Rp.rp 0 σ cx x → Rp.rp 0 σ cy y → Calls Try.prog 109 ([Value.agg cx.toArray, Value.agg cy.toArray] ++ []).toArray σ.w fun e w' => e = .returned (I ((M.impl_compareHits (x.1, x.2) (y.1, y.2)).getD 0)) ∧ ∃ q os, w' = Go.Sort.grow (σ.w.drewN q) os := by
     intro σ hp x hx y hy cx cy rx ry
     obtain ⟨r, hr⟩ := hs x hx y hy
     obtain ⟨_, _, rfl, rfl, rfl⟩ := rx
     obtain ⟨_, _, rfl, rfl, rfl⟩ := ry
     have hc := c_impl_compareHits  hr
     refine (hc.runs σ 0 (Nat.zero_le _) (Hp.begin trivial trivial)).mono ?_
     rintro e w' ⟨v, σ', L', rfl, rfl, ⟨rfl, -⟩, H⟩
     exact ⟨by rw [hr]; rfl, (H.md.mono fun i => fun h => h).grown⟩
 refine (sort_cal2 (α := (Int × Int)) sort117 Try.isAgg35 Try.sizeOf35 (xs := Af) (a := Dn) (c := Do) (g := 109) (cb := []) (B := []) (fun x y => (M.impl_compareHits (x.1, x.2) (y.1, y.2)).getD 0) hL hn ⟨_, _, Try.func109, rfl, rfl⟩ _ hE hB hC).conv ?_
 rintro m v L ⟨rfl, rfl⟩
 exact ⟨_, ⟨rfl, rfl, sortL_len⟩, fun H => H.sel' [0] rfl rfl⟩

theorem c_slices_SortedFunc_impl_Hit__slices_Values_impl_hitHeap_impl_Hit_1__impl_compareHits {Dd : List (Int × Int)} {De : Option Addr} {Dg : Nat} {Dh Di Dj : Nat} {Dk Dm : List Value} {r : (List (Int × Int))} (h : M.slices_SortedFunc_impl_Hit__slices_Values_impl_hitHeap_impl_Hit_1__impl_compareHits Dd = some r) :
    Cal2 Try.prog 107 [(.func (.func 118) #[] #[(pt Di Dj)]), (.func (.func 109) #[] #[])] [Ch.bx Dh Di Dj [(Sl De Dd Dg)] Dk Dm, Ch.ro 0 (Sl De Dd Dg) Dd] (fun n0 v L => ∃ (az1 : Option Addr), ∃ (cz2 : Nat), v = (Sl az1 r cz2) ∧ L = [Ch.own 0 n0 (Sl az1 r cz2) r, Ch.bx Dh Di Dj [(Sl De Dd Dg)] Dk Dm]) := by
 refine cal2 (n := 12) Try.func107 rfl rfl rfl rfl ?_
 intro S0 σ0 n0 hn0 H
 unfold M.slices_SortedFunc_impl_Hit__slices_Values_impl_hitHeap_impl_Hit_1__impl_compareHits at h
 refine c_seq (rg (sa (.slice none 0 0) rfl (w_end (q_then (c_seq (rg (sm (.func (.func 118) #[] #[(pt Di Dj)]) rfl ?_)))))))
 revert h; refine br fun r1 hx2 h => ?_
 have hc3 := c_slices_Collect_impl_Hit__slices_Values_impl_hitHeap_impl_Hit_1 (Dh := Dh) (Di := Di) (Dj := Dj) (Dk := Dk) (Dm := Dm) (De := De) (Dg := Dg) hx2
 refine st_call (cx_call hc3 (ent_f hc3.fn rfl) hn0 (H.sel' [0, 1, 1] rfl rfl : Hp S0 σ0 _ ([_, _] ++ _))) wn ?_
 rintro _ σ6 ⟨_, ⟨a4, c5, rfl, rfl⟩, H, -⟩
 replace H : Hp _ _ _ [_, _, _] := H
 refine sa (Sl a4 r1 c5) rfl (w_end (q_then (c_seq (rg (sm (Sl a4 r1 c5) rfl (sm (.func (.func 109) #[] #[]) rfl ?_))))))
 replace H := H.ownLow 0 0 0 rfl (Nat.zero_le _) (Nat.zero_le _)
 revert h; refine br fun r7 hx8 h => ?_
 have hc9 := c_slices_SortFunc_impl_Hit_impl_Hit__impl_compareHits (Dn := a4) (Do := c5) hx8
 refine st_call (cx_call hc9 (ent_f hc9.fn rfl) hn0 (H.sel' [0, 1, 2] rfl rfl : Hp S0 σ0 _ ([_] ++ _))) wn ?_
 rintro _ σ11 ⟨_, ⟨rfl, rfl, hn10⟩, H, -⟩
 replace H : Hp _ _ _ [_, _, _] := H
 have hsl : (Sl a4 r1 c5) = (Sl a4 r7 c5) := sl_len hn10.symm
 try rw [hsl]
 try rw [hsl] at H
 clear hsl
 refine w_end (q_then (c_seq (rg (sm (Sl a4 r7 c5) rfl (sa (Sl a4 r7 c5) rfl (w_end (q_then (c_ret ?_))))))))
 replace H := H.ownSc 0 0 n0 rfl (Nat.le_refl _)
 obtain rfl := sj h
 exact fin_ret (v := (Sl a4 r7 c5)) (results_ok Try.results107 (res_tmp (v := (Sl a4 r7 c5)) rfl res_nil) rfl) ⟨a4, c5, rfl, rfl⟩ (H.sel' [0, 1] rfl rfl)

theorem c_impl_nearestHits_inOrder {Bo : Int × (List (Int × Int))} {Bq : Option Addr} {Br : Nat} {Bs Bt Bu : Nat} {Bv Bw : List Value} {r : (List (Int × Int))} (h : M.impl_nearestHits_inOrder Bo = some r) :
    Cal2 Try.prog 87 [(pt Bt Bu)] [Ch.bx Bs Bt Bu [(I Bo.1), (Sl Bq Bo.2 Br)] Bv Bw, Ch.ro 0 (Sl Bq Bo.2 Br) Bo.2] (fun n0 v L => ∃ (az1 : Option Addr), ∃ (cz2 : Nat), v = (Sl az1 r cz2) ∧ L = [Ch.own 0 n0 (Sl az1 r cz2) r, Ch.bx Bs Bt Bu [(I Bo.1), (Sl Bq Bo.2 Br)] Bv Bw]) := by
 refine cal2 (n := 9) Try.func87 rfl rfl rfl rfl ?_
 intro S0 σ0 n0 hn0 H
 unfold M.impl_nearestHits_inOrder at h
 refine c_seq (rg (sa (.slice none 0 0) rfl (w_end (q_then (c_seq (rg (sm (pt Bt Bu) rfl (st (v := (pt Bt Bu)) (rv_nilCheck rfl) (st (v := (pt Bt (Bu + 1))) (rv_fieldAddr (off := 1) (ft := 97) Try.underlying99 rfl ti97 rfl rfl) ?_)))))))))
 have hc1 := H.cell (u := (Sl Bq Bo.2 Br)) (o' := (Bu + 1)) 0 1 rfl rfl rfl
 refine st (v := (Sl Bq Bo.2 Br)) (rv_load1 Try.underlying97 rfl rfl hc1) ?_
 revert h; refine br fun r2 hx3 h => ?_
 have hc4 := c_slices_Values_impl_hitHeap_impl_Hit (Cs := Bq) (Ct := Br) hx3
 refine st_call (cx_call hc4 (ent_f hc4.fn rfl) hn0 (H.sel' [1, 0, 1] rfl rfl : Hp S0 σ0 _ ([_] ++ _))) wn ?_
 rintro _ σ6 ⟨_, ⟨b5, rfl, rfl⟩, H, -⟩
 replace H : Hp _ _ _ [_, _, _] := H
 revert h; refine br fun r7 hx8 h => ?_
 have hc9 := c_slices_SortedFunc_impl_Hit__slices_Values_impl_hitHeap_impl_Hit_1__impl_compareHits (Dh := n0) (Di := b5) (Dj := 0) (Dk := []) (Dm := []) (De := Bq) (Dg := Br) hx8
 refine st_call (cx_call hc9 (ent_f hc9.fn rfl) hn0 (H.sel' [0, 2, 1, 2] rfl rfl : Hp S0 σ0 _ ([_, _] ++ _))) wn ?_
 rintro _ σ12 ⟨_, ⟨a10, c11, rfl, rfl⟩, H, -⟩
 replace H : Hp _ _ _ [_, _, _, _] := H
 refine sa (Sl a10 r7 c11) rfl (w_end (q_then (c_ret ?_)))
 obtain rfl := sj h
 exact fin_ret (v := (Sl a10 r7 c11)) (results_ok Try.results87 (res_tmp (v := (Sl a10 r7 c11)) rfl res_nil) rfl) ⟨a10, c11, rfl, rfl⟩ (H.sel' [0, 2] rfl rfl)

theorem c_impl_nearestAmong {Ai : List (Int × (List Int) × Int)} {Ao : Int} {Ap : List Int} {Aq : Int} {Aj : Option Addr} {Ak : Nat} {Ar : Option Addr} {As : Nat} {r : (List (Int × Int))} (h : M.impl_nearestAmong Ai Ao Ap Aq = some r) :
    Cal2 Try.prog 56 [(Sl Aj Ai Ak), (I Ao), (Sl Ar Ap As), (I Aq)] [Ch.ro 0 (Sl Aj Ai Ak) Ai, Ch.ro 0 (Sl Ar Ap As) Ap] (fun n0 v L => ∃ (az1 : Option Addr), ∃ (cz2 : Nat), v = (Sl az1 r cz2) ∧ L = [Ch.own 0 n0 (Sl az1 r cz2) r]) := by
 refine cal2 (n := 27) Try.func56 rfl rfl rfl rfl ?_
 intro S0 σ0 n0 hn0 H
 unfold M.impl_nearestAmong at h
 refine c_seq (rg (sa (.slice none 0 0) rfl (w_end (q_then (c_seq (rg (sm (I Aq) rfl ?_)))))))
 refine st (v := (.agg #[(I Aq), (.slice none 0 0)])) (rv_build (ps := [(0, (I Aq))]) Try.underlying99 ti99 (bp99 Try.underlying99) rfl (by kernel_rfl)) ?_
 refine st_ex (ex_alloc (cs := [(I 0), (.slice none 0 0)]) H hn0 ti99 rfl) wn ?_
 rintro _ σ2 ⟨b1, rfl, H, -⟩
 refine st_exS (ex_store_box (k := 0) (cs := [(I 0), (.slice none 0 0)]) (vs := [(I Aq), (.slice none 0 0)]) (cs' := [(I Aq), (.slice none 0 0)]) H (i := 0) rfl ti99 rfl rfl rfl rfl rfl (Nat.le_of_ble_eq_true rfl) (by simp [plain]) rfl) wn ?_
 rintro σ3 ⟨H, -⟩
 refine w_end (q_then (c_seq (c_seq (rg (sm (Sl Aj Ai Ak) rfl (st (v := (I (Ai.length : Int))) (rv_len Try.underlying23 rfl) (sm (I 0) rfl (w_end (q_then ?_)))))))))
 obtain ⟨o4, hj, h'⟩ := bind_some h
 clear h
 refine c_cut (fun e a w => e = .normal ∧ ∃ (ρ : Nat → Value) (σ : St) (aj1 : Option Addr) (cj2 : Nat), a = fr 27 (updL ρ [(9, (pt b1 0))]) ∧ w = σ.w ∧ Hp S0 σ0 σ [Ch.bx n0 b1 0 [(I o4.1), (Sl aj1 o4.2 cj2)] [] [], Ch.own 0 0 (Sl aj1 o4.2 cj2) o4.2]) ?_ ?_
 ·clear h'
  rename _ = some o4 => h
  refine c_blk ?_
  replace H := H.nilOwn (Int × Int) 0 0
  refine wp_loopM _ h (fun s5 a w => ∃ (ρ : Nat → Value) (σ : St) (aj1 : Option Addr) (cj2 : Nat), a = fr 27 (updL ρ [(1, (I Ao)), (2, (Sl Ar Ap As)), (9, (pt b1 0)), (14, (Sl Aj Ai Ak)), (15, (I (Ai.length : Int))), (16, (I s5.2))]) ∧ w = σ.w ∧ Hp S0 σ0 σ [Ch.bx n0 b1 0 [(I s5.1.1), (Sl aj1 s5.1.2 cj2)] [] [], Ch.own 0 0 (Sl aj1 s5.1.2 cj2) s5.1.2, Ch.ro 0 (Sl Ar Ap As) Ap, Ch.ro 0 (Sl Aj Ai Ak) Ai]) ⟨_, σ3, none, 0, fr_join ⟨rfl, rfl, rfl, rfl, rfl, rfl, trivial⟩, rfl, H.sel' [1, 0, 3, 2] rfl rfl⟩ ?_
  clear h H
  rintro s5 a w o ⟨ρ, σ6, a7, c8, rfl, rfl, H⟩ h hres
  refine c_seq (rg (st (v := (B (decide (s5.2 < (Ai.length : Int))))) (rv_lss (a := s5.2) (b := (Ai.length : Int)) rfl rfl) (w_end (q_then (c_seq ?_)))))
  refine cd_cond (decide (s5.2 < (Ai.length : Int))) rfl (fun hb9 => ?_) (fun hb9 => ?_)
  ·replace h := bif_t hb9 h
   refine c_skip (q_then (c_seq (c_blk (c_seq (rg ?_)))))
   revert h; refine br fun x10 hx11 h => ?_
   obtain ⟨b13, o14, hi12, -⟩ := (H.ro 3 rfl).ix hx11
   refine st (v := (pt b13 o14)) (rv_ix Try.underlying23 ti31 rfl rfl hi12) ?_
   obtain ⟨_, ⟨_, _, rfl, rfl, ⟨_, _, rfl, ⟨_, rfl, hR19⟩, rfl⟩⟩, hl15, hc16⟩ := ((H.ro 3 rfl).at hx11 hi12).cells
   obtain ⟨a17, c18, rfl⟩ := hR19.isSl
   replace H := H.add (d := Ch.ro 0 (Sl a17 x10.2.1 c18) x10.2.1) hR19 (fun _ h => h)
   clear hR19
   refine st (v := (.agg #[(I x10.1), (Sl a17 x10.2.1 c18), (I x10.2.2)])) (rv_load Try.underlying31 rfl ti31 rfl hl15 hc16) (st_ex (ex_alloc (cs := [(I 0), (.slice none 0 0), (I 0)]) H hn0 ti31 rfl) wn ?_)
   rintro _ σ21 ⟨b20, rfl, H, -⟩
   refine st_exS (ex_store_box (k := 0) (cs := [(I 0), (.slice none 0 0), (I 0)]) (vs := [(I x10.1), (Sl a17 x10.2.1 c18), (I x10.2.2)]) (cs' := [(I x10.1), (Sl a17 x10.2.1 c18), (I x10.2.2)]) H (i := 0) rfl ti31 rfl rfl rfl rfl rfl (Nat.le_of_ble_eq_true rfl) (by simp [plain]) rfl) wn ?_
   rintro σ22 ⟨H, -⟩
   refine w_end (q_then (rg ?_))
   have hc23 := H.cells 0 rfl
   refine st (v := (.agg #[(I x10.1), (Sl a17 x10.2.1 c18), (I x10.2.2)])) (rv_load (cs := [(I x10.1), (Sl a17 x10.2.1 c18), (I x10.2.2)]) Try.underlying31 rfl ti31 rfl rfl hc23) (sm (I Ao) rfl (sm (Sl Ar Ap As) rfl ?_))
   revert h; refine br fun r24 hx25 h => ?_
   have hc26 := c_impl_hitOf (Ag := a17) (Ah := c18) (Ar := Ar) (As := As) hx25
   refine st_call (cx_call hc26 (ent_f hc26.fn rfl) hn0 (H.sel' [1, 4, 0, 1, 2, 3, 4, 5] rfl rfl : Hp S0 σ0 _ ([_, _] ++ _))) wn ?_
   rintro _ σ27 ⟨_, ⟨rfl, rfl⟩, H, -⟩
   replace H : Hp _ _ _ [_, _, _, _, _, _] := H
   revert h; refine br fun r28 hx29 h => ?_
   have hc30 := c_impl_nearestHits_offer (Bs := n0) (Bt := b1) (Bu := 0) (Bv := []) (Bw := []) (Bq := a7) (Br := c8) hx29
   refine st_call (cx_call hc30 (ent_f hc30.fn rfl) hn0 (H.sel' [2, 3, 0, 1, 4, 5] rfl rfl : Hp S0 σ0 _ ([_, _] ++ _))) wn ?_
   rintro _ σ33 ⟨_, ⟨a31, c32, rfl, rfl⟩, H, -⟩
   replace H : Hp _ _ _ [_, _, _, _, _, _] := H
   refine w_end (q_blk (q_then (rg (st (v := (I (w64 (s5.2 + 1)))) (rv_add (a := s5.2) (b := 1) rfl rfl) (sm (I (w64 (s5.2 + 1))) rfl (w_end (q_then ?_)))))))
   obtain rfl := sj h
   exact ⟨_, rfl, _, σ33, a31, c32, fr_join ⟨rfl, rfl, rfl, rfl, rfl, rfl, trivial⟩, rfl, H.sel' [0, 1, 4, 5] rfl rfl⟩
  ·replace h := bif_f hb9 h
   refine c_exit (q_then_x (q_then_x (q_blk_hit ?_)))
   obtain rfl := sj h
   obtain rfl := hres _ rfl
   exact ⟨rfl, _, σ6, a7, c8, fr_join ⟨rfl, trivial⟩, rfl, H.sel' [0, 1] rfl rfl⟩
 ·clear hj
  have h := h'
  clear h' H
  rintro e a w ⟨rfl, ρ, σ34, a35, c36, rfl, rfl, H⟩
  refine q_then (c_seq (rg ?_))
  obtain ⟨σ37, hw38, H, -⟩ := H.pub 1 rfl (Nat.le_refl _)
  rw [← hw38]; clear hw38
  revert h; refine br fun r39 hx40 h => ?_
  have hc41 := c_impl_nearestHits_inOrder (Bs := n0) (Bt := b1) (Bu := 0) (Bv := []) (Bw := []) (Bq := a35) (Br := c36) hx40
  refine st_call (cx_call hc41 (ent_f hc41.fn rfl) hn0 (H.sel' [1, 0, 0] rfl rfl : Hp S0 σ0 _ ([_, _] ++ _))) wn ?_
  rintro _ σ44 ⟨_, ⟨a42, c43, rfl, rfl⟩, H, -⟩
  replace H : Hp _ _ _ [_, _, _] := H
  refine sa (Sl a42 r39 c43) rfl (w_end (q_then (c_ret ?_)))
  obtain rfl := sj h
  exact fin_ret (v := (Sl a42 r39 c43)) (results_ok Try.results56 (res_tmp (v := (Sl a42 r39 c43)) rfl res_nil) rfl) ⟨a42, c43, rfl, rfl⟩ (H.sel' [0] rfl rfl)

theorem c_impl_Nearest {Ai : List (Int × (List Int) × Int)} {Ao : Int} {Ap : List Int} {Aq : Int} {Aj : Option Addr} {Ak : Nat} {Ar : Option Addr} {As : Nat} {r : (List (Int × Int))} (h : M.impl_Nearest Ai Ao Ap Aq = some r) :
    Cal2 Try.prog 16 [(Sl Aj Ai Ak), (I Ao), (Sl Ar Ap As), (I Aq)] [Ch.ro 0 (Sl Aj Ai Ak) Ai, Ch.ro 0 (Sl Ar Ap As) Ap] (fun n0 v L => ∃ (az1 : Option Addr), ∃ (cz2 : Nat), v = (Sl az1 r cz2) ∧ L = [Ch.own 0 n0 (Sl az1 r cz2) r]) := by
 refine cal2 (n := 20) Try.func16 rfl rfl rfl rfl ?_
 intro S0 σ0 n0 hn0 H
 unfold M.impl_Nearest at h
 refine c_seq (rg (sa (.slice none 0 0) rfl (w_end (q_then (c_seq (c_seq (rg (sm (Sl Aj Ai Ak) rfl (sm (I Ao) rfl (sm (Sl Ar Ap As) rfl (sm (I Aq) rfl ?_)))))))))))
 revert h; refine br fun r1 hx2 h => ?_
 have hc3 := c_impl_validSearch (Aj := Aj) (Ak := Ak) (Ar := Ar) (As := As) hx2
 refine st_call (cx_call hc3 (ent_f hc3.fn rfl) hn0 (H.sel' [0, 1, 0, 1] rfl rfl : Hp S0 σ0 _ ([_, _] ++ _))) wn ?_
 rintro _ σ4 ⟨_, ⟨rfl, rfl⟩, H, -⟩
 replace H : Hp _ _ _ [_, _] := H
 refine st (v := (B (!r1))) (rv_not rfl) (w_end (q_then ?_))
 refine cd_cond (!r1) rfl (fun hb5 => ?_) (fun hb5 => ?_)
 ·replace h := bif_t hb5 h
  refine c_seq (rg (sa (.slice none 0 0) rfl (w_end (q_then (c_ret (q_then_r ?_))))))
  replace H := H.nilOwn (Int × Int) 0 n0
  obtain rfl := sj h
  exact fin_ret (v := (.slice none 0 0)) (results_ok Try.results16 (res_tmp (v := (.slice none 0 0)) rfl res_nil) rfl) ⟨none, 0, rfl, rfl⟩ (H.sel' [0] rfl rfl)
 ·replace h := bif_f hb5 h
  refine c_skip (q_then (c_seq (rg (sm (Sl Aj Ai Ak) rfl (sm (I Ao) rfl (sm (Sl Ar Ap As) rfl (sm (I Aq) rfl ?_)))))))
  revert h; refine br fun r6 hx7 h => ?_
  have hc8 := c_impl_nearestAmong (Aj := Aj) (Ak := Ak) (Ar := Ar) (As := As) hx7
  refine st_call (cx_call hc8 (ent_f hc8.fn rfl) hn0 (H.sel' [0, 1, 0, 1] rfl rfl : Hp S0 σ0 _ ([_, _] ++ _))) wn ?_
  rintro _ σ11 ⟨_, ⟨a9, c10, rfl, rfl⟩, H, -⟩
  replace H : Hp _ _ _ [_, _, _] := H
  refine sa (Sl a9 r6 c10) rfl (w_end (q_then (c_ret ?_)))
  obtain rfl := sj h
  exact fin_ret (v := (Sl a9 r6 c10)) (results_ok Try.results16 (res_tmp (v := (Sl a9 r6 c10)) rfl res_nil) rfl) ⟨a9, c10, rfl, rfl⟩ (H.sel' [0] rfl rfl)

theorem c_impl_WithinDist_1__p3 {Au : Int × Int} {Dq : Int} {Dr Ds Dt : Nat} {Du Dv : List Value} {r : Bool} (h : M.impl_WithinDist_1__p3 Au Dq = some r) :
    Cal2 Try.prog 66 [(.agg #[(I Au.1), (I Au.2)]), (pt Ds Dt)] [Ch.bx Dr Ds Dt [(I Dq)] Du Dv] (fun n0 v L => v = (B r) ∧ L = [Ch.bx Dr Ds Dt [(I Dq)] Du Dv]) := by
 refine cal2 (n := 8) Try.func66 rfl rfl rfl rfl ?_
 intro S0 σ0 n0 hn0 H
 unfold M.impl_WithinDist_1__p3 at h
 refine c_seq (rg (st_ex (ex_box (cs := [(I Au.1), (I Au.2)]) H hn0 rfl rfl) wn ?_))
 rintro _ σ2 ⟨b1, rfl, H, -⟩
 refine sa (B false) rfl (w_end (q_then (c_seq (rg (st (v := (pt b1 1)) (rv_fieldAddr (off := 1) (ft := 3) Try.underlying35 rfl ti3 rfl rfl) ?_)))))
 have hc3 := H.cell (u := (I Au.2)) (o' := 1) 0 1 rfl rfl rfl
 refine st (v := (I Au.2)) (rv_load1 Try.underlying3 rfl rfl hc3) ?_
 have hc4 := H.cell (u := (I Dq)) (o' := Dt) 1 0 rfl rfl rfl
 refine st (v := (I Dq)) (rv_load1 Try.underlying3 rfl rfl hc4) (st (v := (B (decide (Dq < Au.2)))) (rv_gtr (a := Au.2) (b := Dq) rfl rfl) (sa (B (decide (Dq < Au.2))) rfl (w_end (q_then (c_ret ?_)))))
 obtain rfl := sj h
 exact fin_ret (v := (B (decide (Dq < Au.2)))) (results_ok Try.results66 (res_tmp (v := (B (decide (Dq < Au.2)))) rfl res_nil) rfl) ⟨rfl, rfl⟩ (H.sel' [1] rfl rfl)

theorem c_slices_IndexFunc_impl_Hit_impl_Hit__impl_WithinDist_1 {Cr : List (Int × Int)} {Dw : Int} {Cs : Option Addr} {Ct : Nat} {Dx Dy Dz : Nat} {Ea Eb : List Value} {r : Int} (h : M.slices_IndexFunc_impl_Hit_impl_Hit__impl_WithinDist_1 Cr Dw = some r) :
    Cal2 Try.prog 93 [(Sl Cs Cr Ct), (.func (.func 66) #[] #[(pt Dy Dz)])] [Ch.ro 0 (Sl Cs Cr Ct) Cr, Ch.bx Dx Dy Dz [(I Dw)] Ea Eb] (fun n0 v L => v = (I r) ∧ L = [Ch.bx Dx Dy Dz [(I Dw)] Ea Eb]) := by
 refine cal2 (n := 19) Try.func93 rfl rfl rfl rfl ?_
 intro S0 σ0 n0 hn0 H
 unfold M.slices_IndexFunc_impl_Hit_impl_Hit__impl_WithinDist_1 at h
 refine c_seq (rg (sa (I 0) rfl (w_end (q_then (c_seq (c_seq (rg (sm (Sl Cs Cr Ct) rfl (st (v := (I (Cr.length : Int))) (rv_len Try.underlying27 rfl) (sm (I 0) rfl (w_end ?_)))))))))))
 refine q_then ?_
 obtain ⟨o1, hj, h'⟩ := bind_some h
 clear h
 refine c_cut (fun e a w => (∃ t, o1 = (.inl t) ∧ e = .normal ∧ ∃ (ρ : Nat → Value) (σ : St), a = fr 19 (updL ρ [(1, (.func (.func 66) #[] #[(pt Dy Dz)]))]) ∧ w = σ.w ∧ Hp S0 σ0 σ [Ch.bx Dx Dy Dz [(I Dw)] Ea Eb]) ∨ (∃ t, o1 = (.inr t) ∧ e = .ret ∧ ∃ (ρ : Nat → Value) (σ : St), a = fr 19 (updL ρ [(1, (.func (.func 66) #[] #[(pt Dy Dz)])), (4, (I t))]) ∧ w = σ.w ∧ Hp S0 σ0 σ [Ch.bx Dx Dy Dz [(I Dw)] Ea Eb])) ?_ ?_
 ·clear h'
  rename _ = some o1 => h
  refine c_blk (wp_loopM _ h (fun s2 a w => ∃ (ρ : Nat → Value) (σ : St), a = fr 19 (updL ρ [(0, (Sl Cs Cr Ct)), (1, (.func (.func 66) #[] #[(pt Dy Dz)])), (7, (I (Cr.length : Int))), (8, (I s2))]) ∧ w = σ.w ∧ Hp S0 σ0 σ [Ch.ro 0 (Sl Cs Cr Ct) Cr, Ch.bx Dx Dy Dz [(I Dw)] Ea Eb]) ⟨_, σ0, fr_join ⟨rfl, rfl, rfl, rfl, trivial⟩, rfl, H.sel' [0, 1] rfl rfl⟩ ?_)
  clear h H
  rintro s2 a w o ⟨ρ, σ3, rfl, rfl, H⟩ h hres
  refine c_seq (rg (st (v := (B (decide (s2 < (Cr.length : Int))))) (rv_lss (a := s2) (b := (Cr.length : Int)) rfl rfl) (w_end (q_then (c_seq ?_)))))
  refine cd_cond (decide (s2 < (Cr.length : Int))) rfl (fun hb4 => ?_) (fun hb4 => ?_)
  ·replace h := bif_t hb4 h
   refine c_skip (q_then (c_seq (c_blk (c_seq (rg (sm (I s2) rfl (sa (I s2) rfl (w_end (q_then (c_seq (rg ?_)))))))))))
   refine sm (.func (.func 66) #[] #[(pt Dy Dz)]) rfl (sm (Sl Cs Cr Ct) rfl (sm (I s2) rfl ?_))
   revert h; refine br fun x5 hx6 h => ?_
   obtain ⟨b8, o9, hi7, -⟩ := (H.ro 0 rfl).ix hx6
   refine st (v := (pt b8 o9)) (rv_ix Try.underlying27 ti35 rfl rfl hi7) ?_
   obtain ⟨_, ⟨_, _, rfl, rfl, rfl⟩, hl10, hc11⟩ := ((H.ro 0 rfl).at hx6 hi7).cells
   refine st (v := (.agg #[(I x5.1), (I x5.2)])) (rv_load Try.underlying35 rfl ti35 rfl hl10 hc11) ?_
   revert h; refine br fun r12 hx13 h => ?_
   have hc14 := c_impl_WithinDist_1__p3 (Dr := Dx) (Ds := Dy) (Dt := Dz) (Du := Ea) (Dv := Eb) hx13
   refine st_call (cx_call hc14 (ent_v (cap := [(pt Dy Dz)]) hc14.fn rfl rfl) hn0 (H.sel' [1, 0] rfl rfl : Hp S0 σ0 _ ([_] ++ _))) wn ?_
   rintro _ σ15 ⟨_, ⟨rfl, rfl⟩, H, -⟩
   replace H : Hp _ _ _ [_, _] := H
   refine w_end (q_then ?_)
   refine cd_cond r12 rfl (fun hb16 => ?_) (fun hb16 => ?_)
   ·replace h := bif_t hb16 h
    refine c_seq (rg (sm (I s2) rfl (sa (I s2) rfl (w_end (q_then (c_ret (q_blk_r (q_then_r (q_then_r (q_blk_r ?_))))))))))
    obtain rfl := sj h
    obtain rfl := hres _ rfl
    exact .inr (⟨_, rfl, rfl, _, σ15, fr_join ⟨rfl, rfl, trivial⟩, rfl, H.sel' [0] rfl rfl⟩)
   ·replace h := bif_f hb16 h
    refine c_skip (q_blk (q_then (rg (st (v := (I (w64 (s2 + 1)))) (rv_add (a := s2) (b := 1) rfl rfl) (sm (I (w64 (s2 + 1))) rfl (w_end (q_then ?_)))))))
    obtain rfl := sj h
    exact ⟨_, rfl, _, σ15, fr_join ⟨rfl, rfl, rfl, rfl, trivial⟩, rfl, H.sel' [1, 0] rfl rfl⟩
  ·replace h := bif_f hb4 h
   refine c_exit (q_then_x (q_then_x (q_blk_hit ?_)))
   obtain rfl := sj h
   obtain rfl := hres _ rfl
   exact .inl ⟨_, rfl, rfl, _, σ3, fr_join ⟨rfl, trivial⟩, rfl, H.sel' [1] rfl rfl⟩
 ·clear hj
  have h := h'
  clear h' H
  rintro e a w (⟨t17, rfl, rfl, ρ, σ18, rfl, rfl, H⟩ | ⟨t19, rfl, rfl, ρ, σ20, rfl, rfl, H⟩)
  ·replace h := selim_l h
   refine q_then (c_seq (rg (sa (I (-1)) rfl (w_end (q_then (c_ret ?_))))))
   obtain rfl := sj h
   exact fin_ret (v := (I (-1))) (results_ok Try.results93 (res_tmp (v := (I (-1))) rfl res_nil) rfl) ⟨rfl, rfl⟩ (H.sel' [0] rfl rfl)
  ·replace h := selim_r h
   refine q_then_r ?_
   obtain rfl := sj h
   exact fin_ret (v := (I t19)) (results_ok Try.results93 (res_tmp (v := (I t19)) rfl res_nil) rfl) ⟨rfl, rfl⟩ (H.sel' [0] rfl rfl)

theorem c_slices_DeleteFunc_impl_Hit_impl_Hit__impl_WithinDist_1 {Cr : List (Int × Int)} {Ec : Int} {Cs : Option Addr} {Ct : Nat} {Ed Ee Ef : Nat} {Eg Eh : List Value} {r : (List (Int × Int))} (h : M.slices_DeleteFunc_impl_Hit_impl_Hit__impl_WithinDist_1 Cr Ec = some r) :
    Cal2 Try.prog 65 [(Sl Cs Cr Ct), (.func (.func 66) #[] #[(pt Ee Ef)])] [Ch.own 0 0 (Sl Cs Cr Ct) Cr, Ch.bx Ed Ee Ef [(I Ec)] Eg Eh] (fun n0 v L => ∃ (az1 : Option Addr), ∃ (cz2 : Nat), v = (Sl az1 r cz2) ∧ L = [Ch.own 0 n0 (Sl az1 r cz2) r, Ch.bx Ed Ee Ef [(I Ec)] Eg Eh]) := by
 refine cal2 (n := 42) Try.func65 rfl rfl rfl rfl ?_
 intro S0 σ0 n0 hn0 H
 unfold M.slices_DeleteFunc_impl_Hit_impl_Hit__impl_WithinDist_1 at h
 refine c_seq (rg (sa (.slice none 0 0) rfl (w_end (q_then (c_seq (rg (sm (Sl Cs Cr Ct) rfl (sm (.func (.func 66) #[] #[(pt Ee Ef)]) rfl ?_))))))))
 revert h; refine br fun r1 hx2 h => ?_
 have hc3 := c_slices_IndexFunc_impl_Hit_impl_Hit__impl_WithinDist_1 (Cs := Cs) (Ct := Ct) (Dx := Ed) (Dy := Ee) (Dz := Ef) (Ea := Eg) (Eb := Eh) hx2
 have hle := Nat.le_trans hn0 H.size
 refine st_call (cx_lend (Loan.lend (Loan.same Loan.nil)) hc3 (ent_f hc3.fn rfl) (show Hp S0 σ0 _ ([Ch.own 0 0 (Sl Cs Cr Ct) Cr] ++ ([Ch.bx Ed Ee Ef [(I Ec)] Eg Eh] ++ [])) from (H.sel' [0, 1] rfl rfl)) (by rintro _ _ _ ⟨rfl, rfl⟩; exact ⟨Ab.bx, trivial⟩)) wn ?_
 rintro _ σ4 ⟨_, ⟨rfl, rfl⟩, H, -, -⟩
 replace H : Hp _ _ _ [_, _] := H
 clear hle
 replace H : Hp _ _ _ [_, _] := H
 refine sa (I r1) rfl (w_end (q_then (c_seq (c_seq (rg (sm (I r1) rfl (st (v := (B (r1 == (-1)))) (rv_eql (a := r1) (b := (-1)) rfl rfl) (w_end (q_then ?_)))))))))
 refine cd_cond (r1 == (-1)) rfl (fun hb5 => ?_) (fun hb5 => ?_)
 ·replace h := bif_t hb5 h
  refine c_seq (rg (sm (Sl Cs Cr Ct) rfl (sa (Sl Cs Cr Ct) rfl (w_end (q_then (c_ret (q_then_r ?_)))))))
  replace H := H.ownSc 1 0 n0 rfl (Nat.le_refl _)
  obtain rfl := sj h
  exact fin_ret (v := (Sl Cs Cr Ct)) (results_ok Try.results65 (res_tmp (v := (Sl Cs Cr Ct)) rfl res_nil) rfl) ⟨Cs, Ct, rfl, rfl⟩ (H.sel' [0, 1] rfl rfl)
 ·replace h := bif_f hb5 h
  refine c_skip (q_then (c_seq (c_seq (rg (sm (I r1) rfl (st (v := (I (w64 (r1 + 1)))) (rv_add (a := r1) (b := 1) rfl rfl) (sa (I (w64 (r1 + 1))) rfl (w_end (q_then ?_)))))))))
  obtain ⟨o6, hj, h'⟩ := bind_some h
  clear h
  refine c_cut (fun e a w => e = .normal ∧ ∃ (ρ : Nat → Value) (σ : St), a = fr 42 (updL ρ [(0, (Sl Cs o6.1 Ct)), (1, (.func (.func 66) #[] #[(pt Ee Ef)])), (5, (I o6.2))]) ∧ w = σ.w ∧ Hp S0 σ0 σ [Ch.own 0 0 (Sl Cs o6.1 Ct) o6.1, Ch.bx Ed Ee Ef [(I Ec)] Eg Eh] ∧ o6.1.length = Cr.length) ?_ ?_
  ·clear h'
   rename _ = some o6 => h
   refine c_blk (wp_loopM _ h (fun s7 a w => ∃ (ρ : Nat → Value) (σ : St), a = fr 42 (updL ρ [(0, (Sl Cs s7.1 Ct)), (1, (.func (.func 66) #[] #[(pt Ee Ef)])), (5, (I s7.2.1)), (6, (I s7.2.2))]) ∧ w = σ.w ∧ Hp S0 σ0 σ [Ch.own 0 0 (Sl Cs s7.1 Ct) s7.1, Ch.bx Ed Ee Ef [(I Ec)] Eg Eh] ∧ s7.1.length = Cr.length) ⟨_, σ4, fr_join ⟨rfl, rfl, rfl, rfl, trivial⟩, rfl, H.sel' [1, 0] rfl rfl, rfl⟩ ?_)
   clear h H
   rintro s7 a w o ⟨ρ, σ8, rfl, rfl, H, hn9⟩ h hres
   refine c_seq (c_seq (rg (sm (I s7.2.2) rfl (sm (Sl Cs s7.1 Ct) rfl (st (v := (I (s7.1.length : Int))) (rv_len Try.underlying27 rfl) (st (v := (B (decide (s7.2.2 < (s7.1.length : Int))))) (rv_lss (a := s7.2.2) (b := (s7.1.length : Int)) rfl rfl) (w_end (q_then ?_))))))))
   refine cd_cond (decide (s7.2.2 < (s7.1.length : Int))) rfl (fun hb10 => ?_) (fun hb10 => ?_)
   ·replace h := bif_t hb10 h
    refine c_skip (q_then (c_seq ?_))
    obtain ⟨o11, hj, h'⟩ := bind_some h
    clear h
    refine c_cut (fun e a w => e = .normal ∧ ∃ (ρ : Nat → Value) (σ : St), a = fr 42 (updL ρ [(0, (Sl Cs o11.1 Ct)), (1, (.func (.func 66) #[] #[(pt Ee Ef)])), (5, (I o11.2)), (6, (I s7.2.2))]) ∧ w = σ.w ∧ Hp S0 σ0 σ [Ch.own 0 0 (Sl Cs o11.1 Ct) o11.1, Ch.bx Ed Ee Ef [(I Ec)] Eg Eh] ∧ o11.1.length = s7.1.length) ?_ ?_
    ·clear h'
     rename _ = some o11 => h
     refine c_blk (c_seq (rg (sm (Sl Cs s7.1 Ct) rfl (sm (I s7.2.2) rfl ?_))))
     revert h; refine br fun x12 hx13 h => ?_
     obtain ⟨b15, o16, hi14, -⟩ := (H.own 0 rfl).ix hx13
     refine st (v := (pt b15 o16)) (rv_ix Try.underlying27 ti35 rfl rfl hi14) ?_
     obtain ⟨_, ⟨_, _, rfl, rfl, rfl⟩, hl17, hc18⟩ := ((H.own 0 rfl).at hx13 hi14).cells
     refine st (v := (.agg #[(I x12.1), (I x12.2)])) (rv_load Try.underlying35 rfl ti35 rfl hl17 hc18) (st_ex (ex_alloc (cs := [(I 0), (I 0)]) H hn0 ti35 rfl) wn ?_)
     rintro _ σ20 ⟨b19, rfl, H, -⟩
     refine st_exS (ex_store_box (k := 0) (cs := [(I 0), (I 0)]) (vs := [(I x12.1), (I x12.2)]) (cs' := [(I x12.1), (I x12.2)]) H (i := 0) rfl ti35 rfl rfl rfl rfl rfl (Nat.le_of_ble_eq_true rfl) (by simp [plain]) rfl) wn ?_
     rintro σ21 ⟨H, -⟩
     refine w_end (q_then (c_seq (rg (sm (.func (.func 66) #[] #[(pt Ee Ef)]) rfl ?_))))
     have hc22 := H.cells 0 rfl
     refine st (v := (.agg #[(I x12.1), (I x12.2)])) (rv_load (cs := [(I x12.1), (I x12.2)]) Try.underlying35 rfl ti35 rfl rfl hc22) ?_
     revert h; refine br fun r23 hx24 h => ?_
     have hc25 := c_impl_WithinDist_1__p3 (Dr := Ed) (Ds := Ee) (Dt := Ef) (Du := Eg) (Dv := Eh) hx24
     refine st_call (cx_call hc25 (ent_v (cap := [(pt Ee Ef)]) hc25.fn rfl rfl) hn0 (H.sel' [2, 0, 1] rfl rfl : Hp S0 σ0 _ ([_] ++ _))) wn ?_
     rintro _ σ26 ⟨_, ⟨rfl, rfl⟩, H, -⟩
     replace H : Hp _ _ _ [_, _, _] := H
     refine st (v := (B (!r23))) (rv_not rfl) (w_end (q_then ?_))
     refine cd_cond (!r23) rfl (fun hb27 => ?_) (fun hb27 => ?_)
     ·replace h := bif_t hb27 h
      refine c_seq (rg (sm (Sl Cs s7.1 Ct) rfl (sm (I s7.2.1) rfl ?_)))
      have hc28 := H.cells 1 rfl
      refine st (v := (.agg #[(I x12.1), (I x12.2)])) (rv_load (cs := [(I x12.1), (I x12.2)]) Try.underlying35 rfl ti35 rfl rfl hc28) ?_
      revert h; refine br fun x29 hx30 h => ?_
      obtain ⟨b32, o33, hi31, -⟩ := (H.own 2 rfl).ix hx30
      refine st (v := (pt b32 o33)) (rv_ix Try.underlying27 ti35 rfl rfl hi31) ?_
      refine st_exS (ex_store_own (e' := (x12.1, x12.2)) (vs := [(I x12.1), (I x12.2)]) (k := 0) H (i := 2) rfl ti35 hx30 hi31 rfl rfl rfl rfl rfl (Nat.le_of_ble_eq_true rfl) (by simp [plain]) (by rintro _ ⟨_, _, rfl, rfl, rfl⟩; exact ⟨[(I x12.1)], [(I x12.2)], rfl, rfl, rfl⟩)) wn ?_
      rintro σ34 ⟨H, -⟩
      have hsl : (Sl Cs s7.1 Ct) = (Sl Cs (s7.1.set s7.2.1.toNat (x12.1, x12.2)) Ct) := sl_len List.length_set.symm
      rw [hsl]; rw [hsl] at H; clear hsl
      refine w_end (q_then (rg (sm (I s7.2.1) rfl (st (v := (I (w64 (s7.2.1 + 1)))) (rv_add (a := s7.2.1) (b := 1) rfl rfl) (sa (I (w64 (s7.2.1 + 1))) rfl (w_end (q_blk ?_)))))))
      obtain rfl := sj h
      exact ⟨rfl, _, σ34, fr_join ⟨rfl, rfl, rfl, rfl, trivial⟩, rfl, H.sel' [0, 1] rfl rfl, ((List.length_set.trans hn9).trans hn9.symm)⟩
     ·replace h := bif_f hb27 h
      refine c_skip (q_blk ?_)
      obtain rfl := sj h
      exact ⟨rfl, _, σ26, fr_join ⟨rfl, rfl, rfl, rfl, trivial⟩, rfl, H.sel' [2, 0] rfl rfl, rfl⟩
    ·clear hj
     have h := h'
     clear h' H
     rintro e a w ⟨rfl, ρ, σ35, rfl, rfl, H, hn36⟩
     refine q_then (rg (sm (I s7.2.2) rfl (st (v := (I (w64 (s7.2.2 + 1)))) (rv_add (a := s7.2.2) (b := 1) rfl rfl) (sa (I (w64 (s7.2.2 + 1))) rfl (w_end (q_then ?_))))))
     obtain rfl := sj h
     exact ⟨_, rfl, _, σ35, fr_join ⟨rfl, rfl, rfl, rfl, trivial⟩, rfl, H.sel' [0, 1] rfl rfl, (hn36.trans hn9)⟩
   ·replace h := bif_f hb10 h
    refine c_exit (q_then_x (q_then_x (q_blk_hit ?_)))
    obtain rfl := sj h
    obtain rfl := hres _ rfl
    exact ⟨rfl, _, σ8, fr_join ⟨rfl, rfl, rfl, trivial⟩, rfl, H.sel' [0, 1] rfl rfl, hn9⟩
  ·clear hj
   have h := h'
   clear h' H
   rintro e a w ⟨rfl, ρ, σ37, rfl, rfl, H, hn38⟩
   refine q_then (c_seq (rg (sm (Sl Cs o6.1 Ct) rfl (sm (I o6.2) rfl ?_))))
   revert h; refine br fun xs39 hx40 h => ?_
   obtain ⟨a41, c42, hs43, -⟩ := (H.own 0 rfl).slice hx40
   refine st (v := (Sl a41 xs39 c42)) (rv_slice_l Try.underlying27 ti35 hs43 rfl rfl) (st_ex0 (ex_clearV (z0 := ((0, 0) : Int × Int)) (zs := [(I 0), (I 0)]) H (i := 0) rfl Try.underlying27 ti35 rfl rfl (⟨[(I 0)], [(I 0)], rfl, rfl, rfl⟩) hx40 hs43 rfl) wn ?_)
   rintro _ σ45 ⟨rfl, H, -⟩
   have hsl : (Sl Cs o6.1 Ct) = (Sl Cs (gcopyAt o6.1 (o6.2).toNat xs39.length (List.replicate xs39.length ((0, 0) : Int × Int))) Ct) := sl_len (gcopyAt_len (by have := gslice_some hx40; omega)).symm
   rw [hsl]; rw [hsl] at H; clear hsl
   refine w_end (q_then (c_seq (rg (sm (Sl Cs (gcopyAt o6.1 (o6.2).toNat xs39.length (List.replicate xs39.length ((0, 0) : Int × Int))) Ct) rfl (sm (I o6.2) rfl ?_)))))
   revert h; refine br fun xs46 hx47 h => ?_
   obtain ⟨a48, c49, hs50, hR51, hb52⟩ := (H.own 0 rfl).slice hx47
   replace H := (H.front (i := 0) rfl).turn (d := Ch.own 0 0 (Sl a48 xs46 c49) xs46) (fun _ => hR51) hb52; clear hR51 hb52
   refine st (v := (Sl a48 xs46 c49)) (rv_slice_h Try.underlying27 ti35 hs50 rfl rfl) (sa (Sl a48 xs46 c49) rfl (w_end (q_then (c_ret ?_))))
   replace H := H.ownSc 0 0 n0 rfl (Nat.le_refl _)
   obtain rfl := sj h
   exact fin_ret (v := (Sl a48 xs46 c49)) (results_ok Try.results65 (res_tmp (v := (Sl a48 xs46 c49)) rfl res_nil) rfl) ⟨a48, c49, rfl, rfl⟩ (H.sel' [0, 1] rfl rfl)

theorem c_impl_WithinDist {Ai : List (Int × (List Int) × Int)} {Ao : Int} {Ap : List Int} {Ei : Int} {Aj : Option Addr} {Ak : Nat} {Ar : Option Addr} {As : Nat} {r : (List (Int × Int))} (h : M.impl_WithinDist Ai Ao Ap Ei = some r) :
    Cal2 Try.prog 22 [(Sl Aj Ai Ak), (I Ao), (Sl Ar Ap As), (I Ei)] [Ch.ro 0 (Sl Aj Ai Ak) Ai, Ch.ro 0 (Sl Ar Ap As) Ap] (fun n0 v L => ∃ (az1 : Option Addr), ∃ (cz2 : Nat), v = (Sl az1 r cz2) ∧ L = [Ch.own 0 n0 (Sl az1 r cz2) r]) := by
 refine cal2 (n := 17) Try.func22 rfl rfl rfl rfl ?_
 intro S0 σ0 n0 hn0 H
 unfold M.impl_WithinDist at h
 refine c_seq (rg (st_ex (ex_box (cs := [(I Ei)]) H hn0 rfl rfl) wn ?_))
 rintro _ σ2 ⟨b1, rfl, H, -⟩
 refine sa (.slice none 0 0) rfl (w_end (q_then (c_seq (c_seq (rg ?_)))))
 have hc3 := H.cell (u := (I Ei)) (o' := 0) 0 0 rfl rfl rfl
 refine st (v := (I Ei)) (rv_load1 Try.underlying3 rfl rfl hc3) (st (v := (B (decide (Ei < 0)))) (rv_lss (a := Ei) (b := 0) rfl rfl) (w_end (q_then ?_)))
 refine cd_cond (decide (Ei < 0)) rfl (fun hb4 => ?_) (fun hb4 => ?_)
 ·replace h := bif_t hb4 h
  refine c_seq (rg (sa (.slice none 0 0) rfl (w_end (q_then (c_ret (q_then_r ?_))))))
  replace H := H.nilOwn (Int × Int) 0 n0
  obtain rfl := sj h
  exact fin_ret (v := (.slice none 0 0)) (results_ok Try.results22 (res_tmp (v := (.slice none 0 0)) rfl res_nil) rfl) ⟨none, 0, rfl, rfl⟩ (H.sel' [0] rfl rfl)
 ·replace h := bif_f hb4 h
  refine c_skip (q_then (c_seq (rg (sm (Sl Aj Ai Ak) rfl (sm (I Ao) rfl (sm (Sl Ar Ap As) rfl ?_))))))
  revert h; refine br fun r5 hx6 h => ?_
  have hc7 := c_impl_Nearest (Aj := Aj) (Ak := Ak) (Ar := Ar) (As := As) hx6
  refine st_call (cx_call hc7 (ent_f hc7.fn rfl) hn0 (H.sel' [1, 2, 0, 1, 2] rfl rfl : Hp S0 σ0 _ ([_, _] ++ _))) wn ?_
  rintro _ σ10 ⟨_, ⟨a8, c9, rfl, rfl⟩, H, -⟩
  replace H : Hp _ _ _ [_, _, _, _] := H
  refine st (v := (.func (.func 66) #[] #[(pt b1 0)])) (rv_makeFunc (vs := [(pt b1 0)]) rfl) ?_
  replace H := H.ownLow 0 0 0 rfl (Nat.zero_le _) (Nat.zero_le _)
  revert h; refine br fun r11 hx12 h => ?_
  have hc13 := c_slices_DeleteFunc_impl_Hit_impl_Hit__impl_WithinDist_1 (Cs := a8) (Ct := c9) (Ed := n0) (Ee := b1) (Ef := 0) (Eg := []) (Eh := []) hx12
  refine st_call (cx_call hc13 (ent_f hc13.fn rfl) hn0 (H.sel' [0, 1, 2, 3] rfl rfl : Hp S0 σ0 _ ([_, _] ++ _))) wn ?_
  rintro _ σ16 ⟨_, ⟨a14, c15, rfl, rfl⟩, H, -⟩
  replace H : Hp _ _ _ [_, _, _, _] := H
  refine sa (Sl a14 r11 c15) rfl (w_end (q_then (c_ret ?_)))
  obtain rfl := sj h
  exact fin_ret (v := (Sl a14 r11 c15)) (results_ok Try.results22 (res_tmp (v := (Sl a14 r11 c15)) rfl res_nil) rfl) ⟨a14, c15, rfl, rfl⟩ (H.sel' [0] rfl rfl)

theorem c_impl_insideBox {Ej : List Int} {Ek : List Int} {El : List Int} {Em : Option Addr} {En : Nat} {Eo : Option Addr} {Ep : Nat} {Er : Option Addr} {Es : Nat} {r : Bool} (h : M.impl_insideBox Ej Ek El = some r) :
    Cal2 Try.prog 68 [(Sl Em Ej En), (Sl Eo Ek Ep), (Sl Er El Es)] [Ch.ro 0 (Sl Em Ej En) Ej, Ch.ro 0 (Sl Eo Ek Ep) Ek, Ch.ro 0 (Sl Er El Es) El] (fun n0 v L => v = (B r) ∧ L = []) := by
 refine cal2 (n := 31) Try.func68 rfl rfl rfl rfl ?_
 intro S0 σ0 n0 hn0 H
 unfold M.impl_insideBox at h
 refine c_seq (rg (sa (B false) rfl (w_end (q_then (c_seq (c_seq (rg (sm (Sl Em Ej En) rfl (st (v := (I (Ej.length : Int))) (rv_len Try.underlying24 rfl) (sm (I 0) rfl (w_end ?_)))))))))))
 refine q_then ?_
 obtain ⟨o1, hj, h'⟩ := bind_some h
 clear h
 refine c_cut (fun e a w => (∃ t, o1 = (.inl t) ∧ e = .normal ∧ ∃ (ρ : Nat → Value) (σ : St), a = fr 31 (updL ρ []) ∧ w = σ.w ∧ Hp S0 σ0 σ []) ∨ (∃ t, o1 = (.inr t) ∧ e = .ret ∧ ∃ (ρ : Nat → Value) (σ : St), a = fr 31 (updL ρ [(6, (B t))]) ∧ w = σ.w ∧ Hp S0 σ0 σ [])) ?_ ?_
 ·clear h'
  rename _ = some o1 => h
  refine c_blk (wp_loopM _ h (fun s2 a w => ∃ (ρ : Nat → Value) (σ : St), a = fr 31 (updL ρ [(1, (Sl Eo Ek Ep)), (2, (Sl Er El Es)), (9, (Sl Em Ej En)), (10, (I (Ej.length : Int))), (11, (I s2))]) ∧ w = σ.w ∧ Hp S0 σ0 σ [Ch.ro 0 (Sl Eo Ek Ep) Ek, Ch.ro 0 (Sl Er El Es) El, Ch.ro 0 (Sl Em Ej En) Ej]) ⟨_, σ0, fr_join ⟨rfl, rfl, rfl, rfl, rfl, trivial⟩, rfl, H.sel' [1, 2, 0] rfl rfl⟩ ?_)
  clear h H
  rintro s2 a w o ⟨ρ, σ3, rfl, rfl, H⟩ h hres
  refine c_seq (rg (st (v := (B (decide (s2 < (Ej.length : Int))))) (rv_lss (a := s2) (b := (Ej.length : Int)) rfl rfl) (w_end (q_then (c_seq ?_)))))
  refine cd_cond (decide (s2 < (Ej.length : Int))) rfl (fun hb4 => ?_) (fun hb4 => ?_)
  ·replace h := bif_t hb4 h
   refine c_skip (q_then (c_seq (c_blk (c_seq (rg (sm (I s2) rfl ?_))))))
   revert h; refine br fun x5 hx6 h => ?_
   obtain ⟨b8, o9, hi7, -⟩ := (H.ro 2 rfl).ix hx6
   refine st (v := (pt b8 o9)) (rv_ix Try.underlying24 ti3 rfl rfl hi7) ?_
   have hc10 := ((H.ro 2 rfl).at hx6 hi7).int
   refine st (v := (I x5)) (rv_load1 Try.underlying3 rfl rfl hc10) (sa (I s2) rfl (sa (I x5) rfl (w_end (q_then (c_seq ?_)))))
   obtain ⟨o11, hj, h'⟩ := bind_some h
   clear h
   refine c_cut (fun e a w => e = .normal ∧ ∃ (ρ : Nat → Value) (σ : St), a = fr 31 (updL ρ [(1, (Sl Eo Ek Ep)), (2, (Sl Er El Es)), (9, (Sl Em Ej En)), (10, (I (Ej.length : Int))), (11, (I s2)), (29, (B o11))]) ∧ w = σ.w ∧ Hp S0 σ0 σ [Ch.ro 0 (Sl Eo Ek Ep) Ek, Ch.ro 0 (Sl Er El Es) El, Ch.ro 0 (Sl Em Ej En) Ej]) ?_ ?_
   ·clear h'
    rename _ = some o11 => h
    refine rg (sm (I x5) rfl (sm (Sl Eo Ek Ep) rfl (sm (I s2) rfl ?_)))
    revert h; refine br fun x12 hx13 h => ?_
    obtain ⟨b15, o16, hi14, -⟩ := (H.ro 0 rfl).ix hx13
    refine st (v := (pt b15 o16)) (rv_ix Try.underlying24 ti3 rfl rfl hi14) ?_
    have hc17 := ((H.ro 0 rfl).at hx13 hi14).int
    refine st (v := (I x12)) (rv_load1 Try.underlying3 rfl rfl hc17) (st (v := (B (decide (x5 < x12)))) (rv_lss (a := x5) (b := x12) rfl rfl) (sm (B (decide (x5 < x12))) rfl ?_))
    rcases Bool.eq_false_or_eq_true (decide (x5 < x12)) with hb18 | hb18
    ·replace h := bif_t hb18 h
     refine st_skip (congrArg some hb18) (st_skip (congrArg some hb18) (st_skip (congrArg some hb18) (st_skip (congrArg some hb18) (st_skip (congrArg some hb18) (st_skip (congrArg some hb18) (st (v := (B true)) (rv_pick_t (congrArg B hb18) rfl) (w_end ?_)))))))
     obtain rfl := sj h
     exact ⟨rfl, _, σ3, fr_join ⟨rfl, rfl, rfl, rfl, rfl, rfl, trivial⟩, rfl, H.sel' [0, 1, 2] rfl rfl⟩
    ·replace h := bif_f hb18 h
     refine st_g (v := (I x5)) (congrArg some hb18) (rv_move rfl) (st_g (v := (Sl Er El Es)) (congrArg some hb18) (rv_move rfl) (st_g (v := (I s2)) (congrArg some hb18) (rv_move rfl) ?_))
     revert h; refine br fun x19 hx20 h => ?_
     obtain ⟨b22, o23, hi21, -⟩ := (H.ro 1 rfl).ix hx20
     refine st_g (v := (pt b22 o23)) (congrArg some hb18) (rv_ix Try.underlying24 ti3 rfl rfl hi21) ?_
     have hc24 := ((H.ro 1 rfl).at hx20 hi21).int
     refine st_g (v := (I x19)) (congrArg some hb18) (rv_load1 Try.underlying3 rfl rfl hc24) (st_g (v := (B (decide (x19 < x5)))) (congrArg some hb18) (rv_gtr (a := x5) (b := x19) rfl rfl) (st (v := (B (decide (x19 < x5)))) (rv_pick_f (congrArg B hb18) rfl) (w_end ?_)))
     obtain rfl := sj h
     exact ⟨rfl, _, σ3, fr_join ⟨rfl, rfl, rfl, rfl, rfl, rfl, trivial⟩, rfl, H.sel' [0, 1, 2] rfl rfl⟩
   ·clear hj
    have h := h'
    clear h' H
    rintro e a w ⟨rfl, ρ, σ25, rfl, rfl, H⟩
    refine q_then ?_
    refine cd_cond o11 rfl (fun hb26 => ?_) (fun hb26 => ?_)
    ·replace h := bif_t hb26 h
     refine c_seq (rg (sa (B false) rfl (w_end (q_then (c_ret (q_blk_r (q_then_r (q_then_r (q_blk_r ?_)))))))))
     obtain rfl := sj h
     obtain rfl := hres _ rfl
     exact .inr (⟨_, rfl, rfl, _, σ25, fr_join ⟨rfl, trivial⟩, rfl, H.sel' [] rfl rfl⟩)
    ·replace h := bif_f hb26 h
     refine c_skip (q_blk (q_then (rg (st (v := (I (w64 (s2 + 1)))) (rv_add (a := s2) (b := 1) rfl rfl) (sm (I (w64 (s2 + 1))) rfl (w_end (q_then ?_)))))))
     obtain rfl := sj h
     exact ⟨_, rfl, _, σ25, fr_join ⟨rfl, rfl, rfl, rfl, rfl, trivial⟩, rfl, H.sel' [0, 1, 2] rfl rfl⟩
  ·replace h := bif_f hb4 h
   refine c_exit (q_then_x (q_then_x (q_blk_hit ?_)))
   obtain rfl := sj h
   obtain rfl := hres _ rfl
   exact .inl ⟨_, rfl, rfl, _, σ3, fr_join trivial, rfl, H.sel' [] rfl rfl⟩
 ·clear hj
  have h := h'
  clear h' H
  rintro e a w (⟨t27, rfl, rfl, ρ, σ28, rfl, rfl, H⟩ | ⟨t29, rfl, rfl, ρ, σ30, rfl, rfl, H⟩)
  ·replace h := selim_l h
   refine q_then (c_seq (rg (sa (B true) rfl (w_end (q_then (c_ret ?_))))))
   obtain rfl := sj h
   exact fin_ret (v := (B true)) (results_ok Try.results68 (res_tmp (v := (B true)) rfl res_nil) rfl) ⟨rfl, rfl⟩ (H.sel' [] rfl rfl)
  ·replace h := selim_r h
   refine q_then_r ?_
   obtain rfl := sj h
   exact fin_ret (v := (B t29)) (results_ok Try.results68 (res_tmp (v := (B t29)) rfl res_nil) rfl) ⟨rfl, rfl⟩ (H.sel' [] rfl rfl)

theorem c_impl_InBox {Ai : List (Int × (List Int) × Int)} {Ek : List Int} {El : List Int} {Aj : Option Addr} {Ak : Nat} {Eo : Option Addr} {Ep : Nat} {Er : Option Addr} {Es : Nat} {r : (List Int)} (h : M.impl_InBox Ai Ek El = some r) :
    Cal2 Try.prog 26 [(Sl Aj Ai Ak), (Sl Eo Ek Ep), (Sl Er El Es)] [Ch.ro 0 (Sl Aj Ai Ak) Ai, Ch.ro 0 (Sl Eo Ek Ep) Ek, Ch.ro 0 (Sl Er El Es) El] (fun n0 v L => ∃ (az1 : Option Addr), ∃ (cz2 : Nat), v = (Sl az1 r cz2) ∧ L = [Ch.own n0 n0 (Sl az1 r cz2) r]) := by
 refine cal2 (n := 41) Try.func26 rfl rfl rfl rfl ?_
 intro S0 σ0 n0 hn0 H
 unfold M.impl_InBox at h
 refine c_seq (rg (sa (.slice none 0 0) rfl (w_end (q_then (c_seq (c_seq ?_))))))
 obtain ⟨o1, hj, h'⟩ := bind_some h
 clear h
 refine c_cut (fun e a w => e = .normal ∧ ∃ (ρ : Nat → Value) (σ : St), a = fr 41 (updL ρ [(0, (Sl Aj Ai Ak)), (1, (Sl Eo Ek Ep)), (2, (Sl Er El Es)), (22, (B o1))]) ∧ w = σ.w ∧ Hp S0 σ0 σ [Ch.ro 0 (Sl Aj Ai Ak) Ai, Ch.ro 0 (Sl Eo Ek Ep) Ek, Ch.ro 0 (Sl Er El Es) El]) ?_ ?_
 ·clear h'
  rename _ = some o1 => h
  refine rg (sm (Sl Aj Ai Ak) rfl ?_)
  revert h; refine br fun r2 hx3 h => ?_
  have hc4 := c_impl_ValidStore (Aj := Aj) (Ak := Ak) hx3
  refine st_call (cx_call hc4 (ent_f hc4.fn rfl) hn0 (H.sel' [0, 0, 1, 2] rfl rfl : Hp S0 σ0 _ ([_] ++ _))) wn ?_
  rintro _ σ5 ⟨_, ⟨rfl, rfl⟩, H, -⟩
  replace H : Hp _ _ _ [_, _, _] := H
  refine st (v := (B (!r2))) (rv_not rfl) (sm (B (!r2)) rfl ?_)
  rcases Bool.eq_false_or_eq_true (!r2) with hb6 | hb6
  ·replace h := bif_t hb6 h
   refine st_skip (congrArg some hb6) (st_skip (congrArg some hb6) (st_skip (congrArg some hb6) (st (v := (B true)) (rv_pick_t (congrArg B hb6) rfl) (sm (B true) rfl (st_skip rfl (st_skip rfl (st_skip rfl (st (v := (B true)) (rv_pick_t rfl rfl) (w_end ?_)))))))))
   obtain rfl := sj h
   exact ⟨rfl, _, σ5, fr_join ⟨rfl, rfl, rfl, rfl, trivial⟩, rfl, H.sel' [0, 1, 2] rfl rfl⟩
  ·replace h := bif_f hb6 h
   refine st_g (v := (Sl Eo Ek Ep)) (congrArg some hb6) (rv_move rfl) ?_
   revert h; refine br fun r7 hx8 h => ?_
   have hc9 := c_impl_ValidVector (Ac := Eo) (Ad := Ep) hx8
   refine st_call (cx_call hc9 (ent_f hc9.fn rfl) hn0 (H.sel' [1, 0, 1, 2] rfl rfl : Hp S0 σ0 _ ([_] ++ _))) (wanted_yes rfl (by exact (congrArg some hb6))) ?_
   rintro _ σ10 ⟨_, ⟨rfl, rfl⟩, H, -⟩
   replace H : Hp _ _ _ [_, _, _] := H
   refine st_g (v := (B (!r7))) (congrArg some hb6) (rv_not rfl) (st (v := (B (!r7))) (rv_pick_f (congrArg B hb6) rfl) (sm (B (!r7)) rfl ?_))
   rcases Bool.eq_false_or_eq_true (!r7) with hb11 | hb11
   ·replace h := bif_t hb11 h
    refine st_skip (congrArg some hb11) (st_skip (congrArg some hb11) (st_skip (congrArg some hb11) (st (v := (B true)) (rv_pick_t (congrArg B hb11) rfl) (w_end ?_))))
    obtain rfl := sj h
    exact ⟨rfl, _, σ10, fr_join ⟨rfl, rfl, rfl, rfl, trivial⟩, rfl, H.sel' [0, 1, 2] rfl rfl⟩
   ·replace h := bif_f hb11 h
    refine st_g (v := (Sl Er El Es)) (congrArg some hb11) (rv_move rfl) ?_
    revert h; refine br fun r12 hx13 h => ?_
    have hc14 := c_impl_ValidVector (Ac := Er) (Ad := Es) hx13
    refine st_call (cx_call hc14 (ent_f hc14.fn rfl) hn0 (H.sel' [2, 0, 1, 2] rfl rfl : Hp S0 σ0 _ ([_] ++ _))) (wanted_yes rfl (by exact (congrArg some hb11))) ?_
    rintro _ σ15 ⟨_, ⟨rfl, rfl⟩, H, -⟩
    replace H : Hp _ _ _ [_, _, _] := H
    refine st_g (v := (B (!r12))) (congrArg some hb11) (rv_not rfl) (st (v := (B (!r12))) (rv_pick_f (congrArg B hb11) rfl) (w_end ?_))
    obtain rfl := sj h
    exact ⟨rfl, _, σ15, fr_join ⟨rfl, rfl, rfl, rfl, trivial⟩, rfl, H.sel' [0, 1, 2] rfl rfl⟩
 ·clear hj
  have h := h'
  clear h' H
  rintro e a w ⟨rfl, ρ, σ16, rfl, rfl, H⟩
  refine q_then ?_
  refine cd_cond o1 rfl (fun hb17 => ?_) (fun hb17 => ?_)
  ·replace h := bif_t hb17 h
   refine c_seq (rg (sa (.slice none 0 0) rfl (w_end (q_then (c_ret (q_then_r ?_))))))
   replace H := H.nilOwn Int n0 n0
   obtain rfl := sj h
   exact fin_ret (v := (.slice none 0 0)) (results_ok Try.results26 (res_tmp (v := (.slice none 0 0)) rfl res_nil) rfl) ⟨none, 0, rfl, rfl⟩ (H.sel' [0] rfl rfl)
  ·replace h := bif_f hb17 h
   refine c_skip (q_then (c_seq (rg (sa (.slice none 0 0) rfl (w_end (q_then (c_seq (c_seq (rg (sm (Sl Aj Ai Ak) rfl (st (v := (I (Ai.length : Int))) (rv_len Try.underlying23 rfl) ?_)))))))))))
   refine sm (I 0) rfl (w_end (q_then ?_))
   obtain ⟨o18, hj, h'⟩ := bind_some h
   clear h
   refine c_cut (fun e a w => e = .normal ∧ ∃ (ρ : Nat → Value) (σ : St) (aj1 : Option Addr) (cj2 : Nat), a = fr 41 (updL ρ [(7, (Sl aj1 o18 cj2))]) ∧ w = σ.w ∧ Hp S0 σ0 σ [Ch.own n0 n0 (Sl aj1 o18 cj2) o18]) ?_ ?_
   ·clear h'
    rename _ = some o18 => h
    refine c_blk ?_
    replace H := H.nilOwn Int n0 n0
    refine wp_loopM _ h (fun s19 a w => ∃ (ρ : Nat → Value) (σ : St) (aj1 : Option Addr) (cj2 : Nat), a = fr 41 (updL ρ [(1, (Sl Eo Ek Ep)), (2, (Sl Er El Es)), (7, (Sl aj1 s19.1 cj2)), (23, (Sl Aj Ai Ak)), (24, (I (Ai.length : Int))), (25, (I s19.2))]) ∧ w = σ.w ∧ Hp S0 σ0 σ [Ch.ro 0 (Sl Eo Ek Ep) Ek, Ch.ro 0 (Sl Er El Es) El, Ch.own n0 n0 (Sl aj1 s19.1 cj2) s19.1, Ch.ro 0 (Sl Aj Ai Ak) Ai]) ⟨_, σ16, none, 0, fr_join ⟨rfl, rfl, rfl, rfl, rfl, rfl, trivial⟩, rfl, H.sel' [2, 3, 0, 1] rfl rfl⟩ ?_
    clear h H
    rintro s19 a w o ⟨ρ, σ20, a21, c22, rfl, rfl, H⟩ h hres
    refine c_seq (rg (st (v := (B (decide (s19.2 < (Ai.length : Int))))) (rv_lss (a := s19.2) (b := (Ai.length : Int)) rfl rfl) (w_end (q_then (c_seq ?_)))))
    refine cd_cond (decide (s19.2 < (Ai.length : Int))) rfl (fun hb23 => ?_) (fun hb23 => ?_)
    ·replace h := bif_t hb23 h
     refine c_skip (q_then (c_seq ?_))
     obtain ⟨o24, hj, h'⟩ := bind_some h
     clear h
     refine c_cut (fun e a w => e = .normal ∧ ∃ (ρ : Nat → Value) (σ : St) (aj1 : Option Addr) (cj2 : Nat), a = fr 41 (updL ρ [(1, (Sl Eo Ek Ep)), (2, (Sl Er El Es)), (7, (Sl aj1 o24 cj2)), (23, (Sl Aj Ai Ak)), (24, (I (Ai.length : Int))), (25, (I s19.2))]) ∧ w = σ.w ∧ Hp S0 σ0 σ [Ch.ro 0 (Sl Eo Ek Ep) Ek, Ch.ro 0 (Sl Er El Es) El, Ch.own n0 n0 (Sl aj1 o24 cj2) o24, Ch.ro 0 (Sl Aj Ai Ak) Ai]) ?_ ?_
     ·clear h'
      rename _ = some o24 => h
      refine c_blk (c_seq (rg ?_))
      revert h; refine br fun x25 hx26 h => ?_
      obtain ⟨b28, o29, hi27, -⟩ := (H.ro 3 rfl).ix hx26
      refine st (v := (pt b28 o29)) (rv_ix Try.underlying23 ti31 rfl rfl hi27) ?_
      obtain ⟨_, ⟨_, _, rfl, rfl, ⟨_, _, rfl, ⟨_, rfl, hR34⟩, rfl⟩⟩, hl30, hc31⟩ := ((H.ro 3 rfl).at hx26 hi27).cells
      obtain ⟨a32, c33, rfl⟩ := hR34.isSl
      replace H := H.add (d := Ch.ro 0 (Sl a32 x25.2.1 c33) x25.2.1) hR34 (fun _ h => h)
      clear hR34
      refine st (v := (.agg #[(I x25.1), (Sl a32 x25.2.1 c33), (I x25.2.2)])) (rv_load Try.underlying31 rfl ti31 rfl hl30 hc31) (st_ex (ex_alloc (cs := [(I 0), (.slice none 0 0), (I 0)]) H hn0 ti31 rfl) wn ?_)
      rintro _ σ36 ⟨b35, rfl, H, -⟩
      refine st_exS (ex_store_box (k := 0) (cs := [(I 0), (.slice none 0 0), (I 0)]) (vs := [(I x25.1), (Sl a32 x25.2.1 c33), (I x25.2.2)]) (cs' := [(I x25.1), (Sl a32 x25.2.1 c33), (I x25.2.2)]) H (i := 0) rfl ti31 rfl rfl rfl rfl rfl (Nat.le_of_ble_eq_true rfl) (by simp [plain]) rfl) wn ?_
      rintro σ37 ⟨H, -⟩
      refine w_end (q_then (c_seq (rg (st (v := (pt b35 1)) (rv_fieldAddr (off := 1) (ft := 24) Try.underlying31 rfl ti24 rfl rfl) ?_))))
      have hc38 := H.cell (u := (Sl a32 x25.2.1 c33)) (o' := 1) 0 1 rfl rfl rfl
      refine st (v := (Sl a32 x25.2.1 c33)) (rv_load1 Try.underlying24 rfl rfl hc38) (sm (Sl Eo Ek Ep) rfl (sm (Sl Er El Es) rfl ?_))
      revert h; refine br fun r39 hx40 h => ?_
      have hc41 := c_impl_insideBox (Em := a32) (En := c33) (Eo := Eo) (Ep := Ep) (Er := Er) (Es := Es) hx40
      refine st_call (cx_call hc41 (ent_f hc41.fn rfl) hn0 (H.sel' [1, 2, 3, 0, 1, 2, 3, 4, 5] rfl rfl : Hp S0 σ0 _ ([_, _, _] ++ _))) wn ?_
      rintro _ σ42 ⟨_, ⟨rfl, rfl⟩, H, -⟩
      replace H : Hp _ _ _ [_, _, _, _, _, _] := H
      refine w_end (q_then ?_)
      refine cd_cond r39 rfl (fun hb43 => ?_) (fun hb43 => ?_)
      ·replace h := bif_t hb43 h
       refine rg (sm (Sl a21 s19.1 c22) rfl (st (v := (pt b35 0)) (rv_fieldAddr (off := 0) (ft := 3) Try.underlying31 rfl ti3 rfl rfl) ?_))
       have hc44 := H.cell (u := (I x25.1)) (o' := 0) 0 0 rfl rfl rfl
       refine st (v := (I x25.1)) (rv_load1 Try.underlying3 rfl rfl hc44) ?_
       refine st_ex (ex_buildSlice (el := n0) (xs := ([x25.1] : List Int)) (ps := [(0, (I x25.1))]) (cs := [(I x25.1)]) H hn0 Try.underlying24 ti3 rfl rfl (by kernel_rfl) (.cons (c := [(I x25.1)]) rfl (.nil)) rfl) wn ?_
       rintro _ σ46 ⟨b45, rfl, H, -⟩
       revert h; refine br fun xs47 hx48 h => ?_
       refine st_ex (ex_append H (i := 5) rfl Try.underlying24 Try.underlying24 ti3 rfl rfl (by decide) (H.own 0 rfl).rd hx48 hn0 rfl rfl) wn ?_
       rintro _ σ51 ⟨a49, c50, rfl, H, -⟩
       refine sa (Sl a49 xs47 c50) rfl (w_end (q_blk ?_))
       obtain rfl := sj h
       exact ⟨rfl, _, σ51, a49, c50, fr_join ⟨rfl, rfl, rfl, rfl, rfl, rfl, trivial⟩, rfl, H.sel' [4, 5, 0, 6] rfl rfl⟩
      ·replace h := bif_f hb43 h
       refine c_skip (q_blk ?_)
       obtain rfl := sj h
       exact ⟨rfl, _, σ42, a21, c22, fr_join ⟨rfl, rfl, rfl, rfl, rfl, rfl, trivial⟩, rfl, H.sel' [2, 3, 4, 5] rfl rfl⟩
     ·clear hj
      have h := h'
      clear h' H
      rintro e a w ⟨rfl, ρ, σ52, a53, c54, rfl, rfl, H⟩
      refine q_then (rg (st (v := (I (w64 (s19.2 + 1)))) (rv_add (a := s19.2) (b := 1) rfl rfl) (sm (I (w64 (s19.2 + 1))) rfl (w_end (q_then ?_)))))
      obtain rfl := sj h
      exact ⟨_, rfl, _, σ52, a53, c54, fr_join ⟨rfl, rfl, rfl, rfl, rfl, rfl, trivial⟩, rfl, H.sel' [0, 1, 2, 3] rfl rfl⟩
    ·replace h := bif_f hb23 h
     refine c_exit (q_then_x (q_then_x (q_blk_hit ?_)))
     obtain rfl := sj h
     obtain rfl := hres _ rfl
     exact ⟨rfl, _, σ20, a21, c22, fr_join ⟨rfl, trivial⟩, rfl, H.sel' [2] rfl rfl⟩
   ·clear hj
    have h := h'
    clear h' H
    rintro e a w ⟨rfl, ρ, σ55, a56, c57, rfl, rfl, H⟩
    refine q_then (c_seq (rg (sm (Sl a56 o18 c57) rfl (sa (Sl a56 o18 c57) rfl (w_end (q_then (c_ret ?_)))))))
    obtain rfl := sj h
    exact fin_ret (v := (Sl a56 o18 c57)) (results_ok Try.results26 (res_tmp (v := (Sl a56 o18 c57)) rfl res_nil) rfl) ⟨a56, c57, rfl, rfl⟩ (H.sel' [0] rfl rfl)

theorem c_laws_keys {Ai : List (Int × Int)} {Aj : Option Addr} {Ak : Nat} {r : (List Int)} (h : M.laws_keys Ai = some r) :
    Cal2 Try.prog 34 [(Sl Aj Ai Ak)] [Ch.ro 0 (Sl Aj Ai Ak) Ai] (fun n0 v L => ∃ (az1 : Option Addr), ∃ (cz2 : Nat), v = (Sl az1 r cz2) ∧ L = [Ch.own n0 n0 (Sl az1 r cz2) r]) := by
 refine cal2 (n := 21) Try.func34 rfl rfl rfl rfl ?_
 intro S0 σ0 n0 hn0 H
 unfold M.laws_keys at h
 refine c_seq (rg (sa (.slice none 0 0) rfl (w_end (q_then (c_seq (rg ?_))))))
 refine st_ex (ex_buildSlice (el := n0) (xs := ([] : List Int)) (ps := []) (cs := []) H hn0 Try.underlying24 ti3 rfl rfl (by kernel_rfl) (.nil) rfl) wn ?_
 rintro _ σ2 ⟨b1, rfl, H, -⟩
 refine sa (Sl (some ⟨b1, 0, none⟩) ([] : List Int) 0) rfl (w_end (q_then (c_seq (c_seq (rg (sa (I 0) rfl (w_end (q_then ?_))))))))
 obtain ⟨o3, hj, h'⟩ := bind_some h
 clear h
 refine c_cut (fun e a w => e = .normal ∧ ∃ (ρ : Nat → Value) (σ : St) (aj1 : Option Addr) (cj2 : Nat), a = fr 21 (updL ρ [(3, (Sl aj1 o3 cj2))]) ∧ w = σ.w ∧ Hp S0 σ0 σ [Ch.own n0 n0 (Sl aj1 o3 cj2) o3]) ?_ ?_
 ·clear h'
  rename _ = some o3 => h
  refine c_blk (wp_loopM _ h (fun s4 a w => ∃ (ρ : Nat → Value) (σ : St) (aj1 : Option Addr) (cj2 : Nat), a = fr 21 (updL ρ [(0, (Sl Aj Ai Ak)), (3, (Sl aj1 s4.1 cj2)), (4, (I s4.2))]) ∧ w = σ.w ∧ Hp S0 σ0 σ [Ch.ro 0 (Sl Aj Ai Ak) Ai, Ch.own n0 n0 (Sl aj1 s4.1 cj2) s4.1]) ⟨_, σ2, (some ⟨b1, 0, none⟩), 0, fr_join ⟨rfl, rfl, rfl, trivial⟩, rfl, H.sel' [1, 0] rfl rfl⟩ ?_)
  clear h H
  rintro s4 a w o ⟨ρ, σ5, a6, c7, rfl, rfl, H⟩ h hres
  refine c_seq (c_seq (rg (sm (I s4.2) rfl (sm (Sl Aj Ai Ak) rfl (st (v := (I (Ai.length : Int))) (rv_len Try.underlying27 rfl) (st (v := (B (decide (s4.2 < (Ai.length : Int))))) (rv_lss (a := s4.2) (b := (Ai.length : Int)) rfl rfl) (w_end (q_then ?_))))))))
  refine cd_cond (decide (s4.2 < (Ai.length : Int))) rfl (fun hb8 => ?_) (fun hb8 => ?_)
  ·replace h := bif_t hb8 h
   refine c_skip (q_then (c_seq (c_blk (rg (sm (Sl a6 s4.1 c7) rfl (sm (Sl Aj Ai Ak) rfl (sm (I s4.2) rfl ?_)))))))
   revert h; refine br fun x9 hx10 h => ?_
   obtain ⟨b12, o13, hi11, -⟩ := (H.ro 0 rfl).ix hx10
   refine st (v := (pt b12 o13)) (rv_ix Try.underlying27 ti35 rfl rfl hi11) (st (v := (pt b12 (o13 + 0))) (rv_fieldAddr (off := 0) (ft := 3) Try.underlying35 rfl ti3 rfl rfl) ?_)
   have hc14 := ((H.ro 0 rfl).at hx10 hi11).fst.int
   refine st (v := (I x9.1)) (rv_load1 Try.underlying3 rfl rfl hc14) ?_
   refine st_ex (ex_buildSlice (el := n0) (xs := ([x9.1] : List Int)) (ps := [(0, (I x9.1))]) (cs := [(I x9.1)]) H hn0 Try.underlying24 ti3 rfl rfl (by kernel_rfl) (.cons (c := [(I x9.1)]) rfl (.nil)) rfl) wn ?_
   rintro _ σ16 ⟨b15, rfl, H, -⟩
   revert h; refine br fun xs17 hx18 h => ?_
   refine st_ex (ex_append H (i := 2) rfl Try.underlying24 Try.underlying24 ti3 rfl rfl (by decide) (H.own 0 rfl).rd hx18 hn0 rfl rfl) wn ?_
   rintro _ σ21 ⟨a19, c20, rfl, H, -⟩
   refine sa (Sl a19 xs17 c20) rfl (w_end (q_blk (q_then (rg (sm (I s4.2) rfl (st (v := (I (w64 (s4.2 + 1)))) (rv_add (a := s4.2) (b := 1) rfl rfl) (sa (I (w64 (s4.2 + 1))) rfl (w_end (q_then ?_)))))))))
   obtain rfl := sj h
   exact ⟨_, rfl, _, σ21, a19, c20, fr_join ⟨rfl, rfl, rfl, trivial⟩, rfl, H.sel' [2, 0] rfl rfl⟩
  ·replace h := bif_f hb8 h
   refine c_exit (q_then_x (q_then_x (q_blk_hit ?_)))
   obtain rfl := sj h
   obtain rfl := hres _ rfl
   exact ⟨rfl, _, σ5, a6, c7, fr_join ⟨rfl, trivial⟩, rfl, H.sel' [1] rfl rfl⟩
 ·clear hj
  have h := h'
  clear h' H
  rintro e a w ⟨rfl, ρ, σ22, a23, c24, rfl, rfl, H⟩
  refine q_then (c_seq (rg (sm (Sl a23 o3 c24) rfl (sa (Sl a23 o3 c24) rfl (w_end (q_then (c_ret ?_)))))))
  obtain rfl := sj h
  exact fin_ret (v := (Sl a23 o3 c24)) (results_ok Try.results34 (res_tmp (v := (Sl a23 o3 c24)) rfl res_nil) rfl) ⟨a23, c24, rfl, rfl⟩ (H.sel' [0] rfl rfl)

theorem c_spec_newReader {Et : List UInt8} {Eu : Option Addr} {Ev : Nat} {r : ((List UInt8) × Int)} (h : M.spec_newReader Et = some r) :
    Cal2 Try.prog 48 [(Sl Eu Et Ev)] [Ch.ro 0 (Sl Eu Et Ev) Et] (fun n0 v L => ∃ (bz1 : Nat), ∃ (az2 : Option Addr), ∃ (cz3 : Nat), v = (pt bz1 0) ∧ L = [Ch.bx n0 bz1 0 [(Sl az2 r.1 cz3), (I r.2)] [] [], Ch.ro 0 (Sl az2 r.1 cz3) r.1]) := by
 refine cal2 (n := 11) Try.func48 rfl rfl rfl rfl ?_
 intro S0 σ0 n0 hn0 H
 unfold M.spec_newReader at h
 refine c_seq (rg (sa (.pointer none) rfl (w_end (q_then (c_seq (c_seq (rg (sm (Sl Eu Et Ev) rfl (st (v := (I (Et.length : Int))) (rv_len Try.underlying22 rfl) (st (v := (B (decide (2000 < (Et.length : Int))))) (rv_gtr (a := (Et.length : Int)) (b := 2000) rfl rfl) (w_end ?_)))))))))))
 refine q_then ?_
 obtain ⟨o1, hj, h'⟩ := bind_some h
 clear h
 refine c_cut (fun e a w => e = .normal ∧ ∃ (ρ : Nat → Value) (σ : St) (aj1 : Option Addr) (cj2 : Nat), a = fr 11 (updL ρ [(0, (Sl aj1 o1 cj2))]) ∧ w = σ.w ∧ Hp S0 σ0 σ [Ch.ro 0 (Sl aj1 o1 cj2) o1]) ?_ ?_
 ·clear h'
  rename _ = some o1 => h
  refine cd_cond (decide (2000 < (Et.length : Int))) rfl (fun hb2 => ?_) (fun hb2 => ?_)
  ·replace h := bif_t hb2 h
   refine rg (sm (Sl Eu Et Ev) rfl ?_)
   revert h; refine br fun xs3 hx4 h => ?_
   obtain ⟨a5, c6, hs7, hR8⟩ := (H.ro 0 rfl).slice hx4
   replace H := H.add (d := Ch.ro 0 (Sl a5 xs3 c6) xs3) hR8 (fun _ h => h)
   clear hR8
   refine st (v := (Sl a5 xs3 c6)) (rv_slice_h Try.underlying22 ti5 hs7 rfl rfl) (sa (Sl a5 xs3 c6) rfl (w_end ?_))
   obtain rfl := sj h
   exact ⟨rfl, _, σ0, a5, c6, fr_join ⟨rfl, trivial⟩, rfl, H.sel' [0] rfl rfl⟩
  ·replace h := bif_f hb2 h
   refine c_skip ?_
   obtain rfl := sj h
   exact ⟨rfl, _, σ0, Eu, Ev, fr_join ⟨rfl, trivial⟩, rfl, H.sel' [0] rfl rfl⟩
 ·clear hj
  have h := h'
  clear h' H
  rintro e a w ⟨rfl, ρ, σ9, a10, c11, rfl, rfl, H⟩
  refine q_then (c_seq (rg (sm (Sl a10 o1 c11) rfl ?_)))
  refine st (v := (.agg #[(Sl a10 o1 c11), (I 0)])) (rv_build (ps := [(0, (Sl a10 o1 c11))]) Try.underlying94 ti94 (bp94 Try.underlying94) rfl (by kernel_rfl)) ?_
  refine st_ex (ex_box (cs := [(Sl a10 o1 c11), (I 0)]) H hn0 rfl rfl) wn ?_
  rintro _ σ13 ⟨b12, rfl, H, -⟩
  refine sa (pt b12 0) rfl (w_end (q_then (c_ret ?_)))
  obtain rfl := sj h
  exact fin_ret (v := (pt b12 0)) (results_ok Try.results48 (res_tmp (v := (pt b12 0)) rfl res_nil) rfl) ⟨b12, a10, c11, rfl, rfl⟩ (H.sel' [0, 1] rfl rfl)

theorem c_spec_reader_pick {Ck : (List UInt8) × Int} {Ew : Int} {Ey : Option Addr} {Ez : Nat} {Cl Cm Cn : Nat} {Cp Cq : List Value} {r : Int × ((List UInt8) × Int)} (h : M.spec_reader_pick Ck Ew = some r) :
    Cal2 Try.prog 52 [(pt Cm Cn), (I Ew)] [Ch.bx Cl Cm Cn [(Sl Ey Ck.1 Ez), (I Ck.2)] Cp Cq, Ch.ro 0 (Sl Ey Ck.1 Ez) Ck.1] (fun n0 v L => ∃ (az1 : Option Addr), ∃ (cz2 : Nat), v = (I r.1) ∧ L = [Ch.bx Cl Cm Cn [(Sl az1 r.2.1 cz2), (I r.2.2)] Cp Cq, Ch.ro 0 (Sl az1 r.2.1 cz2) r.2.1]) := by
 refine cal2 (n := 99) Try.func52 rfl rfl rfl rfl ?_
 intro S0 σ0 n0 hn0 H
 unfold M.spec_reader_pick at h
 refine c_seq (rg (sa (I 0) rfl (w_end (q_then (c_seq (rg (sm (pt Cm Cn) rfl (sm (pt Cm Cn) rfl (st (v := (pt Cm Cn)) (rv_nilCheck rfl) (st (v := (pt Cm (Cn + 1))) (rv_fieldAddr (off := 1) (ft := 3) Try.underlying94 rfl ti3 rfl rfl) ?_))))))))))
 have hc1 := H.cell (u := (I Ck.2)) (o' := (Cn + 1)) 0 1 rfl rfl rfl
 refine st (v := (I Ck.2)) (rv_load1 Try.underlying3 rfl rfl hc1) (st (v := (I (w64 (Ck.2 + 1)))) (rv_add (a := Ck.2) (b := 1) rfl rfl) (st (v := (pt Cm Cn)) (rv_nilCheck rfl) (st (v := (pt Cm (Cn + 1))) (rv_fieldAddr (off := 1) (ft := 3) Try.underlying94 rfl ti3 rfl rfl) ?_)))
 refine st_exS (ex_store_box (k := 1) (cs := [(Sl Ey Ck.1 Ez), (I Ck.2)]) (vs := [(I (w64 (Ck.2 + 1)))]) (cs' := [(Sl Ey Ck.1 Ez), (I (w64 (Ck.2 + 1)))]) H (i := 0) rfl ti3 rfl rfl rfl rfl rfl (Nat.le_of_ble_eq_true rfl) (by simp [plain]) rfl) wn ?_
 rintro σ2 ⟨H, -⟩
 refine w_end (q_then (c_seq (c_seq ?_)))
 obtain ⟨o3, hj, h'⟩ := bind_some h
 clear h
 refine c_cut (fun e a w => e = .normal ∧ ∃ (ρ : Nat → Value) (σ : St), a = fr 99 (updL ρ [(0, (pt Cm Cn)), (1, (I Ew)), (24, (B o3))]) ∧ w = σ.w ∧ Hp S0 σ0 σ [Ch.ro 0 (Sl Ey Ck.1 Ez) Ck.1, Ch.bx Cl Cm Cn [(Sl Ey Ck.1 Ez), (I (w64 (Ck.2 + 1)))] Cp Cq]) ?_ ?_
 ·clear h'
  rename _ = some o3 => h
  refine rg (sm (I Ew) rfl (st (v := (B (decide (Ew < 1)))) (rv_lss (a := Ew) (b := 1) rfl rfl) (sm (B (decide (Ew < 1))) rfl ?_)))
  rcases Bool.eq_false_or_eq_true (decide (Ew < 1)) with hb4 | hb4
  ·replace h := bif_t hb4 h
   refine st_skip (congrArg some hb4) (st_skip (congrArg some hb4) (st_skip (congrArg some hb4) (st_skip (congrArg some hb4) (st_skip (congrArg some hb4) (st_skip (congrArg some hb4) (st (v := (B true)) (rv_pick_t (congrArg B hb4) rfl) (w_end ?_)))))))
   obtain rfl := sj h
   exact ⟨rfl, _, σ2, fr_join ⟨rfl, rfl, rfl, trivial⟩, rfl, H.sel' [1, 0] rfl rfl⟩
  ·replace h := bif_f hb4 h
   refine st_g (v := (pt Cm Cn)) (congrArg some hb4) (rv_move rfl) (st_g (v := (pt Cm Cn)) (congrArg some hb4) (rv_nilCheck rfl) (st_g (v := (pt Cm Cn)) (congrArg some hb4) (rv_fieldAddr (off := 0) (ft := 22) Try.underlying94 rfl ti22 rfl rfl) ?_))
   have hc5 := H.cell (u := (Sl Ey Ck.1 Ez)) (o' := Cn) 0 0 rfl rfl rfl
   refine st_g (v := (Sl Ey Ck.1 Ez)) (congrArg some hb4) (rv_load1 Try.underlying22 rfl rfl hc5) (st_g (v := (I (Ck.1.length : Int))) (congrArg some hb4) (rv_len Try.underlying22 rfl) (st_g (v := (B ((Ck.1.length : Int) == 0))) (congrArg some hb4) (rv_eql (a := (Ck.1.length : Int)) (b := 0) rfl rfl) (st (v := (B ((Ck.1.length : Int) == 0))) (rv_pick_f (congrArg B hb4) rfl) (w_end ?_))))
   obtain rfl := sj h
   exact ⟨rfl, _, σ2, fr_join ⟨rfl, rfl, rfl, trivial⟩, rfl, H.sel' [1, 0] rfl rfl⟩
 ·clear hj
  have h := h'
  clear h' H
  rintro e a w ⟨rfl, ρ, σ6, rfl, rfl, H⟩
  refine q_then ?_
  refine cd_cond o3 rfl (fun hb7 => ?_) (fun hb7 => ?_)
  ·replace h := bif_t hb7 h
   refine c_seq (rg (sa (I 0) rfl (w_end (q_then (c_ret (q_then_r ?_))))))
   obtain rfl := sj h
   exact fin_ret (v := (I 0)) (results_ok Try.results52 (res_tmp (v := (I 0)) rfl res_nil) rfl) ⟨Ey, Ez, rfl, rfl⟩ (H.sel' [1, 0] rfl rfl)
  ·replace h := bif_f hb7 h
   refine c_skip (q_then (c_seq (rg (sm (pt Cm Cn) rfl (st (v := (pt Cm Cn)) (rv_nilCheck rfl) (st (v := (pt Cm (Cn + 1))) (rv_fieldAddr (off := 1) (ft := 3) Try.underlying94 rfl ti3 rfl rfl) ?_))))))
   have hc8 := H.cell (u := (I (w64 (Ck.2 + 1)))) (o' := (Cn + 1)) 1 1 rfl rfl rfl
   refine st (v := (I (w64 (Ck.2 + 1)))) (rv_load1 Try.underlying3 rfl rfl hc8) (st (v := (I (w64 ((w64 (Ck.2 + 1)) - 1)))) (rv_sub (a := (w64 (Ck.2 + 1))) (b := 1) rfl rfl) (sa (I (w64 ((w64 (Ck.2 + 1)) - 1))) rfl (w_end (q_then (c_seq (c_seq (rg (sm (I (w64 ((w64 (Ck.2 + 1)) - 1))) rfl (sm (pt Cm Cn) rfl (st (v := (pt Cm Cn)) (rv_nilCheck rfl) (st (v := (pt Cm Cn)) (rv_fieldAddr (off := 0) (ft := 22) Try.underlying94 rfl ti22 rfl rfl) ?_)))))))))))
   have hc9 := H.cell (u := (Sl Ey Ck.1 Ez)) (o' := Cn) 1 0 rfl rfl rfl
   refine st (v := (Sl Ey Ck.1 Ez)) (rv_load1 Try.underlying22 rfl rfl hc9) (st (v := (I (Ck.1.length : Int))) (rv_len Try.underlying22 rfl) (st (v := (B (decide ((w64 ((w64 (Ck.2 + 1)) - 1)) < (Ck.1.length : Int))))) (rv_lss (a := (w64 ((w64 (Ck.2 + 1)) - 1))) (b := (Ck.1.length : Int)) rfl rfl) (w_end (q_then ?_))))
   refine cd_cond (decide ((w64 ((w64 (Ck.2 + 1)) - 1)) < (Ck.1.length : Int))) rfl (fun hb10 => ?_) (fun hb10 => ?_)
   ·replace h := bif_t hb10 h
    refine c_seq (rg (sm (pt Cm Cn) rfl (st (v := (pt Cm Cn)) (rv_nilCheck rfl) (st (v := (pt Cm Cn)) (rv_fieldAddr (off := 0) (ft := 22) Try.underlying94 rfl ti22 rfl rfl) ?_))))
    have hc11 := H.cell (u := (Sl Ey Ck.1 Ez)) (o' := Cn) 1 0 rfl rfl rfl
    refine st (v := (Sl Ey Ck.1 Ez)) (rv_load1 Try.underlying22 rfl rfl hc11) (sm (I (w64 ((w64 (Ck.2 + 1)) - 1))) rfl ?_)
    revert h; refine br fun x12 hx13 h => ?_
    obtain ⟨b15, o16, hi14, -⟩ := (H.ro 0 rfl).ix hx13
    refine st (v := (pt b15 o16)) (rv_ix Try.underlying22 ti5 rfl rfl hi14) ?_
    have hc17 := ((H.ro 0 rfl).at hx13 hi14).byte
    refine st (v := (.int .u8 (x12.toNat : Int))) (rv_load1 Try.underlying5 rfl rfl hc17) (st (v := (I (w64 (x12.toNat : Int)))) (rv_conv Try.underlying5 Try.underlying3 rfl) (sm (I Ew) rfl ?_))
    revert h; refine br fun q18 hx19 h => ?_
    refine st (v := (I q18)) (rv_remG (a := (w64 (x12.toNat : Int))) (b := Ew) hx19 rfl rfl) (sa (I q18) rfl (w_end (q_then (c_ret (q_then_r ?_)))))
    obtain rfl := sj h
    exact fin_ret (v := (I q18)) (results_ok Try.results52 (res_tmp (v := (I q18)) rfl res_nil) rfl) ⟨Ey, Ez, rfl, rfl⟩ (H.sel' [1, 0] rfl rfl)
   ·replace h := bif_f hb10 h
    refine c_skip (q_then (c_seq ?_))
    refine rgP (σ := σ6) 44 (by kernel_rfl) (by kernel_rfl) (by kernel_rfl) ?_
    refine sq (v := (pt Cm Cn)) (rv_move rfl) (sq (v := (pt Cm Cn)) (rv_nilCheck rfl) (sq (v := (pt Cm Cn)) (rv_fieldAddr (off := 0) (ft := 22) Try.underlying94 rfl ti22 rfl rfl) ?_))
    have hc20 := H.cell (u := (Sl Ey Ck.1 Ez)) (o' := Cn) 1 0 rfl rfl rfl
    refine sq (v := (Sl Ey Ck.1 Ez)) (rv_load1 Try.underlying22 rfl rfl hc20) (sq (v := (I (w64 ((w64 (Ck.2 + 1)) - 1)))) (rv_move rfl) (sq (v := (pt Cm Cn)) (rv_move rfl) (sq (v := (pt Cm Cn)) (rv_nilCheck rfl) (sq (v := (pt Cm Cn)) (rv_fieldAddr (off := 0) (ft := 22) Try.underlying94 rfl ti22 rfl rfl) ?_))))
    have hc21 := H.cell (u := (Sl Ey Ck.1 Ez)) (o' := Cn) 1 0 rfl rfl rfl
    refine sq (v := (Sl Ey Ck.1 Ez)) (rv_load1 Try.underlying22 rfl rfl hc21) (sq (v := (I (Ck.1.length : Int))) (rv_len Try.underlying22 rfl) ?_)
    revert h; refine br fun q22 hx23 h => ?_
    refine sq (v := (I q22)) (rv_remG (a := (w64 ((w64 (Ck.2 + 1)) - 1))) (b := (Ck.1.length : Int)) hx23 rfl rfl) ?_
    revert h; refine br fun x24 hx25 h => ?_
    obtain ⟨b27, o28, hi26, -⟩ := (H.ro 0 rfl).ix hx25
    refine sq (v := (pt b27 o28)) (rv_ix Try.underlying22 ti5 rfl rfl hi26) ?_
    have hc29 := ((H.ro 0 rfl).at hx25 hi26).byte
    refine sq (v := (.int .u8 (x24.toNat : Int))) (rv_load1 Try.underlying5 rfl rfl hc29) (sq (v := (I (w64 (x24.toNat : Int)))) (rv_conv Try.underlying5 Try.underlying3 rfl) (sq (v := (I (w64 ((w64 (x24.toNat : Int)) * 131)))) (rv_mul (a := (w64 (x24.toNat : Int))) (b := 131) rfl rfl) (sq (v := (pt Cm Cn)) (rv_move rfl) (sq (v := (pt Cm Cn)) (rv_nilCheck rfl) (sq (v := (pt Cm Cn)) (rv_fieldAddr (off := 0) (ft := 22) Try.underlying94 rfl ti22 rfl rfl) ?_)))))
    have hc30 := H.cell (u := (Sl Ey Ck.1 Ez)) (o' := Cn) 1 0 rfl rfl rfl
    refine sq (v := (Sl Ey Ck.1 Ez)) (rv_load1 Try.underlying22 rfl rfl hc30) (sq (v := (I (w64 ((w64 (Ck.2 + 1)) - 1)))) (rv_move rfl) (sq (v := (I (w64 ((w64 ((w64 (Ck.2 + 1)) - 1)) * 7)))) (rv_mul (a := (w64 ((w64 (Ck.2 + 1)) - 1))) (b := 7) rfl rfl) (sq (v := (I (w64 ((w64 ((w64 ((w64 (Ck.2 + 1)) - 1)) * 7)) + 3)))) (rv_add (a := (w64 ((w64 ((w64 (Ck.2 + 1)) - 1)) * 7))) (b := 3) rfl rfl) (sq (v := (pt Cm Cn)) (rv_move rfl) (sq (v := (pt Cm Cn)) (rv_nilCheck rfl) (sq (v := (pt Cm Cn)) (rv_fieldAddr (off := 0) (ft := 22) Try.underlying94 rfl ti22 rfl rfl) ?_))))))
    have hc31 := H.cell (u := (Sl Ey Ck.1 Ez)) (o' := Cn) 1 0 rfl rfl rfl
    refine sq (v := (Sl Ey Ck.1 Ez)) (rv_load1 Try.underlying22 rfl rfl hc31) (sq (v := (I (Ck.1.length : Int))) (rv_len Try.underlying22 rfl) ?_)
    revert h; refine br fun q32 hx33 h => ?_
    refine sq (v := (I q32)) (rv_remG (a := (w64 ((w64 ((w64 ((w64 (Ck.2 + 1)) - 1)) * 7)) + 3))) (b := (Ck.1.length : Int)) hx33 rfl rfl) ?_
    revert h; refine br fun x34 hx35 h => ?_
    obtain ⟨b37, o38, hi36, -⟩ := (H.ro 0 rfl).ix hx35
    refine sq (v := (pt b37 o38)) (rv_ix Try.underlying22 ti5 rfl rfl hi36) ?_
    have hc39 := ((H.ro 0 rfl).at hx35 hi36).byte
    refine sq (v := (.int .u8 (x34.toNat : Int))) (rv_load1 Try.underlying5 rfl rfl hc39) (sq (v := (I (w64 (x34.toNat : Int)))) (rv_conv Try.underlying5 Try.underlying3 rfl) (sq (v := (I (w64 ((w64 (x34.toNat : Int)) * 1117)))) (rv_mul (a := (w64 (x34.toNat : Int))) (b := 1117) rfl rfl) (sq (v := (I (w64 ((w64 ((w64 (x24.toNat : Int)) * 131)) + (w64 ((w64 (x34.toNat : Int)) * 1117)))))) (rv_add (a := (w64 ((w64 (x24.toNat : Int)) * 131))) (b := (w64 ((w64 (x34.toNat : Int)) * 1117))) rfl rfl) (sq (v := (I (w64 ((w64 (Ck.2 + 1)) - 1)))) (rv_move rfl) (sq (v := (I (w64 ((w64 ((w64 (Ck.2 + 1)) - 1)) * 29)))) (rv_mul (a := (w64 ((w64 (Ck.2 + 1)) - 1))) (b := 29) rfl rfl) (sq (v := (I (w64 ((w64 ((w64 ((w64 (x24.toNat : Int)) * 131)) + (w64 ((w64 (x34.toNat : Int)) * 1117)))) + (w64 ((w64 ((w64 (Ck.2 + 1)) - 1)) * 29)))))) (rv_add (a := (w64 ((w64 ((w64 (x24.toNat : Int)) * 131)) + (w64 ((w64 (x34.toNat : Int)) * 1117))))) (b := (w64 ((w64 ((w64 (Ck.2 + 1)) - 1)) * 29))) rfl rfl) (sq (v := (I (w64 ((w64 (Ck.2 + 1)) - 1)))) (rv_move rfl) (sq (v := (pt Cm Cn)) (rv_move rfl) (sq (v := (pt Cm Cn)) (rv_nilCheck rfl) (sq (v := (pt Cm Cn)) (rv_fieldAddr (off := 0) (ft := 22) Try.underlying94 rfl ti22 rfl rfl) ?_))))))))))
    have hc40 := H.cell (u := (Sl Ey Ck.1 Ez)) (o' := Cn) 1 0 rfl rfl rfl
    refine sq (v := (Sl Ey Ck.1 Ez)) (rv_load1 Try.underlying22 rfl rfl hc40) (sq (v := (I (Ck.1.length : Int))) (rv_len Try.underlying22 rfl) ?_)
    revert h; refine br fun q41 hx42 h => ?_
    refine sq (v := (I q41)) (rv_quoG (a := (w64 ((w64 (Ck.2 + 1)) - 1))) (b := (Ck.1.length : Int)) hx42 rfl rfl) (sq (v := (I (w64 (q41 * 53)))) (rv_mul (a := q41) (b := 53) rfl rfl) (sq_end ?_))
    intro σ43 hm44
    replace H := H.grow (hm44.mono fun _ h => h); clear hm44
    refine st (v := (I (w64 ((w64 ((w64 ((w64 ((w64 (x24.toNat : Int)) * 131)) + (w64 ((w64 (x34.toNat : Int)) * 1117)))) + (w64 ((w64 ((w64 (Ck.2 + 1)) - 1)) * 29)))) + (w64 (q41 * 53)))))) (rv_add (a := (w64 ((w64 ((w64 ((w64 (x24.toNat : Int)) * 131)) + (w64 ((w64 (x34.toNat : Int)) * 1117)))) + (w64 ((w64 ((w64 (Ck.2 + 1)) - 1)) * 29))))) (b := (w64 (q41 * 53))) rfl rfl) (sa (I (w64 ((w64 ((w64 ((w64 ((w64 (x24.toNat : Int)) * 131)) + (w64 ((w64 (x34.toNat : Int)) * 1117)))) + (w64 ((w64 ((w64 (Ck.2 + 1)) - 1)) * 29)))) + (w64 (q41 * 53))))) rfl (w_end (q_then (c_seq (rg (sm (I (w64 ((w64 ((w64 ((w64 ((w64 (x24.toNat : Int)) * 131)) + (w64 ((w64 (x34.toNat : Int)) * 1117)))) + (w64 ((w64 ((w64 (Ck.2 + 1)) - 1)) * 29)))) + (w64 (q41 * 53))))) rfl (sm (I (w64 ((w64 ((w64 ((w64 ((w64 (x24.toNat : Int)) * 131)) + (w64 ((w64 (x34.toNat : Int)) * 1117)))) + (w64 ((w64 ((w64 (Ck.2 + 1)) - 1)) * 29)))) + (w64 (q41 * 53))))) rfl ?_)))))))
    refine st (v := (I (w64 ((w64 ((w64 ((w64 ((w64 ((w64 (x24.toNat : Int)) * 131)) + (w64 ((w64 (x34.toNat : Int)) * 1117)))) + (w64 ((w64 ((w64 (Ck.2 + 1)) - 1)) * 29)))) + (w64 (q41 * 53)))).tdiv 64)))) (rv_quo (a := (w64 ((w64 ((w64 ((w64 ((w64 (x24.toNat : Int)) * 131)) + (w64 ((w64 (x34.toNat : Int)) * 1117)))) + (w64 ((w64 ((w64 (Ck.2 + 1)) - 1)) * 29)))) + (w64 (q41 * 53))))) (b := 64) rfl rfl (by decide)) ?_
    refine st (v := (I (gxor (w64 ((w64 ((w64 ((w64 ((w64 (x24.toNat : Int)) * 131)) + (w64 ((w64 (x34.toNat : Int)) * 1117)))) + (w64 ((w64 ((w64 (Ck.2 + 1)) - 1)) * 29)))) + (w64 (q41 * 53)))) (w64 ((w64 ((w64 ((w64 ((w64 ((w64 (x24.toNat : Int)) * 131)) + (w64 ((w64 (x34.toNat : Int)) * 1117)))) + (w64 ((w64 ((w64 (Ck.2 + 1)) - 1)) * 29)))) + (w64 (q41 * 53)))).tdiv 64))))) (rv_xor (a := (w64 ((w64 ((w64 ((w64 ((w64 (x24.toNat : Int)) * 131)) + (w64 ((w64 (x34.toNat : Int)) * 1117)))) + (w64 ((w64 ((w64 (Ck.2 + 1)) - 1)) * 29)))) + (w64 (q41 * 53))))) (b := (w64 ((w64 ((w64 ((w64 ((w64 ((w64 (x24.toNat : Int)) * 131)) + (w64 ((w64 (x34.toNat : Int)) * 1117)))) + (w64 ((w64 ((w64 (Ck.2 + 1)) - 1)) * 29)))) + (w64 (q41 * 53)))).tdiv 64))) rfl rfl) (sa (I (gxor (w64 ((w64 ((w64 ((w64 ((w64 (x24.toNat : Int)) * 131)) + (w64 ((w64 (x34.toNat : Int)) * 1117)))) + (w64 ((w64 ((w64 (Ck.2 + 1)) - 1)) * 29)))) + (w64 (q41 * 53)))) (w64 ((w64 ((w64 ((w64 ((w64 ((w64 (x24.toNat : Int)) * 131)) + (w64 ((w64 (x34.toNat : Int)) * 1117)))) + (w64 ((w64 ((w64 (Ck.2 + 1)) - 1)) * 29)))) + (w64 (q41 * 53)))).tdiv 64)))) rfl (w_end (q_then (c_seq (rg (sm (I (gxor (w64 ((w64 ((w64 ((w64 ((w64 (x24.toNat : Int)) * 131)) + (w64 ((w64 (x34.toNat : Int)) * 1117)))) + (w64 ((w64 ((w64 (Ck.2 + 1)) - 1)) * 29)))) + (w64 (q41 * 53)))) (w64 ((w64 ((w64 ((w64 ((w64 ((w64 (x24.toNat : Int)) * 131)) + (w64 ((w64 (x34.toNat : Int)) * 1117)))) + (w64 ((w64 ((w64 (Ck.2 + 1)) - 1)) * 29)))) + (w64 (q41 * 53)))).tdiv 64)))) rfl (sm (I Ew) rfl ?_)))))))
    revert h; refine br fun q45 hx46 h => ?_
    refine st (v := (I q45)) (rv_remG (a := (gxor (w64 ((w64 ((w64 ((w64 ((w64 (x24.toNat : Int)) * 131)) + (w64 ((w64 (x34.toNat : Int)) * 1117)))) + (w64 ((w64 ((w64 (Ck.2 + 1)) - 1)) * 29)))) + (w64 (q41 * 53)))) (w64 ((w64 ((w64 ((w64 ((w64 ((w64 (x24.toNat : Int)) * 131)) + (w64 ((w64 (x34.toNat : Int)) * 1117)))) + (w64 ((w64 ((w64 (Ck.2 + 1)) - 1)) * 29)))) + (w64 (q41 * 53)))).tdiv 64)))) (b := Ew) hx46 rfl rfl) (sa (I q45) rfl (w_end (q_then (c_ret ?_))))
    obtain rfl := sj h
    exact fin_ret (v := (I q45)) (results_ok Try.results52 (res_tmp (v := (I q45)) rfl res_nil) rfl) ⟨Ey, Ez, rfl, rfl⟩ (H.sel' [1, 0] rfl rfl)

theorem c_spec_copyInts {Ai : List Int} {Aj : Option Addr} {Ak : Nat} {r : (List Int)} (h : M.spec_copyInts Ai = some r) :
    Cal2 Try.prog 53 [(Sl Aj Ai Ak)] [Ch.ro 0 (Sl Aj Ai Ak) Ai] (fun n0 v L => ∃ (az1 : Option Addr), ∃ (cz2 : Nat), v = (Sl az1 r cz2) ∧ L = [Ch.own n0 n0 (Sl az1 r cz2) r]) := by
 refine cal2 (n := 6) Try.func53 rfl rfl rfl rfl ?_
 intro S0 σ0 n0 hn0 H
 unfold M.spec_copyInts at h
 refine c_seq (rg (sa (.slice none 0 0) rfl (w_end (q_then (c_seq (rg ?_))))))
 refine st_ex (ex_buildSlice (el := n0) (xs := ([] : List Int)) (ps := []) (cs := []) H hn0 Try.underlying24 ti3 rfl rfl (by kernel_rfl) (.nil) rfl) wn ?_
 rintro _ σ2 ⟨b1, rfl, H, -⟩
 refine sm (Sl Aj Ai Ak) rfl ?_
 revert h; refine br fun xs3 hx4 h => ?_
 refine st_ex (ex_append H (i := 0) rfl Try.underlying24 Try.underlying24 ti3 rfl rfl (by decide) ((H.ro 1 rfl).rd.sc) hx4 hn0 rfl rfl) wn ?_
 rintro _ σ7 ⟨a5, c6, rfl, H, -⟩
 refine sa (Sl a5 xs3 c6) rfl (w_end (q_then (c_ret ?_)))
 obtain rfl := sj h
 exact fin_ret (v := (Sl a5 xs3 c6)) (results_ok Try.results53 (res_tmp (v := (Sl a5 xs3 c6)) rfl res_nil) rfl) ⟨a5, c6, rfl, rfl⟩ (H.sel' [0] rfl rfl)

theorem c_spec_reader_one {Ck : (List UInt8) × Int} {Fa : List Int} {Ey : Option Addr} {Ez : Nat} {Cl Cm Cn : Nat} {Cp Cq : List Value} {Fb : Option Addr} {Fc : Nat} {r : Int × ((List UInt8) × Int)} (h : M.spec_reader_one Ck Fa = some r) :
    Cal2 Try.prog 64 [(pt Cm Cn), (Sl Fb Fa Fc)] [Ch.bx Cl Cm Cn [(Sl Ey Ck.1 Ez), (I Ck.2)] Cp Cq, Ch.ro 0 (Sl Ey Ck.1 Ez) Ck.1, Ch.ro 0 (Sl Fb Fa Fc) Fa] (fun n0 v L => ∃ (az1 : Option Addr), ∃ (cz2 : Nat), v = (I r.1) ∧ L = [Ch.bx Cl Cm Cn [(Sl az1 r.2.1 cz2), (I r.2.2)] Cp Cq, Ch.ro 0 (Sl az1 r.2.1 cz2) r.2.1]) := by
 refine cal2 (n := 12) Try.func64 rfl rfl rfl rfl ?_
 intro S0 σ0 n0 hn0 H
 unfold M.spec_reader_one at h
 refine c_seq (rg (sa (I 0) rfl (w_end (q_then (c_seq (rg (sm (Sl Fb Fa Fc) rfl (sm (pt Cm Cn) rfl (sm (Sl Fb Fa Fc) rfl (st (v := (I (Fa.length : Int))) (rv_len Try.underlying24 rfl) ?_))))))))))
 revert h; refine br fun r1 hx2 h => ?_
 have hc3 := c_spec_reader_pick (Cl := Cl) (Cm := Cm) (Cn := Cn) (Cp := Cp) (Cq := Cq) (Ey := Ey) (Ez := Ez) hx2
 refine st_call (cx_call hc3 (ent_f hc3.fn rfl) hn0 (H.sel' [0, 1, 1, 2] rfl rfl : Hp S0 σ0 _ ([_, _] ++ _))) wn ?_
 rintro _ σ6 ⟨_, ⟨a4, c5, rfl, rfl⟩, H, -⟩
 replace H : Hp _ _ _ [_, _, _, _] := H
 revert h; refine br fun x7 hx8 h => ?_
 obtain ⟨b10, o11, hi9, -⟩ := (H.ro 3 rfl).ix hx8
 refine st (v := (pt b10 o11)) (rv_ix Try.underlying24 ti3 rfl rfl hi9) ?_
 have hc12 := ((H.ro 3 rfl).at hx8 hi9).int
 refine st (v := (I x7)) (rv_load1 Try.underlying3 rfl rfl hc12) (sa (I x7) rfl (w_end (q_then (c_ret ?_))))
 obtain rfl := sj h
 exact fin_ret (v := (I x7)) (results_ok Try.results64 (res_tmp (v := (I x7)) rfl res_nil) rfl) ⟨a4, c5, rfl, rfl⟩ (H.sel' [0, 1] rfl rfl)

theorem c_spec_reader_spoil {Ck : (List UInt8) × Int} {Fa : List Int} {Bn : Int} {Ey : Option Addr} {Ez : Nat} {Cl Cm Cn : Nat} {Cp Cq : List Value} {Fb : Option Addr} {Fc : Nat} {r : (List Int) × ((List UInt8) × Int)} (h : M.spec_reader_spoil Ck Fa Bn = some r) :
    Cal2 Try.prog 83 [(pt Cm Cn), (Sl Fb Fa Fc), (I Bn)] [Ch.bx Cl Cm Cn [(Sl Ey Ck.1 Ez), (I Ck.2)] Cp Cq, Ch.ro 0 (Sl Ey Ck.1 Ez) Ck.1, Ch.ro 0 (Sl Fb Fa Fc) Fa] (fun n0 v L => ∃ (az1 : Option Addr), ∃ (cz2 : Nat), ∃ (az3 : Option Addr), ∃ (cz4 : Nat), v = (Sl az1 r.1 cz2) ∧ L = [Ch.own n0 n0 (Sl az1 r.1 cz2) r.1, Ch.bx Cl Cm Cn [(Sl az3 r.2.1 cz4), (I r.2.2)] Cp Cq, Ch.ro 0 (Sl az3 r.2.1 cz4) r.2.1]) := by
 refine cal2 (n := 41) Try.func83 rfl rfl rfl rfl ?_
 intro S0 σ0 n0 hn0 H
 unfold M.spec_reader_spoil at h
 refine c_seq (rg (sa (.slice none 0 0) rfl (w_end (q_then (c_seq (rg (sm (Sl Fb Fa Fc) rfl ?_)))))))
 revert h; refine br fun r1 hx2 h => ?_
 have hc3 := c_spec_copyInts (Aj := Fb) (Ak := Fc) hx2
 refine st_call (cx_call hc3 (ent_f hc3.fn rfl) hn0 (H.sel' [2, 0, 1, 2] rfl rfl : Hp S0 σ0 _ ([_] ++ _))) wn ?_
 rintro _ σ6 ⟨_, ⟨a4, c5, rfl, rfl⟩, H, -⟩
 replace H : Hp _ _ _ [_, _, _, _] := H
 refine sa (Sl a4 r1 c5) rfl (w_end (q_then (c_seq (c_seq (rg (sm (pt Cm Cn) rfl ?_))))))
 revert h; refine br fun r7 hx8 h => ?_
 have hc9 := c_spec_reader_pick (Cl := Cl) (Cm := Cm) (Cn := Cn) (Cp := Cp) (Cq := Cq) (Ey := Ey) (Ez := Ez) hx8
 refine st_call (cx_call hc9 (ent_f hc9.fn rfl) hn0 (H.sel' [1, 2, 0, 2, 3] rfl rfl : Hp S0 σ0 _ ([_, _] ++ _))) wn ?_
 rintro _ σ12 ⟨_, ⟨a10, c11, rfl, rfl⟩, H, -⟩
 replace H : Hp _ _ _ [_, _, _, _, _] := H
 refine w_end (q_then ?_)
 obtain ⟨o13, hj, h'⟩ := bind_some h
 clear h
 refine c_cut (fun e a w => e = .normal ∧ ∃ (ρ : Nat → Value) (σ : St) (aj1 : Option Addr) (cj2 : Nat) (aj3 : Option Addr) (cj4 : Nat), a = fr 41 (updL ρ [(0, (pt Cm Cn)), (7, (Sl aj3 o13.2 cj4))]) ∧ w = σ.w ∧ Hp S0 σ0 σ [Ch.bx Cl Cm Cn [(Sl aj1 o13.1.1 cj2), (I o13.1.2)] Cp Cq, Ch.ro 0 (Sl aj1 o13.1.1 cj2) o13.1.1, Ch.own n0 n0 (Sl aj3 o13.2 cj4) o13.2]) ?_ ?_
 ·clear h'
  rename _ = some o13 => h
  refine c_blk (c_seq (rg (st (v := (B (r7.1 == 0))) (rv_eql (a := r7.1) (b := 0) rfl rfl) (sa (B (r7.1 == 0)) rfl (w_end (q_then ?_))))))
  refine cd_cond (r7.1 == 0) rfl (fun hb14 => ?_) (fun hb14 => ?_)
  ·replace h := bif_t hb14 h
   refine rg (sm (Sl a4 r1 c5) rfl (sm (I Bn) rfl ?_))
   refine st_ex (ex_buildSlice (el := n0) (xs := ([Bn] : List Int)) (ps := [(0, (I Bn))]) (cs := [(I Bn)]) H hn0 Try.underlying24 ti3 rfl rfl (by kernel_rfl) (.cons (c := [(I Bn)]) rfl (.nil)) rfl) wn ?_
   rintro _ σ16 ⟨b15, rfl, H, -⟩
   revert h; refine br fun xs17 hx18 h => ?_
   refine st_ex (ex_append H (i := 3) rfl Try.underlying24 Try.underlying24 ti3 rfl rfl (by decide) (H.own 0 rfl).rd hx18 hn0 rfl rfl) wn ?_
   rintro _ σ21 ⟨a19, c20, rfl, H, -⟩
   refine sa (Sl a19 xs17 c20) rfl (w_end (q_blk ?_))
   obtain rfl := sj h
   exact ⟨rfl, _, σ21, a10, c11, a19, c20, fr_join ⟨rfl, rfl, trivial⟩, rfl, H.sel' [2, 3, 0] rfl rfl⟩
  ·replace h := bif_f hb14 h
   refine c_seq (rg (st (v := (B (r7.1 == 1))) (rv_eql (a := r7.1) (b := 1) rfl rfl) (sa (B (r7.1 == 1)) rfl (w_end (q_then ?_)))))
   refine cd_cond (r7.1 == 1) rfl (fun hb22 => ?_) (fun hb22 => ?_)
   ·replace h := bif_t hb22 h
    refine c_seq (rg (sm (Sl a4 r1 c5) rfl (st (v := (I (r1.length : Int))) (rv_len Try.underlying24 rfl) (st (v := (B (decide (0 < (r1.length : Int))))) (rv_gtr (a := (r1.length : Int)) (b := 0) rfl rfl) (w_end (q_then ?_))))))
    refine cd_cond (decide (0 < (r1.length : Int))) rfl (fun hb23 => ?_) (fun hb23 => ?_)
    ·replace h := bif_t hb23 h
     refine rg (sm (Sl a4 r1 c5) rfl ?_)
     revert h; refine br fun xs24 hx25 h => ?_
     obtain ⟨a26, c27, hs28, hR29, hb30⟩ := (H.own 2 rfl).slice hx25
     replace H := (H.front (i := 2) rfl).turn (d := Ch.own n0 n0 (Sl a26 xs24 c27) xs24) (fun _ => hR29) hb30; clear hR29 hb30
     refine st (v := (Sl a26 xs24 c27)) (rv_slice_l Try.underlying24 ti3 hs28 rfl rfl) (sa (Sl a26 xs24 c27) rfl (w_end (q_blk ?_)))
     obtain rfl := sj h
     exact ⟨rfl, _, σ12, a10, c11, a26, c27, fr_join ⟨rfl, rfl, trivial⟩, rfl, H.sel' [1, 2, 0] rfl rfl⟩
    ·replace h := bif_f hb23 h
     refine c_skip (q_blk ?_)
     obtain rfl := sj h
     exact ⟨rfl, _, σ12, a10, c11, a4, c5, fr_join ⟨rfl, rfl, trivial⟩, rfl, H.sel' [0, 1, 2] rfl rfl⟩
   ·replace h := bif_f hb22 h
    refine c_seq (rg (st (v := (B (r7.1 == 2))) (rv_eql (a := r7.1) (b := 2) rfl rfl) (sa (B (r7.1 == 2)) rfl (w_end (q_then ?_)))))
    refine cd_cond (r7.1 == 2) rfl (fun hb31 => ?_) (fun hb31 => ?_)
    ·replace h := bif_t hb31 h
     refine c_seq (rg (sm (Sl a4 r1 c5) rfl (st (v := (I (r1.length : Int))) (rv_len Try.underlying24 rfl) (st (v := (B (decide (0 < (r1.length : Int))))) (rv_gtr (a := (r1.length : Int)) (b := 0) rfl rfl) (w_end (q_then ?_))))))
     refine cd_cond (decide (0 < (r1.length : Int))) rfl (fun hb32 => ?_) (fun hb32 => ?_)
     ·replace h := bif_t hb32 h
      refine rg (sm (Sl a4 r1 c5) rfl (sm (pt Cm Cn) rfl (sm (Sl a4 r1 c5) rfl (st (v := (I (r1.length : Int))) (rv_len Try.underlying24 rfl) ?_))))
      revert h; refine br fun r33 hx34 h => ?_
      have hc35 := c_spec_reader_pick (Cl := Cl) (Cm := Cm) (Cn := Cn) (Cp := Cp) (Cq := Cq) (Ey := a10) (Ez := c11) hx34
      refine st_call (cx_call hc35 (ent_f hc35.fn rfl) hn0 (H.sel' [0, 1, 1, 2, 3, 4] rfl rfl : Hp S0 σ0 _ ([_, _] ++ _))) wn ?_
      rintro _ σ38 ⟨_, ⟨a36, c37, rfl, rfl⟩, H, -⟩
      replace H : Hp _ _ _ [_, _, _, _, _, _] := H
      refine sm (pt Cm Cn) rfl (sm (I Bn) rfl ?_)
      refine st_ex (ex_buildSlice (el := n0) (xs := ([-1, Bn, 0, 1] : List Int)) (ps := [(0, (I (-1))), (1, (I Bn)), (2, (I 0)), (3, (I 1))]) (cs := [(I (-1)), (I Bn), (I 0), (I 1)]) H hn0 Try.underlying24 ti3 rfl rfl (by kernel_rfl) (.cons (c := [(I (-1))]) rfl (.cons (c := [(I Bn)]) rfl (.cons (c := [(I 0)]) rfl (.cons (c := [(I 1)]) rfl (.nil))))) rfl) wn ?_
      rintro _ σ40 ⟨b39, rfl, H, -⟩
      obtain ⟨σ41, hw42, H, -⟩ := H.pub 0 rfl (Nat.le_refl _)
      rw [← hw42]; clear hw42
      replace H := H.roLow 0 0 rfl (Nat.zero_le _)
      revert h; refine br fun r43 hx44 h => ?_
      have hc45 := c_spec_reader_one (Cl := Cl) (Cm := Cm) (Cn := Cn) (Cp := Cp) (Cq := Cq) (Ey := a36) (Ez := c37) (Fb := (some ⟨b39, 0, none⟩)) (Fc := 4) hx44
      refine st_call (cx_call hc45 (ent_f hc45.fn rfl) hn0 (H.sel' [2, 3, 0, 0, 1, 3, 4, 5, 6, 7] rfl rfl : Hp S0 σ0 _ ([_, _, _] ++ _))) wn ?_
      rintro _ σ48 ⟨_, ⟨a46, c47, rfl, rfl⟩, H, -⟩
      replace H : Hp _ _ _ [_, _, _, _, _, _, _, _, _] := H
      replace H : Hp S0 σ0 σ48 [Ch.bx Cl Cm Cn [(Sl a46 r43.2.1 c47), (I r43.2.2)] Cp Cq, Ch.ro 0 (Sl a46 r43.2.1 c47) r43.2.1, Ch.own n0 n0 (Sl a4 r1 c5) r1] := H.sel' [0, 1, 6] rfl rfl
      revert h; refine br fun x49 hx50 h => ?_
      obtain ⟨b52, o53, hi51, -⟩ := (H.own 2 rfl).ix hx50
      refine st (v := (pt b52 o53)) (rv_ix Try.underlying24 ti3 rfl rfl hi51) ?_
      refine st_exS (ex_store_own (e' := r43.1) (vs := [(I r43.1)]) (k := 0) H (i := 2) rfl ti3 hx50 hi51 rfl rfl rfl rfl rfl (Nat.le_of_ble_eq_true rfl) (by simp [plain]) (by rintro _ rfl; exact rfl)) wn ?_
      rintro σ54 ⟨H, -⟩
      have hsl : (Sl a4 r1 c5) = (Sl a4 (r1.set r33.1.toNat r43.1) c5) := sl_len List.length_set.symm
      rw [hsl]; rw [hsl] at H; clear hsl
      refine w_end (q_blk ?_)
      obtain rfl := sj h
      exact ⟨rfl, _, σ54, a46, c47, a4, c5, fr_join ⟨rfl, rfl, trivial⟩, rfl, H.sel' [1, 2, 0] rfl rfl⟩
     ·replace h := bif_f hb32 h
      refine c_skip (q_blk ?_)
      obtain rfl := sj h
      exact ⟨rfl, _, σ12, a10, c11, a4, c5, fr_join ⟨rfl, rfl, trivial⟩, rfl, H.sel' [0, 1, 2] rfl rfl⟩
    ·replace h := bif_f hb31 h
     refine c_skip (q_blk ?_)
     obtain rfl := sj h
     exact ⟨rfl, _, σ12, a10, c11, a4, c5, fr_join ⟨rfl, rfl, trivial⟩, rfl, H.sel' [0, 1, 2] rfl rfl⟩
 ·clear hj
  have h := h'
  clear h' H
  rintro e a w ⟨rfl, ρ, σ55, a56, c57, a58, c59, rfl, rfl, H⟩
  refine q_then (c_seq (rg (sm (Sl a58 o13.2 c59) rfl (sa (Sl a58 o13.2 c59) rfl (w_end (q_then (c_ret ?_)))))))
  obtain rfl := sj h
  exact fin_ret (v := (Sl a58 o13.2 c59)) (results_ok Try.results83 (res_tmp (v := (Sl a58 o13.2 c59)) rfl res_nil) rfl) ⟨a58, c59, a56, c57, rfl, rfl⟩ (H.sel' [2, 0, 1] rfl rfl)

theorem c_spec_someCoord {Ck : (List UInt8) × Int} {Ey : Option Addr} {Ez : Nat} {Cl Cm Cn : Nat} {Cp Cq : List Value} {r : Int × ((List UInt8) × Int)} (h : M.spec_someCoord Ck = some r) :
    Cal2 Try.prog 104 [(pt Cm Cn)] [Ch.bx Cl Cm Cn [(Sl Ey Ck.1 Ez), (I Ck.2)] Cp Cq, Ch.ro 0 (Sl Ey Ck.1 Ez) Ck.1] (fun n0 v L => ∃ (az1 : Option Addr), ∃ (cz2 : Nat), v = (I r.1) ∧ L = [Ch.bx Cl Cm Cn [(Sl az1 r.2.1 cz2), (I r.2.2)] Cp Cq, Ch.ro 0 (Sl az1 r.2.1 cz2) r.2.1]) := by
 refine cal2 (n := 12) Try.func104 rfl rfl rfl rfl ?_
 intro S0 σ0 n0 hn0 H
 unfold M.spec_someCoord at h
 refine c_seq (rg (sa (I 0) rfl (w_end (q_then (c_seq (rg (sm (pt Cm Cn) rfl (sm (pt Cm Cn) rfl ?_))))))))
 revert h; refine br fun r1 hx2 h => ?_
 have hc3 := c_spec_reader_pick (Cl := Cl) (Cm := Cm) (Cn := Cn) (Cp := Cp) (Cq := Cq) (Ey := Ey) (Ez := Ez) hx2
 refine st_call (cx_call hc3 (ent_f hc3.fn rfl) hn0 (H.sel' [0, 1, 1] rfl rfl : Hp S0 σ0 _ ([_, _] ++ _))) wn ?_
 rintro _ σ6 ⟨_, ⟨a4, c5, rfl, rfl⟩, H, -⟩
 replace H : Hp _ _ _ [_, _, _] := H
 refine st (v := (I (w64 (r1.1 - 100)))) (rv_sub (a := r1.1) (b := 100) rfl rfl) (sm (pt Cm Cn) rfl ?_)
 revert h; refine br fun r7 hx8 h => ?_
 have hc9 := c_spec_reader_pick (Cl := Cl) (Cm := Cm) (Cn := Cn) (Cp := Cp) (Cq := Cq) (Ey := a4) (Ez := c5) hx8
 refine st_call (cx_call hc9 (ent_f hc9.fn rfl) hn0 (H.sel' [0, 1, 1, 2] rfl rfl : Hp S0 σ0 _ ([_, _] ++ _))) wn ?_
 rintro _ σ12 ⟨_, ⟨a10, c11, rfl, rfl⟩, H, -⟩
 replace H : Hp _ _ _ [_, _, _, _] := H
 refine st (v := (I (w64 (r7.1 - 10)))) (rv_sub (a := r7.1) (b := 10) rfl rfl) ?_
 refine st_ex (ex_buildSlice (el := n0) (xs := ([0, 1, -1, 5, -7, 10, 3, 100, -100, w64 (r1.1 - 100), w64 (r7.1 - 10)] : List Int)) (ps := [(0, (I 0)), (1, (I 1)), (2, (I (-1))), (3, (I 5)), (4, (I (-7))), (5, (I 10)), (6, (I 3)), (7, (I 100)), (8, (I (-100))), (9, (I (w64 (r1.1 - 100)))), (10, (I (w64 (r7.1 - 10))))]) (cs := [(I 0), (I 1), (I (-1)), (I 5), (I (-7)), (I 10), (I 3), (I 100), (I (-100)), (I (w64 (r1.1 - 100))), (I (w64 (r7.1 - 10)))]) H hn0 Try.underlying24 ti3 rfl rfl (by kernel_rfl) (.cons (c := [(I 0)]) rfl (.cons (c := [(I 1)]) rfl (.cons (c := [(I (-1))]) rfl (.cons (c := [(I 5)]) rfl (.cons (c := [(I (-7))]) rfl (.cons (c := [(I 10)]) rfl (.cons (c := [(I 3)]) rfl (.cons (c := [(I 100)]) rfl (.cons (c := [(I (-100))]) rfl (.cons (c := [(I (w64 (r1.1 - 100)))]) rfl (.cons (c := [(I (w64 (r7.1 - 10)))]) rfl (.nil)))))))))))) rfl) wn ?_
 rintro _ σ14 ⟨b13, rfl, H, -⟩
 obtain ⟨σ15, hw16, H, -⟩ := H.pub 0 rfl (Nat.le_refl _)
 rw [← hw16]; clear hw16
 replace H := H.roLow 0 0 rfl (Nat.zero_le _)
 revert h; refine br fun r17 hx18 h => ?_
 have hc19 := c_spec_reader_one (Cl := Cl) (Cm := Cm) (Cn := Cn) (Cp := Cp) (Cq := Cq) (Ey := a10) (Ez := c11) (Fb := (some ⟨b13, 0, none⟩)) (Fc := 11) hx18
 refine st_call (cx_call hc19 (ent_f hc19.fn rfl) hn0 (H.sel' [2, 3, 0, 0, 1, 3, 4, 5] rfl rfl : Hp S0 σ0 _ ([_, _, _] ++ _))) wn ?_
 rintro _ σ22 ⟨_, ⟨a20, c21, rfl, rfl⟩, H, -⟩
 replace H : Hp _ _ _ [_, _, _, _, _, _, _] := H
 refine sa (I r17.1) rfl (w_end (q_then (c_ret ?_)))
 obtain rfl := sj h
 exact fin_ret (v := (I r17.1)) (results_ok Try.results104 (res_tmp (v := (I r17.1)) rfl res_nil) rfl) ⟨a20, c21, rfl, rfl⟩ (H.sel' [0, 1] rfl rfl)

end Go.Vs
