/- The functions compute what their models say. -/
import Derived.Test.YtcgkbgidfilodaaKNearestDistanceC6
set_option linter.unusedVariables false
set_option linter.unusedSimpArgs false
set_option maxRecDepth 20000
namespace Go.Vs
open Go Go.Proofs
attribute [local irreducible] Code.wp Code.wpIn wpList wpListIn wpQuiet Calls CallsIn

theorem c_impl_GetItem {list_0 : List (Int × (List Int) × Int)} {key_1 : Int} {alist_0 : Option Addr} {clist_0 : Nat} {r : (Int × (List Int) × Int) × Bool} (h : M.impl_GetItem list_0 key_1 = some r) :
    Cal2 Try.prog 19 [(Sl alist_0 list_0 clist_0), (I key_1)] [Ch.ro 0 (Sl alist_0 list_0 clist_0) list_0] (fun n0 v L => ∃ (az1 : Option Addr), ∃ (cz2 : Nat), v = (.tuple #[(.agg #[(I r.1.1), (Sl az1 r.1.2.1 cz2), (I r.1.2.2)]), (B r.2)]) ∧ L = [Ch.own n0 n0 (Sl az1 r.1.2.1 cz2) r.1.2.1]) := by
 refine cal2 (n := 26) Try.func19 rfl rfl rfl rfl ?_
 intro S0 σ0 n0 hn0 H
 unfold M.impl_GetItem at h
 refine c_seq ?_
 refine rg ?_
 refine st_ex (ex_alloc (cs := [(I 0), (.slice none 0 0), (I 0)]) H hn0 ti31 rfl) (wanted_none _ rfl _) ?_
 rintro _ σ2 ⟨b1, rfl, H, -⟩
 refine st (v := (B false)) (rv_assign rfl) ?_
 refine w_end ?_
 refine q_then ?_
 refine c_seq ?_
 refine c_seq ?_
 refine rg ?_
 refine st (v := (Sl alist_0 list_0 clist_0)) (rv_move rfl) ?_
 obtain ⟨r3, hx4, h'⟩ := bind_some h
 clear h
 have h := h'; clear h'
 have hc5 := c_impl_ValidStore (alist_0 := alist_0) (clist_0 := clist_0) hx4
 refine st_call (cx_call hc5 (ent_f hc5.fn rfl) hn0 (show Hp S0 σ0 _ ([Ch.ro 0 (Sl alist_0 list_0 clist_0) list_0] ++ [Ch.bx n0 b1 0 [(I 0), (.slice none 0 0), (I 0)] [] [], Ch.ro 0 (Sl alist_0 list_0 clist_0) list_0]) from (H.sel' [1, 0, 1] rfl rfl))) (wanted_none _ rfl _) ?_
 rintro _ σ6 ⟨_, ⟨rfl, rfl⟩, H, -⟩
 replace H : Hp S0 σ0 σ6 [Ch.bx n0 b1 0 [(I 0), (.slice none 0 0), (I 0)] [] [], Ch.ro 0 (Sl alist_0 list_0 clist_0) list_0] := H
 refine st (v := (B (!r3))) (rv_not rfl) ?_
 refine w_end ?_
 refine q_then ?_
 refine cd_cond (!r3) rfl (fun hb7 => ?_) (fun hb7 => ?_)
 ·replace h := bif_t hb7 h
  refine c_seq ?_
  refine rg ?_
  refine st (v := (.agg #[(I 0), (.slice none 0 0), (I 0)])) (rv_build (ps := []) Try.underlying31 ti31 (bp31 Try.underlying31) rfl (by kernel_rfl)) ?_
  refine st_exS (ex_store_box (k := 0) (cs := [(I 0), (.slice none 0 0), (I 0)]) (vs := [(I 0), (.slice none 0 0), (I 0)]) (cs' := [(I 0), (.slice none 0 0), (I 0)]) H (i := 0) rfl ti31 rfl rfl rfl rfl rfl (Nat.le_of_ble_eq_true rfl) (by simp [plain]) rfl) (wanted_none _ rfl _) ?_
  rintro σ8 ⟨H, -⟩
  refine st (v := (B false)) (rv_assign rfl) ?_
  refine w_end ?_
  refine q_then ?_
  refine c_ret ?_
  refine q_then_r ?_
  replace H := H.nilOwn Int n0 n0
  obtain rfl := Option.some.inj h
  exact fin_ret (v := (.tuple #[(.agg #[(I 0), (.slice none 0 0), (I 0)]), (B false)])) (results_ok Try.results19 (res_cell rfl (run_cellRes (cs := [(I 0), (.slice none 0 0), (I 0)]) Try.underlying31 rfl ti31 rfl (H.cells 1 rfl)) (res_tmp (v := (B false)) rfl res_nil)) rfl) ⟨none, 0, rfl, rfl⟩ (H.sel' [0] rfl rfl)
 ·replace h := bif_f hb7 h
  refine c_skip ?_
  refine q_then ?_
  refine c_seq ?_
  refine rg ?_
  refine st (v := (Sl alist_0 list_0 clist_0)) (rv_move rfl) ?_
  refine st (v := (I key_1)) (rv_move rfl) ?_
  obtain ⟨r9, hx10, h'⟩ := bind_some h
  clear h
  have h := h'; clear h'
  have hc11 := c_impl_placeOf (alist_0 := alist_0) (clist_0 := clist_0) hx10
  refine st_call (cx_call hc11 (ent_f hc11.fn rfl) hn0 (show Hp S0 σ0 _ ([Ch.ro 0 (Sl alist_0 list_0 clist_0) list_0] ++ [Ch.bx n0 b1 0 [(I 0), (.slice none 0 0), (I 0)] [] [], Ch.ro 0 (Sl alist_0 list_0 clist_0) list_0]) from (H.sel' [1, 0, 1] rfl rfl))) (wanted_none _ rfl _) ?_
  rintro _ σ12 ⟨_, ⟨rfl, rfl⟩, H, -⟩
  replace H : Hp S0 σ0 σ12 [Ch.bx n0 b1 0 [(I 0), (.slice none 0 0), (I 0)] [] [], Ch.ro 0 (Sl alist_0 list_0 clist_0) list_0] := H
  refine st (v := (.tuple #[(I r9.1), (B r9.2)])) (rv_move rfl) ?_
  refine st (v := (I r9.1)) (rv_extract rfl rfl) ?_
  refine st (v := (B r9.2)) (rv_extract rfl rfl) ?_
  refine st (v := (I r9.1)) (rv_assign rfl) ?_
  refine st (v := (B r9.2)) (rv_assign rfl) ?_
  refine w_end ?_
  refine q_then ?_
  refine c_seq ?_
  refine c_seq ?_
  refine rg ?_
  refine st (v := (B r9.2)) (rv_move rfl) ?_
  refine st (v := (B (!r9.2))) (rv_not rfl) ?_
  refine w_end ?_
  refine q_then ?_
  refine cd_cond (!r9.2) rfl (fun hb13 => ?_) (fun hb13 => ?_)
  ·replace h := bif_t hb13 h
   refine c_seq ?_
   refine rg ?_
   refine st (v := (.agg #[(I 0), (.slice none 0 0), (I 0)])) (rv_build (ps := []) Try.underlying31 ti31 (bp31 Try.underlying31) rfl (by kernel_rfl)) ?_
   refine st_exS (ex_store_box (k := 0) (cs := [(I 0), (.slice none 0 0), (I 0)]) (vs := [(I 0), (.slice none 0 0), (I 0)]) (cs' := [(I 0), (.slice none 0 0), (I 0)]) H (i := 0) rfl ti31 rfl rfl rfl rfl rfl (Nat.le_of_ble_eq_true rfl) (by simp [plain]) rfl) (wanted_none _ rfl _) ?_
   rintro σ14 ⟨H, -⟩
   refine st (v := (B false)) (rv_assign rfl) ?_
   refine w_end ?_
   refine q_then ?_
   refine c_ret ?_
   refine q_then_r ?_
   replace H := H.nilOwn Int n0 n0
   obtain rfl := Option.some.inj h
   exact fin_ret (v := (.tuple #[(.agg #[(I 0), (.slice none 0 0), (I 0)]), (B false)])) (results_ok Try.results19 (res_cell rfl (run_cellRes (cs := [(I 0), (.slice none 0 0), (I 0)]) Try.underlying31 rfl ti31 rfl (H.cells 1 rfl)) (res_tmp (v := (B false)) rfl res_nil)) rfl) ⟨none, 0, rfl, rfl⟩ (H.sel' [0] rfl rfl)
  ·replace h := bif_f hb13 h
   refine c_skip ?_
   refine q_then ?_
   refine c_seq ?_
   refine rg ?_
   refine st (v := (Sl alist_0 list_0 clist_0)) (rv_move rfl) ?_
   refine st (v := (I r9.1)) (rv_move rfl) ?_
   obtain ⟨x15, hx16, h'⟩ := bind_some h
   clear h
   have h := h'; clear h'
   obtain ⟨b18, o19, hi17, -⟩ := (H.ro 1 rfl).ix hx16
   refine st (v := (pt b18 o19)) (rv_ix Try.underlying23 ti31 rfl rfl hi17) ?_
   obtain ⟨_, ⟨_, _, rfl, rfl, ⟨_, _, rfl, ⟨_, rfl, hR24⟩, rfl⟩⟩, hl20, hc21⟩ := ((H.ro 1 rfl).at hx16 hi17).cells
   obtain ⟨a22, c23, rfl⟩ := hR24.isSl
   replace H := H.add (d := Ch.ro 0 (Sl a22 x15.2.1 c23) x15.2.1) hR24 (fun _ h => h)
   clear hR24
   refine st (v := (.agg #[(I x15.1), (Sl a22 x15.2.1 c23), (I x15.2.2)])) (rv_load Try.underlying31 rfl ti31 rfl hl20 hc21) ?_
   obtain ⟨r25, hx26, h'⟩ := bind_some h
   clear h
   have h := h'; clear h'
   have hc27 := c_impl_copyItem (ax_0_1 := a22) (cx_0_1 := c23) hx26
   refine st_call (cx_call hc27 (ent_f hc27.fn rfl) hn0 (show Hp S0 σ0 _ ([Ch.ro 0 (Sl a22 x15.2.1 c23) x15.2.1] ++ [Ch.ro 0 (Sl a22 x15.2.1 c23) x15.2.1, Ch.bx n0 b1 0 [(I 0), (.slice none 0 0), (I 0)] [] [], Ch.ro 0 (Sl alist_0 list_0 clist_0) list_0]) from (H.sel' [0, 0, 1, 2] rfl rfl))) (wanted_none _ rfl _) ?_
   rintro _ σ30 ⟨_, ⟨a28, c29, rfl, rfl⟩, H, -⟩
   replace H : Hp S0 σ0 σ30 [Ch.own n0 n0 (Sl a28 r25.2.1 c29) r25.2.1, Ch.ro 0 (Sl a22 x15.2.1 c23) x15.2.1, Ch.bx n0 b1 0 [(I 0), (.slice none 0 0), (I 0)] [] [], Ch.ro 0 (Sl alist_0 list_0 clist_0) list_0] := H
   refine st_exS (ex_store_box (k := 0) (cs := [(I 0), (.slice none 0 0), (I 0)]) (vs := [(I r25.1), (Sl a28 r25.2.1 c29), (I r25.2.2)]) (cs' := [(I r25.1), (Sl a28 r25.2.1 c29), (I r25.2.2)]) H (i := 2) rfl ti31 rfl rfl rfl rfl rfl (Nat.le_of_ble_eq_true rfl) (by simp [plain]) rfl) (wanted_none _ rfl _) ?_
   rintro σ31 ⟨H, -⟩
   refine st (v := (B true)) (rv_assign rfl) ?_
   refine w_end ?_
   refine q_then ?_
   refine c_ret ?_
   obtain rfl := Option.some.inj h
   exact fin_ret (v := (.tuple #[(.agg #[(I r25.1), (Sl a28 r25.2.1 c29), (I r25.2.2)]), (B true)])) (results_ok Try.results19 (res_cell rfl (run_cellRes (cs := [(I r25.1), (Sl a28 r25.2.1 c29), (I r25.2.2)]) Try.underlying31 rfl ti31 rfl (H.cells 0 rfl)) (res_tmp (v := (B true)) rfl res_nil)) rfl) ⟨a28, c29, rfl, rfl⟩ (H.sel' [1] rfl rfl)

theorem c_laws_FnNearestDistance {code_0 : List UInt8} {acode_0 : Option Addr} {ccode_0 : Nat} {r : Bool} (h : M.laws_FnNearestDistance code_0 = some r) :
    Cal2 Try.prog 3 [(Sl acode_0 code_0 ccode_0)] [Ch.ro 0 (Sl acode_0 code_0 ccode_0) code_0] (fun n0 v L => v = (B r) ∧ L = []) := by
 refine cal2 (n := 65) Try.func3 rfl rfl rfl rfl ?_
 intro S0 σ0 n0 hn0 H
 unfold M.laws_FnNearestDistance at h
 refine c_seq ?_
 refine rg ?_
 refine st (v := (B false)) (rv_assign rfl) ?_
 refine w_end ?_
 refine q_then ?_
 refine c_seq ?_
 refine c_seq ?_
 refine rg ?_
 refine st (v := (Sl acode_0 code_0 ccode_0)) (rv_move rfl) ?_
 refine st (v := (I (code_0.length : Int))) (rv_len Try.underlying22 rfl) ?_
 refine st (v := (B (decide (1048576 < (code_0.length : Int))))) (rv_gtr (a := (code_0.length : Int)) (b := 1048576) rfl rfl) ?_
 refine w_end ?_
 refine q_then ?_
 refine cd_cond (decide (1048576 < (code_0.length : Int))) rfl (fun hb1 => ?_) (fun hb1 => ?_)
 ·replace h := bif_t hb1 h
  refine c_seq ?_
  refine rg ?_
  refine st (v := (B true)) (rv_assign rfl) ?_
  refine w_end ?_
  refine q_then ?_
  refine c_ret ?_
  refine q_then_r ?_
  obtain rfl := Option.some.inj h
  exact fin_ret (v := (B true)) (results_ok Try.results3 (res_tmp (v := (B true)) rfl res_nil) rfl) ⟨rfl, rfl⟩ (H.sel' [] rfl rfl)
 ·replace h := bif_f hb1 h
  refine c_skip ?_
  refine q_then ?_
  refine c_seq ?_
  refine rg ?_
  refine st (v := (Sl acode_0 code_0 ccode_0)) (rv_move rfl) ?_
  obtain ⟨r2, hx3, h'⟩ := bind_some h
  clear h
  have h := h'; clear h'
  have hc4 := c_spec_DrawNearest (acode_0 := acode_0) (ccode_0 := ccode_0) hx3
  refine st_call (cx_call hc4 (ent_f hc4.fn rfl) hn0 (show Hp S0 σ0 _ ([Ch.ro 0 (Sl acode_0 code_0 ccode_0) code_0] ++ [Ch.ro 0 (Sl acode_0 code_0 ccode_0) code_0]) from (H.sel' [0, 0] rfl rfl))) (wanted_none _ rfl _) ?_
  rintro _ σ9 ⟨_, ⟨a5, c6, a7, c8, rfl, rfl⟩, H, -⟩
  replace H : Hp S0 σ0 σ9 [Ch.own n0 n0 (Sl a5 r2.1 c6) r2.1, Ch.own n0 n0 (Sl a7 r2.2.2.1 c8) r2.2.2.1, Ch.ro 0 (Sl acode_0 code_0 ccode_0) code_0] := H
  refine st (v := (.tuple #[(Sl a5 r2.1 c6), (I r2.2.1), (Sl a7 r2.2.2.1 c8), (I r2.2.2.2)])) (rv_move rfl) ?_
  refine st (v := (Sl a5 r2.1 c6)) (rv_extract rfl rfl) ?_
  refine st (v := (I r2.2.1)) (rv_extract rfl rfl) ?_
  refine st (v := (Sl a7 r2.2.2.1 c8)) (rv_extract rfl rfl) ?_
  refine st (v := (I r2.2.2.2)) (rv_extract rfl rfl) ?_
  refine st (v := (Sl a5 r2.1 c6)) (rv_assign rfl) ?_
  refine st (v := (I r2.2.1)) (rv_assign rfl) ?_
  refine st (v := (Sl a7 r2.2.2.1 c8)) (rv_assign rfl) ?_
  refine st (v := (I r2.2.2.2)) (rv_assign rfl) ?_
  refine w_end ?_
  refine q_then ?_
  refine c_seq ?_
  refine rg ?_
  refine st (v := (Sl a5 r2.1 c6)) (rv_move rfl) ?_
  refine st (v := (I r2.2.1)) (rv_move rfl) ?_
  refine st (v := (Sl a7 r2.2.2.1 c8)) (rv_move rfl) ?_
  refine st (v := (I r2.2.2.2)) (rv_move rfl) ?_
  obtain ⟨r10, hx11, h'⟩ := bind_some h
  clear h
  have h := h'; clear h'
  have hc12 := c_impl_Nearest (alist_0 := a5) (clist_0 := c6) (aat_2 := a7) (cat_2 := c8) hx11
  have hle := Nat.le_trans hn0 H.size
  refine st_call (cx_lend (Loan.lend (Loan.lend Loan.nil)) hc12 (ent_f hc12.fn rfl) (show Hp S0 σ0 _ ([Ch.own n0 n0 (Sl a5 r2.1 c6) r2.1, Ch.own n0 n0 (Sl a7 r2.2.2.1 c8) r2.2.2.1] ++ ([] ++ [Ch.ro 0 (Sl acode_0 code_0 ccode_0) code_0])) from (H.sel' [0, 1, 2] rfl rfl)) (by rintro _ _ _ ⟨_, _, rfl, rfl⟩; exact ⟨Ab.ownSc, trivial⟩)) (wanted_none _ rfl _) ?_
  rintro _ σ15 ⟨_, ⟨a13, c14, rfl, rfl⟩, H, -, -⟩
  replace H : Hp S0 σ0 σ15 [Ch.own 0 σ9.size (Sl a13 r10 c14) r10, Ch.own n0 n0 (Sl a5 r2.1 c6) r2.1, Ch.own n0 n0 (Sl a7 r2.2.2.1 c8) r2.2.2.1, Ch.ro 0 (Sl acode_0 code_0 ccode_0) code_0] := H
  replace H := H.ownLow 0 0 n0 rfl (Nat.le_refl _) hle
  clear hle
  replace H : Hp S0 σ0 σ15 [Ch.own 0 n0 (Sl a13 r10 c14) r10, Ch.own n0 n0 (Sl a5 r2.1 c6) r2.1, Ch.own n0 n0 (Sl a7 r2.2.2.1 c8) r2.2.2.1, Ch.ro 0 (Sl acode_0 code_0 ccode_0) code_0] := H
  refine st (v := (Sl a13 r10 c14)) (rv_assign rfl) ?_
  refine w_end ?_
  refine q_then ?_
  refine c_seq ?_
  refine c_seq ?_
  refine rg ?_
  refine st (v := (Sl a13 r10 c14)) (rv_move rfl) ?_
  refine st (v := (Sl a5 r2.1 c6)) (rv_move rfl) ?_
  refine st (v := (I r2.2.1)) (rv_move rfl) ?_
  refine st (v := (Sl a7 r2.2.2.1 c8)) (rv_move rfl) ?_
  refine st (v := (I r2.2.2.2)) (rv_move rfl) ?_
  obtain ⟨r16, hx17, h'⟩ := bind_some h
  clear h
  have h := h'; clear h'
  have hc18 := c_spec_Nearest (alist_0 := a5) (clist_0 := c6) (aat_2 := a7) (cat_2 := c8) hx17
  have hle := Nat.le_trans hn0 H.size
  refine st_call (cx_lend (Loan.lend (Loan.lend Loan.nil)) hc18 (ent_f hc18.fn rfl) (show Hp S0 σ0 _ ([Ch.own n0 n0 (Sl a5 r2.1 c6) r2.1, Ch.own n0 n0 (Sl a7 r2.2.2.1 c8) r2.2.2.1] ++ ([] ++ [Ch.own 0 n0 (Sl a13 r10 c14) r10, Ch.ro 0 (Sl acode_0 code_0 ccode_0) code_0])) from (H.sel' [1, 2, 0, 3] rfl rfl)) (by rintro _ _ _ ⟨_, _, rfl, rfl⟩; exact ⟨Ab.ownSc, trivial⟩)) (wanted_none _ rfl _) ?_
  rintro _ σ21 ⟨_, ⟨a19, c20, rfl, rfl⟩, H, -, -⟩
  replace H : Hp S0 σ0 σ21 [Ch.own σ15.size σ15.size (Sl a19 r16 c20) r16, Ch.own n0 n0 (Sl a5 r2.1 c6) r2.1, Ch.own n0 n0 (Sl a7 r2.2.2.1 c8) r2.2.2.1, Ch.own 0 n0 (Sl a13 r10 c14) r10, Ch.ro 0 (Sl acode_0 code_0 ccode_0) code_0] := H
  replace H := H.ownLow 0 n0 n0 rfl hle hle
  clear hle
  replace H : Hp S0 σ0 σ21 [Ch.own n0 n0 (Sl a19 r16 c20) r16, Ch.own n0 n0 (Sl a5 r2.1 c6) r2.1, Ch.own n0 n0 (Sl a7 r2.2.2.1 c8) r2.2.2.1, Ch.own 0 n0 (Sl a13 r10 c14) r10, Ch.ro 0 (Sl acode_0 code_0 ccode_0) code_0] := H
  obtain ⟨σ22, hw23, H, -⟩ := H.pub 0 rfl (Nat.le_refl _)
  rw [← hw23]; clear hw23
  replace H := H.roLow 0 0 rfl (Nat.zero_le _)
  obtain ⟨r24, hx25, h'⟩ := bind_some h
  clear h
  have h := h'; clear h'
  have hc26 := c_laws_equalHits (aa_0 := a13) (ca_0 := c14) (ab_1 := a19) (cb_1 := c20) hx25
  have hle := Nat.le_trans hn0 H.size
  refine st_call (cx_lend (Loan.lend (Loan.same Loan.nil)) hc26 (ent_f hc26.fn rfl) (show Hp S0 σ0 _ ([Ch.own 0 n0 (Sl a13 r10 c14) r10] ++ ([Ch.ro 0 (Sl a19 r16 c20) r16] ++ [Ch.ro 0 (Sl a19 r16 c20) r16, Ch.ro n0 (Sl a19 r16 c20) r16, Ch.own n0 n0 (Sl a5 r2.1 c6) r2.1, Ch.own n0 n0 (Sl a7 r2.2.2.1 c8) r2.2.2.1, Ch.ro 0 (Sl acode_0 code_0 ccode_0) code_0])) from (H.sel' [4, 0, 0, 1, 2, 3, 5] rfl rfl)) (by rintro _ _ _ ⟨rfl, rfl⟩; exact trivial)) (wanted_none _ rfl _) ?_
  rintro _ σ27 ⟨_, ⟨rfl, rfl⟩, H, -, -⟩
  replace H : Hp S0 σ0 σ27 [Ch.own 0 n0 (Sl a13 r10 c14) r10, Ch.ro 0 (Sl a19 r16 c20) r16, Ch.ro n0 (Sl a19 r16 c20) r16, Ch.own n0 n0 (Sl a5 r2.1 c6) r2.1, Ch.own n0 n0 (Sl a7 r2.2.2.1 c8) r2.2.2.1, Ch.ro 0 (Sl acode_0 code_0 ccode_0) code_0] := H
  clear hle
  replace H : Hp S0 σ0 σ27 [Ch.own 0 n0 (Sl a13 r10 c14) r10, Ch.ro 0 (Sl a19 r16 c20) r16, Ch.ro n0 (Sl a19 r16 c20) r16, Ch.own n0 n0 (Sl a5 r2.1 c6) r2.1, Ch.own n0 n0 (Sl a7 r2.2.2.1 c8) r2.2.2.1, Ch.ro 0 (Sl acode_0 code_0 ccode_0) code_0] := H
  refine st (v := (B (!r24))) (rv_not rfl) ?_
  refine w_end ?_
  refine q_then ?_
  refine cd_cond (!r24) rfl (fun hb28 => ?_) (fun hb28 => ?_)
  ·replace h := bif_t hb28 h
   refine c_seq ?_
   refine rg ?_
   refine st (v := (B false)) (rv_assign rfl) ?_
   refine w_end ?_
   refine q_then ?_
   refine c_ret ?_
   refine q_then_r ?_
   obtain rfl := Option.some.inj h
   exact fin_ret (v := (B false)) (results_ok Try.results3 (res_tmp (v := (B false)) rfl res_nil) rfl) ⟨rfl, rfl⟩ (H.sel' [] rfl rfl)
  ·replace h := bif_f hb28 h
   refine c_skip ?_
   refine q_then ?_
   refine c_seq ?_
   refine c_seq ?_
   refine rg ?_
   refine st (v := (I 0)) (rv_assign rfl) ?_
   refine w_end ?_
   refine q_then ?_
   obtain ⟨o29, hj, h'⟩ := bind_some h
   clear h
   refine c_cut (fun e a w => (∃ t, o29 = (.inl t) ∧ e = .normal ∧ ∃ (ρ : Nat → Value) (σ : St), a = fr 65 (updL ρ []) ∧ w = σ.w ∧ Hp S0 σ0 σ []) ∨ (∃ t, o29 = (.inr t) ∧ e = .ret ∧ ∃ (ρ : Nat → Value) (σ : St), a = fr 65 (updL ρ [(2, (B t))]) ∧ w = σ.w ∧ Hp S0 σ0 σ [])) ?_ ?_
   ·clear h'
    rename _ = some o29 => h
    refine c_blk ?_
    obtain ⟨σ31, hw32, H, -⟩ := H.pub 4 rfl (Nat.le_refl _)
    rw [← hw32]; clear hw32
    refine wp_loopM _ h (fun s30 a w => ∃ (ρ : Nat → Value) (σ : St), a = fr 65 (updL ρ [(3, (Sl a5 r2.1 c6)), (4, (I r2.2.1)), (5, (Sl a7 r2.2.2.1 c8)), (7, (Sl a13 r10 c14)), (8, (I s30))]) ∧ w = σ.w ∧ Hp S0 σ0 σ [Ch.own n0 n0 (Sl a5 r2.1 c6) r2.1, Ch.ro n0 (Sl a7 r2.2.2.1 c8) r2.2.2.1, Ch.own 0 n0 (Sl a13 r10 c14) r10]) ⟨_, σ31, fr_join ⟨rfl, rfl, rfl, rfl, rfl, trivial⟩, rfl, H.sel' [4, 0, 1] rfl rfl⟩ ?_
    clear h H
    rintro s30 a w o ⟨ρ, σ33, rfl, rfl, H⟩ h hres
    refine c_seq ?_
    refine c_seq ?_
    refine rg ?_
    refine st (v := (I s30)) (rv_move rfl) ?_
    refine st (v := (Sl a13 r10 c14)) (rv_move rfl) ?_
    refine st (v := (I (r10.length : Int))) (rv_len Try.underlying27 rfl) ?_
    refine st (v := (B (decide (s30 < (r10.length : Int))))) (rv_lss (a := s30) (b := (r10.length : Int)) rfl rfl) ?_
    refine w_end ?_
    refine q_then ?_
    refine cd_cond (decide (s30 < (r10.length : Int))) rfl (fun hb34 => ?_) (fun hb34 => ?_)
    ·replace h := bif_t hb34 h
     refine c_skip ?_
     refine q_then ?_
     refine c_seq ?_
     refine c_blk ?_
     refine c_seq ?_
     refine rg ?_
     refine st (v := (Sl a5 r2.1 c6)) (rv_move rfl) ?_
     refine st (v := (Sl a13 r10 c14)) (rv_move rfl) ?_
     refine st (v := (I s30)) (rv_move rfl) ?_
     obtain ⟨x35, hx36, h'⟩ := bind_some h
     clear h
     have h := h'; clear h'
     obtain ⟨b38, o39, hi37, -⟩ := (H.own 2 rfl).ix hx36
     refine st (v := (pt b38 o39)) (rv_ix Try.underlying27 ti35 rfl rfl hi37) ?_
     refine st (v := (pt b38 (o39 + 0))) (rv_fieldAddr (off := 0) (ft := 3) Try.underlying35 rfl ti3 rfl rfl) ?_
     have hc40 := ((H.own 2 rfl).at hx36 hi37).fst.int
     refine st (v := (I x35.1)) (rv_load1 Try.underlying3 rfl rfl hc40) ?_
     obtain ⟨r41, hx42, h'⟩ := bind_some h
     clear h
     have h := h'; clear h'
     have hc43 := c_impl_GetItem (alist_0 := a5) (clist_0 := c6) hx42
     have hle := Nat.le_trans hn0 H.size
     refine st_call (cx_lend (Loan.lend Loan.nil) hc43 (ent_f hc43.fn rfl) (show Hp S0 σ0 _ ([Ch.own n0 n0 (Sl a5 r2.1 c6) r2.1] ++ ([] ++ [Ch.ro n0 (Sl a7 r2.2.2.1 c8) r2.2.2.1, Ch.own 0 n0 (Sl a13 r10 c14) r10])) from (H.sel' [0, 1, 2] rfl rfl)) (by rintro _ _ _ ⟨_, _, rfl, rfl⟩; exact ⟨Ab.ownSc, trivial⟩)) (wanted_none _ rfl _) ?_
     rintro _ σ46 ⟨_, ⟨a44, c45, rfl, rfl⟩, H, -, -⟩
     replace H : Hp S0 σ0 σ46 [Ch.own σ33.size σ33.size (Sl a44 r41.1.2.1 c45) r41.1.2.1, Ch.own n0 n0 (Sl a5 r2.1 c6) r2.1, Ch.ro n0 (Sl a7 r2.2.2.1 c8) r2.2.2.1, Ch.own 0 n0 (Sl a13 r10 c14) r10] := H
     replace H := H.ownLow 0 n0 n0 rfl hle hle
     clear hle
     replace H : Hp S0 σ0 σ46 [Ch.own n0 n0 (Sl a44 r41.1.2.1 c45) r41.1.2.1, Ch.own n0 n0 (Sl a5 r2.1 c6) r2.1, Ch.ro n0 (Sl a7 r2.2.2.1 c8) r2.2.2.1, Ch.own 0 n0 (Sl a13 r10 c14) r10] := H
     refine st (v := (.tuple #[(.agg #[(I r41.1.1), (Sl a44 r41.1.2.1 c45), (I r41.1.2.2)]), (B r41.2)])) (rv_move rfl) ?_
     refine st (v := (.agg #[(I r41.1.1), (Sl a44 r41.1.2.1 c45), (I r41.1.2.2)])) (rv_extract rfl rfl) ?_
     refine st (v := (B r41.2)) (rv_extract rfl rfl) ?_
     refine st_ex (ex_alloc (cs := [(I 0), (.slice none 0 0), (I 0)]) H hn0 ti31 rfl) (wanted_none _ rfl _) ?_
     rintro _ σ48 ⟨b47, rfl, H, -⟩
     refine st_exS (ex_store_box (k := 0) (cs := [(I 0), (.slice none 0 0), (I 0)]) (vs := [(I r41.1.1), (Sl a44 r41.1.2.1 c45), (I r41.1.2.2)]) (cs' := [(I r41.1.1), (Sl a44 r41.1.2.1 c45), (I r41.1.2.2)]) H (i := 0) rfl ti31 rfl rfl rfl rfl rfl (Nat.le_of_ble_eq_true rfl) (by simp [plain]) rfl) (wanted_none _ rfl _) ?_
     rintro σ49 ⟨H, -⟩
     refine st (v := (B r41.2)) (rv_assign rfl) ?_
     refine w_end ?_
     refine q_then ?_
     refine c_seq ?_
     obtain ⟨o50, hj, h'⟩ := bind_some h
     clear h
     refine c_cut (fun e a w => e = .normal ∧ ∃ (ρ : Nat → Value) (σ : St), a = fr 65 (updL ρ [(3, (Sl a5 r2.1 c6)), (4, (I r2.2.1)), (5, (Sl a7 r2.2.2.1 c8)), (7, (Sl a13 r10 c14)), (8, (I s30)), (64, (B o50))]) ∧ w = σ.w ∧ Hp S0 σ0 σ [Ch.own n0 n0 (Sl a5 r2.1 c6) r2.1, Ch.ro n0 (Sl a7 r2.2.2.1 c8) r2.2.2.1, Ch.own 0 n0 (Sl a13 r10 c14) r10]) ?_ ?_
     ·clear h'
      rename _ = some o50 => h
      obtain ⟨σ51, hw52, H, -⟩ := H.pub 1 rfl (Nat.le_refl _)
      rw [← hw52]; clear hw52
      rcases Bool.eq_false_or_eq_true (!r41.2) with hb53 | hb53
      ·replace h := bif_t hb53 h
       have Hs := H
       refine rg2 (σ := σ51) (Nm := Unit) 13 [] [[]] [[(0, 0)], [(0, 0)], [(0, 0)], [(0, 0)], [(0, 0)], [(0, 0)], [(0, 0)], [(0, 0)], [(0, 0)], [(0, 0)], [(0, 0)], [(0, 0)], [(0, 0)]] 0 [fun (_nm : Unit) => fun σm => Hp S0 σ0 σm [Ch.ro n0 (Sl a44 r41.1.2.1 c45) r41.1.2.1, Ch.bx n0 b47 0 [(I r41.1.1), (Sl a44 r41.1.2.1 c45), (I r41.1.2.2)] [] [], Ch.own n0 n0 (Sl a5 r2.1 c6) r2.1, Ch.ro n0 (Sl a7 r2.2.2.1 c8) r2.2.2.1, Ch.own 0 n0 (Sl a13 r10 c14) r10] ∧ Md (cov []) σ51 σm] [fun (_nm : Unit) => (B r41.2), fun (_nm : Unit) => (B (!r41.2)), fun (_nm : Unit) => (B (!r41.2)), fun (_nm : Unit) => undef, fun (_nm : Unit) => undef, fun (_nm : Unit) => undef, fun (_nm : Unit) => undef, fun (_nm : Unit) => undef, fun (_nm : Unit) => undef, fun (_nm : Unit) => undef, fun (_nm : Unit) => undef, fun (_nm : Unit) => undef, fun (_nm : Unit) => undef] () (by kernel_rfl) (by kernel_rfl) ?_ ?_ ?_
       ·intro σm m0
        exact ⟨H.grow (m0.mono fun _ h => h.elim), m0⟩
       ·refine all_cons (obs_v rfl (by
          intro k; intro _nm ρ σm hJ hoff hdep
          have e10 : look 65 ρ 10 = (B r41.2) := look_off (hoff 10 rfl) rfl
          exact dp_v (v := (B r41.2)) (wanted_none _ rfl _) (rv_move e10) rfl hJ)) ?_
        refine all_cons (obs_v rfl (by
          intro k; intro _nm ρ σm hJ hoff hdep
          have e50 : look 65 ρ 50 = (B r41.2) := hdep 0 rfl rfl 50 rfl
          exact dp_v (v := (B (!r41.2))) (wanted_none _ rfl _) (rv_not e50) rfl hJ)) ?_
        refine all_cons (obs_v rfl (by
          intro k; intro _nm ρ σm hJ hoff hdep
          have e51 : look 65 ρ 51 = (B (!r41.2)) := hdep 1 rfl rfl 51 rfl
          exact dp_v (v := (B (!r41.2))) (wanted_none _ rfl _) (rv_move e51) rfl hJ)) ?_
        refine all_cons (obs_v rfl (by
          intro k; intro _nm ρ σm hJ hoff hdep
          have e52 : look 65 ρ 52 = (B (!r41.2)) := hdep 2 rfl rfl 52 rfl
          exact dp_skip (wanted_no rfl (yv_of rfl (e52.trans (congrArg B hb53)))) rfl hJ)) ?_
        refine all_cons (obs_v rfl (by
          intro k; intro _nm ρ σm hJ hoff hdep
          have e52 : look 65 ρ 52 = (B (!r41.2)) := hdep 2 rfl rfl 52 rfl
          exact dp_skip (wanted_no rfl (yv_of rfl (e52.trans (congrArg B hb53)))) rfl hJ)) ?_
        refine all_cons (obs_v rfl (by
          intro k; intro _nm ρ σm hJ hoff hdep
          have e52 : look 65 ρ 52 = (B (!r41.2)) := hdep 2 rfl rfl 52 rfl
          exact dp_skip (wanted_no rfl (yv_of rfl (e52.trans (congrArg B hb53)))) rfl hJ)) ?_
        refine all_cons (obs_v rfl (by
          intro k; intro _nm ρ σm hJ hoff hdep
          have e52 : look 65 ρ 52 = (B (!r41.2)) := hdep 2 rfl rfl 52 rfl
          exact dp_skip (wanted_no rfl (yv_of rfl (e52.trans (congrArg B hb53)))) rfl hJ)) ?_
        refine all_cons (obs_v rfl (by
          intro k; intro _nm ρ σm hJ hoff hdep
          have e52 : look 65 ρ 52 = (B (!r41.2)) := hdep 2 rfl rfl 52 rfl
          exact dp_skip (wanted_no rfl (yv_of rfl (e52.trans (congrArg B hb53)))) rfl hJ)) ?_
        refine all_cons (obs_v rfl (by
          intro k; intro _nm ρ σm hJ hoff hdep
          have e52 : look 65 ρ 52 = (B (!r41.2)) := hdep 2 rfl rfl 52 rfl
          exact dp_skip (wanted_no rfl (yv_of rfl (e52.trans (congrArg B hb53)))) rfl hJ)) ?_
        refine all_cons (obs_v rfl (by
          intro k; intro _nm ρ σm hJ hoff hdep
          have e52 : look 65 ρ 52 = (B (!r41.2)) := hdep 2 rfl rfl 52 rfl
          exact dp_skip (wanted_no rfl (yv_of rfl (e52.trans (congrArg B hb53)))) rfl hJ)) ?_
        refine all_cons (obs_v rfl (by
          intro k; intro _nm ρ σm hJ hoff hdep
          have e52 : look 65 ρ 52 = (B (!r41.2)) := hdep 2 rfl rfl 52 rfl
          exact dp_skip (wanted_no rfl (yv_of rfl (e52.trans (congrArg B hb53)))) rfl hJ)) ?_
        refine all_cons (obs_v rfl (by
          intro k; intro _nm ρ σm hJ hoff hdep
          have e52 : look 65 ρ 52 = (B (!r41.2)) := hdep 2 rfl rfl 52 rfl
          exact dp_skip (wanted_no rfl (yv_of rfl (e52.trans (congrArg B hb53)))) rfl hJ)) ?_
        refine all_cons (obs_v rfl (by
          intro k; intro _nm ρ σm hJ hoff hdep
          have e52 : look 65 ρ 52 = (B (!r41.2)) := hdep 2 rfl rfl 52 rfl
          exact dp_skip (wanted_no rfl (yv_of rfl (e52.trans (congrArg B hb53)))) rfl hJ)) ?_
        exact all_nil
       ·intro _nm ρ σ54 hJ hoff hrel
        have e3 : look 65 ρ 3 = (Sl a5 r2.1 c6) := look_off (hoff 3 rfl) rfl
        have e4 : look 65 ρ 4 = (I r2.2.1) := look_off (hoff 4 rfl) rfl
        have e5 : look 65 ρ 5 = (Sl a7 r2.2.2.1 c8) := look_off (hoff 5 rfl) rfl
        have e7 : look 65 ρ 7 = (Sl a13 r10 c14) := look_off (hoff 7 rfl) rfl
        have e8 : look 65 ρ 8 = (I s30) := look_off (hoff 8 rfl) rfl
        have e52 : look 65 ρ 52 = (B (!r41.2)) := hrel 2 rfl 52 rfl
        have e57 : look 65 ρ 57 = undef := hrel 7 rfl 57 rfl
        have e62 : look 65 ρ 62 = undef := hrel 12 rfl 62 rfl
        obtain ⟨H, -⟩ := (show Hp S0 σ0 σ54 [Ch.ro n0 (Sl a44 r41.1.2.1 c45) r41.1.2.1, Ch.bx n0 b47 0 [(I r41.1.1), (Sl a44 r41.1.2.1 c45), (I r41.1.2.2)] [] [], Ch.own n0 n0 (Sl a5 r2.1 c6) r2.1, Ch.ro n0 (Sl a7 r2.2.2.1 c8) r2.2.2.1, Ch.own 0 n0 (Sl a13 r10 c14) r10] ∧ Md (cov []) σ51 σ54 from hJ)
        clear hJ Hs
        rw [fr_lookL (L := [(3, (Sl a5 r2.1 c6)), (4, (I r2.2.1)), (5, (Sl a7 r2.2.2.1 c8)), (7, (Sl a13 r10 c14)), (8, (I s30)), (52, (B (!r41.2))), (57, undef), (62, undef)]) ⟨e3, e4, e5, e7, e8, e52, e57, e62, trivial⟩]
        clear hoff hrel e3 e4 e5 e7 e8 e52 e57 e62
        refine st_skip (congrArg some hb53) ?_
        refine st (v := (B true)) (rv_pick_t (congrArg B hb53) rfl) ?_
        refine w_end ?_
        obtain rfl := Option.some.inj h
        exact ⟨rfl, _, σ54, fr_join ⟨rfl, rfl, rfl, rfl, rfl, rfl, trivial⟩, rfl, H.sel' [2, 3, 4] rfl rfl⟩
      ·replace h := bif_f hb53 h
       have hc55 := H.cell (u := (Sl a44 r41.1.2.1 c45)) (o' := 1) 1 1 rfl rfl rfl
       replace H := H.roLow 0 0 rfl (Nat.zero_le _)
       replace H := H.roLow 4 0 rfl (Nat.zero_le _)
       obtain ⟨r56, hx57, h'⟩ := bind_some h
       clear h
       have h := h'; clear h'
       have hc58 := c_impl_Distance (aa_1 := a44) (ca_1 := c45) (ab_2 := a7) (cb_2 := c8) hx57
       obtain ⟨x59, hx60, h'⟩ := bind_some h
       clear h
       have h := h'; clear h'
       obtain ⟨b62, o63, hi61, -⟩ := (H.own 6 rfl).ix hx60
       have hc64 := ((H.own 6 rfl).at hx60 hi61).snd.int
       have Hs := H
       refine rg2 (σ := σ51) (Nm := Unit) 13 [7] [[false], [true]] [[(0, 0)], [(0, 0)], [(0, 0)], [(0, 0)], [(0, 0)], [(0, 0)], [(0, 0)], [(0, 1)], [(0, 0), (1, 1)], [(0, 0), (1, 1)], [(0, 0), (1, 1)], [(0, 0), (1, 1)], [(0, 0), (1, 1)]] 1 [fun (_nm : Unit) => fun σm => Hp S0 σ0 σm [Ch.ro 0 (Sl a7 r2.2.2.1 c8) r2.2.2.1, Ch.ro 0 (Sl a44 r41.1.2.1 c45) r41.1.2.1, Ch.ro n0 (Sl a44 r41.1.2.1 c45) r41.1.2.1, Ch.bx n0 b47 0 [(I r41.1.1), (Sl a44 r41.1.2.1 c45), (I r41.1.2.2)] [] [], Ch.own n0 n0 (Sl a5 r2.1 c6) r2.1, Ch.ro n0 (Sl a7 r2.2.2.1 c8) r2.2.2.1, Ch.own 0 n0 (Sl a13 r10 c14) r10] ∧ Md (cov []) σ51 σm, fun (_nm : Unit) => fun σm => Hp S0 σ0 σm [Ch.ro 0 (Sl a7 r2.2.2.1 c8) r2.2.2.1, Ch.ro 0 (Sl a44 r41.1.2.1 c45) r41.1.2.1, Ch.ro n0 (Sl a44 r41.1.2.1 c45) r41.1.2.1, Ch.bx n0 b47 0 [(I r41.1.1), (Sl a44 r41.1.2.1 c45), (I r41.1.2.2)] [] [], Ch.own n0 n0 (Sl a5 r2.1 c6) r2.1, Ch.ro n0 (Sl a7 r2.2.2.1 c8) r2.2.2.1, Ch.own 0 n0 (Sl a13 r10 c14) r10] ∧ Md (cov []) σ51 σm] [fun (_nm : Unit) => (B r41.2), fun (_nm : Unit) => (B (!r41.2)), fun (_nm : Unit) => (B (!r41.2)), fun (_nm : Unit) => (I r2.2.1), fun (_nm : Unit) => (pt b47 1), fun (_nm : Unit) => (Sl a44 r41.1.2.1 c45), fun (_nm : Unit) => (Sl a7 r2.2.2.1 c8), fun (_nm : Unit) => (I r56), fun (_nm : Unit) => (Sl a13 r10 c14), fun (_nm : Unit) => (I s30), fun (_nm : Unit) => (pt b62 o63), fun (_nm : Unit) => (pt b62 (o63 + 1)), fun (_nm : Unit) => (I x59.2)] () (by kernel_rfl) (by kernel_rfl) ?_ ?_ ?_
       ·intro σm m0
        exact ⟨H.grow (m0.mono fun _ h => h.elim), m0⟩
       ·refine all_cons (obs_v rfl (by
          intro k; intro _nm ρ σm hJ hoff hdep
          have e10 : look 65 ρ 10 = (B r41.2) := look_off (hoff 10 rfl) rfl
          exact dp_v (v := (B r41.2)) (wanted_none _ rfl _) (rv_move e10) rfl hJ)) ?_
        refine all_cons (obs_v rfl (by
          intro k; intro _nm ρ σm hJ hoff hdep
          have e50 : look 65 ρ 50 = (B r41.2) := hdep 0 rfl rfl 50 rfl
          exact dp_v (v := (B (!r41.2))) (wanted_none _ rfl _) (rv_not e50) rfl hJ)) ?_
        refine all_cons (obs_v rfl (by
          intro k; intro _nm ρ σm hJ hoff hdep
          have e51 : look 65 ρ 51 = (B (!r41.2)) := hdep 1 rfl rfl 51 rfl
          exact dp_v (v := (B (!r41.2))) (wanted_none _ rfl _) (rv_move e51) rfl hJ)) ?_
        refine all_cons (obs_v rfl (by
          intro k; intro _nm ρ σm hJ hoff hdep
          have e4 : look 65 ρ 4 = (I r2.2.1) := look_off (hoff 4 rfl) rfl
          have e52 : look 65 ρ 52 = (B (!r41.2)) := hdep 2 rfl rfl 52 rfl
          exact dp_v (v := (I r2.2.1)) (wanted_yes rfl (yv_of rfl (e52.trans (congrArg B hb53)))) (rv_move e4) rfl hJ)) ?_
        refine all_cons (obs_v rfl (by
          intro k; intro _nm ρ σm hJ hoff hdep
          have e9 : look 65 ρ 9 = (pt b47 0) := look_off (hoff 9 rfl) rfl
          have e52 : look 65 ρ 52 = (B (!r41.2)) := hdep 2 rfl rfl 52 rfl
          exact dp_v (v := (pt b47 1)) (wanted_yes rfl (yv_of rfl (e52.trans (congrArg B hb53)))) (rv_fieldAddr (off := 1) (ft := 24) Try.underlying31 rfl ti24 rfl e9) rfl hJ)) ?_
        refine all_cons (by
          refine ⟨?_, ?_⟩
          ·intro _nm ρ σm hJ hoff hdep
           have e54 : look 65 ρ 54 = (pt b47 1) := hdep 4 rfl rfl 54 rfl
           have e52 : look 65 ρ 52 = (B (!r41.2)) := hdep 2 rfl rfl 52 rfl
           obtain ⟨H, m⟩ := id hJ
           have hc55 := H.cell (u := (Sl a44 r41.1.2.1 c45)) (o' := 1) 3 1 rfl rfl rfl
           exact dp_v (v := (Sl a44 r41.1.2.1 c45)) (wanted_yes rfl (yv_of rfl (e52.trans (congrArg B hb53)))) (rv_load1 Try.underlying24 rfl e54 hc55) rfl hJ
          trivial) ?_
        refine all_cons (obs_v rfl (by
          intro k; intro _nm ρ σm hJ hoff hdep
          have e5 : look 65 ρ 5 = (Sl a7 r2.2.2.1 c8) := look_off (hoff 5 rfl) rfl
          have e52 : look 65 ρ 52 = (B (!r41.2)) := hdep 2 rfl rfl 52 rfl
          exact dp_v (v := (Sl a7 r2.2.2.1 c8)) (wanted_yes rfl (yv_of rfl (e52.trans (congrArg B hb53)))) (rv_move e5) rfl hJ)) ?_
        refine all_cons (by
          refine ⟨?_, ?_⟩
          ·intro _nm ρ σm hJ hoff hdep
           have e53 : look 65 ρ 53 = (I r2.2.1) := hdep 3 rfl rfl 53 rfl
           have e55 : look 65 ρ 55 = (Sl a44 r41.1.2.1 c45) := hdep 5 rfl rfl 55 rfl
           have e56 : look 65 ρ 56 = (Sl a7 r2.2.2.1 c8) := hdep 6 rfl rfl 56 rfl
           have e52 : look 65 ρ 52 = (B (!r41.2)) := hdep 2 rfl rfl 52 rfl
           obtain ⟨H, m⟩ := id hJ
           refine dp_cx (wanted_yes rfl (yv_of rfl (e52.trans (congrArg B hb53)))) (cx_call hc58 (ent_f hc58.fn (by show [look 65 ρ 53, look 65 ρ 55, look 65 ρ 56] = _; rw [e53, e55, e56])) hn0 (show Hp S0 σ0 _ ([Ch.ro 0 (Sl a44 r41.1.2.1 c45) r41.1.2.1, Ch.ro 0 (Sl a7 r2.2.2.1 c8) r2.2.2.1] ++ [Ch.ro 0 (Sl a7 r2.2.2.1 c8) r2.2.2.1, Ch.ro 0 (Sl a44 r41.1.2.1 c45) r41.1.2.1, Ch.ro n0 (Sl a44 r41.1.2.1 c45) r41.1.2.1, Ch.bx n0 b47 0 [(I r41.1.1), (Sl a44 r41.1.2.1 c45), (I r41.1.2.2)] [] [], Ch.own n0 n0 (Sl a5 r2.1 c6) r2.1, Ch.ro n0 (Sl a7 r2.2.2.1 c8) r2.2.2.1, Ch.own 0 n0 (Sl a13 r10 c14) r10]) from (H.sel' [1, 0, 0, 1, 2, 3, 4, 5, 6] rfl rfl))) ?_
           rintro _ σq ⟨_, ⟨rfl, rfl⟩, H2, m2⟩
           exact ⟨_, (), rfl, rfl, ⟨H2.sel' [0, 1, 2, 3, 4, 5, 6] rfl rfl, m.comp0 (m2.mono (fun i h => by simp [cov, Ch.ro] at h))⟩, stab [0, 1, 2, 3, 4, 5, 6, 8, 9, 10, 11, 12] (by kernel_rfl) ⟨rfl, rfl, rfl, rfl, rfl, rfl, rfl, rfl, rfl, rfl, rfl, rfl, trivial⟩⟩
          trivial) ?_
        refine all_cons (obs_v rfl (by
          intro k; intro _nm ρ σm hJ hoff hdep
          have e7 : look 65 ρ 7 = (Sl a13 r10 c14) := look_off (hoff 7 rfl) rfl
          have e52 : look 65 ρ 52 = (B (!r41.2)) := hdep 2 rfl rfl 52 rfl
          exact dp_v (v := (Sl a13 r10 c14)) (wanted_yes rfl (yv_of rfl (e52.trans (congrArg B hb53)))) (rv_move e7) rfl hJ)) ?_
        refine all_cons (obs_v rfl (by
          intro k; intro _nm ρ σm hJ hoff hdep
          have e8 : look 65 ρ 8 = (I s30) := look_off (hoff 8 rfl) rfl
          have e52 : look 65 ρ 52 = (B (!r41.2)) := hdep 2 rfl rfl 52 rfl
          exact dp_v (v := (I s30)) (wanted_yes rfl (yv_of rfl (e52.trans (congrArg B hb53)))) (rv_move e8) rfl hJ)) ?_
        refine all_cons (obs_v rfl (by
          intro k; intro _nm ρ σm hJ hoff hdep
          have e58 : look 65 ρ 58 = (Sl a13 r10 c14) := hdep 8 rfl rfl 58 rfl
          have e59 : look 65 ρ 59 = (I s30) := hdep 9 rfl rfl 59 rfl
          have e52 : look 65 ρ 52 = (B (!r41.2)) := hdep 2 rfl rfl 52 rfl
          exact dp_v (v := (pt b62 o63)) (wanted_yes rfl (yv_of rfl (e52.trans (congrArg B hb53)))) (rv_ix Try.underlying27 ti35 e58 e59 hi61) rfl hJ)) ?_
        refine all_cons (obs_v rfl (by
          intro k; intro _nm ρ σm hJ hoff hdep
          have e60 : look 65 ρ 60 = (pt b62 o63) := hdep 10 rfl rfl 60 rfl
          have e52 : look 65 ρ 52 = (B (!r41.2)) := hdep 2 rfl rfl 52 rfl
          exact dp_v (v := (pt b62 (o63 + 1))) (wanted_yes rfl (yv_of rfl (e52.trans (congrArg B hb53)))) (rv_fieldAddr (off := 1) (ft := 3) Try.underlying35 rfl ti3 rfl e60) rfl hJ)) ?_
        refine all_cons (by
          refine ⟨?_, ?_⟩
          ·intro _nm ρ σm hJ hoff hdep
           have e61 : look 65 ρ 61 = (pt b62 (o63 + 1)) := hdep 11 rfl rfl 61 rfl
           have e52 : look 65 ρ 52 = (B (!r41.2)) := hdep 2 rfl rfl 52 rfl
           obtain ⟨H, m⟩ := id hJ
           have hc64 := ((H.own 6 rfl).at hx60 hi61).snd.int
           exact dp_v (v := (I x59.2)) (wanted_yes rfl (yv_of rfl (e52.trans (congrArg B hb53)))) (rv_load1 Try.underlying3 rfl e61 hc64) rfl hJ
          refine ⟨?_, ?_⟩
          ·intro _nm ρ σm hJ hoff hdep
           have e61 : look 65 ρ 61 = (pt b62 (o63 + 1)) := hdep 11 rfl rfl 61 rfl
           have e52 : look 65 ρ 52 = (B (!r41.2)) := hdep 2 rfl rfl 52 rfl
           obtain ⟨H, m⟩ := id hJ
           have hc64 := ((H.own 6 rfl).at hx60 hi61).snd.int
           exact dp_v (v := (I x59.2)) (wanted_yes rfl (yv_of rfl (e52.trans (congrArg B hb53)))) (rv_load1 Try.underlying3 rfl e61 hc64) rfl hJ
          trivial) ?_
        exact all_nil
       ·intro _nm ρ σ65 hJ hoff hrel
        have e3 : look 65 ρ 3 = (Sl a5 r2.1 c6) := look_off (hoff 3 rfl) rfl
        have e4 : look 65 ρ 4 = (I r2.2.1) := look_off (hoff 4 rfl) rfl
        have e5 : look 65 ρ 5 = (Sl a7 r2.2.2.1 c8) := look_off (hoff 5 rfl) rfl
        have e7 : look 65 ρ 7 = (Sl a13 r10 c14) := look_off (hoff 7 rfl) rfl
        have e8 : look 65 ρ 8 = (I s30) := look_off (hoff 8 rfl) rfl
        have e52 : look 65 ρ 52 = (B (!r41.2)) := hrel 2 rfl 52 rfl
        have e57 : look 65 ρ 57 = (I r56) := hrel 7 rfl 57 rfl
        have e62 : look 65 ρ 62 = (I x59.2) := hrel 12 rfl 62 rfl
        obtain ⟨H, -⟩ := (show Hp S0 σ0 σ65 [Ch.ro 0 (Sl a7 r2.2.2.1 c8) r2.2.2.1, Ch.ro 0 (Sl a44 r41.1.2.1 c45) r41.1.2.1, Ch.ro n0 (Sl a44 r41.1.2.1 c45) r41.1.2.1, Ch.bx n0 b47 0 [(I r41.1.1), (Sl a44 r41.1.2.1 c45), (I r41.1.2.2)] [] [], Ch.own n0 n0 (Sl a5 r2.1 c6) r2.1, Ch.ro n0 (Sl a7 r2.2.2.1 c8) r2.2.2.1, Ch.own 0 n0 (Sl a13 r10 c14) r10] ∧ Md (cov []) σ51 σ65 from hJ)
        clear hJ Hs
        rw [fr_lookL (L := [(3, (Sl a5 r2.1 c6)), (4, (I r2.2.1)), (5, (Sl a7 r2.2.2.1 c8)), (7, (Sl a13 r10 c14)), (8, (I s30)), (52, (B (!r41.2))), (57, (I r56)), (62, (I x59.2))]) ⟨e3, e4, e5, e7, e8, e52, e57, e62, trivial⟩]
        clear hoff hrel e3 e4 e5 e7 e8 e52 e57 e62
        refine st_g (v := (B (r56 != x59.2))) (congrArg some hb53) (rv_neq (a := r56) (b := x59.2) rfl rfl) ?_
        refine st (v := (B (r56 != x59.2))) (rv_pick_f (congrArg B hb53) rfl) ?_
        refine w_end ?_
        obtain rfl := Option.some.inj h
        exact ⟨rfl, _, σ65, fr_join ⟨rfl, rfl, rfl, rfl, rfl, rfl, trivial⟩, rfl, H.sel' [4, 5, 6] rfl rfl⟩
     ·clear hj
      have h := h'
      clear h' H
      rintro e a w ⟨rfl, ρ, σ66, rfl, rfl, H⟩
      refine q_then ?_
      refine cd_cond o50 rfl (fun hb67 => ?_) (fun hb67 => ?_)
      ·replace h := bif_t hb67 h
       refine c_seq ?_
       refine rg ?_
       refine st (v := (B false)) (rv_assign rfl) ?_
       refine w_end ?_
       refine q_then ?_
       refine c_ret ?_
       refine q_blk_r ?_
       refine q_then_r ?_
       refine q_then_r ?_
       refine q_blk_r ?_
       obtain rfl := Option.some.inj h
       obtain rfl := hres _ rfl
       exact .inr (⟨_, rfl, rfl, _, σ66, fr_join ⟨rfl, trivial⟩, rfl, H.sel' [] rfl rfl⟩)
      ·replace h := bif_f hb67 h
       refine c_skip ?_
       refine q_blk ?_
       refine q_then ?_
       refine rg ?_
       refine st (v := (I s30)) (rv_move rfl) ?_
       refine st (v := (I (w64 (s30 + 1)))) (rv_add (a := s30) (b := 1) rfl rfl) ?_
       refine st (v := (I (w64 (s30 + 1)))) (rv_assign rfl) ?_
       refine w_end ?_
       refine q_then ?_
       obtain rfl := Option.some.inj h
       exact ⟨_, rfl, _, σ66, fr_join ⟨rfl, rfl, rfl, rfl, rfl, trivial⟩, rfl, H.sel' [0, 1, 2] rfl rfl⟩
    ·replace h := bif_f hb34 h
     refine c_exit ?_
     refine q_then_x ?_
     refine q_then_x ?_
     refine q_blk_hit ?_
     obtain rfl := Option.some.inj h
     obtain rfl := hres _ rfl
     exact .inl ⟨_, rfl, rfl, _, σ33, fr_join trivial, rfl, H.sel' [] rfl rfl⟩
   ·clear hj
    have h := h'
    clear h' H
    rintro e a w (⟨t68, rfl, rfl, ρ, σ69, rfl, rfl, H⟩ | ⟨t70, rfl, rfl, ρ, σ71, rfl, rfl, H⟩)
    ·replace h := selim_l h
     refine q_then ?_
     refine c_seq ?_
     refine rg ?_
     refine st (v := (B true)) (rv_assign rfl) ?_
     refine w_end ?_
     refine q_then ?_
     refine c_ret ?_
     obtain rfl := Option.some.inj h
     exact fin_ret (v := (B true)) (results_ok Try.results3 (res_tmp (v := (B true)) rfl res_nil) rfl) ⟨rfl, rfl⟩ (H.sel' [] rfl rfl)
    ·replace h := selim_r h
     refine q_then_r ?_
     obtain rfl := Option.some.inj h
     exact fin_ret (v := (B t70)) (results_ok Try.results3 (res_tmp (v := (B t70)) rfl res_nil) rfl) ⟨rfl, rfl⟩ (H.sel' [] rfl rfl)

end Go.Vs
