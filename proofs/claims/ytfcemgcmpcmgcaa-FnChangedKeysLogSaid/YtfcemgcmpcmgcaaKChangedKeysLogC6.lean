/- The functions compute what their models say. -/
import Derived.Test.YtfcemgcmpcmgcaaKChangedKeysLogC5
set_option linter.unusedVariables false
set_option linter.unusedSimpArgs false
set_option maxRecDepth 20000
namespace Go.Vs
open Go Go.Proofs
attribute [local irreducible] Code.wp Code.wpIn wpList wpListIn wpQuiet Calls CallsIn

theorem c_impl_appendChanged : ∀ (fuel : Nat) {Ed : List Int} {Ee : Vr (Int × (List Int) × Int)} {Ef : Vr (Int × (List Int) × Int)} {Eg : Option Addr} {Eh : Nat} {Ei : Option Addr} {Ej : Option Addr} {r : (List Int)} (h : M.impl_appendChanged fuel Ed Ee Ef = some r),
    Cal2 Try.prog 66 [(Sl Eg Ed Eh), (.pointer Ei), (.pointer Ej)] [Ch.own 0 0 (Sl Eg Ed Eh) Ed, Ch.pv 0 (.pointer Ei) Ee, Ch.pv 0 (.pointer Ej) Ef] (fun n0 v L => ∃ (az1 : Option Addr), ∃ (cz2 : Nat), v = (Sl az1 r cz2) ∧ L = [Ch.own 0 n0 (Sl az1 r cz2) r]) := by
 intro fuel
 induction fuel with
 | zero => intro _ _ _ _ _ _ _ r h; cases h
 | succ fuel ih =>
 ·intro Ed Ee Ef Eg Eh Ei Ej r h
  replace h : M.impl_appendChanged_F (M.impl_appendChanged fuel) Ed Ee Ef = some r := h
  refine cal2 (n := 79) Try.func66 rfl rfl rfl rfl ?_
  intro S0 σ0 n0 hn0 H
  unfold M.impl_appendChanged_F at h
  refine c_seq (rg (sa (.slice none 0 0) rfl (w_end (q_then (c_seq (c_seq (rg (sm (.pointer Ei) rfl (sm (.pointer Ej) rfl (st (v := (B (peq Ei Ej))) (rv_eqlV Try.underlying67 ti109 rfl (H.pv 1 rfl) (H.pv 2 rfl) rfl rfl) (w_end ?_)))))))))))
  refine q_then ?_
  refine cd_cond (peq Ei Ej) rfl (fun hb1 => ?_) (fun hb1 => ?_)
  ·have hq := PV.same hb1 (H.pv 1 rfl) (H.pv 2 rfl)
   replace h := gboth_t hq h
   clear hq
   refine c_seq (rg (sm (Sl Eg Ed Eh) rfl (sa (Sl Eg Ed Eh) rfl (w_end (q_then (c_ret (q_then_r ?_)))))))
   replace H := H.ownSc 0 0 n0 rfl (Nat.le_refl _)
   obtain rfl := sj h
   exact fin_ret (v := (Sl Eg Ed Eh)) (results_ok Try.results66 (res_tmp (v := (Sl Eg Ed Eh)) rfl res_nil) rfl) ⟨Eg, Eh, rfl, rfl⟩ (H.sel' [0] rfl rfl)
  ·replace h := gboth_f (PV.other hb1 (H.pv 1 rfl) (H.pv 2 rfl)) h
   refine c_skip (q_then (c_seq (rg (sm (.pointer Ei) rfl ?_))))
   revert h; refine br fun r2 hx3 h => ?_
   have hc4 := c_impl_version_node (Ag := Ei) hx3
   refine st_call (cx_call hc4 (ent_f hc4.fn rfl) hn0 (H.sel' [1, 0, 1, 2] rfl rfl : Hp S0 σ0 _ ([_] ++ _))) wn ?_
   rintro _ σ8 ⟨_, ⟨a5, a6, a7, rfl, rfl⟩, H, -⟩
   replace H : Hp _ _ _ [_, _, _, _, _, _] := H
   refine sm (.pointer Ej) rfl ?_
   revert h; refine br fun r9 hx10 h => ?_
   have hc11 := c_impl_version_node (Ag := Ej) hx10
   refine st_call (cx_call hc11 (ent_f hc11.fn rfl) hn0 (H.sel' [5, 0, 1, 2, 3, 4, 5] rfl rfl : Hp S0 σ0 _ ([_] ++ _))) wn ?_
   rintro _ σ15 ⟨_, ⟨a12, a13, a14, rfl, rfl⟩, H, -⟩
   replace H : Hp _ _ _ [_, _, _, _, _, _, _, _, _] := H
   replace H : Hp S0 σ0 σ15 [Ch.pv 0 (.pointer a12) r9.1, Ch.pv 0 (.pointer a13) r9.2.1, Ch.pv 0 (.pointer a14) r9.2.2, Ch.pv 0 (.pointer a5) r2.1, Ch.pv 0 (.pointer a6) r2.2.1, Ch.pv 0 (.pointer a7) r2.2.2, Ch.own 0 0 (Sl Eg Ed Eh) Ed] := H.sel' [0, 1, 2, 3, 4, 5, 6] rfl rfl
   refine st_ex (ex_alloc (cs := [(.pointer none), (.pointer none), (.pointer none)]) H hn0 ti109 rfl) wn ?_
   rintro _ σ17 ⟨b16, rfl, H, -⟩
   refine st_ex (ex_alloc (cs := [(.pointer none), (.pointer none), (.pointer none)]) H hn0 ti109 rfl) wn ?_
   rintro _ σ19 ⟨b18, rfl, H, -⟩
   refine st_exS (ex_store_box (k := 0) (cs := [(.pointer none), (.pointer none), (.pointer none)]) (vs := [(.pointer a5), (.pointer a6), (.pointer a7)]) (cs' := [(.pointer a5), (.pointer a6), (.pointer a7)]) H (i := 1) rfl ti109 rfl rfl rfl rfl rfl (Nat.le_of_ble_eq_true rfl) (by simp [plain]) rfl) wn ?_
   rintro σ20 ⟨H, -⟩
   refine st_exS (ex_store_box (k := 0) (cs := [(.pointer none), (.pointer none), (.pointer none)]) (vs := [(.pointer a12), (.pointer a13), (.pointer a14)]) (cs' := [(.pointer a12), (.pointer a13), (.pointer a14)]) H (i := 1) rfl ti109 rfl rfl rfl rfl rfl (Nat.le_of_ble_eq_true rfl) (by simp [plain]) rfl) wn ?_
   rintro σ21 ⟨H, -⟩
   refine w_end (q_then (c_seq (c_seq (rg (sm (I 0) rfl (w_end (q_then ?_)))))))
   obtain ⟨o22, hj, h'⟩ := bind_some h
   clear h
   refine c_cut (fun e a w => e = .normal ∧ ∃ (ρ : Nat → Value) (σ : St) (aj1 : Option Addr) (cj2 : Nat), a = fr 79 (updL ρ [(0, (Sl aj1 o22 cj2)), (7, (pt b16 0)), (8, (pt b18 0))]) ∧ w = σ.w ∧ Hp S0 σ0 σ [Ch.own 0 0 (Sl aj1 o22 cj2) o22, Ch.pv 0 (.pointer a5) r2.1, Ch.pv 0 (.pointer a6) r2.2.1, Ch.pv 0 (.pointer a7) r2.2.2, Ch.bx n0 b16 0 [(.pointer a5), (.pointer a6), (.pointer a7)] [] [], Ch.pv 0 (.pointer a12) r9.1, Ch.pv 0 (.pointer a13) r9.2.1, Ch.pv 0 (.pointer a14) r9.2.2, Ch.bx n0 b18 0 [(.pointer a12), (.pointer a13), (.pointer a14)] [] []]) ?_ ?_
   ·clear h'
    rename _ = some o22 => h
    refine c_blk (wp_loopM _ h (fun s23 a w => ∃ (ρ : Nat → Value) (σ : St) (aj1 : Option Addr) (cj2 : Nat), a = fr 79 (updL ρ [(0, (Sl aj1 s23.1 cj2)), (7, (pt b16 0)), (8, (pt b18 0)), (18, (I s23.2))]) ∧ w = σ.w ∧ Hp S0 σ0 σ [Ch.own 0 0 (Sl aj1 s23.1 cj2) s23.1, Ch.pv 0 (.pointer a5) r2.1, Ch.pv 0 (.pointer a6) r2.2.1, Ch.pv 0 (.pointer a7) r2.2.2, Ch.bx n0 b16 0 [(.pointer a5), (.pointer a6), (.pointer a7)] [] [], Ch.pv 0 (.pointer a12) r9.1, Ch.pv 0 (.pointer a13) r9.2.1, Ch.pv 0 (.pointer a14) r9.2.2, Ch.bx n0 b18 0 [(.pointer a12), (.pointer a13), (.pointer a14)] [] []]) ⟨_, σ21, Eg, Eh, fr_join ⟨rfl, rfl, rfl, rfl, trivial⟩, rfl, H.sel' [8, 5, 6, 7, 1, 2, 3, 4, 0] rfl rfl⟩ ?_)
    clear h H
    rintro s23 a w o ⟨ρ, σ24, a25, c26, rfl, rfl, H⟩ h hres
    refine c_seq (rg (st (v := (B (decide (s23.2 < 2)))) (rv_lss (a := s23.2) (b := 2) rfl rfl) (w_end (q_then (c_seq ?_)))))
    refine cd_cond (decide (s23.2 < 2)) rfl (fun hb27 => ?_) (fun hb27 => ?_)
    ·replace h := bif_t hb27 h
     refine c_skip (q_then (c_seq (c_blk (c_seq (rg (sm (I s23.2) rfl (sa (I s23.2) rfl (w_end (q_then ?_)))))))))
     refine rgP (σ := σ24) 9 (by kernel_rfl) (by kernel_rfl) (by kernel_rfl) ?_
     refine sq (v := (Sl a25 s23.1 c26)) (rv_move rfl) (sq (v := (I s23.2)) (rv_move rfl) (sq (v := (pt b16 1)) (rv_fieldAddr (off := 1) (ft := 107) Try.underlying109 rfl ti107 rfl rfl) ?_))
     revert h; refine br fun x28 hx29 h => ?_
     have hl30 := gsel2_lt hx29
     refine sq (v := (pt b16 (1 + s23.2.toNat * 1))) (rv_indexAddr_array Try.underlying107 ti67 rfl rfl hl30.1 hl30.2) ?_
     have hc31 := Hp.selCell (o' := 1) (a0 := a6) (a1 := a7) H 4 1 rfl rfl rfl hx29 rfl
     have hR32 : PV 0 _ (.pointer (bsel s23.2 a6 a7)) x28 := PV.sel (H.pv 2 rfl) (H.pv 3 rfl) hx29
     replace H := H.add (d := Ch.pv 0 (.pointer (bsel s23.2 a6 a7)) x28) hR32 (fun _ h => h)
     clear hR32
     refine sq (v := (.pointer (bsel s23.2 a6 a7))) (rv_load1 Try.underlying67 rfl rfl hc31) (sq (v := (I s23.2)) (rv_move rfl) (sq (v := (pt b18 1)) (rv_fieldAddr (off := 1) (ft := 107) Try.underlying109 rfl ti107 rfl rfl) ?_))
     revert h; refine br fun x33 hx34 h => ?_
     have hl35 := gsel2_lt hx34
     refine sq (v := (pt b18 (1 + s23.2.toNat * 1))) (rv_indexAddr_array Try.underlying107 ti67 rfl rfl hl35.1 hl35.2) ?_
     have hc36 := Hp.selCell (o' := 1) (a0 := a13) (a1 := a14) H 9 1 rfl rfl rfl hx34 rfl
     have hR37 : PV 0 _ (.pointer (bsel s23.2 a13 a14)) x33 := PV.sel (H.pv 7 rfl) (H.pv 8 rfl) hx34
     replace H := H.add (d := Ch.pv 0 (.pointer (bsel s23.2 a13 a14)) x33) hR37 (fun _ h => h)
     clear hR37
     refine sq (v := (.pointer (bsel s23.2 a13 a14))) (rv_load1 Try.underlying67 rfl rfl hc36) (sq_end ?_)
     intro σ38 hm39
     replace H := H.grow (hm39.mono fun _ h => h); clear hm39
     revert h; refine br fun r40 hx41 h => ?_
     have hc42 := ih (Eg := a25) (Eh := c26) (Ei := (bsel s23.2 a6 a7)) (Ej := (bsel s23.2 a13 a14)) hx41
     refine st_call (cx_call hc42 (ent_f hc42.fn rfl) hn0 (H.sel' [2, 1, 0, 0, 1, 3, 4, 5, 6, 7, 8, 9, 10] rfl rfl : Hp S0 σ0 _ ([_, _, _] ++ _))) wn ?_
     rintro _ σ45 ⟨_, ⟨a43, c44, rfl, rfl⟩, H, -⟩
     replace H : Hp _ _ _ [_, _, _, _, _, _, _, _, _, _, _] := H
     replace H : Hp S0 σ0 σ45 [Ch.own 0 n0 (Sl a43 r40 c44) r40, Ch.pv 0 (.pointer a5) r2.1, Ch.pv 0 (.pointer a6) r2.2.1, Ch.pv 0 (.pointer a7) r2.2.2, Ch.bx n0 b16 0 [(.pointer a5), (.pointer a6), (.pointer a7)] [] [], Ch.pv 0 (.pointer a12) r9.1, Ch.pv 0 (.pointer a13) r9.2.1, Ch.pv 0 (.pointer a14) r9.2.2, Ch.bx n0 b18 0 [(.pointer a12), (.pointer a13), (.pointer a14)] [] []] := H.sel' [0, 3, 4, 5, 6, 7, 8, 9, 10] rfl rfl
     refine sa (Sl a43 r40 c44) rfl (w_end (q_blk (q_then (rg (st (v := (I (w64 (s23.2 + 1)))) (rv_add (a := s23.2) (b := 1) rfl rfl) (sm (I (w64 (s23.2 + 1))) rfl (w_end (q_then ?_))))))))
     replace H := H.ownSc 0 0 0 rfl (Nat.le_refl _)
     obtain rfl := sj h
     exact ⟨_, rfl, _, σ45, a43, c44, fr_join ⟨rfl, rfl, rfl, rfl, trivial⟩, rfl, H.sel' [0, 1, 2, 3, 4, 5, 6, 7, 8] rfl rfl⟩
    ·replace h := bif_f hb27 h
     refine c_exit (q_then_x (q_then_x (q_blk_hit ?_)))
     obtain rfl := sj h
     obtain rfl := hres _ rfl
     exact ⟨rfl, _, σ24, a25, c26, fr_join ⟨rfl, rfl, rfl, trivial⟩, rfl, H.sel' [0, 1, 2, 3, 4, 5, 6, 7, 8] rfl rfl⟩
   ·clear hj
    have h := h'
    clear h' H
    rintro e a w ⟨rfl, ρ, σ46, a47, c48, rfl, rfl, H⟩
    refine q_then (c_seq (c_blk (c_seq ?_)))
    obtain ⟨o49, hj, h'⟩ := bind_some h
    clear h
    refine c_cut (fun e a w => e = .normal ∧ ∃ (ρ : Nat → Value) (σ : St), a = fr 79 (updL ρ [(0, (Sl a47 o22 c48)), (7, (pt b16 0)), (8, (pt b18 0)), (32, (B o49))]) ∧ w = σ.w ∧ Hp S0 σ0 σ [Ch.own 0 0 (Sl a47 o22 c48) o22, Ch.pv 0 (.pointer a5) r2.1, Ch.pv 0 (.pointer a6) r2.2.1, Ch.pv 0 (.pointer a7) r2.2.2, Ch.bx n0 b16 0 [(.pointer a5), (.pointer a6), (.pointer a7)] [] [], Ch.pv 0 (.pointer a12) r9.1, Ch.pv 0 (.pointer a13) r9.2.1, Ch.pv 0 (.pointer a14) r9.2.2, Ch.bx n0 b18 0 [(.pointer a12), (.pointer a13), (.pointer a14)] [] []]) ?_ ?_
    ·clear h'
     rename _ = some o49 => h
     refine rgP (σ := σ46) 16 (by kernel_rfl) (by kernel_rfl) (by kernel_rfl) ?_
     refine sq (v := (pt b16 0)) (rv_fieldAddr (off := 0) (ft := 106) Try.underlying109 rfl ti106 rfl rfl) ?_
     have hc50 := H.cell (u := (.pointer a5)) (o' := 0) 4 0 rfl rfl rfl
     refine sq (v := (.pointer a5)) (rv_load1 Try.underlying106 rfl rfl hc50) (sq (v := (B (!r2.1.isNil))) (rv_neqNilV Try.underlying106 (H.pv 1 rfl) rfl rfl) (sq (v := (B (!r2.1.isNil))) (rv_move rfl) ?_))
     rcases Bool.eq_false_or_eq_true (!r2.1.isNil) with hb51 | hb51
     ·replace h := bif_t hb51 h
      refine sq_g (v := (pt b18 0)) (congrArg some hb51) (rv_fieldAddr (off := 0) (ft := 106) Try.underlying109 rfl ti106 rfl rfl) ?_
      have hc52 := H.cell (u := (.pointer a12)) (o' := 0) 8 0 rfl rfl rfl
      refine sq_g (v := (.pointer a12)) (congrArg some hb51) (rv_load1 Try.underlying106 rfl rfl hc52) (sq_g (v := (B r9.1.isNil)) (congrArg some hb51) (rv_eqlNilV Try.underlying106 (H.pv 5 rfl) rfl rfl) (sq_g (v := (B r9.1.isNil)) (congrArg some hb51) (rv_move rfl) ?_))
      rcases Bool.eq_false_or_eq_true r9.1.isNil with hb53 | hb53
      ·replace h := bif_t hb53 h
       refine sq_skip (congrArg some hb53) (sq_skip (congrArg some hb53) (sq_skip (congrArg some hb53) (sq_skip (congrArg some hb53) (sq_skip (congrArg some hb53) (sq_skip (congrArg some hb53) (sq_skip (congrArg some hb53) (sq_skip (congrArg some hb53) (sq_end ?_))))))))
       intro σ54 hm55
       replace H := H.grow (hm55.mono fun _ h => h); clear hm55
       refine st_skip (congrArg some hb53) (st_skip (congrArg some hb53) (st_g (v := (B true)) (congrArg some hb51) (rv_pick_t (congrArg B hb53) rfl) (st (v := (B true)) (rv_pick_t (congrArg B hb51) rfl) (sa (B true) rfl (w_end ?_)))))
       obtain rfl := sj h
       exact ⟨rfl, _, σ54, fr_join ⟨rfl, rfl, rfl, rfl, trivial⟩, rfl, H.sel' [0, 1, 2, 3, 4, 5, 6, 7, 8] rfl rfl⟩
      ·replace h := bif_f hb53 h
       refine sq_g (v := (pt b16 0)) (congrArg some hb53) (rv_fieldAddr (off := 0) (ft := 106) Try.underlying109 rfl ti106 rfl rfl) ?_
       have hc56 := H.cell (u := (.pointer a5)) (o' := 0) 4 0 rfl rfl rfl
       refine sq_g (v := (.pointer a5)) (congrArg some hb53) (rv_load1 Try.underlying106 rfl rfl hc56) ?_
       revert h; refine br fun x57 hx58 h => ?_
       obtain ⟨b60, o61, hi59⟩ := (H.pv 1 rfl).ex hx58
       refine sq_g (v := (pt b60 o61)) (congrArg some hb53) (rv_nilCheckT hi59 rfl) ?_
       obtain ⟨_, ⟨_, _, rfl, rfl, ⟨_, _, rfl, ⟨_, rfl, hR66⟩, rfl⟩⟩, hl62, hc63⟩ := ((H.pv 1 rfl).at hx58 hi59).cells
       obtain ⟨a64, c65, rfl⟩ := hR66.isSl
       replace H := H.add (d := Ch.ro 0 (Sl a64 x57.2.1 c65) x57.2.1) hR66 (fun _ h => h)
       clear hR66
       refine sq_g (v := (.agg #[(I x57.1), (Sl a64 x57.2.1 c65), (I x57.2.2)])) (congrArg some hb53) (rv_load Try.underlying41 rfl ti41 rfl hl62 hc63) (sq_g (v := (pt b18 0)) (congrArg some hb53) (rv_fieldAddr (off := 0) (ft := 106) Try.underlying109 rfl ti106 rfl rfl) ?_)
       have hc67 := H.cell (u := (.pointer a12)) (o' := 0) 9 0 rfl rfl rfl
       refine sq_g (v := (.pointer a12)) (congrArg some hb53) (rv_load1 Try.underlying106 rfl rfl hc67) ?_
       revert h; refine br fun x68 hx69 h => ?_
       obtain ⟨b71, o72, hi70⟩ := (H.pv 6 rfl).ex hx69
       refine sq_g (v := (pt b71 o72)) (congrArg some hb53) (rv_nilCheckT hi70 rfl) ?_
       obtain ⟨_, ⟨_, _, rfl, rfl, ⟨_, _, rfl, ⟨_, rfl, hR77⟩, rfl⟩⟩, hl73, hc74⟩ := ((H.pv 6 rfl).at hx69 hi70).cells
       obtain ⟨a75, c76, rfl⟩ := hR77.isSl
       replace H := H.add (d := Ch.ro 0 (Sl a75 x68.2.1 c76) x68.2.1) hR77 (fun _ h => h)
       clear hR77
       refine sq_g (v := (.agg #[(I x68.1), (Sl a75 x68.2.1 c76), (I x68.2.2)])) (congrArg some hb53) (rv_load Try.underlying41 rfl ti41 rfl hl73 hc74) (sq_end ?_)
       intro σ78 hm79
       replace H := H.grow (hm79.mono fun _ h => h); clear hm79
       revert h; refine br fun r80 hx81 h => ?_
       have hc82 := c_impl_equalItems (Dz := a64) (Ea := c65) (Eb := a75) (Ec := c76) hx81
       refine st_call (cx_call hc82 (ent_f hc82.fn rfl) hn0 (H.sel' [1, 0, 0, 1, 2, 3, 4, 5, 6, 7, 8, 9, 10] rfl rfl : Hp S0 σ0 _ ([_, _] ++ _))) (wanted_yes rfl (by exact (congrArg some hb53))) ?_
       rintro _ σ83 ⟨_, ⟨rfl, rfl⟩, H, -⟩
       replace H : Hp _ _ _ [_, _, _, _, _, _, _, _, _, _, _] := H
       replace H : Hp S0 σ0 σ83 [Ch.own 0 0 (Sl a47 o22 c48) o22, Ch.pv 0 (.pointer a5) r2.1, Ch.pv 0 (.pointer a6) r2.2.1, Ch.pv 0 (.pointer a7) r2.2.2, Ch.bx n0 b16 0 [(.pointer a5), (.pointer a6), (.pointer a7)] [] [], Ch.pv 0 (.pointer a12) r9.1, Ch.pv 0 (.pointer a13) r9.2.1, Ch.pv 0 (.pointer a14) r9.2.2, Ch.bx n0 b18 0 [(.pointer a12), (.pointer a13), (.pointer a14)] [] []] := H.sel' [2, 3, 4, 5, 6, 7, 8, 9, 10] rfl rfl
       refine st_g (v := (B (!r80))) (congrArg some hb53) (rv_not rfl) (st_g (v := (B (!r80))) (congrArg some hb51) (rv_pick_f (congrArg B hb53) rfl) (st (v := (B (!r80))) (rv_pick_t (congrArg B hb51) rfl) (sa (B (!r80)) rfl (w_end ?_))))
       obtain rfl := sj h
       exact ⟨rfl, _, σ83, fr_join ⟨rfl, rfl, rfl, rfl, trivial⟩, rfl, H.sel' [0, 1, 2, 3, 4, 5, 6, 7, 8] rfl rfl⟩
     ·replace h := bif_f hb51 h
      refine sq_skip (congrArg some hb51) (sq_skip (congrArg some hb51) (sq_skip (congrArg some hb51) (sq_skip (congrArg some hb51) (sq_skip_u rfl (sq_skip_u rfl (sq_skip_u rfl (sq_skip_u rfl (sq_skip_u rfl (sq_skip_u rfl (sq_skip_u rfl (sq_skip_u rfl ?_)))))))))))
      refine sq_end ?_
      intro σ84 hm85
      replace H := H.grow (hm85.mono fun _ h => h); clear hm85
      refine st_skip_u rfl (st_skip_u rfl (st_skip (congrArg some hb51) (st (v := (B false)) (rv_pick_f (congrArg B hb51) rfl) (sa (B false) rfl (w_end ?_)))))
      obtain rfl := sj h
      exact ⟨rfl, _, σ84, fr_join ⟨rfl, rfl, rfl, rfl, trivial⟩, rfl, H.sel' [0, 1, 2, 3, 4, 5, 6, 7, 8] rfl rfl⟩
    ·clear hj
     have h := h'
     clear h' H
     rintro e a w ⟨rfl, ρ, σ86, rfl, rfl, H⟩
     refine q_then ?_
     refine cd_cond o49 rfl (fun hb87 => ?_) (fun hb87 => ?_)
     ·replace h := bif_t hb87 h
      refine c_seq (rg (sm (Sl a47 o22 c48) rfl (st (v := (pt b16 0)) (rv_fieldAddr (off := 0) (ft := 106) Try.underlying109 rfl ti106 rfl rfl) ?_)))
      have hc88 := H.cell (u := (.pointer a5)) (o' := 0) 4 0 rfl rfl rfl
      refine st (v := (.pointer a5)) (rv_load1 Try.underlying106 rfl rfl hc88) ?_
      revert h; refine br fun x89 hx90 h => ?_
      obtain ⟨b92, o93, hi91⟩ := (H.pv 1 rfl).ex hx90
      refine st (v := (pt b92 o93)) (rv_nilCheckT hi91 rfl) (st (v := (pt b92 (o93 + 0))) (rv_fieldAddr (off := 0) (ft := 3) Try.underlying41 rfl ti3 rfl rfl) ?_)
      have hc94 := ((H.pv 1 rfl).at hx90 hi91).fst.int
      refine st (v := (I x89.1)) (rv_load1 Try.underlying3 rfl rfl hc94) ?_
      refine st_ex (ex_buildSlice (el := n0) (xs := ([x89.1] : List Int)) (ps := [(0, (I x89.1))]) (cs := [(I x89.1)]) H hn0 Try.underlying24 ti3 rfl rfl (by kernel_rfl) (.cons (c := [(I x89.1)]) rfl (.nil)) rfl) wn ?_
      rintro _ σ96 ⟨b95, rfl, H, -⟩
      replace H : Hp S0 σ0 σ96 [Ch.own n0 n0 (Sl (some ⟨b95, 0, none⟩) ([x89.1] : List Int) 1) ([x89.1] : List Int), Ch.own 0 0 (Sl a47 o22 c48) o22] := H.sel' [0, 1] rfl rfl
      revert h; refine br fun xs97 hx98 h => ?_
      refine st_ex (ex_append H (i := 1) rfl Try.underlying24 Try.underlying24 ti3 rfl rfl (by decide) ((H.own 0 rfl).rd.sc) hx98 (Nat.zero_le _) rfl rfl) wn ?_
      rintro _ σ101 ⟨a99, c100, rfl, H, -⟩
      refine sa (Sl a99 xs97 c100) rfl (w_end (q_then (c_ret (q_blk_r (q_then_r ?_)))))
      replace H := H.ownSc 0 0 n0 rfl (Nat.le_refl _)
      obtain rfl := sj h
      exact fin_ret (v := (Sl a99 xs97 c100)) (results_ok Try.results66 (res_tmp (v := (Sl a99 xs97 c100)) rfl res_nil) rfl) ⟨a99, c100, rfl, rfl⟩ (H.sel' [0] rfl rfl)
     ·replace h := bif_f hb87 h
      refine c_seq ?_
      obtain ⟨o102, hj, h'⟩ := bind_some h
      clear h
      refine c_cut (fun e a w => e = .normal ∧ ∃ (ρ : Nat → Value) (σ : St), a = fr 79 (updL ρ [(0, (Sl a47 o22 c48)), (8, (pt b18 0)), (61, (B o102))]) ∧ w = σ.w ∧ Hp S0 σ0 σ [Ch.own 0 0 (Sl a47 o22 c48) o22, Ch.pv 0 (.pointer a12) r9.1, Ch.pv 0 (.pointer a13) r9.2.1, Ch.pv 0 (.pointer a14) r9.2.2, Ch.bx n0 b18 0 [(.pointer a12), (.pointer a13), (.pointer a14)] [] []]) ?_ ?_
      ·clear h'
       rename _ = some o102 => h
       refine rg (st (v := (pt b16 0)) (rv_fieldAddr (off := 0) (ft := 106) Try.underlying109 rfl ti106 rfl rfl) ?_)
       have hc103 := H.cell (u := (.pointer a5)) (o' := 0) 4 0 rfl rfl rfl
       refine st (v := (.pointer a5)) (rv_load1 Try.underlying106 rfl rfl hc103) (st (v := (B r2.1.isNil)) (rv_eqlNilV Try.underlying106 (H.pv 1 rfl) rfl rfl) (sm (B r2.1.isNil) rfl ?_))
       rcases Bool.eq_false_or_eq_true r2.1.isNil with hb104 | hb104
       ·replace h := bif_t hb104 h
        refine st_g (v := (pt b18 0)) (congrArg some hb104) (rv_fieldAddr (off := 0) (ft := 106) Try.underlying109 rfl ti106 rfl rfl) ?_
        have hc105 := H.cell (u := (.pointer a12)) (o' := 0) 8 0 rfl rfl rfl
        refine st_g (v := (.pointer a12)) (congrArg some hb104) (rv_load1 Try.underlying106 rfl rfl hc105) (st_g (v := (B (!r9.1.isNil))) (congrArg some hb104) (rv_neqNilV Try.underlying106 (H.pv 5 rfl) rfl rfl) (st (v := (B (!r9.1.isNil))) (rv_pick_t (congrArg B hb104) rfl) (sa (B (!r9.1.isNil)) rfl (w_end ?_))))
        obtain rfl := sj h
        exact ⟨rfl, _, σ86, fr_join ⟨rfl, rfl, rfl, trivial⟩, rfl, H.sel' [0, 5, 6, 7, 8] rfl rfl⟩
       ·replace h := bif_f hb104 h
        refine st_skip (congrArg some hb104) (st_skip (congrArg some hb104) (st_skip (congrArg some hb104) (st (v := (B false)) (rv_pick_f (congrArg B hb104) rfl) (sa (B false) rfl (w_end ?_)))))
        obtain rfl := sj h
        exact ⟨rfl, _, σ86, fr_join ⟨rfl, rfl, rfl, trivial⟩, rfl, H.sel' [0, 5, 6, 7, 8] rfl rfl⟩
      ·clear hj
       have h := h'
       clear h' H
       rintro e a w ⟨rfl, ρ, σ106, rfl, rfl, H⟩
       refine q_then ?_
       refine cd_cond o102 rfl (fun hb107 => ?_) (fun hb107 => ?_)
       ·replace h := bif_t hb107 h
        refine c_seq (rg (sm (Sl a47 o22 c48) rfl (st (v := (pt b18 0)) (rv_fieldAddr (off := 0) (ft := 106) Try.underlying109 rfl ti106 rfl rfl) ?_)))
        have hc108 := H.cell (u := (.pointer a12)) (o' := 0) 4 0 rfl rfl rfl
        refine st (v := (.pointer a12)) (rv_load1 Try.underlying106 rfl rfl hc108) ?_
        revert h; refine br fun x109 hx110 h => ?_
        obtain ⟨b112, o113, hi111⟩ := (H.pv 1 rfl).ex hx110
        refine st (v := (pt b112 o113)) (rv_nilCheckT hi111 rfl) (st (v := (pt b112 (o113 + 0))) (rv_fieldAddr (off := 0) (ft := 3) Try.underlying41 rfl ti3 rfl rfl) ?_)
        have hc114 := ((H.pv 1 rfl).at hx110 hi111).fst.int
        refine st (v := (I x109.1)) (rv_load1 Try.underlying3 rfl rfl hc114) ?_
        refine st_ex (ex_buildSlice (el := n0) (xs := ([x109.1] : List Int)) (ps := [(0, (I x109.1))]) (cs := [(I x109.1)]) H hn0 Try.underlying24 ti3 rfl rfl (by kernel_rfl) (.cons (c := [(I x109.1)]) rfl (.nil)) rfl) wn ?_
        rintro _ σ116 ⟨b115, rfl, H, -⟩
        revert h; refine br fun xs117 hx118 h => ?_
        refine st_ex (ex_append H (i := 1) rfl Try.underlying24 Try.underlying24 ti3 rfl rfl (by decide) ((H.own 0 rfl).rd.sc) hx118 (Nat.zero_le _) rfl rfl) wn ?_
        rintro _ σ121 ⟨a119, c120, rfl, H, -⟩
        refine sa (Sl a119 xs117 c120) rfl (w_end (q_then (c_ret (q_blk_r (q_then_r ?_)))))
        replace H := H.ownSc 0 0 n0 rfl (Nat.le_refl _)
        obtain rfl := sj h
        exact fin_ret (v := (Sl a119 xs117 c120)) (results_ok Try.results66 (res_tmp (v := (Sl a119 xs117 c120)) rfl res_nil) rfl) ⟨a119, c120, rfl, rfl⟩ (H.sel' [0] rfl rfl)
       ·replace h := bif_f hb107 h
        refine c_skip (q_blk (q_then (c_seq (rg (sm (Sl a47 o22 c48) rfl (sa (Sl a47 o22 c48) rfl (w_end (q_then (c_ret ?_)))))))))
        replace H := H.ownSc 0 0 n0 rfl (Nat.le_refl _)
        obtain rfl := sj h
        exact fin_ret (v := (Sl a47 o22 c48)) (results_ok Try.results66 (res_tmp (v := (Sl a47 o22 c48)) rfl res_nil) rfl) ⟨a47, c48, rfl, rfl⟩ (H.sel' [0] rfl rfl)

theorem c_impl_ChangedKeys {Cc : (List (Int × (Int × (List Int) × Int))) × (List Int)} {Ek : Int} {El : Int} {Cd : Option Addr} {Ce : Nat} {Cf : Option Addr} {Cg : Nat} {r : (List Int)} (h : M.impl_ChangedKeys Cc Ek El = some r) :
    Cal2 Try.prog 36 [(.agg #[(Sl Cd Cc.1 Ce), (Sl Cf Cc.2 Cg)]), (I Ek), (I El)] [Ch.ro 0 (Sl Cd Cc.1 Ce) Cc.1, Ch.ro 0 (Sl Cf Cc.2 Cg) Cc.2] (fun n0 v L => ∃ (az1 : Option Addr), ∃ (cz2 : Nat), v = (Sl az1 r cz2) ∧ L = [Ch.own 0 n0 (Sl az1 r cz2) r]) := by
 refine cal2 (n := 36) Try.func36 rfl rfl rfl rfl ?_
 intro S0 σ0 n0 hn0 H
 unfold M.impl_ChangedKeys at h
 refine c_seq (rg (st_ex (ex_box (cs := [(Sl Cd Cc.1 Ce), (Sl Cf Cc.2 Cg)]) H hn0 rfl rfl) wn ?_))
 rintro _ σ2 ⟨b1, rfl, H, -⟩
 refine sa (.slice none 0 0) rfl (w_end (q_then (c_seq (c_seq ?_))))
 obtain ⟨o3, hj, h'⟩ := bind_some h
 clear h
 refine c_cut (fun e a w => e = .normal ∧ ∃ (ρ : Nat → Value) (σ : St), a = fr 36 (updL ρ [(1, (I Ek)), (2, (I El)), (3, (pt b1 0)), (20, (B o3))]) ∧ w = σ.w ∧ Hp S0 σ0 σ [Ch.ro 0 (Sl Cd Cc.1 Ce) Cc.1, Ch.ro 0 (Sl Cf Cc.2 Cg) Cc.2, Ch.bx n0 b1 0 [(Sl Cd Cc.1 Ce), (Sl Cf Cc.2 Cg)] [] []]) ?_ ?_
 ·clear h'
  rename _ = some o3 => h
  refine rg ?_
  have hc4 := H.cells 0 rfl
  refine st (v := (.agg #[(Sl Cd Cc.1 Ce), (Sl Cf Cc.2 Cg)])) (rv_load (cs := [(Sl Cd Cc.1 Ce), (Sl Cf Cc.2 Cg)]) Try.underlying26 rfl ti26 rfl rfl hc4) ?_
  revert h; refine br fun r5 hx6 h => ?_
  have hc7 := c_impl_ValidHistory (Cd := Cd) (Ce := Ce) (Cf := Cf) (Cg := Cg) hx6
  refine st_call (cx_call hc7 (ent_f hc7.fn rfl) hn0 (H.sel' [1, 2, 0, 1, 2] rfl rfl : Hp S0 σ0 _ ([_, _] ++ _))) wn ?_
  rintro _ σ8 ⟨_, ⟨rfl, rfl⟩, H, -⟩
  replace H : Hp _ _ _ [_, _, _] := H
  refine st (v := (B (!r5))) (rv_not rfl) (sm (B (!r5)) rfl ?_)
  rcases Bool.eq_false_or_eq_true (!r5) with hb9 | hb9
  ·replace h := bif_t hb9 h
   refine st_skip (congrArg some hb9) (st_skip (congrArg some hb9) (st_skip (congrArg some hb9) (st (v := (B true)) (rv_pick_t (congrArg B hb9) rfl) (sm (B true) rfl (st_skip rfl (st_skip rfl (st_skip rfl (st (v := (B true)) (rv_pick_t rfl rfl) (w_end ?_)))))))))
   obtain rfl := sj h
   exact ⟨rfl, _, σ8, fr_join ⟨rfl, rfl, rfl, rfl, trivial⟩, rfl, H.sel' [1, 2, 0] rfl rfl⟩
  ·replace h := bif_f hb9 h
   refine st_g (v := (I Ek)) (congrArg some hb9) (rv_move rfl) ?_
   revert h; refine br fun r10 hx11 h => ?_
   have hc12 := c_impl_validMoment hx11
   refine st_call (cx_call hc12 (ent_f hc12.fn rfl) hn0 (H.sel' [0, 1, 2] rfl rfl : Hp S0 σ0 _ ([] ++ _))) (wanted_yes rfl (by exact (congrArg some hb9))) ?_
   rintro _ σ13 ⟨_, ⟨rfl, rfl⟩, H, -⟩
   replace H : Hp _ _ _ [_, _, _] := H
   refine st_g (v := (B (!r10))) (congrArg some hb9) (rv_not rfl) (st (v := (B (!r10))) (rv_pick_f (congrArg B hb9) rfl) (sm (B (!r10)) rfl ?_))
   rcases Bool.eq_false_or_eq_true (!r10) with hb14 | hb14
   ·replace h := bif_t hb14 h
    refine st_skip (congrArg some hb14) (st_skip (congrArg some hb14) (st_skip (congrArg some hb14) (st (v := (B true)) (rv_pick_t (congrArg B hb14) rfl) (w_end ?_))))
    obtain rfl := sj h
    exact ⟨rfl, _, σ13, fr_join ⟨rfl, rfl, rfl, rfl, trivial⟩, rfl, H.sel' [1, 2, 0] rfl rfl⟩
   ·replace h := bif_f hb14 h
    refine st_g (v := (I El)) (congrArg some hb14) (rv_move rfl) ?_
    revert h; refine br fun r15 hx16 h => ?_
    have hc17 := c_impl_validMoment hx16
    refine st_call (cx_call hc17 (ent_f hc17.fn rfl) hn0 (H.sel' [0, 1, 2] rfl rfl : Hp S0 σ0 _ ([] ++ _))) (wanted_yes rfl (by exact (congrArg some hb14))) ?_
    rintro _ σ18 ⟨_, ⟨rfl, rfl⟩, H, -⟩
    replace H : Hp _ _ _ [_, _, _] := H
    refine st_g (v := (B (!r15))) (congrArg some hb14) (rv_not rfl) (st (v := (B (!r15))) (rv_pick_f (congrArg B hb14) rfl) (w_end ?_))
    obtain rfl := sj h
    exact ⟨rfl, _, σ18, fr_join ⟨rfl, rfl, rfl, rfl, trivial⟩, rfl, H.sel' [1, 2, 0] rfl rfl⟩
 ·clear hj
  have h := h'
  clear h' H
  rintro e a w ⟨rfl, ρ, σ19, rfl, rfl, H⟩
  refine q_then ?_
  refine cd_cond o3 rfl (fun hb20 => ?_) (fun hb20 => ?_)
  ·replace h := bif_t hb20 h
   refine c_seq (rg (sa (.slice none 0 0) rfl (w_end (q_then (c_ret (q_then_r ?_))))))
   replace H := H.nilOwn Int 0 n0
   obtain rfl := sj h
   exact fin_ret (v := (.slice none 0 0)) (results_ok Try.results36 (res_tmp (v := (.slice none 0 0)) rfl res_nil) rfl) ⟨none, 0, rfl, rfl⟩ (H.sel' [0] rfl rfl)
  ·replace h := bif_f hb20 h
   refine c_skip (q_then (c_seq (rg ?_)))
   have hc21 := H.cells 2 rfl
   refine st (v := (.agg #[(Sl Cd Cc.1 Ce), (Sl Cf Cc.2 Cg)])) (rv_load (cs := [(Sl Cd Cc.1 Ce), (Sl Cf Cc.2 Cg)]) Try.underlying26 rfl ti26 rfl rfl hc21) ?_
   revert h; refine br fun r22 hx23 h => ?_
   have hc24 := c_impl_History_versions (Cd := Cd) (Ce := Ce) (Cf := Cf) (Cg := Cg) hx23
   refine st_call (cx_call hc24 (ent_f hc24.fn rfl) hn0 (H.sel' [0, 1, 0, 1, 2] rfl rfl : Hp S0 σ0 _ ([_, _] ++ _))) wn ?_
   rintro _ σ27 ⟨_, ⟨a25, c26, rfl, rfl⟩, H, -⟩
   replace H : Hp _ _ _ [_, _, _, _] := H
   refine sa (Sl a25 r22 c26) rfl (w_end (q_then (c_seq ?_)))
   have hc28 := H.cells 3 rfl
   revert h; refine br fun r29 hx30 h => ?_
   have hc31 := c_impl_History_entriesUntil (Cd := Cd) (Ce := Ce) (Cf := Cf) (Cg := Cg) hx30
   revert h; refine br fun x32 hx33 h => ?_
   obtain ⟨b35, o36, hi34, -⟩ := (H.own 0 rfl).ix hx33
   obtain ⟨v40, hc39, hR38⟩ := ((H.own 0 rfl).at hx33 hi34).vr
   obtain ⟨a37, rfl⟩ := hR38.isPtr
   replace H := H.add (d := Ch.pv 0 (.pointer a37) x32) hR38 (fun _ h => h)
   clear hR38
   have hc41 := H.cells 4 rfl
   revert h; refine br fun r42 hx43 h => ?_
   have hc44 := c_impl_History_entriesUntil (Cd := Cd) (Ce := Ce) (Cf := Cf) (Cg := Cg) hx43
   revert h; refine br fun x45 hx46 h => ?_
   obtain ⟨b48, o49, hi47, -⟩ := (H.own 1 rfl).ix hx46
   obtain ⟨v53, hc52, hR51⟩ := ((H.own 1 rfl).at hx46 hi47).vr
   obtain ⟨a50, rfl⟩ := hR51.isPtr
   replace H := H.add (d := Ch.pv 0 (.pointer a50) x45) hR51 (fun _ h => h)
   clear hR51
   have Hs := H
   refine rg2 (σ := σ27) (Nm := Unit) 12 [3, 9] [[false, false], [true, false], [true, true]] [[(0, 0), (1, 1), (2, 2)], [(0, 0)], [(0, 0)], [(0, 1)], [(1, 1), (2, 2)], [(1, 1), (2, 2)], [(0, 0), (1, 1), (2, 2)], [(0, 0), (1, 1)], [(0, 0), (1, 1)], [(1, 2)], [(2, 2)], [(2, 2)]] 2 [fun _ => fun σm => Hp S0 σ0 σm [Ch.pv 0 (.pointer a50) x45, Ch.pv 0 (.pointer a37) x32, Ch.own n0 0 (Sl a25 r22 c26) r22, Ch.ro 0 (Sl Cd Cc.1 Ce) Cc.1, Ch.ro 0 (Sl Cf Cc.2 Cg) Cc.2, Ch.bx n0 b1 0 [(Sl Cd Cc.1 Ce), (Sl Cf Cc.2 Cg)] [] []] ∧ Md (cov []) σ27 σm, fun _ => fun σm => Hp S0 σ0 σm [Ch.pv 0 (.pointer a50) x45, Ch.pv 0 (.pointer a37) x32, Ch.own n0 0 (Sl a25 r22 c26) r22, Ch.ro 0 (Sl Cd Cc.1 Ce) Cc.1, Ch.ro 0 (Sl Cf Cc.2 Cg) Cc.2, Ch.bx n0 b1 0 [(Sl Cd Cc.1 Ce), (Sl Cf Cc.2 Cg)] [] []] ∧ Md (cov []) σ27 σm, fun _ => fun σm => Hp S0 σ0 σm [Ch.pv 0 (.pointer a50) x45, Ch.pv 0 (.pointer a37) x32, Ch.own n0 0 (Sl a25 r22 c26) r22, Ch.ro 0 (Sl Cd Cc.1 Ce) Cc.1, Ch.ro 0 (Sl Cf Cc.2 Cg) Cc.2, Ch.bx n0 b1 0 [(Sl Cd Cc.1 Ce), (Sl Cf Cc.2 Cg)] [] []] ∧ Md (cov []) σ27 σm] [fun _ => (Sl a25 r22 c26), fun _ => (.agg #[(Sl Cd Cc.1 Ce), (Sl Cf Cc.2 Cg)]), fun _ => (I Ek), fun _ => (I r29), fun _ => (pt b35 o36), fun _ => (.pointer a37), fun _ => (Sl a25 r22 c26), fun _ => (.agg #[(Sl Cd Cc.1 Ce), (Sl Cf Cc.2 Cg)]), fun _ => (I El), fun _ => (I r42), fun _ => (pt b48 o49), fun _ => (.pointer a50)] () (by kernel_rfl) (by kernel_rfl) ?_ ?_ ?_
   ·intro σm m0
    exact ⟨H.grow (m0.mono fun _ h => h.elim), m0⟩
   ·refine ac rfl (by
      intro k _nm ρ σm hJ hoff hdep
      have e7 := look_off (N := 36) (hoff 7 rfl) rfl
      exact dp_v (v := (Sl a25 r22 c26)) wn (rv_move e7) rfl hJ) ?_
    refine all_cons (by
      refine ⟨?_, ?_⟩
      ·intro _nm ρ σm hJ hoff hdep
       have e3 := look_off (N := 36) (hoff 3 rfl) rfl
       obtain ⟨H, m⟩ := id hJ
       have hc28 := H.cells 5 rfl
       exact dp_v (v := (.agg #[(Sl Cd Cc.1 Ce), (Sl Cf Cc.2 Cg)])) wn (rv_load (cs := [(Sl Cd Cc.1 Ce), (Sl Cf Cc.2 Cg)]) Try.underlying26 rfl ti26 e3 rfl hc28) rfl hJ
      trivial) ?_
    refine ac rfl (by
      intro k _nm ρ σm hJ hoff hdep
      have e1 := look_off (N := 36) (hoff 1 rfl) rfl
      exact dp_v (v := (I Ek)) wn (rv_move e1) rfl hJ) ?_
    refine all_cons (by
      refine ⟨?_, ?_⟩
      ·intro _nm ρ σm hJ hoff hdep
       have e24 : look 36 ρ 24 = (.agg #[(Sl Cd Cc.1 Ce), (Sl Cf Cc.2 Cg)]) := hdep 1 rfl rfl 24 rfl
       have e25 : look 36 ρ 25 = (I Ek) := hdep 2 rfl rfl 25 rfl
       obtain ⟨H, m⟩ := id hJ
       refine dp_cx wn (cx_call hc31 (ent_f hc31.fn (by show [look 36 ρ 24, look 36 ρ 25] = _; rw [e24, e25])) hn0 (H.sel' [3, 4, 0, 1, 2, 3, 4, 5] rfl rfl : Hp S0 σ0 _ ([_, _] ++ _))) ?_
       rintro _ σq ⟨_, ⟨rfl, rfl⟩, H2, m2⟩
       exact ⟨_, (), rfl, rfl, ⟨H2.sel' [0, 1, 2, 3, 4, 5] rfl rfl, m.comp0 (m2.mono (fun i h => by simp [cov, Ch.ro] at h))⟩, stab [0, 1, 2, 6, 7, 8] (by kernel_rfl) ⟨rfl, rfl, rfl, rfl, rfl, rfl, trivial⟩⟩
      trivial) ?_
    refine ac rfl (by
      intro k _nm ρ σm hJ hoff hdep
      have e23 := hdep 0 rfl rfl 23 rfl
      have e26 := hdep 3 rfl rfl 26 rfl
      exact dp_v (v := (pt b35 o36)) wn (rv_ix Try.underlying68 ti67 e23 e26 hi34) rfl hJ) ?_
    refine all_cons (by
      refine ⟨?_, ?_⟩
      ·intro _nm ρ σm hJ hoff hdep
       have e27 := hdep 4 rfl rfl 27 rfl
       obtain ⟨H, m⟩ := id hJ
       replace hc39 := m.hcell hc39 nocov
       exact dp_v (v := (.pointer a37)) wn (rv_load1 Try.underlying67 rfl e27 hc39) rfl hJ
      refine ⟨?_, ?_⟩
      ·intro _nm ρ σm hJ hoff hdep
       have e27 := hdep 4 rfl rfl 27 rfl
       obtain ⟨H, m⟩ := id hJ
       replace hc39 := m.hcell hc39 nocov
       exact dp_v (v := (.pointer a37)) wn (rv_load1 Try.underlying67 rfl e27 hc39) rfl hJ
      trivial) ?_
    refine ac rfl (by
      intro k _nm ρ σm hJ hoff hdep
      have e7 := look_off (N := 36) (hoff 7 rfl) rfl
      exact dp_v (v := (Sl a25 r22 c26)) wn (rv_move e7) rfl hJ) ?_
    refine all_cons (by
      refine ⟨?_, ?_⟩
      ·intro _nm ρ σm hJ hoff hdep
       have e3 := look_off (N := 36) (hoff 3 rfl) rfl
       obtain ⟨H, m⟩ := id hJ
       have hc41 := H.cells 5 rfl
       exact dp_v (v := (.agg #[(Sl Cd Cc.1 Ce), (Sl Cf Cc.2 Cg)])) wn (rv_load (cs := [(Sl Cd Cc.1 Ce), (Sl Cf Cc.2 Cg)]) Try.underlying26 rfl ti26 e3 rfl hc41) rfl hJ
      refine ⟨?_, ?_⟩
      ·intro _nm ρ σm hJ hoff hdep
       have e3 := look_off (N := 36) (hoff 3 rfl) rfl
       obtain ⟨H, m⟩ := id hJ
       have hc41 := H.cells 5 rfl
       exact dp_v (v := (.agg #[(Sl Cd Cc.1 Ce), (Sl Cf Cc.2 Cg)])) wn (rv_load (cs := [(Sl Cd Cc.1 Ce), (Sl Cf Cc.2 Cg)]) Try.underlying26 rfl ti26 e3 rfl hc41) rfl hJ
      trivial) ?_
    refine ac rfl (by
      intro k _nm ρ σm hJ hoff hdep
      have e2 := look_off (N := 36) (hoff 2 rfl) rfl
      exact dp_v (v := (I El)) wn (rv_move e2) rfl hJ) ?_
    refine all_cons (by
      refine ⟨?_, ?_⟩
      ·intro _nm ρ σm hJ hoff hdep
       have e30 : look 36 ρ 30 = (.agg #[(Sl Cd Cc.1 Ce), (Sl Cf Cc.2 Cg)]) := hdep 7 rfl rfl 30 rfl
       have e31 : look 36 ρ 31 = (I El) := hdep 8 rfl rfl 31 rfl
       obtain ⟨H, m⟩ := id hJ
       refine dp_cx wn (cx_call hc44 (ent_f hc44.fn (by show [look 36 ρ 30, look 36 ρ 31] = _; rw [e30, e31])) hn0 (H.sel' [3, 4, 0, 1, 2, 3, 4, 5] rfl rfl : Hp S0 σ0 _ ([_, _] ++ _))) ?_
       rintro _ σq ⟨_, ⟨rfl, rfl⟩, H2, m2⟩
       exact ⟨_, (), rfl, rfl, ⟨H2.sel' [0, 1, 2, 3, 4, 5] rfl rfl, m.comp0 (m2.mono (fun i h => by simp [cov, Ch.ro] at h))⟩, stab [0, 1, 2, 3, 4, 5, 6, 7, 8] (by kernel_rfl) ⟨rfl, rfl, rfl, rfl, rfl, rfl, rfl, rfl, rfl, trivial⟩⟩
      trivial) ?_
    refine ac rfl (by
      intro k _nm ρ σm hJ hoff hdep
      have e29 := hdep 6 rfl rfl 29 rfl
      have e32 := hdep 9 rfl rfl 32 rfl
      exact dp_v (v := (pt b48 o49)) wn (rv_ix Try.underlying68 ti67 e29 e32 hi47) rfl hJ) ?_
    refine all_cons (by
      refine ⟨?_, ?_⟩
      ·intro _nm ρ σm hJ hoff hdep
       have e33 := hdep 10 rfl rfl 33 rfl
       obtain ⟨H, m⟩ := id hJ
       replace hc52 := m.hcell hc52 nocov
       exact dp_v (v := (.pointer a50)) wn (rv_load1 Try.underlying67 rfl e33 hc52) rfl hJ
      trivial) ?_
    exact all_nil
   ·intro _nm ρ σ54 hJ hoff hrel
    have e28 := hrel 5 rfl 28 rfl
    have e34 := hrel 11 rfl 34 rfl
    obtain ⟨H, -⟩ := (show Hp S0 σ0 σ54 [Ch.pv 0 (.pointer a50) x45, Ch.pv 0 (.pointer a37) x32, Ch.own n0 0 (Sl a25 r22 c26) r22, Ch.ro 0 (Sl Cd Cc.1 Ce) Cc.1, Ch.ro 0 (Sl Cf Cc.2 Cg) Cc.2, Ch.bx n0 b1 0 [(Sl Cd Cc.1 Ce), (Sl Cf Cc.2 Cg)] [] []] ∧ Md (cov []) σ27 σ54 from hJ)
    clear hJ Hs
    rw [fr_lookL (L := [(28, (.pointer a37)), (34, (.pointer a50))]) ⟨e28, e34, trivial⟩]
    clear hoff hrel e28 e34
    replace H := H.nilOwn Int 0 0
    revert h; refine br fun r55 hx56 h => ?_
    have hc57 := c_impl_appendChanged 100 (Eg := none) (Eh := 0) (Ei := a37) (Ej := a50) hx56
    refine st_call (cx_call hc57 (ent_f hc57.fn rfl) hn0 (H.sel' [0, 2, 1, 1, 2, 3, 4, 5, 6] rfl rfl : Hp S0 σ0 _ ([_, _, _] ++ _))) wn ?_
    rintro _ σ60 ⟨_, ⟨a58, c59, rfl, rfl⟩, H, -⟩
    replace H : Hp _ _ _ [_, _, _, _, _, _, _] := H
    refine sa (Sl a58 r55 c59) rfl (w_end (q_then (c_ret ?_)))
    obtain rfl := sj h
    exact fin_ret (v := (Sl a58 r55 c59)) (results_ok Try.results36 (res_tmp (v := (Sl a58 r55 c59)) rfl res_nil) rfl) ⟨a58, c59, rfl, rfl⟩ (H.sel' [0] rfl rfl)

theorem c_laws_equalInts {Dx : List Int} {Dy : List Int} {Em : Option Addr} {En : Nat} {Eo : Option Addr} {Ep : Nat} {r : Bool} (h : M.laws_equalInts Dx Dy = some r) :
    Cal2 Try.prog 37 [(Sl Em Dx En), (Sl Eo Dy Ep)] [Ch.ro 0 (Sl Em Dx En) Dx, Ch.ro 0 (Sl Eo Dy Ep) Dy] (fun n0 v L => v = (B r) ∧ L = []) := by
 refine cal2 (n := 26) Try.func37 rfl rfl rfl rfl ?_
 intro S0 σ0 n0 hn0 H
 unfold M.laws_equalInts at h
 refine c_seq (rg (sa (B false) rfl (w_end (q_then (c_seq (c_seq (rg (sm (Sl Em Dx En) rfl (st (v := (I (Dx.length : Int))) (rv_len Try.underlying24 rfl) (sm (Sl Eo Dy Ep) rfl (st (v := (I (Dy.length : Int))) (rv_len Try.underlying24 rfl) ?_)))))))))))
 refine st (v := (B ((Dx.length : Int) != (Dy.length : Int)))) (rv_neq (a := (Dx.length : Int)) (b := (Dy.length : Int)) rfl rfl) (w_end (q_then ?_))
 refine cd_cond ((Dx.length : Int) != (Dy.length : Int)) rfl (fun hb1 => ?_) (fun hb1 => ?_)
 ·replace h := bif_t hb1 h
  refine c_seq (rg (sa (B false) rfl (w_end (q_then (c_ret (q_then_r ?_))))))
  obtain rfl := sj h
  exact fin_ret (v := (B false)) (results_ok Try.results37 (res_tmp (v := (B false)) rfl res_nil) rfl) ⟨rfl, rfl⟩ (H.sel' [] rfl rfl)
 ·replace h := bif_f hb1 h
  refine c_skip (q_then (c_seq (c_seq (rg (sa (I 0) rfl (w_end (q_then ?_)))))))
  obtain ⟨o2, hj, h'⟩ := bind_some h
  clear h
  refine c_cut (fun e a w => (∃ t, o2 = (.inl t) ∧ e = .normal ∧ ∃ (ρ : Nat → Value) (σ : St), a = fr 26 (updL ρ []) ∧ w = σ.w ∧ Hp S0 σ0 σ []) ∨ (∃ t, o2 = (.inr t) ∧ e = .ret ∧ ∃ (ρ : Nat → Value) (σ : St), a = fr 26 (updL ρ [(4, (B t))]) ∧ w = σ.w ∧ Hp S0 σ0 σ [])) ?_ ?_
  ·clear h'
   rename _ = some o2 => h
   refine c_blk (wp_loopM _ h (fun s3 a w => ∃ (ρ : Nat → Value) (σ : St), a = fr 26 (updL ρ [(0, (Sl Em Dx En)), (1, (Sl Eo Dy Ep)), (5, (I s3))]) ∧ w = σ.w ∧ Hp S0 σ0 σ [Ch.ro 0 (Sl Em Dx En) Dx, Ch.ro 0 (Sl Eo Dy Ep) Dy]) ⟨_, σ0, fr_join ⟨rfl, rfl, rfl, trivial⟩, rfl, H.sel' [0, 1] rfl rfl⟩ ?_)
   clear h H
   rintro s3 a w o ⟨ρ, σ4, rfl, rfl, H⟩ h hres
   refine c_seq (c_seq (rg (sm (I s3) rfl (sm (Sl Em Dx En) rfl (st (v := (I (Dx.length : Int))) (rv_len Try.underlying24 rfl) (st (v := (B (decide (s3 < (Dx.length : Int))))) (rv_lss (a := s3) (b := (Dx.length : Int)) rfl rfl) (w_end (q_then ?_))))))))
   refine cd_cond (decide (s3 < (Dx.length : Int))) rfl (fun hb5 => ?_) (fun hb5 => ?_)
   ·replace h := bif_t hb5 h
    refine c_skip (q_then (c_seq (c_blk (c_seq ?_))))
    refine rgP (σ := σ4) 8 (by kernel_rfl) (by kernel_rfl) (by kernel_rfl) ?_
    refine sq (v := (Sl Em Dx En)) (rv_move rfl) (sq (v := (I s3)) (rv_move rfl) ?_)
    revert h; refine br fun x6 hx7 h => ?_
    obtain ⟨b9, o10, hi8, -⟩ := (H.ro 0 rfl).ix hx7
    refine sq (v := (pt b9 o10)) (rv_ix Try.underlying24 ti3 rfl rfl hi8) ?_
    have hc11 := ((H.ro 0 rfl).at hx7 hi8).int
    refine sq (v := (I x6)) (rv_load1 Try.underlying3 rfl rfl hc11) (sq (v := (Sl Eo Dy Ep)) (rv_move rfl) (sq (v := (I s3)) (rv_move rfl) ?_))
    revert h; refine br fun x12 hx13 h => ?_
    obtain ⟨b15, o16, hi14, -⟩ := (H.ro 1 rfl).ix hx13
    refine sq (v := (pt b15 o16)) (rv_ix Try.underlying24 ti3 rfl rfl hi14) ?_
    have hc17 := ((H.ro 1 rfl).at hx13 hi14).int
    refine sq (v := (I x12)) (rv_load1 Try.underlying3 rfl rfl hc17) (sq_end ?_)
    intro σ18 hm19
    replace H := H.grow (hm19.mono fun _ h => h); clear hm19
    refine st (v := (B (x6 != x12))) (rv_neq (a := x6) (b := x12) rfl rfl) (w_end (q_then ?_))
    refine cd_cond (x6 != x12) rfl (fun hb20 => ?_) (fun hb20 => ?_)
    ·replace h := bif_t hb20 h
     refine c_seq (rg (sa (B false) rfl (w_end (q_then (c_ret (q_blk_r (q_then_r (q_then_r (q_blk_r ?_)))))))))
     obtain rfl := sj h
     obtain rfl := hres _ rfl
     exact .inr (⟨_, rfl, rfl, _, σ18, fr_join ⟨rfl, trivial⟩, rfl, H.sel' [] rfl rfl⟩)
    ·replace h := bif_f hb20 h
     refine c_skip (q_blk (q_then (rg (sm (I s3) rfl (st (v := (I (w64 (s3 + 1)))) (rv_add (a := s3) (b := 1) rfl rfl) (sa (I (w64 (s3 + 1))) rfl (w_end (q_then ?_))))))))
     obtain rfl := sj h
     exact ⟨_, rfl, _, σ18, fr_join ⟨rfl, rfl, rfl, trivial⟩, rfl, H.sel' [0, 1] rfl rfl⟩
   ·replace h := bif_f hb5 h
    refine c_exit (q_then_x (q_then_x (q_blk_hit ?_)))
    obtain rfl := sj h
    obtain rfl := hres _ rfl
    exact .inl ⟨_, rfl, rfl, _, σ4, fr_join trivial, rfl, H.sel' [] rfl rfl⟩
  ·clear hj
   have h := h'
   clear h' H
   rintro e a w (⟨t21, rfl, rfl, ρ, σ22, rfl, rfl, H⟩ | ⟨t23, rfl, rfl, ρ, σ24, rfl, rfl, H⟩)
   ·replace h := selim_l h
    refine q_then (c_seq (rg (sa (B true) rfl (w_end (q_then (c_ret ?_))))))
    obtain rfl := sj h
    exact fin_ret (v := (B true)) (results_ok Try.results37 (res_tmp (v := (B true)) rfl res_nil) rfl) ⟨rfl, rfl⟩ (H.sel' [] rfl rfl)
   ·replace h := selim_r h
    refine q_then_r ?_
    obtain rfl := sj h
    exact fin_ret (v := (B t23)) (results_ok Try.results37 (res_tmp (v := (B t23)) rfl res_nil) rfl) ⟨rfl, rfl⟩ (H.sel' [] rfl rfl)

theorem c_spec_toInt {Er : Bool}  {r : Int} (h : M.spec_toInt Er = some r) :
    Cal2 Try.prog 83 [(B Er)] [] (fun n0 v L => v = (I r) ∧ L = []) := by
 refine cal2 (n := 4) Try.func83 rfl rfl rfl rfl ?_
 intro S0 σ0 n0 hn0 H
 unfold M.spec_toInt at h
 refine c_seq (rg (sa (I 0) rfl (w_end (q_then (c_seq (c_seq (rg (sm (B Er) rfl (w_end (q_then ?_))))))))))
 refine cd_cond Er rfl (fun hb1 => ?_) (fun hb1 => ?_)
 ·replace h := bif_t hb1 h
  refine c_seq (rg (sa (I 1) rfl (w_end (q_then (c_ret (q_then_r ?_))))))
  obtain rfl := sj h
  exact fin_ret (v := (I 1)) (results_ok Try.results83 (res_tmp (v := (I 1)) rfl res_nil) rfl) ⟨rfl, rfl⟩ (H.sel' [] rfl rfl)
 ·replace h := bif_f hb1 h
  refine c_skip (q_then (c_seq (rg (sa (I 0) rfl (w_end (q_then (c_ret ?_)))))))
  obtain rfl := sj h
  exact fin_ret (v := (I 0)) (results_ok Try.results83 (res_tmp (v := (I 0)) rfl res_nil) rfl) ⟨rfl, rfl⟩ (H.sel' [] rfl rfl)

theorem c_spec_upTo {Cc : (List (Int × (Int × (List Int) × Int))) × (List Int)} {Cq : Int} {Cd : Option Addr} {Ce : Nat} {Cf : Option Addr} {Cg : Nat} {r : Int} (h : M.spec_upTo Cc Cq = some r) :
    Cal2 Try.prog 52 [(.agg #[(Sl Cd Cc.1 Ce), (Sl Cf Cc.2 Cg)]), (I Cq)] [Ch.ro 0 (Sl Cd Cc.1 Ce) Cc.1, Ch.ro 0 (Sl Cf Cc.2 Cg) Cc.2] (fun n0 v L => v = (I r) ∧ L = []) := by
 refine cal2 (n := 25) Try.func52 rfl rfl rfl rfl ?_
 intro S0 σ0 n0 hn0 H
 unfold M.spec_upTo at h
 refine c_seq (rg (st_ex (ex_box (cs := [(Sl Cd Cc.1 Ce), (Sl Cf Cc.2 Cg)]) H hn0 rfl rfl) wn ?_))
 rintro _ σ2 ⟨b1, rfl, H, -⟩
 refine sa (I 0) rfl (w_end (q_then (c_seq (rg (sa (I 0) rfl (w_end (q_then (c_seq (c_seq (rg (sa (I 0) rfl ?_)))))))))))
 refine w_end (q_then ?_)
 obtain ⟨o3, hj, h'⟩ := bind_some h
 clear h
 refine c_cut (fun e a w => e = .normal ∧ ∃ (ρ : Nat → Value) (σ : St), a = fr 25 (updL ρ [(5, (I o3))]) ∧ w = σ.w ∧ Hp S0 σ0 σ []) ?_ ?_
 ·clear h'
  rename _ = some o3 => h
  refine c_blk (wp_loopM _ h (fun s4 a w => ∃ (ρ : Nat → Value) (σ : St), a = fr 25 (updL ρ [(1, (I Cq)), (2, (pt b1 0)), (5, (I s4.1)), (6, (I s4.2))]) ∧ w = σ.w ∧ Hp S0 σ0 σ [Ch.ro 0 (Sl Cd Cc.1 Ce) Cc.1, Ch.ro 0 (Sl Cf Cc.2 Cg) Cc.2, Ch.bx n0 b1 0 [(Sl Cd Cc.1 Ce), (Sl Cf Cc.2 Cg)] [] []]) ⟨_, σ2, fr_join ⟨rfl, rfl, rfl, rfl, trivial⟩, rfl, H.sel' [1, 2, 0] rfl rfl⟩ ?_)
  clear h H
  rintro s4 a w o ⟨ρ, σ5, rfl, rfl, H⟩ h hres
  refine c_seq (c_seq (rg (sm (I s4.2) rfl (st (v := (pt b1 1)) (rv_fieldAddr (off := 1) (ft := 24) Try.underlying26 rfl ti24 rfl rfl) ?_))))
  have hc6 := H.cell (u := (Sl Cf Cc.2 Cg)) (o' := 1) 2 1 rfl rfl rfl
  refine st (v := (Sl Cf Cc.2 Cg)) (rv_load1 Try.underlying24 rfl rfl hc6) (st (v := (I (Cc.2.length : Int))) (rv_len Try.underlying24 rfl) (st (v := (B (decide (s4.2 < (Cc.2.length : Int))))) (rv_lss (a := s4.2) (b := (Cc.2.length : Int)) rfl rfl) (w_end (q_then ?_))))
  refine cd_cond (decide (s4.2 < (Cc.2.length : Int))) rfl (fun hb7 => ?_) (fun hb7 => ?_)
  ·replace h := bif_t hb7 h
   refine c_skip (q_then (c_seq (c_blk (rg (sm (I s4.1) rfl (st (v := (pt b1 1)) (rv_fieldAddr (off := 1) (ft := 24) Try.underlying26 rfl ti24 rfl rfl) ?_))))))
   have hc8 := H.cell (u := (Sl Cf Cc.2 Cg)) (o' := 1) 2 1 rfl rfl rfl
   refine st (v := (Sl Cf Cc.2 Cg)) (rv_load1 Try.underlying24 rfl rfl hc8) (sm (I s4.2) rfl ?_)
   revert h; refine br fun x9 hx10 h => ?_
   obtain ⟨b12, o13, hi11, -⟩ := (H.ro 1 rfl).ix hx10
   refine st (v := (pt b12 o13)) (rv_ix Try.underlying24 ti3 rfl rfl hi11) ?_
   have hc14 := ((H.ro 1 rfl).at hx10 hi11).int
   refine st (v := (I x9)) (rv_load1 Try.underlying3 rfl rfl hc14) (sm (I Cq) rfl (st (v := (B (decide (x9 ≤ Cq)))) (rv_leq (a := x9) (b := Cq) rfl rfl) ?_))
   revert h; refine br fun r15 hx16 h => ?_
   have hc17 := c_spec_toInt hx16
   refine st_call (cx_call hc17 (ent_f hc17.fn rfl) hn0 (H.sel' [0, 1, 2] rfl rfl : Hp S0 σ0 _ ([] ++ _))) wn ?_
   rintro _ σ18 ⟨_, ⟨rfl, rfl⟩, H, -⟩
   replace H : Hp _ _ _ [_, _, _] := H
   refine st (v := (I (w64 (s4.1 + r15)))) (rv_add (a := s4.1) (b := r15) rfl rfl) (sa (I (w64 (s4.1 + r15))) rfl (w_end (q_blk (q_then (rg (sm (I s4.2) rfl (st (v := (I (w64 (s4.2 + 1)))) (rv_add (a := s4.2) (b := 1) rfl rfl) (sa (I (w64 (s4.2 + 1))) rfl (w_end (q_then ?_))))))))))
   obtain rfl := sj h
   exact ⟨_, rfl, _, σ18, fr_join ⟨rfl, rfl, rfl, rfl, trivial⟩, rfl, H.sel' [0, 1, 2] rfl rfl⟩
  ·replace h := bif_f hb7 h
   refine c_exit (q_then_x (q_then_x (q_blk_hit ?_)))
   obtain rfl := sj h
   obtain rfl := hres _ rfl
   exact ⟨rfl, _, σ5, fr_join ⟨rfl, trivial⟩, rfl, H.sel' [] rfl rfl⟩
 ·clear hj
  have h := h'
  clear h' H
  rintro e a w ⟨rfl, ρ, σ19, rfl, rfl, H⟩
  refine q_then (c_seq (rg (sm (I o3) rfl (sa (I o3) rfl (w_end (q_then (c_ret ?_)))))))
  obtain rfl := sj h
  exact fin_ret (v := (I o3)) (results_ok Try.results52 (res_tmp (v := (I o3)) rfl res_nil) rfl) ⟨rfl, rfl⟩ (H.sel' [] rfl rfl)

theorem c_spec_StoreAt {Cc : (List (Int × (Int × (List Int) × Int))) × (List Int)} {Cq : Int} {Cd : Option Addr} {Ce : Nat} {Cf : Option Addr} {Cg : Nat} {r : (List (Int × (List Int) × Int))} (h : M.spec_StoreAt Cc Cq = some r) :
    Cal2 Try.prog 22 [(.agg #[(Sl Cd Cc.1 Ce), (Sl Cf Cc.2 Cg)]), (I Cq)] [Ch.ro 0 (Sl Cd Cc.1 Ce) Cc.1, Ch.ro 0 (Sl Cf Cc.2 Cg) Cc.2] (fun n0 v L => ∃ (az1 : Option Addr), ∃ (cz2 : Nat), v = (Sl az1 r cz2) ∧ L = [Ch.own n0 n0 (Sl az1 r cz2) r]) := by
 refine cal2 (n := 27) Try.func22 rfl rfl rfl rfl ?_
 intro S0 σ0 n0 hn0 H
 unfold M.spec_StoreAt at h
 refine c_seq (rg (st_ex (ex_box (cs := [(Sl Cd Cc.1 Ce), (Sl Cf Cc.2 Cg)]) H hn0 rfl rfl) wn ?_))
 rintro _ σ2 ⟨b1, rfl, H, -⟩
 refine sa (.slice none 0 0) rfl (w_end (q_then (c_seq (c_seq ?_))))
 obtain ⟨o3, hj, h'⟩ := bind_some h
 clear h
 refine c_cut (fun e a w => e = .normal ∧ ∃ (ρ : Nat → Value) (σ : St), a = fr 27 (updL ρ [(1, (I Cq)), (2, (pt b1 0)), (14, (B o3))]) ∧ w = σ.w ∧ Hp S0 σ0 σ [Ch.ro 0 (Sl Cd Cc.1 Ce) Cc.1, Ch.ro 0 (Sl Cf Cc.2 Cg) Cc.2, Ch.bx n0 b1 0 [(Sl Cd Cc.1 Ce), (Sl Cf Cc.2 Cg)] [] []]) ?_ ?_
 ·clear h'
  rename _ = some o3 => h
  refine rg ?_
  have hc4 := H.cells 0 rfl
  refine st (v := (.agg #[(Sl Cd Cc.1 Ce), (Sl Cf Cc.2 Cg)])) (rv_load (cs := [(Sl Cd Cc.1 Ce), (Sl Cf Cc.2 Cg)]) Try.underlying26 rfl ti26 rfl rfl hc4) ?_
  revert h; refine br fun r5 hx6 h => ?_
  have hc7 := c_spec_validHistory (Cd := Cd) (Ce := Ce) (Cf := Cf) (Cg := Cg) hx6
  refine st_call (cx_call hc7 (ent_f hc7.fn rfl) hn0 (H.sel' [1, 2, 0, 1, 2] rfl rfl : Hp S0 σ0 _ ([_, _] ++ _))) wn ?_
  rintro _ σ8 ⟨_, ⟨rfl, rfl⟩, H, -⟩
  replace H : Hp _ _ _ [_, _, _] := H
  refine st (v := (B (!r5))) (rv_not rfl) (sm (B (!r5)) rfl ?_)
  rcases Bool.eq_false_or_eq_true (!r5) with hb9 | hb9
  ·replace h := bif_t hb9 h
   refine st_skip (congrArg some hb9) (st_skip (congrArg some hb9) (st_skip (congrArg some hb9) (st (v := (B true)) (rv_pick_t (congrArg B hb9) rfl) (w_end ?_))))
   obtain rfl := sj h
   exact ⟨rfl, _, σ8, fr_join ⟨rfl, rfl, rfl, trivial⟩, rfl, H.sel' [1, 2, 0] rfl rfl⟩
  ·replace h := bif_f hb9 h
   refine st_g (v := (I Cq)) (congrArg some hb9) (rv_move rfl) ?_
   revert h; refine br fun r10 hx11 h => ?_
   have hc12 := c_spec_inRange hx11
   refine st_call (cx_call hc12 (ent_f hc12.fn rfl) hn0 (H.sel' [0, 1, 2] rfl rfl : Hp S0 σ0 _ ([] ++ _))) (wanted_yes rfl (by exact (congrArg some hb9))) ?_
   rintro _ σ13 ⟨_, ⟨rfl, rfl⟩, H, -⟩
   replace H : Hp _ _ _ [_, _, _] := H
   refine st_g (v := (B (!r10))) (congrArg some hb9) (rv_not rfl) (st (v := (B (!r10))) (rv_pick_f (congrArg B hb9) rfl) (w_end ?_))
   obtain rfl := sj h
   exact ⟨rfl, _, σ13, fr_join ⟨rfl, rfl, rfl, trivial⟩, rfl, H.sel' [1, 2, 0] rfl rfl⟩
 ·clear hj
  have h := h'
  clear h' H
  rintro e a w ⟨rfl, ρ, σ14, rfl, rfl, H⟩
  refine q_then ?_
  refine cd_cond o3 rfl (fun hb15 => ?_) (fun hb15 => ?_)
  ·replace h := bif_t hb15 h
   refine c_seq (rg (sa (.slice none 0 0) rfl (w_end (q_then (c_ret (q_then_r ?_))))))
   replace H := H.nilOwn (Int × (List Int) × Int) n0 n0
   obtain rfl := sj h
   exact fin_ret (v := (.slice none 0 0)) (results_ok Try.results22 (res_tmp (v := (.slice none 0 0)) rfl res_nil) rfl) ⟨none, 0, rfl, rfl⟩ (H.sel' [0] rfl rfl)
  ·replace h := bif_f hb15 h
   refine c_skip (q_then (c_seq ?_))
   have hc17 := H.cell (u := (Sl Cd Cc.1 Ce)) (o' := 0) 2 0 rfl rfl rfl
   have hc18 := H.cells 2 rfl
   revert h; refine br fun r19 hx20 h => ?_
   have hc21 := c_spec_upTo (Cd := Cd) (Ce := Ce) (Cf := Cf) (Cg := Cg) hx20
   revert h; refine br fun xs22 hx23 h => ?_
   obtain ⟨a24, c25, hs26, hR27⟩ := (H.ro 0 rfl).slice hx23
   replace H := H.add (d := Ch.ro 0 (Sl a24 xs22 c25) xs22) hR27 (fun _ h => h)
   clear hR27
   revert h; refine br fun r28 hx29 h => ?_
   have hc30 := fun (b16 : Nat) => c_spec_ReplayLog (Ap := (some ⟨b16, 0, none⟩)) (Aq := 0) (Bw := a24) (By := c25) hx29
   have Hs := H
   refine rg2 (σ := σ14) (Nm := (Nat) × (Option Addr) × (Nat)) 12 [0, 5, 7] [[false, false, false], [true, false, false], [false, true, false], [true, true, false], [true, true, true]] [[(0, 1), (2, 3)], [(0, 0), (1, 1), (2, 2), (3, 3)], [(0, 0), (1, 1), (2, 2), (3, 3)], [(0, 0), (1, 1)], [(0, 0), (1, 1)], [(0, 2), (1, 3)], [(2, 2), (3, 3)], [(3, 4)], [(4, 4)], [(4, 4)], [(4, 4)], [(4, 4)]] 4 [fun ((b16, a31, c32) : (Nat) × (Option Addr) × (Nat)) => fun σm => Hp S0 σ0 σm [Ch.ro 0 (Sl a24 xs22 c25) xs22, Ch.ro 0 (Sl Cd Cc.1 Ce) Cc.1, Ch.ro 0 (Sl Cf Cc.2 Cg) Cc.2, Ch.bx n0 b1 0 [(Sl Cd Cc.1 Ce), (Sl Cf Cc.2 Cg)] [] []] ∧ Md (cov []) σ14 σm, fun ((b16, a31, c32) : (Nat) × (Option Addr) × (Nat)) => fun σm => Hp S0 σ0 σm [Ch.ro 0 (Sl (some ⟨b16, 0, none⟩) ([] : List (Int × (List Int) × Int)) 0) ([] : List (Int × (List Int) × Int)), Ch.ro 0 (Sl a24 xs22 c25) xs22, Ch.ro 0 (Sl Cd Cc.1 Ce) Cc.1, Ch.ro 0 (Sl Cf Cc.2 Cg) Cc.2, Ch.bx n0 b1 0 [(Sl Cd Cc.1 Ce), (Sl Cf Cc.2 Cg)] [] []] ∧ Md (fun i => (cov []) i ∨ (fun i => (cov []) i ∨ (fun b => blk (Sl (some ⟨b16, 0, none⟩) ([] : List (Int × (List Int) × Int)) 0) = some b) i) i) σ14 σm, fun ((b16, a31, c32) : (Nat) × (Option Addr) × (Nat)) => fun σm => Hp S0 σ0 σm [Ch.ro 0 (Sl a24 xs22 c25) xs22, Ch.ro 0 (Sl Cd Cc.1 Ce) Cc.1, Ch.ro 0 (Sl Cf Cc.2 Cg) Cc.2, Ch.bx n0 b1 0 [(Sl Cd Cc.1 Ce), (Sl Cf Cc.2 Cg)] [] []] ∧ Md (cov []) σ14 σm, fun ((b16, a31, c32) : (Nat) × (Option Addr) × (Nat)) => fun σm => Hp S0 σ0 σm [Ch.ro 0 (Sl (some ⟨b16, 0, none⟩) ([] : List (Int × (List Int) × Int)) 0) ([] : List (Int × (List Int) × Int)), Ch.ro 0 (Sl a24 xs22 c25) xs22, Ch.ro 0 (Sl Cd Cc.1 Ce) Cc.1, Ch.ro 0 (Sl Cf Cc.2 Cg) Cc.2, Ch.bx n0 b1 0 [(Sl Cd Cc.1 Ce), (Sl Cf Cc.2 Cg)] [] []] ∧ Md (fun i => (cov []) i ∨ (fun i => (cov []) i ∨ (fun b => blk (Sl (some ⟨b16, 0, none⟩) ([] : List (Int × (List Int) × Int)) 0) = some b) i) i) σ14 σm, fun ((b16, a31, c32) : (Nat) × (Option Addr) × (Nat)) => fun σm => Hp S0 σ0 σm [Ch.own n0 n0 (Sl a31 r28.1 c32) r28.1, Ch.ro 0 (Sl (some ⟨b16, 0, none⟩) ([] : List (Int × (List Int) × Int)) 0) ([] : List (Int × (List Int) × Int)), Ch.ro 0 (Sl a24 xs22 c25) xs22, Ch.ro 0 (Sl Cd Cc.1 Ce) Cc.1, Ch.ro 0 (Sl Cf Cc.2 Cg) Cc.2, Ch.bx n0 b1 0 [(Sl Cd Cc.1 Ce), (Sl Cf Cc.2 Cg)] [] []] ∧ Md (fun i => (cov []) i ∨ (fun i => (cov []) i ∨ (fun b => blk (Sl (some ⟨b16, 0, none⟩) ([] : List (Int × (List Int) × Int)) 0) = some b) i) i) σ14 σm] [fun ((b16, a31, c32) : (Nat) × (Option Addr) × (Nat)) => (Sl (some ⟨b16, 0, none⟩) ([] : List (Int × (List Int) × Int)) 0), fun ((b16, a31, c32) : (Nat) × (Option Addr) × (Nat)) => (pt b1 0), fun ((b16, a31, c32) : (Nat) × (Option Addr) × (Nat)) => (Sl Cd Cc.1 Ce), fun ((b16, a31, c32) : (Nat) × (Option Addr) × (Nat)) => (.agg #[(Sl Cd Cc.1 Ce), (Sl Cf Cc.2 Cg)]), fun ((b16, a31, c32) : (Nat) × (Option Addr) × (Nat)) => (I Cq), fun ((b16, a31, c32) : (Nat) × (Option Addr) × (Nat)) => (I r19), fun ((b16, a31, c32) : (Nat) × (Option Addr) × (Nat)) => (Sl a24 xs22 c25), fun ((b16, a31, c32) : (Nat) × (Option Addr) × (Nat)) => (.tuple #[(Sl a31 r28.1 c32), (I r28.2)]), fun ((b16, a31, c32) : (Nat) × (Option Addr) × (Nat)) => (.tuple #[(Sl a31 r28.1 c32), (I r28.2)]), fun ((b16, a31, c32) : (Nat) × (Option Addr) × (Nat)) => (Sl a31 r28.1 c32), fun ((b16, a31, c32) : (Nat) × (Option Addr) × (Nat)) => (I r28.2), fun ((b16, a31, c32) : (Nat) × (Option Addr) × (Nat)) => (Sl a31 r28.1 c32)] (0, none, 0) (by kernel_rfl) (by kernel_rfl) ?_ ?_ ?_
   ·intro σm m0
    exact ⟨H.grow (m0.mono fun _ h => h.elim), m0⟩
   ·refine all_cons (by
      refine ⟨?_, ?_⟩
      ·rintro ⟨b16, a31, c32⟩ ρ σm hJ hoff hdep
       obtain ⟨H, m⟩ := id hJ
       refine dp_ex wn (ex_buildSlice (el := 0) (xs := ([] : List (Int × (List Int) × Int))) (ps := []) (cs := []) H hn0 Try.underlying33 ti41 rfl rfl (by kernel_rfl) (.nil) rfl) ?_
       rintro _ σq ⟨b16x, rfl, H2, m2⟩
       obtain ⟨σr0, hwr0, H2, mr0⟩ := H2.pub 0 rfl (Nat.zero_le _)
       exact ⟨_, (b16x, a31, c32), hwr0, rfl, ⟨H2.sel' [0, 1, 2, 3, 4] rfl rfl, m.comp (m2.comp mr0)⟩, stab [1, 2, 3, 4, 5, 6] (by kernel_rfl) ⟨rfl, rfl, rfl, rfl, rfl, rfl, trivial⟩⟩
      refine ⟨?_, ?_⟩
      ·rintro ⟨b16, a31, c32⟩ ρ σm hJ hoff hdep
       obtain ⟨H, m⟩ := id hJ
       refine dp_ex wn (ex_buildSlice (el := 0) (xs := ([] : List (Int × (List Int) × Int))) (ps := []) (cs := []) H hn0 Try.underlying33 ti41 rfl rfl (by kernel_rfl) (.nil) rfl) ?_
       rintro _ σq ⟨b16x, rfl, H2, m2⟩
       obtain ⟨σr0, hwr0, H2, mr0⟩ := H2.pub 0 rfl (Nat.zero_le _)
       exact ⟨_, (b16x, a31, c32), hwr0, rfl, ⟨H2.sel' [0, 1, 2, 3, 4] rfl rfl, m.comp (m2.comp mr0)⟩, stab [1, 2, 3, 4, 5, 6] (by kernel_rfl) ⟨rfl, rfl, rfl, rfl, rfl, rfl, trivial⟩⟩
      trivial) ?_
    refine ac rfl (by
      intro k; rintro ⟨b16, a31, c32⟩ ρ σm hJ hoff hdep
      have e2 := look_off (N := 27) (hoff 2 rfl) rfl
      exact dp_v (v := (pt b1 0)) wn (rv_fieldAddr (off := 0) (ft := 23) Try.underlying26 rfl ti23 rfl e2) rfl hJ) ?_
    refine all_cons (by
      refine ⟨?_, ?_⟩
      ·rintro ⟨b16, a31, c32⟩ ρ σm hJ hoff hdep
       have e17 := hdep 1 rfl rfl 17 rfl
       obtain ⟨H, m⟩ := id hJ
       have hc17 := H.cell (u := (Sl Cd Cc.1 Ce)) (o' := 0) 3 0 rfl rfl rfl
       exact dp_v (v := (Sl Cd Cc.1 Ce)) wn (rv_load1 Try.underlying23 rfl e17 hc17) rfl hJ
      refine ⟨?_, ?_⟩
      ·rintro ⟨b16, a31, c32⟩ ρ σm hJ hoff hdep
       have e17 := hdep 1 rfl rfl 17 rfl
       obtain ⟨H, m⟩ := id hJ
       have hc17 := H.cell (u := (Sl Cd Cc.1 Ce)) (o' := 0) 4 0 rfl rfl rfl
       exact dp_v (v := (Sl Cd Cc.1 Ce)) wn (rv_load1 Try.underlying23 rfl e17 hc17) rfl hJ
      refine ⟨?_, ?_⟩
      ·rintro ⟨b16, a31, c32⟩ ρ σm hJ hoff hdep
       have e17 := hdep 1 rfl rfl 17 rfl
       obtain ⟨H, m⟩ := id hJ
       have hc17 := H.cell (u := (Sl Cd Cc.1 Ce)) (o' := 0) 3 0 rfl rfl rfl
       exact dp_v (v := (Sl Cd Cc.1 Ce)) wn (rv_load1 Try.underlying23 rfl e17 hc17) rfl hJ
      refine ⟨?_, ?_⟩
      ·rintro ⟨b16, a31, c32⟩ ρ σm hJ hoff hdep
       have e17 := hdep 1 rfl rfl 17 rfl
       obtain ⟨H, m⟩ := id hJ
       have hc17 := H.cell (u := (Sl Cd Cc.1 Ce)) (o' := 0) 4 0 rfl rfl rfl
       exact dp_v (v := (Sl Cd Cc.1 Ce)) wn (rv_load1 Try.underlying23 rfl e17 hc17) rfl hJ
      trivial) ?_
    refine all_cons (by
      refine ⟨?_, ?_⟩
      ·rintro ⟨b16, a31, c32⟩ ρ σm hJ hoff hdep
       have e2 := look_off (N := 27) (hoff 2 rfl) rfl
       obtain ⟨H, m⟩ := id hJ
       have hc18 := H.cells 3 rfl
       exact dp_v (v := (.agg #[(Sl Cd Cc.1 Ce), (Sl Cf Cc.2 Cg)])) wn (rv_load (cs := [(Sl Cd Cc.1 Ce), (Sl Cf Cc.2 Cg)]) Try.underlying26 rfl ti26 e2 rfl hc18) rfl hJ
      refine ⟨?_, ?_⟩
      ·rintro ⟨b16, a31, c32⟩ ρ σm hJ hoff hdep
       have e2 := look_off (N := 27) (hoff 2 rfl) rfl
       obtain ⟨H, m⟩ := id hJ
       have hc18 := H.cells 4 rfl
       exact dp_v (v := (.agg #[(Sl Cd Cc.1 Ce), (Sl Cf Cc.2 Cg)])) wn (rv_load (cs := [(Sl Cd Cc.1 Ce), (Sl Cf Cc.2 Cg)]) Try.underlying26 rfl ti26 e2 rfl hc18) rfl hJ
      trivial) ?_
    refine ac rfl (by
      intro k; rintro ⟨b16, a31, c32⟩ ρ σm hJ hoff hdep
      have e1 := look_off (N := 27) (hoff 1 rfl) rfl
      exact dp_v (v := (I Cq)) wn (rv_move e1) rfl hJ) ?_
    refine all_cons (by
      refine ⟨?_, ?_⟩
      ·rintro ⟨b16, a31, c32⟩ ρ σm hJ hoff hdep
       have e19 : look 27 ρ 19 = (.agg #[(Sl Cd Cc.1 Ce), (Sl Cf Cc.2 Cg)]) := hdep 3 rfl rfl 19 rfl
       have e20 : look 27 ρ 20 = (I Cq) := hdep 4 rfl rfl 20 rfl
       obtain ⟨H, m⟩ := id hJ
       refine dp_cx wn (cx_call hc21 (ent_f hc21.fn (by show [look 27 ρ 19, look 27 ρ 20] = _; rw [e19, e20])) hn0 (H.sel' [1, 2, 0, 1, 2, 3] rfl rfl : Hp S0 σ0 _ ([_, _] ++ _))) ?_
       rintro _ σq ⟨_, ⟨rfl, rfl⟩, H2, m2⟩
       exact ⟨_, (b16, a31, c32), rfl, rfl, ⟨H2.sel' [0, 1, 2, 3] rfl rfl, m.comp0 (m2.mono (fun i h => by simp [cov, Ch.ro] at h))⟩, stab [0, 1, 2, 3, 4] (by kernel_rfl) ⟨rfl, rfl, rfl, rfl, rfl, trivial⟩⟩
      refine ⟨?_, ?_⟩
      ·rintro ⟨b16, a31, c32⟩ ρ σm hJ hoff hdep
       have e19 : look 27 ρ 19 = (.agg #[(Sl Cd Cc.1 Ce), (Sl Cf Cc.2 Cg)]) := hdep 3 rfl rfl 19 rfl
       have e20 : look 27 ρ 20 = (I Cq) := hdep 4 rfl rfl 20 rfl
       obtain ⟨H, m⟩ := id hJ
       refine dp_cx wn (cx_call hc21 (ent_f hc21.fn (by show [look 27 ρ 19, look 27 ρ 20] = _; rw [e19, e20])) hn0 (H.sel' [2, 3, 0, 1, 2, 3, 4] rfl rfl : Hp S0 σ0 _ ([_, _] ++ _))) ?_
       rintro _ σq ⟨_, ⟨rfl, rfl⟩, H2, m2⟩
       exact ⟨_, (b16, a31, c32), rfl, rfl, ⟨H2.sel' [0, 1, 2, 3, 4] rfl rfl, m.comp0 (m2.mono (fun i h => by simp [cov, Ch.ro] at h))⟩, stab [0, 1, 2, 3, 4] (by kernel_rfl) ⟨rfl, rfl, rfl, rfl, rfl, trivial⟩⟩
      trivial) ?_
    refine ac rfl (by
      intro k; rintro ⟨b16, a31, c32⟩ ρ σm hJ hoff hdep
      have e18 := hdep 2 rfl rfl 18 rfl
      have e21 := hdep 5 rfl rfl 21 rfl
      exact dp_v (v := (Sl a24 xs22 c25)) wn (rv_slice_h Try.underlying23 ti43 hs26 e18 e21) rfl hJ) ?_
    refine all_cons (by
      refine ⟨?_, ?_⟩
      ·rintro ⟨b16, a31, c32⟩ ρ σm hJ hoff hdep
       have e16 : look 27 ρ 16 = (Sl (some ⟨b16, 0, none⟩) ([] : List (Int × (List Int) × Int)) 0) := hdep 0 rfl rfl 16 rfl
       have e22 : look 27 ρ 22 = (Sl a24 xs22 c25) := hdep 6 rfl rfl 22 rfl
       obtain ⟨H, m⟩ := id hJ
       refine dp_cx wn (cx_call (hc30 b16) (ent_f (hc30 b16).fn (by show [look 27 ρ 16, look 27 ρ 22] = _; rw [e16, e22])) hn0 (H.sel' [0, 1, 0, 1, 2, 3, 4] rfl rfl : Hp S0 σ0 _ ([_, _] ++ _))) ?_
       rintro _ σq ⟨_, ⟨a31x, c32x, rfl, rfl⟩, H2, m2⟩
       exact ⟨_, (b16, a31x, c32x), rfl, rfl, ⟨H2.sel' [0, 1, 2, 3, 4, 5] rfl rfl, m.comp0 (m2.mono (fun i h => by simp [cov, Ch.ro] at h))⟩, stab [0, 1, 2, 3, 4, 5, 6] (by kernel_rfl) ⟨rfl, rfl, rfl, rfl, rfl, rfl, rfl, trivial⟩⟩
      trivial) ?_
    refine ac rfl (by
      intro k; rintro ⟨b16, a31, c32⟩ ρ σm hJ hoff hdep
      have e23 := hdep 7 rfl rfl 23 rfl
      exact dp_v (v := (.tuple #[(Sl a31 r28.1 c32), (I r28.2)])) wn (rv_move e23) rfl hJ) ?_
    refine ac rfl (by
      intro k; rintro ⟨b16, a31, c32⟩ ρ σm hJ hoff hdep
      have e15 := hdep 8 rfl rfl 15 rfl
      exact dp_v (v := (Sl a31 r28.1 c32)) wn (rv_extract e15 rfl) rfl hJ) ?_
    refine ac rfl (by
      intro k; rintro ⟨b16, a31, c32⟩ ρ σm hJ hoff hdep
      have e15 := hdep 8 rfl rfl 15 rfl
      exact dp_v (v := (I r28.2)) wn (rv_extract e15 rfl) rfl hJ) ?_
    refine ac rfl (by
      intro k; rintro ⟨b16, a31, c32⟩ ρ σm hJ hoff hdep
      have e24 := hdep 9 rfl rfl 24 rfl
      exact dp_v (v := (Sl a31 r28.1 c32)) wn (rv_assign e24) rfl hJ) ?_
    exact all_nil
   ·rintro ⟨b16, a31, c32⟩ ρ σ33 hJ hoff hrel
    have e5 := hrel 11 rfl 5 rfl
    have e25 := hrel 10 rfl 25 rfl
    obtain ⟨H, -⟩ := (show Hp S0 σ0 σ33 [Ch.own n0 n0 (Sl a31 r28.1 c32) r28.1, Ch.ro 0 (Sl (some ⟨b16, 0, none⟩) ([] : List (Int × (List Int) × Int)) 0) ([] : List (Int × (List Int) × Int)), Ch.ro 0 (Sl a24 xs22 c25) xs22, Ch.ro 0 (Sl Cd Cc.1 Ce) Cc.1, Ch.ro 0 (Sl Cf Cc.2 Cg) Cc.2, Ch.bx n0 b1 0 [(Sl Cd Cc.1 Ce), (Sl Cf Cc.2 Cg)] [] []] ∧ Md (fun i => (cov []) i ∨ (fun i => (cov []) i ∨ (fun b => blk (Sl (some ⟨b16, 0, none⟩) ([] : List (Int × (List Int) × Int)) 0) = some b) i) i) σ14 σ33 from hJ)
    clear hJ Hs
    rw [fr_lookL (L := [(5, (Sl a31 r28.1 c32)), (25, (I r28.2))]) ⟨e5, e25, trivial⟩]
    clear hoff hrel e5 e25
    refine sa (I r28.2) rfl (w_end (q_then (c_seq (rg (sm (Sl a31 r28.1 c32) rfl (sa (Sl a31 r28.1 c32) rfl (w_end (q_then (c_ret ?_)))))))))
    obtain rfl := sj h
    exact fin_ret (v := (Sl a31 r28.1 c32)) (results_ok Try.results22 (res_tmp (v := (Sl a31 r28.1 c32)) rfl res_nil) rfl) ⟨a31, c32, rfl, rfl⟩ (H.sel' [0] rfl rfl)

theorem c_spec_size {Dc : Int}  {r : Int} (h : M.spec_size Dc = some r) :
    Cal2 Try.prog 113 [(I Dc)] [] (fun n0 v L => v = (I r) ∧ L = []) := by
 refine cal2 (n := 7) Try.func113 rfl rfl rfl rfl ?_
 intro S0 σ0 n0 hn0 H
 unfold M.spec_size at h
 refine c_seq (rg (sa (I 0) rfl (w_end (q_then (c_seq (rg (sm (I Dc) rfl (sm (I Dc) rfl (st (v := (I (w64 (0 - Dc)))) (rv_neg (a := Dc) rfl) (st (v := (I (max Dc (w64 (0 - Dc))))) (rv_max rfl rfl) (sa (I (max Dc (w64 (0 - Dc)))) rfl ?_)))))))))))
 refine w_end (q_then (c_ret ?_))
 obtain rfl := sj h
 exact fin_ret (v := (I (max Dc (w64 (0 - Dc))))) (results_ok Try.results113 (res_tmp (v := (I (max Dc (w64 (0 - Dc))))) rfl res_nil) rfl) ⟨rfl, rfl⟩ (H.sel' [] rfl rfl)

theorem c_spec_dist {Es : Int} {Ek : List Int} {El : List Int} {Et : Option Addr} {Eu : Nat} {Ev : Option Addr} {Ew : Nat} {r : Int} (h : M.spec_dist Es Ek El = some r) :
    Cal2 Try.prog 98 [(I Es), (Sl Et Ek Eu), (Sl Ev El Ew)] [Ch.ro 0 (Sl Et Ek Eu) Ek, Ch.ro 0 (Sl Ev El Ew) El] (fun n0 v L => v = (I r) ∧ L = []) := by
 refine cal2 (n := 50) Try.func98 rfl rfl rfl rfl ?_
 intro S0 σ0 n0 hn0 H
 unfold M.spec_dist at h
 refine c_seq (rg (sa (I 0) rfl (w_end (q_then (c_seq (rg (sa (I 0) rfl (w_end (q_then (c_seq (c_seq ?_)))))))))))
 refine rg (sa (I 0) rfl (w_end (q_then ?_)))
 obtain ⟨o1, hj, h'⟩ := bind_some h
 clear h
 refine c_cut (fun e a w => e = .normal ∧ ∃ (ρ : Nat → Value) (σ : St), a = fr 50 (updL ρ [(7, (I o1))]) ∧ w = σ.w ∧ Hp S0 σ0 σ []) ?_ ?_
 ·clear h'
  rename _ = some o1 => h
  refine c_blk (wp_loopM _ h (fun s2 a w => ∃ (ρ : Nat → Value) (σ : St), a = fr 50 (updL ρ [(0, (I Es)), (1, (Sl Et Ek Eu)), (2, (Sl Ev El Ew)), (7, (I s2.1)), (8, (I s2.2))]) ∧ w = σ.w ∧ Hp S0 σ0 σ [Ch.ro 0 (Sl Et Ek Eu) Ek, Ch.ro 0 (Sl Ev El Ew) El]) ⟨_, σ0, fr_join ⟨rfl, rfl, rfl, rfl, rfl, trivial⟩, rfl, H.sel' [0, 1] rfl rfl⟩ ?_)
  clear h H
  rintro s2 a w o ⟨ρ, σ3, rfl, rfl, H⟩ h hres
  refine c_seq (c_seq (rg (sm (I s2.2) rfl (sm (Sl Et Ek Eu) rfl (st (v := (I (Ek.length : Int))) (rv_len Try.underlying24 rfl) (st (v := (B (decide (s2.2 < (Ek.length : Int))))) (rv_lss (a := s2.2) (b := (Ek.length : Int)) rfl rfl) (w_end (q_then ?_))))))))
  refine cd_cond (decide (s2.2 < (Ek.length : Int))) rfl (fun hb4 => ?_) (fun hb4 => ?_)
  ·replace h := bif_t hb4 h
   refine c_skip (q_then (c_seq ?_))
   obtain ⟨o5, hj, h'⟩ := bind_some h
   clear h
   refine c_cut (fun e a w => e = .normal ∧ ∃ (ρ : Nat → Value) (σ : St), a = fr 50 (updL ρ [(0, (I Es)), (1, (Sl Et Ek Eu)), (2, (Sl Ev El Ew)), (7, (I o5)), (8, (I s2.2))]) ∧ w = σ.w ∧ Hp S0 σ0 σ [Ch.ro 0 (Sl Et Ek Eu) Ek, Ch.ro 0 (Sl Ev El Ew) El]) ?_ ?_
   ·clear h'
    rename _ = some o5 => h
    refine c_blk (c_seq ?_)
    refine rgP (σ := σ3) 8 (by kernel_rfl) (by kernel_rfl) (by kernel_rfl) ?_
    refine sq (v := (Sl Et Ek Eu)) (rv_move rfl) (sq (v := (I s2.2)) (rv_move rfl) ?_)
    revert h; refine br fun x6 hx7 h => ?_
    obtain ⟨b9, o10, hi8, -⟩ := (H.ro 0 rfl).ix hx7
    refine sq (v := (pt b9 o10)) (rv_ix Try.underlying24 ti3 rfl rfl hi8) ?_
    have hc11 := ((H.ro 0 rfl).at hx7 hi8).int
    refine sq (v := (I x6)) (rv_load1 Try.underlying3 rfl rfl hc11) (sq (v := (Sl Ev El Ew)) (rv_move rfl) (sq (v := (I s2.2)) (rv_move rfl) ?_))
    revert h; refine br fun x12 hx13 h => ?_
    obtain ⟨b15, o16, hi14, -⟩ := (H.ro 1 rfl).ix hx13
    refine sq (v := (pt b15 o16)) (rv_ix Try.underlying24 ti3 rfl rfl hi14) ?_
    have hc17 := ((H.ro 1 rfl).at hx13 hi14).int
    refine sq (v := (I x12)) (rv_load1 Try.underlying3 rfl rfl hc17) (sq_end ?_)
    intro σ18 hm19
    replace H := H.grow (hm19.mono fun _ h => h); clear hm19
    refine st (v := (I (w64 (x6 - x12)))) (rv_sub (a := x6) (b := x12) rfl rfl) ?_
    revert h; refine br fun r20 hx21 h => ?_
    have hc22 := c_spec_size hx21
    refine st_call (cx_call hc22 (ent_f hc22.fn rfl) hn0 (H.sel' [0, 1] rfl rfl : Hp S0 σ0 _ ([] ++ _))) wn ?_
    rintro _ σ23 ⟨_, ⟨rfl, rfl⟩, H, -⟩
    replace H : Hp _ _ _ [_, _] := H
    refine sa (I r20) rfl (w_end (q_then (c_seq (rg (sm (I Es) rfl (w_end (q_then (c_blk (c_seq (rg (st (v := (B (Es == 1))) (rv_eql (a := Es) (b := 1) rfl rfl) ?_)))))))))))
    refine sa (B (Es == 1)) rfl (w_end (q_then ?_))
    refine cd_cond (Es == 1) rfl (fun hb24 => ?_) (fun hb24 => ?_)
    ·replace h := bif_t hb24 h
     refine rg (sm (I s2.1) rfl (sm (I r20) rfl (st (v := (I (w64 (s2.1 + r20)))) (rv_add (a := s2.1) (b := r20) rfl rfl) (sa (I (w64 (s2.1 + r20))) rfl (w_end (q_blk (q_blk ?_)))))))
     obtain rfl := sj h
     exact ⟨rfl, _, σ23, fr_join ⟨rfl, rfl, rfl, rfl, rfl, trivial⟩, rfl, H.sel' [0, 1] rfl rfl⟩
    ·replace h := bif_f hb24 h
     refine c_seq (rg (st (v := (B (Es == 2))) (rv_eql (a := Es) (b := 2) rfl rfl) (sa (B (Es == 2)) rfl (w_end (q_then ?_)))))
     refine cd_cond (Es == 2) rfl (fun hb25 => ?_) (fun hb25 => ?_)
     ·replace h := bif_t hb25 h
      refine rg (sm (I s2.1) rfl (sm (I r20) rfl (st (v := (I (max s2.1 r20))) (rv_max rfl rfl) (sa (I (max s2.1 r20)) rfl (w_end (q_blk (q_blk ?_)))))))
      obtain rfl := sj h
      exact ⟨rfl, _, σ23, fr_join ⟨rfl, rfl, rfl, rfl, rfl, trivial⟩, rfl, H.sel' [0, 1] rfl rfl⟩
     ·replace h := bif_f hb25 h
      refine c_seq (rg (st (v := (B (Es == 3))) (rv_eql (a := Es) (b := 3) rfl rfl) (sa (B (Es == 3)) rfl (w_end (q_then ?_)))))
      refine cd_cond (Es == 3) rfl (fun hb26 => ?_) (fun hb26 => ?_)
      ·replace h := bif_t hb26 h
       refine rg (sm (I s2.1) rfl (sm (I r20) rfl (sm (I r20) rfl (st (v := (I (w64 (r20 * r20)))) (rv_mul (a := r20) (b := r20) rfl rfl) (st (v := (I (w64 (s2.1 + (w64 (r20 * r20)))))) (rv_add (a := s2.1) (b := (w64 (r20 * r20))) rfl rfl) (sa (I (w64 (s2.1 + (w64 (r20 * r20))))) rfl (w_end (q_blk (q_blk ?_)))))))))
       obtain rfl := sj h
       exact ⟨rfl, _, σ23, fr_join ⟨rfl, rfl, rfl, rfl, rfl, trivial⟩, rfl, H.sel' [0, 1] rfl rfl⟩
      ·replace h := bif_f hb26 h
       refine rg (sm (I s2.1) rfl (sm (I r20) rfl (st (v := (B (decide (0 < r20)))) (rv_gtr (a := r20) (b := 0) rfl rfl) ?_)))
       revert h; refine br fun r27 hx28 h => ?_
       have hc29 := c_spec_toInt hx28
       refine st_call (cx_call hc29 (ent_f hc29.fn rfl) hn0 (H.sel' [0, 1] rfl rfl : Hp S0 σ0 _ ([] ++ _))) wn ?_
       rintro _ σ30 ⟨_, ⟨rfl, rfl⟩, H, -⟩
       replace H : Hp _ _ _ [_, _] := H
       refine st (v := (I (w64 (s2.1 + r27)))) (rv_add (a := s2.1) (b := r27) rfl rfl) (sa (I (w64 (s2.1 + r27))) rfl (w_end (q_blk (q_blk ?_))))
       obtain rfl := sj h
       exact ⟨rfl, _, σ30, fr_join ⟨rfl, rfl, rfl, rfl, rfl, trivial⟩, rfl, H.sel' [0, 1] rfl rfl⟩
   ·clear hj
    have h := h'
    clear h' H
    rintro e a w ⟨rfl, ρ, σ31, rfl, rfl, H⟩
    refine q_then (rg (sm (I s2.2) rfl (st (v := (I (w64 (s2.2 + 1)))) (rv_add (a := s2.2) (b := 1) rfl rfl) (sa (I (w64 (s2.2 + 1))) rfl (w_end (q_then ?_))))))
    obtain rfl := sj h
    exact ⟨_, rfl, _, σ31, fr_join ⟨rfl, rfl, rfl, rfl, rfl, trivial⟩, rfl, H.sel' [0, 1] rfl rfl⟩
  ·replace h := bif_f hb4 h
   refine c_exit (q_then_x (q_then_x (q_blk_hit ?_)))
   obtain rfl := sj h
   obtain rfl := hres _ rfl
   exact ⟨rfl, _, σ3, fr_join ⟨rfl, trivial⟩, rfl, H.sel' [] rfl rfl⟩
 ·clear hj
  have h := h'
  clear h' H
  rintro e a w ⟨rfl, ρ, σ32, rfl, rfl, H⟩
  refine q_then (c_seq (rg (sm (I o1) rfl (sa (I o1) rfl (w_end (q_then (c_ret ?_)))))))
  obtain rfl := sj h
  exact fin_ret (v := (I o1)) (results_ok Try.results98 (res_tmp (v := (I o1)) rfl res_nil) rfl) ⟨rfl, rfl⟩ (H.sel' [] rfl rfl)

theorem c_spec_sameItem {Dx : Int × (List Int) × Int} {Dy : Int × (List Int) × Int} {Dz : Option Addr} {Ea : Nat} {Eb : Option Addr} {Ec : Nat} {r : Bool} (h : M.spec_sameItem Dx Dy = some r) :
    Cal2 Try.prog 68 [(.agg #[(I Dx.1), (Sl Dz Dx.2.1 Ea), (I Dx.2.2)]), (.agg #[(I Dy.1), (Sl Eb Dy.2.1 Ec), (I Dy.2.2)])] [Ch.ro 0 (Sl Dz Dx.2.1 Ea) Dx.2.1, Ch.ro 0 (Sl Eb Dy.2.1 Ec) Dy.2.1] (fun n0 v L => v = (B r) ∧ L = []) := by
 refine cal2 (n := 25) Try.func68 rfl rfl rfl rfl ?_
 intro S0 σ0 n0 hn0 H
 unfold M.spec_sameItem at h
 refine c_seq (rg (st_ex (ex_box (cs := [(I Dx.1), (Sl Dz Dx.2.1 Ea), (I Dx.2.2)]) H hn0 rfl rfl) wn ?_))
 rintro _ σ2 ⟨b1, rfl, H, -⟩
 refine st_ex (ex_box (cs := [(I Dy.1), (Sl Eb Dy.2.1 Ec), (I Dy.2.2)]) H hn0 rfl rfl) wn ?_
 rintro _ σ4 ⟨b3, rfl, H, -⟩
 refine sa (B false) rfl (w_end (q_then (c_seq (rg (st (v := (pt b1 0)) (rv_fieldAddr (off := 0) (ft := 3) Try.underlying41 rfl ti3 rfl rfl) ?_)))))
 have hc5 := H.cell (u := (I Dx.1)) (o' := 0) 1 0 rfl rfl rfl
 refine st (v := (I Dx.1)) (rv_load1 Try.underlying3 rfl rfl hc5) (st (v := (pt b3 0)) (rv_fieldAddr (off := 0) (ft := 3) Try.underlying41 rfl ti3 rfl rfl) ?_)
 have hc6 := H.cell (u := (I Dy.1)) (o' := 0) 0 0 rfl rfl rfl
 refine st (v := (I Dy.1)) (rv_load1 Try.underlying3 rfl rfl hc6) (st (v := (B (Dx.1 == Dy.1))) (rv_eql (a := Dx.1) (b := Dy.1) rfl rfl) (sm (B (Dx.1 == Dy.1)) rfl ?_))
 rcases Bool.eq_false_or_eq_true (Dx.1 == Dy.1) with hb7 | hb7
 ·replace h := bif_t hb7 h
  refine st_g (v := (pt b1 2)) (congrArg some hb7) (rv_fieldAddr (off := 2) (ft := 3) Try.underlying41 rfl ti3 rfl rfl) ?_
  have hc8 := H.cell (u := (I Dx.2.2)) (o' := 2) 1 2 rfl rfl rfl
  refine st_g (v := (I Dx.2.2)) (congrArg some hb7) (rv_load1 Try.underlying3 rfl rfl hc8) (st_g (v := (pt b3 2)) (congrArg some hb7) (rv_fieldAddr (off := 2) (ft := 3) Try.underlying41 rfl ti3 rfl rfl) ?_)
  have hc9 := H.cell (u := (I Dy.2.2)) (o' := 2) 0 2 rfl rfl rfl
  refine st_g (v := (I Dy.2.2)) (congrArg some hb7) (rv_load1 Try.underlying3 rfl rfl hc9) (st_g (v := (B (Dx.2.2 == Dy.2.2))) (congrArg some hb7) (rv_eql (a := Dx.2.2) (b := Dy.2.2) rfl rfl) (st (v := (B (Dx.2.2 == Dy.2.2))) (rv_pick_t (congrArg B hb7) rfl) (sm (B (Dx.2.2 == Dy.2.2)) rfl ?_)))
  rcases Bool.eq_false_or_eq_true (Dx.2.2 == Dy.2.2) with hb10 | hb10
  ·replace h := bif_t hb10 h
   refine st_g (v := (pt b1 1)) (congrArg some hb10) (rv_fieldAddr (off := 1) (ft := 24) Try.underlying41 rfl ti24 rfl rfl) ?_
   have hc11 := H.cell (u := (Sl Dz Dx.2.1 Ea)) (o' := 1) 1 1 rfl rfl rfl
   refine st_g (v := (Sl Dz Dx.2.1 Ea)) (congrArg some hb10) (rv_load1 Try.underlying24 rfl rfl hc11) (st_g (v := (pt b3 1)) (congrArg some hb10) (rv_fieldAddr (off := 1) (ft := 24) Try.underlying41 rfl ti24 rfl rfl) ?_)
   have hc12 := H.cell (u := (Sl Eb Dy.2.1 Ec)) (o' := 1) 0 1 rfl rfl rfl
   refine st_g (v := (Sl Eb Dy.2.1 Ec)) (congrArg some hb10) (rv_load1 Try.underlying24 rfl rfl hc12) ?_
   revert h; refine br fun r13 hx14 h => ?_
   have hc15 := c_spec_dist (Et := Dz) (Eu := Ea) (Ev := Eb) (Ew := Ec) hx14
   refine st_call (cx_call hc15 (ent_f hc15.fn rfl) hn0 (H.sel' [2, 3, 0, 1, 2, 3] rfl rfl : Hp S0 σ0 _ ([_, _] ++ _))) (wanted_yes rfl (by exact (congrArg some hb10))) ?_
   rintro _ σ16 ⟨_, ⟨rfl, rfl⟩, H, -⟩
   replace H : Hp _ _ _ [_, _, _, _] := H
   refine st_g (v := (B (r13 == 0))) (congrArg some hb10) (rv_eql (a := r13) (b := 0) rfl rfl) (st (v := (B (r13 == 0))) (rv_pick_t (congrArg B hb10) rfl) (sa (B (r13 == 0)) rfl (w_end (q_then (c_ret ?_)))))
   obtain rfl := sj h
   exact fin_ret (v := (B (r13 == 0))) (results_ok Try.results68 (res_tmp (v := (B (r13 == 0))) rfl res_nil) rfl) ⟨rfl, rfl⟩ (H.sel' [] rfl rfl)
  ·replace h := bif_f hb10 h
   refine st_skip (congrArg some hb10) (st_skip (congrArg some hb10) (st_skip (congrArg some hb10) (st_skip (congrArg some hb10) (st_skip (congrArg some hb10) (st_skip (congrArg some hb10) (st (v := (B false)) (rv_pick_f (congrArg B hb10) rfl) (sa (B false) rfl (w_end (q_then (c_ret ?_))))))))))
   obtain rfl := sj h
   exact fin_ret (v := (B false)) (results_ok Try.results68 (res_tmp (v := (B false)) rfl res_nil) rfl) ⟨rfl, rfl⟩ (H.sel' [] rfl rfl)
 ·replace h := bif_f hb7 h
  refine st_skip (congrArg some hb7) (st_skip (congrArg some hb7) (st_skip (congrArg some hb7) (st_skip (congrArg some hb7) (st_skip (congrArg some hb7) (st (v := (B false)) (rv_pick_f (congrArg B hb7) rfl) (sm (B false) rfl (st_skip rfl (st_skip rfl (st_skip rfl (st_skip rfl (st_skip rfl ?_)))))))))))
  refine st_skip rfl (st (v := (B false)) (rv_pick_f rfl rfl) (sa (B false) rfl (w_end (q_then (c_ret ?_)))))
  obtain rfl := sj h
  exact fin_ret (v := (B false)) (results_ok Try.results68 (res_tmp (v := (B false)) rfl res_nil) rfl) ⟨rfl, rfl⟩ (H.sel' [] rfl rfl)

theorem c_spec_ChangedKeys {Cc : (List (Int × (Int × (List Int) × Int))) × (List Int)} {Ek : Int} {El : Int} {Cd : Option Addr} {Ce : Nat} {Cf : Option Addr} {Cg : Nat} {r : (List Int)} (h : M.spec_ChangedKeys Cc Ek El = some r) :
    Cal2 Try.prog 38 [(.agg #[(Sl Cd Cc.1 Ce), (Sl Cf Cc.2 Cg)]), (I Ek), (I El)] [Ch.ro 0 (Sl Cd Cc.1 Ce) Cc.1, Ch.ro 0 (Sl Cf Cc.2 Cg) Cc.2] (fun n0 v L => ∃ (az1 : Option Addr), ∃ (cz2 : Nat), v = (Sl az1 r cz2) ∧ L = [Ch.own n0 n0 (Sl az1 r cz2) r]) := by
 refine cal2 (n := 73) Try.func38 rfl rfl rfl rfl ?_
 intro S0 σ0 n0 hn0 H
 unfold M.spec_ChangedKeys at h
 refine c_seq (rg (st_ex (ex_box (cs := [(Sl Cd Cc.1 Ce), (Sl Cf Cc.2 Cg)]) H hn0 rfl rfl) wn ?_))
 rintro _ σ2 ⟨b1, rfl, H, -⟩
 refine sa (.slice none 0 0) rfl (w_end (q_then (c_seq (rg ?_))))
 refine st_ex (ex_buildSlice (el := n0) (xs := ([] : List Int)) (ps := []) (cs := []) H hn0 Try.underlying24 ti3 rfl rfl (by kernel_rfl) (.nil) rfl) wn ?_
 rintro _ σ4 ⟨b3, rfl, H, -⟩
 refine sa (Sl (some ⟨b3, 0, none⟩) ([] : List Int) 0) rfl (w_end (q_then (c_seq (c_seq ?_))))
 obtain ⟨o5, hj, h'⟩ := bind_some h
 clear h
 refine c_cut (fun e a w => e = .normal ∧ ∃ (ρ : Nat → Value) (σ : St), a = fr 73 (updL ρ [(1, (I Ek)), (2, (I El)), (3, (pt b1 0)), (7, (Sl (some ⟨b3, 0, none⟩) ([] : List Int) 0)), (26, (B o5))]) ∧ w = σ.w ∧ Hp S0 σ0 σ [Ch.ro 0 (Sl Cd Cc.1 Ce) Cc.1, Ch.ro 0 (Sl Cf Cc.2 Cg) Cc.2, Ch.bx n0 b1 0 [(Sl Cd Cc.1 Ce), (Sl Cf Cc.2 Cg)] [] [], Ch.own n0 n0 (Sl (some ⟨b3, 0, none⟩) ([] : List Int) 0) ([] : List Int)]) ?_ ?_
 ·clear h'
  rename _ = some o5 => h
  refine rg ?_
  have hc6 := H.cells 1 rfl
  refine st (v := (.agg #[(Sl Cd Cc.1 Ce), (Sl Cf Cc.2 Cg)])) (rv_load (cs := [(Sl Cd Cc.1 Ce), (Sl Cf Cc.2 Cg)]) Try.underlying26 rfl ti26 rfl rfl hc6) ?_
  revert h; refine br fun r7 hx8 h => ?_
  have hc9 := c_spec_validHistory (Cd := Cd) (Ce := Ce) (Cf := Cf) (Cg := Cg) hx8
  refine st_call (cx_call hc9 (ent_f hc9.fn rfl) hn0 (H.sel' [2, 3, 0, 1, 2, 3] rfl rfl : Hp S0 σ0 _ ([_, _] ++ _))) wn ?_
  rintro _ σ10 ⟨_, ⟨rfl, rfl⟩, H, -⟩
  replace H : Hp _ _ _ [_, _, _, _] := H
  refine st (v := (B (!r7))) (rv_not rfl) (sm (B (!r7)) rfl ?_)
  rcases Bool.eq_false_or_eq_true (!r7) with hb11 | hb11
  ·replace h := bif_t hb11 h
   refine st_skip (congrArg some hb11) (st_skip (congrArg some hb11) (st_skip (congrArg some hb11) (st (v := (B true)) (rv_pick_t (congrArg B hb11) rfl) (sm (B true) rfl (st_skip rfl (st_skip rfl (st_skip rfl (st (v := (B true)) (rv_pick_t rfl rfl) (w_end ?_)))))))))
   obtain rfl := sj h
   exact ⟨rfl, _, σ10, fr_join ⟨rfl, rfl, rfl, rfl, rfl, trivial⟩, rfl, H.sel' [2, 3, 1, 0] rfl rfl⟩
  ·replace h := bif_f hb11 h
   refine st_g (v := (I Ek)) (congrArg some hb11) (rv_move rfl) ?_
   revert h; refine br fun r12 hx13 h => ?_
   have hc14 := c_spec_inRange hx13
   refine st_call (cx_call hc14 (ent_f hc14.fn rfl) hn0 (H.sel' [0, 1, 2, 3] rfl rfl : Hp S0 σ0 _ ([] ++ _))) (wanted_yes rfl (by exact (congrArg some hb11))) ?_
   rintro _ σ15 ⟨_, ⟨rfl, rfl⟩, H, -⟩
   replace H : Hp _ _ _ [_, _, _, _] := H
   refine st_g (v := (B (!r12))) (congrArg some hb11) (rv_not rfl) (st (v := (B (!r12))) (rv_pick_f (congrArg B hb11) rfl) (sm (B (!r12)) rfl ?_))
   rcases Bool.eq_false_or_eq_true (!r12) with hb16 | hb16
   ·replace h := bif_t hb16 h
    refine st_skip (congrArg some hb16) (st_skip (congrArg some hb16) (st_skip (congrArg some hb16) (st (v := (B true)) (rv_pick_t (congrArg B hb16) rfl) (w_end ?_))))
    obtain rfl := sj h
    exact ⟨rfl, _, σ15, fr_join ⟨rfl, rfl, rfl, rfl, rfl, trivial⟩, rfl, H.sel' [2, 3, 1, 0] rfl rfl⟩
   ·replace h := bif_f hb16 h
    refine st_g (v := (I El)) (congrArg some hb16) (rv_move rfl) ?_
    revert h; refine br fun r17 hx18 h => ?_
    have hc19 := c_spec_inRange hx18
    refine st_call (cx_call hc19 (ent_f hc19.fn rfl) hn0 (H.sel' [0, 1, 2, 3] rfl rfl : Hp S0 σ0 _ ([] ++ _))) (wanted_yes rfl (by exact (congrArg some hb16))) ?_
    rintro _ σ20 ⟨_, ⟨rfl, rfl⟩, H, -⟩
    replace H : Hp _ _ _ [_, _, _, _] := H
    refine st_g (v := (B (!r17))) (congrArg some hb16) (rv_not rfl) (st (v := (B (!r17))) (rv_pick_f (congrArg B hb16) rfl) (w_end ?_))
    obtain rfl := sj h
    exact ⟨rfl, _, σ20, fr_join ⟨rfl, rfl, rfl, rfl, rfl, trivial⟩, rfl, H.sel' [2, 3, 1, 0] rfl rfl⟩
 ·clear hj
  have h := h'
  clear h' H
  rintro e a w ⟨rfl, ρ, σ21, rfl, rfl, H⟩
  refine q_then ?_
  refine cd_cond o5 rfl (fun hb22 => ?_) (fun hb22 => ?_)
  ·replace h := bif_t hb22 h
   refine c_seq (rg (sa (.slice none 0 0) rfl (w_end (q_then (c_ret (q_then_r ?_))))))
   replace H := H.nilOwn Int n0 n0
   obtain rfl := sj h
   exact fin_ret (v := (.slice none 0 0)) (results_ok Try.results38 (res_tmp (v := (.slice none 0 0)) rfl res_nil) rfl) ⟨none, 0, rfl, rfl⟩ (H.sel' [0] rfl rfl)
  ·replace h := bif_f hb22 h
   refine c_skip (q_then (c_seq (rg ?_)))
   have hc23 := H.cells 2 rfl
   refine st (v := (.agg #[(Sl Cd Cc.1 Ce), (Sl Cf Cc.2 Cg)])) (rv_load (cs := [(Sl Cd Cc.1 Ce), (Sl Cf Cc.2 Cg)]) Try.underlying26 rfl ti26 rfl rfl hc23) (sm (I Ek) rfl ?_)
   revert h; refine br fun r24 hx25 h => ?_
   have hc26 := c_spec_StoreAt (Cd := Cd) (Ce := Ce) (Cf := Cf) (Cg := Cg) hx25
   refine st_call (cx_call hc26 (ent_f hc26.fn rfl) hn0 (H.sel' [0, 1, 0, 1, 2, 3] rfl rfl : Hp S0 σ0 _ ([_, _] ++ _))) wn ?_
   rintro _ σ29 ⟨_, ⟨a27, c28, rfl, rfl⟩, H, -⟩
   replace H : Hp _ _ _ [_, _, _, _, _] := H
   refine sa (Sl a27 r24 c28) rfl (w_end (q_then (c_seq (rg ?_))))
   have hc30 := H.cells 3 rfl
   refine st (v := (.agg #[(Sl Cd Cc.1 Ce), (Sl Cf Cc.2 Cg)])) (rv_load (cs := [(Sl Cd Cc.1 Ce), (Sl Cf Cc.2 Cg)]) Try.underlying26 rfl ti26 rfl rfl hc30) (sm (I El) rfl ?_)
   revert h; refine br fun r31 hx32 h => ?_
   have hc33 := c_spec_StoreAt (Cd := Cd) (Ce := Ce) (Cf := Cf) (Cg := Cg) hx32
   refine st_call (cx_call hc33 (ent_f hc33.fn rfl) hn0 (H.sel' [1, 2, 0, 1, 2, 3, 4] rfl rfl : Hp S0 σ0 _ ([_, _] ++ _))) wn ?_
   rintro _ σ36 ⟨_, ⟨a34, c35, rfl, rfl⟩, H, -⟩
   replace H : Hp _ _ _ [_, _, _, _, _, _] := H
   refine sa (Sl a34 r31 c35) rfl (w_end (q_then (c_seq (c_seq (rg (sa (I 1) rfl (w_end (q_then ?_))))))))
   obtain ⟨o37, hj, h'⟩ := bind_some h
   clear h
   refine c_cut (fun e a w => e = .normal ∧ ∃ (ρ : Nat → Value) (σ : St) (aj1 : Option Addr) (cj2 : Nat), a = fr 73 (updL ρ [(7, (Sl aj1 o37 cj2))]) ∧ w = σ.w ∧ Hp S0 σ0 σ [Ch.own n0 n0 (Sl aj1 o37 cj2) o37]) ?_ ?_
   ·clear h'
    rename _ = some o37 => h
    refine c_blk (wp_loopM _ h (fun s38 a w => ∃ (ρ : Nat → Value) (σ : St) (aj1 : Option Addr) (cj2 : Nat), a = fr 73 (updL ρ [(7, (Sl aj1 s38.1 cj2)), (8, (Sl a27 r24 c28)), (9, (Sl a34 r31 c35)), (10, (I s38.2))]) ∧ w = σ.w ∧ Hp S0 σ0 σ [Ch.own n0 n0 (Sl aj1 s38.1 cj2) s38.1, Ch.own n0 n0 (Sl a27 r24 c28) r24, Ch.own n0 n0 (Sl a34 r31 c35) r31]) ⟨_, σ36, (some ⟨b3, 0, none⟩), 0, fr_join ⟨rfl, rfl, rfl, rfl, trivial⟩, rfl, H.sel' [5, 1, 0] rfl rfl⟩ ?_)
    clear h H
    rintro s38 a w o ⟨ρ, σ39, a40, c41, rfl, rfl, H⟩ h hres
    refine c_seq (c_seq (rg (sm (I s38.2) rfl (st (v := (B (decide (s38.2 ≤ 99)))) (rv_leq (a := s38.2) (b := 99) rfl rfl) (w_end (q_then ?_))))))
    refine cd_cond (decide (s38.2 ≤ 99)) rfl (fun hb42 => ?_) (fun hb42 => ?_)
    ·replace h := bif_t hb42 h
     refine c_skip (q_then (c_seq ?_))
     obtain ⟨o43, hj, h'⟩ := bind_some h
     clear h
     refine c_cut (fun e a w => e = .normal ∧ ∃ (ρ : Nat → Value) (σ : St) (aj1 : Option Addr) (cj2 : Nat), a = fr 73 (updL ρ [(7, (Sl aj1 o43 cj2)), (8, (Sl a27 r24 c28)), (9, (Sl a34 r31 c35)), (10, (I s38.2))]) ∧ w = σ.w ∧ Hp S0 σ0 σ [Ch.own n0 n0 (Sl aj1 o43 cj2) o43, Ch.own n0 n0 (Sl a27 r24 c28) r24, Ch.own n0 n0 (Sl a34 r31 c35) r31]) ?_ ?_
     ·clear h'
      rename _ = some o43 => h
      refine c_blk (c_seq (rg (sm (Sl a27 r24 c28) rfl (sm (I s38.2) rfl ?_))))
      revert h; refine br fun r44 hx45 h => ?_
      have hc46 := c_spec_keyAt (Ap := a27) (Aq := c28) hx45
      have hle := Nat.le_trans hn0 H.size
      refine st_call (cx_lend (Loan.lend Loan.nil) hc46 (ent_f hc46.fn rfl) (show Hp S0 σ0 _ ([Ch.own n0 n0 (Sl a27 r24 c28) r24] ++ ([] ++ [Ch.own n0 n0 (Sl a40 s38.1 c41) s38.1, Ch.own n0 n0 (Sl a34 r31 c35) r31])) from (H.sel' [1, 0, 2] rfl rfl)) (by rintro _ _ _ ⟨rfl, rfl⟩; exact trivial)) wn ?_
      rintro _ σ47 ⟨_, ⟨rfl, rfl⟩, H, -, -⟩
      replace H : Hp _ _ _ [_, _, _] := H
      clear hle
      replace H : Hp _ _ _ [_, _, _] := H
      refine sa (I r44) rfl (w_end (q_then (c_seq (rg (sm (Sl a34 r31 c35) rfl (sm (I s38.2) rfl ?_))))))
      revert h; refine br fun r48 hx49 h => ?_
      have hc50 := c_spec_keyAt (Ap := a34) (Aq := c35) hx49
      have hle := Nat.le_trans hn0 H.size
      refine st_call (cx_lend (Loan.lend Loan.nil) hc50 (ent_f hc50.fn rfl) (show Hp S0 σ0 _ ([Ch.own n0 n0 (Sl a34 r31 c35) r31] ++ ([] ++ [Ch.own n0 n0 (Sl a27 r24 c28) r24, Ch.own n0 n0 (Sl a40 s38.1 c41) s38.1])) from (H.sel' [2, 0, 1] rfl rfl)) (by rintro _ _ _ ⟨rfl, rfl⟩; exact trivial)) wn ?_
      rintro _ σ51 ⟨_, ⟨rfl, rfl⟩, H, -, -⟩
      replace H : Hp _ _ _ [_, _, _] := H
      clear hle
      replace H : Hp _ _ _ [_, _, _] := H
      refine sa (I r48) rfl (w_end (q_then (c_seq ?_)))
      obtain ⟨o52, hj, h'⟩ := bind_some h
      clear h
      refine c_cut (fun e a w => e = .normal ∧ ∃ (ρ : Nat → Value) (σ : St), a = fr 73 (updL ρ [(7, (Sl a40 s38.1 c41)), (8, (Sl a27 r24 c28)), (9, (Sl a34 r31 c35)), (10, (I s38.2)), (67, (B o52))]) ∧ w = σ.w ∧ Hp S0 σ0 σ [Ch.own n0 n0 (Sl a40 s38.1 c41) s38.1, Ch.own n0 n0 (Sl a27 r24 c28) r24, Ch.own n0 n0 (Sl a34 r31 c35) r31]) ?_ ?_
      ·clear h'
       rename _ = some o52 => h
       refine rgP (σ := σ51) 21 (by kernel_rfl) (by kernel_rfl) (by kernel_rfl) ?_
       refine sq (v := (I r44)) (rv_move rfl) (sq (v := (B (decide (r44 < 0)))) (rv_lss (a := r44) (b := 0) rfl rfl) (sq (v := (I r48)) (rv_move rfl) (sq (v := (B (decide (r48 < 0)))) (rv_lss (a := r48) (b := 0) rfl rfl) (sq (v := (B ((decide (r44 < 0)) != (decide (r48 < 0))))) (rv_bneq Try.underlying4 rfl rfl) (sq (v := (B ((decide (r44 < 0)) != (decide (r48 < 0))))) (rv_move rfl) ?_)))))
       rcases Bool.eq_false_or_eq_true ((decide (r44 < 0)) != (decide (r48 < 0))) with hb53 | hb53
       ·replace h := bif_t hb53 h
        refine sq_skip (congrArg some hb53) (sq_skip (congrArg some hb53) (sq_skip (congrArg some hb53) (sq_skip_u rfl (sq_skip_u rfl (sq_skip (congrArg some hb53) (sq_skip (congrArg some hb53) (sq_skip_u rfl (sq_skip_u rfl (sq_skip_u rfl (sq_skip_u rfl (sq_skip_u rfl ?_)))))))))))
        refine sq_skip_u rfl (sq_skip_u rfl (sq_skip_u rfl (sq_end ?_)))
        intro σ54 hm55
        replace H := H.grow (hm55.mono fun _ h => h); clear hm55
        refine st_skip_u rfl (st_skip_u rfl (st_skip (congrArg some hb53) (st (v := (B true)) (rv_pick_t (congrArg B hb53) rfl) (w_end ?_))))
        obtain rfl := sj h
        exact ⟨rfl, _, σ54, fr_join ⟨rfl, rfl, rfl, rfl, rfl, trivial⟩, rfl, H.sel' [2, 1, 0] rfl rfl⟩
       ·replace h := bif_f hb53 h
        refine sq_g (v := (I r44)) (congrArg some hb53) (rv_move rfl) (sq_g (v := (B (decide (0 ≤ r44)))) (congrArg some hb53) (rv_geq (a := r44) (b := 0) rfl rfl) (sq_g (v := (B (decide (0 ≤ r44)))) (congrArg some hb53) (rv_move rfl) ?_))
        rcases Bool.eq_false_or_eq_true (decide (0 ≤ r44)) with hb56 | hb56
        ·replace h := bif_t hb56 h
         refine sq_g (v := (I r48)) (congrArg some hb56) (rv_move rfl) (sq_g (v := (B (decide (0 ≤ r48)))) (congrArg some hb56) (rv_geq (a := r48) (b := 0) rfl rfl) (sq_g (v := (B (decide (0 ≤ r48)))) (congrArg some hb53) (rv_pick_t (congrArg B hb56) rfl) (sq_g (v := (B (decide (0 ≤ r48)))) (congrArg some hb53) (rv_move rfl) ?_)))
         rcases Bool.eq_false_or_eq_true (decide (0 ≤ r48)) with hb57 | hb57
         ·replace h := bif_t hb57 h
          refine sq_g (v := (Sl a27 r24 c28)) (congrArg some hb57) (rv_move rfl) (sq_g (v := (I r44)) (congrArg some hb57) (rv_move rfl) ?_)
          revert h; refine br fun x58 hx59 h => ?_
          obtain ⟨b61, o62, hi60, -⟩ := (H.own 1 rfl).ix hx59
          refine sq_g (v := (pt b61 o62)) (congrArg some hb57) (rv_ix Try.underlying33 ti41 rfl rfl hi60) ?_
          obtain ⟨_, ⟨_, _, rfl, rfl, ⟨_, _, rfl, ⟨_, rfl, hR67⟩, rfl⟩⟩, hl63, hc64⟩ := ((H.own 1 rfl).at hx59 hi60).cells
          obtain ⟨a65, c66, rfl⟩ := hR67.isSl
          replace H := H.add (d := Ch.ro n0 (Sl a65 x58.2.1 c66) x58.2.1) hR67 (fun _ h => h)
          clear hR67
          refine sq_g (v := (.agg #[(I x58.1), (Sl a65 x58.2.1 c66), (I x58.2.2)])) (congrArg some hb57) (rv_load Try.underlying41 rfl ti41 rfl hl63 hc64) (sq_g (v := (Sl a34 r31 c35)) (congrArg some hb57) (rv_move rfl) (sq_g (v := (I r48)) (congrArg some hb57) (rv_move rfl) ?_))
          revert h; refine br fun x68 hx69 h => ?_
          obtain ⟨b71, o72, hi70, -⟩ := (H.own 1 rfl).ix hx69
          refine sq_g (v := (pt b71 o72)) (congrArg some hb57) (rv_ix Try.underlying33 ti41 rfl rfl hi70) ?_
          obtain ⟨_, ⟨_, _, rfl, rfl, ⟨_, _, rfl, ⟨_, rfl, hR77⟩, rfl⟩⟩, hl73, hc74⟩ := ((H.own 1 rfl).at hx69 hi70).cells
          obtain ⟨a75, c76, rfl⟩ := hR77.isSl
          replace H := H.add (d := Ch.ro n0 (Sl a75 x68.2.1 c76) x68.2.1) hR77 (fun _ h => h)
          clear hR77
          refine sq_g (v := (.agg #[(I x68.1), (Sl a75 x68.2.1 c76), (I x68.2.2)])) (congrArg some hb57) (rv_load Try.underlying41 rfl ti41 rfl hl73 hc74) (sq_end ?_)
          intro σ78 hm79
          replace H := H.grow (hm79.mono fun _ h => h); clear hm79
          replace H := H.roLow 1 0 rfl (Nat.zero_le _)
          replace H := H.roLow 1 0 rfl (Nat.zero_le _)
          revert h; refine br fun r80 hx81 h => ?_
          have hc82 := c_spec_sameItem (Dz := a65) (Ea := c66) (Eb := a75) (Ec := c76) hx81
          refine st_call (cx_call hc82 (ent_f hc82.fn rfl) hn0 (H.sel' [1, 0, 0, 1, 2, 3, 4, 5, 6] rfl rfl : Hp S0 σ0 _ ([_, _] ++ _))) (wanted_yes rfl (by exact (congrArg some hb57))) ?_
          rintro _ σ83 ⟨_, ⟨rfl, rfl⟩, H, -⟩
          replace H : Hp _ _ _ [_, _, _, _, _, _, _] := H
          refine st_g (v := (B (!r80))) (congrArg some hb57) (rv_not rfl) (st_g (v := (B (!r80))) (congrArg some hb53) (rv_pick_t (congrArg B hb57) rfl) (st (v := (B (!r80))) (rv_pick_f (congrArg B hb53) rfl) (w_end ?_)))
          obtain rfl := sj h
          exact ⟨rfl, _, σ83, fr_join ⟨rfl, rfl, rfl, rfl, rfl, trivial⟩, rfl, H.sel' [6, 5, 4] rfl rfl⟩
         ·replace h := bif_f hb57 h
          refine sq_skip (congrArg some hb57) (sq_skip (congrArg some hb57) (sq_skip (congrArg some hb57) (sq_skip (congrArg some hb57) (sq_skip (congrArg some hb57) (sq_skip (congrArg some hb57) (sq_skip (congrArg some hb57) (sq_skip (congrArg some hb57) (sq_end ?_))))))))
          intro σ84 hm85
          replace H := H.grow (hm85.mono fun _ h => h); clear hm85
          refine st_skip (congrArg some hb57) (st_skip (congrArg some hb57) (st_g (v := (B false)) (congrArg some hb53) (rv_pick_f (congrArg B hb57) rfl) (st (v := (B false)) (rv_pick_f (congrArg B hb53) rfl) (w_end ?_))))
          obtain rfl := sj h
          exact ⟨rfl, _, σ84, fr_join ⟨rfl, rfl, rfl, rfl, rfl, trivial⟩, rfl, H.sel' [2, 1, 0] rfl rfl⟩
        ·replace h := bif_f hb56 h
         refine sq_skip (congrArg some hb56) (sq_skip (congrArg some hb56) (sq_g (v := (B false)) (congrArg some hb53) (rv_pick_f (congrArg B hb56) rfl) (sq_g (v := (B false)) (congrArg some hb53) (rv_move rfl) (sq_skip rfl (sq_skip rfl (sq_skip rfl (sq_skip rfl (sq_skip rfl (sq_skip rfl (sq_skip rfl (sq_skip rfl ?_)))))))))))
         refine sq_end ?_
         intro σ86 hm87
         replace H := H.grow (hm87.mono fun _ h => h); clear hm87
         refine st_skip rfl (st_skip rfl (st_g (v := (B false)) (congrArg some hb53) (rv_pick_f rfl rfl) (st (v := (B false)) (rv_pick_f (congrArg B hb53) rfl) (w_end ?_))))
         obtain rfl := sj h
         exact ⟨rfl, _, σ86, fr_join ⟨rfl, rfl, rfl, rfl, rfl, trivial⟩, rfl, H.sel' [2, 1, 0] rfl rfl⟩
      ·clear hj
       have h := h'
       clear h' H
       rintro e a w ⟨rfl, ρ, σ88, rfl, rfl, H⟩
       refine q_then ?_
       refine cd_cond o52 rfl (fun hb89 => ?_) (fun hb89 => ?_)
       ·replace h := bif_t hb89 h
        refine rg (sm (Sl a40 s38.1 c41) rfl (sm (I s38.2) rfl ?_))
        refine st_ex (ex_buildSlice (el := n0) (xs := ([s38.2] : List Int)) (ps := [(0, (I s38.2))]) (cs := [(I s38.2)]) H hn0 Try.underlying24 ti3 rfl rfl (by kernel_rfl) (.cons (c := [(I s38.2)]) rfl (.nil)) rfl) wn ?_
        rintro _ σ91 ⟨b90, rfl, H, -⟩
        revert h; refine br fun xs92 hx93 h => ?_
        refine st_ex (ex_append H (i := 1) rfl Try.underlying24 Try.underlying24 ti3 rfl rfl (by decide) (H.own 0 rfl).rd hx93 hn0 rfl rfl) wn ?_
        rintro _ σ96 ⟨a94, c95, rfl, H, -⟩
        refine sa (Sl a94 xs92 c95) rfl (w_end (q_blk ?_))
        obtain rfl := sj h
        exact ⟨rfl, _, σ96, a94, c95, fr_join ⟨rfl, rfl, rfl, rfl, trivial⟩, rfl, H.sel' [0, 2, 3] rfl rfl⟩
       ·replace h := bif_f hb89 h
        refine c_skip (q_blk ?_)
        obtain rfl := sj h
        exact ⟨rfl, _, σ88, a40, c41, fr_join ⟨rfl, rfl, rfl, rfl, trivial⟩, rfl, H.sel' [0, 1, 2] rfl rfl⟩
     ·clear hj
      have h := h'
      clear h' H
      rintro e a w ⟨rfl, ρ, σ97, a98, c99, rfl, rfl, H⟩
      refine q_then (rg (sm (I s38.2) rfl (st (v := (I (w64 (s38.2 + 1)))) (rv_add (a := s38.2) (b := 1) rfl rfl) (sa (I (w64 (s38.2 + 1))) rfl (w_end (q_then ?_))))))
      obtain rfl := sj h
      exact ⟨_, rfl, _, σ97, a98, c99, fr_join ⟨rfl, rfl, rfl, rfl, trivial⟩, rfl, H.sel' [0, 1, 2] rfl rfl⟩
    ·replace h := bif_f hb42 h
     refine c_exit (q_then_x (q_then_x (q_blk_hit ?_)))
     obtain rfl := sj h
     obtain rfl := hres _ rfl
     exact ⟨rfl, _, σ39, a40, c41, fr_join ⟨rfl, trivial⟩, rfl, H.sel' [0] rfl rfl⟩
   ·clear hj
    have h := h'
    clear h' H
    rintro e a w ⟨rfl, ρ, σ100, a101, c102, rfl, rfl, H⟩
    refine q_then (c_seq (rg (sm (Sl a101 o37 c102) rfl (sa (Sl a101 o37 c102) rfl (w_end (q_then (c_ret ?_)))))))
    obtain rfl := sj h
    exact fin_ret (v := (Sl a101 o37 c102)) (results_ok Try.results38 (res_tmp (v := (Sl a101 o37 c102)) rfl res_nil) rfl) ⟨a101, c102, rfl, rfl⟩ (H.sel' [0] rfl rfl)

theorem c_impl_dropChange_entry {Bi : Int}  {r : (Int × (Int × (List Int) × Int))} (h : M.impl_dropChange_entry Bi = some r) :
    Cal2 Try.prog 69 [(.agg #[(I Bi)])] [] (fun n0 v L => v = (.agg #[(I r.1), (I r.2.1), (.slice none 0 0), (I r.2.2.2)]) ∧ L = []) := by
 refine cal2 (n := 7) Try.func69 rfl rfl rfl rfl ?_
 intro S0 σ0 n0 hn0 H
 unfold M.impl_dropChange_entry at h
 refine c_seq (rg (st_ex (ex_box (cs := [(I Bi)]) H hn0 rfl rfl) wn ?_))
 rintro _ σ2 ⟨b1, rfl, H, -⟩
 refine st_ex (ex_alloc (cs := [(I 0), (I 0), (.slice none 0 0), (I 0)]) H hn0 ti43 rfl) wn ?_
 rintro _ σ4 ⟨b3, rfl, H, -⟩
 refine w_end (q_then (c_seq (rg (st (v := (pt b1 0)) (rv_fieldAddr (off := 0) (ft := 3) Try.underlying94 rfl ti3 rfl rfl) ?_))))
 have hc5 := H.cell (u := (I Bi)) (o' := 0) 1 0 rfl rfl rfl
 refine st (v := (I Bi)) (rv_load1 Try.underlying3 rfl rfl hc5) ?_
 refine st (v := (.agg #[(I Bi), (.slice none 0 0), (I 0)])) (rv_build (ps := [(0, (I Bi))]) Try.underlying41 ti41 (bp41 Try.underlying41) rfl (by kernel_rfl)) ?_
 refine st (v := (.agg #[(I 2), (I Bi), (.slice none 0 0), (I 0)])) (rv_build (ps := [(0, (I 2)), (1, (.agg #[(I Bi), (.slice none 0 0), (I 0)]))]) Try.underlying43 ti43 (bp43 Try.underlying43) rfl (by kernel_rfl)) ?_
 refine st_exS (ex_store_box (k := 0) (cs := [(I 0), (I 0), (.slice none 0 0), (I 0)]) (vs := [(I 2), (I Bi), (.slice none 0 0), (I 0)]) (cs' := [(I 2), (I Bi), (.slice none 0 0), (I 0)]) H (i := 0) rfl ti43 rfl rfl rfl rfl rfl (Nat.le_of_ble_eq_true rfl) (by simp [plain]) rfl) wn ?_
 rintro σ6 ⟨H, -⟩
 refine w_end (q_then (c_ret ?_))
 obtain rfl := sj h
 exact fin_ret (v := (.agg #[(I 2), (I Bi), (.slice none 0 0), (I 0)])) (results_ok Try.results69 (res_cell rfl (run_cellRes (cs := [(I 2), (I Bi), (.slice none 0 0), (I 0)]) Try.underlying43 rfl ti43 rfl (H.cells 0 rfl)) res_nil) rfl) ⟨rfl, rfl⟩ (H.sel' [] rfl rfl)

theorem c_impl_hasItem_1__p_impl_Item {Ey : Int × (List Int) × Int} {Ez : Int × (List Int) × Int} {Fa : Option Addr} {Fb : Nat} {Fc : Option Addr} {Fd : Nat} {Fe Ff Fg : Nat} {Fh Fi : List Value} {r : Bool} (h : M.impl_hasItem_1__p_impl_Item Ey Ez = some r) :
    Cal2 Try.prog 100 [(.agg #[(I Ey.1), (Sl Fa Ey.2.1 Fb), (I Ey.2.2)]), (pt Ff Fg)] [Ch.ro 0 (Sl Fa Ey.2.1 Fb) Ey.2.1, Ch.bx Fe Ff Fg [(I Ez.1), (Sl Fc Ez.2.1 Fd), (I Ez.2.2)] Fh Fi, Ch.ro 0 (Sl Fc Ez.2.1 Fd) Ez.2.1] (fun n0 v L => v = (B r) ∧ L = [Ch.bx Fe Ff Fg [(I Ez.1), (Sl Fc Ez.2.1 Fd), (I Ez.2.2)] Fh Fi]) := by
 refine cal2 (n := 7) Try.func100 rfl rfl rfl rfl ?_
 intro S0 σ0 n0 hn0 H
 unfold M.impl_hasItem_1__p_impl_Item at h
 refine c_seq (rg (st_ex (ex_box (cs := [(I Ey.1), (Sl Fa Ey.2.1 Fb), (I Ey.2.2)]) H hn0 rfl rfl) wn ?_))
 rintro _ σ2 ⟨b1, rfl, H, -⟩
 refine sa (B false) rfl (w_end (q_then (c_seq (rg ?_))))
 have hc3 := H.cells 2 rfl
 refine st (v := (.agg #[(I Ez.1), (Sl Fc Ez.2.1 Fd), (I Ez.2.2)])) (rv_load (cs := [(I Ez.1), (Sl Fc Ez.2.1 Fd), (I Ez.2.2)]) Try.underlying41 rfl ti41 rfl rfl hc3) ?_
 have hc4 := H.cells 0 rfl
 refine st (v := (.agg #[(I Ey.1), (Sl Fa Ey.2.1 Fb), (I Ey.2.2)])) (rv_load (cs := [(I Ey.1), (Sl Fa Ey.2.1 Fb), (I Ey.2.2)]) Try.underlying41 rfl ti41 rfl rfl hc4) ?_
 revert h; refine br fun r5 hx6 h => ?_
 have hc7 := c_impl_equalItems (Dz := Fc) (Ea := Fd) (Eb := Fa) (Ec := Fb) hx6
 refine st_call (cx_call hc7 (ent_f hc7.fn rfl) hn0 (H.sel' [3, 1, 0, 1, 2, 3] rfl rfl : Hp S0 σ0 _ ([_, _] ++ _))) wn ?_
 rintro _ σ8 ⟨_, ⟨rfl, rfl⟩, H, -⟩
 replace H : Hp _ _ _ [_, _, _, _] := H
 refine sa (B r5) rfl (w_end (q_then (c_ret ?_)))
 obtain rfl := sj h
 exact fin_ret (v := (B r5)) (results_ok Try.results100 (res_tmp (v := (B r5)) rfl res_nil) rfl) ⟨rfl, rfl⟩ (H.sel' [2] rfl rfl)

theorem c_slices_IndexFunc_impl_Item_impl_Item__impl_hasItem_1 {Ay : List (Int × (List Int) × Int)} {Fj : Int × (List Int) × Int} {Az : Option Addr} {Ba : Nat} {Fk : Option Addr} {Fl : Nat} {Fm Fn Fo : Nat} {Fp Fq : List Value} {r : Int} (h : M.slices_IndexFunc_impl_Item_impl_Item__impl_hasItem_1 Ay Fj = some r) :
    Cal2 Try.prog 114 [(Sl Az Ay Ba), (.func (.func 100) #[] #[(pt Fn Fo)])] [Ch.ro 0 (Sl Az Ay Ba) Ay, Ch.bx Fm Fn Fo [(I Fj.1), (Sl Fk Fj.2.1 Fl), (I Fj.2.2)] Fp Fq, Ch.ro 0 (Sl Fk Fj.2.1 Fl) Fj.2.1] (fun n0 v L => v = (I r) ∧ L = [Ch.bx Fm Fn Fo [(I Fj.1), (Sl Fk Fj.2.1 Fl), (I Fj.2.2)] Fp Fq]) := by
 refine cal2 (n := 19) Try.func114 rfl rfl rfl rfl ?_
 intro S0 σ0 n0 hn0 H
 unfold M.slices_IndexFunc_impl_Item_impl_Item__impl_hasItem_1 at h
 refine c_seq (rg (sa (I 0) rfl (w_end (q_then (c_seq (c_seq (rg (sm (Sl Az Ay Ba) rfl (st (v := (I (Ay.length : Int))) (rv_len Try.underlying33 rfl) (sm (I 0) rfl (w_end ?_)))))))))))
 refine q_then ?_
 obtain ⟨o1, hj, h'⟩ := bind_some h
 clear h
 refine c_cut (fun e a w => (∃ t, o1 = (.inl t) ∧ e = .normal ∧ ∃ (ρ : Nat → Value) (σ : St), a = fr 19 (updL ρ [(1, (.func (.func 100) #[] #[(pt Fn Fo)]))]) ∧ w = σ.w ∧ Hp S0 σ0 σ [Ch.ro 0 (Sl Fk Fj.2.1 Fl) Fj.2.1, Ch.bx Fm Fn Fo [(I Fj.1), (Sl Fk Fj.2.1 Fl), (I Fj.2.2)] Fp Fq]) ∨ (∃ t, o1 = (.inr t) ∧ e = .ret ∧ ∃ (ρ : Nat → Value) (σ : St), a = fr 19 (updL ρ [(1, (.func (.func 100) #[] #[(pt Fn Fo)])), (4, (I t))]) ∧ w = σ.w ∧ Hp S0 σ0 σ [Ch.ro 0 (Sl Fk Fj.2.1 Fl) Fj.2.1, Ch.bx Fm Fn Fo [(I Fj.1), (Sl Fk Fj.2.1 Fl), (I Fj.2.2)] Fp Fq])) ?_ ?_
 ·clear h'
  rename _ = some o1 => h
  refine c_blk (wp_loopM _ h (fun s2 a w => ∃ (ρ : Nat → Value) (σ : St), a = fr 19 (updL ρ [(0, (Sl Az Ay Ba)), (1, (.func (.func 100) #[] #[(pt Fn Fo)])), (7, (I (Ay.length : Int))), (8, (I s2))]) ∧ w = σ.w ∧ Hp S0 σ0 σ [Ch.ro 0 (Sl Az Ay Ba) Ay, Ch.ro 0 (Sl Fk Fj.2.1 Fl) Fj.2.1, Ch.bx Fm Fn Fo [(I Fj.1), (Sl Fk Fj.2.1 Fl), (I Fj.2.2)] Fp Fq]) ⟨_, σ0, fr_join ⟨rfl, rfl, rfl, rfl, trivial⟩, rfl, H.sel' [0, 2, 1] rfl rfl⟩ ?_)
  clear h H
  rintro s2 a w o ⟨ρ, σ3, rfl, rfl, H⟩ h hres
  refine c_seq (rg (st (v := (B (decide (s2 < (Ay.length : Int))))) (rv_lss (a := s2) (b := (Ay.length : Int)) rfl rfl) (w_end (q_then (c_seq ?_)))))
  refine cd_cond (decide (s2 < (Ay.length : Int))) rfl (fun hb4 => ?_) (fun hb4 => ?_)
  ·replace h := bif_t hb4 h
   refine c_skip (q_then (c_seq (c_blk (c_seq (rg (sm (I s2) rfl (sa (I s2) rfl (w_end (q_then (c_seq (rg ?_)))))))))))
   refine sm (.func (.func 100) #[] #[(pt Fn Fo)]) rfl (sm (Sl Az Ay Ba) rfl (sm (I s2) rfl ?_))
   revert h; refine br fun x5 hx6 h => ?_
   obtain ⟨b8, o9, hi7, -⟩ := (H.ro 0 rfl).ix hx6
   refine st (v := (pt b8 o9)) (rv_ix Try.underlying33 ti41 rfl rfl hi7) ?_
   obtain ⟨_, ⟨_, _, rfl, rfl, ⟨_, _, rfl, ⟨_, rfl, hR14⟩, rfl⟩⟩, hl10, hc11⟩ := ((H.ro 0 rfl).at hx6 hi7).cells
   obtain ⟨a12, c13, rfl⟩ := hR14.isSl
   replace H := H.add (d := Ch.ro 0 (Sl a12 x5.2.1 c13) x5.2.1) hR14 (fun _ h => h)
   clear hR14
   refine st (v := (.agg #[(I x5.1), (Sl a12 x5.2.1 c13), (I x5.2.2)])) (rv_load Try.underlying41 rfl ti41 rfl hl10 hc11) ?_
   revert h; refine br fun r15 hx16 h => ?_
   have hc17 := c_impl_hasItem_1__p_impl_Item (Fa := a12) (Fb := c13) (Fe := Fm) (Ff := Fn) (Fg := Fo) (Fh := Fp) (Fi := Fq) (Fc := Fk) (Fd := Fl) hx16
   refine st_call (cx_call hc17 (ent_v (cap := [(pt Fn Fo)]) hc17.fn rfl rfl) hn0 (H.sel' [0, 3, 2, 0, 1, 2] rfl rfl : Hp S0 σ0 _ ([_, _, _] ++ _))) wn ?_
   rintro _ σ18 ⟨_, ⟨rfl, rfl⟩, H, -⟩
   replace H : Hp _ _ _ [_, _, _, _] := H
   refine w_end (q_then ?_)
   refine cd_cond r15 rfl (fun hb19 => ?_) (fun hb19 => ?_)
   ·replace h := bif_t hb19 h
    refine c_seq (rg (sm (I s2) rfl (sa (I s2) rfl (w_end (q_then (c_ret (q_blk_r (q_then_r (q_then_r (q_blk_r ?_))))))))))
    obtain rfl := sj h
    obtain rfl := hres _ rfl
    exact .inr (⟨_, rfl, rfl, _, σ18, fr_join ⟨rfl, rfl, trivial⟩, rfl, H.sel' [3, 0] rfl rfl⟩)
   ·replace h := bif_f hb19 h
    refine c_skip (q_blk (q_then (rg (st (v := (I (w64 (s2 + 1)))) (rv_add (a := s2) (b := 1) rfl rfl) (sm (I (w64 (s2 + 1))) rfl (w_end (q_then ?_)))))))
    obtain rfl := sj h
    exact ⟨_, rfl, _, σ18, fr_join ⟨rfl, rfl, rfl, rfl, trivial⟩, rfl, H.sel' [2, 3, 0] rfl rfl⟩
  ·replace h := bif_f hb4 h
   refine c_exit (q_then_x (q_then_x (q_blk_hit ?_)))
   obtain rfl := sj h
   obtain rfl := hres _ rfl
   exact .inl ⟨_, rfl, rfl, _, σ3, fr_join ⟨rfl, trivial⟩, rfl, H.sel' [1, 2] rfl rfl⟩
 ·clear hj
  have h := h'
  clear h' H
  rintro e a w (⟨t20, rfl, rfl, ρ, σ21, rfl, rfl, H⟩ | ⟨t22, rfl, rfl, ρ, σ23, rfl, rfl, H⟩)
  ·replace h := selim_l h
   refine q_then (c_seq (rg (sa (I (-1)) rfl (w_end (q_then (c_ret ?_))))))
   obtain rfl := sj h
   exact fin_ret (v := (I (-1))) (results_ok Try.results114 (res_tmp (v := (I (-1))) rfl res_nil) rfl) ⟨rfl, rfl⟩ (H.sel' [1] rfl rfl)
  ·replace h := selim_r h
   refine q_then_r ?_
   obtain rfl := sj h
   exact fin_ret (v := (I t22)) (results_ok Try.results114 (res_tmp (v := (I t22)) rfl res_nil) rfl) ⟨rfl, rfl⟩ (H.sel' [1] rfl rfl)

theorem c_slices_ContainsFunc_impl_Item_impl_Item__impl_hasItem_1 {Ay : List (Int × (List Int) × Int)} {Fj : Int × (List Int) × Int} {Az : Option Addr} {Ba : Nat} {Fk : Option Addr} {Fl : Nat} {Fm Fn Fo : Nat} {Fp Fq : List Value} {r : Bool} (h : M.slices_ContainsFunc_impl_Item_impl_Item__impl_hasItem_1 Ay Fj = some r) :
    Cal2 Try.prog 99 [(Sl Az Ay Ba), (.func (.func 100) #[] #[(pt Fn Fo)])] [Ch.ro 0 (Sl Az Ay Ba) Ay, Ch.bx Fm Fn Fo [(I Fj.1), (Sl Fk Fj.2.1 Fl), (I Fj.2.2)] Fp Fq, Ch.ro 0 (Sl Fk Fj.2.1 Fl) Fj.2.1] (fun n0 v L => v = (B r) ∧ L = [Ch.bx Fm Fn Fo [(I Fj.1), (Sl Fk Fj.2.1 Fl), (I Fj.2.2)] Fp Fq]) := by
 refine cal2 (n := 9) Try.func99 rfl rfl rfl rfl ?_
 intro S0 σ0 n0 hn0 H
 unfold M.slices_ContainsFunc_impl_Item_impl_Item__impl_hasItem_1 at h
 refine c_seq (rg (sa (B false) rfl (w_end (q_then (c_seq (rg (sm (Sl Az Ay Ba) rfl (sm (.func (.func 100) #[] #[(pt Fn Fo)]) rfl ?_))))))))
 revert h; refine br fun r1 hx2 h => ?_
 have hc3 := c_slices_IndexFunc_impl_Item_impl_Item__impl_hasItem_1 (Az := Az) (Ba := Ba) (Fm := Fm) (Fn := Fn) (Fo := Fo) (Fp := Fp) (Fq := Fq) (Fk := Fk) (Fl := Fl) hx2
 refine st_call (cx_call hc3 (ent_f hc3.fn rfl) hn0 (H.sel' [0, 1, 2, 0, 2] rfl rfl : Hp S0 σ0 _ ([_, _, _] ++ _))) wn ?_
 rintro _ σ4 ⟨_, ⟨rfl, rfl⟩, H, -⟩
 replace H : Hp _ _ _ [_, _, _] := H
 refine st (v := (B (decide (0 ≤ r1)))) (rv_geq (a := r1) (b := 0) rfl rfl) (sa (B (decide (0 ≤ r1))) rfl (w_end (q_then (c_ret ?_))))
 obtain rfl := sj h
 exact fin_ret (v := (B (decide (0 ≤ r1)))) (results_ok Try.results99 (res_tmp (v := (B (decide (0 ≤ r1)))) rfl res_nil) rfl) ⟨rfl, rfl⟩ (H.sel' [0] rfl rfl)

theorem c_impl_hasItem {Ao : List (Int × (List Int) × Int)} {Bq : Int × (List Int) × Int} {Ap : Option Addr} {Aq : Nat} {Br : Option Addr} {Bs : Nat} {r : Bool} (h : M.impl_hasItem Ao Bq = some r) :
    Cal2 Try.prog 70 [(Sl Ap Ao Aq), (.agg #[(I Bq.1), (Sl Br Bq.2.1 Bs), (I Bq.2.2)])] [Ch.ro 0 (Sl Ap Ao Aq) Ao, Ch.ro 0 (Sl Br Bq.2.1 Bs) Bq.2.1] (fun n0 v L => v = (B r) ∧ L = []) := by
 refine cal2 (n := 8) Try.func70 rfl rfl rfl rfl ?_
 intro S0 σ0 n0 hn0 H
 unfold M.impl_hasItem at h
 refine c_seq (rg (st_ex (ex_box (cs := [(I Bq.1), (Sl Br Bq.2.1 Bs), (I Bq.2.2)]) H hn0 rfl rfl) wn ?_))
 rintro _ σ2 ⟨b1, rfl, H, -⟩
 refine sa (B false) rfl (w_end (q_then (c_seq (rg (sm (Sl Ap Ao Aq) rfl (st (v := (.func (.func 100) #[] #[(pt b1 0)])) (rv_makeFunc (vs := [(pt b1 0)]) rfl) ?_))))))
 revert h; refine br fun r3 hx4 h => ?_
 have hc5 := c_slices_ContainsFunc_impl_Item_impl_Item__impl_hasItem_1 (Az := Ap) (Ba := Aq) (Fm := n0) (Fn := b1) (Fo := 0) (Fp := []) (Fq := []) (Fk := Br) (Fl := Bs) hx4
 refine st_call (cx_call hc5 (ent_f hc5.fn rfl) hn0 (H.sel' [1, 0, 2, 1, 2] rfl rfl : Hp S0 σ0 _ ([_, _, _] ++ _))) wn ?_
 rintro _ σ6 ⟨_, ⟨rfl, rfl⟩, H, -⟩
 replace H : Hp _ _ _ [_, _, _] := H
 refine sa (B r3) rfl (w_end (q_then (c_ret ?_)))
 obtain rfl := sj h
 exact fin_ret (v := (B r3)) (results_ok Try.results70 (res_tmp (v := (B r3)) rfl res_nil) rfl) ⟨rfl, rfl⟩ (H.sel' [] rfl rfl)

theorem c_impl_putChange_entry {Bi : (Int × (List Int) × Int)} {Bt : Option Addr} {Bu : Nat} {r : (Int × (Int × (List Int) × Int))} (h : M.impl_putChange_entry Bi = some r) :
    Cal2 Try.prog 71 [(.agg #[(I Bi.1), (Sl Bt Bi.2.1 Bu), (I Bi.2.2)])] [Ch.ro 0 (Sl Bt Bi.2.1 Bu) Bi.2.1] (fun n0 v L => ∃ (az1 : Option Addr), ∃ (cz2 : Nat), v = (.agg #[(I r.1), (I r.2.1), (Sl az1 r.2.2.1 cz2), (I r.2.2.2)]) ∧ L = [Ch.own n0 n0 (Sl az1 r.2.2.1 cz2) r.2.2.1]) := by
 refine cal2 (n := 7) Try.func71 rfl rfl rfl rfl ?_
 intro S0 σ0 n0 hn0 H
 unfold M.impl_putChange_entry at h
 refine c_seq (rg (st_ex (ex_box (cs := [(I Bi.1), (Sl Bt Bi.2.1 Bu), (I Bi.2.2)]) H hn0 rfl rfl) wn ?_))
 rintro _ σ2 ⟨b1, rfl, H, -⟩
 refine st_ex (ex_alloc (cs := [(I 0), (I 0), (.slice none 0 0), (I 0)]) H hn0 ti43 rfl) wn ?_
 rintro _ σ4 ⟨b3, rfl, H, -⟩
 refine w_end (q_then (c_seq (rg (st (v := (pt b1 0)) (rv_fieldAddr (off := 0) (ft := 41) Try.underlying98 rfl ti41 rfl rfl) ?_))))
 have hc5 := H.part (us := [(I Bi.1), (Sl Bt Bi.2.1 Bu), (I Bi.2.2)]) (o' := 0) 1 0 3 rfl rfl rfl rfl
 refine st (v := (.agg #[(I Bi.1), (Sl Bt Bi.2.1 Bu), (I Bi.2.2)])) (rv_load (cs := [(I Bi.1), (Sl Bt Bi.2.1 Bu), (I Bi.2.2)]) Try.underlying41 rfl ti41 rfl rfl hc5) ?_
 revert h; refine br fun r6 hx7 h => ?_
 have hc8 := c_impl_copyItem (Ak := Bt) (Am := Bu) hx7
 refine st_call (cx_call hc8 (ent_f hc8.fn rfl) hn0 (H.sel' [2, 0, 1, 2] rfl rfl : Hp S0 σ0 _ ([_] ++ _))) wn ?_
 rintro _ σ11 ⟨_, ⟨a9, c10, rfl, rfl⟩, H, -⟩
 replace H : Hp _ _ _ [_, _, _, _] := H
 refine st (v := (.agg #[(I 1), (I r6.1), (Sl a9 r6.2.1 c10), (I r6.2.2)])) (rv_build (ps := [(0, (I 1)), (1, (.agg #[(I r6.1), (Sl a9 r6.2.1 c10), (I r6.2.2)]))]) Try.underlying43 ti43 (bp43 Try.underlying43) rfl (by kernel_rfl)) ?_
 refine st_exS (ex_store_box (k := 0) (cs := [(I 0), (I 0), (.slice none 0 0), (I 0)]) (vs := [(I 1), (I r6.1), (Sl a9 r6.2.1 c10), (I r6.2.2)]) (cs' := [(I 1), (I r6.1), (Sl a9 r6.2.1 c10), (I r6.2.2)]) H (i := 1) rfl ti43 rfl rfl rfl rfl rfl (Nat.le_of_ble_eq_true rfl) (by simp [plain]) rfl) wn ?_
 rintro σ12 ⟨H, -⟩
 refine w_end (q_then (c_ret ?_))
 obtain rfl := sj h
 exact fin_ret (v := (.agg #[(I 1), (I r6.1), (Sl a9 r6.2.1 c10), (I r6.2.2)])) (results_ok Try.results71 (res_cell rfl (run_cellRes (cs := [(I 1), (I r6.1), (Sl a9 r6.2.1 c10), (I r6.2.2)]) Try.underlying43 rfl ti43 rfl (H.cells 0 rfl)) res_nil) rfl) ⟨a9, c10, rfl, rfl⟩ (H.sel' [1] rfl rfl)

end Go.Vs
