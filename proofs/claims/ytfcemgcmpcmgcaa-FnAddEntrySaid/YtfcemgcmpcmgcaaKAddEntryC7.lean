/- The functions compute what their models say. -/
import Derived.Test.YtfcemgcmpcmgcaaKAddEntryC6
set_option linter.unusedVariables false
set_option linter.unusedSimpArgs false
set_option maxHeartbeats 2000000
set_option maxRecDepth 20000
namespace Go.Vs
open Go Go.Proofs
attribute [local irreducible] Code.wp Code.wpIn wpList wpListIn wpQuiet Calls CallsIn

theorem c_laws_equalEntries {Cr : List (Int × (Int × (List Int) × Int))} {Cs : List (Int × (Int × (List Int) × Int))} {Ct : Option Addr} {Cu : Nat} {Cv : Option Addr} {Cw : Nat} {r : Bool} (h : M.laws_equalEntries Cr Cs = some r) :
    Cal2 Try.prog 63 [(Sl Ct Cr Cu), (Sl Cv Cs Cw)] [Ch.ro 0 (Sl Ct Cr Cu) Cr, Ch.ro 0 (Sl Cv Cs Cw) Cs] (fun n0 v L => v = (B r) ∧ L = []) := by
 refine cal2 (n := 42) Try.func63 rfl rfl rfl rfl ?_
 intro S0 σ0 n0 hn0 H
 unfold M.laws_equalEntries at h
 refine c_seq (rg (sa (B false) rfl (w_end (q_then (c_seq (c_seq (rg (sm (Sl Ct Cr Cu) rfl (st (v := (I (Cr.length : Int))) (rv_len Try.underlying23 rfl) (sm (Sl Cv Cs Cw) rfl (st (v := (I (Cs.length : Int))) (rv_len Try.underlying23 rfl) ?_)))))))))))
 refine st (v := (B ((Cr.length : Int) != (Cs.length : Int)))) (rv_neq (a := (Cr.length : Int)) (b := (Cs.length : Int)) rfl rfl) (w_end (q_then ?_))
 refine cd_cond ((Cr.length : Int) != (Cs.length : Int)) rfl (fun hb1 => ?_) (fun hb1 => ?_)
 ·replace h := bif_t hb1 h
  refine c_seq (rg (sa (B false) rfl (w_end (q_then (c_ret (q_then_r ?_))))))
  obtain rfl := sj h
  exact fin_ret (v := (B false)) (results_ok Try.results63 (res_tmp (v := (B false)) rfl res_nil) rfl) ⟨rfl, rfl⟩ (H.sel' [] rfl rfl)
 ·replace h := bif_f hb1 h
  refine c_skip (q_then (c_seq (c_seq (rg (sa (I 0) rfl (w_end (q_then ?_)))))))
  obtain ⟨o2, hj, h'⟩ := bind_some h
  clear h
  refine c_cut (fun e a w => (∃ t, o2 = (.inl t) ∧ e = .normal ∧ ∃ (ρ : Nat → Value) (σ : St), a = fr 42 (updL ρ []) ∧ w = σ.w ∧ Hp S0 σ0 σ []) ∨ (∃ t, o2 = (.inr t) ∧ e = .ret ∧ ∃ (ρ : Nat → Value) (σ : St), a = fr 42 (updL ρ [(4, (B t))]) ∧ w = σ.w ∧ Hp S0 σ0 σ [])) ?_ ?_
  ·clear h'
   rename _ = some o2 => h
   refine c_blk (wp_loopM _ h (fun s3 a w => ∃ (ρ : Nat → Value) (σ : St), a = fr 42 (updL ρ [(0, (Sl Ct Cr Cu)), (1, (Sl Cv Cs Cw)), (5, (I s3))]) ∧ w = σ.w ∧ Hp S0 σ0 σ [Ch.ro 0 (Sl Ct Cr Cu) Cr, Ch.ro 0 (Sl Cv Cs Cw) Cs]) ⟨_, σ0, fr_join ⟨rfl, rfl, rfl, trivial⟩, rfl, H.sel' [0, 1] rfl rfl⟩ ?_)
   clear h H
   rintro s3 a w o ⟨ρ, σ4, rfl, rfl, H⟩ h hres
   refine c_seq (c_seq (rg (sm (I s3) rfl (sm (Sl Ct Cr Cu) rfl (st (v := (I (Cr.length : Int))) (rv_len Try.underlying23 rfl) (st (v := (B (decide (s3 < (Cr.length : Int))))) (rv_lss (a := s3) (b := (Cr.length : Int)) rfl rfl) (w_end (q_then ?_))))))))
   refine cd_cond (decide (s3 < (Cr.length : Int))) rfl (fun hb5 => ?_) (fun hb5 => ?_)
   ·replace h := bif_t hb5 h
    refine c_skip (q_then (c_seq (c_blk (c_seq ?_))))
    obtain ⟨o6, hj, h'⟩ := bind_some h
    clear h
    refine c_cut (fun e a w => e = .normal ∧ ∃ (ρ : Nat → Value) (σ : St), a = fr 42 (updL ρ [(0, (Sl Ct Cr Cu)), (1, (Sl Cv Cs Cw)), (5, (I s3)), (41, (B o6))]) ∧ w = σ.w ∧ Hp S0 σ0 σ [Ch.ro 0 (Sl Ct Cr Cu) Cr, Ch.ro 0 (Sl Cv Cs Cw) Cs]) ?_ ?_
    ·clear h'
     rename _ = some o6 => h
     refine rgP (σ := σ4) 22 (by kernel_rfl) (by kernel_rfl) (by kernel_rfl) ?_
     refine sq (v := (Sl Ct Cr Cu)) (rv_move rfl) (sq (v := (I s3)) (rv_move rfl) ?_)
     revert h; refine br fun x7 hx8 h => ?_
     obtain ⟨b10, o11, hi9, -⟩ := (H.ro 0 rfl).ix hx8
     refine sq (v := (pt b10 o11)) (rv_ix Try.underlying23 ti43 rfl rfl hi9) (sq (v := (pt b10 (o11 + 0))) (rv_fieldAddr (off := 0) (ft := 3) Try.underlying43 rfl ti3 rfl rfl) ?_)
     have hc12 := ((H.ro 0 rfl).at hx8 hi9).fst.int
     refine sq (v := (I x7.1)) (rv_load1 Try.underlying3 rfl rfl hc12) (sq (v := (Sl Cv Cs Cw)) (rv_move rfl) (sq (v := (I s3)) (rv_move rfl) ?_))
     revert h; refine br fun x13 hx14 h => ?_
     obtain ⟨b16, o17, hi15, -⟩ := (H.ro 1 rfl).ix hx14
     refine sq (v := (pt b16 o17)) (rv_ix Try.underlying23 ti43 rfl rfl hi15) (sq (v := (pt b16 (o17 + 0))) (rv_fieldAddr (off := 0) (ft := 3) Try.underlying43 rfl ti3 rfl rfl) ?_)
     have hc18 := ((H.ro 1 rfl).at hx14 hi15).fst.int
     refine sq (v := (I x13.1)) (rv_load1 Try.underlying3 rfl rfl hc18) (sq (v := (B (x7.1 != x13.1))) (rv_neq (a := x7.1) (b := x13.1) rfl rfl) (sq (v := (B (x7.1 != x13.1))) (rv_move rfl) ?_))
     rcases Bool.eq_false_or_eq_true (x7.1 != x13.1) with hb19 | hb19
     ·replace h := bif_t hb19 h
      refine sq_skip (congrArg some hb19) (sq_skip (congrArg some hb19) (sq_skip (congrArg some hb19) (sq_skip (congrArg some hb19) (sq_skip (congrArg some hb19) (sq_skip (congrArg some hb19) (sq_skip (congrArg some hb19) (sq_skip (congrArg some hb19) (sq_skip (congrArg some hb19) (sq_skip (congrArg some hb19) (sq_end ?_))))))))))
      intro σ20 hm21
      replace H := H.grow (hm21.mono fun _ h => h); clear hm21
      refine st_skip (congrArg some hb19) (st_skip (congrArg some hb19) (st (v := (B true)) (rv_pick_t (congrArg B hb19) rfl) (w_end ?_)))
      obtain rfl := sj h
      exact ⟨rfl, _, σ20, fr_join ⟨rfl, rfl, rfl, rfl, trivial⟩, rfl, H.sel' [0, 1] rfl rfl⟩
     ·replace h := bif_f hb19 h
      refine sq_g (v := (Sl Ct Cr Cu)) (congrArg some hb19) (rv_move rfl) (sq_g (v := (I s3)) (congrArg some hb19) (rv_move rfl) ?_)
      revert h; refine br fun x22 hx23 h => ?_
      obtain ⟨b25, o26, hi24, -⟩ := (H.ro 0 rfl).ix hx23
      refine sq_g (v := (pt b25 o26)) (congrArg some hb19) (rv_ix Try.underlying23 ti43 rfl rfl hi24) (sq_g (v := (pt b25 (o26 + 1))) (congrArg some hb19) (rv_fieldAddr (off := 1) (ft := 41) Try.underlying43 rfl ti41 rfl rfl) ?_)
      obtain ⟨_, ⟨_, _, rfl, rfl, ⟨_, _, rfl, ⟨_, rfl, hR31⟩, rfl⟩⟩, hl27, hc28⟩ := ((H.ro 0 rfl).at hx23 hi24).snd.cells
      obtain ⟨a29, c30, rfl⟩ := hR31.isSl
      replace H := H.add (d := Ch.ro 0 (Sl a29 x22.2.2.1 c30) x22.2.2.1) hR31 (fun _ h => h)
      clear hR31
      refine sq_g (v := (.agg #[(I x22.2.1), (Sl a29 x22.2.2.1 c30), (I x22.2.2.2)])) (congrArg some hb19) (rv_load Try.underlying41 rfl ti41 rfl hl27 hc28) (sq_g (v := (Sl Cv Cs Cw)) (congrArg some hb19) (rv_move rfl) (sq_g (v := (I s3)) (congrArg some hb19) (rv_move rfl) ?_))
      revert h; refine br fun x32 hx33 h => ?_
      obtain ⟨b35, o36, hi34, -⟩ := (H.ro 2 rfl).ix hx33
      refine sq_g (v := (pt b35 o36)) (congrArg some hb19) (rv_ix Try.underlying23 ti43 rfl rfl hi34) (sq_g (v := (pt b35 (o36 + 1))) (congrArg some hb19) (rv_fieldAddr (off := 1) (ft := 41) Try.underlying43 rfl ti41 rfl rfl) ?_)
      obtain ⟨_, ⟨_, _, rfl, rfl, ⟨_, _, rfl, ⟨_, rfl, hR41⟩, rfl⟩⟩, hl37, hc38⟩ := ((H.ro 2 rfl).at hx33 hi34).snd.cells
      obtain ⟨a39, c40, rfl⟩ := hR41.isSl
      replace H := H.add (d := Ch.ro 0 (Sl a39 x32.2.2.1 c40) x32.2.2.1) hR41 (fun _ h => h)
      clear hR41
      refine sq_g (v := (.agg #[(I x32.2.1), (Sl a39 x32.2.2.1 c40), (I x32.2.2.2)])) (congrArg some hb19) (rv_load Try.underlying41 rfl ti41 rfl hl37 hc38) (sq_end ?_)
      intro σ42 hm43
      replace H := H.grow (hm43.mono fun _ h => h); clear hm43
      revert h; refine br fun r44 hx45 h => ?_
      have hc46 := c_laws_equalItem (Dt := a29) (Du := c30) (Dv := a39) (Dw := c40) hx45
      refine st_call (cx_call hc46 (ent_f hc46.fn rfl) hn0 (H.sel' [1, 0, 0, 1, 2, 3] rfl rfl : Hp S0 σ0 _ ([_, _] ++ _))) (wanted_yes rfl (by exact (congrArg some hb19))) ?_
      rintro _ σ47 ⟨_, ⟨rfl, rfl⟩, H, -⟩
      replace H : Hp _ _ _ [_, _, _, _] := H
      refine st_g (v := (B (!r44))) (congrArg some hb19) (rv_not rfl) (st (v := (B (!r44))) (rv_pick_f (congrArg B hb19) rfl) (w_end ?_))
      obtain rfl := sj h
      exact ⟨rfl, _, σ47, fr_join ⟨rfl, rfl, rfl, rfl, trivial⟩, rfl, H.sel' [2, 3] rfl rfl⟩
    ·clear hj
     have h := h'
     clear h' H
     rintro e a w ⟨rfl, ρ, σ48, rfl, rfl, H⟩
     refine q_then ?_
     refine cd_cond o6 rfl (fun hb49 => ?_) (fun hb49 => ?_)
     ·replace h := bif_t hb49 h
      refine c_seq (rg (sa (B false) rfl (w_end (q_then (c_ret (q_blk_r (q_then_r (q_then_r (q_blk_r ?_)))))))))
      obtain rfl := sj h
      obtain rfl := hres _ rfl
      exact .inr (⟨_, rfl, rfl, _, σ48, fr_join ⟨rfl, trivial⟩, rfl, H.sel' [] rfl rfl⟩)
     ·replace h := bif_f hb49 h
      refine c_skip (q_blk (q_then (rg (sm (I s3) rfl (st (v := (I (w64 (s3 + 1)))) (rv_add (a := s3) (b := 1) rfl rfl) (sa (I (w64 (s3 + 1))) rfl (w_end (q_then ?_))))))))
      obtain rfl := sj h
      exact ⟨_, rfl, _, σ48, fr_join ⟨rfl, rfl, rfl, trivial⟩, rfl, H.sel' [0, 1] rfl rfl⟩
   ·replace h := bif_f hb5 h
    refine c_exit (q_then_x (q_then_x (q_blk_hit ?_)))
    obtain rfl := sj h
    obtain rfl := hres _ rfl
    exact .inl ⟨_, rfl, rfl, _, σ4, fr_join trivial, rfl, H.sel' [] rfl rfl⟩
  ·clear hj
   have h := h'
   clear h' H
   rintro e a w (⟨t50, rfl, rfl, ρ, σ51, rfl, rfl, H⟩ | ⟨t52, rfl, rfl, ρ, σ53, rfl, rfl, H⟩)
   ·replace h := selim_l h
    refine q_then (c_seq (rg (sa (B true) rfl (w_end (q_then (c_ret ?_))))))
    obtain rfl := sj h
    exact fin_ret (v := (B true)) (results_ok Try.results63 (res_tmp (v := (B true)) rfl res_nil) rfl) ⟨rfl, rfl⟩ (H.sel' [] rfl rfl)
   ·replace h := selim_r h
    refine q_then_r ?_
    obtain rfl := sj h
    exact fin_ret (v := (B t52)) (results_ok Try.results63 (res_tmp (v := (B t52)) rfl res_nil) rfl) ⟨rfl, rfl⟩ (H.sel' [] rfl rfl)

theorem c_laws_equalHistory {Cr : (List (Int × (Int × (List Int) × Int))) × (List Int)} {Cs : (List (Int × (Int × (List Int) × Int))) × (List Int)} {Dx : Option Addr} {Dy : Nat} {Dt : Option Addr} {Du : Nat} {Dz : Option Addr} {Ea : Nat} {Dv : Option Addr} {Dw : Nat} {r : Bool} (h : M.laws_equalHistory Cr Cs = some r) :
    Cal2 Try.prog 29 [(.agg #[(Sl Dx Cr.1 Dy), (Sl Dt Cr.2 Du)]), (.agg #[(Sl Dz Cs.1 Ea), (Sl Dv Cs.2 Dw)])] [Ch.ro 0 (Sl Dx Cr.1 Dy) Cr.1, Ch.ro 0 (Sl Dt Cr.2 Du) Cr.2, Ch.ro 0 (Sl Dz Cs.1 Ea) Cs.1, Ch.ro 0 (Sl Dv Cs.2 Dw) Cs.2] (fun n0 v L => v = (B r) ∧ L = []) := by
 refine cal2 (n := 17) Try.func29 rfl rfl rfl rfl ?_
 intro S0 σ0 n0 hn0 H
 unfold M.laws_equalHistory at h
 refine c_seq (rg (st_ex (ex_box (cs := [(Sl Dx Cr.1 Dy), (Sl Dt Cr.2 Du)]) H hn0 rfl rfl) wn ?_))
 rintro _ σ2 ⟨b1, rfl, H, -⟩
 refine st_ex (ex_box (cs := [(Sl Dz Cs.1 Ea), (Sl Dv Cs.2 Dw)]) H hn0 rfl rfl) wn ?_
 rintro _ σ4 ⟨b3, rfl, H, -⟩
 refine sa (B false) rfl (w_end (q_then (c_seq (rg (st (v := (pt b1 0)) (rv_fieldAddr (off := 0) (ft := 23) Try.underlying26 rfl ti23 rfl rfl) ?_)))))
 have hc5 := H.cell (u := (Sl Dx Cr.1 Dy)) (o' := 0) 1 0 rfl rfl rfl
 refine st (v := (Sl Dx Cr.1 Dy)) (rv_load1 Try.underlying23 rfl rfl hc5) (st (v := (pt b3 0)) (rv_fieldAddr (off := 0) (ft := 23) Try.underlying26 rfl ti23 rfl rfl) ?_)
 have hc6 := H.cell (u := (Sl Dz Cs.1 Ea)) (o' := 0) 0 0 rfl rfl rfl
 refine st (v := (Sl Dz Cs.1 Ea)) (rv_load1 Try.underlying23 rfl rfl hc6) ?_
 revert h; refine br fun r7 hx8 h => ?_
 have hc9 := c_laws_equalEntries (Ct := Dx) (Cu := Dy) (Cv := Dz) (Cw := Ea) hx8
 refine st_call (cx_call hc9 (ent_f hc9.fn rfl) hn0 (H.sel' [2, 4, 0, 1, 2, 3, 4, 5] rfl rfl : Hp S0 σ0 _ ([_, _] ++ _))) wn ?_
 rintro _ σ10 ⟨_, ⟨rfl, rfl⟩, H, -⟩
 replace H : Hp _ _ _ [_, _, _, _, _, _] := H
 refine sm (B r7) rfl ?_
 rcases Bool.eq_false_or_eq_true r7 with hb11 | hb11
 ·replace h := bif_t hb11 h
  refine st_g (v := (pt b1 1)) (congrArg some hb11) (rv_fieldAddr (off := 1) (ft := 24) Try.underlying26 rfl ti24 rfl rfl) ?_
  have hc12 := H.cell (u := (Sl Dt Cr.2 Du)) (o' := 1) 1 1 rfl rfl rfl
  refine st_g (v := (Sl Dt Cr.2 Du)) (congrArg some hb11) (rv_load1 Try.underlying24 rfl rfl hc12) (st_g (v := (pt b3 1)) (congrArg some hb11) (rv_fieldAddr (off := 1) (ft := 24) Try.underlying26 rfl ti24 rfl rfl) ?_)
  have hc13 := H.cell (u := (Sl Dv Cs.2 Dw)) (o' := 1) 0 1 rfl rfl rfl
  refine st_g (v := (Sl Dv Cs.2 Dw)) (congrArg some hb11) (rv_load1 Try.underlying24 rfl rfl hc13) ?_
  revert h; refine br fun r14 hx15 h => ?_
  have hc16 := c_laws_equalInts (Ct := Dt) (Cu := Du) (Cv := Dv) (Cw := Dw) hx15
  refine st_call (cx_call hc16 (ent_f hc16.fn rfl) hn0 (H.sel' [3, 5, 0, 1, 2, 3, 4, 5] rfl rfl : Hp S0 σ0 _ ([_, _] ++ _))) (wanted_yes rfl (by exact (congrArg some hb11))) ?_
  rintro _ σ17 ⟨_, ⟨rfl, rfl⟩, H, -⟩
  replace H : Hp _ _ _ [_, _, _, _, _, _] := H
  refine st (v := (B r14)) (rv_pick_t (congrArg B hb11) rfl) (sa (B r14) rfl (w_end (q_then (c_ret ?_))))
  obtain rfl := sj h
  exact fin_ret (v := (B r14)) (results_ok Try.results29 (res_tmp (v := (B r14)) rfl res_nil) rfl) ⟨rfl, rfl⟩ (H.sel' [] rfl rfl)
 ·replace h := bif_f hb11 h
  refine st_skip (congrArg some hb11) (st_skip (congrArg some hb11) (st_skip (congrArg some hb11) (st_skip (congrArg some hb11) (st_skip (congrArg some hb11) (st (v := (B false)) (rv_pick_f (congrArg B hb11) rfl) (sa (B false) rfl (w_end (q_then (c_ret ?_)))))))))
  obtain rfl := sj h
  exact fin_ret (v := (B false)) (results_ok Try.results29 (res_tmp (v := (B false)) rfl res_nil) rfl) ⟨rfl, rfl⟩ (H.sel' [] rfl rfl)

theorem c_impl_GetItem {Ao : List (Int × (List Int) × Int)} {Bc : Int} {Ap : Option Addr} {Aq : Nat} {r : (Int × (List Int) × Int) × Bool} (h : M.impl_GetItem Ao Bc = some r) :
    Cal2 Try.prog 30 [(Sl Ap Ao Aq), (I Bc)] [Ch.ro 0 (Sl Ap Ao Aq) Ao] (fun n0 v L => ∃ (az1 : Option Addr), ∃ (cz2 : Nat), v = (.tuple #[(.agg #[(I r.1.1), (Sl az1 r.1.2.1 cz2), (I r.1.2.2)]), (B r.2)]) ∧ L = [Ch.own n0 n0 (Sl az1 r.1.2.1 cz2) r.1.2.1]) := by
 refine cal2 (n := 26) Try.func30 rfl rfl rfl rfl ?_
 intro S0 σ0 n0 hn0 H
 unfold M.impl_GetItem at h
 refine c_seq (rg (st_ex (ex_alloc (cs := [(I 0), (.slice none 0 0), (I 0)]) H hn0 ti41 rfl) wn ?_))
 rintro _ σ2 ⟨b1, rfl, H, -⟩
 refine sa (B false) rfl (w_end (q_then (c_seq (c_seq (rg (sm (Sl Ap Ao Aq) rfl ?_))))))
 revert h; refine br fun r3 hx4 h => ?_
 have hc5 := c_impl_ValidStore (Ap := Ap) (Aq := Aq) hx4
 refine st_call (cx_call hc5 (ent_f hc5.fn rfl) hn0 (H.sel' [1, 0, 1] rfl rfl : Hp S0 σ0 _ ([_] ++ _))) wn ?_
 rintro _ σ6 ⟨_, ⟨rfl, rfl⟩, H, -⟩
 replace H : Hp _ _ _ [_, _] := H
 refine st (v := (B (!r3))) (rv_not rfl) (w_end (q_then ?_))
 refine cd_cond (!r3) rfl (fun hb7 => ?_) (fun hb7 => ?_)
 ·replace h := bif_t hb7 h
  refine c_seq (rg ?_)
  refine st (v := (.agg #[(I 0), (.slice none 0 0), (I 0)])) (rv_build (ps := []) Try.underlying41 ti41 (bp41 Try.underlying41) rfl (by kernel_rfl)) ?_
  refine st_exS (ex_store_box (k := 0) (cs := [(I 0), (.slice none 0 0), (I 0)]) (vs := [(I 0), (.slice none 0 0), (I 0)]) (cs' := [(I 0), (.slice none 0 0), (I 0)]) H (i := 0) rfl ti41 rfl rfl rfl rfl rfl (Nat.le_of_ble_eq_true rfl) (by simp [plain]) rfl) wn ?_
  rintro σ8 ⟨H, -⟩
  refine sa (B false) rfl (w_end (q_then (c_ret (q_then_r ?_))))
  replace H := H.nilOwn Int n0 n0
  obtain rfl := sj h
  exact fin_ret (v := (.tuple #[(.agg #[(I 0), (.slice none 0 0), (I 0)]), (B false)])) (results_ok Try.results30 (res_cell rfl (run_cellRes (cs := [(I 0), (.slice none 0 0), (I 0)]) Try.underlying41 rfl ti41 rfl (H.cells 1 rfl)) (res_tmp (v := (B false)) rfl res_nil)) rfl) ⟨none, 0, rfl, rfl⟩ (H.sel' [0] rfl rfl)
 ·replace h := bif_f hb7 h
  refine c_skip (q_then (c_seq (rg (sm (Sl Ap Ao Aq) rfl (sm (I Bc) rfl ?_)))))
  revert h; refine br fun r9 hx10 h => ?_
  have hc11 := c_impl_placeOf (Ap := Ap) (Aq := Aq) hx10
  refine st_call (cx_call hc11 (ent_f hc11.fn rfl) hn0 (H.sel' [1, 0, 1] rfl rfl : Hp S0 σ0 _ ([_] ++ _))) wn ?_
  rintro _ σ12 ⟨_, ⟨rfl, rfl⟩, H, -⟩
  replace H : Hp _ _ _ [_, _] := H
  refine sm (.tuple #[(I r9.1), (B r9.2)]) rfl (st (v := (I r9.1)) (rv_extract rfl rfl) (st (v := (B r9.2)) (rv_extract rfl rfl) (sa (I r9.1) rfl (sa (B r9.2) rfl (w_end (q_then (c_seq (c_seq (rg (sm (B r9.2) rfl (st (v := (B (!r9.2))) (rv_not rfl) ?_)))))))))))
  refine w_end (q_then ?_)
  refine cd_cond (!r9.2) rfl (fun hb13 => ?_) (fun hb13 => ?_)
  ·replace h := bif_t hb13 h
   refine c_seq (rg ?_)
   refine st (v := (.agg #[(I 0), (.slice none 0 0), (I 0)])) (rv_build (ps := []) Try.underlying41 ti41 (bp41 Try.underlying41) rfl (by kernel_rfl)) ?_
   refine st_exS (ex_store_box (k := 0) (cs := [(I 0), (.slice none 0 0), (I 0)]) (vs := [(I 0), (.slice none 0 0), (I 0)]) (cs' := [(I 0), (.slice none 0 0), (I 0)]) H (i := 0) rfl ti41 rfl rfl rfl rfl rfl (Nat.le_of_ble_eq_true rfl) (by simp [plain]) rfl) wn ?_
   rintro σ14 ⟨H, -⟩
   refine sa (B false) rfl (w_end (q_then (c_ret (q_then_r ?_))))
   replace H := H.nilOwn Int n0 n0
   obtain rfl := sj h
   exact fin_ret (v := (.tuple #[(.agg #[(I 0), (.slice none 0 0), (I 0)]), (B false)])) (results_ok Try.results30 (res_cell rfl (run_cellRes (cs := [(I 0), (.slice none 0 0), (I 0)]) Try.underlying41 rfl ti41 rfl (H.cells 1 rfl)) (res_tmp (v := (B false)) rfl res_nil)) rfl) ⟨none, 0, rfl, rfl⟩ (H.sel' [0] rfl rfl)
  ·replace h := bif_f hb13 h
   refine c_skip (q_then (c_seq (rg (sm (Sl Ap Ao Aq) rfl (sm (I r9.1) rfl ?_)))))
   revert h; refine br fun x15 hx16 h => ?_
   obtain ⟨b18, o19, hi17, -⟩ := (H.ro 1 rfl).ix hx16
   refine st (v := (pt b18 o19)) (rv_ix Try.underlying33 ti41 rfl rfl hi17) ?_
   obtain ⟨_, ⟨_, _, rfl, rfl, ⟨_, _, rfl, ⟨_, rfl, hR24⟩, rfl⟩⟩, hl20, hc21⟩ := ((H.ro 1 rfl).at hx16 hi17).cells
   obtain ⟨a22, c23, rfl⟩ := hR24.isSl
   replace H := H.add (d := Ch.ro 0 (Sl a22 x15.2.1 c23) x15.2.1) hR24 (fun _ h => h)
   clear hR24
   refine st (v := (.agg #[(I x15.1), (Sl a22 x15.2.1 c23), (I x15.2.2)])) (rv_load Try.underlying41 rfl ti41 rfl hl20 hc21) ?_
   revert h; refine br fun r25 hx26 h => ?_
   have hc27 := c_impl_copyItem (Ak := a22) (Am := c23) hx26
   refine st_call (cx_call hc27 (ent_f hc27.fn rfl) hn0 (H.sel' [0, 0, 1, 2] rfl rfl : Hp S0 σ0 _ ([_] ++ _))) wn ?_
   rintro _ σ30 ⟨_, ⟨a28, c29, rfl, rfl⟩, H, -⟩
   replace H : Hp _ _ _ [_, _, _, _] := H
   refine st_exS (ex_store_box (k := 0) (cs := [(I 0), (.slice none 0 0), (I 0)]) (vs := [(I r25.1), (Sl a28 r25.2.1 c29), (I r25.2.2)]) (cs' := [(I r25.1), (Sl a28 r25.2.1 c29), (I r25.2.2)]) H (i := 2) rfl ti41 rfl rfl rfl rfl rfl (Nat.le_of_ble_eq_true rfl) (by simp [plain]) rfl) wn ?_
   rintro σ31 ⟨H, -⟩
   refine sa (B true) rfl (w_end (q_then (c_ret ?_)))
   obtain rfl := sj h
   exact fin_ret (v := (.tuple #[(.agg #[(I r25.1), (Sl a28 r25.2.1 c29), (I r25.2.2)]), (B true)])) (results_ok Try.results30 (res_cell rfl (run_cellRes (cs := [(I r25.1), (Sl a28 r25.2.1 c29), (I r25.2.2)]) Try.underlying41 rfl ti41 rfl (H.cells 0 rfl)) (res_tmp (v := (B true)) rfl res_nil)) rfl) ⟨a28, c29, rfl, rfl⟩ (H.sel' [1] rfl rfl)

end Go.Vs
