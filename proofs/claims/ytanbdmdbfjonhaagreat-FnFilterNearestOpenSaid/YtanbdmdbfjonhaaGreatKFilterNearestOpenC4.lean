/- The functions compute what their models say. -/
import Derived.Test.YtanbdmdbfjonhaaGreatKFilterNearestOpenC3
set_option linter.unusedVariables false
set_option linter.unusedSimpArgs false
set_option maxRecDepth 20000
namespace Go.Vs
open Go Go.Proofs
attribute [local irreducible] Code.wp Code.wpIn wpList wpListIn wpQuiet Calls CallsIn

theorem c_impl_Filter_itemsOf {Bk : Int × Int × Int} {Ap : List (Int × (List Int) × Int)} {Aq : Option Addr} {Ar : Nat} {r : (List (Int × (List Int) × Int))} (h : M.impl_Filter_itemsOf Bk Ap = some r) :
    Cal2 Tryz.prog 25 [(.agg #[(I Bk.1), (I Bk.2.1), (I Bk.2.2)]), (Sl Aq Ap Ar)] [Ch.ro 0 (Sl Aq Ap Ar) Ap] (fun n0 v L => ∃ (az1 : Option Addr), ∃ (cz2 : Nat), v = (Sl az1 r cz2) ∧ L = [Ch.own n0 0 (Sl az1 r cz2) r]) := by
 refine cal2 (n := 8) Tryz.func25 rfl rfl rfl rfl ?_
 intro S0 σ0 n0 hn0 H
 unfold M.impl_Filter_itemsOf at h
 refine c_seq (rg (st_ex (ex_box (cs := [(I Bk.1), (I Bk.2.1), (I Bk.2.2)]) H hn0 rfl rfl) wn ?_))
 rintro _ σ2 ⟨b1, rfl, H, -⟩
 refine sa (.slice none 0 0) rfl (w_end (q_then (c_seq (rg (sm (Sl Aq Ap Ar) rfl (st (v := (.func (.func 51) #[] #[(pt b1 0)])) (rv_makeFunc (vs := [(pt b1 0)]) rfl) ?_))))))
 revert h; refine br fun r3 hx4 h => ?_
 have hc5 := c_impl_itemsThat__x_impl_Filter_itemsOf_1 (Au := Aq) (Av := Ar) (Fr := n0) (Fs := b1) (Ft := 0) (Fu := []) (Fv := []) hx4
 refine st_call (cx_call hc5 (ent_f hc5.fn rfl) hn0 (H.sel' [1, 0, 1] rfl rfl : Hp S0 σ0 _ ([_, _] ++ _))) wn ?_
 rintro _ σ8 ⟨_, ⟨a6, c7, rfl, rfl⟩, H, -⟩
 replace H : Hp _ _ _ [_, _, _] := H
 refine sa (Sl a6 r3 c7) rfl (w_end (q_then (c_ret ?_)))
 obtain rfl := sj h
 exact fin_ret (v := (Sl a6 r3 c7)) (results_ok Tryz.results25 (res_tmp (v := (Sl a6 r3 c7)) rfl res_nil) rfl) ⟨a6, c7, rfl, rfl⟩ (H.sel' [0] rfl rfl)

theorem c_impl_FilterNearest {As : List (Int × (List Int) × Int)} {Fw : Int × Int × Int} {Fx : Int} {Fy : List Int} {Ga : Int} {Au : Option Addr} {Av : Nat} {Gb : Option Addr} {Gc : Nat} {r : (List (Int × Int))} (h : M.impl_FilterNearest As Fw Fx Fy Ga = some r) :
    Cal2 Tryz.prog 7 [(Sl Au As Av), (.agg #[(I Fw.1), (I Fw.2.1), (I Fw.2.2)]), (I Fx), (Sl Gb Fy Gc), (I Ga)] [Ch.ro 0 (Sl Au As Av) As, Ch.ro 0 (Sl Gb Fy Gc) Fy] (fun n0 v L => ∃ (az1 : Option Addr), ∃ (cz2 : Nat), v = (Sl az1 r cz2) ∧ L = [Ch.own 0 n0 (Sl az1 r cz2) r]) := by
 refine cal2 (n := 29) Tryz.func7 rfl rfl rfl rfl ?_
 intro S0 σ0 n0 hn0 H
 unfold M.impl_FilterNearest at h
 refine c_seq (rg (st_ex (ex_box (cs := [(I Fw.1), (I Fw.2.1), (I Fw.2.2)]) H hn0 rfl rfl) wn ?_))
 rintro _ σ2 ⟨b1, rfl, H, -⟩
 refine sa (.slice none 0 0) rfl (w_end (q_then (c_seq (c_seq ?_))))
 obtain ⟨o3, hj, h'⟩ := bind_some h
 clear h
 refine c_cut (fun e a w => e = .normal ∧ ∃ (ρ : Nat → Value) (σ : St), a = fr 29 (updL ρ [(0, (Sl Au As Av)), (2, (I Fx)), (3, (Sl Gb Fy Gc)), (4, (I Ga)), (6, (pt b1 0)), (21, (B o3))]) ∧ w = σ.w ∧ Hp S0 σ0 σ [Ch.ro 0 (Sl Au As Av) As, Ch.ro 0 (Sl Gb Fy Gc) Fy, Ch.bx n0 b1 0 [(I Fw.1), (I Fw.2.1), (I Fw.2.2)] [] []]) ?_ ?_
 ·clear h'
  rename _ = some o3 => h
  refine rg ?_
  have hc4 := H.cells 0 rfl
  refine st (v := (.agg #[(I Fw.1), (I Fw.2.1), (I Fw.2.2)])) (rv_load (cs := [(I Fw.1), (I Fw.2.1), (I Fw.2.2)]) Tryz.underlying25 rfl ti25 rfl rfl hc4) ?_
  revert h; refine br fun r5 hx6 h => ?_
  have hc7 := c_impl_ValidFilter hx6
  refine st_call (cx_call hc7 (ent_f hc7.fn rfl) hn0 (H.sel' [0, 1, 2] rfl rfl : Hp S0 σ0 _ ([] ++ _))) wn ?_
  rintro _ σ8 ⟨_, ⟨rfl, rfl⟩, H, -⟩
  replace H : Hp _ _ _ [_, _, _] := H
  refine st (v := (B (!r5))) (rv_not rfl) (sm (B (!r5)) rfl ?_)
  rcases Bool.eq_false_or_eq_true (!r5) with hb9 | hb9
  ·replace h := bif_t hb9 h
   refine st_skip (congrArg some hb9) (st_skip (congrArg some hb9) (st_skip (congrArg some hb9) (st_skip (congrArg some hb9) (st_skip (congrArg some hb9) (st_skip (congrArg some hb9) (st (v := (B true)) (rv_pick_t (congrArg B hb9) rfl) (w_end ?_)))))))
   obtain rfl := sj h
   exact ⟨rfl, _, σ8, fr_join ⟨rfl, rfl, rfl, rfl, rfl, rfl, trivial⟩, rfl, H.sel' [1, 2, 0] rfl rfl⟩
  ·replace h := bif_f hb9 h
   refine st_g (v := (Sl Au As Av)) (congrArg some hb9) (rv_move rfl) (st_g (v := (I Fx)) (congrArg some hb9) (rv_move rfl) (st_g (v := (Sl Gb Fy Gc)) (congrArg some hb9) (rv_move rfl) (st_g (v := (I Ga)) (congrArg some hb9) (rv_move rfl) ?_)))
   revert h; refine br fun r10 hx11 h => ?_
   have hc12 := c_impl_validSearch (Au := Au) (Av := Av) (Bu := Gb) (Bv := Gc) hx11
   refine st_call (cx_call hc12 (ent_f hc12.fn rfl) hn0 (H.sel' [1, 2, 0, 1, 2] rfl rfl : Hp S0 σ0 _ ([_, _] ++ _))) (wanted_yes rfl (by exact (congrArg some hb9))) ?_
   rintro _ σ13 ⟨_, ⟨rfl, rfl⟩, H, -⟩
   replace H : Hp _ _ _ [_, _, _] := H
   refine st_g (v := (B (!r10))) (congrArg some hb9) (rv_not rfl) (st (v := (B (!r10))) (rv_pick_f (congrArg B hb9) rfl) (w_end ?_))
   obtain rfl := sj h
   exact ⟨rfl, _, σ13, fr_join ⟨rfl, rfl, rfl, rfl, rfl, rfl, trivial⟩, rfl, H.sel' [1, 2, 0] rfl rfl⟩
 ·clear hj
  have h := h'
  clear h' H
  rintro e a w ⟨rfl, ρ, σ14, rfl, rfl, H⟩
  refine q_then ?_
  refine cd_cond o3 rfl (fun hb15 => ?_) (fun hb15 => ?_)
  ·replace h := bif_t hb15 h
   refine c_seq (rg (sa (.slice none 0 0) rfl (w_end (q_then (c_ret (q_then_r ?_))))))
   replace H := H.nilOwn (Int × Int) 0 n0
   obtain rfl := sj h
   exact fin_ret (v := (.slice none 0 0)) (results_ok Tryz.results7 (res_tmp (v := (.slice none 0 0)) rfl res_nil) rfl) ⟨none, 0, rfl, rfl⟩ (H.sel' [0] rfl rfl)
  ·replace h := bif_f hb15 h
   refine c_skip (q_then (c_seq (rg ?_)))
   have hc16 := H.cells 2 rfl
   refine st (v := (.agg #[(I Fw.1), (I Fw.2.1), (I Fw.2.2)])) (rv_load (cs := [(I Fw.1), (I Fw.2.1), (I Fw.2.2)]) Tryz.underlying25 rfl ti25 rfl rfl hc16) (sm (Sl Au As Av) rfl ?_)
   revert h; refine br fun r17 hx18 h => ?_
   have hc19 := c_impl_Filter_itemsOf (Aq := Au) (Ar := Av) hx18
   refine st_call (cx_call hc19 (ent_f hc19.fn rfl) hn0 (H.sel' [0, 0, 1, 2] rfl rfl : Hp S0 σ0 _ ([_] ++ _))) wn ?_
   rintro _ σ22 ⟨_, ⟨a20, c21, rfl, rfl⟩, H, -⟩
   replace H : Hp _ _ _ [_, _, _, _] := H
   refine sm (I Fx) rfl (sm (Sl Gb Fy Gc) rfl (sm (I Ga) rfl ?_))
   obtain ⟨σ23, hw24, H, -⟩ := H.pub 0 rfl (Nat.zero_le _)
   rw [← hw24]; clear hw24
   revert h; refine br fun r25 hx26 h => ?_
   have hc27 := c_impl_nearestAmong (Au := a20) (Av := c21) (Bu := Gb) (Bv := Gc) hx26
   refine st_call (cx_call hc27 (ent_f hc27.fn rfl) hn0 (H.sel' [0, 2, 0, 1, 2, 3] rfl rfl : Hp S0 σ0 _ ([_, _] ++ _))) wn ?_
   rintro _ σ30 ⟨_, ⟨a28, c29, rfl, rfl⟩, H, -⟩
   replace H : Hp _ _ _ [_, _, _, _, _] := H
   refine sa (Sl a28 r25 c29) rfl (w_end (q_then (c_ret ?_)))
   obtain rfl := sj h
   exact fin_ret (v := (Sl a28 r25 c29)) (results_ok Tryz.results7 (res_tmp (v := (Sl a28 r25 c29)) rfl res_nil) rfl) ⟨a28, c29, rfl, rfl⟩ (H.sel' [0] rfl rfl)

theorem c_laws_equalHits {Ck : List (Int × Int)} {Cl : List (Int × Int)} {Gd : Option Addr} {Ge : Nat} {Gf : Option Addr} {Gg : Nat} {r : Bool} (h : M.laws_equalHits Ck Cl = some r) :
    Cal2 Tryz.prog 8 [(Sl Gd Ck Ge), (Sl Gf Cl Gg)] [Ch.ro 0 (Sl Gd Ck Ge) Ck, Ch.ro 0 (Sl Gf Cl Gg) Cl] (fun n0 v L => v = (B r) ∧ L = []) := by
 refine cal2 (n := 26) Tryz.func8 rfl rfl rfl rfl ?_
 intro S0 σ0 n0 hn0 H
 unfold M.laws_equalHits at h
 refine c_seq (rg (sa (B false) rfl (w_end (q_then (c_seq (c_seq (rg (sm (Sl Gd Ck Ge) rfl (st (v := (I (Ck.length : Int))) (rv_len Tryz.underlying29 rfl) (sm (Sl Gf Cl Gg) rfl (st (v := (I (Cl.length : Int))) (rv_len Tryz.underlying29 rfl) ?_)))))))))))
 refine st (v := (B ((Ck.length : Int) != (Cl.length : Int)))) (rv_neq (a := (Ck.length : Int)) (b := (Cl.length : Int)) rfl rfl) (w_end (q_then ?_))
 refine cd_cond ((Ck.length : Int) != (Cl.length : Int)) rfl (fun hb1 => ?_) (fun hb1 => ?_)
 ·replace h := bif_t hb1 h
  refine c_seq (rg (sa (B false) rfl (w_end (q_then (c_ret (q_then_r ?_))))))
  obtain rfl := sj h
  exact fin_ret (v := (B false)) (results_ok Tryz.results8 (res_tmp (v := (B false)) rfl res_nil) rfl) ⟨rfl, rfl⟩ (H.sel' [] rfl rfl)
 ·replace h := bif_f hb1 h
  refine c_skip (q_then (c_seq (c_seq (rg (sa (I 0) rfl (w_end (q_then ?_)))))))
  obtain ⟨o2, hj, h'⟩ := bind_some h
  clear h
  refine c_cut (fun e a w => (∃ t, o2 = (.inl t) ∧ e = .normal ∧ ∃ (ρ : Nat → Value) (σ : St), a = fr 26 (updL ρ []) ∧ w = σ.w ∧ Hp S0 σ0 σ []) ∨ (∃ t, o2 = (.inr t) ∧ e = .ret ∧ ∃ (ρ : Nat → Value) (σ : St), a = fr 26 (updL ρ [(4, (B t))]) ∧ w = σ.w ∧ Hp S0 σ0 σ [])) ?_ ?_
  ·clear h'
   rename _ = some o2 => h
   refine c_blk (wp_loopM _ h (fun s3 a w => ∃ (ρ : Nat → Value) (σ : St), a = fr 26 (updL ρ [(0, (Sl Gd Ck Ge)), (1, (Sl Gf Cl Gg)), (5, (I s3))]) ∧ w = σ.w ∧ Hp S0 σ0 σ [Ch.ro 0 (Sl Gd Ck Ge) Ck, Ch.ro 0 (Sl Gf Cl Gg) Cl]) ⟨_, σ0, fr_join ⟨rfl, rfl, rfl, trivial⟩, rfl, H.sel' [0, 1] rfl rfl⟩ ?_)
   clear h H
   rintro s3 a w o ⟨ρ, σ4, rfl, rfl, H⟩ h hres
   refine c_seq (c_seq (rg (sm (I s3) rfl (sm (Sl Gd Ck Ge) rfl (st (v := (I (Ck.length : Int))) (rv_len Tryz.underlying29 rfl) (st (v := (B (decide (s3 < (Ck.length : Int))))) (rv_lss (a := s3) (b := (Ck.length : Int)) rfl rfl) (w_end (q_then ?_))))))))
   refine cd_cond (decide (s3 < (Ck.length : Int))) rfl (fun hb5 => ?_) (fun hb5 => ?_)
   ·replace h := bif_t hb5 h
    refine c_skip (q_then (c_seq (c_blk (c_seq ?_))))
    refine rgP (σ := σ4) 8 (by kernel_rfl) (by kernel_rfl) (by kernel_rfl) ?_
    refine sq (v := (Sl Gd Ck Ge)) (rv_move rfl) (sq (v := (I s3)) (rv_move rfl) ?_)
    revert h; refine br fun x6 hx7 h => ?_
    obtain ⟨b9, o10, hi8, -⟩ := (H.ro 0 rfl).ix hx7
    refine sq (v := (pt b9 o10)) (rv_ix Tryz.underlying29 ti37 rfl rfl hi8) ?_
    obtain ⟨_, ⟨_, _, rfl, rfl, rfl⟩, hl11, hc12⟩ := ((H.ro 0 rfl).at hx7 hi8).cells
    refine sq (v := (.agg #[(I x6.1), (I x6.2)])) (rv_load Tryz.underlying37 rfl ti37 rfl hl11 hc12) (sq (v := (Sl Gf Cl Gg)) (rv_move rfl) (sq (v := (I s3)) (rv_move rfl) ?_))
    revert h; refine br fun x13 hx14 h => ?_
    obtain ⟨b16, o17, hi15, -⟩ := (H.ro 1 rfl).ix hx14
    refine sq (v := (pt b16 o17)) (rv_ix Tryz.underlying29 ti37 rfl rfl hi15) ?_
    obtain ⟨_, ⟨_, _, rfl, rfl, rfl⟩, hl18, hc19⟩ := ((H.ro 1 rfl).at hx14 hi15).cells
    refine sq (v := (.agg #[(I x13.1), (I x13.2)])) (rv_load Tryz.underlying37 rfl ti37 rfl hl18 hc19) (sq_end ?_)
    intro σ20 hm21
    replace H := H.grow (hm21.mono fun _ h => h); clear hm21
    refine st (v := (B (!(([x6.1, x6.2] : List Int) == ([x13.1, x13.2] : List Int))))) (rv_neqI (xs := ([x6.1, x6.2] : List Int)) (ys := ([x13.1, x13.2] : List Int)) (by kernel_rfl) (by kernel_rfl) (by kernel_rfl) rfl (by kernel_rfl) (by exact intfs37) rfl rfl) ?_
    refine w_end (q_then ?_)
    refine cd_cond (!(([x6.1, x6.2] : List Int) == ([x13.1, x13.2] : List Int))) rfl (fun hb22 => ?_) (fun hb22 => ?_)
    ·replace h := bif_t hb22 h
     refine c_seq (rg (sa (B false) rfl (w_end (q_then (c_ret (q_blk_r (q_then_r (q_then_r (q_blk_r ?_)))))))))
     obtain rfl := sj h
     obtain rfl := hres _ rfl
     exact .inr (⟨_, rfl, rfl, _, σ20, fr_join ⟨rfl, trivial⟩, rfl, H.sel' [] rfl rfl⟩)
    ·replace h := bif_f hb22 h
     refine c_skip (q_blk (q_then (rg (sm (I s3) rfl (st (v := (I (w64 (s3 + 1)))) (rv_add (a := s3) (b := 1) rfl rfl) (sa (I (w64 (s3 + 1))) rfl (w_end (q_then ?_))))))))
     obtain rfl := sj h
     exact ⟨_, rfl, _, σ20, fr_join ⟨rfl, rfl, rfl, trivial⟩, rfl, H.sel' [0, 1] rfl rfl⟩
   ·replace h := bif_f hb5 h
    refine c_exit (q_then_x (q_then_x (q_blk_hit ?_)))
    obtain rfl := sj h
    obtain rfl := hres _ rfl
    exact .inl ⟨_, rfl, rfl, _, σ4, fr_join trivial, rfl, H.sel' [] rfl rfl⟩
  ·clear hj
   have h := h'
   clear h' H
   rintro e a w (⟨t23, rfl, rfl, ρ, σ24, rfl, rfl, H⟩ | ⟨t25, rfl, rfl, ρ, σ26, rfl, rfl, H⟩)
   ·replace h := selim_l h
    refine q_then (c_seq (rg (sa (B true) rfl (w_end (q_then (c_ret ?_))))))
    obtain rfl := sj h
    exact fin_ret (v := (B true)) (results_ok Tryz.results8 (res_tmp (v := (B true)) rfl res_nil) rfl) ⟨rfl, rfl⟩ (H.sel' [] rfl rfl)
   ·replace h := selim_r h
    refine q_then_r ?_
    obtain rfl := sj h
    exact fin_ret (v := (B t25)) (results_ok Tryz.results8 (res_tmp (v := (B t25)) rfl res_nil) rfl) ⟨rfl, rfl⟩ (H.sel' [] rfl rfl)

theorem c_spec_validFilter {Bk : Int × Int × Int}  {r : Bool} (h : M.spec_validFilter Bk = some r) :
    Cal2 Tryz.prog 26 [(.agg #[(I Bk.1), (I Bk.2.1), (I Bk.2.2)])] [] (fun n0 v L => v = (B r) ∧ L = []) := by
 refine cal2 (n := 16) Tryz.func26 rfl rfl rfl rfl ?_
 intro S0 σ0 n0 hn0 H
 unfold M.spec_validFilter at h
 refine c_seq (rg (st_ex (ex_box (cs := [(I Bk.1), (I Bk.2.1), (I Bk.2.2)]) H hn0 rfl rfl) wn ?_))
 rintro _ σ2 ⟨b1, rfl, H, -⟩
 refine sa (B false) rfl (w_end (q_then (c_seq (rg (st (v := (pt b1 0)) (rv_fieldAddr (off := 0) (ft := 3) Tryz.underlying25 rfl ti3 rfl rfl) ?_)))))
 have hc3 := H.cell (u := (I Bk.1)) (o' := 0) 0 0 rfl rfl rfl
 refine st (v := (I Bk.1)) (rv_load1 Tryz.underlying3 rfl rfl hc3) ?_
 revert h; refine br fun r4 hx5 h => ?_
 have hc6 := c_spec_inRange hx5
 refine st_call (cx_call hc6 (ent_f hc6.fn rfl) hn0 (H.sel' [0] rfl rfl : Hp S0 σ0 _ ([] ++ _))) wn ?_
 rintro _ σ7 ⟨_, ⟨rfl, rfl⟩, H, -⟩
 replace H : Hp _ _ _ [_] := H
 refine sm (B r4) rfl ?_
 rcases Bool.eq_false_or_eq_true r4 with hb8 | hb8
 ·replace h := bif_t hb8 h
  refine st_g (v := (pt b1 1)) (congrArg some hb8) (rv_fieldAddr (off := 1) (ft := 3) Tryz.underlying25 rfl ti3 rfl rfl) ?_
  have hc9 := H.cell (u := (I Bk.2.1)) (o' := 1) 0 1 rfl rfl rfl
  refine st_g (v := (I Bk.2.1)) (congrArg some hb8) (rv_load1 Tryz.underlying3 rfl rfl hc9) ?_
  revert h; refine br fun r10 hx11 h => ?_
  have hc12 := c_spec_inRange hx11
  refine st_call (cx_call hc12 (ent_f hc12.fn rfl) hn0 (H.sel' [0] rfl rfl : Hp S0 σ0 _ ([] ++ _))) (wanted_yes rfl (by exact (congrArg some hb8))) ?_
  rintro _ σ13 ⟨_, ⟨rfl, rfl⟩, H, -⟩
  replace H : Hp _ _ _ [_] := H
  refine st (v := (B r10)) (rv_pick_t (congrArg B hb8) rfl) (sm (B r10) rfl ?_)
  rcases Bool.eq_false_or_eq_true r10 with hb14 | hb14
  ·replace h := bif_t hb14 h
   refine st_g (v := (pt b1 2)) (congrArg some hb14) (rv_fieldAddr (off := 2) (ft := 3) Tryz.underlying25 rfl ti3 rfl rfl) ?_
   have hc15 := H.cell (u := (I Bk.2.2)) (o' := 2) 0 2 rfl rfl rfl
   refine st_g (v := (I Bk.2.2)) (congrArg some hb14) (rv_load1 Tryz.underlying3 rfl rfl hc15) ?_
   revert h; refine br fun r16 hx17 h => ?_
   have hc18 := c_spec_inRange hx17
   refine st_call (cx_call hc18 (ent_f hc18.fn rfl) hn0 (H.sel' [0] rfl rfl : Hp S0 σ0 _ ([] ++ _))) (wanted_yes rfl (by exact (congrArg some hb14))) ?_
   rintro _ σ19 ⟨_, ⟨rfl, rfl⟩, H, -⟩
   replace H : Hp _ _ _ [_] := H
   refine st (v := (B r16)) (rv_pick_t (congrArg B hb14) rfl) (sa (B r16) rfl (w_end (q_then (c_ret ?_))))
   obtain rfl := sj h
   exact fin_ret (v := (B r16)) (results_ok Tryz.results26 (res_tmp (v := (B r16)) rfl res_nil) rfl) ⟨rfl, rfl⟩ (H.sel' [] rfl rfl)
  ·replace h := bif_f hb14 h
   refine st_skip (congrArg some hb14) (st_skip (congrArg some hb14) (st_skip (congrArg some hb14) (st (v := (B false)) (rv_pick_f (congrArg B hb14) rfl) (sa (B false) rfl (w_end (q_then (c_ret ?_)))))))
   obtain rfl := sj h
   exact fin_ret (v := (B false)) (results_ok Tryz.results26 (res_tmp (v := (B false)) rfl res_nil) rfl) ⟨rfl, rfl⟩ (H.sel' [] rfl rfl)
 ·replace h := bif_f hb8 h
  refine st_skip (congrArg some hb8) (st_skip (congrArg some hb8) (st_skip (congrArg some hb8) (st (v := (B false)) (rv_pick_f (congrArg B hb8) rfl) (sm (B false) rfl (st_skip rfl (st_skip rfl (st_skip rfl (st (v := (B false)) (rv_pick_f rfl rfl) (sa (B false) rfl (w_end (q_then ?_)))))))))))
  refine c_ret ?_
  obtain rfl := sj h
  exact fin_ret (v := (B false)) (results_ok Tryz.results26 (res_tmp (v := (B false)) rfl res_nil) rfl) ⟨rfl, rfl⟩ (H.sel' [] rfl rfl)

theorem c_spec_validKind {Bp : Int}  {r : Bool} (h : M.spec_validKind Bp = some r) :
    Cal2 Tryz.prog 53 [(I Bp)] [] (fun n0 v L => v = (B r) ∧ L = []) := by
 refine cal2 (n := 5) Tryz.func53 rfl rfl rfl rfl ?_
 intro S0 σ0 n0 hn0 H
 unfold M.spec_validKind at h
 refine c_seq (rg (sa (B false) rfl (w_end (q_then (c_seq (rg (sm (I Bp) rfl ?_)))))))
 revert h; refine br fun r1 hx2 h => ?_
 have hc3 := c_spec_inRange hx2
 refine st_call (cx_call hc3 (ent_f hc3.fn rfl) hn0 (H.sel' [] rfl rfl : Hp S0 σ0 _ ([] ++ _))) wn ?_
 rintro _ σ4 ⟨_, ⟨rfl, rfl⟩, H, -⟩
 replace H : Hp _ _ _ [] := H
 refine sa (B r1) rfl (w_end (q_then (c_ret ?_)))
 obtain rfl := sj h
 exact fin_ret (v := (B r1)) (results_ok Tryz.results53 (res_tmp (v := (B r1)) rfl res_nil) rfl) ⟨rfl, rfl⟩ (H.sel' [] rfl rfl)

theorem c_spec_validQuery {As : List (Int × (List Int) × Int)} {Br : Int} {Bs : List Int} {Au : Option Addr} {Av : Nat} {Bu : Option Addr} {Bv : Nat} {r : Bool} (h : M.spec_validQuery As Br Bs = some r) :
    Cal2 Tryz.prog 27 [(Sl Au As Av), (I Br), (Sl Bu Bs Bv)] [Ch.ro 0 (Sl Au As Av) As, Ch.ro 0 (Sl Bu Bs Bv) Bs] (fun n0 v L => v = (B r) ∧ L = []) := by
 refine cal2 (n := 17) Tryz.func27 rfl rfl rfl rfl ?_
 intro S0 σ0 n0 hn0 H
 unfold M.spec_validQuery at h
 refine c_seq (rg (sa (B false) rfl (w_end (q_then (c_seq (rg (sm (Sl Au As Av) rfl ?_)))))))
 revert h; refine br fun r1 hx2 h => ?_
 have hc3 := c_spec_validStore (Au := Au) (Av := Av) hx2
 refine st_call (cx_call hc3 (ent_f hc3.fn rfl) hn0 (H.sel' [0, 0, 1] rfl rfl : Hp S0 σ0 _ ([_] ++ _))) wn ?_
 rintro _ σ4 ⟨_, ⟨rfl, rfl⟩, H, -⟩
 replace H : Hp _ _ _ [_, _] := H
 refine sm (B r1) rfl ?_
 rcases Bool.eq_false_or_eq_true r1 with hb5 | hb5
 ·replace h := bif_t hb5 h
  refine st_g (v := (I Br)) (congrArg some hb5) (rv_move rfl) ?_
  revert h; refine br fun r6 hx7 h => ?_
  have hc8 := c_spec_validKind hx7
  refine st_call (cx_call hc8 (ent_f hc8.fn rfl) hn0 (H.sel' [0, 1] rfl rfl : Hp S0 σ0 _ ([] ++ _))) (wanted_yes rfl (by exact (congrArg some hb5))) ?_
  rintro _ σ9 ⟨_, ⟨rfl, rfl⟩, H, -⟩
  replace H : Hp _ _ _ [_, _] := H
  refine st (v := (B r6)) (rv_pick_t (congrArg B hb5) rfl) (sm (B r6) rfl ?_)
  rcases Bool.eq_false_or_eq_true r6 with hb10 | hb10
  ·replace h := bif_t hb10 h
   refine st_g (v := (Sl Bu Bs Bv)) (congrArg some hb10) (rv_move rfl) ?_
   revert h; refine br fun r11 hx12 h => ?_
   have hc13 := c_spec_isVector (Bb := Bu) (Bc := Bv) hx12
   refine st_call (cx_call hc13 (ent_f hc13.fn rfl) hn0 (H.sel' [1, 0, 1] rfl rfl : Hp S0 σ0 _ ([_] ++ _))) (wanted_yes rfl (by exact (congrArg some hb10))) ?_
   rintro _ σ14 ⟨_, ⟨rfl, rfl⟩, H, -⟩
   replace H : Hp _ _ _ [_, _] := H
   refine st (v := (B r11)) (rv_pick_t (congrArg B hb10) rfl) (sa (B r11) rfl (w_end (q_then (c_ret ?_))))
   obtain rfl := sj h
   exact fin_ret (v := (B r11)) (results_ok Tryz.results27 (res_tmp (v := (B r11)) rfl res_nil) rfl) ⟨rfl, rfl⟩ (H.sel' [] rfl rfl)
  ·replace h := bif_f hb10 h
   refine st_skip (congrArg some hb10) (st_skip (congrArg some hb10) (st (v := (B false)) (rv_pick_f (congrArg B hb10) rfl) (sa (B false) rfl (w_end (q_then (c_ret ?_))))))
   obtain rfl := sj h
   exact fin_ret (v := (B false)) (results_ok Tryz.results27 (res_tmp (v := (B false)) rfl res_nil) rfl) ⟨rfl, rfl⟩ (H.sel' [] rfl rfl)
 ·replace h := bif_f hb5 h
  refine st_skip (congrArg some hb5) (st_skip (congrArg some hb5) (st (v := (B false)) (rv_pick_f (congrArg B hb5) rfl) (sm (B false) rfl (st_skip rfl (st_skip rfl (st (v := (B false)) (rv_pick_f rfl rfl) (sa (B false) rfl (w_end (q_then (c_ret ?_))))))))))
  obtain rfl := sj h
  exact fin_ret (v := (B false)) (results_ok Tryz.results27 (res_tmp (v := (B false)) rfl res_nil) rfl) ⟨rfl, rfl⟩ (H.sel' [] rfl rfl)

theorem c_spec_nearer {Ck : Int × Int} {Cl : Int × Int}  {r : Bool} (h : M.spec_nearer Ck Cl = some r) :
    Cal2 Tryz.prog 78 [(.agg #[(I Ck.1), (I Ck.2)]), (.agg #[(I Cl.1), (I Cl.2)])] [] (fun n0 v L => v = (B r) ∧ L = []) := by
 refine cal2 (n := 24) Tryz.func78 rfl rfl rfl rfl ?_
 intro S0 σ0 n0 hn0 H
 unfold M.spec_nearer at h
 refine c_seq (rg (st_ex (ex_box (cs := [(I Ck.1), (I Ck.2)]) H hn0 rfl rfl) wn ?_))
 rintro _ σ2 ⟨b1, rfl, H, -⟩
 refine st_ex (ex_box (cs := [(I Cl.1), (I Cl.2)]) H hn0 rfl rfl) wn ?_
 rintro _ σ4 ⟨b3, rfl, H, -⟩
 refine sa (B false) rfl (w_end (q_then (c_seq (rg (st (v := (pt b1 1)) (rv_fieldAddr (off := 1) (ft := 3) Tryz.underlying37 rfl ti3 rfl rfl) ?_)))))
 have hc5 := H.cell (u := (I Ck.2)) (o' := 1) 1 1 rfl rfl rfl
 refine st (v := (I Ck.2)) (rv_load1 Tryz.underlying3 rfl rfl hc5) (st (v := (pt b3 1)) (rv_fieldAddr (off := 1) (ft := 3) Tryz.underlying37 rfl ti3 rfl rfl) ?_)
 have hc6 := H.cell (u := (I Cl.2)) (o' := 1) 0 1 rfl rfl rfl
 refine st (v := (I Cl.2)) (rv_load1 Tryz.underlying3 rfl rfl hc6) (st (v := (B (decide (Ck.2 < Cl.2)))) (rv_lss (a := Ck.2) (b := Cl.2) rfl rfl) (sm (B (decide (Ck.2 < Cl.2))) rfl ?_))
 rcases Bool.eq_false_or_eq_true (decide (Ck.2 < Cl.2)) with hb7 | hb7
 ·replace h := bif_t hb7 h
  refine st_skip (congrArg some hb7) (st_skip (congrArg some hb7) (st_skip (congrArg some hb7) (st_skip (congrArg some hb7) (st_skip (congrArg some hb7) (st_skip (congrArg some hb7) (st_skip_u rfl (st_skip_u rfl (st_skip_u rfl (st_skip_u rfl (st_skip_u rfl (st_skip (congrArg some hb7) ?_)))))))))))
  refine st (v := (B true)) (rv_pick_t (congrArg B hb7) rfl) (sa (B true) rfl (w_end (q_then (c_ret ?_))))
  obtain rfl := sj h
  exact fin_ret (v := (B true)) (results_ok Tryz.results78 (res_tmp (v := (B true)) rfl res_nil) rfl) ⟨rfl, rfl⟩ (H.sel' [] rfl rfl)
 ·replace h := bif_f hb7 h
  refine st_g (v := (pt b1 1)) (congrArg some hb7) (rv_fieldAddr (off := 1) (ft := 3) Tryz.underlying37 rfl ti3 rfl rfl) ?_
  have hc8 := H.cell (u := (I Ck.2)) (o' := 1) 1 1 rfl rfl rfl
  refine st_g (v := (I Ck.2)) (congrArg some hb7) (rv_load1 Tryz.underlying3 rfl rfl hc8) (st_g (v := (pt b3 1)) (congrArg some hb7) (rv_fieldAddr (off := 1) (ft := 3) Tryz.underlying37 rfl ti3 rfl rfl) ?_)
  have hc9 := H.cell (u := (I Cl.2)) (o' := 1) 0 1 rfl rfl rfl
  refine st_g (v := (I Cl.2)) (congrArg some hb7) (rv_load1 Tryz.underlying3 rfl rfl hc9) (st_g (v := (B (Ck.2 == Cl.2))) (congrArg some hb7) (rv_eql (a := Ck.2) (b := Cl.2) rfl rfl) (st_g (v := (B (Ck.2 == Cl.2))) (congrArg some hb7) (rv_move rfl) ?_))
  rcases Bool.eq_false_or_eq_true (Ck.2 == Cl.2) with hb10 | hb10
  ·replace h := bif_t hb10 h
   refine st_g (v := (pt b1 0)) (congrArg some hb10) (rv_fieldAddr (off := 0) (ft := 3) Tryz.underlying37 rfl ti3 rfl rfl) ?_
   have hc11 := H.cell (u := (I Ck.1)) (o' := 0) 1 0 rfl rfl rfl
   refine st_g (v := (I Ck.1)) (congrArg some hb10) (rv_load1 Tryz.underlying3 rfl rfl hc11) (st_g (v := (pt b3 0)) (congrArg some hb10) (rv_fieldAddr (off := 0) (ft := 3) Tryz.underlying37 rfl ti3 rfl rfl) ?_)
   have hc12 := H.cell (u := (I Cl.1)) (o' := 0) 0 0 rfl rfl rfl
   refine st_g (v := (I Cl.1)) (congrArg some hb10) (rv_load1 Tryz.underlying3 rfl rfl hc12) (st_g (v := (B (decide (Ck.1 < Cl.1)))) (congrArg some hb10) (rv_lss (a := Ck.1) (b := Cl.1) rfl rfl) (st_g (v := (B (decide (Ck.1 < Cl.1)))) (congrArg some hb7) (rv_pick_t (congrArg B hb10) rfl) (st (v := (B (decide (Ck.1 < Cl.1)))) (rv_pick_f (congrArg B hb7) rfl) (sa (B (decide (Ck.1 < Cl.1))) rfl (w_end (q_then (c_ret ?_)))))))
   obtain rfl := sj h
   exact fin_ret (v := (B (decide (Ck.1 < Cl.1)))) (results_ok Tryz.results78 (res_tmp (v := (B (decide (Ck.1 < Cl.1)))) rfl res_nil) rfl) ⟨rfl, rfl⟩ (H.sel' [] rfl rfl)
  ·replace h := bif_f hb10 h
   refine st_skip (congrArg some hb10) (st_skip (congrArg some hb10) (st_skip (congrArg some hb10) (st_skip (congrArg some hb10) (st_skip (congrArg some hb10) (st_g (v := (B false)) (congrArg some hb7) (rv_pick_f (congrArg B hb10) rfl) (st (v := (B false)) (rv_pick_f (congrArg B hb7) rfl) (sa (B false) rfl (w_end (q_then (c_ret ?_))))))))))
   obtain rfl := sj h
   exact fin_ret (v := (B false)) (results_ok Tryz.results78 (res_tmp (v := (B false)) rfl res_nil) rfl) ⟨rfl, rfl⟩ (H.sel' [] rfl rfl)

theorem c_spec_addHit {As : List (Int × Int)} {Cr : Int × Int} {Gh : Int} {Au : Option Addr} {Av : Nat} {r : (List (Int × Int))} (h : M.spec_addHit As Cr Gh = some r) :
    Cal2 Tryz.prog 55 [(Sl Au As Av), (.agg #[(I Cr.1), (I Cr.2)]), (I Gh)] [Ch.ro 0 (Sl Au As Av) As] (fun n0 v L => ∃ (az1 : Option Addr), ∃ (cz2 : Nat), v = (Sl az1 r cz2) ∧ L = [Ch.own n0 n0 (Sl az1 r cz2) r]) := by
 refine cal2 (n := 58) Tryz.func55 rfl rfl rfl rfl ?_
 intro S0 σ0 n0 hn0 H
 unfold M.spec_addHit at h
 refine c_seq (rg (st_ex (ex_box (cs := [(I Cr.1), (I Cr.2)]) H hn0 rfl rfl) wn ?_))
 rintro _ σ2 ⟨b1, rfl, H, -⟩
 refine sa (.slice none 0 0) rfl (w_end (q_then (c_seq ?_)))
 revert h; refine br fun xs4 hx5 h => ?_
 have hc8 := H.cells 0 rfl
 have Hs := H
 refine rg2 (σ := σ2) (Nm := (Nat) × (Option Addr) × (Nat) × (Nat)) 5 [0, 2, 4] [[false, false, false], [true, false, false], [false, false, true], [true, true, false], [true, false, true], [true, true, true]] [[(0, 1), (2, 4)], [(0, 0), (1, 1), (2, 2), (4, 4)], [(1, 3), (4, 5)], [(0, 0), (1, 1), (3, 3)], [(0, 2), (1, 4), (3, 5)]] 5 [fun ((b3, a6, c7, b9) : (Nat) × (Option Addr) × (Nat) × (Nat)) => fun σm => Hp S0 σ0 σm [Ch.bx n0 b1 0 [(I Cr.1), (I Cr.2)] [] [], Ch.ro 0 (Sl Au As Av) As] ∧ Md (cov []) σ2 σm, fun ((b3, a6, c7, b9) : (Nat) × (Option Addr) × (Nat) × (Nat)) => fun σm => Hp S0 σ0 σm [Ch.own n0 n0 (Sl (some ⟨b3, 0, none⟩) ([] : List (Int × Int)) 0) ([] : List (Int × Int)), Ch.bx n0 b1 0 [(I Cr.1), (I Cr.2)] [] [], Ch.ro 0 (Sl Au As Av) As] ∧ Md (cov []) σ2 σm, fun ((b3, a6, c7, b9) : (Nat) × (Option Addr) × (Nat) × (Nat)) => fun σm => Hp S0 σ0 σm [Ch.own n0 n0 (Sl (some ⟨b9, 0, none⟩) ([(Cr.1, Cr.2)] : List (Int × Int)) 1) ([(Cr.1, Cr.2)] : List (Int × Int)), Ch.bx n0 b1 0 [(I Cr.1), (I Cr.2)] [] [], Ch.ro 0 (Sl Au As Av) As] ∧ Md (cov []) σ2 σm, fun ((b3, a6, c7, b9) : (Nat) × (Option Addr) × (Nat) × (Nat)) => fun σm => Hp S0 σ0 σm [Ch.own n0 n0 (Sl a6 xs4 c7) xs4, Ch.bx n0 b1 0 [(I Cr.1), (I Cr.2)] [] [], Ch.ro 0 (Sl Au As Av) As] ∧ Md (fun i => (cov []) i ∨ (fun b => blk (Sl (some ⟨b3, 0, none⟩) ([] : List (Int × Int)) 0) = some b) i) σ2 σm, fun ((b3, a6, c7, b9) : (Nat) × (Option Addr) × (Nat) × (Nat)) => fun σm => Hp S0 σ0 σm [Ch.own n0 n0 (Sl (some ⟨b9, 0, none⟩) ([(Cr.1, Cr.2)] : List (Int × Int)) 1) ([(Cr.1, Cr.2)] : List (Int × Int)), Ch.own n0 n0 (Sl (some ⟨b3, 0, none⟩) ([] : List (Int × Int)) 0) ([] : List (Int × Int)), Ch.bx n0 b1 0 [(I Cr.1), (I Cr.2)] [] [], Ch.ro 0 (Sl Au As Av) As] ∧ Md (cov []) σ2 σm, fun ((b3, a6, c7, b9) : (Nat) × (Option Addr) × (Nat) × (Nat)) => fun σm => Hp S0 σ0 σm [Ch.own n0 n0 (Sl (some ⟨b9, 0, none⟩) ([(Cr.1, Cr.2)] : List (Int × Int)) 1) ([(Cr.1, Cr.2)] : List (Int × Int)), Ch.own n0 n0 (Sl a6 xs4 c7) xs4, Ch.bx n0 b1 0 [(I Cr.1), (I Cr.2)] [] [], Ch.ro 0 (Sl Au As Av) As] ∧ Md (fun i => (cov []) i ∨ (fun b => blk (Sl (some ⟨b3, 0, none⟩) ([] : List (Int × Int)) 0) = some b) i) σ2 σm] [fun ((b3, a6, c7, b9) : (Nat) × (Option Addr) × (Nat) × (Nat)) => (Sl (some ⟨b3, 0, none⟩) ([] : List (Int × Int)) 0), fun ((b3, a6, c7, b9) : (Nat) × (Option Addr) × (Nat) × (Nat)) => (Sl Au As Av), fun ((b3, a6, c7, b9) : (Nat) × (Option Addr) × (Nat) × (Nat)) => (Sl a6 xs4 c7), fun ((b3, a6, c7, b9) : (Nat) × (Option Addr) × (Nat) × (Nat)) => (.agg #[(I Cr.1), (I Cr.2)]), fun ((b3, a6, c7, b9) : (Nat) × (Option Addr) × (Nat) × (Nat)) => (Sl (some ⟨b9, 0, none⟩) ([(Cr.1, Cr.2)] : List (Int × Int)) 1)] (0, none, 0, 0) (by kernel_rfl) (by kernel_rfl) ?_ ?_ ?_
 ·intro σm m0
  exact ⟨H.grow (m0.mono fun _ h => h.elim), m0⟩
 ·refine all_cons (by
    refine ⟨?_, ?_⟩
    ·rintro ⟨b3, a6, c7, b9⟩ ρ σm hJ hoff hdep
     obtain ⟨H, m⟩ := id hJ
     refine dp_ex wn (ex_buildSlice (el := n0) (xs := ([] : List (Int × Int))) (ps := []) (cs := []) H hn0 Tryz.underlying29 ti37 rfl rfl (by kernel_rfl) (.nil) rfl) ?_
     rintro _ σq ⟨b3x, rfl, H2, m2⟩
     exact ⟨_, (b3x, a6, c7, b9), rfl, rfl, ⟨H2.sel' [0, 1, 2] rfl rfl, m.comp0 m2⟩, stab [1, 3, 4] (by kernel_rfl) ⟨rfl, rfl, rfl, trivial⟩⟩
    refine ⟨?_, ?_⟩
    ·rintro ⟨b3, a6, c7, b9⟩ ρ σm hJ hoff hdep
     obtain ⟨H, m⟩ := id hJ
     refine dp_ex wn (ex_buildSlice (el := n0) (xs := ([] : List (Int × Int))) (ps := []) (cs := []) H hn0 Tryz.underlying29 ti37 rfl rfl (by kernel_rfl) (.nil) rfl) ?_
     rintro _ σq ⟨b3x, rfl, H2, m2⟩
     exact ⟨_, (b3x, a6, c7, b9), rfl, rfl, ⟨H2.sel' [1, 0, 2, 3] rfl rfl, m.comp0 m2⟩, stab [1, 3, 4] (by kernel_rfl) ⟨rfl, rfl, rfl, trivial⟩⟩
    trivial) ?_
  refine ac rfl (by
    intro k; rintro ⟨b3, a6, c7, b9⟩ ρ σm hJ hoff hdep
    have e0 := look_off (N := 58) (hoff 0 rfl) rfl
    exact dp_v (v := (Sl Au As Av)) wn (rv_move e0) rfl hJ) ?_
  refine all_cons (by
    refine ⟨?_, ?_⟩
    ·rintro ⟨b3, a6, c7, b9⟩ ρ σm hJ hoff hdep
     have e10 := hdep 0 rfl rfl 10 rfl
     have e11 := hdep 1 rfl rfl 11 rfl
     obtain ⟨H, m⟩ := id hJ
     refine dp_ex wn (ex_append H (i := 0) rfl Tryz.underlying29 Tryz.underlying29 ti37 rfl rfl (by decide) ((H.ro 2 rfl).rd.sc) hx5 hn0 e10 e11) ?_
     rintro _ σq ⟨a6x, c7x, rfl, H2, m2⟩
     exact ⟨_, (b3, a6x, c7x, b9), rfl, rfl, ⟨H2.sel' [0, 1, 2] rfl rfl, m.comp m2⟩, stab [0, 1, 3, 4] (by kernel_rfl) ⟨rfl, rfl, rfl, rfl, trivial⟩⟩
    refine ⟨?_, ?_⟩
    ·rintro ⟨b3, a6, c7, b9⟩ ρ σm hJ hoff hdep
     have e10 := hdep 0 rfl rfl 10 rfl
     have e11 := hdep 1 rfl rfl 11 rfl
     obtain ⟨H, m⟩ := id hJ
     refine dp_ex wn (ex_append H (i := 1) rfl Tryz.underlying29 Tryz.underlying29 ti37 rfl rfl (by decide) ((H.ro 3 rfl).rd.sc) hx5 hn0 e10 e11) ?_
     rintro _ σq ⟨a6x, c7x, rfl, H2, m2⟩
     exact ⟨_, (b3, a6x, c7x, b9), rfl, rfl, ⟨H2.sel' [1, 0, 2, 3] rfl rfl, m.comp m2⟩, stab [0, 1, 3, 4] (by kernel_rfl) ⟨rfl, rfl, rfl, rfl, trivial⟩⟩
    trivial) ?_
  refine all_cons (by
    refine ⟨?_, ?_⟩
    ·rintro ⟨b3, a6, c7, b9⟩ ρ σm hJ hoff hdep
     have e4 := look_off (N := 58) (hoff 4 rfl) rfl
     obtain ⟨H, m⟩ := id hJ
     have hc8 := H.cells 0 rfl
     exact dp_v (v := (.agg #[(I Cr.1), (I Cr.2)])) wn (rv_load (cs := [(I Cr.1), (I Cr.2)]) Tryz.underlying37 rfl ti37 e4 rfl hc8) rfl hJ
    refine ⟨?_, ?_⟩
    ·rintro ⟨b3, a6, c7, b9⟩ ρ σm hJ hoff hdep
     have e4 := look_off (N := 58) (hoff 4 rfl) rfl
     obtain ⟨H, m⟩ := id hJ
     have hc8 := H.cells 1 rfl
     exact dp_v (v := (.agg #[(I Cr.1), (I Cr.2)])) wn (rv_load (cs := [(I Cr.1), (I Cr.2)]) Tryz.underlying37 rfl ti37 e4 rfl hc8) rfl hJ
    refine ⟨?_, ?_⟩
    ·rintro ⟨b3, a6, c7, b9⟩ ρ σm hJ hoff hdep
     have e4 := look_off (N := 58) (hoff 4 rfl) rfl
     obtain ⟨H, m⟩ := id hJ
     have hc8 := H.cells 1 rfl
     exact dp_v (v := (.agg #[(I Cr.1), (I Cr.2)])) wn (rv_load (cs := [(I Cr.1), (I Cr.2)]) Tryz.underlying37 rfl ti37 e4 rfl hc8) rfl hJ
    trivial) ?_
  refine all_cons (by
    refine ⟨?_, ?_⟩
    ·rintro ⟨b3, a6, c7, b9⟩ ρ σm hJ hoff hdep
     have e13 : look 58 ρ 13 = (.agg #[(I Cr.1), (I Cr.2)]) := hdep 3 rfl rfl 13 rfl
     obtain ⟨H, m⟩ := id hJ
     refine dp_ex wn (ex_buildSlice (el := n0) (xs := ([(Cr.1, Cr.2)] : List (Int × Int))) (ps := [(0, (.agg #[(I Cr.1), (I Cr.2)]))]) (cs := [(I Cr.1), (I Cr.2)]) H hn0 Tryz.underlying29 ti37 rfl (by show [(0, look 58 ρ 13)] = _; rw [e13]) (by kernel_rfl) (.cons (c := [(I Cr.1), (I Cr.2)]) ⟨[(I Cr.1)], [(I Cr.2)], rfl, rfl, rfl⟩ (.nil)) rfl) ?_
     rintro _ σq ⟨b9x, rfl, H2, m2⟩
     exact ⟨_, (b3, a6, c7, b9x), rfl, rfl, ⟨H2.sel' [0, 1, 2] rfl rfl, m.comp0 m2⟩, stab [0, 1, 2, 3] (by kernel_rfl) ⟨rfl, rfl, rfl, rfl, trivial⟩⟩
    refine ⟨?_, ?_⟩
    ·rintro ⟨b3, a6, c7, b9⟩ ρ σm hJ hoff hdep
     have e13 : look 58 ρ 13 = (.agg #[(I Cr.1), (I Cr.2)]) := hdep 3 rfl rfl 13 rfl
     obtain ⟨H, m⟩ := id hJ
     refine dp_ex wn (ex_buildSlice (el := n0) (xs := ([(Cr.1, Cr.2)] : List (Int × Int))) (ps := [(0, (.agg #[(I Cr.1), (I Cr.2)]))]) (cs := [(I Cr.1), (I Cr.2)]) H hn0 Tryz.underlying29 ti37 rfl (by show [(0, look 58 ρ 13)] = _; rw [e13]) (by kernel_rfl) (.cons (c := [(I Cr.1), (I Cr.2)]) ⟨[(I Cr.1)], [(I Cr.2)], rfl, rfl, rfl⟩ (.nil)) rfl) ?_
     rintro _ σq ⟨b9x, rfl, H2, m2⟩
     exact ⟨_, (b3, a6, c7, b9x), rfl, rfl, ⟨H2.sel' [0, 1, 2, 3] rfl rfl, m.comp0 m2⟩, stab [0, 1, 2, 3] (by kernel_rfl) ⟨rfl, rfl, rfl, rfl, trivial⟩⟩
    refine ⟨?_, ?_⟩
    ·rintro ⟨b3, a6, c7, b9⟩ ρ σm hJ hoff hdep
     have e13 : look 58 ρ 13 = (.agg #[(I Cr.1), (I Cr.2)]) := hdep 3 rfl rfl 13 rfl
     obtain ⟨H, m⟩ := id hJ
     refine dp_ex wn (ex_buildSlice (el := n0) (xs := ([(Cr.1, Cr.2)] : List (Int × Int))) (ps := [(0, (.agg #[(I Cr.1), (I Cr.2)]))]) (cs := [(I Cr.1), (I Cr.2)]) H hn0 Tryz.underlying29 ti37 rfl (by show [(0, look 58 ρ 13)] = _; rw [e13]) (by kernel_rfl) (.cons (c := [(I Cr.1), (I Cr.2)]) ⟨[(I Cr.1)], [(I Cr.2)], rfl, rfl, rfl⟩ (.nil)) rfl) ?_
     rintro _ σq ⟨b9x, rfl, H2, m2⟩
     exact ⟨_, (b3, a6, c7, b9x), rfl, rfl, ⟨H2.sel' [0, 1, 2, 3] rfl rfl, m.comp0 m2⟩, stab [0, 1, 2, 3] (by kernel_rfl) ⟨rfl, rfl, rfl, rfl, trivial⟩⟩
    trivial) ?_
  exact all_nil
 ·rintro ⟨b3, a6, c7, b9⟩ ρ σ10 hJ hoff hrel
  have e2 := look_off (N := 58) (hoff 2 rfl) rfl
  have e12 := hrel 2 rfl 12 rfl
  have e14 := hrel 4 rfl 14 rfl
  obtain ⟨H, -⟩ := (show Hp S0 σ0 σ10 [Ch.own n0 n0 (Sl (some ⟨b9, 0, none⟩) ([(Cr.1, Cr.2)] : List (Int × Int)) 1) ([(Cr.1, Cr.2)] : List (Int × Int)), Ch.own n0 n0 (Sl a6 xs4 c7) xs4, Ch.bx n0 b1 0 [(I Cr.1), (I Cr.2)] [] [], Ch.ro 0 (Sl Au As Av) As] ∧ Md (fun i => (cov []) i ∨ (fun b => blk (Sl (some ⟨b3, 0, none⟩) ([] : List (Int × Int)) 0) = some b) i) σ2 σ10 from hJ)
  clear hJ Hs
  rw [fr_lookL (L := [(2, (I Gh)), (12, (Sl a6 xs4 c7)), (14, (Sl (some ⟨b9, 0, none⟩) ([(Cr.1, Cr.2)] : List (Int × Int)) 1))]) ⟨e2, e12, e14, trivial⟩]
  clear hoff hrel e2 e12 e14
  revert h; refine br fun xs11 hx12 h => ?_
  refine st_ex (ex_append H (i := 1) rfl Tryz.underlying29 Tryz.underlying29 ti37 rfl rfl (by decide) (H.own 0 rfl).rd hx12 hn0 rfl rfl) wn ?_
  rintro _ σ15 ⟨a13, c14, rfl, H, -⟩
  refine sa (Sl a13 xs11 c14) rfl (w_end (q_then (c_seq (c_seq (rg (sm (Sl a13 xs11 c14) rfl (st (v := (I (xs11.length : Int))) (rv_len Tryz.underlying29 rfl) (st (v := (I (w64 ((xs11.length : Int) - 1)))) (rv_sub (a := (xs11.length : Int)) (b := 1) rfl rfl) (sa (I (w64 ((xs11.length : Int) - 1))) rfl (w_end (q_then ?_)))))))))))
  obtain ⟨o16, hj, h'⟩ := bind_some h
  clear h
  refine c_cut (fun e a w => e = .normal ∧ ∃ (ρ : Nat → Value) (σ : St), a = fr 58 (updL ρ [(2, (I Gh)), (7, (Sl a13 o16 c14))]) ∧ w = σ.w ∧ Hp S0 σ0 σ [Ch.own n0 n0 (Sl a13 o16 c14) o16] ∧ o16.length = xs11.length) ?_ ?_
  ·clear h'
   rename _ = some o16 => h
   refine c_blk (wp_loopM _ h (fun s17 a w => ∃ (ρ : Nat → Value) (σ : St), a = fr 58 (updL ρ [(2, (I Gh)), (7, (Sl a13 s17.1 c14)), (8, (I s17.2))]) ∧ w = σ.w ∧ Hp S0 σ0 σ [Ch.own n0 n0 (Sl a13 s17.1 c14) s17.1] ∧ s17.1.length = xs11.length) ⟨_, σ15, fr_join ⟨rfl, rfl, rfl, trivial⟩, rfl, H.sel' [0] rfl rfl, rfl⟩ ?_)
   clear h H
   rintro s17 a w o ⟨ρ, σ18, rfl, rfl, H, hn19⟩ h hres
   refine c_seq (c_seq ?_)
   obtain ⟨o20, hj, h'⟩ := bind_some h
   clear h
   refine c_cut (fun e a w => e = .normal ∧ ∃ (ρ : Nat → Value) (σ : St), a = fr 58 (updL ρ [(2, (I Gh)), (7, (Sl a13 s17.1 c14)), (8, (I s17.2)), (32, (B o20))]) ∧ w = σ.w ∧ Hp S0 σ0 σ [Ch.own n0 n0 (Sl a13 s17.1 c14) s17.1]) ?_ ?_
   ·clear h'
    rename _ = some o20 => h
    refine rgP (σ := σ18) 12 (by kernel_rfl) (by kernel_rfl) (by kernel_rfl) ?_
    refine sq (v := (I s17.2)) (rv_move rfl) (sq (v := (B (decide (0 < s17.2)))) (rv_gtr (a := s17.2) (b := 0) rfl rfl) (sq (v := (B (decide (0 < s17.2)))) (rv_move rfl) ?_))
    rcases Bool.eq_false_or_eq_true (decide (0 < s17.2)) with hb21 | hb21
    ·replace h := bif_t hb21 h
     refine sq_g (v := (Sl a13 s17.1 c14)) (congrArg some hb21) (rv_move rfl) (sq_g (v := (I s17.2)) (congrArg some hb21) (rv_move rfl) ?_)
     revert h; refine br fun x22 hx23 h => ?_
     obtain ⟨b25, o26, hi24, -⟩ := (H.own 0 rfl).ix hx23
     refine sq_g (v := (pt b25 o26)) (congrArg some hb21) (rv_ix Tryz.underlying29 ti37 rfl rfl hi24) ?_
     obtain ⟨_, ⟨_, _, rfl, rfl, rfl⟩, hl27, hc28⟩ := ((H.own 0 rfl).at hx23 hi24).cells
     refine sq_g (v := (.agg #[(I x22.1), (I x22.2)])) (congrArg some hb21) (rv_load Tryz.underlying37 rfl ti37 rfl hl27 hc28) (sq_g (v := (Sl a13 s17.1 c14)) (congrArg some hb21) (rv_move rfl) (sq_g (v := (I s17.2)) (congrArg some hb21) (rv_move rfl) (sq_g (v := (I (w64 (s17.2 - 1)))) (congrArg some hb21) (rv_sub (a := s17.2) (b := 1) rfl rfl) ?_)))
     revert h; refine br fun x29 hx30 h => ?_
     obtain ⟨b32, o33, hi31, -⟩ := (H.own 0 rfl).ix hx30
     refine sq_g (v := (pt b32 o33)) (congrArg some hb21) (rv_ix Tryz.underlying29 ti37 rfl rfl hi31) ?_
     obtain ⟨_, ⟨_, _, rfl, rfl, rfl⟩, hl34, hc35⟩ := ((H.own 0 rfl).at hx30 hi31).cells
     refine sq_g (v := (.agg #[(I x29.1), (I x29.2)])) (congrArg some hb21) (rv_load Tryz.underlying37 rfl ti37 rfl hl34 hc35) (sq_end ?_)
     intro σ36 hm37
     replace H := H.grow (hm37.mono fun _ h => h); clear hm37
     revert h; refine br fun r38 hx39 h => ?_
     have hc40 := c_spec_nearer hx39
     refine st_call (cx_call hc40 (ent_f hc40.fn rfl) hn0 (H.sel' [0] rfl rfl : Hp S0 σ0 _ ([] ++ _))) (wanted_yes rfl (by exact (congrArg some hb21))) ?_
     rintro _ σ41 ⟨_, ⟨rfl, rfl⟩, H, -⟩
     replace H : Hp _ _ _ [_] := H
     refine st (v := (B r38)) (rv_pick_t (congrArg B hb21) rfl) (w_end ?_)
     obtain rfl := sj h
     exact ⟨rfl, _, σ41, fr_join ⟨rfl, rfl, rfl, rfl, trivial⟩, rfl, H.sel' [0] rfl rfl⟩
    ·replace h := bif_f hb21 h
     refine sq_skip (congrArg some hb21) (sq_skip (congrArg some hb21) (sq_skip (congrArg some hb21) (sq_skip (congrArg some hb21) (sq_skip (congrArg some hb21) (sq_skip (congrArg some hb21) (sq_skip (congrArg some hb21) (sq_skip (congrArg some hb21) (sq_skip (congrArg some hb21) (sq_end ?_)))))))))
     intro σ42 hm43
     replace H := H.grow (hm43.mono fun _ h => h); clear hm43
     refine st_skip (congrArg some hb21) (st (v := (B false)) (rv_pick_f (congrArg B hb21) rfl) (w_end ?_))
     obtain rfl := sj h
     exact ⟨rfl, _, σ42, fr_join ⟨rfl, rfl, rfl, rfl, trivial⟩, rfl, H.sel' [0] rfl rfl⟩
   ·clear hj
    have h := h'
    clear h' H
    rintro e a w ⟨rfl, ρ, σ44, rfl, rfl, H⟩
    refine q_then ?_
    refine cd_cond o20 rfl (fun hb45 => ?_) (fun hb45 => ?_)
    ·replace h := bif_t hb45 h
     refine c_skip (q_then (c_seq (c_blk (c_seq (rg (sm (Sl a13 s17.1 c14) rfl (sm (I s17.2) rfl ?_)))))))
     revert h; refine br fun x46 hx47 h => ?_
     obtain ⟨b49, o50, hi48, -⟩ := (H.own 0 rfl).ix hx47
     refine st (v := (pt b49 o50)) (rv_ix Tryz.underlying29 ti37 rfl rfl hi48) ?_
     obtain ⟨_, ⟨_, _, rfl, rfl, rfl⟩, hl51, hc52⟩ := ((H.own 0 rfl).at hx47 hi48).cells
     refine st (v := (.agg #[(I x46.1), (I x46.2)])) (rv_load Tryz.underlying37 rfl ti37 rfl hl51 hc52) (st_ex (ex_alloc (cs := [(I 0), (I 0)]) H hn0 ti37 rfl) wn ?_)
     rintro _ σ54 ⟨b53, rfl, H, -⟩
     refine st_exS (ex_store_box (k := 0) (cs := [(I 0), (I 0)]) (vs := [(I x46.1), (I x46.2)]) (cs' := [(I x46.1), (I x46.2)]) H (i := 0) rfl ti37 rfl rfl rfl rfl rfl (Nat.le_of_ble_eq_true rfl) (by simp [plain]) rfl) wn ?_
     rintro σ55 ⟨H, -⟩
     refine w_end (q_then (c_seq (rg (sm (Sl a13 s17.1 c14) rfl (sm (I s17.2) rfl (sm (Sl a13 s17.1 c14) rfl (sm (I s17.2) rfl (st (v := (I (w64 (s17.2 - 1)))) (rv_sub (a := s17.2) (b := 1) rfl rfl) ?_))))))))
     revert h; refine br fun x56 hx57 h => ?_
     obtain ⟨b59, o60, hi58, -⟩ := (H.own 1 rfl).ix hx57
     refine st (v := (pt b59 o60)) (rv_ix Tryz.underlying29 ti37 rfl rfl hi58) ?_
     obtain ⟨_, ⟨_, _, rfl, rfl, rfl⟩, hl61, hc62⟩ := ((H.own 1 rfl).at hx57 hi58).cells
     refine st (v := (.agg #[(I x56.1), (I x56.2)])) (rv_load Tryz.underlying37 rfl ti37 rfl hl61 hc62) ?_
     revert h; refine br fun x63 hx64 h => ?_
     obtain ⟨b66, o67, hi65, -⟩ := (H.own 1 rfl).ix hx64
     refine st (v := (pt b66 o67)) (rv_ix Tryz.underlying29 ti37 rfl rfl hi65) ?_
     refine st_exS (ex_store_own (e' := (x56.1, x56.2)) (vs := [(I x56.1), (I x56.2)]) (k := 0) H (i := 1) rfl ti37 hx64 hi65 rfl rfl rfl rfl rfl (Nat.le_of_ble_eq_true rfl) (by simp [plain]) (by rintro _ ⟨_, _, rfl, rfl, rfl⟩; exact ⟨[(I x56.1)], [(I x56.2)], rfl, rfl, rfl⟩)) wn ?_
     rintro σ68 ⟨H, -⟩
     have hsl : (Sl a13 s17.1 c14) = (Sl a13 (s17.1.set s17.2.toNat (x56.1, x56.2)) c14) := sl_len List.length_set.symm
     rw [hsl]; rw [hsl] at H; clear hsl
     refine w_end (q_then (rg (sm (Sl a13 (s17.1.set s17.2.toNat (x56.1, x56.2)) c14) rfl (sm (I s17.2) rfl (st (v := (I (w64 (s17.2 - 1)))) (rv_sub (a := s17.2) (b := 1) rfl rfl) ?_)))))
     have hc69 := H.cells 1 rfl
     refine st (v := (.agg #[(I x46.1), (I x46.2)])) (rv_load (cs := [(I x46.1), (I x46.2)]) Tryz.underlying37 rfl ti37 rfl rfl hc69) ?_
     revert h; refine br fun x70 hx71 h => ?_
     obtain ⟨b73, o74, hi72, -⟩ := (H.own 0 rfl).ix hx71
     refine st (v := (pt b73 o74)) (rv_ix Tryz.underlying29 ti37 rfl rfl hi72) ?_
     refine st_exS (ex_store_own (e' := (x46.1, x46.2)) (vs := [(I x46.1), (I x46.2)]) (k := 0) H (i := 0) rfl ti37 hx71 hi72 rfl rfl rfl rfl rfl (Nat.le_of_ble_eq_true rfl) (by simp [plain]) (by rintro _ ⟨_, _, rfl, rfl, rfl⟩; exact ⟨[(I x46.1)], [(I x46.2)], rfl, rfl, rfl⟩)) wn ?_
     rintro σ75 ⟨H, -⟩
     have hsl : (Sl a13 (s17.1.set s17.2.toNat (x56.1, x56.2)) c14) = (Sl a13 ((s17.1.set s17.2.toNat (x56.1, x56.2)).set (w64 (s17.2 - 1)).toNat (x46.1, x46.2)) c14) := sl_len List.length_set.symm
     rw [hsl]; rw [hsl] at H; clear hsl
     refine w_end (q_blk (q_then (rg (sm (I s17.2) rfl (st (v := (I (w64 (s17.2 - 1)))) (rv_sub (a := s17.2) (b := 1) rfl rfl) (sa (I (w64 (s17.2 - 1))) rfl (w_end (q_then ?_))))))))
     obtain rfl := sj h
     exact ⟨_, rfl, _, σ75, fr_join ⟨rfl, rfl, rfl, trivial⟩, rfl, H.sel' [0] rfl rfl, (List.length_set.trans (List.length_set.trans hn19))⟩
    ·replace h := bif_f hb45 h
     refine c_exit (q_then_x (q_then_x (q_blk_hit ?_)))
     obtain rfl := sj h
     obtain rfl := hres _ rfl
     exact ⟨rfl, _, σ44, fr_join ⟨rfl, rfl, trivial⟩, rfl, H.sel' [0] rfl rfl, hn19⟩
  ·clear hj
   have h := h'
   clear h' H
   rintro e a w ⟨rfl, ρ, σ76, rfl, rfl, H, hn77⟩
   refine q_then (c_seq (rg (sm (Sl a13 o16 c14) rfl (sm (I Gh) rfl (sm (Sl a13 o16 c14) rfl (st (v := (I (o16.length : Int))) (rv_len Tryz.underlying29 rfl) (st (v := (I (min Gh (o16.length : Int)))) (rv_min rfl rfl) ?_)))))))
   revert h; refine br fun xs78 hx79 h => ?_
   obtain ⟨a80, c81, hs82, hR83, hb84⟩ := (H.own 0 rfl).slice hx79
   replace H := (H.front (i := 0) rfl).turn (d := Ch.own n0 n0 (Sl a80 xs78 c81) xs78) (fun _ => hR83) hb84; clear hR83 hb84
   refine st (v := (Sl a80 xs78 c81)) (rv_slice_h Tryz.underlying29 ti37 hs82 rfl rfl) (sa (Sl a80 xs78 c81) rfl (w_end (q_then (c_ret ?_))))
   obtain rfl := sj h
   exact fin_ret (v := (Sl a80 xs78 c81)) (results_ok Tryz.results55 (res_tmp (v := (Sl a80 xs78 c81)) rfl res_nil) rfl) ⟨a80, c81, rfl, rfl⟩ (H.sel' [0] rfl rfl)

theorem c_spec_size {Ax : Int}  {r : Int} (h : M.spec_size Ax = some r) :
    Cal2 Tryz.prog 79 [(I Ax)] [] (fun n0 v L => v = (I r) ∧ L = []) := by
 refine cal2 (n := 7) Tryz.func79 rfl rfl rfl rfl ?_
 intro S0 σ0 n0 hn0 H
 unfold M.spec_size at h
 refine c_seq (rg (sa (I 0) rfl (w_end (q_then (c_seq (rg (sm (I Ax) rfl (sm (I Ax) rfl (st (v := (I (w64 (0 - Ax)))) (rv_neg (a := Ax) rfl) (st (v := (I (max Ax (w64 (0 - Ax))))) (rv_max rfl rfl) (sa (I (max Ax (w64 (0 - Ax)))) rfl ?_)))))))))))
 refine w_end (q_then (c_ret ?_))
 obtain rfl := sj h
 exact fin_ret (v := (I (max Ax (w64 (0 - Ax))))) (results_ok Tryz.results79 (res_tmp (v := (I (max Ax (w64 (0 - Ax))))) rfl res_nil) rfl) ⟨rfl, rfl⟩ (H.sel' [] rfl rfl)

theorem c_spec_toInt {Gi : Bool}  {r : Int} (h : M.spec_toInt Gi = some r) :
    Cal2 Tryz.prog 80 [(B Gi)] [] (fun n0 v L => v = (I r) ∧ L = []) := by
 refine cal2 (n := 4) Tryz.func80 rfl rfl rfl rfl ?_
 intro S0 σ0 n0 hn0 H
 unfold M.spec_toInt at h
 refine c_seq (rg (sa (I 0) rfl (w_end (q_then (c_seq (c_seq (rg (sm (B Gi) rfl (w_end (q_then ?_))))))))))
 refine cd_cond Gi rfl (fun hb1 => ?_) (fun hb1 => ?_)
 ·replace h := bif_t hb1 h
  refine c_seq (rg (sa (I 1) rfl (w_end (q_then (c_ret (q_then_r ?_))))))
  obtain rfl := sj h
  exact fin_ret (v := (I 1)) (results_ok Tryz.results80 (res_tmp (v := (I 1)) rfl res_nil) rfl) ⟨rfl, rfl⟩ (H.sel' [] rfl rfl)
 ·replace h := bif_f hb1 h
  refine c_skip (q_then (c_seq (rg (sa (I 0) rfl (w_end (q_then (c_ret ?_)))))))
  obtain rfl := sj h
  exact fin_ret (v := (I 0)) (results_ok Tryz.results80 (res_tmp (v := (I 0)) rfl res_nil) rfl) ⟨rfl, rfl⟩ (H.sel' [] rfl rfl)

theorem c_spec_dist {Bp : Int} {Ec : List Int} {Ed : List Int} {Ee : Option Addr} {Ef : Nat} {Eg : Option Addr} {Eh : Nat} {r : Int} (h : M.spec_dist Bp Ec Ed = some r) :
    Cal2 Tryz.prog 56 [(I Bp), (Sl Ee Ec Ef), (Sl Eg Ed Eh)] [Ch.ro 0 (Sl Ee Ec Ef) Ec, Ch.ro 0 (Sl Eg Ed Eh) Ed] (fun n0 v L => v = (I r) ∧ L = []) := by
 refine cal2 (n := 50) Tryz.func56 rfl rfl rfl rfl ?_
 intro S0 σ0 n0 hn0 H
 unfold M.spec_dist at h
 refine c_seq (rg (sa (I 0) rfl (w_end (q_then (c_seq (rg (sa (I 0) rfl (w_end (q_then (c_seq (c_seq ?_)))))))))))
 refine rg (sa (I 0) rfl (w_end (q_then ?_)))
 obtain ⟨o1, hj, h'⟩ := bind_some h
 clear h
 refine c_cut (fun e a w => e = .normal ∧ ∃ (ρ : Nat → Value) (σ : St), a = fr 50 (updL ρ [(7, (I o1))]) ∧ w = σ.w ∧ Hp S0 σ0 σ []) ?_ ?_
 ·clear h'
  rename _ = some o1 => h
  refine c_blk (wp_loopM _ h (fun s2 a w => ∃ (ρ : Nat → Value) (σ : St), a = fr 50 (updL ρ [(0, (I Bp)), (1, (Sl Ee Ec Ef)), (2, (Sl Eg Ed Eh)), (7, (I s2.1)), (8, (I s2.2))]) ∧ w = σ.w ∧ Hp S0 σ0 σ [Ch.ro 0 (Sl Ee Ec Ef) Ec, Ch.ro 0 (Sl Eg Ed Eh) Ed]) ⟨_, σ0, fr_join ⟨rfl, rfl, rfl, rfl, rfl, trivial⟩, rfl, H.sel' [0, 1] rfl rfl⟩ ?_)
  clear h H
  rintro s2 a w o ⟨ρ, σ3, rfl, rfl, H⟩ h hres
  refine c_seq (c_seq (rg (sm (I s2.2) rfl (sm (Sl Ee Ec Ef) rfl (st (v := (I (Ec.length : Int))) (rv_len Tryz.underlying26 rfl) (st (v := (B (decide (s2.2 < (Ec.length : Int))))) (rv_lss (a := s2.2) (b := (Ec.length : Int)) rfl rfl) (w_end (q_then ?_))))))))
  refine cd_cond (decide (s2.2 < (Ec.length : Int))) rfl (fun hb4 => ?_) (fun hb4 => ?_)
  ·replace h := bif_t hb4 h
   refine c_skip (q_then (c_seq ?_))
   obtain ⟨o5, hj, h'⟩ := bind_some h
   clear h
   refine c_cut (fun e a w => e = .normal ∧ ∃ (ρ : Nat → Value) (σ : St), a = fr 50 (updL ρ [(0, (I Bp)), (1, (Sl Ee Ec Ef)), (2, (Sl Eg Ed Eh)), (7, (I o5)), (8, (I s2.2))]) ∧ w = σ.w ∧ Hp S0 σ0 σ [Ch.ro 0 (Sl Ee Ec Ef) Ec, Ch.ro 0 (Sl Eg Ed Eh) Ed]) ?_ ?_
   ·clear h'
    rename _ = some o5 => h
    refine c_blk (c_seq ?_)
    refine rgP (σ := σ3) 8 (by kernel_rfl) (by kernel_rfl) (by kernel_rfl) ?_
    refine sq (v := (Sl Ee Ec Ef)) (rv_move rfl) (sq (v := (I s2.2)) (rv_move rfl) ?_)
    revert h; refine br fun x6 hx7 h => ?_
    obtain ⟨b9, o10, hi8, -⟩ := (H.ro 0 rfl).ix hx7
    refine sq (v := (pt b9 o10)) (rv_ix Tryz.underlying26 ti3 rfl rfl hi8) ?_
    have hc11 := ((H.ro 0 rfl).at hx7 hi8).int
    refine sq (v := (I x6)) (rv_load1 Tryz.underlying3 rfl rfl hc11) (sq (v := (Sl Eg Ed Eh)) (rv_move rfl) (sq (v := (I s2.2)) (rv_move rfl) ?_))
    revert h; refine br fun x12 hx13 h => ?_
    obtain ⟨b15, o16, hi14, -⟩ := (H.ro 1 rfl).ix hx13
    refine sq (v := (pt b15 o16)) (rv_ix Tryz.underlying26 ti3 rfl rfl hi14) ?_
    have hc17 := ((H.ro 1 rfl).at hx13 hi14).int
    refine sq (v := (I x12)) (rv_load1 Tryz.underlying3 rfl rfl hc17) (sq_end ?_)
    intro σ18 hm19
    replace H := H.grow (hm19.mono fun _ h => h); clear hm19
    refine st (v := (I (w64 (x6 - x12)))) (rv_sub (a := x6) (b := x12) rfl rfl) ?_
    revert h; refine br fun r20 hx21 h => ?_
    have hc22 := c_spec_size hx21
    refine st_call (cx_call hc22 (ent_f hc22.fn rfl) hn0 (H.sel' [0, 1] rfl rfl : Hp S0 σ0 _ ([] ++ _))) wn ?_
    rintro _ σ23 ⟨_, ⟨rfl, rfl⟩, H, -⟩
    replace H : Hp _ _ _ [_, _] := H
    refine sa (I r20) rfl (w_end (q_then (c_seq (rg (sm (I Bp) rfl (w_end (q_then (c_blk (c_seq (rg (st (v := (B (Bp == 1))) (rv_eql (a := Bp) (b := 1) rfl rfl) ?_)))))))))))
    refine sa (B (Bp == 1)) rfl (w_end (q_then ?_))
    refine cd_cond (Bp == 1) rfl (fun hb24 => ?_) (fun hb24 => ?_)
    ·replace h := bif_t hb24 h
     refine rg (sm (I s2.1) rfl (sm (I r20) rfl (st (v := (I (w64 (s2.1 + r20)))) (rv_add (a := s2.1) (b := r20) rfl rfl) (sa (I (w64 (s2.1 + r20))) rfl (w_end (q_blk (q_blk ?_)))))))
     obtain rfl := sj h
     exact ⟨rfl, _, σ23, fr_join ⟨rfl, rfl, rfl, rfl, rfl, trivial⟩, rfl, H.sel' [0, 1] rfl rfl⟩
    ·replace h := bif_f hb24 h
     refine c_seq (rg (st (v := (B (Bp == 2))) (rv_eql (a := Bp) (b := 2) rfl rfl) (sa (B (Bp == 2)) rfl (w_end (q_then ?_)))))
     refine cd_cond (Bp == 2) rfl (fun hb25 => ?_) (fun hb25 => ?_)
     ·replace h := bif_t hb25 h
      refine rg (sm (I s2.1) rfl (sm (I r20) rfl (st (v := (I (max s2.1 r20))) (rv_max rfl rfl) (sa (I (max s2.1 r20)) rfl (w_end (q_blk (q_blk ?_)))))))
      obtain rfl := sj h
      exact ⟨rfl, _, σ23, fr_join ⟨rfl, rfl, rfl, rfl, rfl, trivial⟩, rfl, H.sel' [0, 1] rfl rfl⟩
     ·replace h := bif_f hb25 h
      refine c_seq (rg (st (v := (B (Bp == 3))) (rv_eql (a := Bp) (b := 3) rfl rfl) (sa (B (Bp == 3)) rfl (w_end (q_then ?_)))))
      refine cd_cond (Bp == 3) rfl (fun hb26 => ?_) (fun hb26 => ?_)
      ·replace h := bif_t hb26 h
       refine rg (sm (I s2.1) rfl (sm (I r20) rfl (sm (I r20) rfl (st (v := (I (w64 (r20 * r20)))) (rv_mul (a := r20) (b := r20) rfl rfl) (st (v := (I (w64 (s2.1 + (w64 (r20 * r20)))))) (rv_add (a := s2.1) (b := (w64 (r20 * r20))) rfl rfl) (sa (I (w64 (s2.1 + (w64 (r20 * r20))))) rfl (w_end (q_blk (q_blk ?_)))))))))
       obtain rfl := sj h
       exact ⟨rfl, _, σ23, fr_join ⟨rfl, rfl, rfl, rfl, rfl, trivial⟩, rfl, H.sel' [0, 1] rfl rfl⟩
      ·replace h := bif_f hb26 h
       refine rg (sm (I s2.1) rfl (sm (I r20) rfl (st (v := (B (decide (0 < r20)))) (rv_gtr (a := r20) (b := 0) rfl rfl) ?_)))
       revert h; refine br fun r27 hx28 h => ?_
       have hc29 := c_spec_toInt hx28
       refine st_call (cx_call hc29 (ent_f hc29.fn rfl) hn0 (H.sel' [0, 1] rfl rfl : Hp S0 σ0 _ ([] ++ _))) wn ?_
       rintro _ σ30 ⟨_, ⟨rfl, rfl⟩, H, -⟩
       replace H : Hp _ _ _ [_, _] := H
       refine st (v := (I (w64 (s2.1 + r27)))) (rv_add (a := s2.1) (b := r27) rfl rfl) (sa (I (w64 (s2.1 + r27))) rfl (w_end (q_blk (q_blk ?_))))
       obtain rfl := sj h
       exact ⟨rfl, _, σ30, fr_join ⟨rfl, rfl, rfl, rfl, rfl, trivial⟩, rfl, H.sel' [0, 1] rfl rfl⟩
   ·clear hj
    have h := h'
    clear h' H
    rintro e a w ⟨rfl, ρ, σ31, rfl, rfl, H⟩
    refine q_then (rg (sm (I s2.2) rfl (st (v := (I (w64 (s2.2 + 1)))) (rv_add (a := s2.2) (b := 1) rfl rfl) (sa (I (w64 (s2.2 + 1))) rfl (w_end (q_then ?_))))))
    obtain rfl := sj h
    exact ⟨_, rfl, _, σ31, fr_join ⟨rfl, rfl, rfl, rfl, rfl, trivial⟩, rfl, H.sel' [0, 1] rfl rfl⟩
  ·replace h := bif_f hb4 h
   refine c_exit (q_then_x (q_then_x (q_blk_hit ?_)))
   obtain rfl := sj h
   obtain rfl := hres _ rfl
   exact ⟨rfl, _, σ3, fr_join ⟨rfl, trivial⟩, rfl, H.sel' [] rfl rfl⟩
 ·clear hj
  have h := h'
  clear h' H
  rintro e a w ⟨rfl, ρ, σ32, rfl, rfl, H⟩
  refine q_then (c_seq (rg (sm (I o1) rfl (sa (I o1) rfl (w_end (q_then (c_ret ?_)))))))
  obtain rfl := sj h
  exact fin_ret (v := (I o1)) (results_ok Tryz.results56 (res_tmp (v := (I o1)) rfl res_nil) rfl) ⟨rfl, rfl⟩ (H.sel' [] rfl rfl)

theorem c_spec_nearest {As : List (Int × (List Int) × Int)} {Br : Int} {Bs : List Int} {Bt : Int} {Au : Option Addr} {Av : Nat} {Bu : Option Addr} {Bv : Nat} {r : (List (Int × Int))} (h : M.spec_nearest As Br Bs Bt = some r) :
    Cal2 Tryz.prog 29 [(Sl Au As Av), (I Br), (Sl Bu Bs Bv), (I Bt)] [Ch.ro 0 (Sl Au As Av) As, Ch.ro 0 (Sl Bu Bs Bv) Bs] (fun n0 v L => ∃ (az1 : Option Addr), ∃ (cz2 : Nat), v = (Sl az1 r cz2) ∧ L = [Ch.own n0 n0 (Sl az1 r cz2) r]) := by
 refine cal2 (n := 36) Tryz.func29 rfl rfl rfl rfl ?_
 intro S0 σ0 n0 hn0 H
 unfold M.spec_nearest at h
 refine c_seq (rg (sa (.slice none 0 0) rfl (w_end (q_then (c_seq (rg ?_))))))
 refine st_ex (ex_buildSlice (el := n0) (xs := ([] : List (Int × Int))) (ps := []) (cs := []) H hn0 Tryz.underlying29 ti37 rfl rfl (by kernel_rfl) (.nil) rfl) wn ?_
 rintro _ σ2 ⟨b1, rfl, H, -⟩
 refine sa (Sl (some ⟨b1, 0, none⟩) ([] : List (Int × Int)) 0) rfl (w_end (q_then (c_seq (c_seq (rg (sa (I 0) rfl (w_end (q_then ?_))))))))
 obtain ⟨o3, hj, h'⟩ := bind_some h
 clear h
 refine c_cut (fun e a w => e = .normal ∧ ∃ (ρ : Nat → Value) (σ : St) (aj1 : Option Addr) (cj2 : Nat), a = fr 36 (updL ρ [(9, (Sl aj1 o3 cj2))]) ∧ w = σ.w ∧ Hp S0 σ0 σ [Ch.own n0 n0 (Sl aj1 o3 cj2) o3]) ?_ ?_
 ·clear h'
  rename _ = some o3 => h
  refine c_blk (wp_loopM _ h (fun s4 a w => ∃ (ρ : Nat → Value) (σ : St) (aj1 : Option Addr) (cj2 : Nat), a = fr 36 (updL ρ [(0, (Sl Au As Av)), (1, (I Br)), (2, (Sl Bu Bs Bv)), (3, (I Bt)), (9, (Sl aj1 s4.1 cj2)), (10, (I s4.2))]) ∧ w = σ.w ∧ Hp S0 σ0 σ [Ch.ro 0 (Sl Au As Av) As, Ch.ro 0 (Sl Bu Bs Bv) Bs, Ch.own n0 n0 (Sl aj1 s4.1 cj2) s4.1]) ⟨_, σ2, (some ⟨b1, 0, none⟩), 0, fr_join ⟨rfl, rfl, rfl, rfl, rfl, rfl, trivial⟩, rfl, H.sel' [1, 2, 0] rfl rfl⟩ ?_)
  clear h H
  rintro s4 a w o ⟨ρ, σ5, a6, c7, rfl, rfl, H⟩ h hres
  refine c_seq (c_seq (rg (sm (I s4.2) rfl (sm (Sl Au As Av) rfl (st (v := (I (As.length : Int))) (rv_len Tryz.underlying23 rfl) (st (v := (B (decide (s4.2 < (As.length : Int))))) (rv_lss (a := s4.2) (b := (As.length : Int)) rfl rfl) (w_end (q_then ?_))))))))
  refine cd_cond (decide (s4.2 < (As.length : Int))) rfl (fun hb8 => ?_) (fun hb8 => ?_)
  ·replace h := bif_t hb8 h
   refine c_skip (q_then (c_seq (c_blk ?_)))
   revert h; refine br fun x9 hx10 h => ?_
   obtain ⟨b12, o13, hi11, -⟩ := (H.ro 0 rfl).ix hx10
   have hc14 := ((H.ro 0 rfl).at hx10 hi11).fst.int
   revert h; refine br fun x15 hx16 h => ?_
   obtain ⟨b18, o19, hi17, -⟩ := (H.ro 0 rfl).ix hx16
   obtain ⟨v23, hc24, hR22⟩ := ((H.ro 0 rfl).at hx16 hi17).snd.fst.slice
   obtain ⟨a20, c21, rfl⟩ := hR22.isSl
   replace H := H.add (d := Ch.ro 0 (Sl a20 x15.2.1 c21) x15.2.1) hR22 (fun _ h => h)
   clear hR22
   revert h; refine br fun r25 hx26 h => ?_
   have hc27 := c_spec_dist (Ee := a20) (Ef := c21) (Eg := Bu) (Eh := Bv) hx26
   have Hs := H
   refine rg2 (σ := σ5) (Nm := Unit) 16 [13] [[false], [true]] [[(0, 0), (1, 1)], [(0, 0), (1, 1)], [(0, 0), (1, 1)], [(0, 0), (1, 1)], [(0, 0), (1, 1)], [(0, 0), (1, 1)], [(0, 0)], [(0, 0)], [(0, 0)], [(0, 0)], [(0, 0)], [(0, 0)], [(0, 0)], [(0, 1)], [(1, 1)], [(0, 0), (1, 1)]] 1 [fun _ => fun σm => Hp S0 σ0 σm [Ch.ro 0 (Sl a20 x15.2.1 c21) x15.2.1, Ch.ro 0 (Sl Au As Av) As, Ch.ro 0 (Sl Bu Bs Bv) Bs, Ch.own n0 n0 (Sl a6 s4.1 c7) s4.1] ∧ Md (cov []) σ5 σm, fun _ => fun σm => Hp S0 σ0 σm [Ch.ro 0 (Sl a20 x15.2.1 c21) x15.2.1, Ch.ro 0 (Sl Au As Av) As, Ch.ro 0 (Sl Bu Bs Bv) Bs, Ch.own n0 n0 (Sl a6 s4.1 c7) s4.1] ∧ Md (cov []) σ5 σm] [fun _ => (Sl a6 s4.1 c7), fun _ => (Sl Au As Av), fun _ => (I s4.2), fun _ => (pt b12 o13), fun _ => (pt b12 (o13 + 0)), fun _ => (I x9.1), fun _ => (I Br), fun _ => (Sl Au As Av), fun _ => (I s4.2), fun _ => (pt b18 o19), fun _ => (pt b18 (o19 + 1)), fun _ => (Sl a20 x15.2.1 c21), fun _ => (Sl Bu Bs Bv), fun _ => (I r25), fun _ => (.agg #[(I x9.1), (I r25)]), fun _ => (I Bt)] () (by kernel_rfl) (by kernel_rfl) ?_ ?_ ?_
   ·intro σm m0
    exact ⟨H.grow (m0.mono fun _ h => h.elim), m0⟩
   ·refine ac rfl (by
      intro k _nm ρ σm hJ hoff hdep
      have e9 := look_off (N := 36) (hoff 9 rfl) rfl
      exact dp_v (v := (Sl a6 s4.1 c7)) wn (rv_move e9) rfl hJ) ?_
    refine ac rfl (by
      intro k _nm ρ σm hJ hoff hdep
      have e0 := look_off (N := 36) (hoff 0 rfl) rfl
      exact dp_v (v := (Sl Au As Av)) wn (rv_move e0) rfl hJ) ?_
    refine ac rfl (by
      intro k _nm ρ σm hJ hoff hdep
      have e10 := look_off (N := 36) (hoff 10 rfl) rfl
      exact dp_v (v := (I s4.2)) wn (rv_move e10) rfl hJ) ?_
    refine ac rfl (by
      intro k _nm ρ σm hJ hoff hdep
      have e19 := hdep 1 rfl rfl 19 rfl
      have e20 := hdep 2 rfl rfl 20 rfl
      exact dp_v (v := (pt b12 o13)) wn (rv_ix Tryz.underlying23 ti34 e19 e20 hi11) rfl hJ) ?_
    refine ac rfl (by
      intro k _nm ρ σm hJ hoff hdep
      have e21 := hdep 3 rfl rfl 21 rfl
      exact dp_v (v := (pt b12 (o13 + 0))) wn (rv_fieldAddr (off := 0) (ft := 3) Tryz.underlying34 rfl ti3 rfl e21) rfl hJ) ?_
    refine all_cons (by
      refine ⟨?_, ?_⟩
      ·intro _nm ρ σm hJ hoff hdep
       have e22 := hdep 4 rfl rfl 22 rfl
       obtain ⟨H, m⟩ := id hJ
       replace hc14 := (Hs.ro 1 rfl).hmd hx10 hi11 (k := 0) (by decide) hc14 m
       exact dp_v (v := (I x9.1)) wn (rv_load1 Tryz.underlying3 rfl e22 hc14) rfl hJ
      refine ⟨?_, ?_⟩
      ·intro _nm ρ σm hJ hoff hdep
       have e22 := hdep 4 rfl rfl 22 rfl
       obtain ⟨H, m⟩ := id hJ
       replace hc14 := (Hs.ro 1 rfl).hmd hx10 hi11 (k := 0) (by decide) hc14 m
       exact dp_v (v := (I x9.1)) wn (rv_load1 Tryz.underlying3 rfl e22 hc14) rfl hJ
      trivial) ?_
    refine ac rfl (by
      intro k _nm ρ σm hJ hoff hdep
      have e1 := look_off (N := 36) (hoff 1 rfl) rfl
      exact dp_v (v := (I Br)) wn (rv_move e1) rfl hJ) ?_
    refine ac rfl (by
      intro k _nm ρ σm hJ hoff hdep
      have e0 := look_off (N := 36) (hoff 0 rfl) rfl
      exact dp_v (v := (Sl Au As Av)) wn (rv_move e0) rfl hJ) ?_
    refine ac rfl (by
      intro k _nm ρ σm hJ hoff hdep
      have e10 := look_off (N := 36) (hoff 10 rfl) rfl
      exact dp_v (v := (I s4.2)) wn (rv_move e10) rfl hJ) ?_
    refine ac rfl (by
      intro k _nm ρ σm hJ hoff hdep
      have e25 := hdep 7 rfl rfl 25 rfl
      have e26 := hdep 8 rfl rfl 26 rfl
      exact dp_v (v := (pt b18 o19)) wn (rv_ix Tryz.underlying23 ti34 e25 e26 hi17) rfl hJ) ?_
    refine ac rfl (by
      intro k _nm ρ σm hJ hoff hdep
      have e27 := hdep 9 rfl rfl 27 rfl
      exact dp_v (v := (pt b18 (o19 + 1))) wn (rv_fieldAddr (off := 1) (ft := 26) Tryz.underlying34 rfl ti26 rfl e27) rfl hJ) ?_
    refine all_cons (by
      refine ⟨?_, ?_⟩
      ·intro _nm ρ σm hJ hoff hdep
       have e28 := hdep 10 rfl rfl 28 rfl
       obtain ⟨H, m⟩ := id hJ
       replace hc24 := (Hs.ro 1 rfl).hmd hx16 hi17 (k := 1) (by decide) hc24 m
       exact dp_v (v := (Sl a20 x15.2.1 c21)) wn (rv_load1 Tryz.underlying26 rfl e28 hc24) rfl hJ
      trivial) ?_
    refine ac rfl (by
      intro k _nm ρ σm hJ hoff hdep
      have e2 := look_off (N := 36) (hoff 2 rfl) rfl
      exact dp_v (v := (Sl Bu Bs Bv)) wn (rv_move e2) rfl hJ) ?_
    refine all_cons (by
      refine ⟨?_, ?_⟩
      ·intro _nm ρ σm hJ hoff hdep
       have e24 : look 36 ρ 24 = (I Br) := hdep 6 rfl rfl 24 rfl
       have e29 : look 36 ρ 29 = (Sl a20 x15.2.1 c21) := hdep 11 rfl rfl 29 rfl
       have e30 : look 36 ρ 30 = (Sl Bu Bs Bv) := hdep 12 rfl rfl 30 rfl
       obtain ⟨H, m⟩ := id hJ
       refine dp_cx wn (cx_call hc27 (ent_f hc27.fn (by show [look 36 ρ 24, look 36 ρ 29, look 36 ρ 30] = _; rw [e24, e29, e30])) hn0 (H.sel' [0, 2, 0, 1, 2, 3] rfl rfl : Hp S0 σ0 _ ([_, _] ++ _))) ?_
       rintro _ σq ⟨_, ⟨rfl, rfl⟩, H2, m2⟩
       exact ⟨_, (), rfl, rfl, ⟨H2.sel' [0, 1, 2, 3] rfl rfl, m.comp0 (m2.mono (fun i h => by simp [cov, Ch.ro] at h))⟩, stab [0, 1, 2, 3, 4, 5, 6, 7, 8, 9, 10, 11, 12, 15] (by kernel_rfl) ⟨rfl, rfl, rfl, rfl, rfl, rfl, rfl, rfl, rfl, rfl, rfl, rfl, rfl, rfl, trivial⟩⟩
      trivial) ?_
    refine ac rfl (by
      intro k _nm ρ σm hJ hoff hdep
      have e23 : look 36 ρ 23 = (I x9.1) := hdep 5 rfl rfl 23 rfl
      have e31 : look 36 ρ 31 = (I r25) := hdep 13 rfl rfl 31 rfl
      exact dp_v (v := (.agg #[(I x9.1), (I r25)])) wn (rv_build (ps := [(0, (I x9.1)), (1, (I r25))]) Tryz.underlying37 ti37 (bp37 Tryz.underlying37) (by show [(0, look 36 ρ 23), (1, look 36 ρ 31)] = _; rw [e23, e31]) (by kernel_rfl)) rfl hJ) ?_
    refine ac rfl (by
      intro k _nm ρ σm hJ hoff hdep
      have e3 := look_off (N := 36) (hoff 3 rfl) rfl
      exact dp_v (v := (I Bt)) wn (rv_move e3) rfl hJ) ?_
    exact all_nil
   ·intro _nm ρ σ28 hJ hoff hrel
    have e0 := look_off (N := 36) (hoff 0 rfl) rfl
    have e1 := look_off (N := 36) (hoff 1 rfl) rfl
    have e2 := look_off (N := 36) (hoff 2 rfl) rfl
    have e3 := look_off (N := 36) (hoff 3 rfl) rfl
    have e10 := look_off (N := 36) (hoff 10 rfl) rfl
    have e18 := hrel 0 rfl 18 rfl
    have e32 := hrel 14 rfl 32 rfl
    have e33 := hrel 15 rfl 33 rfl
    obtain ⟨H, -⟩ := (show Hp S0 σ0 σ28 [Ch.ro 0 (Sl a20 x15.2.1 c21) x15.2.1, Ch.ro 0 (Sl Au As Av) As, Ch.ro 0 (Sl Bu Bs Bv) Bs, Ch.own n0 n0 (Sl a6 s4.1 c7) s4.1] ∧ Md (cov []) σ5 σ28 from hJ)
    clear hJ Hs
    rw [fr_lookL (L := [(0, (Sl Au As Av)), (1, (I Br)), (2, (Sl Bu Bs Bv)), (3, (I Bt)), (10, (I s4.2)), (18, (Sl a6 s4.1 c7)), (32, (.agg #[(I x9.1), (I r25)])), (33, (I Bt))]) ⟨e0, e1, e2, e3, e10, e18, e32, e33, trivial⟩]
    clear hoff hrel e0 e1 e2 e3 e10 e18 e32 e33
    obtain ⟨σ29, hw30, H, -⟩ := H.pub 3 rfl (Nat.le_refl _)
    rw [← hw30]; clear hw30
    replace H := H.roLow 0 0 rfl (Nat.zero_le _)
    revert h; refine br fun r31 hx32 h => ?_
    have hc33 := c_spec_addHit (Au := a6) (Av := c7) hx32
    refine st_call (cx_call hc33 (ent_f hc33.fn rfl) hn0 (H.sel' [0, 0, 1, 2, 3, 4] rfl rfl : Hp S0 σ0 _ ([_] ++ _))) wn ?_
    rintro _ σ36 ⟨_, ⟨a34, c35, rfl, rfl⟩, H, -⟩
    replace H : Hp _ _ _ [_, _, _, _, _, _] := H
    refine sa (Sl a34 r31 c35) rfl (w_end (q_blk (q_then (rg (sm (I s4.2) rfl (st (v := (I (w64 (s4.2 + 1)))) (rv_add (a := s4.2) (b := 1) rfl rfl) (sa (I (w64 (s4.2 + 1))) rfl (w_end (q_then ?_)))))))))
    obtain rfl := sj h
    exact ⟨_, rfl, _, σ36, a34, c35, fr_join ⟨rfl, rfl, rfl, rfl, rfl, rfl, trivial⟩, rfl, H.sel' [4, 5, 0] rfl rfl⟩
  ·replace h := bif_f hb8 h
   refine c_exit (q_then_x (q_then_x (q_blk_hit ?_)))
   obtain rfl := sj h
   obtain rfl := hres _ rfl
   exact ⟨rfl, _, σ5, a6, c7, fr_join ⟨rfl, trivial⟩, rfl, H.sel' [2] rfl rfl⟩
 ·clear hj
  have h := h'
  clear h' H
  rintro e a w ⟨rfl, ρ, σ37, a38, c39, rfl, rfl, H⟩
  refine q_then (c_seq (rg (sm (Sl a38 o3 c39) rfl (sa (Sl a38 o3 c39) rfl (w_end (q_then (c_ret ?_)))))))
  obtain rfl := sj h
  exact fin_ret (v := (Sl a38 o3 c39)) (results_ok Tryz.results29 (res_tmp (v := (Sl a38 o3 c39)) rfl res_nil) rfl) ⟨a38, c39, rfl, rfl⟩ (H.sel' [0] rfl rfl)

theorem c_spec_passes {Bk : Int × Int × Int} {Fp : Int}  {r : Bool} (h : M.spec_passes Bk Fp = some r) :
    Cal2 Tryz.prog 57 [(.agg #[(I Bk.1), (I Bk.2.1), (I Bk.2.2)]), (I Fp)] [] (fun n0 v L => v = (B r) ∧ L = []) := by
 refine cal2 (n := 31) Tryz.func57 rfl rfl rfl rfl ?_
 intro S0 σ0 n0 hn0 H
 unfold M.spec_passes at h
 refine c_seq (rg (st_ex (ex_box (cs := [(I Bk.1), (I Bk.2.1), (I Bk.2.2)]) H hn0 rfl rfl) wn ?_))
 rintro _ σ2 ⟨b1, rfl, H, -⟩
 refine sa (B false) rfl (w_end (q_then (c_seq (rg (sm (I Fp) rfl (st (v := (pt b1 0)) (rv_fieldAddr (off := 0) (ft := 3) Tryz.underlying25 rfl ti3 rfl rfl) ?_))))))
 have hc3 := H.cell (u := (I Bk.1)) (o' := 0) 0 0 rfl rfl rfl
 refine st (v := (I Bk.1)) (rv_load1 Tryz.underlying3 rfl rfl hc3) (st (v := (I (gand Fp Bk.1))) (rv_and (a := Fp) (b := Bk.1) rfl rfl) (st (v := (pt b1 0)) (rv_fieldAddr (off := 0) (ft := 3) Tryz.underlying25 rfl ti3 rfl rfl) ?_))
 have hc4 := H.cell (u := (I Bk.1)) (o' := 0) 0 0 rfl rfl rfl
 refine st (v := (I Bk.1)) (rv_load1 Tryz.underlying3 rfl rfl hc4) (st (v := (B ((gand Fp Bk.1) == Bk.1))) (rv_eql (a := (gand Fp Bk.1)) (b := Bk.1) rfl rfl) (sm (B ((gand Fp Bk.1) == Bk.1)) rfl ?_))
 rcases Bool.eq_false_or_eq_true ((gand Fp Bk.1) == Bk.1) with hb5 | hb5
 ·replace h := bif_t hb5 h
  refine st_g (v := (I Fp)) (congrArg some hb5) (rv_move rfl) (st_g (v := (pt b1 1)) (congrArg some hb5) (rv_fieldAddr (off := 1) (ft := 3) Tryz.underlying25 rfl ti3 rfl rfl) ?_)
  have hc6 := H.cell (u := (I Bk.2.1)) (o' := 1) 0 1 rfl rfl rfl
  refine st_g (v := (I Bk.2.1)) (congrArg some hb5) (rv_load1 Tryz.underlying3 rfl rfl hc6) (st_g (v := (I (gand Fp Bk.2.1))) (congrArg some hb5) (rv_and (a := Fp) (b := Bk.2.1) rfl rfl) (st_g (v := (B ((gand Fp Bk.2.1) == 0))) (congrArg some hb5) (rv_eql (a := (gand Fp Bk.2.1)) (b := 0) rfl rfl) (st (v := (B ((gand Fp Bk.2.1) == 0))) (rv_pick_t (congrArg B hb5) rfl) (sm (B ((gand Fp Bk.2.1) == 0)) rfl ?_))))
  rcases Bool.eq_false_or_eq_true ((gand Fp Bk.2.1) == 0) with hb7 | hb7
  ·replace h := bif_t hb7 h
   refine st_g (v := (pt b1 2)) (congrArg some hb7) (rv_fieldAddr (off := 2) (ft := 3) Tryz.underlying25 rfl ti3 rfl rfl) ?_
   have hc8 := H.cell (u := (I Bk.2.2)) (o' := 2) 0 2 rfl rfl rfl
   refine st_g (v := (I Bk.2.2)) (congrArg some hb7) (rv_load1 Tryz.underlying3 rfl rfl hc8) (st_g (v := (B (Bk.2.2 == 0))) (congrArg some hb7) (rv_eql (a := Bk.2.2) (b := 0) rfl rfl) (st_g (v := (B (Bk.2.2 == 0))) (congrArg some hb7) (rv_move rfl) ?_))
   rcases Bool.eq_false_or_eq_true (Bk.2.2 == 0) with hb9 | hb9
   ·replace h := bif_t hb9 h
    refine st_skip (congrArg some hb9) (st_skip (congrArg some hb9) (st_skip (congrArg some hb9) (st_skip (congrArg some hb9) (st_skip (congrArg some hb9) (st_g (v := (B true)) (congrArg some hb7) (rv_pick_t (congrArg B hb9) rfl) (st (v := (B true)) (rv_pick_t (congrArg B hb7) rfl) (sa (B true) rfl (w_end (q_then (c_ret ?_))))))))))
    obtain rfl := sj h
    exact fin_ret (v := (B true)) (results_ok Tryz.results57 (res_tmp (v := (B true)) rfl res_nil) rfl) ⟨rfl, rfl⟩ (H.sel' [] rfl rfl)
   ·replace h := bif_f hb9 h
    refine st_g (v := (I Fp)) (congrArg some hb9) (rv_move rfl) (st_g (v := (pt b1 2)) (congrArg some hb9) (rv_fieldAddr (off := 2) (ft := 3) Tryz.underlying25 rfl ti3 rfl rfl) ?_)
    have hc10 := H.cell (u := (I Bk.2.2)) (o' := 2) 0 2 rfl rfl rfl
    refine st_g (v := (I Bk.2.2)) (congrArg some hb9) (rv_load1 Tryz.underlying3 rfl rfl hc10) (st_g (v := (I (gand Fp Bk.2.2))) (congrArg some hb9) (rv_and (a := Fp) (b := Bk.2.2) rfl rfl) (st_g (v := (B ((gand Fp Bk.2.2) != 0))) (congrArg some hb9) (rv_neq (a := (gand Fp Bk.2.2)) (b := 0) rfl rfl) (st_g (v := (B ((gand Fp Bk.2.2) != 0))) (congrArg some hb7) (rv_pick_f (congrArg B hb9) rfl) (st (v := (B ((gand Fp Bk.2.2) != 0))) (rv_pick_t (congrArg B hb7) rfl) (sa (B ((gand Fp Bk.2.2) != 0)) rfl (w_end (q_then (c_ret ?_))))))))
    obtain rfl := sj h
    exact fin_ret (v := (B ((gand Fp Bk.2.2) != 0))) (results_ok Tryz.results57 (res_tmp (v := (B ((gand Fp Bk.2.2) != 0))) rfl res_nil) rfl) ⟨rfl, rfl⟩ (H.sel' [] rfl rfl)
  ·replace h := bif_f hb7 h
   refine st_skip (congrArg some hb7) (st_skip (congrArg some hb7) (st_skip (congrArg some hb7) (st_skip (congrArg some hb7) (st_skip_u rfl (st_skip_u rfl (st_skip_u rfl (st_skip_u rfl (st_skip_u rfl (st_skip (congrArg some hb7) (st (v := (B false)) (rv_pick_f (congrArg B hb7) rfl) (sa (B false) rfl ?_)))))))))))
   refine w_end (q_then (c_ret ?_))
   obtain rfl := sj h
   exact fin_ret (v := (B false)) (results_ok Tryz.results57 (res_tmp (v := (B false)) rfl res_nil) rfl) ⟨rfl, rfl⟩ (H.sel' [] rfl rfl)
 ·replace h := bif_f hb5 h
  refine st_skip (congrArg some hb5) (st_skip (congrArg some hb5) (st_skip (congrArg some hb5) (st_skip (congrArg some hb5) (st_skip (congrArg some hb5) (st (v := (B false)) (rv_pick_f (congrArg B hb5) rfl) (sm (B false) rfl (st_skip rfl (st_skip rfl (st_skip rfl (st_skip rfl (st_skip_u rfl ?_)))))))))))
  refine st_skip_u rfl (st_skip_u rfl (st_skip_u rfl (st_skip_u rfl (st_skip rfl (st (v := (B false)) (rv_pick_f rfl rfl) (sa (B false) rfl (w_end (q_then (c_ret ?_)))))))))
  obtain rfl := sj h
  exact fin_ret (v := (B false)) (results_ok Tryz.results57 (res_tmp (v := (B false)) rfl res_nil) rfl) ⟨rfl, rfl⟩ (H.sel' [] rfl rfl)

theorem c_spec_FilterStore {As : List (Int × (List Int) × Int)} {Fw : Int × Int × Int} {Au : Option Addr} {Av : Nat} {r : (List (Int × (List Int) × Int))} (h : M.spec_FilterStore As Fw = some r) :
    Cal2 Tryz.prog 30 [(Sl Au As Av), (.agg #[(I Fw.1), (I Fw.2.1), (I Fw.2.2)])] [Ch.ro 0 (Sl Au As Av) As] (fun n0 v L => ∃ (az1 : Option Addr), ∃ (cz2 : Nat), v = (Sl az1 r cz2) ∧ L = [Ch.own n0 n0 (Sl az1 r cz2) r]) := by
 refine cal2 (n := 38) Tryz.func30 rfl rfl rfl rfl ?_
 intro S0 σ0 n0 hn0 H
 unfold M.spec_FilterStore at h
 refine c_seq (rg (st_ex (ex_box (cs := [(I Fw.1), (I Fw.2.1), (I Fw.2.2)]) H hn0 rfl rfl) wn ?_))
 rintro _ σ2 ⟨b1, rfl, H, -⟩
 refine sa (.slice none 0 0) rfl (w_end (q_then (c_seq (rg ?_))))
 refine st_ex (ex_buildSlice (el := n0) (xs := ([] : List (Int × (List Int) × Int))) (ps := []) (cs := []) H hn0 Tryz.underlying23 ti34 rfl rfl (by kernel_rfl) (.nil) rfl) wn ?_
 rintro _ σ4 ⟨b3, rfl, H, -⟩
 refine sa (Sl (some ⟨b3, 0, none⟩) ([] : List (Int × (List Int) × Int)) 0) rfl (w_end (q_then (c_seq (c_seq ?_))))
 obtain ⟨o5, hj, h'⟩ := bind_some h
 clear h
 refine c_cut (fun e a w => e = .normal ∧ ∃ (ρ : Nat → Value) (σ : St), a = fr 38 (updL ρ [(0, (Sl Au As Av)), (3, (pt b1 0)), (5, (Sl (some ⟨b3, 0, none⟩) ([] : List (Int × (List Int) × Int)) 0)), (15, (B o5))]) ∧ w = σ.w ∧ Hp S0 σ0 σ [Ch.ro 0 (Sl Au As Av) As, Ch.bx n0 b1 0 [(I Fw.1), (I Fw.2.1), (I Fw.2.2)] [] [], Ch.own n0 n0 (Sl (some ⟨b3, 0, none⟩) ([] : List (Int × (List Int) × Int)) 0) ([] : List (Int × (List Int) × Int))]) ?_ ?_
 ·clear h'
  rename _ = some o5 => h
  refine rg (sm (Sl Au As Av) rfl ?_)
  revert h; refine br fun r6 hx7 h => ?_
  have hc8 := c_spec_validStore (Au := Au) (Av := Av) hx7
  refine st_call (cx_call hc8 (ent_f hc8.fn rfl) hn0 (H.sel' [2, 0, 1, 2] rfl rfl : Hp S0 σ0 _ ([_] ++ _))) wn ?_
  rintro _ σ9 ⟨_, ⟨rfl, rfl⟩, H, -⟩
  replace H : Hp _ _ _ [_, _, _] := H
  refine st (v := (B (!r6))) (rv_not rfl) (sm (B (!r6)) rfl ?_)
  rcases Bool.eq_false_or_eq_true (!r6) with hb10 | hb10
  ·replace h := bif_t hb10 h
   refine st_skip (congrArg some hb10) (st_skip (congrArg some hb10) (st_skip (congrArg some hb10) (st (v := (B true)) (rv_pick_t (congrArg B hb10) rfl) (w_end ?_))))
   obtain rfl := sj h
   exact ⟨rfl, _, σ9, fr_join ⟨rfl, rfl, rfl, rfl, trivial⟩, rfl, H.sel' [2, 1, 0] rfl rfl⟩
  ·replace h := bif_f hb10 h
   have hc11 := H.cells 1 rfl
   refine st_g (v := (.agg #[(I Fw.1), (I Fw.2.1), (I Fw.2.2)])) (congrArg some hb10) (rv_load (cs := [(I Fw.1), (I Fw.2.1), (I Fw.2.2)]) Tryz.underlying25 rfl ti25 rfl rfl hc11) ?_
   revert h; refine br fun r12 hx13 h => ?_
   have hc14 := c_spec_validFilter hx13
   refine st_call (cx_call hc14 (ent_f hc14.fn rfl) hn0 (H.sel' [0, 1, 2] rfl rfl : Hp S0 σ0 _ ([] ++ _))) (wanted_yes rfl (by exact (congrArg some hb10))) ?_
   rintro _ σ15 ⟨_, ⟨rfl, rfl⟩, H, -⟩
   replace H : Hp _ _ _ [_, _, _] := H
   refine st_g (v := (B (!r12))) (congrArg some hb10) (rv_not rfl) (st (v := (B (!r12))) (rv_pick_f (congrArg B hb10) rfl) (w_end ?_))
   obtain rfl := sj h
   exact ⟨rfl, _, σ15, fr_join ⟨rfl, rfl, rfl, rfl, trivial⟩, rfl, H.sel' [2, 1, 0] rfl rfl⟩
 ·clear hj
  have h := h'
  clear h' H
  rintro e a w ⟨rfl, ρ, σ16, rfl, rfl, H⟩
  refine q_then ?_
  refine cd_cond o5 rfl (fun hb17 => ?_) (fun hb17 => ?_)
  ·replace h := bif_t hb17 h
   refine c_seq (rg (sa (.slice none 0 0) rfl (w_end (q_then (c_ret (q_then_r ?_))))))
   replace H := H.nilOwn (Int × (List Int) × Int) n0 n0
   obtain rfl := sj h
   exact fin_ret (v := (.slice none 0 0)) (results_ok Tryz.results30 (res_tmp (v := (.slice none 0 0)) rfl res_nil) rfl) ⟨none, 0, rfl, rfl⟩ (H.sel' [0] rfl rfl)
  ·replace h := bif_f hb17 h
   refine c_skip (q_then (c_seq (c_seq (rg (sa (I 0) rfl (w_end (q_then ?_)))))))
   obtain ⟨o18, hj, h'⟩ := bind_some h
   clear h
   refine c_cut (fun e a w => e = .normal ∧ ∃ (ρ : Nat → Value) (σ : St) (aj1 : Option Addr) (cj2 : Nat), a = fr 38 (updL ρ [(5, (Sl aj1 o18 cj2))]) ∧ w = σ.w ∧ Hp S0 σ0 σ [Ch.own n0 n0 (Sl aj1 o18 cj2) o18]) ?_ ?_
   ·clear h'
    rename _ = some o18 => h
    refine c_blk (wp_loopM _ h (fun s19 a w => ∃ (ρ : Nat → Value) (σ : St) (aj1 : Option Addr) (cj2 : Nat), a = fr 38 (updL ρ [(0, (Sl Au As Av)), (3, (pt b1 0)), (5, (Sl aj1 s19.1 cj2)), (6, (I s19.2))]) ∧ w = σ.w ∧ Hp S0 σ0 σ [Ch.ro 0 (Sl Au As Av) As, Ch.bx n0 b1 0 [(I Fw.1), (I Fw.2.1), (I Fw.2.2)] [] [], Ch.own n0 n0 (Sl aj1 s19.1 cj2) s19.1]) ⟨_, σ16, (some ⟨b3, 0, none⟩), 0, fr_join ⟨rfl, rfl, rfl, rfl, trivial⟩, rfl, H.sel' [0, 1, 2] rfl rfl⟩ ?_)
    clear h H
    rintro s19 a w o ⟨ρ, σ20, a21, c22, rfl, rfl, H⟩ h hres
    refine c_seq (c_seq (rg (sm (I s19.2) rfl (sm (Sl Au As Av) rfl (st (v := (I (As.length : Int))) (rv_len Tryz.underlying23 rfl) (st (v := (B (decide (s19.2 < (As.length : Int))))) (rv_lss (a := s19.2) (b := (As.length : Int)) rfl rfl) (w_end (q_then ?_))))))))
    refine cd_cond (decide (s19.2 < (As.length : Int))) rfl (fun hb23 => ?_) (fun hb23 => ?_)
    ·replace h := bif_t hb23 h
     refine c_skip (q_then (c_seq ?_))
     obtain ⟨o24, hj, h'⟩ := bind_some h
     clear h
     refine c_cut (fun e a w => e = .normal ∧ ∃ (ρ : Nat → Value) (σ : St) (aj1 : Option Addr) (cj2 : Nat), a = fr 38 (updL ρ [(0, (Sl Au As Av)), (3, (pt b1 0)), (5, (Sl aj1 o24 cj2)), (6, (I s19.2))]) ∧ w = σ.w ∧ Hp S0 σ0 σ [Ch.ro 0 (Sl Au As Av) As, Ch.bx n0 b1 0 [(I Fw.1), (I Fw.2.1), (I Fw.2.2)] [] [], Ch.own n0 n0 (Sl aj1 o24 cj2) o24]) ?_ ?_
     ·clear h'
      rename _ = some o24 => h
      refine c_blk (c_seq ?_)
      refine rgP (σ := σ20) 6 (by kernel_rfl) (by kernel_rfl) (by kernel_rfl) ?_
      have hc25 := H.cells 1 rfl
      refine sq (v := (.agg #[(I Fw.1), (I Fw.2.1), (I Fw.2.2)])) (rv_load (cs := [(I Fw.1), (I Fw.2.1), (I Fw.2.2)]) Tryz.underlying25 rfl ti25 rfl rfl hc25) (sq (v := (Sl Au As Av)) (rv_move rfl) (sq (v := (I s19.2)) (rv_move rfl) ?_))
      revert h; refine br fun x26 hx27 h => ?_
      obtain ⟨b29, o30, hi28, -⟩ := (H.ro 0 rfl).ix hx27
      refine sq (v := (pt b29 o30)) (rv_ix Tryz.underlying23 ti34 rfl rfl hi28) (sq (v := (pt b29 (o30 + 2))) (rv_fieldAddr (off := 2) (ft := 3) Tryz.underlying34 rfl ti3 rfl rfl) ?_)
      have hc31 := ((H.ro 0 rfl).at hx27 hi28).snd.snd.int
      refine sq (v := (I x26.2.2)) (rv_load1 Tryz.underlying3 rfl rfl hc31) (sq_end ?_)
      intro σ32 hm33
      replace H := H.grow (hm33.mono fun _ h => h); clear hm33
      revert h; refine br fun r34 hx35 h => ?_
      have hc36 := c_spec_passes hx35
      refine st_call (cx_call hc36 (ent_f hc36.fn rfl) hn0 (H.sel' [0, 1, 2] rfl rfl : Hp S0 σ0 _ ([] ++ _))) wn ?_
      rintro _ σ37 ⟨_, ⟨rfl, rfl⟩, H, -⟩
      replace H : Hp _ _ _ [_, _, _] := H
      refine w_end (q_then ?_)
      refine cd_cond r34 rfl (fun hb38 => ?_) (fun hb38 => ?_)
      ·replace h := bif_t hb38 h
       refine rg (sm (Sl a21 s19.1 c22) rfl (sm (Sl Au As Av) rfl (sm (I s19.2) rfl ?_)))
       revert h; refine br fun x39 hx40 h => ?_
       obtain ⟨b42, o43, hi41, -⟩ := (H.ro 0 rfl).ix hx40
       refine st (v := (pt b42 o43)) (rv_ix Tryz.underlying23 ti34 rfl rfl hi41) ?_
       obtain ⟨_, ⟨_, _, rfl, rfl, ⟨_, _, rfl, ⟨_, rfl, hR48⟩, rfl⟩⟩, hl44, hc45⟩ := ((H.ro 0 rfl).at hx40 hi41).cells
       obtain ⟨a46, c47, rfl⟩ := hR48.isSl
       replace H := H.add (d := Ch.ro 0 (Sl a46 x39.2.1 c47) x39.2.1) hR48 (fun _ h => h)
       clear hR48
       refine st (v := (.agg #[(I x39.1), (Sl a46 x39.2.1 c47), (I x39.2.2)])) (rv_load Tryz.underlying34 rfl ti34 rfl hl44 hc45) ?_
       revert h; refine br fun r49 hx50 h => ?_
       have hc51 := c_spec_copyItem (Be := a46) (Bf := c47) hx50
       refine st_call (cx_call hc51 (ent_f hc51.fn rfl) hn0 (H.sel' [0, 0, 1, 2, 3] rfl rfl : Hp S0 σ0 _ ([_] ++ _))) wn ?_
       rintro _ σ54 ⟨_, ⟨a52, c53, rfl, rfl⟩, H, -⟩
       replace H : Hp _ _ _ [_, _, _, _, _] := H
       obtain ⟨σ55, hw56, H, -⟩ := H.pub 0 rfl (Nat.le_refl _)
       rw [← hw56]; clear hw56
       refine st_ex (ex_buildSlice (el := n0) (xs := ([(r49.1, r49.2.1, r49.2.2)] : List (Int × (List Int) × Int))) (ps := [(0, (.agg #[(I r49.1), (Sl a52 r49.2.1 c53), (I r49.2.2)]))]) (cs := [(I r49.1), (Sl a52 r49.2.1 c53), (I r49.2.2)]) H hn0 Tryz.underlying23 ti34 rfl rfl (by kernel_rfl) (.cons (c := [(I r49.1), (Sl a52 r49.2.1 c53), (I r49.2.2)]) ⟨[(I r49.1)], [(Sl a52 r49.2.1 c53), (I r49.2.2)], rfl, rfl, ⟨[(Sl a52 r49.2.1 c53)], [(I r49.2.2)], rfl, ⟨_, rfl, (H.ro 0 rfl)⟩, rfl⟩⟩ (.nil)) rfl) wn ?_
       rintro _ σ58 ⟨b57, rfl, H, -⟩
       revert h; refine br fun xs59 hx60 h => ?_
       refine st_ex (ex_append H (i := 5) rfl Tryz.underlying23 Tryz.underlying23 ti34 rfl rfl (by decide) (H.own 0 rfl).rd hx60 hn0 rfl rfl) wn ?_
       rintro _ σ63 ⟨a61, c62, rfl, H, -⟩
       refine sa (Sl a61 xs59 c62) rfl (w_end (q_blk ?_))
       obtain rfl := sj h
       exact ⟨rfl, _, σ63, a61, c62, fr_join ⟨rfl, rfl, rfl, rfl, trivial⟩, rfl, H.sel' [4, 5, 0] rfl rfl⟩
      ·replace h := bif_f hb38 h
       refine c_skip (q_blk ?_)
       obtain rfl := sj h
       exact ⟨rfl, _, σ37, a21, c22, fr_join ⟨rfl, rfl, rfl, rfl, trivial⟩, rfl, H.sel' [0, 1, 2] rfl rfl⟩
     ·clear hj
      have h := h'
      clear h' H
      rintro e a w ⟨rfl, ρ, σ64, a65, c66, rfl, rfl, H⟩
      refine q_then (rg (sm (I s19.2) rfl (st (v := (I (w64 (s19.2 + 1)))) (rv_add (a := s19.2) (b := 1) rfl rfl) (sa (I (w64 (s19.2 + 1))) rfl (w_end (q_then ?_))))))
      obtain rfl := sj h
      exact ⟨_, rfl, _, σ64, a65, c66, fr_join ⟨rfl, rfl, rfl, rfl, trivial⟩, rfl, H.sel' [0, 1, 2] rfl rfl⟩
    ·replace h := bif_f hb23 h
     refine c_exit (q_then_x (q_then_x (q_blk_hit ?_)))
     obtain rfl := sj h
     obtain rfl := hres _ rfl
     exact ⟨rfl, _, σ20, a21, c22, fr_join ⟨rfl, trivial⟩, rfl, H.sel' [2] rfl rfl⟩
   ·clear hj
    have h := h'
    clear h' H
    rintro e a w ⟨rfl, ρ, σ67, a68, c69, rfl, rfl, H⟩
    refine q_then (c_seq (rg (sm (Sl a68 o18 c69) rfl (sa (Sl a68 o18 c69) rfl (w_end (q_then (c_ret ?_)))))))
    obtain rfl := sj h
    exact fin_ret (v := (Sl a68 o18 c69)) (results_ok Tryz.results30 (res_tmp (v := (Sl a68 o18 c69)) rfl res_nil) rfl) ⟨a68, c69, rfl, rfl⟩ (H.sel' [0] rfl rfl)

theorem c_spec_FilterNearest {As : List (Int × (List Int) × Int)} {Fw : Int × Int × Int} {Fx : Int} {Fy : List Int} {Ga : Int} {Au : Option Addr} {Av : Nat} {Gb : Option Addr} {Gc : Nat} {r : (List (Int × Int))} (h : M.spec_FilterNearest As Fw Fx Fy Ga = some r) :
    Cal2 Tryz.prog 9 [(Sl Au As Av), (.agg #[(I Fw.1), (I Fw.2.1), (I Fw.2.2)]), (I Fx), (Sl Gb Fy Gc), (I Ga)] [Ch.ro 0 (Sl Au As Av) As, Ch.ro 0 (Sl Gb Fy Gc) Fy] (fun n0 v L => ∃ (az1 : Option Addr), ∃ (cz2 : Nat), v = (Sl az1 r cz2) ∧ L = [Ch.own n0 n0 (Sl az1 r cz2) r]) := by
 refine cal2 (n := 33) Tryz.func9 rfl rfl rfl rfl ?_
 intro S0 σ0 n0 hn0 H
 unfold M.spec_FilterNearest at h
 refine c_seq (rg (st_ex (ex_box (cs := [(I Fw.1), (I Fw.2.1), (I Fw.2.2)]) H hn0 rfl rfl) wn ?_))
 rintro _ σ2 ⟨b1, rfl, H, -⟩
 refine sa (.slice none 0 0) rfl (w_end (q_then (c_seq (c_seq ?_))))
 obtain ⟨o3, hj, h'⟩ := bind_some h
 clear h
 refine c_cut (fun e a w => e = .normal ∧ ∃ (ρ : Nat → Value) (σ : St), a = fr 33 (updL ρ [(0, (Sl Au As Av)), (2, (I Fx)), (3, (Sl Gb Fy Gc)), (4, (I Ga)), (6, (pt b1 0)), (25, (B o3))]) ∧ w = σ.w ∧ Hp S0 σ0 σ [Ch.ro 0 (Sl Au As Av) As, Ch.ro 0 (Sl Gb Fy Gc) Fy, Ch.bx n0 b1 0 [(I Fw.1), (I Fw.2.1), (I Fw.2.2)] [] []]) ?_ ?_
 ·clear h'
  rename _ = some o3 => h
  refine rg ?_
  have hc4 := H.cells 0 rfl
  refine st (v := (.agg #[(I Fw.1), (I Fw.2.1), (I Fw.2.2)])) (rv_load (cs := [(I Fw.1), (I Fw.2.1), (I Fw.2.2)]) Tryz.underlying25 rfl ti25 rfl rfl hc4) ?_
  revert h; refine br fun r5 hx6 h => ?_
  have hc7 := c_spec_validFilter hx6
  refine st_call (cx_call hc7 (ent_f hc7.fn rfl) hn0 (H.sel' [0, 1, 2] rfl rfl : Hp S0 σ0 _ ([] ++ _))) wn ?_
  rintro _ σ8 ⟨_, ⟨rfl, rfl⟩, H, -⟩
  replace H : Hp _ _ _ [_, _, _] := H
  refine st (v := (B (!r5))) (rv_not rfl) (sm (B (!r5)) rfl ?_)
  rcases Bool.eq_false_or_eq_true (!r5) with hb9 | hb9
  ·replace h := bif_t hb9 h
   refine st_skip (congrArg some hb9) (st_skip (congrArg some hb9) (st_skip (congrArg some hb9) (st_skip (congrArg some hb9) (st_skip (congrArg some hb9) (st (v := (B true)) (rv_pick_t (congrArg B hb9) rfl) (sm (B true) rfl (st_skip rfl (st_skip rfl (st_skip rfl (st (v := (B true)) (rv_pick_t rfl rfl) (w_end ?_)))))))))))
   obtain rfl := sj h
   exact ⟨rfl, _, σ8, fr_join ⟨rfl, rfl, rfl, rfl, rfl, rfl, trivial⟩, rfl, H.sel' [1, 2, 0] rfl rfl⟩
  ·replace h := bif_f hb9 h
   refine st_g (v := (Sl Au As Av)) (congrArg some hb9) (rv_move rfl) (st_g (v := (I Fx)) (congrArg some hb9) (rv_move rfl) (st_g (v := (Sl Gb Fy Gc)) (congrArg some hb9) (rv_move rfl) ?_))
   revert h; refine br fun r10 hx11 h => ?_
   have hc12 := c_spec_validQuery (Au := Au) (Av := Av) (Bu := Gb) (Bv := Gc) hx11
   refine st_call (cx_call hc12 (ent_f hc12.fn rfl) hn0 (H.sel' [1, 2, 0, 1, 2] rfl rfl : Hp S0 σ0 _ ([_, _] ++ _))) (wanted_yes rfl (by exact (congrArg some hb9))) ?_
   rintro _ σ13 ⟨_, ⟨rfl, rfl⟩, H, -⟩
   replace H : Hp _ _ _ [_, _, _] := H
   refine st_g (v := (B (!r10))) (congrArg some hb9) (rv_not rfl) (st (v := (B (!r10))) (rv_pick_f (congrArg B hb9) rfl) (sm (B (!r10)) rfl ?_))
   rcases Bool.eq_false_or_eq_true (!r10) with hb14 | hb14
   ·replace h := bif_t hb14 h
    refine st_skip (congrArg some hb14) (st_skip (congrArg some hb14) (st_skip (congrArg some hb14) (st (v := (B true)) (rv_pick_t (congrArg B hb14) rfl) (w_end ?_))))
    obtain rfl := sj h
    exact ⟨rfl, _, σ13, fr_join ⟨rfl, rfl, rfl, rfl, rfl, rfl, trivial⟩, rfl, H.sel' [1, 2, 0] rfl rfl⟩
   ·replace h := bif_f hb14 h
    refine st_g (v := (I Ga)) (congrArg some hb14) (rv_move rfl) ?_
    revert h; refine br fun r15 hx16 h => ?_
    have hc17 := c_spec_inRange hx16
    refine st_call (cx_call hc17 (ent_f hc17.fn rfl) hn0 (H.sel' [0, 1, 2] rfl rfl : Hp S0 σ0 _ ([] ++ _))) (wanted_yes rfl (by exact (congrArg some hb14))) ?_
    rintro _ σ18 ⟨_, ⟨rfl, rfl⟩, H, -⟩
    replace H : Hp _ _ _ [_, _, _] := H
    refine st_g (v := (B (!r15))) (congrArg some hb14) (rv_not rfl) (st (v := (B (!r15))) (rv_pick_f (congrArg B hb14) rfl) (w_end ?_))
    obtain rfl := sj h
    exact ⟨rfl, _, σ18, fr_join ⟨rfl, rfl, rfl, rfl, rfl, rfl, trivial⟩, rfl, H.sel' [1, 2, 0] rfl rfl⟩
 ·clear hj
  have h := h'
  clear h' H
  rintro e a w ⟨rfl, ρ, σ19, rfl, rfl, H⟩
  refine q_then ?_
  refine cd_cond o3 rfl (fun hb20 => ?_) (fun hb20 => ?_)
  ·replace h := bif_t hb20 h
   refine c_seq (rg (sa (.slice none 0 0) rfl (w_end (q_then (c_ret (q_then_r ?_))))))
   replace H := H.nilOwn (Int × Int) n0 n0
   obtain rfl := sj h
   exact fin_ret (v := (.slice none 0 0)) (results_ok Tryz.results9 (res_tmp (v := (.slice none 0 0)) rfl res_nil) rfl) ⟨none, 0, rfl, rfl⟩ (H.sel' [0] rfl rfl)
  ·replace h := bif_f hb20 h
   refine c_skip (q_then (c_seq (rg (sm (Sl Au As Av) rfl ?_))))
   have hc21 := H.cells 2 rfl
   refine st (v := (.agg #[(I Fw.1), (I Fw.2.1), (I Fw.2.2)])) (rv_load (cs := [(I Fw.1), (I Fw.2.1), (I Fw.2.2)]) Tryz.underlying25 rfl ti25 rfl rfl hc21) ?_
   revert h; refine br fun r22 hx23 h => ?_
   have hc24 := c_spec_FilterStore (Au := Au) (Av := Av) hx23
   refine st_call (cx_call hc24 (ent_f hc24.fn rfl) hn0 (H.sel' [0, 0, 1, 2] rfl rfl : Hp S0 σ0 _ ([_] ++ _))) wn ?_
   rintro _ σ27 ⟨_, ⟨a25, c26, rfl, rfl⟩, H, -⟩
   replace H : Hp _ _ _ [_, _, _, _] := H
   refine sm (I Fx) rfl (sm (Sl Gb Fy Gc) rfl (sm (I Ga) rfl ?_))
   obtain ⟨σ28, hw29, H, -⟩ := H.pub 0 rfl (Nat.le_refl _)
   rw [← hw29]; clear hw29
   replace H := H.roLow 0 0 rfl (Nat.zero_le _)
   revert h; refine br fun r30 hx31 h => ?_
   have hc32 := c_spec_nearest (Au := a25) (Av := c26) (Bu := Gb) (Bv := Gc) hx31
   refine st_call (cx_call hc32 (ent_f hc32.fn rfl) hn0 (H.sel' [0, 3, 0, 1, 2, 3, 4] rfl rfl : Hp S0 σ0 _ ([_, _] ++ _))) wn ?_
   rintro _ σ35 ⟨_, ⟨a33, c34, rfl, rfl⟩, H, -⟩
   replace H : Hp _ _ _ [_, _, _, _, _, _] := H
   refine sa (Sl a33 r30 c34) rfl (w_end (q_then (c_ret ?_)))
   obtain rfl := sj h
   exact fin_ret (v := (Sl a33 r30 c34)) (results_ok Tryz.results9 (res_tmp (v := (Sl a33 r30 c34)) rfl res_nil) rfl) ⟨a33, c34, rfl, rfl⟩ (H.sel' [0] rfl rfl)

theorem c_impl_Nearest {As : List (Int × (List Int) × Int)} {Br : Int} {Bs : List Int} {Bt : Int} {Au : Option Addr} {Av : Nat} {Bu : Option Addr} {Bv : Nat} {r : (List (Int × Int))} (h : M.impl_Nearest As Br Bs Bt = some r) :
    Cal2 Tryz.prog 14 [(Sl Au As Av), (I Br), (Sl Bu Bs Bv), (I Bt)] [Ch.ro 0 (Sl Au As Av) As, Ch.ro 0 (Sl Bu Bs Bv) Bs] (fun n0 v L => ∃ (az1 : Option Addr), ∃ (cz2 : Nat), v = (Sl az1 r cz2) ∧ L = [Ch.own 0 n0 (Sl az1 r cz2) r]) := by
 refine cal2 (n := 20) Tryz.func14 rfl rfl rfl rfl ?_
 intro S0 σ0 n0 hn0 H
 unfold M.impl_Nearest at h
 refine c_seq (rg (sa (.slice none 0 0) rfl (w_end (q_then (c_seq (c_seq (rg (sm (Sl Au As Av) rfl (sm (I Br) rfl (sm (Sl Bu Bs Bv) rfl (sm (I Bt) rfl ?_)))))))))))
 revert h; refine br fun r1 hx2 h => ?_
 have hc3 := c_impl_validSearch (Au := Au) (Av := Av) (Bu := Bu) (Bv := Bv) hx2
 refine st_call (cx_call hc3 (ent_f hc3.fn rfl) hn0 (H.sel' [0, 1, 0, 1] rfl rfl : Hp S0 σ0 _ ([_, _] ++ _))) wn ?_
 rintro _ σ4 ⟨_, ⟨rfl, rfl⟩, H, -⟩
 replace H : Hp _ _ _ [_, _] := H
 refine st (v := (B (!r1))) (rv_not rfl) (w_end (q_then ?_))
 refine cd_cond (!r1) rfl (fun hb5 => ?_) (fun hb5 => ?_)
 ·replace h := bif_t hb5 h
  refine c_seq (rg (sa (.slice none 0 0) rfl (w_end (q_then (c_ret (q_then_r ?_))))))
  replace H := H.nilOwn (Int × Int) 0 n0
  obtain rfl := sj h
  exact fin_ret (v := (.slice none 0 0)) (results_ok Tryz.results14 (res_tmp (v := (.slice none 0 0)) rfl res_nil) rfl) ⟨none, 0, rfl, rfl⟩ (H.sel' [0] rfl rfl)
 ·replace h := bif_f hb5 h
  refine c_skip (q_then (c_seq (rg (sm (Sl Au As Av) rfl (sm (I Br) rfl (sm (Sl Bu Bs Bv) rfl (sm (I Bt) rfl ?_)))))))
  revert h; refine br fun r6 hx7 h => ?_
  have hc8 := c_impl_nearestAmong (Au := Au) (Av := Av) (Bu := Bu) (Bv := Bv) hx7
  refine st_call (cx_call hc8 (ent_f hc8.fn rfl) hn0 (H.sel' [0, 1, 0, 1] rfl rfl : Hp S0 σ0 _ ([_, _] ++ _))) wn ?_
  rintro _ σ11 ⟨_, ⟨a9, c10, rfl, rfl⟩, H, -⟩
  replace H : Hp _ _ _ [_, _, _] := H
  refine sa (Sl a9 r6 c10) rfl (w_end (q_then (c_ret ?_)))
  obtain rfl := sj h
  exact fin_ret (v := (Sl a9 r6 c10)) (results_ok Tryz.results14 (res_tmp (v := (Sl a9 r6 c10)) rfl res_nil) rfl) ⟨a9, c10, rfl, rfl⟩ (H.sel' [0] rfl rfl)

theorem c_laws_FnFilterNearestOpen {Aa : List UInt8} {Ac : Option Addr} {Ad : Nat} {r : Bool} (h : M.laws_FnFilterNearestOpen Aa = some r) :
    Cal2 Tryz.prog 4 [(Sl Ac Aa Ad)] [Ch.ro 0 (Sl Ac Aa Ad) Aa] (fun n0 v L => v = (B r) ∧ L = []) := by
 refine cal2 (n := 47) Tryz.func4 rfl rfl rfl rfl ?_
 intro S0 σ0 n0 hn0 H
 unfold M.laws_FnFilterNearestOpen at h
 refine c_seq (rg (sa (B false) rfl (w_end (q_then (c_seq (c_seq (rg (sm (Sl Ac Aa Ad) rfl (st (v := (I (Aa.length : Int))) (rv_len Tryz.underlying22 rfl) (st (v := (B (decide (1048576 < (Aa.length : Int))))) (rv_gtr (a := (Aa.length : Int)) (b := 1048576) rfl rfl) (w_end ?_)))))))))))
 refine q_then ?_
 refine cd_cond (decide (1048576 < (Aa.length : Int))) rfl (fun hb1 => ?_) (fun hb1 => ?_)
 ·replace h := bif_t hb1 h
  refine c_seq (rg (sa (B true) rfl (w_end (q_then (c_ret (q_then_r ?_))))))
  obtain rfl := sj h
  exact fin_ret (v := (B true)) (results_ok Tryz.results4 (res_tmp (v := (B true)) rfl res_nil) rfl) ⟨rfl, rfl⟩ (H.sel' [] rfl rfl)
 ·replace h := bif_f hb1 h
  refine c_skip (q_then (c_seq (rg (sm (Sl Ac Aa Ad) rfl ?_))))
  revert h; refine br fun r2 hx3 h => ?_
  have hc4 := c_spec_DrawFilterNearest (Ac := Ac) (Ad := Ad) hx3
  refine st_call (cx_call hc4 (ent_f hc4.fn rfl) hn0 (H.sel' [0, 0] rfl rfl : Hp S0 σ0 _ ([_] ++ _))) wn ?_
  rintro _ σ9 ⟨_, ⟨a5, c6, a7, c8, rfl, rfl⟩, H, -⟩
  replace H : Hp _ _ _ [_, _, _] := H
  refine sm (.tuple #[(Sl a5 r2.1 c6), (.agg #[(I r2.2.1.1), (I r2.2.1.2.1), (I r2.2.1.2.2)]), (I r2.2.2.1), (Sl a7 r2.2.2.2.1 c8), (I r2.2.2.2.2)]) rfl (st (v := (Sl a5 r2.1 c6)) (rv_extract rfl rfl) (st (v := (.agg #[(I r2.2.1.1), (I r2.2.1.2.1), (I r2.2.1.2.2)])) (rv_extract rfl rfl) (st (v := (I r2.2.2.1)) (rv_extract rfl rfl) (st (v := (Sl a7 r2.2.2.2.1 c8)) (rv_extract rfl rfl) (st (v := (I r2.2.2.2.2)) (rv_extract rfl rfl) (st_ex (ex_alloc (cs := [(I 0), (I 0), (I 0)]) H hn0 ti25 rfl) wn ?_))))))
  rintro _ σ11 ⟨b10, rfl, H, -⟩
  refine sa (Sl a5 r2.1 c6) rfl ?_
  refine st_exS (ex_store_box (k := 0) (cs := [(I 0), (I 0), (I 0)]) (vs := [(I r2.2.1.1), (I r2.2.1.2.1), (I r2.2.1.2.2)]) (cs' := [(I r2.2.1.1), (I r2.2.1.2.1), (I r2.2.1.2.2)]) H (i := 0) rfl ti25 rfl rfl rfl rfl rfl (Nat.le_of_ble_eq_true rfl) (by simp [plain]) rfl) wn ?_
  rintro σ12 ⟨H, -⟩
  refine sa (I r2.2.2.1) rfl (sa (Sl a7 r2.2.2.2.1 c8) rfl (sa (I r2.2.2.2.2) rfl (w_end (q_then (c_seq (rg (sm (Sl a5 r2.1 c6) rfl ?_)))))))
  have hc13 := H.cells 0 rfl
  refine st (v := (.agg #[(I r2.2.1.1), (I r2.2.1.2.1), (I r2.2.1.2.2)])) (rv_load (cs := [(I r2.2.1.1), (I r2.2.1.2.1), (I r2.2.1.2.2)]) Tryz.underlying25 rfl ti25 rfl rfl hc13) (sm (I r2.2.2.1) rfl (sm (Sl a7 r2.2.2.2.1 c8) rfl (sm (I r2.2.2.2.2) rfl ?_)))
  revert h; refine br fun r14 hx15 h => ?_
  have hc16 := c_impl_FilterNearest (Au := a5) (Av := c6) (Gb := a7) (Gc := c8) hx15
  have hle := Nat.le_trans hn0 H.size
  refine st_call (cx_lend (Loan.lend (Loan.lend Loan.nil)) hc16 (ent_f hc16.fn rfl) (show Hp S0 σ0 _ ([Ch.own n0 n0 (Sl a5 r2.1 c6) r2.1, Ch.own n0 n0 (Sl a7 r2.2.2.2.1 c8) r2.2.2.2.1] ++ ([] ++ [Ch.bx n0 b10 0 [(I r2.2.1.1), (I r2.2.1.2.1), (I r2.2.1.2.2)] [] [], Ch.ro 0 (Sl Ac Aa Ad) Aa])) from (H.sel' [1, 2, 0, 3] rfl rfl)) (by rintro _ _ _ ⟨_, _, rfl, rfl⟩; exact ⟨Ab.ownSc, trivial⟩)) wn ?_
  rintro _ σ19 ⟨_, ⟨a17, c18, rfl, rfl⟩, H, -, -⟩
  replace H : Hp _ _ _ [_, _, _, _, _] := H
  replace H := H.ownLow 0 0 n0 rfl (Nat.le_refl _) hle
  clear hle
  replace H : Hp _ _ _ [_, _, _, _, _] := H
  refine sa (Sl a17 r14 c18) rfl (w_end (q_then (c_seq (c_seq (rg (sm (Sl a17 r14 c18) rfl (sm (Sl a5 r2.1 c6) rfl ?_)))))))
  have hc20 := H.cells 3 rfl
  refine st (v := (.agg #[(I r2.2.1.1), (I r2.2.1.2.1), (I r2.2.1.2.2)])) (rv_load (cs := [(I r2.2.1.1), (I r2.2.1.2.1), (I r2.2.1.2.2)]) Tryz.underlying25 rfl ti25 rfl rfl hc20) (sm (I r2.2.2.1) rfl (sm (Sl a7 r2.2.2.2.1 c8) rfl (sm (I r2.2.2.2.2) rfl ?_)))
  revert h; refine br fun r21 hx22 h => ?_
  have hc23 := c_spec_FilterNearest (Au := a5) (Av := c6) (Gb := a7) (Gc := c8) hx22
  have hle := Nat.le_trans hn0 H.size
  refine st_call (cx_lend (Loan.lend (Loan.lend Loan.nil)) hc23 (ent_f hc23.fn rfl) (show Hp S0 σ0 _ ([Ch.own n0 n0 (Sl a5 r2.1 c6) r2.1, Ch.own n0 n0 (Sl a7 r2.2.2.2.1 c8) r2.2.2.2.1] ++ ([] ++ [Ch.own 0 n0 (Sl a17 r14 c18) r14, Ch.bx n0 b10 0 [(I r2.2.1.1), (I r2.2.1.2.1), (I r2.2.1.2.2)] [] [], Ch.ro 0 (Sl Ac Aa Ad) Aa])) from (H.sel' [1, 2, 0, 3, 4] rfl rfl)) (by rintro _ _ _ ⟨_, _, rfl, rfl⟩; exact ⟨Ab.ownSc, trivial⟩)) wn ?_
  rintro _ σ26 ⟨_, ⟨a24, c25, rfl, rfl⟩, H, -, -⟩
  replace H : Hp _ _ _ [_, _, _, _, _, _] := H
  replace H := H.ownLow 0 n0 n0 rfl hle hle
  clear hle
  replace H : Hp _ _ _ [_, _, _, _, _, _] := H
  replace H := H.ownLow 3 0 0 rfl (Nat.le_refl _) (Nat.zero_le _)
  obtain ⟨σ27, hw28, H, -⟩ := H.pub 0 rfl (Nat.le_refl _)
  rw [← hw28]; clear hw28
  obtain ⟨σ29, hw30, H, -⟩ := H.pub 1 rfl (Nat.le_refl _)
  rw [← hw30]; clear hw30
  replace H := H.roLow 0 0 rfl (Nat.zero_le _)
  revert h; refine br fun r31 hx32 h => ?_
  have hc33 := c_laws_equalHits (Gd := a17) (Ge := c18) (Gf := a24) (Gg := c25) hx32
  refine st_call (cx_call hc33 (ent_f hc33.fn rfl) hn0 (H.sel' [2, 0, 0, 1, 2, 3, 4, 5, 6] rfl rfl : Hp S0 σ0 _ ([_, _] ++ _))) wn ?_
  rintro _ σ34 ⟨_, ⟨rfl, rfl⟩, H, -⟩
  replace H : Hp _ _ _ [_, _, _, _, _, _, _] := H
  refine st (v := (B (!r31))) (rv_not rfl) (w_end (q_then ?_))
  refine cd_cond (!r31) rfl (fun hb35 => ?_) (fun hb35 => ?_)
  ·replace h := bif_t hb35 h
   refine c_seq (rg (sa (B false) rfl (w_end (q_then (c_ret (q_then_r ?_))))))
   obtain rfl := sj h
   exact fin_ret (v := (B false)) (results_ok Tryz.results4 (res_tmp (v := (B false)) rfl res_nil) rfl) ⟨rfl, rfl⟩ (H.sel' [] rfl rfl)
  ·replace h := bif_f hb35 h
   refine c_skip (q_then (c_seq (rg (sm (Sl a5 r2.1 c6) rfl ?_))))
   refine st (v := (.agg #[(I 0), (I 0), (I 0)])) (rv_build (ps := []) Tryz.underlying25 ti25 (bp25 Tryz.underlying25) rfl (by kernel_rfl)) ?_
   refine sm (I r2.2.2.1) rfl (sm (Sl a7 r2.2.2.2.1 c8) rfl (sm (I r2.2.2.2.2) rfl ?_))
   revert h; refine br fun r36 hx37 h => ?_
   have hc38 := c_impl_FilterNearest (Au := a5) (Av := c6) (Gb := a7) (Gc := c8) hx37
   have hle := Nat.le_trans hn0 H.size
   refine st_call (cx_lend (Loan.lend (Loan.lend Loan.nil)) hc38 (ent_f hc38.fn rfl) (show Hp S0 σ0 _ ([Ch.own n0 n0 (Sl a5 r2.1 c6) r2.1, Ch.own n0 n0 (Sl a7 r2.2.2.2.1 c8) r2.2.2.2.1] ++ ([] ++ [Ch.ro 0 (Sl a24 r21 c25) r21, Ch.ro n0 (Sl a24 r21 c25) r21, Ch.ro 0 (Sl a17 r14 c18) r14, Ch.bx n0 b10 0 [(I r2.2.1.1), (I r2.2.1.2.1), (I r2.2.1.2.2)] [] [], Ch.ro 0 (Sl Ac Aa Ad) Aa])) from (H.sel' [3, 4, 0, 1, 2, 5, 6] rfl rfl)) (by rintro _ _ _ ⟨_, _, rfl, rfl⟩; exact ⟨Ab.ownSc, trivial⟩)) wn ?_
   rintro _ σ41 ⟨_, ⟨a39, c40, rfl, rfl⟩, H, -, -⟩
   replace H : Hp _ _ _ [_, _, _, _, _, _, _, _] := H
   replace H := H.ownLow 0 0 n0 rfl (Nat.le_refl _) hle
   clear hle
   replace H : Hp _ _ _ [_, _, _, _, _, _, _, _] := H
   replace H : Hp S0 σ0 σ41 [Ch.own 0 n0 (Sl a39 r36 c40) r36, Ch.own n0 n0 (Sl a5 r2.1 c6) r2.1, Ch.own n0 n0 (Sl a7 r2.2.2.2.1 c8) r2.2.2.2.1] := H.sel' [0, 1, 2] rfl rfl
   refine sm (Sl a5 r2.1 c6) rfl (sm (I r2.2.2.1) rfl (sm (Sl a7 r2.2.2.2.1 c8) rfl (sm (I r2.2.2.2.2) rfl ?_)))
   obtain ⟨σ42, hw43, H, -⟩ := H.pub 1 rfl (Nat.le_refl _)
   rw [← hw43]; clear hw43
   obtain ⟨σ44, hw45, H, -⟩ := H.pub 2 rfl (Nat.le_refl _)
   rw [← hw45]; clear hw45
   replace H := H.roLow 1 0 rfl (Nat.zero_le _)
   replace H := H.roLow 1 0 rfl (Nat.zero_le _)
   revert h; refine br fun r46 hx47 h => ?_
   have hc48 := c_impl_Nearest (Au := a5) (Av := c6) (Bu := a7) (Bv := c8) hx47
   refine st_call (cx_call hc48 (ent_f hc48.fn rfl) hn0 (H.sel' [1, 0, 0, 1, 2, 3, 4] rfl rfl : Hp S0 σ0 _ ([_, _] ++ _))) wn ?_
   rintro _ σ51 ⟨_, ⟨a49, c50, rfl, rfl⟩, H, -⟩
   replace H : Hp _ _ _ [_, _, _, _, _, _] := H
   replace H := H.ownLow 5 0 0 rfl (Nat.le_refl _) (Nat.zero_le _)
   obtain ⟨σ52, hw53, H, -⟩ := H.pub 0 rfl (Nat.le_refl _)
   rw [← hw53]; clear hw53
   replace H := H.ownLow 1 0 0 rfl (Nat.le_refl _) (Nat.zero_le _)
   obtain ⟨σ54, hw55, H, -⟩ := H.pub 0 rfl (Nat.le_refl _)
   rw [← hw55]; clear hw55
   revert h; refine br fun r56 hx57 h => ?_
   have hc58 := c_laws_equalHits (Gd := a39) (Ge := c40) (Gf := a49) (Gg := c50) hx57
   refine st_call (cx_call hc58 (ent_f hc58.fn rfl) hn0 (H.sel' [1, 0, 0, 1, 2, 3, 4, 5] rfl rfl : Hp S0 σ0 _ ([_, _] ++ _))) wn ?_
   rintro _ σ59 ⟨_, ⟨rfl, rfl⟩, H, -⟩
   replace H : Hp _ _ _ [_, _, _, _, _, _] := H
   refine sa (B r56) rfl (w_end (q_then (c_ret ?_)))
   obtain rfl := sj h
   exact fin_ret (v := (B r56)) (results_ok Tryz.results4 (res_tmp (v := (B r56)) rfl res_nil) rfl) ⟨rfl, rfl⟩ (H.sel' [] rfl rfl)

end Go.Vs
