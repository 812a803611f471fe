/- The functions compute what their models say. -/
import Derived.Test.YtmgifhehikeplabKProbeCostMoreC3
set_option linter.unusedVariables false
set_option linter.unusedSimpArgs false
set_option maxRecDepth 20000
namespace Go.Vs
open Go Go.Proofs
attribute [local irreducible] Code.wp Code.wpIn wpList wpListIn wpQuiet Calls CallsIn

theorem c_slices_SortStableFunc_int_int__impl_ProbeOrder_1 {Bd : List Int} {Fi : List (List Int)} {Fj : List Int} {Fk : Option Addr} {Fl : Nat} {Fm : Option Addr} {Fn : Nat} {Fo Fp Fq : Nat} {Fr Fs : List Value} {Ft : Option Addr} {Fu : Nat} {Fv Fw Fx : Nat} {Fy Ga : List Value} {r : (List Int)} (h : M.slices_SortStableFunc_int_int__impl_ProbeOrder_1 Bd Fi Fj = some r) :
    Cal2 Try.prog 41 [(Sl Fk Bd Fl), (.func (.func 42) #[] #[(pt Fp Fq), (pt Fw Fx)])] [Ch.own 0 0 (Sl Fk Bd Fl) Bd, Ch.bx Fo Fp Fq [(Sl Fm Fi Fn)] Fr Fs, Ch.ro 0 (Sl Fm Fi Fn) Fi, Ch.bx Fv Fw Fx [(Sl Ft Fj Fu)] Fy Ga, Ch.ro 0 (Sl Ft Fj Fu) Fj] (fun n0 v L => v = (.tuple #[]) ∧ L = [Ch.own 0 0 (Sl Fk r Fl) r, Ch.bx Fo Fp Fq [(Sl Fm Fi Fn)] Fr Fs, Ch.bx Fv Fw Fx [(Sl Ft Fj Fu)] Fy Ga] ∧ r.length = Bd.length) := by
 refine cal2 (n := 9) Try.func41 rfl rfl rfl rfl ?_
 intro S0 σ0 n0 hn0 H
 unfold M.slices_SortStableFunc_int_int__impl_ProbeOrder_1 at h
 refine rg (st (v := (Sl Fk Bd Fl)) (rv_move rfl) (st (v := (Sl Fk Bd Fl)) (rv_move rfl) (st (v := (I (Bd.length : Int))) (rv_len Try.underlying29 rfl) (st (v := (.func (.func 42) #[] #[(pt Fp Fq), (pt Fw Fx)])) (rv_move rfl) ?_))))
 obtain ⟨r1, hx2, h'⟩ := bind_some h
 clear h
 have h := h'; clear h'
 have hc3 := c_slices_stableCmpFunc_int__impl_ProbeOrder_1 (De := Fk) (Dg := Fl) (Ev := Fo) (Ew := Fp) (Ey := Fq) (Ez := Fr) (Fa := Fs) (Et := Fm) (Eu := Fn) (Fd := Fv) (Fe := Fw) (Ff := Fx) (Fg := Fy) (Fh := Ga) (Fb := Ft) (Fc := Fu) hx2
 refine st_call (cx_call hc3 (ent_f hc3.fn rfl) hn0 (H.sel' [0, 1, 2, 3, 4, 2, 4] rfl rfl : Hp S0 σ0 _ ([_, _, _, _, _] ++ _))) wn ?_
 rintro _ σ5 ⟨_, ⟨rfl, rfl, hn4⟩, H, -⟩
 replace H : Hp _ _ _ [_, _, _, _, _] := H
 have hsl : (Sl Fk Bd Fl) = (Sl Fk r1 Fl) := sl_len hn4.symm
 try rw [hsl]
 try rw [hsl] at H
 clear hsl
 refine w_end ?_
 obtain rfl := Option.some.inj h
 exact fin_end (v := (.tuple #[])) (results_ok Try.results41 res_nil rfl) ⟨rfl, rfl, hn4⟩ (H.sel' [0, 1, 2] rfl rfl)

theorem c_impl_ProbeOrder {Bj : List (List Int)} {Bk : List Int} {Bl : Int} {Bm : Option Addr} {Bn : Nat} {Bo : Option Addr} {Bp : Nat} {r : (List Int)} (h : M.impl_ProbeOrder Bj Bk Bl = some r) :
    Cal2 Try.prog 16 [(Sl Bm Bj Bn), (Sl Bo Bk Bp), (I Bl)] [Ch.ro 0 (Sl Bm Bj Bn) Bj, Ch.ro 0 (Sl Bo Bk Bp) Bk] (fun n0 v L => ∃ (az1 : Option Addr), ∃ (cz2 : Nat), v = (Sl az1 r cz2) ∧ L = [Ch.own 0 n0 (Sl az1 r cz2) r]) := by
 refine cal2 (n := 36) Try.func16 rfl rfl rfl rfl ?_
 intro S0 σ0 n0 hn0 H
 unfold M.impl_ProbeOrder at h
 refine c_seq (rg (st_ex (ex_box (cs := [(Sl Bm Bj Bn)]) H hn0 rfl rfl) wn ?_))
 rintro _ σ2 ⟨b1, rfl, H, -⟩
 refine st_ex (ex_box (cs := [(Sl Bo Bk Bp)]) H hn0 rfl rfl) wn ?_
 rintro _ σ4 ⟨b3, rfl, H, -⟩
 refine st (v := (.slice none 0 0)) (rv_assign rfl) (w_end (q_then (c_seq (c_seq (rg ?_)))))
 have hc5 := H.cell (u := (Sl Bm Bj Bn)) (o' := 0) 1 0 rfl rfl rfl
 refine st (v := (Sl Bm Bj Bn)) (rv_load1 Try.underlying23 rfl rfl hc5) ?_
 have hc6 := H.cell (u := (Sl Bo Bk Bp)) (o' := 0) 0 0 rfl rfl rfl
 refine st (v := (Sl Bo Bk Bp)) (rv_load1 Try.underlying29 rfl rfl hc6) (st (v := (I Bl)) (rv_move rfl) ?_)
 obtain ⟨r7, hx8, h'⟩ := bind_some h
 clear h
 have h := h'; clear h'
 have hc9 := c_impl_validProbe (Bm := Bm) (Bn := Bn) (Bo := Bo) (Bp := Bp) hx8
 refine st_call (cx_call hc9 (ent_f hc9.fn rfl) hn0 (H.sel' [2, 3, 0, 1, 2, 3] rfl rfl : Hp S0 σ0 _ ([_, _] ++ _))) wn ?_
 rintro _ σ10 ⟨_, ⟨rfl, rfl⟩, H, -⟩
 replace H : Hp _ _ _ [_, _, _, _] := H
 refine st (v := (B (!r7))) (rv_not rfl) (w_end (q_then ?_))
 refine cd_cond (!r7) rfl (fun hb11 => ?_) (fun hb11 => ?_)
 ·replace h := bif_t hb11 h
  refine c_seq (rg (st (v := (.slice none 0 0)) (rv_assign rfl) (w_end (q_then (c_ret (q_then_r ?_))))))
  replace H := H.nilOwn Int 0 n0
  obtain rfl := Option.some.inj h
  exact fin_ret (v := (.slice none 0 0)) (results_ok Try.results16 (res_tmp (v := (.slice none 0 0)) rfl res_nil) rfl) ⟨none, 0, rfl, rfl⟩ (H.sel' [0] rfl rfl)
 ·replace h := bif_f hb11 h
  refine c_skip (q_then (c_seq (rg ?_)))
  have hc12 := H.cell (u := (Sl Bm Bj Bn)) (o' := 0) 1 0 rfl rfl rfl
  refine st (v := (Sl Bm Bj Bn)) (rv_load1 Try.underlying23 rfl rfl hc12) (st (v := (I (Bj.length : Int))) (rv_len Try.underlying23 rfl) ?_)
  obtain ⟨xs13, hx14, h'⟩ := bind_some h
  clear h
  have h := h'; clear h'
  refine st_ex (ex_make (el := n0) (z0 := (0 : Int)) (zs := [(I 0)]) H hn0 Try.underlying29 ti3 rfl rfl rfl (by decide) hx14 rfl rfl) wn ?_
  rintro _ σ18 ⟨b15, c16, rfl, ht17, H, -⟩
  replace ht17 := ht17.trans (gmake_len hx14).symm
  refine st (v := (Sl (some ⟨b15, 0, none⟩) xs13 c16)) (rv_assign rfl) (w_end (q_then (c_seq (c_seq (rg (st (v := (Sl (some ⟨b15, 0, none⟩) xs13 c16)) (rv_move rfl) (st (v := (I (xs13.length : Int))) (rv_len Try.underlying29 rfl) (st (v := (I 0)) (rv_move rfl) (w_end (q_then ?_))))))))))
  obtain ⟨o19, hj, h'⟩ := bind_some h
  clear h
  refine c_cut (fun e a w => e = .normal ∧ ∃ (ρ : Nat → Value) (σ : St), a = fr 36 (updL ρ [(2, (I Bl)), (3, (pt b1 0)), (4, (pt b3 0)), (7, (Sl (some ⟨b15, 0, none⟩) o19 c16))]) ∧ w = σ.w ∧ Hp S0 σ0 σ [Ch.ro 0 (Sl Bm Bj Bn) Bj, Ch.bx n0 b1 0 [(Sl Bm Bj Bn)] [] [], Ch.ro 0 (Sl Bo Bk Bp) Bk, Ch.bx n0 b3 0 [(Sl Bo Bk Bp)] [] [], Ch.own n0 n0 (Sl (some ⟨b15, 0, none⟩) o19 c16) o19] ∧ c16 = o19.length ∧ o19.length = xs13.length) ?_ ?_
  ·clear h'
   rename _ = some o19 => h
   refine c_blk (wp_loopM _ h (fun s20 a w => ∃ (ρ : Nat → Value) (σ : St), a = fr 36 (updL ρ [(2, (I Bl)), (3, (pt b1 0)), (4, (pt b3 0)), (7, (Sl (some ⟨b15, 0, none⟩) s20.1 c16)), (18, (I (xs13.length : Int))), (19, (I s20.2))]) ∧ w = σ.w ∧ Hp S0 σ0 σ [Ch.ro 0 (Sl Bm Bj Bn) Bj, Ch.bx n0 b1 0 [(Sl Bm Bj Bn)] [] [], Ch.ro 0 (Sl Bo Bk Bp) Bk, Ch.bx n0 b3 0 [(Sl Bo Bk Bp)] [] [], Ch.own n0 n0 (Sl (some ⟨b15, 0, none⟩) s20.1 c16) s20.1] ∧ c16 = s20.1.length ∧ s20.1.length = xs13.length) ⟨_, σ18, fr_join ⟨rfl, rfl, rfl, rfl, rfl, rfl, trivial⟩, rfl, H.sel' [3, 2, 4, 1, 0] rfl rfl, ht17, rfl⟩ ?_)
   clear h H
   rintro s20 a w o ⟨ρ, σ21, rfl, rfl, H, ht22, hn23⟩ h hres
   refine c_seq (rg (st (v := (B (decide (s20.2 < (xs13.length : Int))))) (rv_lss (a := s20.2) (b := (xs13.length : Int)) rfl rfl) (w_end (q_then (c_seq ?_)))))
   refine cd_cond (decide (s20.2 < (xs13.length : Int))) rfl (fun hb24 => ?_) (fun hb24 => ?_)
   ·replace h := bif_t hb24 h
    refine c_skip (q_then (c_seq (c_blk (c_seq (rg (st (v := (I s20.2)) (rv_move rfl) (st (v := (I s20.2)) (rv_assign rfl) (w_end (q_then (rg (st (v := (Sl (some ⟨b15, 0, none⟩) s20.1 c16)) (rv_move rfl) ?_)))))))))))
    refine st (v := (I s20.2)) (rv_move rfl) (st (v := (I s20.2)) (rv_move rfl) ?_)
    obtain ⟨x25, hx26, h'⟩ := bind_some h
    clear h
    have h := h'; clear h'
    obtain ⟨b28, o29, hi27, -⟩ := (H.own 4 rfl).ix hx26
    refine st (v := (pt b28 o29)) (rv_ix Try.underlying29 ti3 rfl rfl hi27) ?_
    refine st_exS (ex_store_own (e' := s20.2) (vs := [(I s20.2)]) (k := 0) H (i := 4) rfl ti3 hx26 hi27 rfl rfl rfl rfl rfl (Nat.le_of_ble_eq_true rfl) (by simp [plain]) (by rintro _ rfl; exact rfl)) wn ?_
    rintro σ30 ⟨H, -⟩
    have hsl : (Sl (some ⟨b15, 0, none⟩) s20.1 c16) = (Sl (some ⟨b15, 0, none⟩) (s20.1.set s20.2.toNat s20.2) c16) := sl_len List.length_set.symm
    rw [hsl]; rw [hsl] at H; clear hsl
    refine w_end (q_blk (q_then (rg (st (v := (I (w64 (s20.2 + 1)))) (rv_add (a := s20.2) (b := 1) rfl rfl) (st (v := (I (w64 (s20.2 + 1)))) (rv_move rfl) (w_end (q_then ?_)))))))
    obtain rfl := Option.some.inj h
    exact ⟨_, rfl, _, σ30, fr_join ⟨rfl, rfl, rfl, rfl, rfl, rfl, trivial⟩, rfl, H.sel' [1, 2, 3, 4, 0] rfl rfl, (ht22.trans List.length_set.symm), (List.length_set.trans hn23)⟩
   ·replace h := bif_f hb24 h
    refine c_exit (q_then_x (q_then_x (q_blk_hit ?_)))
    obtain rfl := Option.some.inj h
    obtain rfl := hres _ rfl
    exact ⟨rfl, _, σ21, fr_join ⟨rfl, rfl, rfl, rfl, trivial⟩, rfl, H.sel' [0, 1, 2, 3, 4] rfl rfl, ht22, hn23⟩
  ·clear hj
   have h := h'
   clear h' H
   rintro e a w ⟨rfl, ρ, σ31, rfl, rfl, H, ht32, hn33⟩
   refine q_then (c_seq (rg (st (v := (Sl (some ⟨b15, 0, none⟩) o19 c16)) (rv_move rfl) (st (v := (.func (.func 42) #[] #[(pt b1 0), (pt b3 0)])) (rv_makeFunc (vs := [(pt b1 0), (pt b3 0)]) rfl) ?_))))
   replace H := H.ownLow 4 0 0 rfl (Nat.zero_le _) (Nat.zero_le _)
   obtain ⟨r34, hx35, h'⟩ := bind_some h
   clear h
   have h := h'; clear h'
   have hc36 := c_slices_SortStableFunc_int_int__impl_ProbeOrder_1 (Fk := (some ⟨b15, 0, none⟩)) (Fl := c16) (Fo := n0) (Fp := b1) (Fq := 0) (Fr := []) (Fs := []) (Fm := Bm) (Fn := Bn) (Fv := n0) (Fw := b3) (Fx := 0) (Fy := []) (Ga := []) (Ft := Bo) (Fu := Bp) hx35
   refine st_call (cx_call hc36 (ent_f hc36.fn rfl) hn0 (H.sel' [0, 2, 1, 4, 3, 1, 3] rfl rfl : Hp S0 σ0 _ ([_, _, _, _, _] ++ _))) wn ?_
   rintro _ σ38 ⟨_, ⟨rfl, rfl, hn37⟩, H, -⟩
   replace H : Hp _ _ _ [_, _, _, _, _] := H
   have hsl : (Sl (some ⟨b15, 0, none⟩) o19 c16) = (Sl (some ⟨b15, 0, none⟩) r34 c16) := sl_len hn37.symm
   try rw [hsl]
   try rw [hsl] at H
   clear hsl
   refine w_end (q_then (c_seq (rg (st (v := (Sl (some ⟨b15, 0, none⟩) r34 c16)) (rv_move rfl) (st (v := (I Bl)) (rv_move rfl) (st (v := (Sl (some ⟨b15, 0, none⟩) r34 c16)) (rv_move rfl) (st (v := (I (r34.length : Int))) (rv_len Try.underlying29 rfl) (st (v := (I (min Bl (r34.length : Int)))) (rv_min rfl rfl) ?_))))))))
   obtain ⟨xs39, hx40, h'⟩ := bind_some h
   clear h
   have h := h'; clear h'
   obtain ⟨a41, c42, hs43, hR44, hb45⟩ := (H.own 0 rfl).slice hx40
   replace H := (H.front (i := 0) rfl).turn (d := Ch.own 0 0 (Sl a41 xs39 c42) xs39) (fun _ => hR44) hb45; clear hR44 hb45
   refine st (v := (Sl a41 xs39 c42)) (rv_slice_h Try.underlying29 ti3 hs43 rfl rfl) (st (v := (Sl a41 xs39 c42)) (rv_assign rfl) (w_end (q_then (c_ret ?_))))
   replace H := H.ownSc 0 0 n0 rfl (Nat.le_refl _)
   obtain rfl := Option.some.inj h
   exact fin_ret (v := (Sl a41 xs39 c42)) (results_ok Try.results16 (res_tmp (v := (Sl a41 xs39 c42)) rfl res_nil) rfl) ⟨a41, c42, rfl, rfl⟩ (H.sel' [0] rfl rfl)

theorem c_impl_CentreOf {Bj : List (List Int)} {Bk : List Int} {Bm : Option Addr} {Bn : Nat} {Bo : Option Addr} {Bp : Nat} {r : Int} (h : M.impl_CentreOf Bj Bk = some r) :
    Cal2 Try.prog 20 [(Sl Bm Bj Bn), (Sl Bo Bk Bp)] [Ch.ro 0 (Sl Bm Bj Bn) Bj, Ch.ro 0 (Sl Bo Bk Bp) Bk] (fun n0 v L => v = (I r) ∧ L = []) := by
 refine cal2 (n := 35) Try.func20 rfl rfl rfl rfl ?_
 intro S0 σ0 n0 hn0 H
 unfold M.impl_CentreOf at h
 refine c_seq (rg (st (v := (I 0)) (rv_assign rfl) (w_end (q_then (c_seq (c_seq ?_))))))
 obtain ⟨o1, hj, h'⟩ := bind_some h
 clear h
 refine c_cut (fun e a w => e = .normal ∧ ∃ (ρ : Nat → Value) (σ : St), a = fr 35 (updL ρ [(0, (Sl Bm Bj Bn)), (1, (Sl Bo Bk Bp)), (17, (B o1))]) ∧ w = σ.w ∧ Hp S0 σ0 σ [Ch.ro 0 (Sl Bm Bj Bn) Bj, Ch.ro 0 (Sl Bo Bk Bp) Bk]) ?_ ?_
 ·clear h'
  rename _ = some o1 => h
  refine rg (st (v := (Sl Bm Bj Bn)) (rv_move rfl) ?_)
  obtain ⟨r2, hx3, h'⟩ := bind_some h
  clear h
  have h := h'; clear h'
  have hc4 := c_impl_ValidCentres (Au := Bm) (Av := Bn) hx3
  refine st_call (cx_call hc4 (ent_f hc4.fn rfl) hn0 (H.sel' [0, 0, 1] rfl rfl : Hp S0 σ0 _ ([_] ++ _))) wn ?_
  rintro _ σ5 ⟨_, ⟨rfl, rfl⟩, H, -⟩
  replace H : Hp _ _ _ [_, _] := H
  refine st (v := (B (!r2))) (rv_not rfl) (st (v := (B (!r2))) (rv_move rfl) ?_)
  rcases Bool.eq_false_or_eq_true (!r2) with hb6 | hb6
  ·replace h := bif_t hb6 h
   refine st_skip (congrArg some hb6) (st_skip (congrArg some hb6) (st_skip (congrArg some hb6) (st (v := (B true)) (rv_pick_t (congrArg B hb6) rfl) (w_end ?_))))
   obtain rfl := Option.some.inj h
   exact ⟨rfl, _, σ5, fr_join ⟨rfl, rfl, rfl, trivial⟩, rfl, H.sel' [0, 1] rfl rfl⟩
  ·replace h := bif_f hb6 h
   refine st_g (v := (Sl Bo Bk Bp)) (congrArg some hb6) (rv_move rfl) ?_
   obtain ⟨r7, hx8, h'⟩ := bind_some h
   clear h
   have h := h'; clear h'
   have hc9 := c_impl_ValidVector (Bb := Bo) (Bc := Bp) hx8
   refine st_call (cx_call hc9 (ent_f hc9.fn rfl) hn0 (H.sel' [1, 0, 1] rfl rfl : Hp S0 σ0 _ ([_] ++ _))) (wanted_yes rfl (by exact (congrArg some hb6))) ?_
   rintro _ σ10 ⟨_, ⟨rfl, rfl⟩, H, -⟩
   replace H : Hp _ _ _ [_, _] := H
   refine st_g (v := (B (!r7))) (congrArg some hb6) (rv_not rfl) (st (v := (B (!r7))) (rv_pick_f (congrArg B hb6) rfl) (w_end ?_))
   obtain rfl := Option.some.inj h
   exact ⟨rfl, _, σ10, fr_join ⟨rfl, rfl, rfl, trivial⟩, rfl, H.sel' [0, 1] rfl rfl⟩
 ·clear hj
  have h := h'
  clear h' H
  rintro e a w ⟨rfl, ρ, σ11, rfl, rfl, H⟩
  refine q_then ?_
  refine cd_cond o1 rfl (fun hb12 => ?_) (fun hb12 => ?_)
  ·replace h := bif_t hb12 h
   refine c_seq (rg (st (v := (I (-1))) (rv_assign rfl) (w_end (q_then (c_ret (q_then_r ?_))))))
   obtain rfl := Option.some.inj h
   exact fin_ret (v := (I (-1))) (results_ok Try.results20 (res_tmp (v := (I (-1))) rfl res_nil) rfl) ⟨rfl, rfl⟩ (H.sel' [] rfl rfl)
  ·replace h := bif_f hb12 h
   refine c_skip (q_then (c_seq (rg (st (v := (I 0)) (rv_assign rfl) (st (v := (I 1000000)) (rv_assign rfl) (w_end (q_then (c_seq (c_seq (rg (st (v := (Sl Bm Bj Bn)) (rv_move rfl) ?_)))))))))))
   refine st (v := (I (Bj.length : Int))) (rv_len Try.underlying23 rfl) (st (v := (I 0)) (rv_move rfl) (w_end (q_then ?_)))
   obtain ⟨o13, hj, h'⟩ := bind_some h
   clear h
   refine c_cut (fun e a w => e = .normal ∧ ∃ (ρ : Nat → Value) (σ : St), a = fr 35 (updL ρ [(5, (I o13))]) ∧ w = σ.w ∧ Hp S0 σ0 σ []) ?_ ?_
   ·clear h'
    rename _ = some o13 => h
    refine c_blk (wp_loopM _ h (fun s14 a w => ∃ (ρ : Nat → Value) (σ : St), a = fr 35 (updL ρ [(1, (Sl Bo Bk Bp)), (5, (I s14.1)), (6, (I s14.2.1)), (18, (Sl Bm Bj Bn)), (19, (I (Bj.length : Int))), (20, (I s14.2.2))]) ∧ w = σ.w ∧ Hp S0 σ0 σ [Ch.ro 0 (Sl Bo Bk Bp) Bk, Ch.ro 0 (Sl Bm Bj Bn) Bj]) ⟨_, σ11, fr_join ⟨rfl, rfl, rfl, rfl, rfl, rfl, trivial⟩, rfl, H.sel' [1, 0] rfl rfl⟩ ?_)
    clear h H
    rintro s14 a w o ⟨ρ, σ15, rfl, rfl, H⟩ h hres
    refine c_seq (rg (st (v := (B (decide (s14.2.2 < (Bj.length : Int))))) (rv_lss (a := s14.2.2) (b := (Bj.length : Int)) rfl rfl) (w_end (q_then (c_seq ?_)))))
    refine cd_cond (decide (s14.2.2 < (Bj.length : Int))) rfl (fun hb16 => ?_) (fun hb16 => ?_)
    ·replace h := bif_t hb16 h
     refine c_skip (q_then (c_seq ?_))
     obtain ⟨o17, hj, h'⟩ := bind_some h
     clear h
     refine c_cut (fun e a w => e = .normal ∧ ∃ (ρ : Nat → Value) (σ : St), a = fr 35 (updL ρ [(1, (Sl Bo Bk Bp)), (5, (I o17.1)), (6, (I o17.2)), (18, (Sl Bm Bj Bn)), (19, (I (Bj.length : Int))), (20, (I s14.2.2))]) ∧ w = σ.w ∧ Hp S0 σ0 σ [Ch.ro 0 (Sl Bo Bk Bp) Bk, Ch.ro 0 (Sl Bm Bj Bn) Bj]) ?_ ?_
     ·clear h'
      rename _ = some o17 => h
      refine c_blk (c_seq (rg (st (v := (I s14.2.2)) (rv_move rfl) ?_)))
      obtain ⟨x18, hx19, h'⟩ := bind_some h
      clear h
      have h := h'; clear h'
      obtain ⟨b21, o22, hi20, -⟩ := (H.ro 1 rfl).ix hx19
      refine st (v := (pt b21 o22)) (rv_ix Try.underlying23 ti29 rfl rfl hi20) ?_
      obtain ⟨v26, hc27, hR25⟩ := ((H.ro 1 rfl).at hx19 hi20).slice
      obtain ⟨a23, c24, rfl⟩ := hR25.isSl
      replace H := H.add (d := Ch.ro 0 (Sl a23 x18 c24) x18) hR25 (fun _ h => h)
      clear hR25
      refine st (v := (Sl a23 x18 c24)) (rv_load1 Try.underlying29 rfl rfl hc27) (st (v := (I s14.2.2)) (rv_assign rfl) (st (v := (Sl a23 x18 c24)) (rv_assign rfl) (w_end (q_then (c_seq (rg (st (v := (Sl a23 x18 c24)) (rv_move rfl) (st (v := (Sl Bo Bk Bp)) (rv_move rfl) ?_))))))))
      obtain ⟨r28, hx29, h'⟩ := bind_some h
      clear h
      have h := h'; clear h'
      have hc30 := c_impl_Distance (Cb := a23) (Cc := c24) (Cd := Bo) (Ce := Bp) hx29
      refine st_call (cx_call hc30 (ent_f hc30.fn rfl) hn0 (H.sel' [0, 1, 0, 1, 2] rfl rfl : Hp S0 σ0 _ ([_, _] ++ _))) wn ?_
      rintro _ σ31 ⟨_, ⟨rfl, rfl⟩, H, -⟩
      replace H : Hp _ _ _ [_, _, _] := H
      refine st (v := (I r28)) (rv_assign rfl) (w_end (q_then (c_seq (rg (st (v := (I r28)) (rv_move rfl) (st (v := (I s14.2.1)) (rv_move rfl) (st (v := (B (decide (r28 < s14.2.1)))) (rv_lss (a := r28) (b := s14.2.1) rfl rfl) (w_end (q_then ?_)))))))))
      refine cd_cond (decide (r28 < s14.2.1)) rfl (fun hb32 => ?_) (fun hb32 => ?_)
      ·replace h := bif_t hb32 h
       refine rg (st (v := (I s14.2.2)) (rv_move rfl) (st (v := (I r28)) (rv_move rfl) (st (v := (I s14.2.2)) (rv_assign rfl) (st (v := (I r28)) (rv_assign rfl) (w_end (q_blk ?_))))))
       obtain rfl := Option.some.inj h
       exact ⟨rfl, _, σ31, fr_join ⟨rfl, rfl, rfl, rfl, rfl, rfl, trivial⟩, rfl, H.sel' [1, 2] rfl rfl⟩
      ·replace h := bif_f hb32 h
       refine c_skip (q_blk ?_)
       obtain rfl := Option.some.inj h
       exact ⟨rfl, _, σ31, fr_join ⟨rfl, rfl, rfl, rfl, rfl, rfl, trivial⟩, rfl, H.sel' [1, 2] rfl rfl⟩
     ·clear hj
      have h := h'
      clear h' H
      rintro e a w ⟨rfl, ρ, σ33, rfl, rfl, H⟩
      refine q_then (rg (st (v := (I (w64 (s14.2.2 + 1)))) (rv_add (a := s14.2.2) (b := 1) rfl rfl) (st (v := (I (w64 (s14.2.2 + 1)))) (rv_move rfl) (w_end (q_then ?_)))))
      obtain rfl := Option.some.inj h
      exact ⟨_, rfl, _, σ33, fr_join ⟨rfl, rfl, rfl, rfl, rfl, rfl, trivial⟩, rfl, H.sel' [0, 1] rfl rfl⟩
    ·replace h := bif_f hb16 h
     refine c_exit (q_then_x (q_then_x (q_blk_hit ?_)))
     obtain rfl := Option.some.inj h
     obtain rfl := hres _ rfl
     exact ⟨rfl, _, σ15, fr_join ⟨rfl, trivial⟩, rfl, H.sel' [] rfl rfl⟩
   ·clear hj
    have h := h'
    clear h' H
    rintro e a w ⟨rfl, ρ, σ34, rfl, rfl, H⟩
    refine q_then (c_seq (rg (st (v := (I o13)) (rv_move rfl) (st (v := (I o13)) (rv_assign rfl) (w_end (q_then (c_ret ?_)))))))
    obtain rfl := Option.some.inj h
    exact fin_ret (v := (I o13)) (results_ok Try.results20 (res_tmp (v := (I o13)) rfl res_nil) rfl) ⟨rfl, rfl⟩ (H.sel' [] rfl rfl)

theorem c_impl_validClusters {Bj : List (List Int)} {Ap : List (Int × (List Int) × Int)} {Bm : Option Addr} {Bn : Nat} {Aq : Option Addr} {Ar : Nat} {r : Bool} (h : M.impl_validClusters Bj Ap = some r) :
    Cal2 Try.prog 33 [(Sl Bm Bj Bn), (Sl Aq Ap Ar)] [Ch.ro 0 (Sl Bm Bj Bn) Bj, Ch.ro 0 (Sl Aq Ap Ar) Ap] (fun n0 v L => v = (B r) ∧ L = []) := by
 refine cal2 (n := 11) Try.func33 rfl rfl rfl rfl ?_
 intro S0 σ0 n0 hn0 H
 unfold M.impl_validClusters at h
 refine c_seq (rg (st (v := (B false)) (rv_assign rfl) (w_end (q_then (c_seq (rg (st (v := (Sl Bm Bj Bn)) (rv_move rfl) ?_)))))))
 obtain ⟨r1, hx2, h'⟩ := bind_some h
 clear h
 have h := h'; clear h'
 have hc3 := c_impl_ValidCentres (Au := Bm) (Av := Bn) hx2
 refine st_call (cx_call hc3 (ent_f hc3.fn rfl) hn0 (H.sel' [0, 0, 1] rfl rfl : Hp S0 σ0 _ ([_] ++ _))) wn ?_
 rintro _ σ4 ⟨_, ⟨rfl, rfl⟩, H, -⟩
 replace H : Hp _ _ _ [_, _] := H
 refine st (v := (B r1)) (rv_move rfl) ?_
 rcases Bool.eq_false_or_eq_true r1 with hb5 | hb5
 ·replace h := bif_t hb5 h
  refine st_g (v := (Sl Aq Ap Ar)) (congrArg some hb5) (rv_move rfl) ?_
  obtain ⟨r6, hx7, h'⟩ := bind_some h
  clear h
  have h := h'; clear h'
  have hc8 := c_impl_ValidStore (Au := Aq) (Av := Ar) hx7
  refine st_call (cx_call hc8 (ent_f hc8.fn rfl) hn0 (H.sel' [1, 0, 1] rfl rfl : Hp S0 σ0 _ ([_] ++ _))) (wanted_yes rfl (by exact (congrArg some hb5))) ?_
  rintro _ σ9 ⟨_, ⟨rfl, rfl⟩, H, -⟩
  replace H : Hp _ _ _ [_, _] := H
  refine st (v := (B r6)) (rv_pick_t (congrArg B hb5) rfl) (st (v := (B r6)) (rv_assign rfl) (w_end (q_then (c_ret ?_))))
  obtain rfl := Option.some.inj h
  exact fin_ret (v := (B r6)) (results_ok Try.results33 (res_tmp (v := (B r6)) rfl res_nil) rfl) ⟨rfl, rfl⟩ (H.sel' [] rfl rfl)
 ·replace h := bif_f hb5 h
  refine st_skip (congrArg some hb5) (st_skip (congrArg some hb5) (st (v := (B false)) (rv_pick_f (congrArg B hb5) rfl) (st (v := (B false)) (rv_assign rfl) (w_end (q_then (c_ret ?_))))))
  obtain rfl := Option.some.inj h
  exact fin_ret (v := (B false)) (results_ok Try.results33 (res_tmp (v := (B false)) rfl res_nil) rfl) ⟨rfl, rfl⟩ (H.sel' [] rfl rfl)

theorem c_impl_AssignItems {Bj : List (List Int)} {Ap : List (Int × (List Int) × Int)} {Bm : Option Addr} {Bn : Nat} {Aq : Option Addr} {Ar : Nat} {r : (List Int)} (h : M.impl_AssignItems Bj Ap = some r) :
    Cal2 Try.prog 30 [(Sl Bm Bj Bn), (Sl Aq Ap Ar)] [Ch.ro 0 (Sl Bm Bj Bn) Bj, Ch.ro 0 (Sl Aq Ap Ar) Ap] (fun n0 v L => ∃ (az1 : Option Addr), ∃ (cz2 : Nat), v = (Sl az1 r cz2) ∧ L = [Ch.own n0 n0 (Sl az1 r cz2) r] ∧ cz2 = r.length) := by
 refine cal2 (n := 31) Try.func30 rfl rfl rfl rfl ?_
 intro S0 σ0 n0 hn0 H
 unfold M.impl_AssignItems at h
 refine c_seq (rg (st (v := (.slice none 0 0)) (rv_assign rfl) (w_end (q_then (c_seq (c_seq (rg (st (v := (Sl Bm Bj Bn)) (rv_move rfl) (st (v := (Sl Aq Ap Ar)) (rv_move rfl) ?_)))))))))
 obtain ⟨r1, hx2, h'⟩ := bind_some h
 clear h
 have h := h'; clear h'
 have hc3 := c_impl_validClusters (Bm := Bm) (Bn := Bn) (Aq := Aq) (Ar := Ar) hx2
 refine st_call (cx_call hc3 (ent_f hc3.fn rfl) hn0 (H.sel' [0, 1, 0, 1] rfl rfl : Hp S0 σ0 _ ([_, _] ++ _))) wn ?_
 rintro _ σ4 ⟨_, ⟨rfl, rfl⟩, H, -⟩
 replace H : Hp _ _ _ [_, _] := H
 refine st (v := (B (!r1))) (rv_not rfl) (w_end (q_then ?_))
 refine cd_cond (!r1) rfl (fun hb5 => ?_) (fun hb5 => ?_)
 ·replace h := bif_t hb5 h
  refine c_seq (rg (st (v := (.slice none 0 0)) (rv_assign rfl) (w_end (q_then (c_ret (q_then_r ?_))))))
  replace H := H.nilOwn Int n0 n0
  obtain rfl := Option.some.inj h
  exact fin_ret (v := (.slice none 0 0)) (results_ok Try.results30 (res_tmp (v := (.slice none 0 0)) rfl res_nil) rfl) ⟨none, 0, rfl, rfl, rfl⟩ (H.sel' [0] rfl rfl)
 ·replace h := bif_f hb5 h
  refine c_skip (q_then (c_seq (rg (st (v := (Sl Aq Ap Ar)) (rv_move rfl) (st (v := (I (Ap.length : Int))) (rv_len Try.underlying24 rfl) ?_)))))
  obtain ⟨xs6, hx7, h'⟩ := bind_some h
  clear h
  have h := h'; clear h'
  refine st_ex (ex_make (el := n0) (z0 := (0 : Int)) (zs := [(I 0)]) H hn0 Try.underlying29 ti3 rfl rfl rfl (by decide) hx7 rfl rfl) wn ?_
  rintro _ σ11 ⟨b8, c9, rfl, ht10, H, -⟩
  replace ht10 := ht10.trans (gmake_len hx7).symm
  refine st (v := (Sl (some ⟨b8, 0, none⟩) xs6 c9)) (rv_assign rfl) (w_end (q_then (c_seq (c_seq (rg (st (v := (Sl Aq Ap Ar)) (rv_move rfl) (st (v := (I (Ap.length : Int))) (rv_len Try.underlying24 rfl) (st (v := (I 0)) (rv_move rfl) (w_end (q_then ?_))))))))))
  obtain ⟨o12, hj, h'⟩ := bind_some h
  clear h
  refine c_cut (fun e a w => e = .normal ∧ ∃ (ρ : Nat → Value) (σ : St), a = fr 31 (updL ρ [(5, (Sl (some ⟨b8, 0, none⟩) o12 c9))]) ∧ w = σ.w ∧ Hp S0 σ0 σ [Ch.own n0 n0 (Sl (some ⟨b8, 0, none⟩) o12 c9) o12] ∧ c9 = o12.length ∧ o12.length = xs6.length) ?_ ?_
  ·clear h'
   rename _ = some o12 => h
   refine c_blk (wp_loopM _ h (fun s13 a w => ∃ (ρ : Nat → Value) (σ : St), a = fr 31 (updL ρ [(0, (Sl Bm Bj Bn)), (5, (Sl (some ⟨b8, 0, none⟩) s13.1 c9)), (15, (Sl Aq Ap Ar)), (16, (I (Ap.length : Int))), (17, (I s13.2))]) ∧ w = σ.w ∧ Hp S0 σ0 σ [Ch.ro 0 (Sl Bm Bj Bn) Bj, Ch.own n0 n0 (Sl (some ⟨b8, 0, none⟩) s13.1 c9) s13.1, Ch.ro 0 (Sl Aq Ap Ar) Ap] ∧ c9 = s13.1.length ∧ s13.1.length = xs6.length) ⟨_, σ11, fr_join ⟨rfl, rfl, rfl, rfl, rfl, trivial⟩, rfl, H.sel' [1, 0, 2] rfl rfl, ht10, rfl⟩ ?_)
   clear h H
   rintro s13 a w o ⟨ρ, σ14, rfl, rfl, H, ht15, hn16⟩ h hres
   refine c_seq (rg (st (v := (B (decide (s13.2 < (Ap.length : Int))))) (rv_lss (a := s13.2) (b := (Ap.length : Int)) rfl rfl) (w_end (q_then (c_seq ?_)))))
   refine cd_cond (decide (s13.2 < (Ap.length : Int))) rfl (fun hb17 => ?_) (fun hb17 => ?_)
   ·replace h := bif_t hb17 h
    refine c_skip (q_then (c_seq (c_blk (c_seq (rg (st (v := (I s13.2)) (rv_move rfl) ?_))))))
    obtain ⟨x18, hx19, h'⟩ := bind_some h
    clear h
    have h := h'; clear h'
    obtain ⟨b21, o22, hi20, -⟩ := (H.ro 2 rfl).ix hx19
    refine st (v := (pt b21 o22)) (rv_ix Try.underlying24 ti44 rfl rfl hi20) ?_
    obtain ⟨_, ⟨_, _, rfl, rfl, ⟨_, _, rfl, ⟨_, rfl, hR27⟩, rfl⟩⟩, hl23, hc24⟩ := ((H.ro 2 rfl).at hx19 hi20).cells
    obtain ⟨a25, c26, rfl⟩ := hR27.isSl
    replace H := H.add (d := Ch.ro 0 (Sl a25 x18.2.1 c26) x18.2.1) hR27 (fun _ h => h)
    clear hR27
    refine st (v := (.agg #[(I x18.1), (Sl a25 x18.2.1 c26), (I x18.2.2)])) (rv_load Try.underlying44 rfl ti44 rfl hl23 hc24) (st_ex (ex_alloc (cs := [(I 0), (.slice none 0 0), (I 0)]) H hn0 ti44 rfl) wn ?_)
    rintro _ σ29 ⟨b28, rfl, H, -⟩
    refine st (v := (I s13.2)) (rv_assign rfl) ?_
    refine st_exS (ex_store_box (k := 0) (cs := [(I 0), (.slice none 0 0), (I 0)]) (vs := [(I x18.1), (Sl a25 x18.2.1 c26), (I x18.2.2)]) (cs' := [(I x18.1), (Sl a25 x18.2.1 c26), (I x18.2.2)]) H (i := 0) rfl ti44 rfl rfl rfl rfl rfl (Nat.le_of_ble_eq_true rfl) (by simp [plain]) rfl) wn ?_
    rintro σ30 ⟨H, -⟩
    refine w_end (q_then (rg (st (v := (Sl (some ⟨b8, 0, none⟩) s13.1 c9)) (rv_move rfl) (st (v := (I s13.2)) (rv_move rfl) (st (v := (Sl Bm Bj Bn)) (rv_move rfl) (st (v := (pt b28 1)) (rv_fieldAddr (off := 1) (ft := 29) Try.underlying44 rfl ti29 rfl rfl) ?_))))))
    have hc31 := H.cell (u := (Sl a25 x18.2.1 c26)) (o' := 1) 0 1 rfl rfl rfl
    refine st (v := (Sl a25 x18.2.1 c26)) (rv_load1 Try.underlying29 rfl rfl hc31) ?_
    obtain ⟨r32, hx33, h'⟩ := bind_some h
    clear h
    have h := h'; clear h'
    have hc34 := c_impl_CentreOf (Bm := Bm) (Bn := Bn) (Bo := a25) (Bp := c26) hx33
    refine st_call (cx_call hc34 (ent_f hc34.fn rfl) hn0 (H.sel' [2, 1, 0, 1, 2, 3, 4] rfl rfl : Hp S0 σ0 _ ([_, _] ++ _))) wn ?_
    rintro _ σ35 ⟨_, ⟨rfl, rfl⟩, H, -⟩
    replace H : Hp _ _ _ [_, _, _, _, _] := H
    obtain ⟨x36, hx37, h'⟩ := bind_some h
    clear h
    have h := h'; clear h'
    obtain ⟨b39, o40, hi38, -⟩ := (H.own 3 rfl).ix hx37
    refine st (v := (pt b39 o40)) (rv_ix Try.underlying29 ti3 rfl rfl hi38) ?_
    refine st_exS (ex_store_own (e' := r32) (vs := [(I r32)]) (k := 0) H (i := 3) rfl ti3 hx37 hi38 rfl rfl rfl rfl rfl (Nat.le_of_ble_eq_true rfl) (by simp [plain]) (by rintro _ rfl; exact rfl)) wn ?_
    rintro σ41 ⟨H, -⟩
    have hsl : (Sl (some ⟨b8, 0, none⟩) s13.1 c9) = (Sl (some ⟨b8, 0, none⟩) (s13.1.set s13.2.toNat r32) c9) := sl_len List.length_set.symm
    rw [hsl]; rw [hsl] at H; clear hsl
    refine w_end (q_blk (q_then (rg (st (v := (I (w64 (s13.2 + 1)))) (rv_add (a := s13.2) (b := 1) rfl rfl) (st (v := (I (w64 (s13.2 + 1)))) (rv_move rfl) (w_end (q_then ?_)))))))
    obtain rfl := Option.some.inj h
    exact ⟨_, rfl, _, σ41, fr_join ⟨rfl, rfl, rfl, rfl, rfl, trivial⟩, rfl, H.sel' [3, 0, 4] rfl rfl, (ht15.trans List.length_set.symm), (List.length_set.trans hn16)⟩
   ·replace h := bif_f hb17 h
    refine c_exit (q_then_x (q_then_x (q_blk_hit ?_)))
    obtain rfl := Option.some.inj h
    obtain rfl := hres _ rfl
    exact ⟨rfl, _, σ14, fr_join ⟨rfl, trivial⟩, rfl, H.sel' [1] rfl rfl, ht15, hn16⟩
  ·clear hj
   have h := h'
   clear h' H
   rintro e a w ⟨rfl, ρ, σ42, rfl, rfl, H, ht43, hn44⟩
   refine q_then (c_seq (rg (st (v := (Sl (some ⟨b8, 0, none⟩) o12 c9)) (rv_move rfl) (st (v := (Sl (some ⟨b8, 0, none⟩) o12 c9)) (rv_assign rfl) (w_end (q_then (c_ret ?_)))))))
   obtain rfl := Option.some.inj h
   exact fin_ret (v := (Sl (some ⟨b8, 0, none⟩) o12 c9)) (results_ok Try.results30 (res_tmp (v := (Sl (some ⟨b8, 0, none⟩) o12 c9)) rfl res_nil) rfl) ⟨(some ⟨b8, 0, none⟩), c9, rfl, rfl, ht43⟩ (H.sel' [0] rfl rfl)

theorem c_impl_itemsByCentre {Bj : List (List Int)} {Ap : List (Int × (List Int) × Int)} {Bm : Option Addr} {Bn : Nat} {Aq : Option Addr} {Ar : Nat} {r : (List (Int × (List (Int × (List Int) × Int))))} (h : M.impl_itemsByCentre Bj Ap = some r) :
    Cal2 Try.prog 34 [(Sl Bm Bj Bn), (Sl Aq Ap Ar)] [Ch.ro 0 (Sl Bm Bj Bn) Bj, Ch.ro 0 (Sl Aq Ap Ar) Ap] (fun n0 v L => ∃ (bz1 : Nat), ∃ (Kz2 : List Ch), v = (.map (some bz1)) ∧ L = [Ch.big Kz2] ∧ Mp n0 0 bz1 r Kz2) := by
 refine cal2 (n := 31) Try.func34 rfl rfl rfl rfl ?_
 intro S0 σ0 n0 hn0 H
 unfold M.impl_itemsByCentre at h
 refine c_seq (rg (st (v := (.map none)) (rv_assign rfl) (w_end (q_then (c_seq (rg (st_ex (ex_makeMap (lo := n0) (Int × (List Int) × Int) 0 H hn0) wn ?_)))))))
 rintro _ σ4 ⟨b1, K2, rfl, hK3, H, -⟩
 refine st (v := (.map (some b1))) (rv_assign rfl) (w_end (q_then (c_seq (c_seq (rg (st (v := (Sl Bm Bj Bn)) (rv_move rfl) (st (v := (Sl Aq Ap Ar)) (rv_move rfl) ?_)))))))
 obtain ⟨r5, hx6, h'⟩ := bind_some h
 clear h
 have h := h'; clear h'
 have hc7 := c_impl_AssignItems (Bm := Bm) (Bn := Bn) (Aq := Aq) (Ar := Ar) hx6
 refine st_call (cx_call hc7 (ent_f hc7.fn rfl) hn0 (H.sel' [1, 2, 0, 1, 2] rfl rfl : Hp S0 σ0 _ ([_, _] ++ _))) wn ?_
 rintro _ σ11 ⟨_, ⟨a8, c9, rfl, rfl, ht10⟩, H, -⟩
 replace H : Hp _ _ _ [_, _, _, _] := H
 refine st (v := (I (r5.length : Int))) (rv_len Try.underlying29 rfl) (st (v := (I 0)) (rv_move rfl) (w_end (q_then ?_)))
 obtain ⟨o12, hj, h'⟩ := bind_some h
 clear h
 refine c_cut (fun e a w => e = .normal ∧ ∃ (ρ : Nat → Value) (σ : St) (bj1 : Nat) (Kj2 : List Ch), a = fr 31 (updL ρ [(5, (.map (some bj1)))]) ∧ w = σ.w ∧ Hp S0 σ0 σ [Ch.big Kj2] ∧ Mp n0 0 bj1 o12 Kj2) ?_ ?_
 ·clear h'
  rename _ = some o12 => h
  refine c_blk (wp_loopM _ h (fun s13 a w => ∃ (ρ : Nat → Value) (σ : St) (bj1 : Nat) (Kj2 : List Ch), a = fr 31 (updL ρ [(1, (Sl Aq Ap Ar)), (5, (.map (some bj1))), (11, (Sl a8 r5 c9)), (12, (I (r5.length : Int))), (13, (I s13.2))]) ∧ w = σ.w ∧ Hp S0 σ0 σ [Ch.ro 0 (Sl Aq Ap Ar) Ap, Ch.big Kj2, Ch.own n0 n0 (Sl a8 r5 c9) r5] ∧ Mp n0 0 bj1 s13.1 Kj2) ⟨_, σ11, b1, K2, fr_join ⟨rfl, rfl, rfl, rfl, rfl, trivial⟩, rfl, H.sel' [3, 1, 0] rfl rfl, hK3⟩ ?_)
  clear h H
  rintro s13 a w o ⟨ρ, σ14, b15, K16, rfl, rfl, H, hK17⟩ h hres
  refine c_seq (rg (st (v := (B (decide (s13.2 < (r5.length : Int))))) (rv_lss (a := s13.2) (b := (r5.length : Int)) rfl rfl) (w_end (q_then (c_seq ?_)))))
  refine cd_cond (decide (s13.2 < (r5.length : Int))) rfl (fun hb18 => ?_) (fun hb18 => ?_)
  ·replace h := bif_t hb18 h
   refine c_skip (q_then (c_seq (c_blk (c_seq (rg (st (v := (I s13.2)) (rv_move rfl) ?_))))))
   obtain ⟨x19, hx20, h'⟩ := bind_some h
   clear h
   have h := h'; clear h'
   obtain ⟨b22, o23, hi21, -⟩ := (H.own 2 rfl).ix hx20
   refine st (v := (pt b22 o23)) (rv_ix Try.underlying29 ti3 rfl rfl hi21) ?_
   have hc24 := ((H.own 2 rfl).at hx20 hi21).int
   refine st (v := (I x19)) (rv_load1 Try.underlying3 rfl rfl hc24) (st (v := (I s13.2)) (rv_assign rfl) (st (v := (I x19)) (rv_assign rfl) (w_end (q_then ?_))))
   obtain ⟨v28, K29, H, hK30⟩ := H.mpOut x19 1 rfl hK17
   obtain ⟨a25, c26, rfl⟩ := (H.own 0 rfl).isSl
   have hL27 := hK30.look H 1 rfl
   obtain ⟨x31, hx32, h'⟩ := bind_some h
   clear h
   have h := h'; clear h'
   obtain ⟨b34, o35, hi33, -⟩ := (H.ro 2 rfl).ix hx32
   obtain ⟨_, ⟨_, _, rfl, rfl, ⟨_, _, rfl, ⟨_, rfl, hR40⟩, rfl⟩⟩, hl36, hc37⟩ := ((H.ro 2 rfl).at hx32 hi33).cells
   obtain ⟨a38, c39, rfl⟩ := hR40.isSl
   replace H := H.add (d := Ch.ro 0 (Sl a38 x31.2.1 c39) x31.2.1) hR40 (fun _ h => h)
   clear hR40
   obtain ⟨xs42, hx43, h'⟩ := bind_some h
   clear h
   have h := h'; clear h'
   have Hs := H
   refine rg2 (σ := σ14) (Nm := (Nat) × (Option Addr) × (Nat)) 11 [9, 10] [[false, false], [true, false], [true, true]] [[(0, 0), (1, 1), (2, 2)], [(0, 0), (1, 1), (2, 2)], [(0, 0), (1, 1)], [(0, 0), (1, 1)], [(0, 0), (1, 1)], [(0, 0)], [(0, 0)], [(0, 0)], [(0, 0)], [(0, 1)], [(1, 2)]] 2 [fun ((b41, a44, c45) : (Nat) × (Option Addr) × (Nat)) => fun σm => Hp S0 σ0 σm [Ch.ro 0 (Sl a38 x31.2.1 c39) x31.2.1, Ch.own n0 0 (Sl a25 (mget s13.1 x19) c26) (mget s13.1 x19), Ch.big K29, Ch.ro 0 (Sl Aq Ap Ar) Ap, Ch.own n0 n0 (Sl a8 r5 c9) r5] ∧ Md (cov []) σ14 σm, fun ((b41, a44, c45) : (Nat) × (Option Addr) × (Nat)) => fun σm => Hp S0 σ0 σm [Ch.own n0 0 (Sl (some ⟨b41, 0, none⟩) ([(x31.1, x31.2.1, x31.2.2)] : List (Int × (List Int) × Int)) 1) ([(x31.1, x31.2.1, x31.2.2)] : List (Int × (List Int) × Int)), Ch.ro 0 (Sl a38 x31.2.1 c39) x31.2.1, Ch.own n0 0 (Sl a25 (mget s13.1 x19) c26) (mget s13.1 x19), Ch.big K29, Ch.ro 0 (Sl Aq Ap Ar) Ap, Ch.own n0 n0 (Sl a8 r5 c9) r5] ∧ Md (cov []) σ14 σm, fun ((b41, a44, c45) : (Nat) × (Option Addr) × (Nat)) => fun σm => Hp S0 σ0 σm [Ch.own n0 0 (Sl a44 xs42 c45) xs42, Ch.own n0 0 (Sl (some ⟨b41, 0, none⟩) ([(x31.1, x31.2.1, x31.2.2)] : List (Int × (List Int) × Int)) 1) ([(x31.1, x31.2.1, x31.2.2)] : List (Int × (List Int) × Int)), Ch.ro 0 (Sl a38 x31.2.1 c39) x31.2.1, Ch.big K29, Ch.ro 0 (Sl Aq Ap Ar) Ap, Ch.own n0 n0 (Sl a8 r5 c9) r5] ∧ Md (fun i => (cov []) i ∨ (fun b => blk (Sl a25 (mget s13.1 x19) c26) = some b) i) σ14 σm] [fun ((b41, a44, c45) : (Nat) × (Option Addr) × (Nat)) => (.map (some b15)), fun ((b41, a44, c45) : (Nat) × (Option Addr) × (Nat)) => (I x19), fun ((b41, a44, c45) : (Nat) × (Option Addr) × (Nat)) => (.map (some b15)), fun ((b41, a44, c45) : (Nat) × (Option Addr) × (Nat)) => (I x19), fun ((b41, a44, c45) : (Nat) × (Option Addr) × (Nat)) => (Sl a25 (mget s13.1 x19) c26), fun ((b41, a44, c45) : (Nat) × (Option Addr) × (Nat)) => (Sl Aq Ap Ar), fun ((b41, a44, c45) : (Nat) × (Option Addr) × (Nat)) => (I s13.2), fun ((b41, a44, c45) : (Nat) × (Option Addr) × (Nat)) => (pt b34 o35), fun ((b41, a44, c45) : (Nat) × (Option Addr) × (Nat)) => (.agg #[(I x31.1), (Sl a38 x31.2.1 c39), (I x31.2.2)]), fun ((b41, a44, c45) : (Nat) × (Option Addr) × (Nat)) => (Sl (some ⟨b41, 0, none⟩) ([(x31.1, x31.2.1, x31.2.2)] : List (Int × (List Int) × Int)) 1), fun ((b41, a44, c45) : (Nat) × (Option Addr) × (Nat)) => (Sl a44 xs42 c45)] (0, none, 0) (by kernel_rfl) (by kernel_rfl) ?_ ?_ ?_
   ·intro σm m0
    exact ⟨H.grow (m0.mono fun _ h => h.elim), m0⟩
   ·refine ac rfl (by
      intro k; rintro ⟨b41, a44, c45⟩ ρ σm hJ hoff hdep
      have e5 := look_off (N := 31) (hoff 5 rfl) rfl
      exact dp_v (v := (.map (some b15))) wn (rv_move e5) rfl hJ) ?_
    refine ac rfl (by
      intro k; rintro ⟨b41, a44, c45⟩ ρ σm hJ hoff hdep
      have e7 := look_off (N := 31) (hoff 7 rfl) rfl
      exact dp_v (v := (I x19)) wn (rv_move e7) rfl hJ) ?_
    refine ac rfl (by
      intro k; rintro ⟨b41, a44, c45⟩ ρ σm hJ hoff hdep
      have e5 := look_off (N := 31) (hoff 5 rfl) rfl
      exact dp_v (v := (.map (some b15))) wn (rv_move e5) rfl hJ) ?_
    refine ac rfl (by
      intro k; rintro ⟨b41, a44, c45⟩ ρ σm hJ hoff hdep
      have e7 := look_off (N := 31) (hoff 7 rfl) rfl
      exact dp_v (v := (I x19)) wn (rv_move e7) rfl hJ) ?_
    refine all_cons (by
      refine ⟨?_, ?_⟩
      ·rintro ⟨b41, a44, c45⟩ ρ σm hJ hoff hdep
       have e20 := hdep 2 rfl rfl 20 rfl
       have e21 := hdep 3 rfl rfl 21 rfl
       obtain ⟨H, m⟩ := id hJ
       have hL27 := hK30.look H 2 rfl
       exact dp_v (v := (Sl a25 (mget s13.1 x19) c26)) wn (rv_lookup Try.underlying48 Try.underlying3 ti24 e20 e21 hL27) rfl hJ
      refine ⟨?_, ?_⟩
      ·rintro ⟨b41, a44, c45⟩ ρ σm hJ hoff hdep
       have e20 := hdep 2 rfl rfl 20 rfl
       have e21 := hdep 3 rfl rfl 21 rfl
       obtain ⟨H, m⟩ := id hJ
       have hL27 := hK30.look H 3 rfl
       exact dp_v (v := (Sl a25 (mget s13.1 x19) c26)) wn (rv_lookup Try.underlying48 Try.underlying3 ti24 e20 e21 hL27) rfl hJ
      trivial) ?_
    refine ac rfl (by
      intro k; rintro ⟨b41, a44, c45⟩ ρ σm hJ hoff hdep
      have e1 := look_off (N := 31) (hoff 1 rfl) rfl
      exact dp_v (v := (Sl Aq Ap Ar)) wn (rv_move e1) rfl hJ) ?_
    refine ac rfl (by
      intro k; rintro ⟨b41, a44, c45⟩ ρ σm hJ hoff hdep
      have e6 := look_off (N := 31) (hoff 6 rfl) rfl
      exact dp_v (v := (I s13.2)) wn (rv_move e6) rfl hJ) ?_
    refine ac rfl (by
      intro k; rintro ⟨b41, a44, c45⟩ ρ σm hJ hoff hdep
      have e23 := hdep 5 rfl rfl 23 rfl
      have e24 := hdep 6 rfl rfl 24 rfl
      exact dp_v (v := (pt b34 o35)) wn (rv_ix Try.underlying24 ti44 e23 e24 hi33) rfl hJ) ?_
    refine all_cons (by
      refine ⟨?_, ?_⟩
      ·rintro ⟨b41, a44, c45⟩ ρ σm hJ hoff hdep
       have e25 := hdep 7 rfl rfl 25 rfl
       obtain ⟨H, m⟩ := id hJ
       replace hc37 := fun j hj => (Hs.ro 3 rfl).hmd hx32 hi33 (k := j) (Nat.lt_of_lt_of_eq hj hl36) (hc37 j hj) m
       exact dp_v (v := (.agg #[(I x31.1), (Sl a38 x31.2.1 c39), (I x31.2.2)])) wn (rv_load Try.underlying44 rfl ti44 e25 hl36 hc37) rfl hJ
      trivial) ?_
    refine all_cons (by
      refine ⟨?_, ?_⟩
      ·rintro ⟨b41, a44, c45⟩ ρ σm hJ hoff hdep
       have e26 : look 31 ρ 26 = (.agg #[(I x31.1), (Sl a38 x31.2.1 c39), (I x31.2.2)]) := hdep 8 rfl rfl 26 rfl
       obtain ⟨H, m⟩ := id hJ
       refine dp_ex wn (ex_buildSlice (el := 0) (xs := ([(x31.1, x31.2.1, x31.2.2)] : List (Int × (List Int) × Int))) (ps := [(0, (.agg #[(I x31.1), (Sl a38 x31.2.1 c39), (I x31.2.2)]))]) (cs := [(I x31.1), (Sl a38 x31.2.1 c39), (I x31.2.2)]) H hn0 Try.underlying24 ti44 rfl (by show [(0, look 31 ρ 26)] = _; rw [e26]) (by kernel_rfl) (.cons (c := [(I x31.1), (Sl a38 x31.2.1 c39), (I x31.2.2)]) ⟨[(I x31.1)], [(Sl a38 x31.2.1 c39), (I x31.2.2)], rfl, rfl, ⟨[(Sl a38 x31.2.1 c39)], [(I x31.2.2)], rfl, ⟨_, rfl, (H.ro 0 rfl)⟩, rfl⟩⟩ (.nil)) rfl) ?_
       rintro _ σq ⟨b41x, rfl, H2, m2⟩
       exact ⟨_, (b41x, a44, c45), rfl, rfl, ⟨H2.sel' [0, 1, 2, 3, 4, 5] rfl rfl, m.comp0 m2⟩, stab [0, 1, 2, 3, 4, 5, 6, 7, 8] (by kernel_rfl) ⟨rfl, rfl, rfl, rfl, rfl, rfl, rfl, rfl, rfl, trivial⟩⟩
      trivial) ?_
    refine all_cons (by
      refine ⟨?_, ?_⟩
      ·rintro ⟨b41, a44, c45⟩ ρ σm hJ hoff hdep
       have e22 := hdep 4 rfl rfl 22 rfl
       have e27 := hdep 9 rfl rfl 27 rfl
       obtain ⟨H, m⟩ := id hJ
       refine dp_ex wn (ex_append H (i := 2) rfl Try.underlying24 Try.underlying24 ti44 rfl rfl (by decide) (H.own 0 rfl).rd hx43 hn0 e22 e27) ?_
       rintro _ σq ⟨a44x, c45x, rfl, H2, m2⟩
       exact ⟨_, (b41, a44x, c45x), rfl, rfl, ⟨H2.sel' [0, 1, 2, 3, 4, 5] rfl rfl, m.comp m2⟩, stab [0, 1, 2, 3, 4, 5, 6, 7, 8, 9] (by kernel_rfl) ⟨rfl, rfl, rfl, rfl, rfl, rfl, rfl, rfl, rfl, rfl, trivial⟩⟩
      trivial) ?_
    exact all_nil
   ·rintro ⟨b41, a44, c45⟩ ρ σ46 hJ hoff hrel
    have e1 := look_off (N := 31) (hoff 1 rfl) rfl
    have e5 := look_off (N := 31) (hoff 5 rfl) rfl
    have e11 := look_off (N := 31) (hoff 11 rfl) rfl
    have e12 := look_off (N := 31) (hoff 12 rfl) rfl
    have e13 := look_off (N := 31) (hoff 13 rfl) rfl
    have e18 := hrel 0 rfl 18 rfl
    have e19 := hrel 1 rfl 19 rfl
    have e28 := hrel 10 rfl 28 rfl
    obtain ⟨H, -⟩ := (show Hp S0 σ0 σ46 [Ch.own n0 0 (Sl a44 xs42 c45) xs42, Ch.own n0 0 (Sl (some ⟨b41, 0, none⟩) ([(x31.1, x31.2.1, x31.2.2)] : List (Int × (List Int) × Int)) 1) ([(x31.1, x31.2.1, x31.2.2)] : List (Int × (List Int) × Int)), Ch.ro 0 (Sl a38 x31.2.1 c39) x31.2.1, Ch.big K29, Ch.ro 0 (Sl Aq Ap Ar) Ap, Ch.own n0 n0 (Sl a8 r5 c9) r5] ∧ Md (fun i => (cov []) i ∨ (fun b => blk (Sl a25 (mget s13.1 x19) c26) = some b) i) σ14 σ46 from hJ)
    clear hJ Hs
    rw [fr_lookL (L := [(1, (Sl Aq Ap Ar)), (5, (.map (some b15))), (11, (Sl a8 r5 c9)), (12, (I (r5.length : Int))), (13, (I s13.2)), (18, (.map (some b15))), (19, (I x19)), (28, (Sl a44 xs42 c45))]) ⟨e1, e5, e11, e12, e13, e18, e19, e28, trivial⟩]
    clear hoff hrel e1 e5 e11 e12 e13 e18 e19 e28
    replace H := H.sel' [3, 0, 1, 2, 4, 5] rfl rfl
    obtain ⟨K47, hK48, he49⟩ := hK30.put (Sl a44 xs42 c45) xs42
    refine st_exS (he49 (ty := _) H Try.underlying48 Try.underlying3 rfl rfl rfl) wn ?_
    rintro σ50 ⟨H, -⟩
    refine w_end (q_blk (q_then (rg (st (v := (I (w64 (s13.2 + 1)))) (rv_add (a := s13.2) (b := 1) rfl rfl) (st (v := (I (w64 (s13.2 + 1)))) (rv_move rfl) (w_end (q_then ?_)))))))
    obtain rfl := Option.some.inj h
    exact ⟨_, rfl, _, σ50, b15, K47, fr_join ⟨rfl, rfl, rfl, rfl, rfl, trivial⟩, rfl, H.sel' [3, 0, 4] rfl rfl, hK48⟩
  ·replace h := bif_f hb18 h
   refine c_exit (q_then_x (q_then_x (q_blk_hit ?_)))
   obtain rfl := Option.some.inj h
   obtain rfl := hres _ rfl
   exact ⟨rfl, _, σ14, b15, K16, fr_join ⟨rfl, trivial⟩, rfl, H.sel' [1] rfl rfl, hK17⟩
 ·clear hj
  have h := h'
  clear h' H
  rintro e a w ⟨rfl, ρ, σ51, b52, K53, rfl, rfl, H, hK54⟩
  refine q_then (c_seq (rg (st (v := (.map (some b52))) (rv_move rfl) (st (v := (.map (some b52))) (rv_assign rfl) (w_end (q_then (c_ret ?_)))))))
  obtain rfl := Option.some.inj h
  exact fin_ret (v := (.map (some b52))) (results_ok Try.results34 (res_tmp (v := (.map (some b52))) rfl res_nil) rfl) ⟨b52, K53, rfl, rfl, hK54⟩ (H.sel' [0] rfl rfl)

theorem c_impl_probedItems {Bj : List (List Int)} {Ap : List (Int × (List Int) × Int)} {Gb : List Int} {Gc : Int} {Bm : Option Addr} {Bn : Nat} {Aq : Option Addr} {Ar : Nat} {Gd : Option Addr} {Ge : Nat} {r : (List (Int × (List Int) × Int))} (h : M.impl_probedItems Bj Ap Gb Gc = some r) :
    Cal2 Try.prog 53 [(Sl Bm Bj Bn), (Sl Aq Ap Ar), (Sl Gd Gb Ge), (I Gc)] [Ch.ro 0 (Sl Bm Bj Bn) Bj, Ch.ro 0 (Sl Aq Ap Ar) Ap, Ch.ro 0 (Sl Gd Gb Ge) Gb] (fun n0 v L => ∃ (az1 : Option Addr), ∃ (cz2 : Nat), v = (Sl az1 r cz2) ∧ L = [Ch.own n0 0 (Sl az1 r cz2) r]) := by
 refine cal2 (n := 32) Try.func53 rfl rfl rfl rfl ?_
 intro S0 σ0 n0 hn0 H
 unfold M.impl_probedItems at h
 refine c_seq (rg (st (v := (.slice none 0 0)) (rv_assign rfl) (w_end (q_then (c_seq (rg (st (v := (Sl Bm Bj Bn)) (rv_move rfl) (st (v := (Sl Aq Ap Ar)) (rv_move rfl) ?_))))))))
 obtain ⟨r1, hx2, h'⟩ := bind_some h
 clear h
 have h := h'; clear h'
 have hc3 := c_impl_itemsByCentre (Bm := Bm) (Bn := Bn) (Aq := Aq) (Ar := Ar) hx2
 refine st_call (cx_call hc3 (ent_f hc3.fn rfl) hn0 (H.sel' [0, 1, 0, 1, 2] rfl rfl : Hp S0 σ0 _ ([_, _] ++ _))) wn ?_
 rintro _ σ7 ⟨_, ⟨b4, K5, rfl, rfl, hK6⟩, H, -⟩
 replace H : Hp _ _ _ [_, _, _, _] := H
 refine st (v := (.map (some b4))) (rv_assign rfl) (w_end (q_then (c_seq (rg (st (v := (.slice none 0 0)) (rv_assign rfl) (w_end (q_then (c_seq (c_seq (rg (st (v := (Sl Bm Bj Bn)) (rv_move rfl) ?_)))))))))))
 refine st (v := (Sl Gd Gb Ge)) (rv_move rfl) (st (v := (I Gc)) (rv_move rfl) ?_)
 obtain ⟨r8, hx9, h'⟩ := bind_some h
 clear h
 have h := h'; clear h'
 have hc10 := c_impl_ProbeOrder (Bm := Bm) (Bn := Bn) (Bo := Gd) (Bp := Ge) hx9
 refine st_call (cx_call hc10 (ent_f hc10.fn rfl) hn0 (H.sel' [1, 3, 0, 1, 2, 3] rfl rfl : Hp S0 σ0 _ ([_, _] ++ _))) wn ?_
 rintro _ σ13 ⟨_, ⟨a11, c12, rfl, rfl⟩, H, -⟩
 replace H : Hp _ _ _ [_, _, _, _, _] := H
 refine st (v := (I (r8.length : Int))) (rv_len Try.underlying29 rfl) (st (v := (I 0)) (rv_move rfl) (w_end (q_then ?_)))
 obtain ⟨o14, hj, h'⟩ := bind_some h
 clear h
 refine c_cut (fun e a w => e = .normal ∧ ∃ (ρ : Nat → Value) (σ : St) (aj1 : Option Addr) (cj2 : Nat), a = fr 32 (updL ρ [(10, (Sl aj1 o14 cj2))]) ∧ w = σ.w ∧ Hp S0 σ0 σ [Ch.own n0 0 (Sl aj1 o14 cj2) o14]) ?_ ?_
 ·clear h'
  rename _ = some o14 => h
  refine c_blk ?_
  obtain ⟨σ16, hw17, H, -⟩ := H.mpPub 1 rfl hK6
  rw [← hw17]; clear hw17
  replace H := H.nilOwn (Int × (List Int) × Int) n0 0
  refine wp_loopM _ h (fun s15 a w => ∃ (ρ : Nat → Value) (σ : St) (aj1 : Option Addr) (cj2 : Nat), a = fr 32 (updL ρ [(9, (.map (some b4))), (10, (Sl aj1 s15.1 cj2)), (19, (Sl a11 r8 c12)), (20, (I (r8.length : Int))), (21, (I s15.2))]) ∧ w = σ.w ∧ Hp S0 σ0 σ [Ch.mr b4 r1, Ch.own n0 0 (Sl aj1 s15.1 cj2) s15.1, Ch.own 0 n0 (Sl a11 r8 c12) r8]) ⟨_, σ16, none, 0, fr_join ⟨rfl, rfl, rfl, rfl, rfl, trivial⟩, rfl, H.sel' [1, 0, 2] rfl rfl⟩ ?_
  clear h H
  rintro s15 a w o ⟨ρ, σ18, a19, c20, rfl, rfl, H⟩ h hres
  refine c_seq (rg (st (v := (B (decide (s15.2 < (r8.length : Int))))) (rv_lss (a := s15.2) (b := (r8.length : Int)) rfl rfl) (w_end (q_then (c_seq ?_)))))
  refine cd_cond (decide (s15.2 < (r8.length : Int))) rfl (fun hb21 => ?_) (fun hb21 => ?_)
  ·replace h := bif_t hb21 h
   refine c_skip (q_then (c_seq (c_blk (c_seq (rg ?_)))))
   obtain ⟨x22, hx23, h'⟩ := bind_some h
   clear h
   have h := h'; clear h'
   obtain ⟨b25, o26, hi24, -⟩ := (H.own 2 rfl).ix hx23
   refine st (v := (pt b25 o26)) (rv_ix Try.underlying29 ti3 rfl rfl hi24) ?_
   have hc27 := ((H.own 2 rfl).at hx23 hi24).int
   refine st (v := (I x22)) (rv_load1 Try.underlying3 rfl rfl hc27) (st (v := (I x22)) (rv_assign rfl) (w_end (q_then (rg (st (v := (Sl a19 s15.1 c20)) (rv_move rfl) (st (v := (.map (some b4))) (rv_move rfl) (st (v := (I x22)) (rv_move rfl) ?_)))))))
   obtain ⟨v31, hL30, hR32⟩ := mrGet (H.mr 0 rfl) x22
   obtain ⟨a28, c29, rfl⟩ := hR32.isSl
   replace H := H.add (d := Ch.ro 0 (Sl a28 (mget r1 x22) c29) (mget r1 x22)) hR32 (fun _ h => h)
   clear hR32
   refine st (v := (Sl a28 (mget r1 x22) c29)) (rv_lookup Try.underlying48 Try.underlying3 ti24 rfl rfl hL30) ?_
   obtain ⟨xs33, hx34, h'⟩ := bind_some h
   clear h
   have h := h'; clear h'
   refine st_ex (ex_append H (i := 2) rfl Try.underlying24 Try.underlying24 ti44 rfl rfl (by decide) (H.ro 0 rfl).rd hx34 hn0 rfl rfl) wn ?_
   rintro _ σ37 ⟨a35, c36, rfl, H, -⟩
   refine st (v := (Sl a35 xs33 c36)) (rv_assign rfl) (w_end (q_blk (q_then (rg (st (v := (I (w64 (s15.2 + 1)))) (rv_add (a := s15.2) (b := 1) rfl rfl) (st (v := (I (w64 (s15.2 + 1)))) (rv_move rfl) (w_end (q_then ?_))))))))
   obtain rfl := Option.some.inj h
   exact ⟨_, rfl, _, σ37, a35, c36, fr_join ⟨rfl, rfl, rfl, rfl, rfl, trivial⟩, rfl, H.sel' [2, 0, 3] rfl rfl⟩
  ·replace h := bif_f hb21 h
   refine c_exit (q_then_x (q_then_x (q_blk_hit ?_)))
   obtain rfl := Option.some.inj h
   obtain rfl := hres _ rfl
   exact ⟨rfl, _, σ18, a19, c20, fr_join ⟨rfl, trivial⟩, rfl, H.sel' [1] rfl rfl⟩
 ·clear hj
  have h := h'
  clear h' H
  rintro e a w ⟨rfl, ρ, σ38, a39, c40, rfl, rfl, H⟩
  refine q_then (c_seq (rg (st (v := (Sl a39 o14 c40)) (rv_move rfl) (st (v := (Sl a39 o14 c40)) (rv_assign rfl) (w_end (q_then (c_ret ?_)))))))
  obtain rfl := Option.some.inj h
  exact fin_ret (v := (Sl a39 o14 c40)) (results_ok Try.results53 (res_tmp (v := (Sl a39 o14 c40)) rfl res_nil) rfl) ⟨a39, c40, rfl, rfl⟩ (H.sel' [0] rfl rfl)

theorem c_impl_ProbeCost {Bj : List (List Int)} {Ap : List (Int × (List Int) × Int)} {Gb : List Int} {Gc : Int} {Bm : Option Addr} {Bn : Nat} {Aq : Option Addr} {Ar : Nat} {Gd : Option Addr} {Ge : Nat} {r : Int} (h : M.impl_ProbeCost Bj Ap Gb Gc = some r) :
    Cal2 Try.prog 22 [(Sl Bm Bj Bn), (Sl Aq Ap Ar), (Sl Gd Gb Ge), (I Gc)] [Ch.ro 0 (Sl Bm Bj Bn) Bj, Ch.ro 0 (Sl Aq Ap Ar) Ap, Ch.ro 0 (Sl Gd Gb Ge) Gb] (fun n0 v L => v = (I r) ∧ L = []) := by
 refine cal2 (n := 28) Try.func22 rfl rfl rfl rfl ?_
 intro S0 σ0 n0 hn0 H
 unfold M.impl_ProbeCost at h
 refine c_seq (rg (st (v := (I 0)) (rv_assign rfl) (w_end (q_then (c_seq (c_seq ?_))))))
 obtain ⟨o1, hj, h'⟩ := bind_some h
 clear h
 refine c_cut (fun e a w => e = .normal ∧ ∃ (ρ : Nat → Value) (σ : St), a = fr 28 (updL ρ [(0, (Sl Bm Bj Bn)), (1, (Sl Aq Ap Ar)), (2, (Sl Gd Gb Ge)), (3, (I Gc)), (18, (B o1))]) ∧ w = σ.w ∧ Hp S0 σ0 σ [Ch.ro 0 (Sl Bm Bj Bn) Bj, Ch.ro 0 (Sl Aq Ap Ar) Ap, Ch.ro 0 (Sl Gd Gb Ge) Gb]) ?_ ?_
 ·clear h'
  rename _ = some o1 => h
  refine rg (st (v := (Sl Bm Bj Bn)) (rv_move rfl) (st (v := (Sl Gd Gb Ge)) (rv_move rfl) (st (v := (I Gc)) (rv_move rfl) ?_)))
  obtain ⟨r2, hx3, h'⟩ := bind_some h
  clear h
  have h := h'; clear h'
  have hc4 := c_impl_validProbe (Bm := Bm) (Bn := Bn) (Bo := Gd) (Bp := Ge) hx3
  refine st_call (cx_call hc4 (ent_f hc4.fn rfl) hn0 (H.sel' [0, 2, 0, 1, 2] rfl rfl : Hp S0 σ0 _ ([_, _] ++ _))) wn ?_
  rintro _ σ5 ⟨_, ⟨rfl, rfl⟩, H, -⟩
  replace H : Hp _ _ _ [_, _, _] := H
  refine st (v := (B (!r2))) (rv_not rfl) (st (v := (B (!r2))) (rv_move rfl) ?_)
  rcases Bool.eq_false_or_eq_true (!r2) with hb6 | hb6
  ·replace h := bif_t hb6 h
   refine st_skip (congrArg some hb6) (st_skip (congrArg some hb6) (st_skip (congrArg some hb6) (st (v := (B true)) (rv_pick_t (congrArg B hb6) rfl) (w_end ?_))))
   obtain rfl := Option.some.inj h
   exact ⟨rfl, _, σ5, fr_join ⟨rfl, rfl, rfl, rfl, rfl, trivial⟩, rfl, H.sel' [0, 1, 2] rfl rfl⟩
  ·replace h := bif_f hb6 h
   refine st_g (v := (Sl Aq Ap Ar)) (congrArg some hb6) (rv_move rfl) ?_
   obtain ⟨r7, hx8, h'⟩ := bind_some h
   clear h
   have h := h'; clear h'
   have hc9 := c_impl_ValidStore (Au := Aq) (Av := Ar) hx8
   refine st_call (cx_call hc9 (ent_f hc9.fn rfl) hn0 (H.sel' [1, 0, 1, 2] rfl rfl : Hp S0 σ0 _ ([_] ++ _))) (wanted_yes rfl (by exact (congrArg some hb6))) ?_
   rintro _ σ10 ⟨_, ⟨rfl, rfl⟩, H, -⟩
   replace H : Hp _ _ _ [_, _, _] := H
   refine st_g (v := (B (!r7))) (congrArg some hb6) (rv_not rfl) (st (v := (B (!r7))) (rv_pick_f (congrArg B hb6) rfl) (w_end ?_))
   obtain rfl := Option.some.inj h
   exact ⟨rfl, _, σ10, fr_join ⟨rfl, rfl, rfl, rfl, rfl, trivial⟩, rfl, H.sel' [0, 1, 2] rfl rfl⟩
 ·clear hj
  have h := h'
  clear h' H
  rintro e a w ⟨rfl, ρ, σ11, rfl, rfl, H⟩
  refine q_then ?_
  refine cd_cond o1 rfl (fun hb12 => ?_) (fun hb12 => ?_)
  ·replace h := bif_t hb12 h
   refine c_seq (rg (st (v := (I (-1))) (rv_assign rfl) (w_end (q_then (c_ret (q_then_r ?_))))))
   obtain rfl := Option.some.inj h
   exact fin_ret (v := (I (-1))) (results_ok Try.results22 (res_tmp (v := (I (-1))) rfl res_nil) rfl) ⟨rfl, rfl⟩ (H.sel' [] rfl rfl)
  ·replace h := bif_f hb12 h
   refine c_skip (q_then (c_seq (rg (st (v := (Sl Bm Bj Bn)) (rv_move rfl) (st (v := (I (Bj.length : Int))) (rv_len Try.underlying23 rfl) (st (v := (Sl Bm Bj Bn)) (rv_move rfl) (st (v := (Sl Aq Ap Ar)) (rv_move rfl) (st (v := (Sl Gd Gb Ge)) (rv_move rfl) (st (v := (I Gc)) (rv_move rfl) ?_)))))))))
   obtain ⟨r13, hx14, h'⟩ := bind_some h
   clear h
   have h := h'; clear h'
   have hc15 := c_impl_probedItems (Bm := Bm) (Bn := Bn) (Aq := Aq) (Ar := Ar) (Gd := Gd) (Ge := Ge) hx14
   refine st_call (cx_call hc15 (ent_f hc15.fn rfl) hn0 (H.sel' [0, 1, 2, 0, 1, 2] rfl rfl : Hp S0 σ0 _ ([_, _, _] ++ _))) wn ?_
   rintro _ σ18 ⟨_, ⟨a16, c17, rfl, rfl⟩, H, -⟩
   replace H : Hp _ _ _ [_, _, _, _] := H
   refine st (v := (I (r13.length : Int))) (rv_len Try.underlying24 rfl) (st (v := (I (w64 ((Bj.length : Int) + (r13.length : Int))))) (rv_add (a := (Bj.length : Int)) (b := (r13.length : Int)) rfl rfl) (st (v := (I (w64 ((Bj.length : Int) + (r13.length : Int))))) (rv_assign rfl) (w_end (q_then (c_ret ?_)))))
   obtain rfl := Option.some.inj h
   exact fin_ret (v := (I (w64 ((Bj.length : Int) + (r13.length : Int))))) (results_ok Try.results22 (res_tmp (v := (I (w64 ((Bj.length : Int) + (r13.length : Int))))) rfl res_nil) rfl) ⟨rfl, rfl⟩ (H.sel' [] rfl rfl)

theorem c_spec_validCentres {As : List (List Int)} {Au : Option Addr} {Av : Nat} {r : Bool} (h : M.spec_validCentres As = some r) :
    Cal2 Try.prog 35 [(Sl Au As Av)] [Ch.ro 0 (Sl Au As Av) As] (fun n0 v L => v = (B r) ∧ L = []) := by
 refine cal2 (n := 19) Try.func35 rfl rfl rfl rfl ?_
 intro S0 σ0 n0 hn0 H
 unfold M.spec_validCentres at h
 refine c_seq (rg (st (v := (B false)) (rv_assign rfl) (w_end (q_then (c_seq (c_seq (rg (st (v := (I 0)) (rv_assign rfl) (w_end (q_then ?_))))))))))
 obtain ⟨o1, hj, h'⟩ := bind_some h
 clear h
 refine c_cut (fun e a w => (∃ t, o1 = (.inl t) ∧ e = .normal ∧ ∃ (ρ : Nat → Value) (σ : St), a = fr 19 (updL ρ [(0, (Sl Au As Av))]) ∧ w = σ.w ∧ Hp S0 σ0 σ [Ch.ro 0 (Sl Au As Av) As]) ∨ (∃ t, o1 = (.inr t) ∧ e = .ret ∧ ∃ (ρ : Nat → Value) (σ : St), a = fr 19 (updL ρ [(2, (B t))]) ∧ w = σ.w ∧ Hp S0 σ0 σ [])) ?_ ?_
 ·clear h'
  rename _ = some o1 => h
  refine c_blk (wp_loopM _ h (fun s2 a w => ∃ (ρ : Nat → Value) (σ : St), a = fr 19 (updL ρ [(0, (Sl Au As Av)), (3, (I s2))]) ∧ w = σ.w ∧ Hp S0 σ0 σ [Ch.ro 0 (Sl Au As Av) As]) ⟨_, σ0, fr_join ⟨rfl, rfl, trivial⟩, rfl, H.sel' [0] rfl rfl⟩ ?_)
  clear h H
  rintro s2 a w o ⟨ρ, σ3, rfl, rfl, H⟩ h hres
  refine c_seq (c_seq (rg (st (v := (I s2)) (rv_move rfl) (st (v := (Sl Au As Av)) (rv_move rfl) (st (v := (I (As.length : Int))) (rv_len Try.underlying23 rfl) (st (v := (B (decide (s2 < (As.length : Int))))) (rv_lss (a := s2) (b := (As.length : Int)) rfl rfl) (w_end (q_then ?_))))))))
  refine cd_cond (decide (s2 < (As.length : Int))) rfl (fun hb4 => ?_) (fun hb4 => ?_)
  ·replace h := bif_t hb4 h
   refine c_skip (q_then (c_seq (c_blk (c_seq (rg (st (v := (Sl Au As Av)) (rv_move rfl) (st (v := (I s2)) (rv_move rfl) ?_)))))))
   obtain ⟨x5, hx6, h'⟩ := bind_some h
   clear h
   have h := h'; clear h'
   obtain ⟨b8, o9, hi7, -⟩ := (H.ro 0 rfl).ix hx6
   refine st (v := (pt b8 o9)) (rv_ix Try.underlying23 ti29 rfl rfl hi7) ?_
   obtain ⟨v13, hc14, hR12⟩ := ((H.ro 0 rfl).at hx6 hi7).slice
   obtain ⟨a10, c11, rfl⟩ := hR12.isSl
   replace H := H.add (d := Ch.ro 0 (Sl a10 x5 c11) x5) hR12 (fun _ h => h)
   clear hR12
   refine st (v := (Sl a10 x5 c11)) (rv_load1 Try.underlying29 rfl rfl hc14) ?_
   obtain ⟨r15, hx16, h'⟩ := bind_some h
   clear h
   have h := h'; clear h'
   have hc17 := c_spec_isVector (Bb := a10) (Bc := c11) hx16
   refine st_call (cx_call hc17 (ent_f hc17.fn rfl) hn0 (H.sel' [0, 0, 1] rfl rfl : Hp S0 σ0 _ ([_] ++ _))) wn ?_
   rintro _ σ18 ⟨_, ⟨rfl, rfl⟩, H, -⟩
   replace H : Hp _ _ _ [_, _] := H
   refine st (v := (B (!r15))) (rv_not rfl) (w_end (q_then ?_))
   refine cd_cond (!r15) rfl (fun hb19 => ?_) (fun hb19 => ?_)
   ·replace h := bif_t hb19 h
    refine c_seq (rg (st (v := (B false)) (rv_assign rfl) (w_end (q_then (c_ret (q_blk_r (q_then_r (q_then_r (q_blk_r ?_)))))))))
    obtain rfl := Option.some.inj h
    obtain rfl := hres _ rfl
    exact .inr (⟨_, rfl, rfl, _, σ18, fr_join ⟨rfl, trivial⟩, rfl, H.sel' [] rfl rfl⟩)
   ·replace h := bif_f hb19 h
    refine c_skip (q_blk (q_then (rg (st (v := (I s2)) (rv_move rfl) (st (v := (I (w64 (s2 + 1)))) (rv_add (a := s2) (b := 1) rfl rfl) (st (v := (I (w64 (s2 + 1)))) (rv_assign rfl) (w_end (q_then ?_))))))))
    obtain rfl := Option.some.inj h
    exact ⟨_, rfl, _, σ18, fr_join ⟨rfl, rfl, trivial⟩, rfl, H.sel' [1] rfl rfl⟩
  ·replace h := bif_f hb4 h
   refine c_exit (q_then_x (q_then_x (q_blk_hit ?_)))
   obtain rfl := Option.some.inj h
   obtain rfl := hres _ rfl
   exact .inl ⟨_, rfl, rfl, _, σ3, fr_join ⟨rfl, trivial⟩, rfl, H.sel' [0] rfl rfl⟩
 ·clear hj
  have h := h'
  clear h' H
  rintro e a w (⟨t20, rfl, rfl, ρ, σ21, rfl, rfl, H⟩ | ⟨t26, rfl, rfl, ρ, σ27, rfl, rfl, H⟩)
  ·replace h := selim_l h
   refine q_then (c_seq (rg (st (v := (Sl Au As Av)) (rv_move rfl) (st (v := (I (As.length : Int))) (rv_len Try.underlying23 rfl) ?_))))
   obtain ⟨r22, hx23, h'⟩ := bind_some h
   clear h
   have h := h'; clear h'
   have hc24 := c_spec_inRange hx23
   refine st_call (cx_call hc24 (ent_f hc24.fn rfl) hn0 (H.sel' [0] rfl rfl : Hp S0 σ0 _ ([] ++ _))) wn ?_
   rintro _ σ25 ⟨_, ⟨rfl, rfl⟩, H, -⟩
   replace H : Hp _ _ _ [_] := H
   refine st (v := (B r22)) (rv_assign rfl) (w_end (q_then (c_ret ?_)))
   obtain rfl := Option.some.inj h
   exact fin_ret (v := (B r22)) (results_ok Try.results35 (res_tmp (v := (B r22)) rfl res_nil) rfl) ⟨rfl, rfl⟩ (H.sel' [] rfl rfl)
  ·replace h := selim_r h
   refine q_then_r ?_
   obtain rfl := Option.some.inj h
   exact fin_ret (v := (B t26)) (results_ok Try.results35 (res_tmp (v := (B t26)) rfl res_nil) rfl) ⟨rfl, rfl⟩ (H.sel' [] rfl rfl)

theorem c_spec_toInt {Gf : Bool}  {r : Int} (h : M.spec_toInt Gf = some r) :
    Cal2 Try.prog 55 [(B Gf)] [] (fun n0 v L => v = (I r) ∧ L = []) := by
 refine cal2 (n := 4) Try.func55 rfl rfl rfl rfl ?_
 intro S0 σ0 n0 hn0 H
 unfold M.spec_toInt at h
 refine c_seq (rg (st (v := (I 0)) (rv_assign rfl) (w_end (q_then (c_seq (c_seq (rg (st (v := (B Gf)) (rv_move rfl) (w_end (q_then ?_))))))))))
 refine cd_cond Gf rfl (fun hb1 => ?_) (fun hb1 => ?_)
 ·replace h := bif_t hb1 h
  refine c_seq (rg (st (v := (I 1)) (rv_assign rfl) (w_end (q_then (c_ret (q_then_r ?_))))))
  obtain rfl := Option.some.inj h
  exact fin_ret (v := (I 1)) (results_ok Try.results55 (res_tmp (v := (I 1)) rfl res_nil) rfl) ⟨rfl, rfl⟩ (H.sel' [] rfl rfl)
 ·replace h := bif_f hb1 h
  refine c_skip (q_then (c_seq (rg (st (v := (I 0)) (rv_assign rfl) (w_end (q_then (c_ret ?_)))))))
  obtain rfl := Option.some.inj h
  exact fin_ret (v := (I 0)) (results_ok Try.results55 (res_tmp (v := (I 0)) rfl res_nil) rfl) ⟨rfl, rfl⟩ (H.sel' [] rfl rfl)

theorem c_spec_size {Ax : Int}  {r : Int} (h : M.spec_size Ax = some r) :
    Cal2 Try.prog 75 [(I Ax)] [] (fun n0 v L => v = (I r) ∧ L = []) := by
 refine cal2 (n := 7) Try.func75 rfl rfl rfl rfl ?_
 intro S0 σ0 n0 hn0 H
 unfold M.spec_size at h
 refine c_seq (rg (st (v := (I 0)) (rv_assign rfl) (w_end (q_then (c_seq (rg (st (v := (I Ax)) (rv_move rfl) (st (v := (I Ax)) (rv_move rfl) (st (v := (I (w64 (0 - Ax)))) (rv_neg (a := Ax) rfl) (st (v := (I (max Ax (w64 (0 - Ax))))) (rv_max rfl rfl) (st (v := (I (max Ax (w64 (0 - Ax))))) (rv_assign rfl) ?_)))))))))))
 refine w_end (q_then (c_ret ?_))
 obtain rfl := Option.some.inj h
 exact fin_ret (v := (I (max Ax (w64 (0 - Ax))))) (results_ok Try.results75 (res_tmp (v := (I (max Ax (w64 (0 - Ax))))) rfl res_nil) rfl) ⟨rfl, rfl⟩ (H.sel' [] rfl rfl)

theorem c_spec_dist {Bv : Int} {Bz : List Int} {Ca : List Int} {Cb : Option Addr} {Cc : Nat} {Cd : Option Addr} {Ce : Nat} {r : Int} (h : M.spec_dist Bv Bz Ca = some r) :
    Cal2 Try.prog 61 [(I Bv), (Sl Cb Bz Cc), (Sl Cd Ca Ce)] [Ch.ro 0 (Sl Cb Bz Cc) Bz, Ch.ro 0 (Sl Cd Ca Ce) Ca] (fun n0 v L => v = (I r) ∧ L = []) := by
 refine cal2 (n := 50) Try.func61 rfl rfl rfl rfl ?_
 intro S0 σ0 n0 hn0 H
 unfold M.spec_dist at h
 refine c_seq (rg (st (v := (I 0)) (rv_assign rfl) (w_end (q_then (c_seq (rg (st (v := (I 0)) (rv_assign rfl) (w_end (q_then (c_seq (c_seq ?_)))))))))))
 refine rg (st (v := (I 0)) (rv_assign rfl) (w_end (q_then ?_)))
 obtain ⟨o1, hj, h'⟩ := bind_some h
 clear h
 refine c_cut (fun e a w => e = .normal ∧ ∃ (ρ : Nat → Value) (σ : St), a = fr 50 (updL ρ [(7, (I o1))]) ∧ w = σ.w ∧ Hp S0 σ0 σ []) ?_ ?_
 ·clear h'
  rename _ = some o1 => h
  refine c_blk (wp_loopM _ h (fun s2 a w => ∃ (ρ : Nat → Value) (σ : St), a = fr 50 (updL ρ [(0, (I Bv)), (1, (Sl Cb Bz Cc)), (2, (Sl Cd Ca Ce)), (7, (I s2.1)), (8, (I s2.2))]) ∧ w = σ.w ∧ Hp S0 σ0 σ [Ch.ro 0 (Sl Cb Bz Cc) Bz, Ch.ro 0 (Sl Cd Ca Ce) Ca]) ⟨_, σ0, fr_join ⟨rfl, rfl, rfl, rfl, rfl, trivial⟩, rfl, H.sel' [0, 1] rfl rfl⟩ ?_)
  clear h H
  rintro s2 a w o ⟨ρ, σ3, rfl, rfl, H⟩ h hres
  refine c_seq (c_seq (rg (st (v := (I s2.2)) (rv_move rfl) (st (v := (Sl Cb Bz Cc)) (rv_move rfl) (st (v := (I (Bz.length : Int))) (rv_len Try.underlying29 rfl) (st (v := (B (decide (s2.2 < (Bz.length : Int))))) (rv_lss (a := s2.2) (b := (Bz.length : Int)) rfl rfl) (w_end (q_then ?_))))))))
  refine cd_cond (decide (s2.2 < (Bz.length : Int))) rfl (fun hb4 => ?_) (fun hb4 => ?_)
  ·replace h := bif_t hb4 h
   refine c_skip (q_then (c_seq ?_))
   obtain ⟨o5, hj, h'⟩ := bind_some h
   clear h
   refine c_cut (fun e a w => e = .normal ∧ ∃ (ρ : Nat → Value) (σ : St), a = fr 50 (updL ρ [(0, (I Bv)), (1, (Sl Cb Bz Cc)), (2, (Sl Cd Ca Ce)), (7, (I o5)), (8, (I s2.2))]) ∧ w = σ.w ∧ Hp S0 σ0 σ [Ch.ro 0 (Sl Cb Bz Cc) Bz, Ch.ro 0 (Sl Cd Ca Ce) Ca]) ?_ ?_
   ·clear h'
    rename _ = some o5 => h
    refine c_blk (c_seq ?_)
    refine rgP (σ := σ3) 8 (by kernel_rfl) (by kernel_rfl) (by kernel_rfl) ?_
    refine sq (v := (Sl Cb Bz Cc)) (rv_move rfl) (sq (v := (I s2.2)) (rv_move rfl) ?_)
    obtain ⟨x6, hx7, h'⟩ := bind_some h
    clear h
    have h := h'; clear h'
    obtain ⟨b9, o10, hi8, -⟩ := (H.ro 0 rfl).ix hx7
    refine sq (v := (pt b9 o10)) (rv_ix Try.underlying29 ti3 rfl rfl hi8) ?_
    have hc11 := ((H.ro 0 rfl).at hx7 hi8).int
    refine sq (v := (I x6)) (rv_load1 Try.underlying3 rfl rfl hc11) (sq (v := (Sl Cd Ca Ce)) (rv_move rfl) (sq (v := (I s2.2)) (rv_move rfl) ?_))
    obtain ⟨x12, hx13, h'⟩ := bind_some h
    clear h
    have h := h'; clear h'
    obtain ⟨b15, o16, hi14, -⟩ := (H.ro 1 rfl).ix hx13
    refine sq (v := (pt b15 o16)) (rv_ix Try.underlying29 ti3 rfl rfl hi14) ?_
    have hc17 := ((H.ro 1 rfl).at hx13 hi14).int
    refine sq (v := (I x12)) (rv_load1 Try.underlying3 rfl rfl hc17) (sq_end ?_)
    intro σ18 hm19
    replace H := H.grow (hm19.mono fun _ h => h); clear hm19
    refine st (v := (I (w64 (x6 - x12)))) (rv_sub (a := x6) (b := x12) rfl rfl) ?_
    obtain ⟨r20, hx21, h'⟩ := bind_some h
    clear h
    have h := h'; clear h'
    have hc22 := c_spec_size hx21
    refine st_call (cx_call hc22 (ent_f hc22.fn rfl) hn0 (H.sel' [0, 1] rfl rfl : Hp S0 σ0 _ ([] ++ _))) wn ?_
    rintro _ σ23 ⟨_, ⟨rfl, rfl⟩, H, -⟩
    replace H : Hp _ _ _ [_, _] := H
    refine st (v := (I r20)) (rv_assign rfl) (w_end (q_then (c_seq (rg (st (v := (I Bv)) (rv_move rfl) (w_end (q_then (c_blk (c_seq (rg (st (v := (B (Bv == 1))) (rv_eql (a := Bv) (b := 1) rfl rfl) ?_)))))))))))
    refine st (v := (B (Bv == 1))) (rv_assign rfl) (w_end (q_then ?_))
    refine cd_cond (Bv == 1) rfl (fun hb24 => ?_) (fun hb24 => ?_)
    ·replace h := bif_t hb24 h
     refine rg (st (v := (I s2.1)) (rv_move rfl) (st (v := (I r20)) (rv_move rfl) (st (v := (I (w64 (s2.1 + r20)))) (rv_add (a := s2.1) (b := r20) rfl rfl) (st (v := (I (w64 (s2.1 + r20)))) (rv_assign rfl) (w_end (q_blk (q_blk ?_)))))))
     obtain rfl := Option.some.inj h
     exact ⟨rfl, _, σ23, fr_join ⟨rfl, rfl, rfl, rfl, rfl, trivial⟩, rfl, H.sel' [0, 1] rfl rfl⟩
    ·replace h := bif_f hb24 h
     refine c_seq (rg (st (v := (B (Bv == 2))) (rv_eql (a := Bv) (b := 2) rfl rfl) (st (v := (B (Bv == 2))) (rv_assign rfl) (w_end (q_then ?_)))))
     refine cd_cond (Bv == 2) rfl (fun hb25 => ?_) (fun hb25 => ?_)
     ·replace h := bif_t hb25 h
      refine rg (st (v := (I s2.1)) (rv_move rfl) (st (v := (I r20)) (rv_move rfl) (st (v := (I (max s2.1 r20))) (rv_max rfl rfl) (st (v := (I (max s2.1 r20))) (rv_assign rfl) (w_end (q_blk (q_blk ?_)))))))
      obtain rfl := Option.some.inj h
      exact ⟨rfl, _, σ23, fr_join ⟨rfl, rfl, rfl, rfl, rfl, trivial⟩, rfl, H.sel' [0, 1] rfl rfl⟩
     ·replace h := bif_f hb25 h
      refine c_seq (rg (st (v := (B (Bv == 3))) (rv_eql (a := Bv) (b := 3) rfl rfl) (st (v := (B (Bv == 3))) (rv_assign rfl) (w_end (q_then ?_)))))
      refine cd_cond (Bv == 3) rfl (fun hb26 => ?_) (fun hb26 => ?_)
      ·replace h := bif_t hb26 h
       refine rg (st (v := (I s2.1)) (rv_move rfl) (st (v := (I r20)) (rv_move rfl) (st (v := (I r20)) (rv_move rfl) (st (v := (I (w64 (r20 * r20)))) (rv_mul (a := r20) (b := r20) rfl rfl) (st (v := (I (w64 (s2.1 + (w64 (r20 * r20)))))) (rv_add (a := s2.1) (b := (w64 (r20 * r20))) rfl rfl) (st (v := (I (w64 (s2.1 + (w64 (r20 * r20)))))) (rv_assign rfl) (w_end (q_blk (q_blk ?_)))))))))
       obtain rfl := Option.some.inj h
       exact ⟨rfl, _, σ23, fr_join ⟨rfl, rfl, rfl, rfl, rfl, trivial⟩, rfl, H.sel' [0, 1] rfl rfl⟩
      ·replace h := bif_f hb26 h
       refine rg (st (v := (I s2.1)) (rv_move rfl) (st (v := (I r20)) (rv_move rfl) (st (v := (B (decide (0 < r20)))) (rv_gtr (a := r20) (b := 0) rfl rfl) ?_)))
       obtain ⟨r27, hx28, h'⟩ := bind_some h
       clear h
       have h := h'; clear h'
       have hc29 := c_spec_toInt hx28
       refine st_call (cx_call hc29 (ent_f hc29.fn rfl) hn0 (H.sel' [0, 1] rfl rfl : Hp S0 σ0 _ ([] ++ _))) wn ?_
       rintro _ σ30 ⟨_, ⟨rfl, rfl⟩, H, -⟩
       replace H : Hp _ _ _ [_, _] := H
       refine st (v := (I (w64 (s2.1 + r27)))) (rv_add (a := s2.1) (b := r27) rfl rfl) (st (v := (I (w64 (s2.1 + r27)))) (rv_assign rfl) (w_end (q_blk (q_blk ?_))))
       obtain rfl := Option.some.inj h
       exact ⟨rfl, _, σ30, fr_join ⟨rfl, rfl, rfl, rfl, rfl, trivial⟩, rfl, H.sel' [0, 1] rfl rfl⟩
   ·clear hj
    have h := h'
    clear h' H
    rintro e a w ⟨rfl, ρ, σ31, rfl, rfl, H⟩
    refine q_then (rg (st (v := (I s2.2)) (rv_move rfl) (st (v := (I (w64 (s2.2 + 1)))) (rv_add (a := s2.2) (b := 1) rfl rfl) (st (v := (I (w64 (s2.2 + 1)))) (rv_assign rfl) (w_end (q_then ?_))))))
    obtain rfl := Option.some.inj h
    exact ⟨_, rfl, _, σ31, fr_join ⟨rfl, rfl, rfl, rfl, rfl, trivial⟩, rfl, H.sel' [0, 1] rfl rfl⟩
  ·replace h := bif_f hb4 h
   refine c_exit (q_then_x (q_then_x (q_blk_hit ?_)))
   obtain rfl := Option.some.inj h
   obtain rfl := hres _ rfl
   exact ⟨rfl, _, σ3, fr_join ⟨rfl, trivial⟩, rfl, H.sel' [] rfl rfl⟩
 ·clear hj
  have h := h'
  clear h' H
  rintro e a w ⟨rfl, ρ, σ32, rfl, rfl, H⟩
  refine q_then (c_seq (rg (st (v := (I o1)) (rv_move rfl) (st (v := (I o1)) (rv_assign rfl) (w_end (q_then (c_ret ?_)))))))
  obtain rfl := Option.some.inj h
  exact fin_ret (v := (I o1)) (results_ok Try.results61 (res_tmp (v := (I o1)) rfl res_nil) rfl) ⟨rfl, rfl⟩ (H.sel' [] rfl rfl)

theorem c_spec_centreOf {Bj : List (List Int)} {Bk : List Int} {Bm : Option Addr} {Bn : Nat} {Bo : Option Addr} {Bp : Nat} {r : Int} (h : M.spec_centreOf Bj Bk = some r) :
    Cal2 Try.prog 37 [(Sl Bm Bj Bn), (Sl Bo Bk Bp)] [Ch.ro 0 (Sl Bm Bj Bn) Bj, Ch.ro 0 (Sl Bo Bk Bp) Bk] (fun n0 v L => v = (I r) ∧ L = []) := by
 refine cal2 (n := 28) Try.func37 rfl rfl rfl rfl ?_
 intro S0 σ0 n0 hn0 H
 unfold M.spec_centreOf at h
 refine c_seq (rg (st (v := (I 0)) (rv_assign rfl) (w_end (q_then (c_seq (rg (st (v := (I 0)) (rv_assign rfl) (w_end (q_then (c_seq (c_seq ?_)))))))))))
 refine rg (st (v := (I 1)) (rv_assign rfl) (w_end (q_then ?_)))
 obtain ⟨o1, hj, h'⟩ := bind_some h
 clear h
 refine c_cut (fun e a w => e = .normal ∧ ∃ (ρ : Nat → Value) (σ : St), a = fr 28 (updL ρ [(5, (I o1))]) ∧ w = σ.w ∧ Hp S0 σ0 σ []) ?_ ?_
 ·clear h'
  rename _ = some o1 => h
  refine c_blk (wp_loopM _ h (fun s2 a w => ∃ (ρ : Nat → Value) (σ : St), a = fr 28 (updL ρ [(0, (Sl Bm Bj Bn)), (1, (Sl Bo Bk Bp)), (5, (I s2.1)), (6, (I s2.2))]) ∧ w = σ.w ∧ Hp S0 σ0 σ [Ch.ro 0 (Sl Bm Bj Bn) Bj, Ch.ro 0 (Sl Bo Bk Bp) Bk]) ⟨_, σ0, fr_join ⟨rfl, rfl, rfl, rfl, trivial⟩, rfl, H.sel' [0, 1] rfl rfl⟩ ?_)
  clear h H
  rintro s2 a w o ⟨ρ, σ3, rfl, rfl, H⟩ h hres
  refine c_seq (c_seq (rg (st (v := (I s2.2)) (rv_move rfl) (st (v := (Sl Bm Bj Bn)) (rv_move rfl) (st (v := (I (Bj.length : Int))) (rv_len Try.underlying23 rfl) (st (v := (B (decide (s2.2 < (Bj.length : Int))))) (rv_lss (a := s2.2) (b := (Bj.length : Int)) rfl rfl) (w_end (q_then ?_))))))))
  refine cd_cond (decide (s2.2 < (Bj.length : Int))) rfl (fun hb4 => ?_) (fun hb4 => ?_)
  ·replace h := bif_t hb4 h
   refine c_skip (q_then (c_seq ?_))
   obtain ⟨o5, hj, h'⟩ := bind_some h
   clear h
   refine c_cut (fun e a w => e = .normal ∧ ∃ (ρ : Nat → Value) (σ : St), a = fr 28 (updL ρ [(0, (Sl Bm Bj Bn)), (1, (Sl Bo Bk Bp)), (5, (I o5)), (6, (I s2.2))]) ∧ w = σ.w ∧ Hp S0 σ0 σ [Ch.ro 0 (Sl Bm Bj Bn) Bj, Ch.ro 0 (Sl Bo Bk Bp) Bk]) ?_ ?_
   ·clear h'
    rename _ = some o5 => h
    refine c_blk (c_seq ?_)
    obtain ⟨x6, hx7, h'⟩ := bind_some h
    clear h
    have h := h'; clear h'
    obtain ⟨b9, o10, hi8, -⟩ := (H.ro 0 rfl).ix hx7
    obtain ⟨v14, hc15, hR13⟩ := ((H.ro 0 rfl).at hx7 hi8).slice
    obtain ⟨a11, c12, rfl⟩ := hR13.isSl
    replace H := H.add (d := Ch.ro 0 (Sl a11 x6 c12) x6) hR13 (fun _ h => h)
    clear hR13
    obtain ⟨r16, hx17, h'⟩ := bind_some h
    clear h
    have h := h'; clear h'
    have hc18 := c_spec_dist (Cb := a11) (Cc := c12) (Cd := Bo) (Ce := Bp) hx17
    obtain ⟨x19, hx20, h'⟩ := bind_some h
    clear h
    have h := h'; clear h'
    obtain ⟨b22, o23, hi21, -⟩ := (H.ro 1 rfl).ix hx20
    obtain ⟨v27, hc28, hR26⟩ := ((H.ro 1 rfl).at hx20 hi21).slice
    obtain ⟨a24, c25, rfl⟩ := hR26.isSl
    replace H := H.add (d := Ch.ro 0 (Sl a24 x19 c25) x19) hR26 (fun _ h => h)
    clear hR26
    have Hs := H
    refine rg2 (σ := σ3) (Nm := Unit) 11 [5] [[false], [true]] [[(0, 0)], [(0, 0)], [(0, 0)], [(0, 0)], [(0, 0)], [(0, 1)], [(0, 0), (1, 1)], [(0, 0), (1, 1)], [(0, 0), (1, 1)], [(0, 0), (1, 1)], [(0, 0), (1, 1)]] 1 [fun _ => fun σm => Hp S0 σ0 σm [Ch.ro 0 (Sl a24 x19 c25) x19, Ch.ro 0 (Sl a11 x6 c12) x6, Ch.ro 0 (Sl Bm Bj Bn) Bj, Ch.ro 0 (Sl Bo Bk Bp) Bk] ∧ Md (cov []) σ3 σm, fun _ => fun σm => Hp S0 σ0 σm [Ch.ro 0 (Sl a24 x19 c25) x19, Ch.ro 0 (Sl a11 x6 c12) x6, Ch.ro 0 (Sl Bm Bj Bn) Bj, Ch.ro 0 (Sl Bo Bk Bp) Bk] ∧ Md (cov []) σ3 σm] [fun _ => (Sl Bm Bj Bn), fun _ => (I s2.2), fun _ => (pt b9 o10), fun _ => (Sl a11 x6 c12), fun _ => (Sl Bo Bk Bp), fun _ => (I r16), fun _ => (Sl Bm Bj Bn), fun _ => (I s2.1), fun _ => (pt b22 o23), fun _ => (Sl a24 x19 c25), fun _ => (Sl Bo Bk Bp)] () (by kernel_rfl) (by kernel_rfl) ?_ ?_ ?_
    ·intro σm m0
     exact ⟨H.grow (m0.mono fun _ h => h.elim), m0⟩
    ·refine ac rfl (by
       intro k _nm ρ σm hJ hoff hdep
       have e0 := look_off (N := 28) (hoff 0 rfl) rfl
       exact dp_v (v := (Sl Bm Bj Bn)) wn (rv_move e0) rfl hJ) ?_
     refine ac rfl (by
       intro k _nm ρ σm hJ hoff hdep
       have e6 := look_off (N := 28) (hoff 6 rfl) rfl
       exact dp_v (v := (I s2.2)) wn (rv_move e6) rfl hJ) ?_
     refine ac rfl (by
       intro k _nm ρ σm hJ hoff hdep
       have e13 := hdep 0 rfl rfl 13 rfl
       have e14 := hdep 1 rfl rfl 14 rfl
       exact dp_v (v := (pt b9 o10)) wn (rv_ix Try.underlying23 ti29 e13 e14 hi8) rfl hJ) ?_
     refine all_cons (by
       refine ⟨?_, ?_⟩
       ·intro _nm ρ σm hJ hoff hdep
        have e15 := hdep 2 rfl rfl 15 rfl
        obtain ⟨H, m⟩ := id hJ
        replace hc15 := (Hs.ro 2 rfl).hmd hx7 hi8 (k := 0) (by decide) hc15 m
        exact dp_v (v := (Sl a11 x6 c12)) wn (rv_load1 Try.underlying29 rfl e15 hc15) rfl hJ
       trivial) ?_
     refine ac rfl (by
       intro k _nm ρ σm hJ hoff hdep
       have e1 := look_off (N := 28) (hoff 1 rfl) rfl
       exact dp_v (v := (Sl Bo Bk Bp)) wn (rv_move e1) rfl hJ) ?_
     refine all_cons (by
       refine ⟨?_, ?_⟩
       ·intro _nm ρ σm hJ hoff hdep
        have e16 : look 28 ρ 16 = (Sl a11 x6 c12) := hdep 3 rfl rfl 16 rfl
        have e17 : look 28 ρ 17 = (Sl Bo Bk Bp) := hdep 4 rfl rfl 17 rfl
        obtain ⟨H, m⟩ := id hJ
        refine dp_cx wn (cx_call hc18 (ent_f hc18.fn (by show [(I 3), look 28 ρ 16, look 28 ρ 17] = _; rw [e16, e17])) hn0 (H.sel' [1, 3, 0, 1, 2, 3] rfl rfl : Hp S0 σ0 _ ([_, _] ++ _))) ?_
        rintro _ σq ⟨_, ⟨rfl, rfl⟩, H2, m2⟩
        exact ⟨_, (), rfl, rfl, ⟨H2.sel' [0, 1, 2, 3] rfl rfl, m.comp0 (m2.mono (fun i h => by simp [cov, Ch.ro] at h))⟩, stab [0, 1, 2, 3, 4, 6, 7, 8, 9, 10] (by kernel_rfl) ⟨rfl, rfl, rfl, rfl, rfl, rfl, rfl, rfl, rfl, rfl, trivial⟩⟩
       trivial) ?_
     refine ac rfl (by
       intro k _nm ρ σm hJ hoff hdep
       have e0 := look_off (N := 28) (hoff 0 rfl) rfl
       exact dp_v (v := (Sl Bm Bj Bn)) wn (rv_move e0) rfl hJ) ?_
     refine ac rfl (by
       intro k _nm ρ σm hJ hoff hdep
       have e5 := look_off (N := 28) (hoff 5 rfl) rfl
       exact dp_v (v := (I s2.1)) wn (rv_move e5) rfl hJ) ?_
     refine ac rfl (by
       intro k _nm ρ σm hJ hoff hdep
       have e19 := hdep 6 rfl rfl 19 rfl
       have e20 := hdep 7 rfl rfl 20 rfl
       exact dp_v (v := (pt b22 o23)) wn (rv_ix Try.underlying23 ti29 e19 e20 hi21) rfl hJ) ?_
     refine all_cons (by
       refine ⟨?_, ?_⟩
       ·intro _nm ρ σm hJ hoff hdep
        have e21 := hdep 8 rfl rfl 21 rfl
        obtain ⟨H, m⟩ := id hJ
        replace hc28 := (Hs.ro 2 rfl).hmd hx20 hi21 (k := 0) (by decide) hc28 m
        exact dp_v (v := (Sl a24 x19 c25)) wn (rv_load1 Try.underlying29 rfl e21 hc28) rfl hJ
       refine ⟨?_, ?_⟩
       ·intro _nm ρ σm hJ hoff hdep
        have e21 := hdep 8 rfl rfl 21 rfl
        obtain ⟨H, m⟩ := id hJ
        replace hc28 := (Hs.ro 2 rfl).hmd hx20 hi21 (k := 0) (by decide) hc28 m
        exact dp_v (v := (Sl a24 x19 c25)) wn (rv_load1 Try.underlying29 rfl e21 hc28) rfl hJ
       trivial) ?_
     refine ac rfl (by
       intro k _nm ρ σm hJ hoff hdep
       have e1 := look_off (N := 28) (hoff 1 rfl) rfl
       exact dp_v (v := (Sl Bo Bk Bp)) wn (rv_move e1) rfl hJ) ?_
     exact all_nil
    ·intro _nm ρ σ29 hJ hoff hrel
     have e0 := look_off (N := 28) (hoff 0 rfl) rfl
     have e1 := look_off (N := 28) (hoff 1 rfl) rfl
     have e5 := look_off (N := 28) (hoff 5 rfl) rfl
     have e6 := look_off (N := 28) (hoff 6 rfl) rfl
     have e18 := hrel 5 rfl 18 rfl
     have e22 := hrel 9 rfl 22 rfl
     have e23 := hrel 10 rfl 23 rfl
     obtain ⟨H, -⟩ := (show Hp S0 σ0 σ29 [Ch.ro 0 (Sl a24 x19 c25) x19, Ch.ro 0 (Sl a11 x6 c12) x6, Ch.ro 0 (Sl Bm Bj Bn) Bj, Ch.ro 0 (Sl Bo Bk Bp) Bk] ∧ Md (cov []) σ3 σ29 from hJ)
     clear hJ Hs
     rw [fr_lookL (L := [(0, (Sl Bm Bj Bn)), (1, (Sl Bo Bk Bp)), (5, (I s2.1)), (6, (I s2.2)), (18, (I r16)), (22, (Sl a24 x19 c25)), (23, (Sl Bo Bk Bp))]) ⟨e0, e1, e5, e6, e18, e22, e23, trivial⟩]
     clear hoff hrel e0 e1 e5 e6 e18 e22 e23
     obtain ⟨r30, hx31, h'⟩ := bind_some h
     clear h
     have h := h'; clear h'
     have hc32 := c_spec_dist (Cb := a24) (Cc := c25) (Cd := Bo) (Ce := Bp) hx31
     refine st_call (cx_call hc32 (ent_f hc32.fn rfl) hn0 (H.sel' [0, 3, 0, 1, 2, 3] rfl rfl : Hp S0 σ0 _ ([_, _] ++ _))) wn ?_
     rintro _ σ33 ⟨_, ⟨rfl, rfl⟩, H, -⟩
     replace H : Hp _ _ _ [_, _, _, _] := H
     refine st (v := (B (decide (r16 < r30)))) (rv_lss (a := r16) (b := r30) rfl rfl) (w_end (q_then ?_))
     refine cd_cond (decide (r16 < r30)) rfl (fun hb34 => ?_) (fun hb34 => ?_)
     ·replace h := bif_t hb34 h
      refine rg (st (v := (I s2.2)) (rv_move rfl) (st (v := (I s2.2)) (rv_assign rfl) (w_end (q_blk ?_))))
      obtain rfl := Option.some.inj h
      exact ⟨rfl, _, σ33, fr_join ⟨rfl, rfl, rfl, rfl, trivial⟩, rfl, H.sel' [2, 3] rfl rfl⟩
     ·replace h := bif_f hb34 h
      refine c_skip (q_blk ?_)
      obtain rfl := Option.some.inj h
      exact ⟨rfl, _, σ33, fr_join ⟨rfl, rfl, rfl, rfl, trivial⟩, rfl, H.sel' [2, 3] rfl rfl⟩
   ·clear hj
    have h := h'
    clear h' H
    rintro e a w ⟨rfl, ρ, σ35, rfl, rfl, H⟩
    refine q_then (rg (st (v := (I s2.2)) (rv_move rfl) (st (v := (I (w64 (s2.2 + 1)))) (rv_add (a := s2.2) (b := 1) rfl rfl) (st (v := (I (w64 (s2.2 + 1)))) (rv_assign rfl) (w_end (q_then ?_))))))
    obtain rfl := Option.some.inj h
    exact ⟨_, rfl, _, σ35, fr_join ⟨rfl, rfl, rfl, rfl, trivial⟩, rfl, H.sel' [0, 1] rfl rfl⟩
  ·replace h := bif_f hb4 h
   refine c_exit (q_then_x (q_then_x (q_blk_hit ?_)))
   obtain rfl := Option.some.inj h
   obtain rfl := hres _ rfl
   exact ⟨rfl, _, σ3, fr_join ⟨rfl, trivial⟩, rfl, H.sel' [] rfl rfl⟩
 ·clear hj
  have h := h'
  clear h' H
  rintro e a w ⟨rfl, ρ, σ36, rfl, rfl, H⟩
  refine q_then (c_seq (rg (st (v := (I o1)) (rv_move rfl) (st (v := (I o1)) (rv_assign rfl) (w_end (q_then (c_ret ?_)))))))
  obtain rfl := Option.some.inj h
  exact fin_ret (v := (I o1)) (results_ok Try.results37 (res_tmp (v := (I o1)) rfl res_nil) rfl) ⟨rfl, rfl⟩ (H.sel' [] rfl rfl)

theorem c_spec_nearer {Br : Int × Int} {Bs : Int × Int}  {r : Bool} (h : M.spec_nearer Br Bs = some r) :
    Cal2 Try.prog 80 [(.agg #[(I Br.1), (I Br.2)]), (.agg #[(I Bs.1), (I Bs.2)])] [] (fun n0 v L => v = (B r) ∧ L = []) := by
 refine cal2 (n := 24) Try.func80 rfl rfl rfl rfl ?_
 intro S0 σ0 n0 hn0 H
 unfold M.spec_nearer at h
 refine c_seq (rg (st_ex (ex_box (cs := [(I Br.1), (I Br.2)]) H hn0 rfl rfl) wn ?_))
 rintro _ σ2 ⟨b1, rfl, H, -⟩
 refine st_ex (ex_box (cs := [(I Bs.1), (I Bs.2)]) H hn0 rfl rfl) wn ?_
 rintro _ σ4 ⟨b3, rfl, H, -⟩
 refine st (v := (B false)) (rv_assign rfl) (w_end (q_then (c_seq (rg (st (v := (pt b1 1)) (rv_fieldAddr (off := 1) (ft := 3) Try.underlying84 rfl ti3 rfl rfl) ?_)))))
 have hc5 := H.cell (u := (I Br.2)) (o' := 1) 1 1 rfl rfl rfl
 refine st (v := (I Br.2)) (rv_load1 Try.underlying3 rfl rfl hc5) (st (v := (pt b3 1)) (rv_fieldAddr (off := 1) (ft := 3) Try.underlying84 rfl ti3 rfl rfl) ?_)
 have hc6 := H.cell (u := (I Bs.2)) (o' := 1) 0 1 rfl rfl rfl
 refine st (v := (I Bs.2)) (rv_load1 Try.underlying3 rfl rfl hc6) (st (v := (B (decide (Br.2 < Bs.2)))) (rv_lss (a := Br.2) (b := Bs.2) rfl rfl) (st (v := (B (decide (Br.2 < Bs.2)))) (rv_move rfl) ?_))
 rcases Bool.eq_false_or_eq_true (decide (Br.2 < Bs.2)) with hb7 | hb7
 ·replace h := bif_t hb7 h
  refine st_skip (congrArg some hb7) (st_skip (congrArg some hb7) (st_skip (congrArg some hb7) (st_skip (congrArg some hb7) (st_skip (congrArg some hb7) (st_skip (congrArg some hb7) (st_skip_u rfl (st_skip_u rfl (st_skip_u rfl (st_skip_u rfl (st_skip_u rfl (st_skip (congrArg some hb7) ?_)))))))))))
  refine st (v := (B true)) (rv_pick_t (congrArg B hb7) rfl) (st (v := (B true)) (rv_assign rfl) (w_end (q_then (c_ret ?_))))
  obtain rfl := Option.some.inj h
  exact fin_ret (v := (B true)) (results_ok Try.results80 (res_tmp (v := (B true)) rfl res_nil) rfl) ⟨rfl, rfl⟩ (H.sel' [] rfl rfl)
 ·replace h := bif_f hb7 h
  refine st_g (v := (pt b1 1)) (congrArg some hb7) (rv_fieldAddr (off := 1) (ft := 3) Try.underlying84 rfl ti3 rfl rfl) ?_
  have hc8 := H.cell (u := (I Br.2)) (o' := 1) 1 1 rfl rfl rfl
  refine st_g (v := (I Br.2)) (congrArg some hb7) (rv_load1 Try.underlying3 rfl rfl hc8) (st_g (v := (pt b3 1)) (congrArg some hb7) (rv_fieldAddr (off := 1) (ft := 3) Try.underlying84 rfl ti3 rfl rfl) ?_)
  have hc9 := H.cell (u := (I Bs.2)) (o' := 1) 0 1 rfl rfl rfl
  refine st_g (v := (I Bs.2)) (congrArg some hb7) (rv_load1 Try.underlying3 rfl rfl hc9) (st_g (v := (B (Br.2 == Bs.2))) (congrArg some hb7) (rv_eql (a := Br.2) (b := Bs.2) rfl rfl) (st_g (v := (B (Br.2 == Bs.2))) (congrArg some hb7) (rv_move rfl) ?_))
  rcases Bool.eq_false_or_eq_true (Br.2 == Bs.2) with hb10 | hb10
  ·replace h := bif_t hb10 h
   refine st_g (v := (pt b1 0)) (congrArg some hb10) (rv_fieldAddr (off := 0) (ft := 3) Try.underlying84 rfl ti3 rfl rfl) ?_
   have hc11 := H.cell (u := (I Br.1)) (o' := 0) 1 0 rfl rfl rfl
   refine st_g (v := (I Br.1)) (congrArg some hb10) (rv_load1 Try.underlying3 rfl rfl hc11) (st_g (v := (pt b3 0)) (congrArg some hb10) (rv_fieldAddr (off := 0) (ft := 3) Try.underlying84 rfl ti3 rfl rfl) ?_)
   have hc12 := H.cell (u := (I Bs.1)) (o' := 0) 0 0 rfl rfl rfl
   refine st_g (v := (I Bs.1)) (congrArg some hb10) (rv_load1 Try.underlying3 rfl rfl hc12) (st_g (v := (B (decide (Br.1 < Bs.1)))) (congrArg some hb10) (rv_lss (a := Br.1) (b := Bs.1) rfl rfl) (st_g (v := (B (decide (Br.1 < Bs.1)))) (congrArg some hb7) (rv_pick_t (congrArg B hb10) rfl) (st (v := (B (decide (Br.1 < Bs.1)))) (rv_pick_f (congrArg B hb7) rfl) (st (v := (B (decide (Br.1 < Bs.1)))) (rv_assign rfl) (w_end (q_then (c_ret ?_)))))))
   obtain rfl := Option.some.inj h
   exact fin_ret (v := (B (decide (Br.1 < Bs.1)))) (results_ok Try.results80 (res_tmp (v := (B (decide (Br.1 < Bs.1)))) rfl res_nil) rfl) ⟨rfl, rfl⟩ (H.sel' [] rfl rfl)
  ·replace h := bif_f hb10 h
   refine st_skip (congrArg some hb10) (st_skip (congrArg some hb10) (st_skip (congrArg some hb10) (st_skip (congrArg some hb10) (st_skip (congrArg some hb10) (st_g (v := (B false)) (congrArg some hb7) (rv_pick_f (congrArg B hb10) rfl) (st (v := (B false)) (rv_pick_f (congrArg B hb7) rfl) (st (v := (B false)) (rv_assign rfl) (w_end (q_then (c_ret ?_))))))))))
   obtain rfl := Option.some.inj h
   exact fin_ret (v := (B false)) (results_ok Try.results80 (res_tmp (v := (B false)) rfl res_nil) rfl) ⟨rfl, rfl⟩ (H.sel' [] rfl rfl)

theorem c_spec_addHit {As : List (Int × Int)} {Gg : Int × Int} {Gh : Int} {Au : Option Addr} {Av : Nat} {r : (List (Int × Int))} (h : M.spec_addHit As Gg Gh = some r) :
    Cal2 Try.prog 68 [(Sl Au As Av), (.agg #[(I Gg.1), (I Gg.2)]), (I Gh)] [Ch.ro 0 (Sl Au As Av) As] (fun n0 v L => ∃ (az1 : Option Addr), ∃ (cz2 : Nat), v = (Sl az1 r cz2) ∧ L = [Ch.own n0 n0 (Sl az1 r cz2) r]) := by
 refine cal2 (n := 58) Try.func68 rfl rfl rfl rfl ?_
 intro S0 σ0 n0 hn0 H
 unfold M.spec_addHit at h
 refine c_seq (rg (st_ex (ex_box (cs := [(I Gg.1), (I Gg.2)]) H hn0 rfl rfl) wn ?_))
 rintro _ σ2 ⟨b1, rfl, H, -⟩
 refine st (v := (.slice none 0 0)) (rv_assign rfl) (w_end (q_then (c_seq ?_)))
 obtain ⟨xs4, hx5, h'⟩ := bind_some h
 clear h
 have h := h'; clear h'
 have hc8 := H.cells 0 rfl
 have Hs := H
 refine rg2 (σ := σ2) (Nm := (Nat) × (Option Addr) × (Nat) × (Nat)) 5 [0, 2, 4] [[false, false, false], [true, false, false], [false, false, true], [true, true, false], [true, false, true], [true, true, true]] [[(0, 1), (2, 4)], [(0, 0), (1, 1), (2, 2), (4, 4)], [(1, 3), (4, 5)], [(0, 0), (1, 1), (3, 3)], [(0, 2), (1, 4), (3, 5)]] 5 [fun ((b3, a6, c7, b9) : (Nat) × (Option Addr) × (Nat) × (Nat)) => fun σm => Hp S0 σ0 σm [Ch.bx n0 b1 0 [(I Gg.1), (I Gg.2)] [] [], Ch.ro 0 (Sl Au As Av) As] ∧ Md (cov []) σ2 σm, fun ((b3, a6, c7, b9) : (Nat) × (Option Addr) × (Nat) × (Nat)) => fun σm => Hp S0 σ0 σm [Ch.own n0 n0 (Sl (some ⟨b3, 0, none⟩) ([] : List (Int × Int)) 0) ([] : List (Int × Int)), Ch.bx n0 b1 0 [(I Gg.1), (I Gg.2)] [] [], Ch.ro 0 (Sl Au As Av) As] ∧ Md (cov []) σ2 σm, fun ((b3, a6, c7, b9) : (Nat) × (Option Addr) × (Nat) × (Nat)) => fun σm => Hp S0 σ0 σm [Ch.own n0 n0 (Sl (some ⟨b9, 0, none⟩) ([(Gg.1, Gg.2)] : List (Int × Int)) 1) ([(Gg.1, Gg.2)] : List (Int × Int)), Ch.bx n0 b1 0 [(I Gg.1), (I Gg.2)] [] [], Ch.ro 0 (Sl Au As Av) As] ∧ Md (cov []) σ2 σm, fun ((b3, a6, c7, b9) : (Nat) × (Option Addr) × (Nat) × (Nat)) => fun σm => Hp S0 σ0 σm [Ch.own n0 n0 (Sl a6 xs4 c7) xs4, Ch.bx n0 b1 0 [(I Gg.1), (I Gg.2)] [] [], Ch.ro 0 (Sl Au As Av) As] ∧ Md (fun i => (cov []) i ∨ (fun b => blk (Sl (some ⟨b3, 0, none⟩) ([] : List (Int × Int)) 0) = some b) i) σ2 σm, fun ((b3, a6, c7, b9) : (Nat) × (Option Addr) × (Nat) × (Nat)) => fun σm => Hp S0 σ0 σm [Ch.own n0 n0 (Sl (some ⟨b9, 0, none⟩) ([(Gg.1, Gg.2)] : List (Int × Int)) 1) ([(Gg.1, Gg.2)] : List (Int × Int)), Ch.own n0 n0 (Sl (some ⟨b3, 0, none⟩) ([] : List (Int × Int)) 0) ([] : List (Int × Int)), Ch.bx n0 b1 0 [(I Gg.1), (I Gg.2)] [] [], Ch.ro 0 (Sl Au As Av) As] ∧ Md (cov []) σ2 σm, fun ((b3, a6, c7, b9) : (Nat) × (Option Addr) × (Nat) × (Nat)) => fun σm => Hp S0 σ0 σm [Ch.own n0 n0 (Sl (some ⟨b9, 0, none⟩) ([(Gg.1, Gg.2)] : List (Int × Int)) 1) ([(Gg.1, Gg.2)] : List (Int × Int)), Ch.own n0 n0 (Sl a6 xs4 c7) xs4, Ch.bx n0 b1 0 [(I Gg.1), (I Gg.2)] [] [], Ch.ro 0 (Sl Au As Av) As] ∧ Md (fun i => (cov []) i ∨ (fun b => blk (Sl (some ⟨b3, 0, none⟩) ([] : List (Int × Int)) 0) = some b) i) σ2 σm] [fun ((b3, a6, c7, b9) : (Nat) × (Option Addr) × (Nat) × (Nat)) => (Sl (some ⟨b3, 0, none⟩) ([] : List (Int × Int)) 0), fun ((b3, a6, c7, b9) : (Nat) × (Option Addr) × (Nat) × (Nat)) => (Sl Au As Av), fun ((b3, a6, c7, b9) : (Nat) × (Option Addr) × (Nat) × (Nat)) => (Sl a6 xs4 c7), fun ((b3, a6, c7, b9) : (Nat) × (Option Addr) × (Nat) × (Nat)) => (.agg #[(I Gg.1), (I Gg.2)]), fun ((b3, a6, c7, b9) : (Nat) × (Option Addr) × (Nat) × (Nat)) => (Sl (some ⟨b9, 0, none⟩) ([(Gg.1, Gg.2)] : List (Int × Int)) 1)] (0, none, 0, 0) (by kernel_rfl) (by kernel_rfl) ?_ ?_ ?_
 ·intro σm m0
  exact ⟨H.grow (m0.mono fun _ h => h.elim), m0⟩
 ·refine all_cons (by
    refine ⟨?_, ?_⟩
    ·rintro ⟨b3, a6, c7, b9⟩ ρ σm hJ hoff hdep
     obtain ⟨H, m⟩ := id hJ
     refine dp_ex wn (ex_buildSlice (el := n0) (xs := ([] : List (Int × Int))) (ps := []) (cs := []) H hn0 Try.underlying81 ti84 rfl rfl (by kernel_rfl) (.nil) rfl) ?_
     rintro _ σq ⟨b3x, rfl, H2, m2⟩
     exact ⟨_, (b3x, a6, c7, b9), rfl, rfl, ⟨H2.sel' [0, 1, 2] rfl rfl, m.comp0 m2⟩, stab [1, 3, 4] (by kernel_rfl) ⟨rfl, rfl, rfl, trivial⟩⟩
    refine ⟨?_, ?_⟩
    ·rintro ⟨b3, a6, c7, b9⟩ ρ σm hJ hoff hdep
     obtain ⟨H, m⟩ := id hJ
     refine dp_ex wn (ex_buildSlice (el := n0) (xs := ([] : List (Int × Int))) (ps := []) (cs := []) H hn0 Try.underlying81 ti84 rfl rfl (by kernel_rfl) (.nil) rfl) ?_
     rintro _ σq ⟨b3x, rfl, H2, m2⟩
     exact ⟨_, (b3x, a6, c7, b9), rfl, rfl, ⟨H2.sel' [1, 0, 2, 3] rfl rfl, m.comp0 m2⟩, stab [1, 3, 4] (by kernel_rfl) ⟨rfl, rfl, rfl, trivial⟩⟩
    trivial) ?_
  refine ac rfl (by
    intro k; rintro ⟨b3, a6, c7, b9⟩ ρ σm hJ hoff hdep
    have e0 := look_off (N := 58) (hoff 0 rfl) rfl
    exact dp_v (v := (Sl Au As Av)) wn (rv_move e0) rfl hJ) ?_
  refine all_cons (by
    refine ⟨?_, ?_⟩
    ·rintro ⟨b3, a6, c7, b9⟩ ρ σm hJ hoff hdep
     have e10 := hdep 0 rfl rfl 10 rfl
     have e11 := hdep 1 rfl rfl 11 rfl
     obtain ⟨H, m⟩ := id hJ
     refine dp_ex wn (ex_append H (i := 0) rfl Try.underlying81 Try.underlying81 ti84 rfl rfl (by decide) ((H.ro 2 rfl).rd.sc) hx5 hn0 e10 e11) ?_
     rintro _ σq ⟨a6x, c7x, rfl, H2, m2⟩
     exact ⟨_, (b3, a6x, c7x, b9), rfl, rfl, ⟨H2.sel' [0, 1, 2] rfl rfl, m.comp m2⟩, stab [0, 1, 3, 4] (by kernel_rfl) ⟨rfl, rfl, rfl, rfl, trivial⟩⟩
    refine ⟨?_, ?_⟩
    ·rintro ⟨b3, a6, c7, b9⟩ ρ σm hJ hoff hdep
     have e10 := hdep 0 rfl rfl 10 rfl
     have e11 := hdep 1 rfl rfl 11 rfl
     obtain ⟨H, m⟩ := id hJ
     refine dp_ex wn (ex_append H (i := 1) rfl Try.underlying81 Try.underlying81 ti84 rfl rfl (by decide) ((H.ro 3 rfl).rd.sc) hx5 hn0 e10 e11) ?_
     rintro _ σq ⟨a6x, c7x, rfl, H2, m2⟩
     exact ⟨_, (b3, a6x, c7x, b9), rfl, rfl, ⟨H2.sel' [1, 0, 2, 3] rfl rfl, m.comp m2⟩, stab [0, 1, 3, 4] (by kernel_rfl) ⟨rfl, rfl, rfl, rfl, trivial⟩⟩
    trivial) ?_
  refine all_cons (by
    refine ⟨?_, ?_⟩
    ·rintro ⟨b3, a6, c7, b9⟩ ρ σm hJ hoff hdep
     have e4 := look_off (N := 58) (hoff 4 rfl) rfl
     obtain ⟨H, m⟩ := id hJ
     have hc8 := H.cells 0 rfl
     exact dp_v (v := (.agg #[(I Gg.1), (I Gg.2)])) wn (rv_load (cs := [(I Gg.1), (I Gg.2)]) Try.underlying84 rfl ti84 e4 rfl hc8) rfl hJ
    refine ⟨?_, ?_⟩
    ·rintro ⟨b3, a6, c7, b9⟩ ρ σm hJ hoff hdep
     have e4 := look_off (N := 58) (hoff 4 rfl) rfl
     obtain ⟨H, m⟩ := id hJ
     have hc8 := H.cells 1 rfl
     exact dp_v (v := (.agg #[(I Gg.1), (I Gg.2)])) wn (rv_load (cs := [(I Gg.1), (I Gg.2)]) Try.underlying84 rfl ti84 e4 rfl hc8) rfl hJ
    refine ⟨?_, ?_⟩
    ·rintro ⟨b3, a6, c7, b9⟩ ρ σm hJ hoff hdep
     have e4 := look_off (N := 58) (hoff 4 rfl) rfl
     obtain ⟨H, m⟩ := id hJ
     have hc8 := H.cells 1 rfl
     exact dp_v (v := (.agg #[(I Gg.1), (I Gg.2)])) wn (rv_load (cs := [(I Gg.1), (I Gg.2)]) Try.underlying84 rfl ti84 e4 rfl hc8) rfl hJ
    trivial) ?_
  refine all_cons (by
    refine ⟨?_, ?_⟩
    ·rintro ⟨b3, a6, c7, b9⟩ ρ σm hJ hoff hdep
     have e13 : look 58 ρ 13 = (.agg #[(I Gg.1), (I Gg.2)]) := hdep 3 rfl rfl 13 rfl
     obtain ⟨H, m⟩ := id hJ
     refine dp_ex wn (ex_buildSlice (el := n0) (xs := ([(Gg.1, Gg.2)] : List (Int × Int))) (ps := [(0, (.agg #[(I Gg.1), (I Gg.2)]))]) (cs := [(I Gg.1), (I Gg.2)]) H hn0 Try.underlying81 ti84 rfl (by show [(0, look 58 ρ 13)] = _; rw [e13]) (by kernel_rfl) (.cons (c := [(I Gg.1), (I Gg.2)]) ⟨[(I Gg.1)], [(I Gg.2)], rfl, rfl, rfl⟩ (.nil)) rfl) ?_
     rintro _ σq ⟨b9x, rfl, H2, m2⟩
     exact ⟨_, (b3, a6, c7, b9x), rfl, rfl, ⟨H2.sel' [0, 1, 2] rfl rfl, m.comp0 m2⟩, stab [0, 1, 2, 3] (by kernel_rfl) ⟨rfl, rfl, rfl, rfl, trivial⟩⟩
    refine ⟨?_, ?_⟩
    ·rintro ⟨b3, a6, c7, b9⟩ ρ σm hJ hoff hdep
     have e13 : look 58 ρ 13 = (.agg #[(I Gg.1), (I Gg.2)]) := hdep 3 rfl rfl 13 rfl
     obtain ⟨H, m⟩ := id hJ
     refine dp_ex wn (ex_buildSlice (el := n0) (xs := ([(Gg.1, Gg.2)] : List (Int × Int))) (ps := [(0, (.agg #[(I Gg.1), (I Gg.2)]))]) (cs := [(I Gg.1), (I Gg.2)]) H hn0 Try.underlying81 ti84 rfl (by show [(0, look 58 ρ 13)] = _; rw [e13]) (by kernel_rfl) (.cons (c := [(I Gg.1), (I Gg.2)]) ⟨[(I Gg.1)], [(I Gg.2)], rfl, rfl, rfl⟩ (.nil)) rfl) ?_
     rintro _ σq ⟨b9x, rfl, H2, m2⟩
     exact ⟨_, (b3, a6, c7, b9x), rfl, rfl, ⟨H2.sel' [0, 1, 2, 3] rfl rfl, m.comp0 m2⟩, stab [0, 1, 2, 3] (by kernel_rfl) ⟨rfl, rfl, rfl, rfl, trivial⟩⟩
    refine ⟨?_, ?_⟩
    ·rintro ⟨b3, a6, c7, b9⟩ ρ σm hJ hoff hdep
     have e13 : look 58 ρ 13 = (.agg #[(I Gg.1), (I Gg.2)]) := hdep 3 rfl rfl 13 rfl
     obtain ⟨H, m⟩ := id hJ
     refine dp_ex wn (ex_buildSlice (el := n0) (xs := ([(Gg.1, Gg.2)] : List (Int × Int))) (ps := [(0, (.agg #[(I Gg.1), (I Gg.2)]))]) (cs := [(I Gg.1), (I Gg.2)]) H hn0 Try.underlying81 ti84 rfl (by show [(0, look 58 ρ 13)] = _; rw [e13]) (by kernel_rfl) (.cons (c := [(I Gg.1), (I Gg.2)]) ⟨[(I Gg.1)], [(I Gg.2)], rfl, rfl, rfl⟩ (.nil)) rfl) ?_
     rintro _ σq ⟨b9x, rfl, H2, m2⟩
     exact ⟨_, (b3, a6, c7, b9x), rfl, rfl, ⟨H2.sel' [0, 1, 2, 3] rfl rfl, m.comp0 m2⟩, stab [0, 1, 2, 3] (by kernel_rfl) ⟨rfl, rfl, rfl, rfl, trivial⟩⟩
    trivial) ?_
  exact all_nil
 ·rintro ⟨b3, a6, c7, b9⟩ ρ σ10 hJ hoff hrel
  have e2 := look_off (N := 58) (hoff 2 rfl) rfl
  have e12 := hrel 2 rfl 12 rfl
  have e14 := hrel 4 rfl 14 rfl
  obtain ⟨H, -⟩ := (show Hp S0 σ0 σ10 [Ch.own n0 n0 (Sl (some ⟨b9, 0, none⟩) ([(Gg.1, Gg.2)] : List (Int × Int)) 1) ([(Gg.1, Gg.2)] : List (Int × Int)), Ch.own n0 n0 (Sl a6 xs4 c7) xs4, Ch.bx n0 b1 0 [(I Gg.1), (I Gg.2)] [] [], Ch.ro 0 (Sl Au As Av) As] ∧ Md (fun i => (cov []) i ∨ (fun b => blk (Sl (some ⟨b3, 0, none⟩) ([] : List (Int × Int)) 0) = some b) i) σ2 σ10 from hJ)
  clear hJ Hs
  rw [fr_lookL (L := [(2, (I Gh)), (12, (Sl a6 xs4 c7)), (14, (Sl (some ⟨b9, 0, none⟩) ([(Gg.1, Gg.2)] : List (Int × Int)) 1))]) ⟨e2, e12, e14, trivial⟩]
  clear hoff hrel e2 e12 e14
  obtain ⟨xs11, hx12, h'⟩ := bind_some h
  clear h
  have h := h'; clear h'
  refine st_ex (ex_append H (i := 1) rfl Try.underlying81 Try.underlying81 ti84 rfl rfl (by decide) (H.own 0 rfl).rd hx12 hn0 rfl rfl) wn ?_
  rintro _ σ15 ⟨a13, c14, rfl, H, -⟩
  refine st (v := (Sl a13 xs11 c14)) (rv_assign rfl) (w_end (q_then (c_seq (c_seq (rg (st (v := (Sl a13 xs11 c14)) (rv_move rfl) (st (v := (I (xs11.length : Int))) (rv_len Try.underlying81 rfl) (st (v := (I (w64 ((xs11.length : Int) - 1)))) (rv_sub (a := (xs11.length : Int)) (b := 1) rfl rfl) (st (v := (I (w64 ((xs11.length : Int) - 1)))) (rv_assign rfl) (w_end (q_then ?_)))))))))))
  obtain ⟨o16, hj, h'⟩ := bind_some h
  clear h
  refine c_cut (fun e a w => e = .normal ∧ ∃ (ρ : Nat → Value) (σ : St), a = fr 58 (updL ρ [(2, (I Gh)), (7, (Sl a13 o16 c14))]) ∧ w = σ.w ∧ Hp S0 σ0 σ [Ch.own n0 n0 (Sl a13 o16 c14) o16] ∧ o16.length = xs11.length) ?_ ?_
  ·clear h'
   rename _ = some o16 => h
   refine c_blk (wp_loopM _ h (fun s17 a w => ∃ (ρ : Nat → Value) (σ : St), a = fr 58 (updL ρ [(2, (I Gh)), (7, (Sl a13 s17.1 c14)), (8, (I s17.2))]) ∧ w = σ.w ∧ Hp S0 σ0 σ [Ch.own n0 n0 (Sl a13 s17.1 c14) s17.1] ∧ s17.1.length = xs11.length) ⟨_, σ15, fr_join ⟨rfl, rfl, rfl, trivial⟩, rfl, H.sel' [0] rfl rfl, rfl⟩ ?_)
   clear h H
   rintro s17 a w o ⟨ρ, σ18, rfl, rfl, H, hn19⟩ h hres
   refine c_seq (c_seq ?_)
   obtain ⟨o20, hj, h'⟩ := bind_some h
   clear h
   refine c_cut (fun e a w => e = .normal ∧ ∃ (ρ : Nat → Value) (σ : St), a = fr 58 (updL ρ [(2, (I Gh)), (7, (Sl a13 s17.1 c14)), (8, (I s17.2)), (32, (B o20))]) ∧ w = σ.w ∧ Hp S0 σ0 σ [Ch.own n0 n0 (Sl a13 s17.1 c14) s17.1]) ?_ ?_
   ·clear h'
    rename _ = some o20 => h
    refine rgP (σ := σ18) 12 (by kernel_rfl) (by kernel_rfl) (by kernel_rfl) ?_
    refine sq (v := (I s17.2)) (rv_move rfl) (sq (v := (B (decide (0 < s17.2)))) (rv_gtr (a := s17.2) (b := 0) rfl rfl) (sq (v := (B (decide (0 < s17.2)))) (rv_move rfl) ?_))
    rcases Bool.eq_false_or_eq_true (decide (0 < s17.2)) with hb21 | hb21
    ·replace h := bif_t hb21 h
     refine sq_g (v := (Sl a13 s17.1 c14)) (congrArg some hb21) (rv_move rfl) (sq_g (v := (I s17.2)) (congrArg some hb21) (rv_move rfl) ?_)
     obtain ⟨x22, hx23, h'⟩ := bind_some h
     clear h
     have h := h'; clear h'
     obtain ⟨b25, o26, hi24, -⟩ := (H.own 0 rfl).ix hx23
     refine sq_g (v := (pt b25 o26)) (congrArg some hb21) (rv_ix Try.underlying81 ti84 rfl rfl hi24) ?_
     obtain ⟨_, ⟨_, _, rfl, rfl, rfl⟩, hl27, hc28⟩ := ((H.own 0 rfl).at hx23 hi24).cells
     refine sq_g (v := (.agg #[(I x22.1), (I x22.2)])) (congrArg some hb21) (rv_load Try.underlying84 rfl ti84 rfl hl27 hc28) (sq_g (v := (Sl a13 s17.1 c14)) (congrArg some hb21) (rv_move rfl) (sq_g (v := (I s17.2)) (congrArg some hb21) (rv_move rfl) (sq_g (v := (I (w64 (s17.2 - 1)))) (congrArg some hb21) (rv_sub (a := s17.2) (b := 1) rfl rfl) ?_)))
     obtain ⟨x29, hx30, h'⟩ := bind_some h
     clear h
     have h := h'; clear h'
     obtain ⟨b32, o33, hi31, -⟩ := (H.own 0 rfl).ix hx30
     refine sq_g (v := (pt b32 o33)) (congrArg some hb21) (rv_ix Try.underlying81 ti84 rfl rfl hi31) ?_
     obtain ⟨_, ⟨_, _, rfl, rfl, rfl⟩, hl34, hc35⟩ := ((H.own 0 rfl).at hx30 hi31).cells
     refine sq_g (v := (.agg #[(I x29.1), (I x29.2)])) (congrArg some hb21) (rv_load Try.underlying84 rfl ti84 rfl hl34 hc35) (sq_end ?_)
     intro σ36 hm37
     replace H := H.grow (hm37.mono fun _ h => h); clear hm37
     obtain ⟨r38, hx39, h'⟩ := bind_some h
     clear h
     have h := h'; clear h'
     have hc40 := c_spec_nearer hx39
     refine st_call (cx_call hc40 (ent_f hc40.fn rfl) hn0 (H.sel' [0] rfl rfl : Hp S0 σ0 _ ([] ++ _))) (wanted_yes rfl (by exact (congrArg some hb21))) ?_
     rintro _ σ41 ⟨_, ⟨rfl, rfl⟩, H, -⟩
     replace H : Hp _ _ _ [_] := H
     refine st (v := (B r38)) (rv_pick_t (congrArg B hb21) rfl) (w_end ?_)
     obtain rfl := Option.some.inj h
     exact ⟨rfl, _, σ41, fr_join ⟨rfl, rfl, rfl, rfl, trivial⟩, rfl, H.sel' [0] rfl rfl⟩
    ·replace h := bif_f hb21 h
     refine sq_skip (congrArg some hb21) (sq_skip (congrArg some hb21) (sq_skip (congrArg some hb21) (sq_skip (congrArg some hb21) (sq_skip (congrArg some hb21) (sq_skip (congrArg some hb21) (sq_skip (congrArg some hb21) (sq_skip (congrArg some hb21) (sq_skip (congrArg some hb21) (sq_end ?_)))))))))
     intro σ42 hm43
     replace H := H.grow (hm43.mono fun _ h => h); clear hm43
     refine st_skip (congrArg some hb21) (st (v := (B false)) (rv_pick_f (congrArg B hb21) rfl) (w_end ?_))
     obtain rfl := Option.some.inj h
     exact ⟨rfl, _, σ42, fr_join ⟨rfl, rfl, rfl, rfl, trivial⟩, rfl, H.sel' [0] rfl rfl⟩
   ·clear hj
    have h := h'
    clear h' H
    rintro e a w ⟨rfl, ρ, σ44, rfl, rfl, H⟩
    refine q_then ?_
    refine cd_cond o20 rfl (fun hb45 => ?_) (fun hb45 => ?_)
    ·replace h := bif_t hb45 h
     refine c_skip (q_then (c_seq (c_blk (c_seq (rg (st (v := (Sl a13 s17.1 c14)) (rv_move rfl) (st (v := (I s17.2)) (rv_move rfl) ?_)))))))
     obtain ⟨x46, hx47, h'⟩ := bind_some h
     clear h
     have h := h'; clear h'
     obtain ⟨b49, o50, hi48, -⟩ := (H.own 0 rfl).ix hx47
     refine st (v := (pt b49 o50)) (rv_ix Try.underlying81 ti84 rfl rfl hi48) ?_
     obtain ⟨_, ⟨_, _, rfl, rfl, rfl⟩, hl51, hc52⟩ := ((H.own 0 rfl).at hx47 hi48).cells
     refine st (v := (.agg #[(I x46.1), (I x46.2)])) (rv_load Try.underlying84 rfl ti84 rfl hl51 hc52) (st_ex (ex_alloc (cs := [(I 0), (I 0)]) H hn0 ti84 rfl) wn ?_)
     rintro _ σ54 ⟨b53, rfl, H, -⟩
     refine st_exS (ex_store_box (k := 0) (cs := [(I 0), (I 0)]) (vs := [(I x46.1), (I x46.2)]) (cs' := [(I x46.1), (I x46.2)]) H (i := 0) rfl ti84 rfl rfl rfl rfl rfl (Nat.le_of_ble_eq_true rfl) (by simp [plain]) rfl) wn ?_
     rintro σ55 ⟨H, -⟩
     refine w_end (q_then (c_seq (rg (st (v := (Sl a13 s17.1 c14)) (rv_move rfl) (st (v := (I s17.2)) (rv_move rfl) (st (v := (Sl a13 s17.1 c14)) (rv_move rfl) (st (v := (I s17.2)) (rv_move rfl) (st (v := (I (w64 (s17.2 - 1)))) (rv_sub (a := s17.2) (b := 1) rfl rfl) ?_))))))))
     obtain ⟨x56, hx57, h'⟩ := bind_some h
     clear h
     have h := h'; clear h'
     obtain ⟨b59, o60, hi58, -⟩ := (H.own 1 rfl).ix hx57
     refine st (v := (pt b59 o60)) (rv_ix Try.underlying81 ti84 rfl rfl hi58) ?_
     obtain ⟨_, ⟨_, _, rfl, rfl, rfl⟩, hl61, hc62⟩ := ((H.own 1 rfl).at hx57 hi58).cells
     refine st (v := (.agg #[(I x56.1), (I x56.2)])) (rv_load Try.underlying84 rfl ti84 rfl hl61 hc62) ?_
     obtain ⟨x63, hx64, h'⟩ := bind_some h
     clear h
     have h := h'; clear h'
     obtain ⟨b66, o67, hi65, -⟩ := (H.own 1 rfl).ix hx64
     refine st (v := (pt b66 o67)) (rv_ix Try.underlying81 ti84 rfl rfl hi65) ?_
     refine st_exS (ex_store_own (e' := (x56.1, x56.2)) (vs := [(I x56.1), (I x56.2)]) (k := 0) H (i := 1) rfl ti84 hx64 hi65 rfl rfl rfl rfl rfl (Nat.le_of_ble_eq_true rfl) (by simp [plain]) (by rintro _ ⟨_, _, rfl, rfl, rfl⟩; exact ⟨[(I x56.1)], [(I x56.2)], rfl, rfl, rfl⟩)) wn ?_
     rintro σ68 ⟨H, -⟩
     have hsl : (Sl a13 s17.1 c14) = (Sl a13 (s17.1.set s17.2.toNat (x56.1, x56.2)) c14) := sl_len List.length_set.symm
     rw [hsl]; rw [hsl] at H; clear hsl
     refine w_end (q_then (rg (st (v := (Sl a13 (s17.1.set s17.2.toNat (x56.1, x56.2)) c14)) (rv_move rfl) (st (v := (I s17.2)) (rv_move rfl) (st (v := (I (w64 (s17.2 - 1)))) (rv_sub (a := s17.2) (b := 1) rfl rfl) ?_)))))
     have hc69 := H.cells 1 rfl
     refine st (v := (.agg #[(I x46.1), (I x46.2)])) (rv_load (cs := [(I x46.1), (I x46.2)]) Try.underlying84 rfl ti84 rfl rfl hc69) ?_
     obtain ⟨x70, hx71, h'⟩ := bind_some h
     clear h
     have h := h'; clear h'
     obtain ⟨b73, o74, hi72, -⟩ := (H.own 0 rfl).ix hx71
     refine st (v := (pt b73 o74)) (rv_ix Try.underlying81 ti84 rfl rfl hi72) ?_
     refine st_exS (ex_store_own (e' := (x46.1, x46.2)) (vs := [(I x46.1), (I x46.2)]) (k := 0) H (i := 0) rfl ti84 hx71 hi72 rfl rfl rfl rfl rfl (Nat.le_of_ble_eq_true rfl) (by simp [plain]) (by rintro _ ⟨_, _, rfl, rfl, rfl⟩; exact ⟨[(I x46.1)], [(I x46.2)], rfl, rfl, rfl⟩)) wn ?_
     rintro σ75 ⟨H, -⟩
     have hsl : (Sl a13 (s17.1.set s17.2.toNat (x56.1, x56.2)) c14) = (Sl a13 ((s17.1.set s17.2.toNat (x56.1, x56.2)).set (w64 (s17.2 - 1)).toNat (x46.1, x46.2)) c14) := sl_len List.length_set.symm
     rw [hsl]; rw [hsl] at H; clear hsl
     refine w_end (q_blk (q_then (rg (st (v := (I s17.2)) (rv_move rfl) (st (v := (I (w64 (s17.2 - 1)))) (rv_sub (a := s17.2) (b := 1) rfl rfl) (st (v := (I (w64 (s17.2 - 1)))) (rv_assign rfl) (w_end (q_then ?_))))))))
     obtain rfl := Option.some.inj h
     exact ⟨_, rfl, _, σ75, fr_join ⟨rfl, rfl, rfl, trivial⟩, rfl, H.sel' [0] rfl rfl, (List.length_set.trans (List.length_set.trans hn19))⟩
    ·replace h := bif_f hb45 h
     refine c_exit (q_then_x (q_then_x (q_blk_hit ?_)))
     obtain rfl := Option.some.inj h
     obtain rfl := hres _ rfl
     exact ⟨rfl, _, σ44, fr_join ⟨rfl, rfl, trivial⟩, rfl, H.sel' [0] rfl rfl, hn19⟩
  ·clear hj
   have h := h'
   clear h' H
   rintro e a w ⟨rfl, ρ, σ76, rfl, rfl, H, hn77⟩
   refine q_then (c_seq (rg (st (v := (Sl a13 o16 c14)) (rv_move rfl) (st (v := (I Gh)) (rv_move rfl) (st (v := (Sl a13 o16 c14)) (rv_move rfl) (st (v := (I (o16.length : Int))) (rv_len Try.underlying81 rfl) (st (v := (I (min Gh (o16.length : Int)))) (rv_min rfl rfl) ?_)))))))
   obtain ⟨xs78, hx79, h'⟩ := bind_some h
   clear h
   have h := h'; clear h'
   obtain ⟨a80, c81, hs82, hR83, hb84⟩ := (H.own 0 rfl).slice hx79
   replace H := (H.front (i := 0) rfl).turn (d := Ch.own n0 n0 (Sl a80 xs78 c81) xs78) (fun _ => hR83) hb84; clear hR83 hb84
   refine st (v := (Sl a80 xs78 c81)) (rv_slice_h Try.underlying81 ti84 hs82 rfl rfl) (st (v := (Sl a80 xs78 c81)) (rv_assign rfl) (w_end (q_then (c_ret ?_))))
   obtain rfl := Option.some.inj h
   exact fin_ret (v := (Sl a80 xs78 c81)) (results_ok Try.results68 (res_tmp (v := (Sl a80 xs78 c81)) rfl res_nil) rfl) ⟨a80, c81, rfl, rfl⟩ (H.sel' [0] rfl rfl)

theorem c_spec_probes {Bj : List (List Int)} {Bk : List Int} {Bl : Int} {Bm : Option Addr} {Bn : Nat} {Bo : Option Addr} {Bp : Nat} {r : (List Int)} (h : M.spec_probes Bj Bk Bl = some r) :
    Cal2 Try.prog 46 [(Sl Bm Bj Bn), (Sl Bo Bk Bp), (I Bl)] [Ch.ro 0 (Sl Bm Bj Bn) Bj, Ch.ro 0 (Sl Bo Bk Bp) Bk] (fun n0 v L => ∃ (az1 : Option Addr), ∃ (cz2 : Nat), v = (Sl az1 r cz2) ∧ L = [Ch.own n0 n0 (Sl az1 r cz2) r]) := by
 refine cal2 (n := 45) Try.func46 rfl rfl rfl rfl ?_
 intro S0 σ0 n0 hn0 H
 unfold M.spec_probes at h
 refine c_seq (rg (st (v := (.slice none 0 0)) (rv_assign rfl) (w_end (q_then (c_seq (rg ?_))))))
 refine st_ex (ex_buildSlice (el := n0) (xs := ([] : List (Int × Int))) (ps := []) (cs := []) H hn0 Try.underlying81 ti84 rfl rfl (by kernel_rfl) (.nil) rfl) wn ?_
 rintro _ σ2 ⟨b1, rfl, H, -⟩
 refine st (v := (Sl (some ⟨b1, 0, none⟩) ([] : List (Int × Int)) 0)) (rv_assign rfl) (w_end (q_then (c_seq (c_seq (rg (st (v := (I 0)) (rv_assign rfl) (w_end (q_then ?_))))))))
 obtain ⟨o3, hj, h'⟩ := bind_some h
 clear h
 refine c_cut (fun e a w => e = .normal ∧ ∃ (ρ : Nat → Value) (σ : St) (aj1 : Option Addr) (cj2 : Nat), a = fr 45 (updL ρ [(7, (Sl aj1 o3 cj2))]) ∧ w = σ.w ∧ Hp S0 σ0 σ [Ch.own n0 n0 (Sl aj1 o3 cj2) o3]) ?_ ?_
 ·clear h'
  rename _ = some o3 => h
  refine c_blk (wp_loopM _ h (fun s4 a w => ∃ (ρ : Nat → Value) (σ : St) (aj1 : Option Addr) (cj2 : Nat), a = fr 45 (updL ρ [(0, (Sl Bm Bj Bn)), (1, (Sl Bo Bk Bp)), (2, (I Bl)), (7, (Sl aj1 s4.1 cj2)), (8, (I s4.2))]) ∧ w = σ.w ∧ Hp S0 σ0 σ [Ch.ro 0 (Sl Bm Bj Bn) Bj, Ch.ro 0 (Sl Bo Bk Bp) Bk, Ch.own n0 n0 (Sl aj1 s4.1 cj2) s4.1]) ⟨_, σ2, (some ⟨b1, 0, none⟩), 0, fr_join ⟨rfl, rfl, rfl, rfl, rfl, trivial⟩, rfl, H.sel' [1, 2, 0] rfl rfl⟩ ?_)
  clear h H
  rintro s4 a w o ⟨ρ, σ5, a6, c7, rfl, rfl, H⟩ h hres
  refine c_seq (c_seq (rg (st (v := (I s4.2)) (rv_move rfl) (st (v := (Sl Bm Bj Bn)) (rv_move rfl) (st (v := (I (Bj.length : Int))) (rv_len Try.underlying23 rfl) (st (v := (B (decide (s4.2 < (Bj.length : Int))))) (rv_lss (a := s4.2) (b := (Bj.length : Int)) rfl rfl) (w_end (q_then ?_))))))))
  refine cd_cond (decide (s4.2 < (Bj.length : Int))) rfl (fun hb8 => ?_) (fun hb8 => ?_)
  ·replace h := bif_t hb8 h
   refine c_skip (q_then (c_seq (c_blk (rg (st (v := (Sl a6 s4.1 c7)) (rv_move rfl) (st (v := (I s4.2)) (rv_move rfl) (st (v := (Sl Bm Bj Bn)) (rv_move rfl) (st (v := (I s4.2)) (rv_move rfl) ?_))))))))
   obtain ⟨x9, hx10, h'⟩ := bind_some h
   clear h
   have h := h'; clear h'
   obtain ⟨b12, o13, hi11, -⟩ := (H.ro 0 rfl).ix hx10
   refine st (v := (pt b12 o13)) (rv_ix Try.underlying23 ti29 rfl rfl hi11) ?_
   obtain ⟨v17, hc18, hR16⟩ := ((H.ro 0 rfl).at hx10 hi11).slice
   obtain ⟨a14, c15, rfl⟩ := hR16.isSl
   replace H := H.add (d := Ch.ro 0 (Sl a14 x9 c15) x9) hR16 (fun _ h => h)
   clear hR16
   refine st (v := (Sl a14 x9 c15)) (rv_load1 Try.underlying29 rfl rfl hc18) (st (v := (Sl Bo Bk Bp)) (rv_move rfl) ?_)
   obtain ⟨r19, hx20, h'⟩ := bind_some h
   clear h
   have h := h'; clear h'
   have hc21 := c_spec_dist (Cb := a14) (Cc := c15) (Cd := Bo) (Ce := Bp) hx20
   refine st_call (cx_call hc21 (ent_f hc21.fn rfl) hn0 (H.sel' [0, 2, 0, 1, 2, 3] rfl rfl : Hp S0 σ0 _ ([_, _] ++ _))) wn ?_
   rintro _ σ22 ⟨_, ⟨rfl, rfl⟩, H, -⟩
   replace H : Hp _ _ _ [_, _, _, _] := H
   refine st (v := (.agg #[(I s4.2), (I r19)])) (rv_build (ps := [(0, (I s4.2)), (1, (I r19))]) Try.underlying84 ti84 (bp84 Try.underlying84) rfl (by kernel_rfl)) ?_
   refine st (v := (I Bl)) (rv_move rfl) ?_
   obtain ⟨σ23, hw24, H, -⟩ := H.pub 3 rfl (Nat.le_refl _)
   rw [← hw24]; clear hw24
   replace H := H.roLow 0 0 rfl (Nat.zero_le _)
   obtain ⟨r25, hx26, h'⟩ := bind_some h
   clear h
   have h := h'; clear h'
   have hc27 := c_spec_addHit (Au := a6) (Av := c7) hx26
   refine st_call (cx_call hc27 (ent_f hc27.fn rfl) hn0 (H.sel' [0, 0, 1, 2, 3, 4] rfl rfl : Hp S0 σ0 _ ([_] ++ _))) wn ?_
   rintro _ σ30 ⟨_, ⟨a28, c29, rfl, rfl⟩, H, -⟩
   replace H : Hp _ _ _ [_, _, _, _, _, _] := H
   refine st (v := (Sl a28 r25 c29)) (rv_assign rfl) (w_end (q_blk (q_then (rg (st (v := (I s4.2)) (rv_move rfl) (st (v := (I (w64 (s4.2 + 1)))) (rv_add (a := s4.2) (b := 1) rfl rfl) (st (v := (I (w64 (s4.2 + 1)))) (rv_assign rfl) (w_end (q_then ?_)))))))))
   obtain rfl := Option.some.inj h
   exact ⟨_, rfl, _, σ30, a28, c29, fr_join ⟨rfl, rfl, rfl, rfl, rfl, trivial⟩, rfl, H.sel' [4, 5, 0] rfl rfl⟩
  ·replace h := bif_f hb8 h
   refine c_exit (q_then_x (q_then_x (q_blk_hit ?_)))
   obtain rfl := Option.some.inj h
   obtain rfl := hres _ rfl
   exact ⟨rfl, _, σ5, a6, c7, fr_join ⟨rfl, trivial⟩, rfl, H.sel' [2] rfl rfl⟩
 ·clear hj
  have h := h'
  clear h' H
  rintro e a w ⟨rfl, ρ, σ31, a32, c33, rfl, rfl, H⟩
  refine q_then (c_seq (rg ?_))
  refine st_ex (ex_buildSlice (el := n0) (xs := ([] : List Int)) (ps := []) (cs := []) H hn0 Try.underlying29 ti3 rfl rfl (by kernel_rfl) (.nil) rfl) wn ?_
  rintro _ σ35 ⟨b34, rfl, H, -⟩
  refine st (v := (Sl (some ⟨b34, 0, none⟩) ([] : List Int) 0)) (rv_assign rfl) (w_end (q_then (c_seq (c_seq (rg (st (v := (I 0)) (rv_assign rfl) (w_end (q_then ?_))))))))
  obtain ⟨o36, hj, h'⟩ := bind_some h
  clear h
  refine c_cut (fun e a w => e = .normal ∧ ∃ (ρ : Nat → Value) (σ : St) (aj1 : Option Addr) (cj2 : Nat), a = fr 45 (updL ρ [(9, (Sl aj1 o36 cj2))]) ∧ w = σ.w ∧ Hp S0 σ0 σ [Ch.own n0 n0 (Sl aj1 o36 cj2) o36]) ?_ ?_
  ·clear h'
   rename _ = some o36 => h
   refine c_blk (wp_loopM _ h (fun s37 a w => ∃ (ρ : Nat → Value) (σ : St) (aj1 : Option Addr) (cj2 : Nat), a = fr 45 (updL ρ [(7, (Sl a32 o3 c33)), (9, (Sl aj1 s37.1 cj2)), (10, (I s37.2))]) ∧ w = σ.w ∧ Hp S0 σ0 σ [Ch.own n0 n0 (Sl a32 o3 c33) o3, Ch.own n0 n0 (Sl aj1 s37.1 cj2) s37.1]) ⟨_, σ35, (some ⟨b34, 0, none⟩), 0, fr_join ⟨rfl, rfl, rfl, trivial⟩, rfl, H.sel' [1, 0] rfl rfl⟩ ?_)
   clear h H
   rintro s37 a w o ⟨ρ, σ38, a39, c40, rfl, rfl, H⟩ h hres
   refine c_seq (c_seq (rg (st (v := (I s37.2)) (rv_move rfl) (st (v := (Sl a32 o3 c33)) (rv_move rfl) (st (v := (I (o3.length : Int))) (rv_len Try.underlying81 rfl) (st (v := (B (decide (s37.2 < (o3.length : Int))))) (rv_lss (a := s37.2) (b := (o3.length : Int)) rfl rfl) (w_end (q_then ?_))))))))
   refine cd_cond (decide (s37.2 < (o3.length : Int))) rfl (fun hb41 => ?_) (fun hb41 => ?_)
   ·replace h := bif_t hb41 h
    refine c_skip (q_then (c_seq (c_blk (rg (st (v := (Sl a39 s37.1 c40)) (rv_move rfl) (st (v := (Sl a32 o3 c33)) (rv_move rfl) (st (v := (I s37.2)) (rv_move rfl) ?_)))))))
    obtain ⟨x42, hx43, h'⟩ := bind_some h
    clear h
    have h := h'; clear h'
    obtain ⟨b45, o46, hi44, -⟩ := (H.own 0 rfl).ix hx43
    refine st (v := (pt b45 o46)) (rv_ix Try.underlying81 ti84 rfl rfl hi44) (st (v := (pt b45 (o46 + 0))) (rv_fieldAddr (off := 0) (ft := 3) Try.underlying84 rfl ti3 rfl rfl) ?_)
    have hc47 := ((H.own 0 rfl).at hx43 hi44).fst.int
    refine st (v := (I x42.1)) (rv_load1 Try.underlying3 rfl rfl hc47) ?_
    refine st_ex (ex_buildSlice (el := n0) (xs := ([x42.1] : List Int)) (ps := [(0, (I x42.1))]) (cs := [(I x42.1)]) H hn0 Try.underlying29 ti3 rfl rfl (by kernel_rfl) (.cons (c := [(I x42.1)]) rfl (.nil)) rfl) wn ?_
    rintro _ σ49 ⟨b48, rfl, H, -⟩
    obtain ⟨xs50, hx51, h'⟩ := bind_some h
    clear h
    have h := h'; clear h'
    refine st_ex (ex_append H (i := 2) rfl Try.underlying29 Try.underlying29 ti3 rfl rfl (by decide) (H.own 0 rfl).rd hx51 hn0 rfl rfl) wn ?_
    rintro _ σ54 ⟨a52, c53, rfl, H, -⟩
    refine st (v := (Sl a52 xs50 c53)) (rv_assign rfl) (w_end (q_blk (q_then (rg (st (v := (I s37.2)) (rv_move rfl) (st (v := (I (w64 (s37.2 + 1)))) (rv_add (a := s37.2) (b := 1) rfl rfl) (st (v := (I (w64 (s37.2 + 1)))) (rv_assign rfl) (w_end (q_then ?_)))))))))
    obtain rfl := Option.some.inj h
    exact ⟨_, rfl, _, σ54, a52, c53, fr_join ⟨rfl, rfl, rfl, trivial⟩, rfl, H.sel' [2, 0] rfl rfl⟩
   ·replace h := bif_f hb41 h
    refine c_exit (q_then_x (q_then_x (q_blk_hit ?_)))
    obtain rfl := Option.some.inj h
    obtain rfl := hres _ rfl
    exact ⟨rfl, _, σ38, a39, c40, fr_join ⟨rfl, trivial⟩, rfl, H.sel' [1] rfl rfl⟩
  ·clear hj
   have h := h'
   clear h' H
   rintro e a w ⟨rfl, ρ, σ55, a56, c57, rfl, rfl, H⟩
   refine q_then (c_seq (rg (st (v := (Sl a56 o36 c57)) (rv_move rfl) (st (v := (Sl a56 o36 c57)) (rv_assign rfl) (w_end (q_then (c_ret ?_)))))))
   obtain rfl := Option.some.inj h
   exact fin_ret (v := (Sl a56 o36 c57)) (results_ok Try.results46 (res_tmp (v := (Sl a56 o36 c57)) rfl res_nil) rfl) ⟨a56, c57, rfl, rfl⟩ (H.sel' [0] rfl rfl)

theorem c_spec_validKind {Bv : Int}  {r : Bool} (h : M.spec_validKind Bv = some r) :
    Cal2 Try.prog 71 [(I Bv)] [] (fun n0 v L => v = (B r) ∧ L = []) := by
 refine cal2 (n := 5) Try.func71 rfl rfl rfl rfl ?_
 intro S0 σ0 n0 hn0 H
 unfold M.spec_validKind at h
 refine c_seq (rg (st (v := (B false)) (rv_assign rfl) (w_end (q_then (c_seq (rg (st (v := (I Bv)) (rv_move rfl) ?_)))))))
 obtain ⟨r1, hx2, h'⟩ := bind_some h
 clear h
 have h := h'; clear h'
 have hc3 := c_spec_inRange hx2
 refine st_call (cx_call hc3 (ent_f hc3.fn rfl) hn0 (H.sel' [] rfl rfl : Hp S0 σ0 _ ([] ++ _))) wn ?_
 rintro _ σ4 ⟨_, ⟨rfl, rfl⟩, H, -⟩
 replace H : Hp _ _ _ [] := H
 refine st (v := (B r1)) (rv_assign rfl) (w_end (q_then (c_ret ?_)))
 obtain rfl := Option.some.inj h
 exact fin_ret (v := (B r1)) (results_ok Try.results71 (res_tmp (v := (B r1)) rfl res_nil) rfl) ⟨rfl, rfl⟩ (H.sel' [] rfl rfl)

theorem c_spec_validQuery {As : List (Int × (List Int) × Int)} {Gi : Int} {Gb : List Int} {Au : Option Addr} {Av : Nat} {Gd : Option Addr} {Ge : Nat} {r : Bool} (h : M.spec_validQuery As Gi Gb = some r) :
    Cal2 Try.prog 54 [(Sl Au As Av), (I Gi), (Sl Gd Gb Ge)] [Ch.ro 0 (Sl Au As Av) As, Ch.ro 0 (Sl Gd Gb Ge) Gb] (fun n0 v L => v = (B r) ∧ L = []) := by
 refine cal2 (n := 17) Try.func54 rfl rfl rfl rfl ?_
 intro S0 σ0 n0 hn0 H
 unfold M.spec_validQuery at h
 refine c_seq (rg (st (v := (B false)) (rv_assign rfl) (w_end (q_then (c_seq (rg (st (v := (Sl Au As Av)) (rv_move rfl) ?_)))))))
 obtain ⟨r1, hx2, h'⟩ := bind_some h
 clear h
 have h := h'; clear h'
 have hc3 := c_spec_validStore (Au := Au) (Av := Av) hx2
 refine st_call (cx_call hc3 (ent_f hc3.fn rfl) hn0 (H.sel' [0, 0, 1] rfl rfl : Hp S0 σ0 _ ([_] ++ _))) wn ?_
 rintro _ σ4 ⟨_, ⟨rfl, rfl⟩, H, -⟩
 replace H : Hp _ _ _ [_, _] := H
 refine st (v := (B r1)) (rv_move rfl) ?_
 rcases Bool.eq_false_or_eq_true r1 with hb5 | hb5
 ·replace h := bif_t hb5 h
  refine st_g (v := (I Gi)) (congrArg some hb5) (rv_move rfl) ?_
  obtain ⟨r6, hx7, h'⟩ := bind_some h
  clear h
  have h := h'; clear h'
  have hc8 := c_spec_validKind hx7
  refine st_call (cx_call hc8 (ent_f hc8.fn rfl) hn0 (H.sel' [0, 1] rfl rfl : Hp S0 σ0 _ ([] ++ _))) (wanted_yes rfl (by exact (congrArg some hb5))) ?_
  rintro _ σ9 ⟨_, ⟨rfl, rfl⟩, H, -⟩
  replace H : Hp _ _ _ [_, _] := H
  refine st (v := (B r6)) (rv_pick_t (congrArg B hb5) rfl) (st (v := (B r6)) (rv_move rfl) ?_)
  rcases Bool.eq_false_or_eq_true r6 with hb10 | hb10
  ·replace h := bif_t hb10 h
   refine st_g (v := (Sl Gd Gb Ge)) (congrArg some hb10) (rv_move rfl) ?_
   obtain ⟨r11, hx12, h'⟩ := bind_some h
   clear h
   have h := h'; clear h'
   have hc13 := c_spec_isVector (Bb := Gd) (Bc := Ge) hx12
   refine st_call (cx_call hc13 (ent_f hc13.fn rfl) hn0 (H.sel' [1, 0, 1] rfl rfl : Hp S0 σ0 _ ([_] ++ _))) (wanted_yes rfl (by exact (congrArg some hb10))) ?_
   rintro _ σ14 ⟨_, ⟨rfl, rfl⟩, H, -⟩
   replace H : Hp _ _ _ [_, _] := H
   refine st (v := (B r11)) (rv_pick_t (congrArg B hb10) rfl) (st (v := (B r11)) (rv_assign rfl) (w_end (q_then (c_ret ?_))))
   obtain rfl := Option.some.inj h
   exact fin_ret (v := (B r11)) (results_ok Try.results54 (res_tmp (v := (B r11)) rfl res_nil) rfl) ⟨rfl, rfl⟩ (H.sel' [] rfl rfl)
  ·replace h := bif_f hb10 h
   refine st_skip (congrArg some hb10) (st_skip (congrArg some hb10) (st (v := (B false)) (rv_pick_f (congrArg B hb10) rfl) (st (v := (B false)) (rv_assign rfl) (w_end (q_then (c_ret ?_))))))
   obtain rfl := Option.some.inj h
   exact fin_ret (v := (B false)) (results_ok Try.results54 (res_tmp (v := (B false)) rfl res_nil) rfl) ⟨rfl, rfl⟩ (H.sel' [] rfl rfl)
 ·replace h := bif_f hb5 h
  refine st_skip (congrArg some hb5) (st_skip (congrArg some hb5) (st (v := (B false)) (rv_pick_f (congrArg B hb5) rfl) (st (v := (B false)) (rv_move rfl) (st_skip rfl (st_skip rfl (st (v := (B false)) (rv_pick_f rfl rfl) (st (v := (B false)) (rv_assign rfl) (w_end (q_then (c_ret ?_))))))))))
  obtain rfl := Option.some.inj h
  exact fin_ret (v := (B false)) (results_ok Try.results54 (res_tmp (v := (B false)) rfl res_nil) rfl) ⟨rfl, rfl⟩ (H.sel' [] rfl rfl)

theorem c_spec_isIn {As : List Int} {Af : Int} {Au : Option Addr} {Av : Nat} {r : Bool} (h : M.spec_isIn As Af = some r) :
    Cal2 Try.prog 56 [(Sl Au As Av), (I Af)] [Ch.ro 0 (Sl Au As Av) As] (fun n0 v L => v = (B r) ∧ L = []) := by
 refine cal2 (n := 18) Try.func56 rfl rfl rfl rfl ?_
 intro S0 σ0 n0 hn0 H
 unfold M.spec_isIn at h
 refine c_seq (rg (st (v := (B false)) (rv_assign rfl) (w_end (q_then (c_seq (c_seq (rg (st (v := (I 0)) (rv_assign rfl) (w_end (q_then ?_))))))))))
 obtain ⟨o1, hj, h'⟩ := bind_some h
 clear h
 refine c_cut (fun e a w => (∃ t, o1 = (.inl t) ∧ e = .normal ∧ ∃ (ρ : Nat → Value) (σ : St), a = fr 18 (updL ρ []) ∧ w = σ.w ∧ Hp S0 σ0 σ []) ∨ (∃ t, o1 = (.inr t) ∧ e = .ret ∧ ∃ (ρ : Nat → Value) (σ : St), a = fr 18 (updL ρ [(4, (B t))]) ∧ w = σ.w ∧ Hp S0 σ0 σ [])) ?_ ?_
 ·clear h'
  rename _ = some o1 => h
  refine c_blk (wp_loopM _ h (fun s2 a w => ∃ (ρ : Nat → Value) (σ : St), a = fr 18 (updL ρ [(0, (Sl Au As Av)), (1, (I Af)), (5, (I s2))]) ∧ w = σ.w ∧ Hp S0 σ0 σ [Ch.ro 0 (Sl Au As Av) As]) ⟨_, σ0, fr_join ⟨rfl, rfl, rfl, trivial⟩, rfl, H.sel' [0] rfl rfl⟩ ?_)
  clear h H
  rintro s2 a w o ⟨ρ, σ3, rfl, rfl, H⟩ h hres
  refine c_seq (c_seq (rg (st (v := (I s2)) (rv_move rfl) (st (v := (Sl Au As Av)) (rv_move rfl) (st (v := (I (As.length : Int))) (rv_len Try.underlying29 rfl) (st (v := (B (decide (s2 < (As.length : Int))))) (rv_lss (a := s2) (b := (As.length : Int)) rfl rfl) (w_end (q_then ?_))))))))
  refine cd_cond (decide (s2 < (As.length : Int))) rfl (fun hb4 => ?_) (fun hb4 => ?_)
  ·replace h := bif_t hb4 h
   refine c_skip (q_then (c_seq (c_blk (c_seq (rg (st (v := (Sl Au As Av)) (rv_move rfl) (st (v := (I s2)) (rv_move rfl) ?_)))))))
   obtain ⟨x5, hx6, h'⟩ := bind_some h
   clear h
   have h := h'; clear h'
   obtain ⟨b8, o9, hi7, -⟩ := (H.ro 0 rfl).ix hx6
   refine st (v := (pt b8 o9)) (rv_ix Try.underlying29 ti3 rfl rfl hi7) ?_
   have hc10 := ((H.ro 0 rfl).at hx6 hi7).int
   refine st (v := (I x5)) (rv_load1 Try.underlying3 rfl rfl hc10) (st (v := (I Af)) (rv_move rfl) (st (v := (B (x5 == Af))) (rv_eql (a := x5) (b := Af) rfl rfl) (w_end (q_then ?_))))
   refine cd_cond (x5 == Af) rfl (fun hb11 => ?_) (fun hb11 => ?_)
   ·replace h := bif_t hb11 h
    refine c_seq (rg (st (v := (B true)) (rv_assign rfl) (w_end (q_then (c_ret (q_blk_r (q_then_r (q_then_r (q_blk_r ?_)))))))))
    obtain rfl := Option.some.inj h
    obtain rfl := hres _ rfl
    exact .inr (⟨_, rfl, rfl, _, σ3, fr_join ⟨rfl, trivial⟩, rfl, H.sel' [] rfl rfl⟩)
   ·replace h := bif_f hb11 h
    refine c_skip (q_blk (q_then (rg (st (v := (I s2)) (rv_move rfl) (st (v := (I (w64 (s2 + 1)))) (rv_add (a := s2) (b := 1) rfl rfl) (st (v := (I (w64 (s2 + 1)))) (rv_assign rfl) (w_end (q_then ?_))))))))
    obtain rfl := Option.some.inj h
    exact ⟨_, rfl, _, σ3, fr_join ⟨rfl, rfl, rfl, trivial⟩, rfl, H.sel' [0] rfl rfl⟩
  ·replace h := bif_f hb4 h
   refine c_exit (q_then_x (q_then_x (q_blk_hit ?_)))
   obtain rfl := Option.some.inj h
   obtain rfl := hres _ rfl
   exact .inl ⟨_, rfl, rfl, _, σ3, fr_join trivial, rfl, H.sel' [] rfl rfl⟩
 ·clear hj
  have h := h'
  clear h' H
  rintro e a w (⟨t12, rfl, rfl, ρ, σ13, rfl, rfl, H⟩ | ⟨t14, rfl, rfl, ρ, σ15, rfl, rfl, H⟩)
  ·replace h := selim_l h
   refine q_then (c_seq (rg (st (v := (B false)) (rv_assign rfl) (w_end (q_then (c_ret ?_))))))
   obtain rfl := Option.some.inj h
   exact fin_ret (v := (B false)) (results_ok Try.results56 (res_tmp (v := (B false)) rfl res_nil) rfl) ⟨rfl, rfl⟩ (H.sel' [] rfl rfl)
  ·replace h := selim_r h
   refine q_then_r ?_
   obtain rfl := Option.some.inj h
   exact fin_ret (v := (B t14)) (results_ok Try.results56 (res_tmp (v := (B t14)) rfl res_nil) rfl) ⟨rfl, rfl⟩ (H.sel' [] rfl rfl)

end Go.Vs
