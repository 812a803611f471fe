/- The functions compute what their models say. -/
import Derived.Test.YtlngcbbebchnbaaKExactProbeCostC3
set_option linter.unusedVariables false
set_option linter.unusedSimpArgs false
set_option maxRecDepth 20000
namespace Go.Vs
open Go Go.Proofs
attribute [local irreducible] Code.wp Code.wpIn wpList wpListIn wpQuiet Calls CallsIn

theorem c_slices_SortStableFunc_int_int__impl_ProbeOrder_1 {Bp : List Int} {Fk : List (List Int)} {Fl : List Int} {Fm : Option Addr} {Fn : Nat} {Fo : Option Addr} {Fp : Nat} {Fq Fr Fs : Nat} {Ft Fu : List Value} {Fv : Option Addr} {Fw : Nat} {Fx Fy Ga : Nat} {Gb Gc : List Value} {r : (List Int)} (h : M.slices_SortStableFunc_int_int__impl_ProbeOrder_1 Bp Fk Fl = some r) :
    Cal2 Try.prog 88 [(Sl Fm Bp Fn), (.func (.func 89) #[] #[(pt Fr Fs), (pt Fy Ga)])] [Ch.own 0 0 (Sl Fm Bp Fn) Bp, Ch.bx Fq Fr Fs [(Sl Fo Fk Fp)] Ft Fu, Ch.ro 0 (Sl Fo Fk Fp) Fk, Ch.bx Fx Fy Ga [(Sl Fv Fl Fw)] Gb Gc, Ch.ro 0 (Sl Fv Fl Fw) Fl] (fun n0 v L => v = (.tuple #[]) ∧ L = [Ch.own 0 0 (Sl Fm r Fn) r, Ch.bx Fq Fr Fs [(Sl Fo Fk Fp)] Ft Fu, Ch.bx Fx Fy Ga [(Sl Fv Fl Fw)] Gb Gc] ∧ r.length = Bp.length) := by
 refine cal2 (n := 9) Try.func88 rfl rfl rfl rfl ?_
 intro S0 σ0 n0 hn0 H
 unfold M.slices_SortStableFunc_int_int__impl_ProbeOrder_1 at h
 refine rg (st (v := (Sl Fm Bp Fn)) (rv_move rfl) (st (v := (Sl Fm Bp Fn)) (rv_move rfl) (st (v := (I (Bp.length : Int))) (rv_len Try.underlying23 rfl) (st (v := (.func (.func 89) #[] #[(pt Fr Fs), (pt Fy Ga)])) (rv_move rfl) ?_))))
 obtain ⟨r1, hx2, h'⟩ := bind_some h
 clear h
 have h := h'; clear h'
 have hc3 := c_slices_stableCmpFunc_int__impl_ProbeOrder_1 (Dh := Fm) (Di := Fn) (Ey := Fq) (Ez := Fr) (Fa := Fs) (Fb := Ft) (Fc := Fu) (Ev := Fo) (Ew := Fp) (Ff := Fx) (Fg := Fy) (Fh := Ga) (Fi := Gb) (Fj := Gc) (Fd := Fv) (Fe := Fw) hx2
 refine st_call (cx_call hc3 (ent_f hc3.fn rfl) hn0 (H.sel' [0, 1, 2, 3, 4, 2, 4] rfl rfl : Hp S0 σ0 _ ([_, _, _, _, _] ++ _))) wn ?_
 rintro _ σ5 ⟨_, ⟨rfl, rfl, hn4⟩, H, -⟩
 replace H : Hp _ _ _ [_, _, _, _, _] := H
 have hsl : (Sl Fm Bp Fn) = (Sl Fm r1 Fn) := sl_len hn4.symm
 try rw [hsl]
 try rw [hsl] at H
 clear hsl
 refine w_end ?_
 obtain rfl := Option.some.inj h
 exact fin_end (v := (.tuple #[])) (results_ok Try.results88 res_nil rfl) ⟨rfl, rfl, hn4⟩ (H.sel' [0, 1, 2] rfl rfl)

theorem c_impl_ProbeOrder {Bg : List (List Int)} {Bh : List Int} {Bo : Int} {Bi : Option Addr} {Bj : Nat} {Bk : Option Addr} {Bl : Nat} {r : (List Int)} (h : M.impl_ProbeOrder Bg Bh Bo = some r) :
    Cal2 Try.prog 51 [(Sl Bi Bg Bj), (Sl Bk Bh Bl), (I Bo)] [Ch.ro 0 (Sl Bi Bg Bj) Bg, Ch.ro 0 (Sl Bk Bh Bl) Bh] (fun n0 v L => ∃ (az1 : Option Addr), ∃ (cz2 : Nat), v = (Sl az1 r cz2) ∧ L = [Ch.own 0 n0 (Sl az1 r cz2) r]) := by
 refine cal2 (n := 36) Try.func51 rfl rfl rfl rfl ?_
 intro S0 σ0 n0 hn0 H
 unfold M.impl_ProbeOrder at h
 refine c_seq (rg (st_ex (ex_box (cs := [(Sl Bi Bg Bj)]) H hn0 rfl rfl) wn ?_))
 rintro _ σ2 ⟨b1, rfl, H, -⟩
 refine st_ex (ex_box (cs := [(Sl Bk Bh Bl)]) H hn0 rfl rfl) wn ?_
 rintro _ σ4 ⟨b3, rfl, H, -⟩
 refine st (v := (.slice none 0 0)) (rv_assign rfl) (w_end (q_then (c_seq (c_seq (rg ?_)))))
 have hc5 := H.cell (u := (Sl Bi Bg Bj)) (o' := 0) 1 0 rfl rfl rfl
 refine st (v := (Sl Bi Bg Bj)) (rv_load1 Try.underlying41 rfl rfl hc5) ?_
 have hc6 := H.cell (u := (Sl Bk Bh Bl)) (o' := 0) 0 0 rfl rfl rfl
 refine st (v := (Sl Bk Bh Bl)) (rv_load1 Try.underlying23 rfl rfl hc6) (st (v := (I Bo)) (rv_move rfl) ?_)
 obtain ⟨r7, hx8, h'⟩ := bind_some h
 clear h
 have h := h'; clear h'
 have hc9 := c_impl_validProbe (Bi := Bi) (Bj := Bj) (Bk := Bk) (Bl := Bl) hx8
 refine st_call (cx_call hc9 (ent_f hc9.fn rfl) hn0 (H.sel' [2, 3, 0, 1, 2, 3] rfl rfl : Hp S0 σ0 _ ([_, _] ++ _))) wn ?_
 rintro _ σ10 ⟨_, ⟨rfl, rfl⟩, H, -⟩
 replace H : Hp _ _ _ [_, _, _, _] := H
 refine st (v := (B (!r7))) (rv_not rfl) (w_end (q_then ?_))
 refine cd_cond (!r7) rfl (fun hb11 => ?_) (fun hb11 => ?_)
 ·replace h := bif_t hb11 h
  refine c_seq (rg (st (v := (.slice none 0 0)) (rv_assign rfl) (w_end (q_then (c_ret (q_then_r ?_))))))
  replace H := H.nilOwn Int 0 n0
  obtain rfl := Option.some.inj h
  exact fin_ret (v := (.slice none 0 0)) (results_ok Try.results51 (res_tmp (v := (.slice none 0 0)) rfl res_nil) rfl) ⟨none, 0, rfl, rfl⟩ (H.sel' [0] rfl rfl)
 ·replace h := bif_f hb11 h
  refine c_skip (q_then (c_seq (rg ?_)))
  have hc12 := H.cell (u := (Sl Bi Bg Bj)) (o' := 0) 1 0 rfl rfl rfl
  refine st (v := (Sl Bi Bg Bj)) (rv_load1 Try.underlying41 rfl rfl hc12) (st (v := (I (Bg.length : Int))) (rv_len Try.underlying41 rfl) ?_)
  obtain ⟨xs13, hx14, h'⟩ := bind_some h
  clear h
  have h := h'; clear h'
  refine st_ex (ex_make (el := n0) (z0 := (0 : Int)) (zs := [(I 0)]) H hn0 Try.underlying23 ti3 rfl rfl rfl (by decide) hx14 rfl rfl) wn ?_
  rintro _ σ18 ⟨b15, c16, rfl, ht17, H, -⟩
  replace ht17 := ht17.trans (gmake_len hx14).symm
  refine st (v := (Sl (some ⟨b15, 0, none⟩) xs13 c16)) (rv_assign rfl) (w_end (q_then (c_seq (c_seq (rg (st (v := (Sl (some ⟨b15, 0, none⟩) xs13 c16)) (rv_move rfl) (st (v := (I (xs13.length : Int))) (rv_len Try.underlying23 rfl) (st (v := (I 0)) (rv_move rfl) (w_end (q_then ?_))))))))))
  obtain ⟨o19, hj, h'⟩ := bind_some h
  clear h
  refine c_cut (fun e a w => e = .normal ∧ ∃ (ρ : Nat → Value) (σ : St), a = fr 36 (updL ρ [(2, (I Bo)), (3, (pt b1 0)), (4, (pt b3 0)), (7, (Sl (some ⟨b15, 0, none⟩) o19 c16))]) ∧ w = σ.w ∧ Hp S0 σ0 σ [Ch.ro 0 (Sl Bi Bg Bj) Bg, Ch.bx n0 b1 0 [(Sl Bi Bg Bj)] [] [], Ch.ro 0 (Sl Bk Bh Bl) Bh, Ch.bx n0 b3 0 [(Sl Bk Bh Bl)] [] [], Ch.own n0 n0 (Sl (some ⟨b15, 0, none⟩) o19 c16) o19] ∧ c16 = o19.length ∧ o19.length = xs13.length) ?_ ?_
  ·clear h'
   rename _ = some o19 => h
   refine c_blk (wp_loopM _ h (fun s20 a w => ∃ (ρ : Nat → Value) (σ : St), a = fr 36 (updL ρ [(2, (I Bo)), (3, (pt b1 0)), (4, (pt b3 0)), (7, (Sl (some ⟨b15, 0, none⟩) s20.1 c16)), (18, (I (xs13.length : Int))), (19, (I s20.2))]) ∧ w = σ.w ∧ Hp S0 σ0 σ [Ch.ro 0 (Sl Bi Bg Bj) Bg, Ch.bx n0 b1 0 [(Sl Bi Bg Bj)] [] [], Ch.ro 0 (Sl Bk Bh Bl) Bh, Ch.bx n0 b3 0 [(Sl Bk Bh Bl)] [] [], Ch.own n0 n0 (Sl (some ⟨b15, 0, none⟩) s20.1 c16) s20.1] ∧ c16 = s20.1.length ∧ s20.1.length = xs13.length) ⟨_, σ18, fr_join ⟨rfl, rfl, rfl, rfl, rfl, rfl, trivial⟩, rfl, H.sel' [3, 2, 4, 1, 0] rfl rfl, ht17, rfl⟩ ?_)
   clear h H
   rintro s20 a w o ⟨ρ, σ21, rfl, rfl, H, ht22, hn23⟩ h hres
   refine c_seq (rg (st (v := (B (decide (s20.2 < (xs13.length : Int))))) (rv_lss (a := s20.2) (b := (xs13.length : Int)) rfl rfl) (w_end (q_then (c_seq ?_)))))
   refine cd_cond (decide (s20.2 < (xs13.length : Int))) rfl (fun hb24 => ?_) (fun hb24 => ?_)
   ·replace h := bif_t hb24 h
    refine c_skip (q_then (c_seq (c_blk (c_seq (rg (st (v := (I s20.2)) (rv_move rfl) (st (v := (I s20.2)) (rv_assign rfl) (w_end (q_then (rg (st (v := (Sl (some ⟨b15, 0, none⟩) s20.1 c16)) (rv_move rfl) ?_)))))))))))
    refine st (v := (I s20.2)) (rv_move rfl) (st (v := (I s20.2)) (rv_move rfl) ?_)
    obtain ⟨x25, hx26, h'⟩ := bind_some h
    clear h
    have h := h'; clear h'
    obtain ⟨b28, o29, hi27, -⟩ := (H.own 4 rfl).ix hx26
    refine st (v := (pt b28 o29)) (rv_ix Try.underlying23 ti3 rfl rfl hi27) ?_
    refine st_exS (ex_store_own (e' := s20.2) (vs := [(I s20.2)]) (k := 0) H (i := 4) rfl ti3 hx26 hi27 rfl rfl rfl rfl rfl (Nat.le_of_ble_eq_true rfl) (by simp [plain]) (by rintro _ rfl; exact rfl)) wn ?_
    rintro σ30 ⟨H, -⟩
    have hsl : (Sl (some ⟨b15, 0, none⟩) s20.1 c16) = (Sl (some ⟨b15, 0, none⟩) (s20.1.set s20.2.toNat s20.2) c16) := sl_len List.length_set.symm
    rw [hsl]; rw [hsl] at H; clear hsl
    refine w_end (q_blk (q_then (rg (st (v := (I (w64 (s20.2 + 1)))) (rv_add (a := s20.2) (b := 1) rfl rfl) (st (v := (I (w64 (s20.2 + 1)))) (rv_move rfl) (w_end (q_then ?_)))))))
    obtain rfl := Option.some.inj h
    exact ⟨_, rfl, _, σ30, fr_join ⟨rfl, rfl, rfl, rfl, rfl, rfl, trivial⟩, rfl, H.sel' [1, 2, 3, 4, 0] rfl rfl, (ht22.trans List.length_set.symm), (List.length_set.trans hn23)⟩
   ·replace h := bif_f hb24 h
    refine c_exit (q_then_x (q_then_x (q_blk_hit ?_)))
    obtain rfl := Option.some.inj h
    obtain rfl := hres _ rfl
    exact ⟨rfl, _, σ21, fr_join ⟨rfl, rfl, rfl, rfl, trivial⟩, rfl, H.sel' [0, 1, 2, 3, 4] rfl rfl, ht22, hn23⟩
  ·clear hj
   have h := h'
   clear h' H
   rintro e a w ⟨rfl, ρ, σ31, rfl, rfl, H, ht32, hn33⟩
   refine q_then (c_seq (rg (st (v := (Sl (some ⟨b15, 0, none⟩) o19 c16)) (rv_move rfl) (st (v := (.func (.func 89) #[] #[(pt b1 0), (pt b3 0)])) (rv_makeFunc (vs := [(pt b1 0), (pt b3 0)]) rfl) ?_))))
   replace H := H.ownLow 4 0 0 rfl (Nat.zero_le _) (Nat.zero_le _)
   obtain ⟨r34, hx35, h'⟩ := bind_some h
   clear h
   have h := h'; clear h'
   have hc36 := c_slices_SortStableFunc_int_int__impl_ProbeOrder_1 (Fm := (some ⟨b15, 0, none⟩)) (Fn := c16) (Fq := n0) (Fr := b1) (Fs := 0) (Ft := []) (Fu := []) (Fo := Bi) (Fp := Bj) (Fx := n0) (Fy := b3) (Ga := 0) (Gb := []) (Gc := []) (Fv := Bk) (Fw := Bl) hx35
   refine st_call (cx_call hc36 (ent_f hc36.fn rfl) hn0 (H.sel' [0, 2, 1, 4, 3, 1, 3] rfl rfl : Hp S0 σ0 _ ([_, _, _, _, _] ++ _))) wn ?_
   rintro _ σ38 ⟨_, ⟨rfl, rfl, hn37⟩, H, -⟩
   replace H : Hp _ _ _ [_, _, _, _, _] := H
   have hsl : (Sl (some ⟨b15, 0, none⟩) o19 c16) = (Sl (some ⟨b15, 0, none⟩) r34 c16) := sl_len hn37.symm
   try rw [hsl]
   try rw [hsl] at H
   clear hsl
   refine w_end (q_then (c_seq (rg (st (v := (Sl (some ⟨b15, 0, none⟩) r34 c16)) (rv_move rfl) (st (v := (I Bo)) (rv_move rfl) (st (v := (Sl (some ⟨b15, 0, none⟩) r34 c16)) (rv_move rfl) (st (v := (I (r34.length : Int))) (rv_len Try.underlying23 rfl) (st (v := (I (min Bo (r34.length : Int)))) (rv_min rfl rfl) ?_))))))))
   obtain ⟨xs39, hx40, h'⟩ := bind_some h
   clear h
   have h := h'; clear h'
   obtain ⟨a41, c42, hs43, hR44, hb45⟩ := (H.own 0 rfl).slice hx40
   replace H := (H.front (i := 0) rfl).turn (d := Ch.own 0 0 (Sl a41 xs39 c42) xs39) (fun _ => hR44) hb45; clear hR44 hb45
   refine st (v := (Sl a41 xs39 c42)) (rv_slice_h Try.underlying23 ti3 hs43 rfl rfl) (st (v := (Sl a41 xs39 c42)) (rv_assign rfl) (w_end (q_then (c_ret ?_))))
   replace H := H.ownSc 0 0 n0 rfl (Nat.le_refl _)
   obtain rfl := Option.some.inj h
   exact fin_ret (v := (Sl a41 xs39 c42)) (results_ok Try.results51 (res_tmp (v := (Sl a41 xs39 c42)) rfl res_nil) rfl) ⟨a41, c42, rfl, rfl⟩ (H.sel' [0] rfl rfl)

theorem c_impl_CentreOf {Bg : List (List Int)} {Bh : List Int} {Bi : Option Addr} {Bj : Nat} {Bk : Option Addr} {Bl : Nat} {r : Int} (h : M.impl_CentreOf Bg Bh = some r) :
    Cal2 Try.prog 34 [(Sl Bi Bg Bj), (Sl Bk Bh Bl)] [Ch.ro 0 (Sl Bi Bg Bj) Bg, Ch.ro 0 (Sl Bk Bh Bl) Bh] (fun n0 v L => v = (I r) ∧ L = []) := by
 refine cal2 (n := 35) Try.func34 rfl rfl rfl rfl ?_
 intro S0 σ0 n0 hn0 H
 unfold M.impl_CentreOf at h
 refine c_seq (rg (st (v := (I 0)) (rv_assign rfl) (w_end (q_then (c_seq (c_seq ?_))))))
 obtain ⟨o1, hj, h'⟩ := bind_some h
 clear h
 refine c_cut (fun e a w => e = .normal ∧ ∃ (ρ : Nat → Value) (σ : St), a = fr 35 (updL ρ [(0, (Sl Bi Bg Bj)), (1, (Sl Bk Bh Bl)), (17, (B o1))]) ∧ w = σ.w ∧ Hp S0 σ0 σ [Ch.ro 0 (Sl Bi Bg Bj) Bg, Ch.ro 0 (Sl Bk Bh Bl) Bh]) ?_ ?_
 ·clear h'
  rename _ = some o1 => h
  refine rg (st (v := (Sl Bi Bg Bj)) (rv_move rfl) ?_)
  obtain ⟨r2, hx3, h'⟩ := bind_some h
  clear h
  have h := h'; clear h'
  have hc4 := c_impl_ValidCentres (As := Bi) (Au := Bj) hx3
  refine st_call (cx_call hc4 (ent_f hc4.fn rfl) hn0 (H.sel' [0, 0, 1] rfl rfl : Hp S0 σ0 _ ([_] ++ _))) wn ?_
  rintro _ σ5 ⟨_, ⟨rfl, rfl⟩, H, -⟩
  replace H : Hp _ _ _ [_, _] := H
  refine st (v := (B (!r2))) (rv_not rfl) (st (v := (B (!r2))) (rv_move rfl) ?_)
  rcases Bool.eq_false_or_eq_true (!r2) with hb6 | hb6
  ·replace h := bif_t hb6 h
   refine st_skip (congrArg some hb6) (st_skip (congrArg some hb6) (st_skip (congrArg some hb6) (st (v := (B true)) (rv_pick_t (congrArg B hb6) rfl) (w_end ?_))))
   obtain rfl := Option.some.inj h
   exact ⟨rfl, _, σ5, fr_join ⟨rfl, rfl, rfl, trivial⟩, rfl, H.sel' [0, 1] rfl rfl⟩
  ·replace h := bif_f hb6 h
   refine st_g (v := (Sl Bk Bh Bl)) (congrArg some hb6) (rv_move rfl) ?_
   obtain ⟨r7, hx8, h'⟩ := bind_some h
   clear h
   have h := h'; clear h'
   have hc9 := c_impl_ValidVector (Aw := Bk) (Ax := Bl) hx8
   refine st_call (cx_call hc9 (ent_f hc9.fn rfl) hn0 (H.sel' [1, 0, 1] rfl rfl : Hp S0 σ0 _ ([_] ++ _))) (wanted_yes rfl (by exact (congrArg some hb6))) ?_
   rintro _ σ10 ⟨_, ⟨rfl, rfl⟩, H, -⟩
   replace H : Hp _ _ _ [_, _] := H
   refine st_g (v := (B (!r7))) (congrArg some hb6) (rv_not rfl) (st (v := (B (!r7))) (rv_pick_f (congrArg B hb6) rfl) (w_end ?_))
   obtain rfl := Option.some.inj h
   exact ⟨rfl, _, σ10, fr_join ⟨rfl, rfl, rfl, trivial⟩, rfl, H.sel' [0, 1] rfl rfl⟩
 ·clear hj
  have h := h'
  clear h' H
  rintro e a w ⟨rfl, ρ, σ11, rfl, rfl, H⟩
  refine q_then ?_
  refine cd_cond o1 rfl (fun hb12 => ?_) (fun hb12 => ?_)
  ·replace h := bif_t hb12 h
   refine c_seq (rg (st (v := (I (-1))) (rv_assign rfl) (w_end (q_then (c_ret (q_then_r ?_))))))
   obtain rfl := Option.some.inj h
   exact fin_ret (v := (I (-1))) (results_ok Try.results34 (res_tmp (v := (I (-1))) rfl res_nil) rfl) ⟨rfl, rfl⟩ (H.sel' [] rfl rfl)
  ·replace h := bif_f hb12 h
   refine c_skip (q_then (c_seq (rg (st (v := (I 0)) (rv_assign rfl) (st (v := (I 1000000)) (rv_assign rfl) (w_end (q_then (c_seq (c_seq (rg (st (v := (Sl Bi Bg Bj)) (rv_move rfl) ?_)))))))))))
   refine st (v := (I (Bg.length : Int))) (rv_len Try.underlying41 rfl) (st (v := (I 0)) (rv_move rfl) (w_end (q_then ?_)))
   obtain ⟨o13, hj, h'⟩ := bind_some h
   clear h
   refine c_cut (fun e a w => e = .normal ∧ ∃ (ρ : Nat → Value) (σ : St), a = fr 35 (updL ρ [(5, (I o13))]) ∧ w = σ.w ∧ Hp S0 σ0 σ []) ?_ ?_
   ·clear h'
    rename _ = some o13 => h
    refine c_blk (wp_loopM _ h (fun s14 a w => ∃ (ρ : Nat → Value) (σ : St), a = fr 35 (updL ρ [(1, (Sl Bk Bh Bl)), (5, (I s14.1)), (6, (I s14.2.1)), (18, (Sl Bi Bg Bj)), (19, (I (Bg.length : Int))), (20, (I s14.2.2))]) ∧ w = σ.w ∧ Hp S0 σ0 σ [Ch.ro 0 (Sl Bk Bh Bl) Bh, Ch.ro 0 (Sl Bi Bg Bj) Bg]) ⟨_, σ11, fr_join ⟨rfl, rfl, rfl, rfl, rfl, rfl, trivial⟩, rfl, H.sel' [1, 0] rfl rfl⟩ ?_)
    clear h H
    rintro s14 a w o ⟨ρ, σ15, rfl, rfl, H⟩ h hres
    refine c_seq (rg (st (v := (B (decide (s14.2.2 < (Bg.length : Int))))) (rv_lss (a := s14.2.2) (b := (Bg.length : Int)) rfl rfl) (w_end (q_then (c_seq ?_)))))
    refine cd_cond (decide (s14.2.2 < (Bg.length : Int))) rfl (fun hb16 => ?_) (fun hb16 => ?_)
    ·replace h := bif_t hb16 h
     refine c_skip (q_then (c_seq ?_))
     obtain ⟨o17, hj, h'⟩ := bind_some h
     clear h
     refine c_cut (fun e a w => e = .normal ∧ ∃ (ρ : Nat → Value) (σ : St), a = fr 35 (updL ρ [(1, (Sl Bk Bh Bl)), (5, (I o17.1)), (6, (I o17.2)), (18, (Sl Bi Bg Bj)), (19, (I (Bg.length : Int))), (20, (I s14.2.2))]) ∧ w = σ.w ∧ Hp S0 σ0 σ [Ch.ro 0 (Sl Bk Bh Bl) Bh, Ch.ro 0 (Sl Bi Bg Bj) Bg]) ?_ ?_
     ·clear h'
      rename _ = some o17 => h
      refine c_blk (c_seq (rg (st (v := (I s14.2.2)) (rv_move rfl) ?_)))
      obtain ⟨x18, hx19, h'⟩ := bind_some h
      clear h
      have h := h'; clear h'
      obtain ⟨b21, o22, hi20, -⟩ := (H.ro 1 rfl).ix hx19
      refine st (v := (pt b21 o22)) (rv_ix Try.underlying41 ti23 rfl rfl hi20) ?_
      obtain ⟨v26, hc27, hR25⟩ := ((H.ro 1 rfl).at hx19 hi20).slice
      obtain ⟨a23, c24, rfl⟩ := hR25.isSl
      replace H := H.add (d := Ch.ro 0 (Sl a23 x18 c24) x18) hR25 (fun _ h => h)
      clear hR25
      refine st (v := (Sl a23 x18 c24)) (rv_load1 Try.underlying23 rfl rfl hc27) (st (v := (I s14.2.2)) (rv_assign rfl) (st (v := (Sl a23 x18 c24)) (rv_assign rfl) (w_end (q_then (c_seq (rg (st (v := (Sl a23 x18 c24)) (rv_move rfl) (st (v := (Sl Bk Bh Bl)) (rv_move rfl) ?_))))))))
      obtain ⟨r28, hx29, h'⟩ := bind_some h
      clear h
      have h := h'; clear h'
      have hc30 := c_impl_Distance (Bc := a23) (Bd := c24) (Be := Bk) (Bf := Bl) hx29
      refine st_call (cx_call hc30 (ent_f hc30.fn rfl) hn0 (H.sel' [0, 1, 0, 1, 2] rfl rfl : Hp S0 σ0 _ ([_, _] ++ _))) wn ?_
      rintro _ σ31 ⟨_, ⟨rfl, rfl⟩, H, -⟩
      replace H : Hp _ _ _ [_, _, _] := H
      refine st (v := (I r28)) (rv_assign rfl) (w_end (q_then (c_seq (rg (st (v := (I r28)) (rv_move rfl) (st (v := (I s14.2.1)) (rv_move rfl) (st (v := (B (decide (r28 < s14.2.1)))) (rv_lss (a := r28) (b := s14.2.1) rfl rfl) (w_end (q_then ?_)))))))))
      refine cd_cond (decide (r28 < s14.2.1)) rfl (fun hb32 => ?_) (fun hb32 => ?_)
      ·replace h := bif_t hb32 h
       refine rg (st (v := (I s14.2.2)) (rv_move rfl) (st (v := (I r28)) (rv_move rfl) (st (v := (I s14.2.2)) (rv_assign rfl) (st (v := (I r28)) (rv_assign rfl) (w_end (q_blk ?_))))))
       obtain rfl := Option.some.inj h
       exact ⟨rfl, _, σ31, fr_join ⟨rfl, rfl, rfl, rfl, rfl, rfl, trivial⟩, rfl, H.sel' [1, 2] rfl rfl⟩
      ·replace h := bif_f hb32 h
       refine c_skip (q_blk ?_)
       obtain rfl := Option.some.inj h
       exact ⟨rfl, _, σ31, fr_join ⟨rfl, rfl, rfl, rfl, rfl, rfl, trivial⟩, rfl, H.sel' [1, 2] rfl rfl⟩
     ·clear hj
      have h := h'
      clear h' H
      rintro e a w ⟨rfl, ρ, σ33, rfl, rfl, H⟩
      refine q_then (rg (st (v := (I (w64 (s14.2.2 + 1)))) (rv_add (a := s14.2.2) (b := 1) rfl rfl) (st (v := (I (w64 (s14.2.2 + 1)))) (rv_move rfl) (w_end (q_then ?_)))))
      obtain rfl := Option.some.inj h
      exact ⟨_, rfl, _, σ33, fr_join ⟨rfl, rfl, rfl, rfl, rfl, rfl, trivial⟩, rfl, H.sel' [0, 1] rfl rfl⟩
    ·replace h := bif_f hb16 h
     refine c_exit (q_then_x (q_then_x (q_blk_hit ?_)))
     obtain rfl := Option.some.inj h
     obtain rfl := hres _ rfl
     exact ⟨rfl, _, σ15, fr_join ⟨rfl, trivial⟩, rfl, H.sel' [] rfl rfl⟩
   ·clear hj
    have h := h'
    clear h' H
    rintro e a w ⟨rfl, ρ, σ34, rfl, rfl, H⟩
    refine q_then (c_seq (rg (st (v := (I o13)) (rv_move rfl) (st (v := (I o13)) (rv_assign rfl) (w_end (q_then (c_ret ?_)))))))
    obtain rfl := Option.some.inj h
    exact fin_ret (v := (I o13)) (results_ok Try.results34 (res_tmp (v := (I o13)) rfl res_nil) rfl) ⟨rfl, rfl⟩ (H.sel' [] rfl rfl)

theorem c_impl_validClusters {Bg : List (List Int)} {By : List (Int × (List Int) × Int)} {Bi : Option Addr} {Bj : Nat} {Ca : Option Addr} {Cb : Nat} {r : Bool} (h : M.impl_validClusters Bg By = some r) :
    Cal2 Try.prog 72 [(Sl Bi Bg Bj), (Sl Ca By Cb)] [Ch.ro 0 (Sl Bi Bg Bj) Bg, Ch.ro 0 (Sl Ca By Cb) By] (fun n0 v L => v = (B r) ∧ L = []) := by
 refine cal2 (n := 11) Try.func72 rfl rfl rfl rfl ?_
 intro S0 σ0 n0 hn0 H
 unfold M.impl_validClusters at h
 refine c_seq (rg (st (v := (B false)) (rv_assign rfl) (w_end (q_then (c_seq (rg (st (v := (Sl Bi Bg Bj)) (rv_move rfl) ?_)))))))
 obtain ⟨r1, hx2, h'⟩ := bind_some h
 clear h
 have h := h'; clear h'
 have hc3 := c_impl_ValidCentres (As := Bi) (Au := Bj) hx2
 refine st_call (cx_call hc3 (ent_f hc3.fn rfl) hn0 (H.sel' [0, 0, 1] rfl rfl : Hp S0 σ0 _ ([_] ++ _))) wn ?_
 rintro _ σ4 ⟨_, ⟨rfl, rfl⟩, H, -⟩
 replace H : Hp _ _ _ [_, _] := H
 refine st (v := (B r1)) (rv_move rfl) ?_
 rcases Bool.eq_false_or_eq_true r1 with hb5 | hb5
 ·replace h := bif_t hb5 h
  refine st_g (v := (Sl Ca By Cb)) (congrArg some hb5) (rv_move rfl) ?_
  obtain ⟨r6, hx7, h'⟩ := bind_some h
  clear h
  have h := h'; clear h'
  have hc8 := c_impl_ValidStore (As := Ca) (Au := Cb) hx7
  refine st_call (cx_call hc8 (ent_f hc8.fn rfl) hn0 (H.sel' [1, 0, 1] rfl rfl : Hp S0 σ0 _ ([_] ++ _))) (wanted_yes rfl (by exact (congrArg some hb5))) ?_
  rintro _ σ9 ⟨_, ⟨rfl, rfl⟩, H, -⟩
  replace H : Hp _ _ _ [_, _] := H
  refine st (v := (B r6)) (rv_pick_t (congrArg B hb5) rfl) (st (v := (B r6)) (rv_assign rfl) (w_end (q_then (c_ret ?_))))
  obtain rfl := Option.some.inj h
  exact fin_ret (v := (B r6)) (results_ok Try.results72 (res_tmp (v := (B r6)) rfl res_nil) rfl) ⟨rfl, rfl⟩ (H.sel' [] rfl rfl)
 ·replace h := bif_f hb5 h
  refine st_skip (congrArg some hb5) (st_skip (congrArg some hb5) (st (v := (B false)) (rv_pick_f (congrArg B hb5) rfl) (st (v := (B false)) (rv_assign rfl) (w_end (q_then (c_ret ?_))))))
  obtain rfl := Option.some.inj h
  exact fin_ret (v := (B false)) (results_ok Try.results72 (res_tmp (v := (B false)) rfl res_nil) rfl) ⟨rfl, rfl⟩ (H.sel' [] rfl rfl)

theorem c_impl_AssignItems {Bg : List (List Int)} {By : List (Int × (List Int) × Int)} {Bi : Option Addr} {Bj : Nat} {Ca : Option Addr} {Cb : Nat} {r : (List Int)} (h : M.impl_AssignItems Bg By = some r) :
    Cal2 Try.prog 37 [(Sl Bi Bg Bj), (Sl Ca By Cb)] [Ch.ro 0 (Sl Bi Bg Bj) Bg, Ch.ro 0 (Sl Ca By Cb) By] (fun n0 v L => ∃ (az1 : Option Addr), ∃ (cz2 : Nat), v = (Sl az1 r cz2) ∧ L = [Ch.own n0 n0 (Sl az1 r cz2) r] ∧ cz2 = r.length) := by
 refine cal2 (n := 31) Try.func37 rfl rfl rfl rfl ?_
 intro S0 σ0 n0 hn0 H
 unfold M.impl_AssignItems at h
 refine c_seq (rg (st (v := (.slice none 0 0)) (rv_assign rfl) (w_end (q_then (c_seq (c_seq (rg (st (v := (Sl Bi Bg Bj)) (rv_move rfl) (st (v := (Sl Ca By Cb)) (rv_move rfl) ?_)))))))))
 obtain ⟨r1, hx2, h'⟩ := bind_some h
 clear h
 have h := h'; clear h'
 have hc3 := c_impl_validClusters (Bi := Bi) (Bj := Bj) (Ca := Ca) (Cb := Cb) hx2
 refine st_call (cx_call hc3 (ent_f hc3.fn rfl) hn0 (H.sel' [0, 1, 0, 1] rfl rfl : Hp S0 σ0 _ ([_, _] ++ _))) wn ?_
 rintro _ σ4 ⟨_, ⟨rfl, rfl⟩, H, -⟩
 replace H : Hp _ _ _ [_, _] := H
 refine st (v := (B (!r1))) (rv_not rfl) (w_end (q_then ?_))
 refine cd_cond (!r1) rfl (fun hb5 => ?_) (fun hb5 => ?_)
 ·replace h := bif_t hb5 h
  refine c_seq (rg (st (v := (.slice none 0 0)) (rv_assign rfl) (w_end (q_then (c_ret (q_then_r ?_))))))
  replace H := H.nilOwn Int n0 n0
  obtain rfl := Option.some.inj h
  exact fin_ret (v := (.slice none 0 0)) (results_ok Try.results37 (res_tmp (v := (.slice none 0 0)) rfl res_nil) rfl) ⟨none, 0, rfl, rfl, rfl⟩ (H.sel' [0] rfl rfl)
 ·replace h := bif_f hb5 h
  refine c_skip (q_then (c_seq (rg (st (v := (Sl Ca By Cb)) (rv_move rfl) (st (v := (I (By.length : Int))) (rv_len Try.underlying28 rfl) ?_)))))
  obtain ⟨xs6, hx7, h'⟩ := bind_some h
  clear h
  have h := h'; clear h'
  refine st_ex (ex_make (el := n0) (z0 := (0 : Int)) (zs := [(I 0)]) H hn0 Try.underlying23 ti3 rfl rfl rfl (by decide) hx7 rfl rfl) wn ?_
  rintro _ σ11 ⟨b8, c9, rfl, ht10, H, -⟩
  replace ht10 := ht10.trans (gmake_len hx7).symm
  refine st (v := (Sl (some ⟨b8, 0, none⟩) xs6 c9)) (rv_assign rfl) (w_end (q_then (c_seq (c_seq (rg (st (v := (Sl Ca By Cb)) (rv_move rfl) (st (v := (I (By.length : Int))) (rv_len Try.underlying28 rfl) (st (v := (I 0)) (rv_move rfl) (w_end (q_then ?_))))))))))
  obtain ⟨o12, hj, h'⟩ := bind_some h
  clear h
  refine c_cut (fun e a w => e = .normal ∧ ∃ (ρ : Nat → Value) (σ : St), a = fr 31 (updL ρ [(5, (Sl (some ⟨b8, 0, none⟩) o12 c9))]) ∧ w = σ.w ∧ Hp S0 σ0 σ [Ch.own n0 n0 (Sl (some ⟨b8, 0, none⟩) o12 c9) o12] ∧ c9 = o12.length ∧ o12.length = xs6.length) ?_ ?_
  ·clear h'
   rename _ = some o12 => h
   refine c_blk (wp_loopM _ h (fun s13 a w => ∃ (ρ : Nat → Value) (σ : St), a = fr 31 (updL ρ [(0, (Sl Bi Bg Bj)), (5, (Sl (some ⟨b8, 0, none⟩) s13.1 c9)), (15, (Sl Ca By Cb)), (16, (I (By.length : Int))), (17, (I s13.2))]) ∧ w = σ.w ∧ Hp S0 σ0 σ [Ch.ro 0 (Sl Bi Bg Bj) Bg, Ch.own n0 n0 (Sl (some ⟨b8, 0, none⟩) s13.1 c9) s13.1, Ch.ro 0 (Sl Ca By Cb) By] ∧ c9 = s13.1.length ∧ s13.1.length = xs6.length) ⟨_, σ11, fr_join ⟨rfl, rfl, rfl, rfl, rfl, trivial⟩, rfl, H.sel' [1, 0, 2] rfl rfl, ht10, rfl⟩ ?_)
   clear h H
   rintro s13 a w o ⟨ρ, σ14, rfl, rfl, H, ht15, hn16⟩ h hres
   refine c_seq (rg (st (v := (B (decide (s13.2 < (By.length : Int))))) (rv_lss (a := s13.2) (b := (By.length : Int)) rfl rfl) (w_end (q_then (c_seq ?_)))))
   refine cd_cond (decide (s13.2 < (By.length : Int))) rfl (fun hb17 => ?_) (fun hb17 => ?_)
   ·replace h := bif_t hb17 h
    refine c_skip (q_then (c_seq (c_blk (c_seq (rg (st (v := (I s13.2)) (rv_move rfl) ?_))))))
    obtain ⟨x18, hx19, h'⟩ := bind_some h
    clear h
    have h := h'; clear h'
    obtain ⟨b21, o22, hi20, -⟩ := (H.ro 2 rfl).ix hx19
    refine st (v := (pt b21 o22)) (rv_ix Try.underlying28 ti32 rfl rfl hi20) ?_
    obtain ⟨_, ⟨_, _, rfl, rfl, ⟨_, _, rfl, ⟨_, rfl, hR27⟩, rfl⟩⟩, hl23, hc24⟩ := ((H.ro 2 rfl).at hx19 hi20).cells
    obtain ⟨a25, c26, rfl⟩ := hR27.isSl
    replace H := H.add (d := Ch.ro 0 (Sl a25 x18.2.1 c26) x18.2.1) hR27 (fun _ h => h)
    clear hR27
    refine st (v := (.agg #[(I x18.1), (Sl a25 x18.2.1 c26), (I x18.2.2)])) (rv_load Try.underlying32 rfl ti32 rfl hl23 hc24) (st_ex (ex_alloc (cs := [(I 0), (.slice none 0 0), (I 0)]) H hn0 ti32 rfl) wn ?_)
    rintro _ σ29 ⟨b28, rfl, H, -⟩
    refine st (v := (I s13.2)) (rv_assign rfl) ?_
    refine st_exS (ex_store_box (k := 0) (cs := [(I 0), (.slice none 0 0), (I 0)]) (vs := [(I x18.1), (Sl a25 x18.2.1 c26), (I x18.2.2)]) (cs' := [(I x18.1), (Sl a25 x18.2.1 c26), (I x18.2.2)]) H (i := 0) rfl ti32 rfl rfl rfl rfl rfl (Nat.le_of_ble_eq_true rfl) (by simp [plain]) rfl) wn ?_
    rintro σ30 ⟨H, -⟩
    refine w_end (q_then (rg (st (v := (Sl (some ⟨b8, 0, none⟩) s13.1 c9)) (rv_move rfl) (st (v := (I s13.2)) (rv_move rfl) (st (v := (Sl Bi Bg Bj)) (rv_move rfl) (st (v := (pt b28 1)) (rv_fieldAddr (off := 1) (ft := 23) Try.underlying32 rfl ti23 rfl rfl) ?_))))))
    have hc31 := H.cell (u := (Sl a25 x18.2.1 c26)) (o' := 1) 0 1 rfl rfl rfl
    refine st (v := (Sl a25 x18.2.1 c26)) (rv_load1 Try.underlying23 rfl rfl hc31) ?_
    obtain ⟨r32, hx33, h'⟩ := bind_some h
    clear h
    have h := h'; clear h'
    have hc34 := c_impl_CentreOf (Bi := Bi) (Bj := Bj) (Bk := a25) (Bl := c26) hx33
    refine st_call (cx_call hc34 (ent_f hc34.fn rfl) hn0 (H.sel' [2, 1, 0, 1, 2, 3, 4] rfl rfl : Hp S0 σ0 _ ([_, _] ++ _))) wn ?_
    rintro _ σ35 ⟨_, ⟨rfl, rfl⟩, H, -⟩
    replace H : Hp _ _ _ [_, _, _, _, _] := H
    obtain ⟨x36, hx37, h'⟩ := bind_some h
    clear h
    have h := h'; clear h'
    obtain ⟨b39, o40, hi38, -⟩ := (H.own 3 rfl).ix hx37
    refine st (v := (pt b39 o40)) (rv_ix Try.underlying23 ti3 rfl rfl hi38) ?_
    refine st_exS (ex_store_own (e' := r32) (vs := [(I r32)]) (k := 0) H (i := 3) rfl ti3 hx37 hi38 rfl rfl rfl rfl rfl (Nat.le_of_ble_eq_true rfl) (by simp [plain]) (by rintro _ rfl; exact rfl)) wn ?_
    rintro σ41 ⟨H, -⟩
    have hsl : (Sl (some ⟨b8, 0, none⟩) s13.1 c9) = (Sl (some ⟨b8, 0, none⟩) (s13.1.set s13.2.toNat r32) c9) := sl_len List.length_set.symm
    rw [hsl]; rw [hsl] at H; clear hsl
    refine w_end (q_blk (q_then (rg (st (v := (I (w64 (s13.2 + 1)))) (rv_add (a := s13.2) (b := 1) rfl rfl) (st (v := (I (w64 (s13.2 + 1)))) (rv_move rfl) (w_end (q_then ?_)))))))
    obtain rfl := Option.some.inj h
    exact ⟨_, rfl, _, σ41, fr_join ⟨rfl, rfl, rfl, rfl, rfl, trivial⟩, rfl, H.sel' [3, 0, 4] rfl rfl, (ht15.trans List.length_set.symm), (List.length_set.trans hn16)⟩
   ·replace h := bif_f hb17 h
    refine c_exit (q_then_x (q_then_x (q_blk_hit ?_)))
    obtain rfl := Option.some.inj h
    obtain rfl := hres _ rfl
    exact ⟨rfl, _, σ14, fr_join ⟨rfl, trivial⟩, rfl, H.sel' [1] rfl rfl, ht15, hn16⟩
  ·clear hj
   have h := h'
   clear h' H
   rintro e a w ⟨rfl, ρ, σ42, rfl, rfl, H, ht43, hn44⟩
   refine q_then (c_seq (rg (st (v := (Sl (some ⟨b8, 0, none⟩) o12 c9)) (rv_move rfl) (st (v := (Sl (some ⟨b8, 0, none⟩) o12 c9)) (rv_assign rfl) (w_end (q_then (c_ret ?_)))))))
   obtain rfl := Option.some.inj h
   exact fin_ret (v := (Sl (some ⟨b8, 0, none⟩) o12 c9)) (results_ok Try.results37 (res_tmp (v := (Sl (some ⟨b8, 0, none⟩) o12 c9)) rfl res_nil) rfl) ⟨(some ⟨b8, 0, none⟩), c9, rfl, rfl, ht43⟩ (H.sel' [0] rfl rfl)

theorem c_impl_itemsByCentre {Bg : List (List Int)} {By : List (Int × (List Int) × Int)} {Bi : Option Addr} {Bj : Nat} {Ca : Option Addr} {Cb : Nat} {r : (List (Int × (List (Int × (List Int) × Int))))} (h : M.impl_itemsByCentre Bg By = some r) :
    Cal2 Try.prog 74 [(Sl Bi Bg Bj), (Sl Ca By Cb)] [Ch.ro 0 (Sl Bi Bg Bj) Bg, Ch.ro 0 (Sl Ca By Cb) By] (fun n0 v L => ∃ (bz1 : Nat), ∃ (Kz2 : List Ch), v = (.map (some bz1)) ∧ L = [Ch.big Kz2] ∧ Mp n0 0 bz1 r Kz2) := by
 refine cal2 (n := 31) Try.func74 rfl rfl rfl rfl ?_
 intro S0 σ0 n0 hn0 H
 unfold M.impl_itemsByCentre at h
 refine c_seq (rg (st (v := (.map none)) (rv_assign rfl) (w_end (q_then (c_seq (rg (st_ex (ex_makeMap (lo := n0) (Int × (List Int) × Int) 0 H hn0) wn ?_)))))))
 rintro _ σ4 ⟨b1, K2, rfl, hK3, H, -⟩
 refine st (v := (.map (some b1))) (rv_assign rfl) (w_end (q_then (c_seq (c_seq (rg (st (v := (Sl Bi Bg Bj)) (rv_move rfl) (st (v := (Sl Ca By Cb)) (rv_move rfl) ?_)))))))
 obtain ⟨r5, hx6, h'⟩ := bind_some h
 clear h
 have h := h'; clear h'
 have hc7 := c_impl_AssignItems (Bi := Bi) (Bj := Bj) (Ca := Ca) (Cb := Cb) hx6
 refine st_call (cx_call hc7 (ent_f hc7.fn rfl) hn0 (H.sel' [1, 2, 0, 1, 2] rfl rfl : Hp S0 σ0 _ ([_, _] ++ _))) wn ?_
 rintro _ σ11 ⟨_, ⟨a8, c9, rfl, rfl, ht10⟩, H, -⟩
 replace H : Hp _ _ _ [_, _, _, _] := H
 refine st (v := (I (r5.length : Int))) (rv_len Try.underlying23 rfl) (st (v := (I 0)) (rv_move rfl) (w_end (q_then ?_)))
 obtain ⟨o12, hj, h'⟩ := bind_some h
 clear h
 refine c_cut (fun e a w => e = .normal ∧ ∃ (ρ : Nat → Value) (σ : St) (bj1 : Nat) (Kj2 : List Ch), a = fr 31 (updL ρ [(5, (.map (some bj1)))]) ∧ w = σ.w ∧ Hp S0 σ0 σ [Ch.big Kj2] ∧ Mp n0 0 bj1 o12 Kj2) ?_ ?_
 ·clear h'
  rename _ = some o12 => h
  refine c_blk (wp_loopM _ h (fun s13 a w => ∃ (ρ : Nat → Value) (σ : St) (bj1 : Nat) (Kj2 : List Ch), a = fr 31 (updL ρ [(1, (Sl Ca By Cb)), (5, (.map (some bj1))), (11, (Sl a8 r5 c9)), (12, (I (r5.length : Int))), (13, (I s13.2))]) ∧ w = σ.w ∧ Hp S0 σ0 σ [Ch.ro 0 (Sl Ca By Cb) By, Ch.big Kj2, Ch.own n0 n0 (Sl a8 r5 c9) r5] ∧ Mp n0 0 bj1 s13.1 Kj2) ⟨_, σ11, b1, K2, fr_join ⟨rfl, rfl, rfl, rfl, rfl, trivial⟩, rfl, H.sel' [3, 1, 0] rfl rfl, hK3⟩ ?_)
  clear h H
  rintro s13 a w o ⟨ρ, σ14, b15, K16, rfl, rfl, H, hK17⟩ h hres
  refine c_seq (rg (st (v := (B (decide (s13.2 < (r5.length : Int))))) (rv_lss (a := s13.2) (b := (r5.length : Int)) rfl rfl) (w_end (q_then (c_seq ?_)))))
  refine cd_cond (decide (s13.2 < (r5.length : Int))) rfl (fun hb18 => ?_) (fun hb18 => ?_)
  ·replace h := bif_t hb18 h
   refine c_skip (q_then (c_seq (c_blk (c_seq (rg (st (v := (I s13.2)) (rv_move rfl) ?_))))))
   obtain ⟨x19, hx20, h'⟩ := bind_some h
   clear h
   have h := h'; clear h'
   obtain ⟨b22, o23, hi21, -⟩ := (H.own 2 rfl).ix hx20
   refine st (v := (pt b22 o23)) (rv_ix Try.underlying23 ti3 rfl rfl hi21) ?_
   have hc24 := ((H.own 2 rfl).at hx20 hi21).int
   refine st (v := (I x19)) (rv_load1 Try.underlying3 rfl rfl hc24) (st (v := (I s13.2)) (rv_assign rfl) (st (v := (I x19)) (rv_assign rfl) (w_end (q_then ?_))))
   obtain ⟨v28, K29, H, hK30⟩ := H.mpOut x19 1 rfl hK17
   obtain ⟨a25, c26, rfl⟩ := (H.own 0 rfl).isSl
   have hL27 := hK30.look H 1 rfl
   obtain ⟨x31, hx32, h'⟩ := bind_some h
   clear h
   have h := h'; clear h'
   obtain ⟨b34, o35, hi33, -⟩ := (H.ro 2 rfl).ix hx32
   obtain ⟨_, ⟨_, _, rfl, rfl, ⟨_, _, rfl, ⟨_, rfl, hR40⟩, rfl⟩⟩, hl36, hc37⟩ := ((H.ro 2 rfl).at hx32 hi33).cells
   obtain ⟨a38, c39, rfl⟩ := hR40.isSl
   replace H := H.add (d := Ch.ro 0 (Sl a38 x31.2.1 c39) x31.2.1) hR40 (fun _ h => h)
   clear hR40
   obtain ⟨xs42, hx43, h'⟩ := bind_some h
   clear h
   have h := h'; clear h'
   have Hs := H
   refine rg2 (σ := σ14) (Nm := (Nat) × (Option Addr) × (Nat)) 11 [9, 10] [[false, false], [true, false], [true, true]] [[(0, 0), (1, 1), (2, 2)], [(0, 0), (1, 1), (2, 2)], [(0, 0), (1, 1)], [(0, 0), (1, 1)], [(0, 0), (1, 1)], [(0, 0)], [(0, 0)], [(0, 0)], [(0, 0)], [(0, 1)], [(1, 2)]] 2 [fun ((b41, a44, c45) : (Nat) × (Option Addr) × (Nat)) => fun σm => Hp S0 σ0 σm [Ch.ro 0 (Sl a38 x31.2.1 c39) x31.2.1, Ch.own n0 0 (Sl a25 (mget s13.1 x19) c26) (mget s13.1 x19), Ch.big K29, Ch.ro 0 (Sl Ca By Cb) By, Ch.own n0 n0 (Sl a8 r5 c9) r5] ∧ Md (cov []) σ14 σm, fun ((b41, a44, c45) : (Nat) × (Option Addr) × (Nat)) => fun σm => Hp S0 σ0 σm [Ch.own n0 0 (Sl (some ⟨b41, 0, none⟩) ([(x31.1, x31.2.1, x31.2.2)] : List (Int × (List Int) × Int)) 1) ([(x31.1, x31.2.1, x31.2.2)] : List (Int × (List Int) × Int)), Ch.ro 0 (Sl a38 x31.2.1 c39) x31.2.1, Ch.own n0 0 (Sl a25 (mget s13.1 x19) c26) (mget s13.1 x19), Ch.big K29, Ch.ro 0 (Sl Ca By Cb) By, Ch.own n0 n0 (Sl a8 r5 c9) r5] ∧ Md (cov []) σ14 σm, fun ((b41, a44, c45) : (Nat) × (Option Addr) × (Nat)) => fun σm => Hp S0 σ0 σm [Ch.own n0 0 (Sl a44 xs42 c45) xs42, Ch.own n0 0 (Sl (some ⟨b41, 0, none⟩) ([(x31.1, x31.2.1, x31.2.2)] : List (Int × (List Int) × Int)) 1) ([(x31.1, x31.2.1, x31.2.2)] : List (Int × (List Int) × Int)), Ch.ro 0 (Sl a38 x31.2.1 c39) x31.2.1, Ch.big K29, Ch.ro 0 (Sl Ca By Cb) By, Ch.own n0 n0 (Sl a8 r5 c9) r5] ∧ Md (fun i => (cov []) i ∨ (fun b => blk (Sl a25 (mget s13.1 x19) c26) = some b) i) σ14 σm] [fun ((b41, a44, c45) : (Nat) × (Option Addr) × (Nat)) => (.map (some b15)), fun ((b41, a44, c45) : (Nat) × (Option Addr) × (Nat)) => (I x19), fun ((b41, a44, c45) : (Nat) × (Option Addr) × (Nat)) => (.map (some b15)), fun ((b41, a44, c45) : (Nat) × (Option Addr) × (Nat)) => (I x19), fun ((b41, a44, c45) : (Nat) × (Option Addr) × (Nat)) => (Sl a25 (mget s13.1 x19) c26), fun ((b41, a44, c45) : (Nat) × (Option Addr) × (Nat)) => (Sl Ca By Cb), fun ((b41, a44, c45) : (Nat) × (Option Addr) × (Nat)) => (I s13.2), fun ((b41, a44, c45) : (Nat) × (Option Addr) × (Nat)) => (pt b34 o35), fun ((b41, a44, c45) : (Nat) × (Option Addr) × (Nat)) => (.agg #[(I x31.1), (Sl a38 x31.2.1 c39), (I x31.2.2)]), fun ((b41, a44, c45) : (Nat) × (Option Addr) × (Nat)) => (Sl (some ⟨b41, 0, none⟩) ([(x31.1, x31.2.1, x31.2.2)] : List (Int × (List Int) × Int)) 1), fun ((b41, a44, c45) : (Nat) × (Option Addr) × (Nat)) => (Sl a44 xs42 c45)] (0, none, 0) (by kernel_rfl) (by kernel_rfl) ?_ ?_ ?_
   ·intro σm m0
    exact ⟨H.grow (m0.mono fun _ h => h.elim), m0⟩
   ·refine ac rfl (by
      intro k; rintro ⟨b41, a44, c45⟩ ρ σm hJ hoff hdep
      have e5 := look_off (N := 31) (hoff 5 rfl) rfl
      exact dp_v (v := (.map (some b15))) wn (rv_move e5) rfl hJ) ?_
    refine ac rfl (by
      intro k; rintro ⟨b41, a44, c45⟩ ρ σm hJ hoff hdep
      have e7 := look_off (N := 31) (hoff 7 rfl) rfl
      exact dp_v (v := (I x19)) wn (rv_move e7) rfl hJ) ?_
    refine ac rfl (by
      intro k; rintro ⟨b41, a44, c45⟩ ρ σm hJ hoff hdep
      have e5 := look_off (N := 31) (hoff 5 rfl) rfl
      exact dp_v (v := (.map (some b15))) wn (rv_move e5) rfl hJ) ?_
    refine ac rfl (by
      intro k; rintro ⟨b41, a44, c45⟩ ρ σm hJ hoff hdep
      have e7 := look_off (N := 31) (hoff 7 rfl) rfl
      exact dp_v (v := (I x19)) wn (rv_move e7) rfl hJ) ?_
    refine all_cons (by
      refine ⟨?_, ?_⟩
      ·rintro ⟨b41, a44, c45⟩ ρ σm hJ hoff hdep
       have e20 := hdep 2 rfl rfl 20 rfl
       have e21 := hdep 3 rfl rfl 21 rfl
       obtain ⟨H, m⟩ := id hJ
       have hL27 := hK30.look H 2 rfl
       exact dp_v (v := (Sl a25 (mget s13.1 x19) c26)) wn (rv_lookup Try.underlying73 Try.underlying3 ti28 e20 e21 hL27) rfl hJ
      refine ⟨?_, ?_⟩
      ·rintro ⟨b41, a44, c45⟩ ρ σm hJ hoff hdep
       have e20 := hdep 2 rfl rfl 20 rfl
       have e21 := hdep 3 rfl rfl 21 rfl
       obtain ⟨H, m⟩ := id hJ
       have hL27 := hK30.look H 3 rfl
       exact dp_v (v := (Sl a25 (mget s13.1 x19) c26)) wn (rv_lookup Try.underlying73 Try.underlying3 ti28 e20 e21 hL27) rfl hJ
      trivial) ?_
    refine ac rfl (by
      intro k; rintro ⟨b41, a44, c45⟩ ρ σm hJ hoff hdep
      have e1 := look_off (N := 31) (hoff 1 rfl) rfl
      exact dp_v (v := (Sl Ca By Cb)) wn (rv_move e1) rfl hJ) ?_
    refine ac rfl (by
      intro k; rintro ⟨b41, a44, c45⟩ ρ σm hJ hoff hdep
      have e6 := look_off (N := 31) (hoff 6 rfl) rfl
      exact dp_v (v := (I s13.2)) wn (rv_move e6) rfl hJ) ?_
    refine ac rfl (by
      intro k; rintro ⟨b41, a44, c45⟩ ρ σm hJ hoff hdep
      have e23 := hdep 5 rfl rfl 23 rfl
      have e24 := hdep 6 rfl rfl 24 rfl
      exact dp_v (v := (pt b34 o35)) wn (rv_ix Try.underlying28 ti32 e23 e24 hi33) rfl hJ) ?_
    refine all_cons (by
      refine ⟨?_, ?_⟩
      ·rintro ⟨b41, a44, c45⟩ ρ σm hJ hoff hdep
       have e25 := hdep 7 rfl rfl 25 rfl
       obtain ⟨H, m⟩ := id hJ
       replace hc37 := fun j hj => (Hs.ro 3 rfl).hmd hx32 hi33 (k := j) (Nat.lt_of_lt_of_eq hj hl36) (hc37 j hj) m
       exact dp_v (v := (.agg #[(I x31.1), (Sl a38 x31.2.1 c39), (I x31.2.2)])) wn (rv_load Try.underlying32 rfl ti32 e25 hl36 hc37) rfl hJ
      trivial) ?_
    refine all_cons (by
      refine ⟨?_, ?_⟩
      ·rintro ⟨b41, a44, c45⟩ ρ σm hJ hoff hdep
       have e26 : look 31 ρ 26 = (.agg #[(I x31.1), (Sl a38 x31.2.1 c39), (I x31.2.2)]) := hdep 8 rfl rfl 26 rfl
       obtain ⟨H, m⟩ := id hJ
       refine dp_ex wn (ex_buildSlice (el := 0) (xs := ([(x31.1, x31.2.1, x31.2.2)] : List (Int × (List Int) × Int))) (ps := [(0, (.agg #[(I x31.1), (Sl a38 x31.2.1 c39), (I x31.2.2)]))]) (cs := [(I x31.1), (Sl a38 x31.2.1 c39), (I x31.2.2)]) H hn0 Try.underlying28 ti32 rfl (by show [(0, look 31 ρ 26)] = _; rw [e26]) (by kernel_rfl) (.cons (c := [(I x31.1), (Sl a38 x31.2.1 c39), (I x31.2.2)]) ⟨[(I x31.1)], [(Sl a38 x31.2.1 c39), (I x31.2.2)], rfl, rfl, ⟨[(Sl a38 x31.2.1 c39)], [(I x31.2.2)], rfl, ⟨_, rfl, (H.ro 0 rfl)⟩, rfl⟩⟩ (.nil)) rfl) ?_
       rintro _ σq ⟨b41x, rfl, H2, m2⟩
       exact ⟨_, (b41x, a44, c45), rfl, rfl, ⟨H2.sel' [0, 1, 2, 3, 4, 5] rfl rfl, m.comp0 m2⟩, stab [0, 1, 2, 3, 4, 5, 6, 7, 8] (by kernel_rfl) ⟨rfl, rfl, rfl, rfl, rfl, rfl, rfl, rfl, rfl, trivial⟩⟩
      trivial) ?_
    refine all_cons (by
      refine ⟨?_, ?_⟩
      ·rintro ⟨b41, a44, c45⟩ ρ σm hJ hoff hdep
       have e22 := hdep 4 rfl rfl 22 rfl
       have e27 := hdep 9 rfl rfl 27 rfl
       obtain ⟨H, m⟩ := id hJ
       refine dp_ex wn (ex_append H (i := 2) rfl Try.underlying28 Try.underlying28 ti32 rfl rfl (by decide) (H.own 0 rfl).rd hx43 hn0 e22 e27) ?_
       rintro _ σq ⟨a44x, c45x, rfl, H2, m2⟩
       exact ⟨_, (b41, a44x, c45x), rfl, rfl, ⟨H2.sel' [0, 1, 2, 3, 4, 5] rfl rfl, m.comp m2⟩, stab [0, 1, 2, 3, 4, 5, 6, 7, 8, 9] (by kernel_rfl) ⟨rfl, rfl, rfl, rfl, rfl, rfl, rfl, rfl, rfl, rfl, trivial⟩⟩
      trivial) ?_
    exact all_nil
   ·rintro ⟨b41, a44, c45⟩ ρ σ46 hJ hoff hrel
    have e1 := look_off (N := 31) (hoff 1 rfl) rfl
    have e5 := look_off (N := 31) (hoff 5 rfl) rfl
    have e11 := look_off (N := 31) (hoff 11 rfl) rfl
    have e12 := look_off (N := 31) (hoff 12 rfl) rfl
    have e13 := look_off (N := 31) (hoff 13 rfl) rfl
    have e18 := hrel 0 rfl 18 rfl
    have e19 := hrel 1 rfl 19 rfl
    have e28 := hrel 10 rfl 28 rfl
    obtain ⟨H, -⟩ := (show Hp S0 σ0 σ46 [Ch.own n0 0 (Sl a44 xs42 c45) xs42, Ch.own n0 0 (Sl (some ⟨b41, 0, none⟩) ([(x31.1, x31.2.1, x31.2.2)] : List (Int × (List Int) × Int)) 1) ([(x31.1, x31.2.1, x31.2.2)] : List (Int × (List Int) × Int)), Ch.ro 0 (Sl a38 x31.2.1 c39) x31.2.1, Ch.big K29, Ch.ro 0 (Sl Ca By Cb) By, Ch.own n0 n0 (Sl a8 r5 c9) r5] ∧ Md (fun i => (cov []) i ∨ (fun b => blk (Sl a25 (mget s13.1 x19) c26) = some b) i) σ14 σ46 from hJ)
    clear hJ Hs
    rw [fr_lookL (L := [(1, (Sl Ca By Cb)), (5, (.map (some b15))), (11, (Sl a8 r5 c9)), (12, (I (r5.length : Int))), (13, (I s13.2)), (18, (.map (some b15))), (19, (I x19)), (28, (Sl a44 xs42 c45))]) ⟨e1, e5, e11, e12, e13, e18, e19, e28, trivial⟩]
    clear hoff hrel e1 e5 e11 e12 e13 e18 e19 e28
    replace H := H.sel' [3, 0, 1, 2, 4, 5] rfl rfl
    obtain ⟨K47, hK48, he49⟩ := hK30.put (Sl a44 xs42 c45) xs42
    refine st_exS (he49 (ty := _) H Try.underlying73 Try.underlying3 rfl rfl rfl) wn ?_
    rintro σ50 ⟨H, -⟩
    refine w_end (q_blk (q_then (rg (st (v := (I (w64 (s13.2 + 1)))) (rv_add (a := s13.2) (b := 1) rfl rfl) (st (v := (I (w64 (s13.2 + 1)))) (rv_move rfl) (w_end (q_then ?_)))))))
    obtain rfl := Option.some.inj h
    exact ⟨_, rfl, _, σ50, b15, K47, fr_join ⟨rfl, rfl, rfl, rfl, rfl, trivial⟩, rfl, H.sel' [3, 0, 4] rfl rfl, hK48⟩
  ·replace h := bif_f hb18 h
   refine c_exit (q_then_x (q_then_x (q_blk_hit ?_)))
   obtain rfl := Option.some.inj h
   obtain rfl := hres _ rfl
   exact ⟨rfl, _, σ14, b15, K16, fr_join ⟨rfl, trivial⟩, rfl, H.sel' [1] rfl rfl, hK17⟩
 ·clear hj
  have h := h'
  clear h' H
  rintro e a w ⟨rfl, ρ, σ51, b52, K53, rfl, rfl, H, hK54⟩
  refine q_then (c_seq (rg (st (v := (.map (some b52))) (rv_move rfl) (st (v := (.map (some b52))) (rv_assign rfl) (w_end (q_then (c_ret ?_)))))))
  obtain rfl := Option.some.inj h
  exact fin_ret (v := (.map (some b52))) (results_ok Try.results74 (res_tmp (v := (.map (some b52))) rfl res_nil) rfl) ⟨b52, K53, rfl, rfl, hK54⟩ (H.sel' [0] rfl rfl)

theorem c_impl_probedItems {Bg : List (List Int)} {By : List (Int × (List Int) × Int)} {Bt : List Int} {Bz : Int} {Bi : Option Addr} {Bj : Nat} {Ca : Option Addr} {Cb : Nat} {Bu : Option Addr} {Bv : Nat} {r : (List (Int × (List Int) × Int))} (h : M.impl_probedItems Bg By Bt Bz = some r) :
    Cal2 Try.prog 94 [(Sl Bi Bg Bj), (Sl Ca By Cb), (Sl Bu Bt Bv), (I Bz)] [Ch.ro 0 (Sl Bi Bg Bj) Bg, Ch.ro 0 (Sl Ca By Cb) By, Ch.ro 0 (Sl Bu Bt Bv) Bt] (fun n0 v L => ∃ (az1 : Option Addr), ∃ (cz2 : Nat), v = (Sl az1 r cz2) ∧ L = [Ch.own n0 0 (Sl az1 r cz2) r]) := by
 refine cal2 (n := 32) Try.func94 rfl rfl rfl rfl ?_
 intro S0 σ0 n0 hn0 H
 unfold M.impl_probedItems at h
 refine c_seq (rg (st (v := (.slice none 0 0)) (rv_assign rfl) (w_end (q_then (c_seq (rg (st (v := (Sl Bi Bg Bj)) (rv_move rfl) (st (v := (Sl Ca By Cb)) (rv_move rfl) ?_))))))))
 obtain ⟨r1, hx2, h'⟩ := bind_some h
 clear h
 have h := h'; clear h'
 have hc3 := c_impl_itemsByCentre (Bi := Bi) (Bj := Bj) (Ca := Ca) (Cb := Cb) hx2
 refine st_call (cx_call hc3 (ent_f hc3.fn rfl) hn0 (H.sel' [0, 1, 0, 1, 2] rfl rfl : Hp S0 σ0 _ ([_, _] ++ _))) wn ?_
 rintro _ σ7 ⟨_, ⟨b4, K5, rfl, rfl, hK6⟩, H, -⟩
 replace H : Hp _ _ _ [_, _, _, _] := H
 refine st (v := (.map (some b4))) (rv_assign rfl) (w_end (q_then (c_seq (rg (st (v := (.slice none 0 0)) (rv_assign rfl) (w_end (q_then (c_seq (c_seq (rg (st (v := (Sl Bi Bg Bj)) (rv_move rfl) ?_)))))))))))
 refine st (v := (Sl Bu Bt Bv)) (rv_move rfl) (st (v := (I Bz)) (rv_move rfl) ?_)
 obtain ⟨r8, hx9, h'⟩ := bind_some h
 clear h
 have h := h'; clear h'
 have hc10 := c_impl_ProbeOrder (Bi := Bi) (Bj := Bj) (Bk := Bu) (Bl := Bv) hx9
 refine st_call (cx_call hc10 (ent_f hc10.fn rfl) hn0 (H.sel' [1, 3, 0, 1, 2, 3] rfl rfl : Hp S0 σ0 _ ([_, _] ++ _))) wn ?_
 rintro _ σ13 ⟨_, ⟨a11, c12, rfl, rfl⟩, H, -⟩
 replace H : Hp _ _ _ [_, _, _, _, _] := H
 refine st (v := (I (r8.length : Int))) (rv_len Try.underlying23 rfl) (st (v := (I 0)) (rv_move rfl) (w_end (q_then ?_)))
 obtain ⟨o14, hj, h'⟩ := bind_some h
 clear h
 refine c_cut (fun e a w => e = .normal ∧ ∃ (ρ : Nat → Value) (σ : St) (aj1 : Option Addr) (cj2 : Nat), a = fr 32 (updL ρ [(10, (Sl aj1 o14 cj2))]) ∧ w = σ.w ∧ Hp S0 σ0 σ [Ch.own n0 0 (Sl aj1 o14 cj2) o14]) ?_ ?_
 ·clear h'
  rename _ = some o14 => h
  refine c_blk ?_
  obtain ⟨σ16, hw17, H, -⟩ := H.mpPub 1 rfl hK6
  rw [← hw17]; clear hw17
  replace H := H.nilOwn (Int × (List Int) × Int) n0 0
  refine wp_loopM _ h (fun s15 a w => ∃ (ρ : Nat → Value) (σ : St) (aj1 : Option Addr) (cj2 : Nat), a = fr 32 (updL ρ [(9, (.map (some b4))), (10, (Sl aj1 s15.1 cj2)), (19, (Sl a11 r8 c12)), (20, (I (r8.length : Int))), (21, (I s15.2))]) ∧ w = σ.w ∧ Hp S0 σ0 σ [Ch.mr b4 r1, Ch.own n0 0 (Sl aj1 s15.1 cj2) s15.1, Ch.own 0 n0 (Sl a11 r8 c12) r8]) ⟨_, σ16, none, 0, fr_join ⟨rfl, rfl, rfl, rfl, rfl, trivial⟩, rfl, H.sel' [1, 0, 2] rfl rfl⟩ ?_
  clear h H
  rintro s15 a w o ⟨ρ, σ18, a19, c20, rfl, rfl, H⟩ h hres
  refine c_seq (rg (st (v := (B (decide (s15.2 < (r8.length : Int))))) (rv_lss (a := s15.2) (b := (r8.length : Int)) rfl rfl) (w_end (q_then (c_seq ?_)))))
  refine cd_cond (decide (s15.2 < (r8.length : Int))) rfl (fun hb21 => ?_) (fun hb21 => ?_)
  ·replace h := bif_t hb21 h
   refine c_skip (q_then (c_seq (c_blk (c_seq (rg ?_)))))
   obtain ⟨x22, hx23, h'⟩ := bind_some h
   clear h
   have h := h'; clear h'
   obtain ⟨b25, o26, hi24, -⟩ := (H.own 2 rfl).ix hx23
   refine st (v := (pt b25 o26)) (rv_ix Try.underlying23 ti3 rfl rfl hi24) ?_
   have hc27 := ((H.own 2 rfl).at hx23 hi24).int
   refine st (v := (I x22)) (rv_load1 Try.underlying3 rfl rfl hc27) (st (v := (I x22)) (rv_assign rfl) (w_end (q_then (rg (st (v := (Sl a19 s15.1 c20)) (rv_move rfl) (st (v := (.map (some b4))) (rv_move rfl) (st (v := (I x22)) (rv_move rfl) ?_)))))))
   obtain ⟨v31, hL30, hR32⟩ := mrGet (H.mr 0 rfl) x22
   obtain ⟨a28, c29, rfl⟩ := hR32.isSl
   replace H := H.add (d := Ch.ro 0 (Sl a28 (mget r1 x22) c29) (mget r1 x22)) hR32 (fun _ h => h)
   clear hR32
   refine st (v := (Sl a28 (mget r1 x22) c29)) (rv_lookup Try.underlying73 Try.underlying3 ti28 rfl rfl hL30) ?_
   obtain ⟨xs33, hx34, h'⟩ := bind_some h
   clear h
   have h := h'; clear h'
   refine st_ex (ex_append H (i := 2) rfl Try.underlying28 Try.underlying28 ti32 rfl rfl (by decide) (H.ro 0 rfl).rd hx34 hn0 rfl rfl) wn ?_
   rintro _ σ37 ⟨a35, c36, rfl, H, -⟩
   refine st (v := (Sl a35 xs33 c36)) (rv_assign rfl) (w_end (q_blk (q_then (rg (st (v := (I (w64 (s15.2 + 1)))) (rv_add (a := s15.2) (b := 1) rfl rfl) (st (v := (I (w64 (s15.2 + 1)))) (rv_move rfl) (w_end (q_then ?_))))))))
   obtain rfl := Option.some.inj h
   exact ⟨_, rfl, _, σ37, a35, c36, fr_join ⟨rfl, rfl, rfl, rfl, rfl, trivial⟩, rfl, H.sel' [2, 0, 3] rfl rfl⟩
  ·replace h := bif_f hb21 h
   refine c_exit (q_then_x (q_then_x (q_blk_hit ?_)))
   obtain rfl := Option.some.inj h
   obtain rfl := hres _ rfl
   exact ⟨rfl, _, σ18, a19, c20, fr_join ⟨rfl, trivial⟩, rfl, H.sel' [1] rfl rfl⟩
 ·clear hj
  have h := h'
  clear h' H
  rintro e a w ⟨rfl, ρ, σ38, a39, c40, rfl, rfl, H⟩
  refine q_then (c_seq (rg (st (v := (Sl a39 o14 c40)) (rv_move rfl) (st (v := (Sl a39 o14 c40)) (rv_assign rfl) (w_end (q_then (c_ret ?_)))))))
  obtain rfl := Option.some.inj h
  exact fin_ret (v := (Sl a39 o14 c40)) (results_ok Try.results94 (res_tmp (v := (Sl a39 o14 c40)) rfl res_nil) rfl) ⟨a39, c40, rfl, rfl⟩ (H.sel' [0] rfl rfl)

theorem c_impl_ProbeCost {Bg : List (List Int)} {By : List (Int × (List Int) × Int)} {Bt : List Int} {Bz : Int} {Bi : Option Addr} {Bj : Nat} {Ca : Option Addr} {Cb : Nat} {Bu : Option Addr} {Bv : Nat} {r : Int} (h : M.impl_ProbeCost Bg By Bt Bz = some r) :
    Cal2 Try.prog 53 [(Sl Bi Bg Bj), (Sl Ca By Cb), (Sl Bu Bt Bv), (I Bz)] [Ch.ro 0 (Sl Bi Bg Bj) Bg, Ch.ro 0 (Sl Ca By Cb) By, Ch.ro 0 (Sl Bu Bt Bv) Bt] (fun n0 v L => v = (I r) ∧ L = []) := by
 refine cal2 (n := 28) Try.func53 rfl rfl rfl rfl ?_
 intro S0 σ0 n0 hn0 H
 unfold M.impl_ProbeCost at h
 refine c_seq (rg (st (v := (I 0)) (rv_assign rfl) (w_end (q_then (c_seq (c_seq ?_))))))
 obtain ⟨o1, hj, h'⟩ := bind_some h
 clear h
 refine c_cut (fun e a w => e = .normal ∧ ∃ (ρ : Nat → Value) (σ : St), a = fr 28 (updL ρ [(0, (Sl Bi Bg Bj)), (1, (Sl Ca By Cb)), (2, (Sl Bu Bt Bv)), (3, (I Bz)), (18, (B o1))]) ∧ w = σ.w ∧ Hp S0 σ0 σ [Ch.ro 0 (Sl Bi Bg Bj) Bg, Ch.ro 0 (Sl Ca By Cb) By, Ch.ro 0 (Sl Bu Bt Bv) Bt]) ?_ ?_
 ·clear h'
  rename _ = some o1 => h
  refine rg (st (v := (Sl Bi Bg Bj)) (rv_move rfl) (st (v := (Sl Bu Bt Bv)) (rv_move rfl) (st (v := (I Bz)) (rv_move rfl) ?_)))
  obtain ⟨r2, hx3, h'⟩ := bind_some h
  clear h
  have h := h'; clear h'
  have hc4 := c_impl_validProbe (Bi := Bi) (Bj := Bj) (Bk := Bu) (Bl := Bv) hx3
  refine st_call (cx_call hc4 (ent_f hc4.fn rfl) hn0 (H.sel' [0, 2, 0, 1, 2] rfl rfl : Hp S0 σ0 _ ([_, _] ++ _))) wn ?_
  rintro _ σ5 ⟨_, ⟨rfl, rfl⟩, H, -⟩
  replace H : Hp _ _ _ [_, _, _] := H
  refine st (v := (B (!r2))) (rv_not rfl) (st (v := (B (!r2))) (rv_move rfl) ?_)
  rcases Bool.eq_false_or_eq_true (!r2) with hb6 | hb6
  ·replace h := bif_t hb6 h
   refine st_skip (congrArg some hb6) (st_skip (congrArg some hb6) (st_skip (congrArg some hb6) (st (v := (B true)) (rv_pick_t (congrArg B hb6) rfl) (w_end ?_))))
   obtain rfl := Option.some.inj h
   exact ⟨rfl, _, σ5, fr_join ⟨rfl, rfl, rfl, rfl, rfl, trivial⟩, rfl, H.sel' [0, 1, 2] rfl rfl⟩
  ·replace h := bif_f hb6 h
   refine st_g (v := (Sl Ca By Cb)) (congrArg some hb6) (rv_move rfl) ?_
   obtain ⟨r7, hx8, h'⟩ := bind_some h
   clear h
   have h := h'; clear h'
   have hc9 := c_impl_ValidStore (As := Ca) (Au := Cb) hx8
   refine st_call (cx_call hc9 (ent_f hc9.fn rfl) hn0 (H.sel' [1, 0, 1, 2] rfl rfl : Hp S0 σ0 _ ([_] ++ _))) (wanted_yes rfl (by exact (congrArg some hb6))) ?_
   rintro _ σ10 ⟨_, ⟨rfl, rfl⟩, H, -⟩
   replace H : Hp _ _ _ [_, _, _] := H
   refine st_g (v := (B (!r7))) (congrArg some hb6) (rv_not rfl) (st (v := (B (!r7))) (rv_pick_f (congrArg B hb6) rfl) (w_end ?_))
   obtain rfl := Option.some.inj h
   exact ⟨rfl, _, σ10, fr_join ⟨rfl, rfl, rfl, rfl, rfl, trivial⟩, rfl, H.sel' [0, 1, 2] rfl rfl⟩
 ·clear hj
  have h := h'
  clear h' H
  rintro e a w ⟨rfl, ρ, σ11, rfl, rfl, H⟩
  refine q_then ?_
  refine cd_cond o1 rfl (fun hb12 => ?_) (fun hb12 => ?_)
  ·replace h := bif_t hb12 h
   refine c_seq (rg (st (v := (I (-1))) (rv_assign rfl) (w_end (q_then (c_ret (q_then_r ?_))))))
   obtain rfl := Option.some.inj h
   exact fin_ret (v := (I (-1))) (results_ok Try.results53 (res_tmp (v := (I (-1))) rfl res_nil) rfl) ⟨rfl, rfl⟩ (H.sel' [] rfl rfl)
  ·replace h := bif_f hb12 h
   refine c_skip (q_then (c_seq (rg (st (v := (Sl Bi Bg Bj)) (rv_move rfl) (st (v := (I (Bg.length : Int))) (rv_len Try.underlying41 rfl) (st (v := (Sl Bi Bg Bj)) (rv_move rfl) (st (v := (Sl Ca By Cb)) (rv_move rfl) (st (v := (Sl Bu Bt Bv)) (rv_move rfl) (st (v := (I Bz)) (rv_move rfl) ?_)))))))))
   obtain ⟨r13, hx14, h'⟩ := bind_some h
   clear h
   have h := h'; clear h'
   have hc15 := c_impl_probedItems (Bi := Bi) (Bj := Bj) (Ca := Ca) (Cb := Cb) (Bu := Bu) (Bv := Bv) hx14
   refine st_call (cx_call hc15 (ent_f hc15.fn rfl) hn0 (H.sel' [0, 1, 2, 0, 1, 2] rfl rfl : Hp S0 σ0 _ ([_, _, _] ++ _))) wn ?_
   rintro _ σ18 ⟨_, ⟨a16, c17, rfl, rfl⟩, H, -⟩
   replace H : Hp _ _ _ [_, _, _, _] := H
   refine st (v := (I (r13.length : Int))) (rv_len Try.underlying28 rfl) (st (v := (I (w64 ((Bg.length : Int) + (r13.length : Int))))) (rv_add (a := (Bg.length : Int)) (b := (r13.length : Int)) rfl rfl) (st (v := (I (w64 ((Bg.length : Int) + (r13.length : Int))))) (rv_assign rfl) (w_end (q_then (c_ret ?_)))))
   obtain rfl := Option.some.inj h
   exact fin_ret (v := (I (w64 ((Bg.length : Int) + (r13.length : Int))))) (results_ok Try.results53 (res_tmp (v := (I (w64 ((Bg.length : Int) + (r13.length : Int))))) rfl res_nil) rfl) ⟨rfl, rfl⟩ (H.sel' [] rfl rfl)

theorem c_laws_FnExactProbeCost {Gd : List (List Int)} {Ge : List (Int × (List Int) × Int)} {Gf : List Int} {Gg : Int} {Gh : Option Addr} {Gi : Nat} {Gj : Option Addr} {Gk : Nat} {Gl : Option Addr} {Gm : Nat} {r : Bool} (h : M.laws_FnExactProbeCost Gd Ge Gf Gg = some r) :
    Cal2 Try.prog 13 [(Sl Gh Gd Gi), (Sl Gj Ge Gk), (Sl Gl Gf Gm), (I Gg)] [Ch.ro 0 (Sl Gh Gd Gi) Gd, Ch.ro 0 (Sl Gj Ge Gk) Ge, Ch.ro 0 (Sl Gl Gf Gm) Gf] (fun n0 v L => v = (B r) ∧ L = []) := by
 refine cal2 (n := 65) Try.func13 rfl rfl rfl rfl ?_
 intro S0 σ0 n0 hn0 H
 unfold M.laws_FnExactProbeCost at h
 refine c_seq (rg (st (v := (B false)) (rv_assign rfl) (w_end (q_then (c_seq (c_seq (rg (st (v := (Sl Gl Gf Gm)) (rv_move rfl) (st (v := (I (Gf.length : Int))) (rv_len Try.underlying23 rfl) (st (v := (B (decide (1048576 < (Gf.length : Int))))) (rv_gtr (a := (Gf.length : Int)) (b := 1048576) rfl rfl) (w_end ?_)))))))))))
 refine q_then ?_
 refine cd_cond (decide (1048576 < (Gf.length : Int))) rfl (fun hb1 => ?_) (fun hb1 => ?_)
 ·replace h := bif_t hb1 h
  refine c_seq (rg (st (v := (B true)) (rv_assign rfl) (w_end (q_then (c_ret (q_then_r ?_))))))
  obtain rfl := Option.some.inj h
  exact fin_ret (v := (B true)) (results_ok Try.results13 (res_tmp (v := (B true)) rfl res_nil) rfl) ⟨rfl, rfl⟩ (H.sel' [] rfl rfl)
 ·replace h := bif_f hb1 h
  refine c_skip (q_then (c_seq (rg (st (v := (I 1048576)) (rv_assign rfl) (w_end (q_then (c_seq (rg (st (v := (Sl Gh Gd Gi)) (rv_move rfl) (st (v := (I 1048576)) (rv_move rfl) ?_))))))))))
  obtain ⟨r2, hx3, h'⟩ := bind_some h
  clear h
  have h := h'; clear h'
  have hc4 := c_laws_szIntSS (Ad := Gh) (Ae := Gi) hx3
  refine st_call (cx_call hc4 (ent_f hc4.fn rfl) hn0 (H.sel' [0, 0, 1, 2] rfl rfl : Hp S0 σ0 _ ([_] ++ _))) wn ?_
  rintro _ σ5 ⟨_, ⟨rfl, rfl⟩, H, -⟩
  replace H : Hp _ _ _ [_, _, _] := H
  refine st (v := (I r2)) (rv_assign rfl) (w_end (q_then (c_seq (c_seq (rg (st (v := (I r2)) (rv_move rfl) (st (v := (B (decide (r2 < 0)))) (rv_lss (a := r2) (b := 0) rfl rfl) (w_end (q_then ?_)))))))))
  refine cd_cond (decide (r2 < 0)) rfl (fun hb6 => ?_) (fun hb6 => ?_)
  ·replace h := bif_t hb6 h
   refine c_seq (rg (st (v := (B true)) (rv_assign rfl) (w_end (q_then (c_ret (q_then_r ?_))))))
   obtain rfl := Option.some.inj h
   exact fin_ret (v := (B true)) (results_ok Try.results13 (res_tmp (v := (B true)) rfl res_nil) rfl) ⟨rfl, rfl⟩ (H.sel' [] rfl rfl)
  ·replace h := bif_f hb6 h
   refine c_skip (q_then (c_seq (rg (st (v := (Sl Gj Ge Gk)) (rv_move rfl) (st (v := (I r2)) (rv_move rfl) ?_)))))
   obtain ⟨r7, hx8, h'⟩ := bind_some h
   clear h
   have h := h'; clear h'
   have hc9 := c_laws_szItemS (Ad := Gj) (Ae := Gk) hx8
   refine st_call (cx_call hc9 (ent_f hc9.fn rfl) hn0 (H.sel' [1, 0, 1, 2] rfl rfl : Hp S0 σ0 _ ([_] ++ _))) wn ?_
   rintro _ σ10 ⟨_, ⟨rfl, rfl⟩, H, -⟩
   replace H : Hp _ _ _ [_, _, _] := H
   refine st (v := (I r7)) (rv_assign rfl) (w_end (q_then (c_seq (c_seq (rg (st (v := (I r7)) (rv_move rfl) (st (v := (B (decide (r7 < 0)))) (rv_lss (a := r7) (b := 0) rfl rfl) (w_end (q_then ?_)))))))))
   refine cd_cond (decide (r7 < 0)) rfl (fun hb11 => ?_) (fun hb11 => ?_)
   ·replace h := bif_t hb11 h
    refine c_seq (rg (st (v := (B true)) (rv_assign rfl) (w_end (q_then (c_ret (q_then_r ?_))))))
    obtain rfl := Option.some.inj h
    exact fin_ret (v := (B true)) (results_ok Try.results13 (res_tmp (v := (B true)) rfl res_nil) rfl) ⟨rfl, rfl⟩ (H.sel' [] rfl rfl)
   ·replace h := bif_f hb11 h
    refine c_skip (q_then (c_seq (rg (st (v := (Sl Gh Gd Gi)) (rv_move rfl) ?_))))
    obtain ⟨r12, hx13, h'⟩ := bind_some h
    clear h
    have h := h'; clear h'
    have hc14 := c_laws_toIntSS (Ad := Gh) (Ae := Gi) hx13
    refine st_call (cx_call hc14 (ent_f hc14.fn rfl) hn0 (H.sel' [0, 0, 1, 2] rfl rfl : Hp S0 σ0 _ ([_] ++ _))) wn ?_
    rintro _ σ18 ⟨_, ⟨a15, c16, rfl, rfl, ht17⟩, H, -⟩
    replace H : Hp _ _ _ [_, _, _, _] := H
    refine st (v := (Sl Gj Ge Gk)) (rv_move rfl) ?_
    obtain ⟨r19, hx20, h'⟩ := bind_some h
    clear h
    have h := h'; clear h'
    have hc21 := c_laws_toItemS (Ad := Gj) (Ae := Gk) hx20
    refine st_call (cx_call hc21 (ent_f hc21.fn rfl) hn0 (H.sel' [2, 0, 1, 2, 3] rfl rfl : Hp S0 σ0 _ ([_] ++ _))) wn ?_
    rintro _ σ25 ⟨_, ⟨a22, c23, rfl, rfl, ht24⟩, H, -⟩
    replace H : Hp _ _ _ [_, _, _, _, _] := H
    refine st (v := (Sl Gl Gf Gm)) (rv_move rfl) ?_
    obtain ⟨r26, hx27, h'⟩ := bind_some h
    clear h
    have h := h'; clear h'
    have hc28 := c_laws_toIntS (Ad := Gl) (Ae := Gm) hx27
    refine st_call (cx_call hc28 (ent_f hc28.fn rfl) hn0 (H.sel' [4, 0, 1, 2, 3, 4] rfl rfl : Hp S0 σ0 _ ([_] ++ _))) wn ?_
    rintro _ σ32 ⟨_, ⟨a29, c30, rfl, rfl, ht31⟩, H, -⟩
    replace H : Hp _ _ _ [_, _, _, _, _, _] := H
    refine st (v := (I Gg)) (rv_move rfl) ?_
    obtain ⟨σ33, hw34, H, -⟩ := H.pub 2 rfl (Nat.le_refl _)
    rw [← hw34]; clear hw34
    obtain ⟨σ35, hw36, H, -⟩ := H.pub 2 rfl (Nat.le_refl _)
    rw [← hw36]; clear hw36
    obtain ⟨σ37, hw38, H, -⟩ := H.pub 2 rfl (Nat.le_refl _)
    rw [← hw38]; clear hw38
    replace H := H.roLow 2 0 rfl (Nat.zero_le _)
    replace H := H.roLow 2 0 rfl (Nat.zero_le _)
    replace H := H.roLow 2 0 rfl (Nat.zero_le _)
    obtain ⟨r39, hx40, h'⟩ := bind_some h
    clear h
    have h := h'; clear h'
    have hc41 := c_spec_ProbeCost (Bi := a15) (Bj := c16) (Ca := a22) (Cb := c23) (Bu := a29) (Bv := c30) hx40
    refine st_call (cx_call hc41 (ent_f hc41.fn rfl) hn0 (H.sel' [2, 1, 0, 0, 1, 2, 3, 4, 5, 6, 7, 8] rfl rfl : Hp S0 σ0 _ ([_, _, _] ++ _))) wn ?_
    rintro _ σ42 ⟨_, ⟨rfl, rfl⟩, H, -⟩
    replace H : Hp _ _ _ [_, _, _, _, _, _, _, _, _] := H
    replace H : Hp S0 σ0 σ42 [Ch.ro 0 (Sl Gh Gd Gi) Gd, Ch.ro 0 (Sl Gj Ge Gk) Ge, Ch.ro 0 (Sl Gl Gf Gm) Gf] := H.sel' [6, 7, 8] rfl rfl
    refine st (v := (I r39)) (rv_assign rfl) (w_end (q_then (c_seq (rg (st (v := (Sl Gh Gd Gi)) (rv_move rfl) ?_)))))
    obtain ⟨r43, hx44, h'⟩ := bind_some h
    clear h
    have h := h'; clear h'
    have hc45 := c_laws_toIntSS (Ad := Gh) (Ae := Gi) hx44
    refine st_call (cx_call hc45 (ent_f hc45.fn rfl) hn0 (H.sel' [0, 0, 1, 2] rfl rfl : Hp S0 σ0 _ ([_] ++ _))) wn ?_
    rintro _ σ49 ⟨_, ⟨a46, c47, rfl, rfl, ht48⟩, H, -⟩
    replace H : Hp _ _ _ [_, _, _, _] := H
    refine st (v := (Sl a46 r43 c47)) (rv_assign rfl) (w_end (q_then (c_seq (rg (st (v := (Sl Gj Ge Gk)) (rv_move rfl) ?_)))))
    obtain ⟨r50, hx51, h'⟩ := bind_some h
    clear h
    have h := h'; clear h'
    have hc52 := c_laws_toItemS (Ad := Gj) (Ae := Gk) hx51
    refine st_call (cx_call hc52 (ent_f hc52.fn rfl) hn0 (H.sel' [2, 0, 1, 2, 3] rfl rfl : Hp S0 σ0 _ ([_] ++ _))) wn ?_
    rintro _ σ56 ⟨_, ⟨a53, c54, rfl, rfl, ht55⟩, H, -⟩
    replace H : Hp _ _ _ [_, _, _, _, _] := H
    refine st (v := (Sl a53 r50 c54)) (rv_assign rfl) (w_end (q_then (c_seq (rg (st (v := (Sl Gl Gf Gm)) (rv_move rfl) ?_)))))
    obtain ⟨r57, hx58, h'⟩ := bind_some h
    clear h
    have h := h'; clear h'
    have hc59 := c_laws_toIntS (Ad := Gl) (Ae := Gm) hx58
    refine st_call (cx_call hc59 (ent_f hc59.fn rfl) hn0 (H.sel' [4, 0, 1, 2, 3, 4] rfl rfl : Hp S0 σ0 _ ([_] ++ _))) wn ?_
    rintro _ σ63 ⟨_, ⟨a60, c61, rfl, rfl, ht62⟩, H, -⟩
    replace H : Hp _ _ _ [_, _, _, _, _, _] := H
    refine st (v := (Sl a60 r57 c61)) (rv_assign rfl) (w_end (q_then (c_seq (rg (st (v := (Sl a46 r43 c47)) (rv_move rfl) (st (v := (Sl a53 r50 c54)) (rv_move rfl) (st (v := (Sl a60 r57 c61)) (rv_move rfl) (st (v := (I Gg)) (rv_move rfl) ?_))))))))
    obtain ⟨r64, hx65, h'⟩ := bind_some h
    clear h
    have h := h'; clear h'
    have hc66 := c_impl_ProbeCost (Bi := a46) (Bj := c47) (Ca := a53) (Cb := c54) (Bu := a60) (Bv := c61) hx65
    have hle := Nat.le_trans hn0 H.size
    refine st_call (cx_lend (Loan.lend (Loan.lend (Loan.lend Loan.nil))) hc66 (ent_f hc66.fn rfl) (show Hp S0 σ0 _ ([Ch.own n0 n0 (Sl a46 r43 c47) r43, Ch.own n0 n0 (Sl a53 r50 c54) r50, Ch.own n0 n0 (Sl a60 r57 c61) r57] ++ ([] ++ [Ch.ro 0 (Sl Gh Gd Gi) Gd, Ch.ro 0 (Sl Gj Ge Gk) Ge, Ch.ro 0 (Sl Gl Gf Gm) Gf])) from (H.sel' [2, 1, 0, 3, 4, 5] rfl rfl)) (by rintro _ _ _ ⟨rfl, rfl⟩; exact trivial)) wn ?_
    rintro _ σ67 ⟨_, ⟨rfl, rfl⟩, H, -, -⟩
    replace H : Hp _ _ _ [_, _, _, _, _, _] := H
    clear hle
    replace H : Hp _ _ _ [_, _, _, _, _, _] := H
    refine st (v := (I r64)) (rv_assign rfl) (w_end (q_then (c_seq (c_seq (rg (st (v := (I r64)) (rv_move rfl) (st (v := (I r39)) (rv_move rfl) (st (v := (B (r64 != r39))) (rv_neq (a := r64) (b := r39) rfl rfl) (w_end (q_then ?_))))))))))
    refine cd_cond (r64 != r39) rfl (fun hb68 => ?_) (fun hb68 => ?_)
    ·replace h := bif_t hb68 h
     refine c_seq (rg (st (v := (B false)) (rv_assign rfl) (w_end (q_then (c_ret (q_then_r ?_))))))
     obtain rfl := Option.some.inj h
     exact fin_ret (v := (B false)) (results_ok Try.results13 (res_tmp (v := (B false)) rfl res_nil) rfl) ⟨rfl, rfl⟩ (H.sel' [] rfl rfl)
    ·replace h := bif_f hb68 h
     refine c_skip (q_then (c_seq (c_seq (rg (st (v := (Sl a46 r43 c47)) (rv_move rfl) (st (v := (Sl Gh Gd Gi)) (rv_move rfl) ?_))))))
     obtain ⟨r69, hx70, h'⟩ := bind_some h
     clear h
     have h := h'; clear h'
     have hc71 := c_laws_toIntSS (Ad := Gh) (Ae := Gi) hx70
     refine st_call (cx_call hc71 (ent_f hc71.fn rfl) hn0 (H.sel' [3, 0, 1, 2, 3, 4, 5] rfl rfl : Hp S0 σ0 _ ([_] ++ _))) wn ?_
     rintro _ σ75 ⟨_, ⟨a72, c73, rfl, rfl, ht74⟩, H, -⟩
     replace H : Hp _ _ _ [_, _, _, _, _, _, _] := H
     obtain ⟨σ76, hw77, H, -⟩ := H.pub 1 rfl (Nat.le_refl _)
     rw [← hw77]; clear hw77
     obtain ⟨σ78, hw79, H, -⟩ := H.pub 1 rfl (Nat.le_refl _)
     rw [← hw79]; clear hw79
     replace H := H.roLow 1 0 rfl (Nat.zero_le _)
     replace H := H.roLow 1 0 rfl (Nat.zero_le _)
     obtain ⟨r80, hx81, h'⟩ := bind_some h
     clear h
     have h := h'; clear h'
     have hc82 := c_laws_eqIntSS (Ad := a46) (Ae := c47) (Ai := a72) (Aj := c73) hx81
     refine st_call (cx_call hc82 (ent_f hc82.fn rfl) hn0 (H.sel' [1, 0, 0, 1, 2, 3, 4, 5, 6, 7, 8] rfl rfl : Hp S0 σ0 _ ([_, _] ++ _))) wn ?_
     rintro _ σ83 ⟨_, ⟨rfl, rfl⟩, H, -⟩
     replace H : Hp _ _ _ [_, _, _, _, _, _, _, _, _] := H
     replace H : Hp S0 σ0 σ83 [Ch.own n0 n0 (Sl a53 r50 c54) r50, Ch.own n0 n0 (Sl a60 r57 c61) r57, Ch.ro 0 (Sl Gj Ge Gk) Ge, Ch.ro 0 (Sl Gl Gf Gm) Gf] := H.sel' [4, 5, 7, 8] rfl rfl
     refine st (v := (B (!r80))) (rv_not rfl) (w_end (q_then ?_))
     refine cd_cond (!r80) rfl (fun hb84 => ?_) (fun hb84 => ?_)
     ·replace h := bif_t hb84 h
      refine c_seq (rg (st (v := (B false)) (rv_assign rfl) (w_end (q_then (c_ret (q_then_r ?_))))))
      obtain rfl := Option.some.inj h
      exact fin_ret (v := (B false)) (results_ok Try.results13 (res_tmp (v := (B false)) rfl res_nil) rfl) ⟨rfl, rfl⟩ (H.sel' [] rfl rfl)
     ·replace h := bif_f hb84 h
      refine c_skip (q_then (c_seq (c_seq (rg (st (v := (Sl a53 r50 c54)) (rv_move rfl) (st (v := (Sl Gj Ge Gk)) (rv_move rfl) ?_))))))
      obtain ⟨r85, hx86, h'⟩ := bind_some h
      clear h
      have h := h'; clear h'
      have hc87 := c_laws_toItemS (Ad := Gj) (Ae := Gk) hx86
      refine st_call (cx_call hc87 (ent_f hc87.fn rfl) hn0 (H.sel' [2, 0, 1, 2, 3] rfl rfl : Hp S0 σ0 _ ([_] ++ _))) wn ?_
      rintro _ σ91 ⟨_, ⟨a88, c89, rfl, rfl, ht90⟩, H, -⟩
      replace H : Hp _ _ _ [_, _, _, _, _] := H
      obtain ⟨σ92, hw93, H, -⟩ := H.pub 1 rfl (Nat.le_refl _)
      rw [← hw93]; clear hw93
      obtain ⟨σ94, hw95, H, -⟩ := H.pub 1 rfl (Nat.le_refl _)
      rw [← hw95]; clear hw95
      replace H := H.roLow 1 0 rfl (Nat.zero_le _)
      replace H := H.roLow 1 0 rfl (Nat.zero_le _)
      obtain ⟨r96, hx97, h'⟩ := bind_some h
      clear h
      have h := h'; clear h'
      have hc98 := c_laws_eqItemS (Ad := a53) (Ae := c54) (Ai := a88) (Aj := c89) hx97
      refine st_call (cx_call hc98 (ent_f hc98.fn rfl) hn0 (H.sel' [1, 0, 0, 1, 2, 3, 4, 5, 6] rfl rfl : Hp S0 σ0 _ ([_, _] ++ _))) wn ?_
      rintro _ σ99 ⟨_, ⟨rfl, rfl⟩, H, -⟩
      replace H : Hp _ _ _ [_, _, _, _, _, _, _] := H
      refine st (v := (B (!r96))) (rv_not rfl) (w_end (q_then ?_))
      refine cd_cond (!r96) rfl (fun hb100 => ?_) (fun hb100 => ?_)
      ·replace h := bif_t hb100 h
       refine c_seq (rg (st (v := (B false)) (rv_assign rfl) (w_end (q_then (c_ret (q_then_r ?_))))))
       obtain rfl := Option.some.inj h
       exact fin_ret (v := (B false)) (results_ok Try.results13 (res_tmp (v := (B false)) rfl res_nil) rfl) ⟨rfl, rfl⟩ (H.sel' [] rfl rfl)
      ·replace h := bif_f hb100 h
       refine c_skip (q_then (c_seq (c_seq (rg (st (v := (Sl a60 r57 c61)) (rv_move rfl) (st (v := (Sl Gl Gf Gm)) (rv_move rfl) ?_))))))
       obtain ⟨r101, hx102, h'⟩ := bind_some h
       clear h
       have h := h'; clear h'
       have hc103 := c_laws_toIntS (Ad := Gl) (Ae := Gm) hx102
       refine st_call (cx_call hc103 (ent_f hc103.fn rfl) hn0 (H.sel' [6, 0, 1, 2, 3, 4, 5, 6] rfl rfl : Hp S0 σ0 _ ([_] ++ _))) wn ?_
       rintro _ σ107 ⟨_, ⟨a104, c105, rfl, rfl, ht106⟩, H, -⟩
       replace H : Hp _ _ _ [_, _, _, _, _, _, _, _] := H
       replace H : Hp S0 σ0 σ107 [Ch.own n0 n0 (Sl a104 r101 c105) r101, Ch.own n0 n0 (Sl a60 r57 c61) r57] := H.sel' [0, 5] rfl rfl
       obtain ⟨σ108, hw109, H, -⟩ := H.pub 1 rfl (Nat.le_refl _)
       rw [← hw109]; clear hw109
       obtain ⟨σ110, hw111, H, -⟩ := H.pub 1 rfl (Nat.le_refl _)
       rw [← hw111]; clear hw111
       replace H := H.roLow 1 0 rfl (Nat.zero_le _)
       replace H := H.roLow 1 0 rfl (Nat.zero_le _)
       obtain ⟨r112, hx113, h'⟩ := bind_some h
       clear h
       have h := h'; clear h'
       have hc114 := c_laws_eqIntS (Ad := a60) (Ae := c61) (Ai := a104) (Aj := c105) hx113
       refine st_call (cx_call hc114 (ent_f hc114.fn rfl) hn0 (H.sel' [1, 0, 0, 1, 2, 3] rfl rfl : Hp S0 σ0 _ ([_, _] ++ _))) wn ?_
       rintro _ σ115 ⟨_, ⟨rfl, rfl⟩, H, -⟩
       replace H : Hp _ _ _ [_, _, _, _] := H
       refine st (v := (B (!r112))) (rv_not rfl) (w_end (q_then ?_))
       refine cd_cond (!r112) rfl (fun hb116 => ?_) (fun hb116 => ?_)
       ·replace h := bif_t hb116 h
        refine c_seq (rg (st (v := (B false)) (rv_assign rfl) (w_end (q_then (c_ret (q_then_r ?_))))))
        obtain rfl := Option.some.inj h
        exact fin_ret (v := (B false)) (results_ok Try.results13 (res_tmp (v := (B false)) rfl res_nil) rfl) ⟨rfl, rfl⟩ (H.sel' [] rfl rfl)
       ·replace h := bif_f hb116 h
        refine c_skip (q_then (c_seq (rg (st (v := (B true)) (rv_assign rfl) (w_end (q_then (c_ret ?_)))))))
        obtain rfl := Option.some.inj h
        exact fin_ret (v := (B true)) (results_ok Try.results13 (res_tmp (v := (B true)) rfl res_nil) rfl) ⟨rfl, rfl⟩ (H.sel' [] rfl rfl)

end Go.Vs
