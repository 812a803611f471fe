/- The functions compute what their models say. -/
import Derived.Test.YtflpjndobffkjaaKExactIsTreeOfC4
set_option linter.unusedVariables false
set_option linter.unusedSimpArgs false
set_option maxRecDepth 20000
namespace Go.Vs
open Go Go.Proofs
attribute [local irreducible] Code.wp Code.wpIn wpList wpListIn wpQuiet Calls CallsIn

theorem c_slices_SortFunc_impl_Item_impl_Item__impl_sortByDistance_1 {Af : List (Int × (List Int) × Int)} {Fj : Int} {Fk : List Int} {Fl : Option Addr} {Fm : Nat} {Fn Fo Fp : Nat} {Fq Fr : List Value} {Fs : Option Addr} {Ft : Nat} {Fu Fv Fw : Nat} {Fx Fy : List Value} {r : (List (Int × (List Int) × Int))} (h : M.slices_SortFunc_impl_Item_impl_Item__impl_sortByDistance_1 Af Fj Fk = some r) :
    Cal2 Try.prog 87 [(Sl Fl Af Fm), (.func (.func 88) #[] #[(pt Fo Fp), (pt Fv Fw)])] [Ch.own 0 0 (Sl Fl Af Fm) Af, Ch.bx Fn Fo Fp [(I Fj)] Fq Fr, Ch.bx Fu Fv Fw [(Sl Fs Fk Ft)] Fx Fy, Ch.ro 0 (Sl Fs Fk Ft) Fk] (fun n0 v L => v = (.tuple #[]) ∧ L = [Ch.own 0 0 (Sl Fl r Fm) r, Ch.bx Fn Fo Fp [(I Fj)] Fq Fr, Ch.bx Fu Fv Fw [(Sl Fs Fk Ft)] Fx Fy] ∧ r.length = Af.length) := by
 refine cal2 (n := 14) Try.func87 rfl rfl rfl rfl ?_
 intro S0 σ0 n0 hn0 H
 unfold M.slices_SortFunc_impl_Item_impl_Item__impl_sortByDistance_1 at h
 refine c_seq (rg (st (v := (Sl Fl Af Fm)) (rv_move rfl) (st (v := (I (Af.length : Int))) (rv_len Try.underlying23 rfl) (st (v := (I (Af.length : Int))) (rv_assign rfl) (w_end (q_then (rg (st (v := (Sl Fl Af Fm)) (rv_move rfl) (st (v := (I (Af.length : Int))) (rv_move rfl) (st (v := (I (Af.length : Int))) (rv_move rfl) (st (v := (.int .u64 (wk .u64 (Af.length : Int)))) (rvk_conv (k := .i64) (k' := .u64) (a := (Af.length : Int)) Try.underlying3 Try.underlying132 rfl) ?_)))))))))))
 obtain ⟨r1, hx2, h'⟩ := bind_some h
 clear h
 have h := h'; clear h'
 have hc3 := c_math_bits_Len hx2
 refine st_call (cx_call hc3 (ent_f hc3.fn rfl) hn0 (H.sel' [0, 1, 2, 3] rfl rfl : Hp S0 σ0 _ ([] ++ _))) wn ?_
 rintro _ σ4 ⟨_, ⟨rfl, rfl⟩, H, -⟩
 replace H : Hp _ _ _ [_, _, _, _] := H
 refine st (v := (.func (.func 88) #[] #[(pt Fo Fp), (pt Fv Fw)])) (rv_move rfl) ?_
 obtain ⟨r5, hx6, h'⟩ := bind_some h
 clear h
 have h := h'; clear h'
 have hc7 := c_slices_pdqsortCmpFunc_impl_Item__impl_sortByDistance_1 100 (Cp := Fl) (Cq := Fm) (Dk := Fn) (Dm := Fo) (Dn := Fp) (Do := Fq) (Dq := Fr) (Dt := Fu) (Du := Fv) (Dv := Fw) (Dw := Fx) (Dx := Fy) (Dr := Fs) (Ds := Ft) hx6
 refine st_call (cx_call hc7 (ent_f hc7.fn rfl) hn0 (H.sel' [0, 1, 2, 3, 3] rfl rfl : Hp S0 σ0 _ ([_, _, _, _] ++ _))) wn ?_
 rintro _ σ9 ⟨_, ⟨rfl, rfl, hn8⟩, H, -⟩
 replace H : Hp _ _ _ [_, _, _, _] := H
 have hsl : (Sl Fl Af Fm) = (Sl Fl r5 Fm) := sl_len hn8.symm
 try rw [hsl]
 try rw [hsl] at H
 clear hsl
 refine w_end ?_
 obtain rfl := Option.some.inj h
 exact fin_end (v := (.tuple #[])) (results_ok Try.results87 res_nil rfl) ⟨rfl, rfl, hn8⟩ (H.sel' [0, 1, 2] rfl rfl)

theorem c_impl_sortByDistance {Ai : List (Int × (List Int) × Int)} {Bl : Int} {Bm : List Int} {Aj : Option Addr} {Ak : Nat} {Bn : Option Addr} {Bo : Nat} {r : (List (Int × (List Int) × Int))} (h : M.impl_sortByDistance Ai Bl Bm = some r) :
    Cal2 Try.prog 67 [(Sl Aj Ai Ak), (I Bl), (Sl Bn Bm Bo)] [Ch.ro 0 (Sl Aj Ai Ak) Ai, Ch.ro 0 (Sl Bn Bm Bo) Bm] (fun n0 v L => ∃ (az1 : Option Addr), ∃ (cz2 : Nat), v = (Sl az1 r cz2) ∧ L = [Ch.own 0 0 (Sl az1 r cz2) r]) := by
 refine cal2 (n := 14) Try.func67 rfl rfl rfl rfl ?_
 intro S0 σ0 n0 hn0 H
 unfold M.impl_sortByDistance at h
 refine c_seq (rg (st_ex (ex_box (cs := [(I Bl)]) H hn0 rfl rfl) wn ?_))
 rintro _ σ2 ⟨b1, rfl, H, -⟩
 refine st_ex (ex_box (cs := [(Sl Bn Bm Bo)]) H hn0 rfl rfl) wn ?_
 rintro _ σ4 ⟨b3, rfl, H, -⟩
 refine st (v := (.slice none 0 0)) (rv_assign rfl) (w_end (q_then (c_seq (rg (st (v := (Sl Aj Ai Ak)) (rv_move rfl) ?_)))))
 obtain ⟨r5, hx6, h'⟩ := bind_some h
 clear h
 have h := h'; clear h'
 have hc7 := c_slices_Clone_impl_Item_impl_Item (Bc := Aj) (Bd := Ak) hx6
 refine st_call (cx_call hc7 (ent_f hc7.fn rfl) hn0 (H.sel' [2, 0, 1, 2, 3] rfl rfl : Hp S0 σ0 _ ([_] ++ _))) wn ?_
 rintro _ σ10 ⟨_, ⟨a8, c9, rfl, rfl⟩, H, -⟩
 replace H : Hp _ _ _ [_, _, _, _, _] := H
 refine st (v := (Sl a8 r5 c9)) (rv_assign rfl) (w_end (q_then (c_seq (rg (st (v := (Sl a8 r5 c9)) (rv_move rfl) (st (v := (.func (.func 88) #[] #[(pt b1 0), (pt b3 0)])) (rv_makeFunc (vs := [(pt b1 0), (pt b3 0)]) rfl) ?_))))))
 replace H := H.ownLow 0 0 0 rfl (Nat.zero_le _) (Nat.zero_le _)
 obtain ⟨r11, hx12, h'⟩ := bind_some h
 clear h
 have h := h'; clear h'
 have hc13 := c_slices_SortFunc_impl_Item_impl_Item__impl_sortByDistance_1 (Fl := a8) (Fm := c9) (Fn := n0) (Fo := b1) (Fp := 0) (Fq := []) (Fr := []) (Fu := n0) (Fv := b3) (Fw := 0) (Fx := []) (Fy := []) (Fs := Bn) (Ft := Bo) hx12
 refine st_call (cx_call hc13 (ent_f hc13.fn rfl) hn0 (H.sel' [0, 2, 1, 4, 3, 4] rfl rfl : Hp S0 σ0 _ ([_, _, _, _] ++ _))) wn ?_
 rintro _ σ15 ⟨_, ⟨rfl, rfl, hn14⟩, H, -⟩
 replace H : Hp _ _ _ [_, _, _, _, _] := H
 have hsl : (Sl a8 r5 c9) = (Sl a8 r11 c9) := sl_len hn14.symm
 try rw [hsl]
 try rw [hsl] at H
 clear hsl
 refine w_end (q_then (c_seq (rg (st (v := (Sl a8 r11 c9)) (rv_move rfl) (st (v := (Sl a8 r11 c9)) (rv_assign rfl) (w_end (q_then (c_ret ?_))))))))
 obtain rfl := Option.some.inj h
 exact fin_ret (v := (Sl a8 r11 c9)) (results_ok Try.results67 (res_tmp (v := (Sl a8 r11 c9)) rfl res_nil) rfl) ⟨a8, c9, rfl, rfl⟩ (H.sel' [0] rfl rfl)

theorem c_impl_growTree : ∀ (fuel : Nat) {Ai : List (Int × (List Int) × Int)} {Bl : Int} {Aj : Option Addr} {Ak : Nat} {r : (Tr (Int × (List Int) × Int))} (h : M.impl_growTree fuel Ai Bl = some r),
    Cal2 Try.prog 39 [(Sl Aj Ai Ak), (I Bl)] [Ch.ro 0 (Sl Aj Ai Ak) Ai] (fun n0 v L => ∃ (az1 : Option Addr), v = (.pointer az1) ∧ L = [Ch.pr 0 (.pointer az1) r]) := by
 intro fuel
 induction fuel with
 | zero => intro _ _ _ _ r h; cases h
 | succ fuel ih =>
 ·intro Ai Bl Aj Ak r h
  replace h : M.impl_growTree_F (M.impl_growTree fuel) Ai Bl = some r := h
  refine cal2 (n := 54) Try.func39 rfl rfl rfl rfl ?_
  intro S0 σ0 n0 hn0 H
  unfold M.impl_growTree_F at h
  refine c_seq (rg (st (v := (.pointer none)) (rv_assign rfl) (w_end (q_then (c_seq (c_seq (rg (st (v := (Sl Aj Ai Ak)) (rv_move rfl) (st (v := (I (Ai.length : Int))) (rv_len Try.underlying23 rfl) (st (v := (B ((Ai.length : Int) == 0))) (rv_eql (a := (Ai.length : Int)) (b := 0) rfl rfl) (w_end ?_)))))))))))
  refine q_then ?_
  refine cd_cond ((Ai.length : Int) == 0) rfl (fun hb1 => ?_) (fun hb1 => ?_)
  ·replace h := bif_t hb1 h
   refine c_seq (rg (st (v := (.pointer none)) (rv_assign rfl) (w_end (q_then (c_ret (q_then_r ?_))))))
   replace H := H.nilPr (Int × (List Int) × Int) 0
   obtain rfl := Option.some.inj h
   exact fin_ret (v := (.pointer none)) (results_ok Try.results39 (res_tmp (v := (.pointer none)) rfl res_nil) rfl) ⟨none, rfl, rfl⟩ (H.sel' [0] rfl rfl)
  ·replace h := bif_f hb1 h
   refine c_skip (q_then (c_seq (rg (st (v := (Sl Aj Ai Ak)) (rv_move rfl) ?_))))
   obtain ⟨x2, hx3, h'⟩ := bind_some h
   clear h
   have h := h'; clear h'
   obtain ⟨b5, o6, hi4, -⟩ := (H.ro 0 rfl).ix hx3
   refine st (v := (pt b5 o6)) (rv_ix Try.underlying23 ti34 rfl rfl hi4) ?_
   obtain ⟨_, ⟨_, _, rfl, rfl, ⟨_, _, rfl, ⟨_, rfl, hR11⟩, rfl⟩⟩, hl7, hc8⟩ := ((H.ro 0 rfl).at hx3 hi4).cells
   obtain ⟨a9, c10, rfl⟩ := hR11.isSl
   replace H := H.add (d := Ch.ro 0 (Sl a9 x2.2.1 c10) x2.2.1) hR11 (fun _ h => h)
   clear hR11
   refine st (v := (.agg #[(I x2.1), (Sl a9 x2.2.1 c10), (I x2.2.2)])) (rv_load Try.underlying34 rfl ti34 rfl hl7 hc8) (st_ex (ex_alloc (cs := [(I 0), (.slice none 0 0), (I 0)]) H hn0 ti34 rfl) wn ?_)
   rintro _ σ13 ⟨b12, rfl, H, -⟩
   refine st_exS (ex_store_box (k := 0) (cs := [(I 0), (.slice none 0 0), (I 0)]) (vs := [(I x2.1), (Sl a9 x2.2.1 c10), (I x2.2.2)]) (cs' := [(I x2.1), (Sl a9 x2.2.1 c10), (I x2.2.2)]) H (i := 0) rfl ti34 rfl rfl rfl rfl rfl (Nat.le_of_ble_eq_true rfl) (by simp [plain]) rfl) wn ?_
   rintro σ14 ⟨H, -⟩
   refine w_end (q_then (c_seq ?_))
   refine rgP (σ := σ14) 5 (by kernel_rfl) (by kernel_rfl) (by kernel_rfl) ?_
   refine sq (v := (Sl Aj Ai Ak)) (rv_move rfl) ?_
   obtain ⟨xs15, hx16, h'⟩ := bind_some h
   clear h
   have h := h'; clear h'
   obtain ⟨a17, c18, hs19, hR20⟩ := (H.ro 2 rfl).slice hx16
   replace H := H.add (d := Ch.ro 0 (Sl a17 xs15 c18) xs15) hR20 (fun _ h => h)
   clear hR20
   refine sq (v := (Sl a17 xs15 c18)) (rv_slice_l Try.underlying23 ti34 hs19 rfl rfl) (sq (v := (I Bl)) (rv_move rfl) (sq (v := (pt b12 1)) (rv_fieldAddr (off := 1) (ft := 29) Try.underlying34 rfl ti29 rfl rfl) ?_))
   have hc21 := H.cell (u := (Sl a9 x2.2.1 c10)) (o' := 1) 1 1 rfl rfl rfl
   refine sq (v := (Sl a9 x2.2.1 c10)) (rv_load1 Try.underlying29 rfl rfl hc21) (sq_end ?_)
   intro σ22 hm23
   replace H := H.grow (hm23.mono fun _ h => h); clear hm23
   obtain ⟨r24, hx25, h'⟩ := bind_some h
   clear h
   have h := h'; clear h'
   have hc26 := c_impl_sortByDistance (Aj := a17) (Ak := c18) (Bn := a9) (Bo := c10) hx25
   refine st_call (cx_call hc26 (ent_f hc26.fn rfl) hn0 (H.sel' [0, 2, 0, 1, 2, 3] rfl rfl : Hp S0 σ0 _ ([_, _] ++ _))) wn ?_
   rintro _ σ29 ⟨_, ⟨a27, c28, rfl, rfl⟩, H, -⟩
   replace H : Hp _ _ _ [_, _, _, _, _] := H
   refine st (v := (Sl a27 r24 c28)) (rv_assign rfl) (w_end (q_then (c_seq (rg (st (v := (Sl a27 r24 c28)) (rv_move rfl) (st (v := (I (r24.length : Int))) (rv_len Try.underlying23 rfl) (st (v := (I (w64 ((r24.length : Int) + 1)))) (rv_add (a := (r24.length : Int)) (b := 1) rfl rfl) ?_)))))))
   refine st (v := (I (w64 ((w64 ((r24.length : Int) + 1)).tdiv 2)))) (rv_quo (a := (w64 ((r24.length : Int) + 1))) (b := 2) rfl rfl (by decide)) ?_
   refine st (v := (I (w64 ((w64 ((r24.length : Int) + 1)).tdiv 2)))) (rv_assign rfl) (w_end (q_then (c_seq ?_)))
   obtain ⟨σ30, hw31, H, -⟩ := H.pub 0 rfl (Nat.le_refl _)
   rw [← hw31]; clear hw31
   have hc32 := H.cells 2 rfl
   obtain ⟨xs33, hx34, h'⟩ := bind_some h
   clear h
   have h := h'; clear h'
   obtain ⟨a35, c36, hs37, hR38⟩ := (H.ro 0 rfl).slice hx34
   replace H := H.add (d := Ch.ro 0 (Sl a35 xs33 c36) xs33) hR38 (fun _ h => h)
   clear hR38
   obtain ⟨r39, hx40, h'⟩ := bind_some h
   clear h
   have h := h'; clear h'
   have hc41 := ih (Aj := a35) (Ak := c36) hx40
   obtain ⟨xs43, hx44, h'⟩ := bind_some h
   clear h
   have h := h'; clear h'
   obtain ⟨a45, c46, hs47, hR48⟩ := (H.ro 1 rfl).slice hx44
   replace H := H.add (d := Ch.ro 0 (Sl a45 xs43 c46) xs43) hR48 (fun _ h => h)
   clear hR48
   obtain ⟨r49, hx50, h'⟩ := bind_some h
   clear h
   have h := h'; clear h'
   have hc51 := ih (Aj := a45) (Ak := c46) hx50
   have Hs := H
   refine rg2 (σ := σ30) (Nm := (Option Addr) × (Option Addr)) 11 [5, 10] [[false, false], [true, false], [true, true]] [[(0, 0), (1, 1), (2, 2)], [(0, 0)], [(0, 0)], [(0, 0)], [(0, 0)], [(0, 1)], [(0, 0), (1, 1)], [(0, 0), (1, 1)], [(0, 0), (1, 1)], [(0, 0), (1, 1)], [(1, 2)]] 2 [fun ((a42, a52) : (Option Addr) × (Option Addr)) => fun σm => Hp S0 σ0 σm [Ch.ro 0 (Sl a45 xs43 c46) xs43, Ch.ro 0 (Sl a35 xs33 c36) xs33, Ch.ro 0 (Sl a27 r24 c28) r24, Ch.ro 0 (Sl a17 xs15 c18) xs15, Ch.bx n0 b12 0 [(I x2.1), (Sl a9 x2.2.1 c10), (I x2.2.2)] [] [], Ch.ro 0 (Sl a9 x2.2.1 c10) x2.2.1, Ch.ro 0 (Sl Aj Ai Ak) Ai] ∧ Md (cov []) σ30 σm, fun ((a42, a52) : (Option Addr) × (Option Addr)) => fun σm => Hp S0 σ0 σm [Ch.pr 0 (.pointer a42) r39, Ch.ro 0 (Sl a45 xs43 c46) xs43, Ch.ro 0 (Sl a35 xs33 c36) xs33, Ch.ro 0 (Sl a27 r24 c28) r24, Ch.ro 0 (Sl a17 xs15 c18) xs15, Ch.bx n0 b12 0 [(I x2.1), (Sl a9 x2.2.1 c10), (I x2.2.2)] [] [], Ch.ro 0 (Sl a9 x2.2.1 c10) x2.2.1, Ch.ro 0 (Sl Aj Ai Ak) Ai] ∧ Md (cov []) σ30 σm, fun ((a42, a52) : (Option Addr) × (Option Addr)) => fun σm => Hp S0 σ0 σm [Ch.pr 0 (.pointer a52) r49, Ch.pr 0 (.pointer a42) r39, Ch.ro 0 (Sl a45 xs43 c46) xs43, Ch.ro 0 (Sl a35 xs33 c36) xs33, Ch.ro 0 (Sl a27 r24 c28) r24, Ch.ro 0 (Sl a17 xs15 c18) xs15, Ch.bx n0 b12 0 [(I x2.1), (Sl a9 x2.2.1 c10), (I x2.2.2)] [] [], Ch.ro 0 (Sl a9 x2.2.1 c10) x2.2.1, Ch.ro 0 (Sl Aj Ai Ak) Ai] ∧ Md (cov []) σ30 σm] [fun ((a42, a52) : (Option Addr) × (Option Addr)) => (.agg #[(I x2.1), (Sl a9 x2.2.1 c10), (I x2.2.2)]), fun ((a42, a52) : (Option Addr) × (Option Addr)) => (Sl a27 r24 c28), fun ((a42, a52) : (Option Addr) × (Option Addr)) => (I (w64 ((w64 ((r24.length : Int) + 1)).tdiv 2))), fun ((a42, a52) : (Option Addr) × (Option Addr)) => (Sl a35 xs33 c36), fun ((a42, a52) : (Option Addr) × (Option Addr)) => (I Bl), fun ((a42, a52) : (Option Addr) × (Option Addr)) => (.pointer a42), fun ((a42, a52) : (Option Addr) × (Option Addr)) => (Sl a27 r24 c28), fun ((a42, a52) : (Option Addr) × (Option Addr)) => (I (w64 ((w64 ((r24.length : Int) + 1)).tdiv 2))), fun ((a42, a52) : (Option Addr) × (Option Addr)) => (Sl a45 xs43 c46), fun ((a42, a52) : (Option Addr) × (Option Addr)) => (I Bl), fun ((a42, a52) : (Option Addr) × (Option Addr)) => (.pointer a52)] (none, none) (by kernel_rfl) (by kernel_rfl) ?_ ?_ ?_
   ·intro σm m0
    exact ⟨H.grow (m0.mono fun _ h => h.elim), m0⟩
   ·refine all_cons (by
      refine ⟨?_, ?_⟩
      ·rintro ⟨a42, a52⟩ ρ σm hJ hoff hdep
       have e5 := look_off (N := 54) (hoff 5 rfl) rfl
       obtain ⟨H, m⟩ := id hJ
       have hc32 := H.cells 4 rfl
       exact dp_v (v := (.agg #[(I x2.1), (Sl a9 x2.2.1 c10), (I x2.2.2)])) wn (rv_load (cs := [(I x2.1), (Sl a9 x2.2.1 c10), (I x2.2.2)]) Try.underlying34 rfl ti34 e5 rfl hc32) rfl hJ
      refine ⟨?_, ?_⟩
      ·rintro ⟨a42, a52⟩ ρ σm hJ hoff hdep
       have e5 := look_off (N := 54) (hoff 5 rfl) rfl
       obtain ⟨H, m⟩ := id hJ
       have hc32 := H.cells 5 rfl
       exact dp_v (v := (.agg #[(I x2.1), (Sl a9 x2.2.1 c10), (I x2.2.2)])) wn (rv_load (cs := [(I x2.1), (Sl a9 x2.2.1 c10), (I x2.2.2)]) Try.underlying34 rfl ti34 e5 rfl hc32) rfl hJ
      refine ⟨?_, ?_⟩
      ·rintro ⟨a42, a52⟩ ρ σm hJ hoff hdep
       have e5 := look_off (N := 54) (hoff 5 rfl) rfl
       obtain ⟨H, m⟩ := id hJ
       have hc32 := H.cells 6 rfl
       exact dp_v (v := (.agg #[(I x2.1), (Sl a9 x2.2.1 c10), (I x2.2.2)])) wn (rv_load (cs := [(I x2.1), (Sl a9 x2.2.1 c10), (I x2.2.2)]) Try.underlying34 rfl ti34 e5 rfl hc32) rfl hJ
      trivial) ?_
    refine ac rfl (by
      intro k; rintro ⟨a42, a52⟩ ρ σm hJ hoff hdep
      have e6 := look_off (N := 54) (hoff 6 rfl) rfl
      exact dp_v (v := (Sl a27 r24 c28)) wn (rv_move e6) rfl hJ) ?_
    refine ac rfl (by
      intro k; rintro ⟨a42, a52⟩ ρ σm hJ hoff hdep
      have e7 := look_off (N := 54) (hoff 7 rfl) rfl
      exact dp_v (v := (I (w64 ((w64 ((r24.length : Int) + 1)).tdiv 2)))) wn (rv_move e7) rfl hJ) ?_
    refine ac rfl (by
      intro k; rintro ⟨a42, a52⟩ ρ σm hJ hoff hdep
      have e26 := hdep 1 rfl rfl 26 rfl
      have e27 := hdep 2 rfl rfl 27 rfl
      exact dp_v (v := (Sl a35 xs33 c36)) wn (rv_slice_h Try.underlying23 ti34 hs37 e26 e27) rfl hJ) ?_
    refine ac rfl (by
      intro k; rintro ⟨a42, a52⟩ ρ σm hJ hoff hdep
      have e1 := look_off (N := 54) (hoff 1 rfl) rfl
      exact dp_v (v := (I Bl)) wn (rv_move e1) rfl hJ) ?_
    refine all_cons (by
      refine ⟨?_, ?_⟩
      ·rintro ⟨a42, a52⟩ ρ σm hJ hoff hdep
       have e28 : look 54 ρ 28 = (Sl a35 xs33 c36) := hdep 3 rfl rfl 28 rfl
       have e29 : look 54 ρ 29 = (I Bl) := hdep 4 rfl rfl 29 rfl
       obtain ⟨H, m⟩ := id hJ
       refine dp_cx wn (cx_call hc41 (ent_f hc41.fn (by show [look 54 ρ 28, look 54 ρ 29] = _; rw [e28, e29])) hn0 (H.sel' [1, 0, 1, 2, 3, 4, 5, 6] rfl rfl : Hp S0 σ0 _ ([_] ++ _))) ?_
       rintro _ σq ⟨_, ⟨a42x, rfl, rfl⟩, H2, m2⟩
       exact ⟨_, (a42x, a52), rfl, rfl, ⟨H2.sel' [0, 1, 2, 3, 4, 5, 6, 7] rfl rfl, m.comp0 (m2.mono (fun i h => by simp [cov, Ch.ro] at h))⟩, stab [0, 1, 2, 3, 4, 6, 7, 8, 9] (by kernel_rfl) ⟨rfl, rfl, rfl, rfl, rfl, rfl, rfl, rfl, rfl, trivial⟩⟩
      trivial) ?_
    refine ac rfl (by
      intro k; rintro ⟨a42, a52⟩ ρ σm hJ hoff hdep
      have e6 := look_off (N := 54) (hoff 6 rfl) rfl
      exact dp_v (v := (Sl a27 r24 c28)) wn (rv_move e6) rfl hJ) ?_
    refine ac rfl (by
      intro k; rintro ⟨a42, a52⟩ ρ σm hJ hoff hdep
      have e7 := look_off (N := 54) (hoff 7 rfl) rfl
      exact dp_v (v := (I (w64 ((w64 ((r24.length : Int) + 1)).tdiv 2)))) wn (rv_move e7) rfl hJ) ?_
    refine ac rfl (by
      intro k; rintro ⟨a42, a52⟩ ρ σm hJ hoff hdep
      have e31 := hdep 6 rfl rfl 31 rfl
      have e32 := hdep 7 rfl rfl 32 rfl
      exact dp_v (v := (Sl a45 xs43 c46)) wn (rv_slice_l Try.underlying23 ti34 hs47 e31 e32) rfl hJ) ?_
    refine ac rfl (by
      intro k; rintro ⟨a42, a52⟩ ρ σm hJ hoff hdep
      have e1 := look_off (N := 54) (hoff 1 rfl) rfl
      exact dp_v (v := (I Bl)) wn (rv_move e1) rfl hJ) ?_
    refine all_cons (by
      refine ⟨?_, ?_⟩
      ·rintro ⟨a42, a52⟩ ρ σm hJ hoff hdep
       have e33 : look 54 ρ 33 = (Sl a45 xs43 c46) := hdep 8 rfl rfl 33 rfl
       have e34 : look 54 ρ 34 = (I Bl) := hdep 9 rfl rfl 34 rfl
       obtain ⟨H, m⟩ := id hJ
       refine dp_cx wn (cx_call hc51 (ent_f hc51.fn (by show [look 54 ρ 33, look 54 ρ 34] = _; rw [e33, e34])) hn0 (H.sel' [1, 0, 1, 2, 3, 4, 5, 6, 7] rfl rfl : Hp S0 σ0 _ ([_] ++ _))) ?_
       rintro _ σq ⟨_, ⟨a52x, rfl, rfl⟩, H2, m2⟩
       exact ⟨_, (a42, a52x), rfl, rfl, ⟨H2.sel' [0, 1, 2, 3, 4, 5, 6, 7, 8] rfl rfl, m.comp0 (m2.mono (fun i h => by simp [cov, Ch.ro] at h))⟩, stab [0, 1, 2, 3, 4, 5, 6, 7, 8, 9] (by kernel_rfl) ⟨rfl, rfl, rfl, rfl, rfl, rfl, rfl, rfl, rfl, rfl, trivial⟩⟩
      trivial) ?_
    exact all_nil
   ·rintro ⟨a42, a52⟩ ρ σ53 hJ hoff hrel
    have e1 := look_off (N := 54) (hoff 1 rfl) rfl
    have e5 := look_off (N := 54) (hoff 5 rfl) rfl
    have e6 := look_off (N := 54) (hoff 6 rfl) rfl
    have e7 := look_off (N := 54) (hoff 7 rfl) rfl
    have e25 := hrel 0 rfl 25 rfl
    have e30 := hrel 5 rfl 30 rfl
    have e35 := hrel 10 rfl 35 rfl
    obtain ⟨H, -⟩ := (show Hp S0 σ0 σ53 [Ch.pr 0 (.pointer a52) r49, Ch.pr 0 (.pointer a42) r39, Ch.ro 0 (Sl a45 xs43 c46) xs43, Ch.ro 0 (Sl a35 xs33 c36) xs33, Ch.ro 0 (Sl a27 r24 c28) r24, Ch.ro 0 (Sl a17 xs15 c18) xs15, Ch.bx n0 b12 0 [(I x2.1), (Sl a9 x2.2.1 c10), (I x2.2.2)] [] [], Ch.ro 0 (Sl a9 x2.2.1 c10) x2.2.1, Ch.ro 0 (Sl Aj Ai Ak) Ai] ∧ Md (cov []) σ30 σ53 from hJ)
    clear hJ Hs
    rw [fr_lookL (L := [(1, (I Bl)), (5, (pt b12 0)), (6, (Sl a27 r24 c28)), (7, (I (w64 ((w64 ((r24.length : Int) + 1)).tdiv 2)))), (25, (.agg #[(I x2.1), (Sl a9 x2.2.1 c10), (I x2.2.2)])), (30, (.pointer a42)), (35, (.pointer a52))]) ⟨e1, e5, e6, e7, e25, e30, e35, trivial⟩]
    clear hoff hrel e1 e5 e6 e7 e25 e30 e35
    refine st (v := (.agg #[(I x2.1), (Sl a9 x2.2.1 c10), (I x2.2.2), (I 0), (.pointer a42), (.pointer a52)])) (rv_build (ps := [(0, (.agg #[(I x2.1), (Sl a9 x2.2.1 c10), (I x2.2.2)])), (2, (.pointer a42)), (3, (.pointer a52))]) Try.underlying98 ti98 (bp98 Try.underlying98) rfl (by kernel_rfl)) ?_
    refine st_ex (ex_box (cs := [(I x2.1), (Sl a9 x2.2.1 c10), (I x2.2.2), (I 0), (.pointer a42), (.pointer a52)]) H hn0 rfl rfl) wn ?_
    rintro _ σ55 ⟨b54, rfl, H, -⟩
    replace H : Hp S0 σ0 σ55 [Ch.bx n0 b54 0 [(I x2.1), (Sl a9 x2.2.1 c10), (I x2.2.2), (I 0), (.pointer a42), (.pointer a52)] [] [], Ch.pr 0 (.pointer a52) r49, Ch.pr 0 (.pointer a42) r39, Ch.ro 0 (Sl a27 r24 c28) r24, Ch.bx n0 b12 0 [(I x2.1), (Sl a9 x2.2.1 c10), (I x2.2.2)] [] [], Ch.ro 0 (Sl a9 x2.2.1 c10) x2.2.1] := H.sel' [0, 1, 2, 5, 7, 8] rfl rfl
    refine st (v := (pt b54 0)) (rv_assign rfl) (w_end (q_then (c_seq (c_seq (rg (st (v := (I (w64 ((w64 ((r24.length : Int) + 1)).tdiv 2)))) (rv_move rfl) (st (v := (B (decide (0 < (w64 ((w64 ((r24.length : Int) + 1)).tdiv 2)))))) (rv_gtr (a := (w64 ((w64 ((r24.length : Int) + 1)).tdiv 2))) (b := 0) rfl rfl) (w_end (q_then ?_)))))))))
    obtain ⟨o56, hj, h'⟩ := bind_some h
    clear h
    refine c_cut (fun e a w => e = .normal ∧ ∃ (ρ : Nat → Value) (σ : St) (aj1 : Option Addr) (cj2 : Nat) (aj3 : Option Addr) (aj4 : Option Addr), a = fr 54 (updL ρ [(8, (pt b54 0))]) ∧ w = σ.w ∧ Hp S0 σ0 σ [Ch.bx n0 b54 0 [(I o56.1.1), (Sl aj1 o56.1.2.1 cj2), (I o56.1.2.2), (I o56.2.1), (.pointer aj3), (.pointer aj4)] [] [], Ch.ro 0 (Sl aj1 o56.1.2.1 cj2) o56.1.2.1, Ch.pr 0 (.pointer aj3) o56.2.2.1, Ch.pr 0 (.pointer aj4) o56.2.2.2]) ?_ ?_
    ·clear h'
     rename _ = some o56 => h
     refine cd_cond (decide (0 < (w64 ((w64 ((r24.length : Int) + 1)).tdiv 2)))) rfl (fun hb57 => ?_) (fun hb57 => ?_)
     ·replace h := bif_t hb57 h
      have hc58 := H.cell (u := (Sl a9 x2.2.1 c10)) (o' := 1) 4 1 rfl rfl rfl
      obtain ⟨x59, hx60, h'⟩ := bind_some h
      clear h
      have h := h'; clear h'
      obtain ⟨b62, o63, hi61, -⟩ := (H.ro 3 rfl).ix hx60
      obtain ⟨v67, hc68, hR66⟩ := ((H.ro 3 rfl).at hx60 hi61).snd.fst.slice
      obtain ⟨a64, c65, rfl⟩ := hR66.isSl
      replace H := H.add (d := Ch.ro 0 (Sl a64 x59.2.1 c65) x59.2.1) hR66 (fun _ h => h)
      clear hR66
      obtain ⟨r69, hx70, h'⟩ := bind_some h
      clear h
      have h := h'; clear h'
      have hc71 := c_impl_Distance (Ax := a9) (Ay := c10) (Az := a64) (Ba := c65) hx70
      have Hs := H
      refine rg2 (σ := σ55) (Nm := Unit) 11 [10] [[false], [true]] [[(0, 0), (1, 1)], [(0, 0)], [(0, 0)], [(0, 0)], [(0, 0)], [(0, 0)], [(0, 0)], [(0, 0)], [(0, 0)], [(0, 0)], [(0, 1)]] 1 [fun _ => fun σm => Hp S0 σ0 σm [Ch.ro 0 (Sl a64 x59.2.1 c65) x59.2.1, Ch.bx n0 b54 0 [(I x2.1), (Sl a9 x2.2.1 c10), (I x2.2.2), (I 0), (.pointer a42), (.pointer a52)] [] [], Ch.pr 0 (.pointer a52) r49, Ch.pr 0 (.pointer a42) r39, Ch.ro 0 (Sl a27 r24 c28) r24, Ch.bx n0 b12 0 [(I x2.1), (Sl a9 x2.2.1 c10), (I x2.2.2)] [] [], Ch.ro 0 (Sl a9 x2.2.1 c10) x2.2.1] ∧ Md (cov []) σ55 σm, fun _ => fun σm => Hp S0 σ0 σm [Ch.ro 0 (Sl a64 x59.2.1 c65) x59.2.1, Ch.bx n0 b54 0 [(I x2.1), (Sl a9 x2.2.1 c10), (I x2.2.2), (I 0), (.pointer a42), (.pointer a52)] [] [], Ch.pr 0 (.pointer a52) r49, Ch.pr 0 (.pointer a42) r39, Ch.ro 0 (Sl a27 r24 c28) r24, Ch.bx n0 b12 0 [(I x2.1), (Sl a9 x2.2.1 c10), (I x2.2.2)] [] [], Ch.ro 0 (Sl a9 x2.2.1 c10) x2.2.1] ∧ Md (cov []) σ55 σm] [fun _ => (pt b54 0), fun _ => (I Bl), fun _ => (pt b12 1), fun _ => (Sl a9 x2.2.1 c10), fun _ => (Sl a27 r24 c28), fun _ => (I (w64 ((w64 ((r24.length : Int) + 1)).tdiv 2))), fun _ => (I (w64 ((w64 ((w64 ((r24.length : Int) + 1)).tdiv 2)) - 1))), fun _ => (pt b62 o63), fun _ => (pt b62 (o63 + 1)), fun _ => (Sl a64 x59.2.1 c65), fun _ => (I r69)] () (by kernel_rfl) (by kernel_rfl) ?_ ?_ ?_
      ·intro σm m0
       exact ⟨H.grow (m0.mono fun _ h => h.elim), m0⟩
      ·refine ac rfl (by
         intro k _nm ρ σm hJ hoff hdep
         have e8 := look_off (N := 54) (hoff 8 rfl) rfl
         exact dp_v (v := (pt b54 0)) wn (rv_move e8) rfl hJ) ?_
       refine ac rfl (by
         intro k _nm ρ σm hJ hoff hdep
         have e1 := look_off (N := 54) (hoff 1 rfl) rfl
         exact dp_v (v := (I Bl)) wn (rv_move e1) rfl hJ) ?_
       refine ac rfl (by
         intro k _nm ρ σm hJ hoff hdep
         have e5 := look_off (N := 54) (hoff 5 rfl) rfl
         exact dp_v (v := (pt b12 1)) wn (rv_fieldAddr (off := 1) (ft := 29) Try.underlying34 rfl ti29 rfl e5) rfl hJ) ?_
       refine all_cons (by
         refine ⟨?_, ?_⟩
         ·intro _nm ρ σm hJ hoff hdep
          have e42 := hdep 2 rfl rfl 42 rfl
          obtain ⟨H, m⟩ := id hJ
          have hc58 := H.cell (u := (Sl a9 x2.2.1 c10)) (o' := 1) 5 1 rfl rfl rfl
          exact dp_v (v := (Sl a9 x2.2.1 c10)) wn (rv_load1 Try.underlying29 rfl e42 hc58) rfl hJ
         trivial) ?_
       refine ac rfl (by
         intro k _nm ρ σm hJ hoff hdep
         have e6 := look_off (N := 54) (hoff 6 rfl) rfl
         exact dp_v (v := (Sl a27 r24 c28)) wn (rv_move e6) rfl hJ) ?_
       refine ac rfl (by
         intro k _nm ρ σm hJ hoff hdep
         have e7 := look_off (N := 54) (hoff 7 rfl) rfl
         exact dp_v (v := (I (w64 ((w64 ((r24.length : Int) + 1)).tdiv 2)))) wn (rv_move e7) rfl hJ) ?_
       refine ac rfl (by
         intro k _nm ρ σm hJ hoff hdep
         have e45 := hdep 5 rfl rfl 45 rfl
         exact dp_v (v := (I (w64 ((w64 ((w64 ((r24.length : Int) + 1)).tdiv 2)) - 1)))) wn (rv_sub (a := (w64 ((w64 ((r24.length : Int) + 1)).tdiv 2))) (b := 1) e45 rfl) rfl hJ) ?_
       refine ac rfl (by
         intro k _nm ρ σm hJ hoff hdep
         have e44 := hdep 4 rfl rfl 44 rfl
         have e46 := hdep 6 rfl rfl 46 rfl
         exact dp_v (v := (pt b62 o63)) wn (rv_ix Try.underlying23 ti34 e44 e46 hi61) rfl hJ) ?_
       refine ac rfl (by
         intro k _nm ρ σm hJ hoff hdep
         have e47 := hdep 7 rfl rfl 47 rfl
         exact dp_v (v := (pt b62 (o63 + 1))) wn (rv_fieldAddr (off := 1) (ft := 29) Try.underlying34 rfl ti29 rfl e47) rfl hJ) ?_
       refine all_cons (by
         refine ⟨?_, ?_⟩
         ·intro _nm ρ σm hJ hoff hdep
          have e48 := hdep 8 rfl rfl 48 rfl
          obtain ⟨H, m⟩ := id hJ
          replace hc68 := (Hs.ro 4 rfl).hmd hx60 hi61 (k := 1) (by decide) hc68 m
          exact dp_v (v := (Sl a64 x59.2.1 c65)) wn (rv_load1 Try.underlying29 rfl e48 hc68) rfl hJ
         trivial) ?_
       refine all_cons (by
         refine ⟨?_, ?_⟩
         ·intro _nm ρ σm hJ hoff hdep
          have e41 : look 54 ρ 41 = (I Bl) := hdep 1 rfl rfl 41 rfl
          have e43 : look 54 ρ 43 = (Sl a9 x2.2.1 c10) := hdep 3 rfl rfl 43 rfl
          have e49 : look 54 ρ 49 = (Sl a64 x59.2.1 c65) := hdep 9 rfl rfl 49 rfl
          obtain ⟨H, m⟩ := id hJ
          refine dp_cx wn (cx_call hc71 (ent_f hc71.fn (by show [look 54 ρ 41, look 54 ρ 43, look 54 ρ 49] = _; rw [e41, e43, e49])) hn0 (H.sel' [6, 0, 0, 1, 2, 3, 4, 5, 6] rfl rfl : Hp S0 σ0 _ ([_, _] ++ _))) ?_
          rintro _ σq ⟨_, ⟨rfl, rfl⟩, H2, m2⟩
          exact ⟨_, (), rfl, rfl, ⟨H2.sel' [0, 1, 2, 3, 4, 5, 6] rfl rfl, m.comp0 (m2.mono (fun i h => by simp [cov, Ch.ro] at h))⟩, stab [0, 1, 2, 3, 4, 5, 6, 7, 8, 9] (by kernel_rfl) ⟨rfl, rfl, rfl, rfl, rfl, rfl, rfl, rfl, rfl, rfl, trivial⟩⟩
         trivial) ?_
       exact all_nil
      ·intro _nm ρ σ72 hJ hoff hrel
       have e8 := look_off (N := 54) (hoff 8 rfl) rfl
       have e40 := hrel 0 rfl 40 rfl
       have e50 := hrel 10 rfl 50 rfl
       obtain ⟨H, -⟩ := (show Hp S0 σ0 σ72 [Ch.ro 0 (Sl a64 x59.2.1 c65) x59.2.1, Ch.bx n0 b54 0 [(I x2.1), (Sl a9 x2.2.1 c10), (I x2.2.2), (I 0), (.pointer a42), (.pointer a52)] [] [], Ch.pr 0 (.pointer a52) r49, Ch.pr 0 (.pointer a42) r39, Ch.ro 0 (Sl a27 r24 c28) r24, Ch.bx n0 b12 0 [(I x2.1), (Sl a9 x2.2.1 c10), (I x2.2.2)] [] [], Ch.ro 0 (Sl a9 x2.2.1 c10) x2.2.1] ∧ Md (cov []) σ55 σ72 from hJ)
       clear hJ Hs
       rw [fr_lookL (L := [(8, (pt b54 0)), (40, (pt b54 0)), (50, (I r69))]) ⟨e8, e40, e50, trivial⟩]
       clear hoff hrel e8 e40 e50
       refine st (v := (pt b54 0)) (rv_nilCheck rfl) (st (v := (pt b54 3)) (rv_fieldAddr (off := 3) (ft := 3) Try.underlying98 rfl ti3 rfl rfl) ?_)
       refine st_exS (ex_store_box (k := 3) (cs := [(I x2.1), (Sl a9 x2.2.1 c10), (I x2.2.2), (I 0), (.pointer a42), (.pointer a52)]) (vs := [(I r69)]) (cs' := [(I x2.1), (Sl a9 x2.2.1 c10), (I x2.2.2), (I r69), (.pointer a42), (.pointer a52)]) H (i := 1) rfl ti3 rfl rfl rfl rfl rfl (Nat.le_of_ble_eq_true rfl) (by simp [plain]) rfl) wn ?_
       rintro σ73 ⟨H, -⟩
       refine w_end ?_
       obtain rfl := Option.some.inj h
       exact ⟨rfl, _, σ73, a9, c10, a42, a52, fr_join ⟨rfl, trivial⟩, rfl, H.sel' [0, 6, 3, 2] rfl rfl⟩
     ·replace h := bif_f hb57 h
      refine c_skip ?_
      obtain rfl := Option.some.inj h
      exact ⟨rfl, _, σ55, a9, c10, a42, a52, fr_join ⟨rfl, trivial⟩, rfl, H.sel' [0, 5, 2, 1] rfl rfl⟩
    ·clear hj
     have h := h'
     clear h' H
     rintro e a w ⟨rfl, ρ, σ74, a75, c76, a77, a78, rfl, rfl, H⟩
     refine q_then (c_seq (rg (st (v := (pt b54 0)) (rv_move rfl) (st (v := (pt b54 0)) (rv_assign rfl) (w_end (q_then (c_ret ?_)))))))
     have hp81 : Rp.rp 0 σ74 [(I o56.1.1), (Sl a75 o56.1.2.1 c76), (I o56.1.2.2), (I o56.2.1), (.pointer a77), (.pointer a78)] (((o56.1.1, o56.1.2.1, o56.1.2.2), o56.2.1, o56.2.2.1, o56.2.2.2) : (Int × (List Int) × Int) × Int × (Tr (Int × (List Int) × Int)) × (Tr (Int × (List Int) × Int))) := ⟨[(I o56.1.1), (Sl a75 o56.1.2.1 c76), (I o56.1.2.2)], [(I o56.2.1), (.pointer a77), (.pointer a78)], rfl, ⟨[(I o56.1.1)], [(Sl a75 o56.1.2.1 c76), (I o56.1.2.2)], rfl, rfl, ⟨[(Sl a75 o56.1.2.1 c76)], [(I o56.1.2.2)], rfl, ⟨_, rfl, (H.ro 1 rfl)⟩, rfl⟩⟩, ⟨[(I o56.2.1)], [(.pointer a77), (.pointer a78)], rfl, rfl, ⟨[(.pointer a77)], [(.pointer a78)], rfl, ⟨_, rfl, (H.pr 2 rfl)⟩, ⟨_, rfl, (H.pr 3 rfl)⟩⟩⟩⟩
     obtain ⟨σ79, hw80, H, -⟩ := H.pubTr 0 rfl (Nat.zero_le _) hp81
     rw [← hw80]; clear hw80
     obtain rfl := Option.some.inj h
     exact fin_ret (v := (.pointer (some ⟨b54, 0, none⟩))) (results_ok Try.results39 (res_tmp (v := (.pointer (some ⟨b54, 0, none⟩))) rfl res_nil) rfl) ⟨(some ⟨b54, 0, none⟩), rfl, rfl⟩ (H.sel' [0] rfl rfl)

theorem c_impl_branch_appendTo : ∀ (fuel : Nat) {Ga : Tr (Int × (List Int) × Int)} {Gb : List (Int × Int × Int × Int)} {Gc : Option Addr} {Gd : Option Addr} {Ge : Nat} {r : (List (Int × Int × Int × Int))} (h : M.impl_branch_appendTo fuel Ga Gb = some r),
    Cal2 Try.prog 40 [(.pointer Gc), (Sl Gd Gb Ge)] [Ch.pr 0 (.pointer Gc) Ga, Ch.own 0 0 (Sl Gd Gb Ge) Gb] (fun n0 v L => ∃ (az1 : Option Addr), ∃ (cz2 : Nat), v = (Sl az1 r cz2) ∧ L = [Ch.own 0 n0 (Sl az1 r cz2) r]) := by
 intro fuel
 induction fuel with
 | zero => intro _ _ _ _ _ r h; cases h
 | succ fuel ih =>
 ·intro Ga Gb Gc Gd Ge r h
  replace h : M.impl_branch_appendTo_F (M.impl_branch_appendTo fuel) Ga Gb = some r := h
  refine cal2 (n := 59) Try.func40 rfl rfl rfl rfl ?_
  intro S0 σ0 n0 hn0 H
  unfold M.impl_branch_appendTo_F at h
  refine c_seq (rg (st (v := (.slice none 0 0)) (rv_assign rfl) (w_end (q_then (c_seq (c_seq (rg (st (v := (.pointer Gc)) (rv_move rfl) (st (v := (B Ga.isNil)) (rv_eqlNil Try.underlying60 (H.pr 0 rfl) rfl rfl) (w_end (q_then ?_)))))))))))
  refine cd_cond Ga.isNil rfl (fun hb1 => ?_) (fun hb1 => ?_)
  ·replace h := bif_t hb1 h
   refine c_seq (rg (st (v := (Sl Gd Gb Ge)) (rv_move rfl) (st (v := (Sl Gd Gb Ge)) (rv_assign rfl) (w_end (q_then (c_ret (q_then_r ?_)))))))
   replace H := H.ownSc 1 0 n0 rfl (Nat.le_refl _)
   obtain rfl := Option.some.inj h
   exact fin_ret (v := (Sl Gd Gb Ge)) (results_ok Try.results40 (res_tmp (v := (Sl Gd Gb Ge)) rfl res_nil) rfl) ⟨Gd, Ge, rfl, rfl⟩ (H.sel' [0] rfl rfl)
  ·replace h := bif_f hb1 h
   refine c_skip (q_then (c_seq (rg (st (v := (Sl Gd Gb Ge)) (rv_move rfl) (st (v := (I (Gb.length : Int))) (rv_len Try.underlying26 rfl) (st (v := (I (Gb.length : Int))) (rv_assign rfl) (w_end (q_then (c_seq ?_)))))))))
   obtain ⟨x2, hx3, h'⟩ := bind_some h
   clear h
   have h := h'; clear h'
   obtain ⟨b5, o6, hi4⟩ := (H.pr 0 rfl).ex hx3
   have hc7 := ((H.pr 0 rfl).at hx3 hi4).fst.fst.int
   obtain ⟨x8, hx9, h'⟩ := bind_some h
   clear h
   have h := h'; clear h'
   obtain ⟨b11, o12, hi10⟩ := (H.pr 0 rfl).ex hx9
   have hc13 := ((H.pr 0 rfl).at hx9 hi10).snd.fst.int
   have Hs := H
   refine rg2 (σ := σ0) (Nm := (Nat)) 12 [11] [[false], [true]] [[(0, 0), (1, 1)], [(0, 0)], [(0, 0)], [(0, 0)], [(0, 0)], [(0, 0)], [(0, 0)], [(0, 0)], [(0, 0)], [(0, 0)], [(0, 0)], [(0, 1)]] 1 [fun (b14 : (Nat)) => fun σm => Hp S0 σ0 σm [Ch.pr 0 (.pointer Gc) Ga, Ch.own 0 0 (Sl Gd Gb Ge) Gb] ∧ Md (cov []) σ0 σm, fun (b14 : (Nat)) => fun σm => Hp S0 σ0 σm [Ch.own n0 n0 (Sl (some ⟨b14, 0, none⟩) ([(x2.1.1, x8.2.1, -1, -1)] : List (Int × Int × Int × Int)) 1) ([(x2.1.1, x8.2.1, -1, -1)] : List (Int × Int × Int × Int)), Ch.pr 0 (.pointer Gc) Ga, Ch.own 0 0 (Sl Gd Gb Ge) Gb] ∧ Md (cov []) σ0 σm] [fun (b14 : (Nat)) => (Sl Gd Gb Ge), fun (b14 : (Nat)) => (.pointer Gc), fun (b14 : (Nat)) => (pt b5 o6), fun (b14 : (Nat)) => (pt b5 (o6 + 0)), fun (b14 : (Nat)) => (pt b5 (o6 + 0)), fun (b14 : (Nat)) => (I x2.1.1), fun (b14 : (Nat)) => (.pointer Gc), fun (b14 : (Nat)) => (pt b11 o12), fun (b14 : (Nat)) => (pt b11 (o12 + 3)), fun (b14 : (Nat)) => (I x8.2.1), fun (b14 : (Nat)) => (.agg #[(I x2.1.1), (I x8.2.1), (I (-1)), (I (-1))]), fun (b14 : (Nat)) => (Sl (some ⟨b14, 0, none⟩) ([(x2.1.1, x8.2.1, -1, -1)] : List (Int × Int × Int × Int)) 1)] (0) (by kernel_rfl) (by kernel_rfl) ?_ ?_ ?_
   ·intro σm m0
    exact ⟨H.grow (m0.mono fun _ h => h.elim), m0⟩
   ·refine ac rfl (by
      intro k b14 ρ σm hJ hoff hdep
      have e1 := look_off (N := 59) (hoff 1 rfl) rfl
      exact dp_v (v := (Sl Gd Gb Ge)) wn (rv_move e1) rfl hJ) ?_
    refine ac rfl (by
      intro k b14 ρ σm hJ hoff hdep
      have e0 := look_off (N := 59) (hoff 0 rfl) rfl
      exact dp_v (v := (.pointer Gc)) wn (rv_move e0) rfl hJ) ?_
    refine ac rfl (by
      intro k b14 ρ σm hJ hoff hdep
      have e12 := hdep 1 rfl rfl 12 rfl
      exact dp_v (v := (pt b5 o6)) wn (rv_nilCheckT hi4 e12) rfl hJ) ?_
    refine ac rfl (by
      intro k b14 ρ σm hJ hoff hdep
      have e13 := hdep 2 rfl rfl 13 rfl
      exact dp_v (v := (pt b5 (o6 + 0))) wn (rv_fieldAddr (off := 0) (ft := 34) Try.underlying98 rfl ti34 rfl e13) rfl hJ) ?_
    refine ac rfl (by
      intro k b14 ρ σm hJ hoff hdep
      have e14 := hdep 3 rfl rfl 14 rfl
      exact dp_v (v := (pt b5 (o6 + 0))) wn (rv_fieldAddr (off := 0) (ft := 3) Try.underlying34 rfl ti3 rfl e14) rfl hJ) ?_
    refine all_cons (by
      refine ⟨?_, ?_⟩
      ·intro b14 ρ σm hJ hoff hdep
       have e15 := hdep 4 rfl rfl 15 rfl
       obtain ⟨H, m⟩ := id hJ
       replace hc7 := (Hs.pr 0 rfl).hmd hx3 hi4 (k := 0) (by decide) hc7 m
       exact dp_v (v := (I x2.1.1)) wn (rv_load1 Try.underlying3 rfl e15 hc7) rfl hJ
      trivial) ?_
    refine ac rfl (by
      intro k b14 ρ σm hJ hoff hdep
      have e0 := look_off (N := 59) (hoff 0 rfl) rfl
      exact dp_v (v := (.pointer Gc)) wn (rv_move e0) rfl hJ) ?_
    refine ac rfl (by
      intro k b14 ρ σm hJ hoff hdep
      have e17 := hdep 6 rfl rfl 17 rfl
      exact dp_v (v := (pt b11 o12)) wn (rv_nilCheckT hi10 e17) rfl hJ) ?_
    refine ac rfl (by
      intro k b14 ρ σm hJ hoff hdep
      have e18 := hdep 7 rfl rfl 18 rfl
      exact dp_v (v := (pt b11 (o12 + 3))) wn (rv_fieldAddr (off := 3) (ft := 3) Try.underlying98 rfl ti3 rfl e18) rfl hJ) ?_
    refine all_cons (by
      refine ⟨?_, ?_⟩
      ·intro b14 ρ σm hJ hoff hdep
       have e19 := hdep 8 rfl rfl 19 rfl
       obtain ⟨H, m⟩ := id hJ
       replace hc13 := (Hs.pr 0 rfl).hmd hx9 hi10 (k := 3) (by decide) hc13 m
       exact dp_v (v := (I x8.2.1)) wn (rv_load1 Try.underlying3 rfl e19 hc13) rfl hJ
      trivial) ?_
    refine ac rfl (by
      intro k b14 ρ σm hJ hoff hdep
      have e16 : look 59 ρ 16 = (I x2.1.1) := hdep 5 rfl rfl 16 rfl
      have e20 : look 59 ρ 20 = (I x8.2.1) := hdep 9 rfl rfl 20 rfl
      exact dp_v (v := (.agg #[(I x2.1.1), (I x8.2.1), (I (-1)), (I (-1))])) wn (rv_build (ps := [(0, (I x2.1.1)), (1, (I x8.2.1)), (2, (I (-1))), (3, (I (-1)))]) Try.underlying31 ti31 (bp31 Try.underlying31) (by show [(0, look 59 ρ 16), (1, look 59 ρ 20), (2, (I (-1))), (3, (I (-1)))] = _; rw [e16, e20]) (by kernel_rfl)) rfl hJ) ?_
    refine all_cons (by
      refine ⟨?_, ?_⟩
      ·intro b14 ρ σm hJ hoff hdep
       have e21 : look 59 ρ 21 = (.agg #[(I x2.1.1), (I x8.2.1), (I (-1)), (I (-1))]) := hdep 10 rfl rfl 21 rfl
       obtain ⟨H, m⟩ := id hJ
       refine dp_ex wn (ex_buildSlice (el := n0) (xs := ([(x2.1.1, x8.2.1, -1, -1)] : List (Int × Int × Int × Int))) (ps := [(0, (.agg #[(I x2.1.1), (I x8.2.1), (I (-1)), (I (-1))]))]) (cs := [(I x2.1.1), (I x8.2.1), (I (-1)), (I (-1))]) H hn0 Try.underlying26 ti31 rfl (by show [(0, look 59 ρ 21)] = _; rw [e21]) (by kernel_rfl) (.cons (c := [(I x2.1.1), (I x8.2.1), (I (-1)), (I (-1))]) ⟨[(I x2.1.1)], [(I x8.2.1), (I (-1)), (I (-1))], rfl, rfl, ⟨[(I x8.2.1)], [(I (-1)), (I (-1))], rfl, rfl, ⟨[(I (-1))], [(I (-1))], rfl, rfl, rfl⟩⟩⟩ (.nil)) rfl) ?_
       rintro _ σq ⟨b14x, rfl, H2, m2⟩
       exact ⟨_, b14x, rfl, rfl, ⟨H2.sel' [0, 1, 2] rfl rfl, m.comp0 m2⟩, stab [0, 1, 2, 3, 4, 5, 6, 7, 8, 9, 10] (by kernel_rfl) ⟨rfl, rfl, rfl, rfl, rfl, rfl, rfl, rfl, rfl, rfl, rfl, trivial⟩⟩
      trivial) ?_
    exact all_nil
   ·intro b14 ρ σ15 hJ hoff hrel
    have e0 := look_off (N := 59) (hoff 0 rfl) rfl
    have e5 := look_off (N := 59) (hoff 5 rfl) rfl
    have e11 := hrel 0 rfl 11 rfl
    have e22 := hrel 11 rfl 22 rfl
    obtain ⟨H, -⟩ := (show Hp S0 σ0 σ15 [Ch.own n0 n0 (Sl (some ⟨b14, 0, none⟩) ([(x2.1.1, x8.2.1, -1, -1)] : List (Int × Int × Int × Int)) 1) ([(x2.1.1, x8.2.1, -1, -1)] : List (Int × Int × Int × Int)), Ch.pr 0 (.pointer Gc) Ga, Ch.own 0 0 (Sl Gd Gb Ge) Gb] ∧ Md (cov []) σ0 σ15 from hJ)
    clear hJ Hs
    rw [fr_lookL (L := [(0, (.pointer Gc)), (5, (I (Gb.length : Int))), (11, (Sl Gd Gb Ge)), (22, (Sl (some ⟨b14, 0, none⟩) ([(x2.1.1, x8.2.1, -1, -1)] : List (Int × Int × Int × Int)) 1))]) ⟨e0, e5, e11, e22, trivial⟩]
    clear hoff hrel e0 e5 e11 e22
    obtain ⟨xs16, hx17, h'⟩ := bind_some h
    clear h
    have h := h'; clear h'
    refine st_ex (ex_append H (i := 2) rfl Try.underlying26 Try.underlying26 ti31 rfl rfl (by decide) ((H.own 0 rfl).rd.sc) hx17 (Nat.zero_le _) rfl rfl) wn ?_
    rintro _ σ20 ⟨a18, c19, rfl, H, -⟩
    refine st (v := (Sl a18 xs16 c19)) (rv_assign rfl) (w_end (q_then (c_seq (c_seq (rg (st (v := (.pointer Gc)) (rv_move rfl) ?_))))))
    obtain ⟨x21, hx22, h'⟩ := bind_some h
    clear h
    have h := h'; clear h'
    obtain ⟨b24, o25, hi23⟩ := (H.pr 2 rfl).ex hx22
    refine st (v := (pt b24 o25)) (rv_nilCheckT hi23 rfl) (st (v := (pt b24 (o25 + 4))) (rv_fieldAddr (off := 4) (ft := 60) Try.underlying98 rfl ti60 rfl rfl) ?_)
    obtain ⟨v29, hc28, hR27⟩ := ((H.pr 2 rfl).at hx22 hi23).snd.snd.fst.tree
    obtain ⟨a26, rfl⟩ := hR27.isPtr
    replace H := H.add (d := Ch.pr 0 (.pointer a26) x21.2.2.1) hR27 (fun _ h => h)
    clear hR27
    refine st (v := (.pointer a26)) (rv_load1 Try.underlying60 rfl rfl hc28) (st (v := (B (!x21.2.2.1.isNil))) (rv_neqNil Try.underlying60 (H.pr 0 rfl) rfl rfl) (w_end (q_then ?_)))
    obtain ⟨o30, hj, h'⟩ := bind_some h
    clear h
    refine c_cut (fun e a w => e = .normal ∧ ∃ (ρ : Nat → Value) (σ : St) (aj1 : Option Addr) (cj2 : Nat), a = fr 59 (updL ρ [(0, (.pointer Gc)), (1, (Sl aj1 o30 cj2)), (5, (I (Gb.length : Int)))]) ∧ w = σ.w ∧ Hp S0 σ0 σ [Ch.pr 0 (.pointer Gc) Ga, Ch.own 0 0 (Sl aj1 o30 cj2) o30]) ?_ ?_
    ·clear h'
     rename _ = some o30 => h
     refine cd_cond (!x21.2.2.1.isNil) rfl (fun hb31 => ?_) (fun hb31 => ?_)
     ·replace h := bif_t hb31 h
      refine c_seq (rg (st (v := (Sl a18 xs16 c19)) (rv_move rfl) (st (v := (I (Gb.length : Int))) (rv_move rfl) (st (v := (Sl a18 xs16 c19)) (rv_move rfl) (st (v := (I (xs16.length : Int))) (rv_len Try.underlying26 rfl) ?_)))))
      obtain ⟨x32, hx33, h'⟩ := bind_some h
      clear h
      have h := h'; clear h'
      obtain ⟨b35, o36, hi34, -⟩ := (H.own 1 rfl).ix hx33
      refine st (v := (pt b35 o36)) (rv_ix Try.underlying26 ti31 rfl rfl hi34) (st (v := (pt b35 (o36 + 2))) (rv_fieldAddr (off := 2) (ft := 3) Try.underlying31 rfl ti3 rfl rfl) ?_)
      refine st_exS (ex_store_own (e' := (x32.1, x32.2.1, (xs16.length : Int), x32.2.2.2)) (vs := [(I (xs16.length : Int))]) (k := 2) H (i := 1) rfl ti3 hx33 hi34 rfl rfl rfl rfl rfl (Nat.le_of_ble_eq_true rfl) (by simp [plain]) (by rintro _ ⟨_, _, rfl, rfl, ⟨_, _, rfl, rfl, ⟨_, _, rfl, rfl, rfl⟩⟩⟩; exact ⟨[(I x32.1)], [(I x32.2.1), (I (xs16.length : Int)), (I x32.2.2.2)], rfl, rfl, ⟨[(I x32.2.1)], [(I (xs16.length : Int)), (I x32.2.2.2)], rfl, rfl, ⟨[(I (xs16.length : Int))], [(I x32.2.2.2)], rfl, rfl, rfl⟩⟩⟩)) wn ?_
      rintro σ37 ⟨H, -⟩
      have hsl : (Sl a18 xs16 c19) = (Sl a18 (xs16.set (Gb.length : Int).toNat (x32.1, x32.2.1, (xs16.length : Int), x32.2.2.2)) c19) := sl_len List.length_set.symm
      rw [hsl]; rw [hsl] at H; clear hsl
      refine w_end (q_then (rg (st (v := (.pointer Gc)) (rv_move rfl) ?_)))
      obtain ⟨x38, hx39, h'⟩ := bind_some h
      clear h
      have h := h'; clear h'
      obtain ⟨b41, o42, hi40⟩ := (H.pr 3 rfl).ex hx39
      refine st (v := (pt b41 o42)) (rv_nilCheckT hi40 rfl) (st (v := (pt b41 (o42 + 4))) (rv_fieldAddr (off := 4) (ft := 60) Try.underlying98 rfl ti60 rfl rfl) ?_)
      obtain ⟨v46, hc45, hR44⟩ := ((H.pr 3 rfl).at hx39 hi40).snd.snd.fst.tree
      obtain ⟨a43, rfl⟩ := hR44.isPtr
      replace H := H.add (d := Ch.pr 0 (.pointer a43) x38.2.2.1) hR44 (fun _ h => h)
      clear hR44
      refine st (v := (.pointer a43)) (rv_load1 Try.underlying60 rfl rfl hc45) (st (v := (Sl a18 (xs16.set (Gb.length : Int).toNat (x32.1, x32.2.1, (xs16.length : Int), x32.2.2.2)) c19)) (rv_move rfl) ?_)
      obtain ⟨r47, hx48, h'⟩ := bind_some h
      clear h
      have h := h'; clear h'
      have hc49 := ih (Gc := a43) (Gd := a18) (Ge := c19) hx48
      refine st_call (cx_call hc49 (ent_f hc49.fn rfl) hn0 (H.sel' [0, 1, 0, 2, 3, 4] rfl rfl : Hp S0 σ0 _ ([_, _] ++ _))) wn ?_
      rintro _ σ52 ⟨_, ⟨a50, c51, rfl, rfl⟩, H, -⟩
      replace H : Hp _ _ _ [_, _, _, _, _] := H
      refine st (v := (Sl a50 r47 c51)) (rv_assign rfl) (w_end ?_)
      replace H := H.ownSc 0 0 0 rfl (Nat.le_refl _)
      obtain rfl := Option.some.inj h
      exact ⟨rfl, _, σ52, a50, c51, fr_join ⟨rfl, rfl, rfl, trivial⟩, rfl, H.sel' [4, 0] rfl rfl⟩
     ·replace h := bif_f hb31 h
      refine c_skip ?_
      obtain rfl := Option.some.inj h
      exact ⟨rfl, _, σ20, a18, c19, fr_join ⟨rfl, rfl, rfl, trivial⟩, rfl, H.sel' [3, 1] rfl rfl⟩
    ·clear hj
     have h := h'
     clear h' H
     rintro e a w ⟨rfl, ρ, σ53, a54, c55, rfl, rfl, H⟩
     refine q_then (c_seq (c_seq (rg (st (v := (.pointer Gc)) (rv_move rfl) ?_))))
     obtain ⟨x56, hx57, h'⟩ := bind_some h
     clear h
     have h := h'; clear h'
     obtain ⟨b59, o60, hi58⟩ := (H.pr 0 rfl).ex hx57
     refine st (v := (pt b59 o60)) (rv_nilCheckT hi58 rfl) (st (v := (pt b59 (o60 + 5))) (rv_fieldAddr (off := 5) (ft := 60) Try.underlying98 rfl ti60 rfl rfl) ?_)
     obtain ⟨v64, hc63, hR62⟩ := ((H.pr 0 rfl).at hx57 hi58).snd.snd.snd.tree
     obtain ⟨a61, rfl⟩ := hR62.isPtr
     replace H := H.add (d := Ch.pr 0 (.pointer a61) x56.2.2.2) hR62 (fun _ h => h)
     clear hR62
     refine st (v := (.pointer a61)) (rv_load1 Try.underlying60 rfl rfl hc63) (st (v := (B (!x56.2.2.2.isNil))) (rv_neqNil Try.underlying60 (H.pr 0 rfl) rfl rfl) (w_end (q_then ?_)))
     obtain ⟨o65, hj, h'⟩ := bind_some h
     clear h
     refine c_cut (fun e a w => e = .normal ∧ ∃ (ρ : Nat → Value) (σ : St) (aj1 : Option Addr) (cj2 : Nat), a = fr 59 (updL ρ [(1, (Sl aj1 o65 cj2))]) ∧ w = σ.w ∧ Hp S0 σ0 σ [Ch.own 0 0 (Sl aj1 o65 cj2) o65]) ?_ ?_
     ·clear h'
      rename _ = some o65 => h
      refine cd_cond (!x56.2.2.2.isNil) rfl (fun hb66 => ?_) (fun hb66 => ?_)
      ·replace h := bif_t hb66 h
       refine c_seq (rg (st (v := (Sl a54 o30 c55)) (rv_move rfl) (st (v := (I (Gb.length : Int))) (rv_move rfl) (st (v := (Sl a54 o30 c55)) (rv_move rfl) (st (v := (I (o30.length : Int))) (rv_len Try.underlying26 rfl) ?_)))))
       obtain ⟨x67, hx68, h'⟩ := bind_some h
       clear h
       have h := h'; clear h'
       obtain ⟨b70, o71, hi69, -⟩ := (H.own 2 rfl).ix hx68
       refine st (v := (pt b70 o71)) (rv_ix Try.underlying26 ti31 rfl rfl hi69) (st (v := (pt b70 (o71 + 3))) (rv_fieldAddr (off := 3) (ft := 3) Try.underlying31 rfl ti3 rfl rfl) ?_)
       refine st_exS (ex_store_own (e' := (x67.1, x67.2.1, x67.2.2.1, (o30.length : Int))) (vs := [(I (o30.length : Int))]) (k := 3) H (i := 2) rfl ti3 hx68 hi69 rfl rfl rfl rfl rfl (Nat.le_of_ble_eq_true rfl) (by simp [plain]) (by rintro _ ⟨_, _, rfl, rfl, ⟨_, _, rfl, rfl, ⟨_, _, rfl, rfl, rfl⟩⟩⟩; exact ⟨[(I x67.1)], [(I x67.2.1), (I x67.2.2.1), (I (o30.length : Int))], rfl, rfl, ⟨[(I x67.2.1)], [(I x67.2.2.1), (I (o30.length : Int))], rfl, rfl, ⟨[(I x67.2.2.1)], [(I (o30.length : Int))], rfl, rfl, rfl⟩⟩⟩)) wn ?_
       rintro σ72 ⟨H, -⟩
       have hsl : (Sl a54 o30 c55) = (Sl a54 (o30.set (Gb.length : Int).toNat (x67.1, x67.2.1, x67.2.2.1, (o30.length : Int))) c55) := sl_len List.length_set.symm
       rw [hsl]; rw [hsl] at H; clear hsl
       refine w_end (q_then (rg (st (v := (.pointer Gc)) (rv_move rfl) ?_)))
       obtain ⟨x73, hx74, h'⟩ := bind_some h
       clear h
       have h := h'; clear h'
       obtain ⟨b76, o77, hi75⟩ := (H.pr 2 rfl).ex hx74
       refine st (v := (pt b76 o77)) (rv_nilCheckT hi75 rfl) (st (v := (pt b76 (o77 + 5))) (rv_fieldAddr (off := 5) (ft := 60) Try.underlying98 rfl ti60 rfl rfl) ?_)
       obtain ⟨v81, hc80, hR79⟩ := ((H.pr 2 rfl).at hx74 hi75).snd.snd.snd.tree
       obtain ⟨a78, rfl⟩ := hR79.isPtr
       replace H := H.add (d := Ch.pr 0 (.pointer a78) x73.2.2.2) hR79 (fun _ h => h)
       clear hR79
       refine st (v := (.pointer a78)) (rv_load1 Try.underlying60 rfl rfl hc80) (st (v := (Sl a54 (o30.set (Gb.length : Int).toNat (x67.1, x67.2.1, x67.2.2.1, (o30.length : Int))) c55)) (rv_move rfl) ?_)
       obtain ⟨r82, hx83, h'⟩ := bind_some h
       clear h
       have h := h'; clear h'
       have hc84 := ih (Gc := a78) (Gd := a54) (Ge := c55) hx83
       refine st_call (cx_call hc84 (ent_f hc84.fn rfl) hn0 (H.sel' [0, 1, 0, 2, 3] rfl rfl : Hp S0 σ0 _ ([_, _] ++ _))) wn ?_
       rintro _ σ87 ⟨_, ⟨a85, c86, rfl, rfl⟩, H, -⟩
       replace H : Hp _ _ _ [_, _, _, _] := H
       refine st (v := (Sl a85 r82 c86)) (rv_assign rfl) (w_end ?_)
       replace H := H.ownSc 0 0 0 rfl (Nat.le_refl _)
       obtain rfl := Option.some.inj h
       exact ⟨rfl, _, σ87, a85, c86, fr_join ⟨rfl, trivial⟩, rfl, H.sel' [0] rfl rfl⟩
      ·replace h := bif_f hb66 h
       refine c_skip ?_
       obtain rfl := Option.some.inj h
       exact ⟨rfl, _, σ53, a54, c55, fr_join ⟨rfl, trivial⟩, rfl, H.sel' [2] rfl rfl⟩
     ·clear hj
      have h := h'
      clear h' H
      rintro e a w ⟨rfl, ρ, σ88, a89, c90, rfl, rfl, H⟩
      refine q_then (c_seq (rg (st (v := (Sl a89 o65 c90)) (rv_move rfl) (st (v := (Sl a89 o65 c90)) (rv_assign rfl) (w_end (q_then (c_ret ?_)))))))
      replace H := H.ownSc 0 0 n0 rfl (Nat.le_refl _)
      obtain rfl := Option.some.inj h
      exact fin_ret (v := (Sl a89 o65 c90)) (results_ok Try.results40 (res_tmp (v := (Sl a89 o65 c90)) rfl res_nil) rfl) ⟨a89, c90, rfl, rfl⟩ (H.sel' [0] rfl rfl)

theorem c_impl_BuildTree {Ai : List (Int × (List Int) × Int)} {Bl : Int} {Aj : Option Addr} {Ak : Nat} {r : (List (Int × Int × Int × Int))} (h : M.impl_BuildTree Ai Bl = some r) :
    Cal2 Try.prog 13 [(Sl Aj Ai Ak), (I Bl)] [Ch.ro 0 (Sl Aj Ai Ak) Ai] (fun n0 v L => ∃ (az1 : Option Addr), ∃ (cz2 : Nat), v = (Sl az1 r cz2) ∧ L = [Ch.own 0 n0 (Sl az1 r cz2) r]) := by
 refine cal2 (n := 17) Try.func13 rfl rfl rfl rfl ?_
 intro S0 σ0 n0 hn0 H
 unfold M.impl_BuildTree at h
 refine c_seq (rg (st (v := (.slice none 0 0)) (rv_assign rfl) (w_end (q_then (c_seq (c_seq ?_))))))
 obtain ⟨o1, hj, h'⟩ := bind_some h
 clear h
 refine c_cut (fun e a w => e = .normal ∧ ∃ (ρ : Nat → Value) (σ : St), a = fr 17 (updL ρ [(0, (Sl Aj Ai Ak)), (1, (I Bl)), (12, (B o1))]) ∧ w = σ.w ∧ Hp S0 σ0 σ [Ch.ro 0 (Sl Aj Ai Ak) Ai]) ?_ ?_
 ·clear h'
  rename _ = some o1 => h
  refine rg (st (v := (Sl Aj Ai Ak)) (rv_move rfl) ?_)
  obtain ⟨r2, hx3, h'⟩ := bind_some h
  clear h
  have h := h'; clear h'
  have hc4 := c_impl_ValidStore (Aj := Aj) (Ak := Ak) hx3
  refine st_call (cx_call hc4 (ent_f hc4.fn rfl) hn0 (H.sel' [0, 0] rfl rfl : Hp S0 σ0 _ ([_] ++ _))) wn ?_
  rintro _ σ5 ⟨_, ⟨rfl, rfl⟩, H, -⟩
  replace H : Hp _ _ _ [_] := H
  refine st (v := (B (!r2))) (rv_not rfl) (st (v := (B (!r2))) (rv_move rfl) ?_)
  rcases Bool.eq_false_or_eq_true (!r2) with hb6 | hb6
  ·replace h := bif_t hb6 h
   refine st_skip (congrArg some hb6) (st_skip (congrArg some hb6) (st_skip (congrArg some hb6) (st (v := (B true)) (rv_pick_t (congrArg B hb6) rfl) (w_end ?_))))
   obtain rfl := Option.some.inj h
   exact ⟨rfl, _, σ5, fr_join ⟨rfl, rfl, rfl, trivial⟩, rfl, H.sel' [0] rfl rfl⟩
  ·replace h := bif_f hb6 h
   refine st_g (v := (I Bl)) (congrArg some hb6) (rv_move rfl) ?_
   obtain ⟨r7, hx8, h'⟩ := bind_some h
   clear h
   have h := h'; clear h'
   have hc9 := c_impl_validTreeKind hx8
   refine st_call (cx_call hc9 (ent_f hc9.fn rfl) hn0 (H.sel' [0] rfl rfl : Hp S0 σ0 _ ([] ++ _))) (wanted_yes rfl (by exact (congrArg some hb6))) ?_
   rintro _ σ10 ⟨_, ⟨rfl, rfl⟩, H, -⟩
   replace H : Hp _ _ _ [_] := H
   refine st_g (v := (B (!r7))) (congrArg some hb6) (rv_not rfl) (st (v := (B (!r7))) (rv_pick_f (congrArg B hb6) rfl) (w_end ?_))
   obtain rfl := Option.some.inj h
   exact ⟨rfl, _, σ10, fr_join ⟨rfl, rfl, rfl, trivial⟩, rfl, H.sel' [0] rfl rfl⟩
 ·clear hj
  have h := h'
  clear h' H
  rintro e a w ⟨rfl, ρ, σ11, rfl, rfl, H⟩
  refine q_then ?_
  refine cd_cond o1 rfl (fun hb12 => ?_) (fun hb12 => ?_)
  ·replace h := bif_t hb12 h
   refine c_seq (rg (st (v := (.slice none 0 0)) (rv_assign rfl) (w_end (q_then (c_ret (q_then_r ?_))))))
   replace H := H.nilOwn (Int × Int × Int × Int) 0 n0
   obtain rfl := Option.some.inj h
   exact fin_ret (v := (.slice none 0 0)) (results_ok Try.results13 (res_tmp (v := (.slice none 0 0)) rfl res_nil) rfl) ⟨none, 0, rfl, rfl⟩ (H.sel' [0] rfl rfl)
  ·replace h := bif_f hb12 h
   refine c_skip (q_then (c_seq (rg (st (v := (Sl Aj Ai Ak)) (rv_move rfl) (st (v := (I Bl)) (rv_move rfl) ?_)))))
   obtain ⟨r13, hx14, h'⟩ := bind_some h
   clear h
   have h := h'; clear h'
   have hc15 := c_impl_growTree 100 (Aj := Aj) (Ak := Ak) hx14
   refine st_call (cx_call hc15 (ent_f hc15.fn rfl) hn0 (H.sel' [0, 0] rfl rfl : Hp S0 σ0 _ ([_] ++ _))) wn ?_
   rintro _ σ17 ⟨_, ⟨a16, rfl, rfl⟩, H, -⟩
   replace H : Hp _ _ _ [_, _] := H
   replace H := H.nilOwn (Int × Int × Int × Int) 0 0
   obtain ⟨r18, hx19, h'⟩ := bind_some h
   clear h
   have h := h'; clear h'
   have hc20 := c_impl_branch_appendTo 100 (Gc := a16) (Gd := none) (Ge := 0) hx19
   refine st_call (cx_call hc20 (ent_f hc20.fn rfl) hn0 (H.sel' [1, 0, 1, 2] rfl rfl : Hp S0 σ0 _ ([_, _] ++ _))) wn ?_
   rintro _ σ23 ⟨_, ⟨a21, c22, rfl, rfl⟩, H, -⟩
   replace H : Hp _ _ _ [_, _, _] := H
   refine st (v := (Sl a21 r18 c22)) (rv_assign rfl) (w_end (q_then (c_ret ?_)))
   obtain rfl := Option.some.inj h
   exact fin_ret (v := (Sl a21 r18 c22)) (results_ok Try.results13 (res_tmp (v := (Sl a21 r18 c22)) rfl res_nil) rfl) ⟨a21, c22, rfl, rfl⟩ (H.sel' [0] rfl rfl)

theorem c_slices_Equal_impl_Node_impl_Node {Gf : List (Int × Int × Int × Int)} {Gg : List (Int × Int × Int × Int)} {Gh : Option Addr} {Gi : Nat} {Gj : Option Addr} {Gk : Nat} {r : Bool} (h : M.slices_Equal_impl_Node_impl_Node Gf Gg = some r) :
    Cal2 Try.prog 44 [(Sl Gh Gf Gi), (Sl Gj Gg Gk)] [Ch.ro 0 (Sl Gh Gf Gi) Gf, Ch.ro 0 (Sl Gj Gg Gk) Gg] (fun n0 v L => v = (B r) ∧ L = []) := by
 refine cal2 (n := 26) Try.func44 rfl rfl rfl rfl ?_
 intro S0 σ0 n0 hn0 H
 unfold M.slices_Equal_impl_Node_impl_Node at h
 refine c_seq (rg (st (v := (B false)) (rv_assign rfl) (w_end (q_then (c_seq (c_seq (rg (st (v := (Sl Gh Gf Gi)) (rv_move rfl) (st (v := (I (Gf.length : Int))) (rv_len Try.underlying26 rfl) (st (v := (Sl Gj Gg Gk)) (rv_move rfl) (st (v := (I (Gg.length : Int))) (rv_len Try.underlying26 rfl) ?_)))))))))))
 refine st (v := (B ((Gf.length : Int) != (Gg.length : Int)))) (rv_neq (a := (Gf.length : Int)) (b := (Gg.length : Int)) rfl rfl) (w_end (q_then ?_))
 refine cd_cond ((Gf.length : Int) != (Gg.length : Int)) rfl (fun hb1 => ?_) (fun hb1 => ?_)
 ·replace h := bif_t hb1 h
  refine c_seq (rg (st (v := (B false)) (rv_assign rfl) (w_end (q_then (c_ret (q_then_r ?_))))))
  obtain rfl := Option.some.inj h
  exact fin_ret (v := (B false)) (results_ok Try.results44 (res_tmp (v := (B false)) rfl res_nil) rfl) ⟨rfl, rfl⟩ (H.sel' [] rfl rfl)
 ·replace h := bif_f hb1 h
  refine c_skip (q_then (c_seq (c_seq (rg (st (v := (Sl Gh Gf Gi)) (rv_move rfl) (st (v := (I (Gf.length : Int))) (rv_len Try.underlying26 rfl) (st (v := (I 0)) (rv_move rfl) (w_end (q_then ?_)))))))))
  obtain ⟨o2, hj, h'⟩ := bind_some h
  clear h
  refine c_cut (fun e a w => (∃ t, o2 = (.inl t) ∧ e = .normal ∧ ∃ (ρ : Nat → Value) (σ : St), a = fr 26 (updL ρ []) ∧ w = σ.w ∧ Hp S0 σ0 σ []) ∨ (∃ t, o2 = (.inr t) ∧ e = .ret ∧ ∃ (ρ : Nat → Value) (σ : St), a = fr 26 (updL ρ [(4, (B t))]) ∧ w = σ.w ∧ Hp S0 σ0 σ [])) ?_ ?_
  ·clear h'
   rename _ = some o2 => h
   refine c_blk (wp_loopM _ h (fun s3 a w => ∃ (ρ : Nat → Value) (σ : St), a = fr 26 (updL ρ [(0, (Sl Gh Gf Gi)), (1, (Sl Gj Gg Gk)), (12, (I (Gf.length : Int))), (13, (I s3))]) ∧ w = σ.w ∧ Hp S0 σ0 σ [Ch.ro 0 (Sl Gh Gf Gi) Gf, Ch.ro 0 (Sl Gj Gg Gk) Gg]) ⟨_, σ0, fr_join ⟨rfl, rfl, rfl, rfl, trivial⟩, rfl, H.sel' [0, 1] rfl rfl⟩ ?_)
   clear h H
   rintro s3 a w o ⟨ρ, σ4, rfl, rfl, H⟩ h hres
   refine c_seq (rg (st (v := (B (decide (s3 < (Gf.length : Int))))) (rv_lss (a := s3) (b := (Gf.length : Int)) rfl rfl) (w_end (q_then (c_seq ?_)))))
   refine cd_cond (decide (s3 < (Gf.length : Int))) rfl (fun hb5 => ?_) (fun hb5 => ?_)
   ·replace h := bif_t hb5 h
    refine c_skip (q_then (c_seq (c_blk (c_seq (rg (st (v := (I s3)) (rv_move rfl) (st (v := (I s3)) (rv_assign rfl) (w_end (q_then (c_seq ?_))))))))))
    refine rgP (σ := σ4) 8 (by kernel_rfl) (by kernel_rfl) (by kernel_rfl) ?_
    refine sq (v := (Sl Gh Gf Gi)) (rv_move rfl) (sq (v := (I s3)) (rv_move rfl) ?_)
    obtain ⟨x6, hx7, h'⟩ := bind_some h
    clear h
    have h := h'; clear h'
    obtain ⟨b9, o10, hi8, -⟩ := (H.ro 0 rfl).ix hx7
    refine sq (v := (pt b9 o10)) (rv_ix Try.underlying26 ti31 rfl rfl hi8) ?_
    obtain ⟨_, ⟨_, _, rfl, rfl, ⟨_, _, rfl, rfl, ⟨_, _, rfl, rfl, rfl⟩⟩⟩, hl11, hc12⟩ := ((H.ro 0 rfl).at hx7 hi8).cells
    refine sq (v := (.agg #[(I x6.1), (I x6.2.1), (I x6.2.2.1), (I x6.2.2.2)])) (rv_load Try.underlying31 rfl ti31 rfl hl11 hc12) (sq (v := (Sl Gj Gg Gk)) (rv_move rfl) (sq (v := (I s3)) (rv_move rfl) ?_))
    obtain ⟨x13, hx14, h'⟩ := bind_some h
    clear h
    have h := h'; clear h'
    obtain ⟨b16, o17, hi15, -⟩ := (H.ro 1 rfl).ix hx14
    refine sq (v := (pt b16 o17)) (rv_ix Try.underlying26 ti31 rfl rfl hi15) ?_
    obtain ⟨_, ⟨_, _, rfl, rfl, ⟨_, _, rfl, rfl, ⟨_, _, rfl, rfl, rfl⟩⟩⟩, hl18, hc19⟩ := ((H.ro 1 rfl).at hx14 hi15).cells
    refine sq (v := (.agg #[(I x13.1), (I x13.2.1), (I x13.2.2.1), (I x13.2.2.2)])) (rv_load Try.underlying31 rfl ti31 rfl hl18 hc19) (sq_end ?_)
    intro σ20 hm21
    replace H := H.grow (hm21.mono fun _ h => h); clear hm21
    refine st (v := (B (!(([x6.1, x6.2.1, x6.2.2.1, x6.2.2.2] : List Int) == ([x13.1, x13.2.1, x13.2.2.1, x13.2.2.2] : List Int))))) (rv_neqI (xs := ([x6.1, x6.2.1, x6.2.2.1, x6.2.2.2] : List Int)) (ys := ([x13.1, x13.2.1, x13.2.2.1, x13.2.2.2] : List Int)) (by kernel_rfl) (by kernel_rfl) (by kernel_rfl) rfl (by kernel_rfl) (by exact intfs31) rfl rfl) ?_
    refine w_end (q_then ?_)
    refine cd_cond (!(([x6.1, x6.2.1, x6.2.2.1, x6.2.2.2] : List Int) == ([x13.1, x13.2.1, x13.2.2.1, x13.2.2.2] : List Int))) rfl (fun hb22 => ?_) (fun hb22 => ?_)
    ·replace h := bif_t hb22 h
     refine c_seq (rg (st (v := (B false)) (rv_assign rfl) (w_end (q_then (c_ret (q_blk_r (q_then_r (q_then_r (q_blk_r ?_)))))))))
     obtain rfl := Option.some.inj h
     obtain rfl := hres _ rfl
     exact .inr (⟨_, rfl, rfl, _, σ20, fr_join ⟨rfl, trivial⟩, rfl, H.sel' [] rfl rfl⟩)
    ·replace h := bif_f hb22 h
     refine c_skip (q_blk (q_then (rg (st (v := (I (w64 (s3 + 1)))) (rv_add (a := s3) (b := 1) rfl rfl) (st (v := (I (w64 (s3 + 1)))) (rv_move rfl) (w_end (q_then ?_)))))))
     obtain rfl := Option.some.inj h
     exact ⟨_, rfl, _, σ20, fr_join ⟨rfl, rfl, rfl, rfl, trivial⟩, rfl, H.sel' [0, 1] rfl rfl⟩
   ·replace h := bif_f hb5 h
    refine c_exit (q_then_x (q_then_x (q_blk_hit ?_)))
    obtain rfl := Option.some.inj h
    obtain rfl := hres _ rfl
    exact .inl ⟨_, rfl, rfl, _, σ4, fr_join trivial, rfl, H.sel' [] rfl rfl⟩
  ·clear hj
   have h := h'
   clear h' H
   rintro e a w (⟨t23, rfl, rfl, ρ, σ24, rfl, rfl, H⟩ | ⟨t25, rfl, rfl, ρ, σ26, rfl, rfl, H⟩)
   ·replace h := selim_l h
    refine q_then (c_seq (rg (st (v := (B true)) (rv_assign rfl) (w_end (q_then (c_ret ?_))))))
    obtain rfl := Option.some.inj h
    exact fin_ret (v := (B true)) (results_ok Try.results44 (res_tmp (v := (B true)) rfl res_nil) rfl) ⟨rfl, rfl⟩ (H.sel' [] rfl rfl)
   ·replace h := selim_r h
    refine q_then_r ?_
    obtain rfl := Option.some.inj h
    exact fin_ret (v := (B t25)) (results_ok Try.results44 (res_tmp (v := (B t25)) rfl res_nil) rfl) ⟨rfl, rfl⟩ (H.sel' [] rfl rfl)

theorem c_impl_IsTreeOf {Gl : List (Int × Int × Int × Int)} {Gm : List (Int × (List Int) × Int)} {Gn : Int} {Gp : Option Addr} {Gq : Nat} {Gr : Option Addr} {Gs : Nat} {r : Bool} (h : M.impl_IsTreeOf Gl Gm Gn = some r) :
    Cal2 Try.prog 17 [(Sl Gp Gl Gq), (Sl Gr Gm Gs), (I Gn)] [Ch.ro 0 (Sl Gp Gl Gq) Gl, Ch.ro 0 (Sl Gr Gm Gs) Gm] (fun n0 v L => v = (B r) ∧ L = []) := by
 refine cal2 (n := 20) Try.func17 rfl rfl rfl rfl ?_
 intro S0 σ0 n0 hn0 H
 unfold M.impl_IsTreeOf at h
 refine c_seq (rg (st (v := (B false)) (rv_assign rfl) (w_end (q_then (c_seq (rg (st (v := (Sl Gr Gm Gs)) (rv_move rfl) ?_)))))))
 obtain ⟨r1, hx2, h'⟩ := bind_some h
 clear h
 have h := h'; clear h'
 have hc3 := c_impl_ValidStore (Aj := Gr) (Ak := Gs) hx2
 refine st_call (cx_call hc3 (ent_f hc3.fn rfl) hn0 (H.sel' [1, 0, 1] rfl rfl : Hp S0 σ0 _ ([_] ++ _))) wn ?_
 rintro _ σ4 ⟨_, ⟨rfl, rfl⟩, H, -⟩
 replace H : Hp _ _ _ [_, _] := H
 refine st (v := (B r1)) (rv_move rfl) ?_
 rcases Bool.eq_false_or_eq_true r1 with hb5 | hb5
 ·replace h := bif_t hb5 h
  refine st_g (v := (I Gn)) (congrArg some hb5) (rv_move rfl) ?_
  obtain ⟨r6, hx7, h'⟩ := bind_some h
  clear h
  have h := h'; clear h'
  have hc8 := c_impl_validTreeKind hx7
  refine st_call (cx_call hc8 (ent_f hc8.fn rfl) hn0 (H.sel' [0, 1] rfl rfl : Hp S0 σ0 _ ([] ++ _))) (wanted_yes rfl (by exact (congrArg some hb5))) ?_
  rintro _ σ9 ⟨_, ⟨rfl, rfl⟩, H, -⟩
  replace H : Hp _ _ _ [_, _] := H
  refine st (v := (B r6)) (rv_pick_t (congrArg B hb5) rfl) (st (v := (B r6)) (rv_move rfl) ?_)
  rcases Bool.eq_false_or_eq_true r6 with hb10 | hb10
  ·replace h := bif_t hb10 h
   refine st_g (v := (Sl Gp Gl Gq)) (congrArg some hb10) (rv_move rfl) (st_g (v := (Sl Gr Gm Gs)) (congrArg some hb10) (rv_move rfl) (st_g (v := (I Gn)) (congrArg some hb10) (rv_move rfl) ?_))
   obtain ⟨r11, hx12, h'⟩ := bind_some h
   clear h
   have h := h'; clear h'
   have hc13 := c_impl_BuildTree (Aj := Gr) (Ak := Gs) hx12
   refine st_call (cx_call hc13 (ent_f hc13.fn rfl) hn0 (H.sel' [1, 0, 1] rfl rfl : Hp S0 σ0 _ ([_] ++ _))) (wanted_yes rfl (by exact (congrArg some hb10))) ?_
   rintro _ σ16 ⟨_, ⟨a14, c15, rfl, rfl⟩, H, -⟩
   replace H : Hp _ _ _ [_, _, _] := H
   replace H := H.ownLow 0 0 0 rfl (Nat.le_refl _) (Nat.zero_le _)
   obtain ⟨σ17, hw18, H, -⟩ := H.pub 0 rfl (Nat.le_refl _)
   rw [← hw18]; clear hw18
   obtain ⟨r19, hx20, h'⟩ := bind_some h
   clear h
   have h := h'; clear h'
   have hc21 := c_slices_Equal_impl_Node_impl_Node (Gh := Gp) (Gi := Gq) (Gj := a14) (Gk := c15) hx20
   refine st_call (cx_call hc21 (ent_f hc21.fn rfl) hn0 (H.sel' [1, 0, 0, 1, 2] rfl rfl : Hp S0 σ0 _ ([_, _] ++ _))) (wanted_yes rfl (by exact (congrArg some hb10))) ?_
   rintro _ σ22 ⟨_, ⟨rfl, rfl⟩, H, -⟩
   replace H : Hp _ _ _ [_, _, _] := H
   refine st (v := (B r19)) (rv_pick_t (congrArg B hb10) rfl) (st (v := (B r19)) (rv_assign rfl) (w_end (q_then (c_ret ?_))))
   obtain rfl := Option.some.inj h
   exact fin_ret (v := (B r19)) (results_ok Try.results17 (res_tmp (v := (B r19)) rfl res_nil) rfl) ⟨rfl, rfl⟩ (H.sel' [] rfl rfl)
  ·replace h := bif_f hb10 h
   refine st_skip (congrArg some hb10) (st_skip (congrArg some hb10) (st_skip (congrArg some hb10) (st_skip (congrArg some hb10) (st_skip (congrArg some hb10) (st (v := (B false)) (rv_pick_f (congrArg B hb10) rfl) (st (v := (B false)) (rv_assign rfl) (w_end (q_then (c_ret ?_)))))))))
   obtain rfl := Option.some.inj h
   exact fin_ret (v := (B false)) (results_ok Try.results17 (res_tmp (v := (B false)) rfl res_nil) rfl) ⟨rfl, rfl⟩ (H.sel' [] rfl rfl)
 ·replace h := bif_f hb5 h
  refine st_skip (congrArg some hb5) (st_skip (congrArg some hb5) (st (v := (B false)) (rv_pick_f (congrArg B hb5) rfl) (st (v := (B false)) (rv_move rfl) (st_skip rfl (st_skip rfl (st_skip rfl (st_skip rfl (st_skip rfl (st (v := (B false)) (rv_pick_f rfl rfl) (st (v := (B false)) (rv_assign rfl) (w_end ?_)))))))))))
  refine q_then (c_ret ?_)
  obtain rfl := Option.some.inj h
  exact fin_ret (v := (B false)) (results_ok Try.results17 (res_tmp (v := (B false)) rfl res_nil) rfl) ⟨rfl, rfl⟩ (H.sel' [] rfl rfl)

theorem c_spec_inRange {Gt : Int} {Gu : Int} {Gv : Int}  {r : Bool} (h : M.spec_inRange Gt Gu Gv = some r) :
    Cal2 Try.prog 55 [(I Gt), (I Gu), (I Gv)] [] (fun n0 v L => v = (B r) ∧ L = []) := by
 refine cal2 (n := 15) Try.func55 rfl rfl rfl rfl ?_
 intro S0 σ0 n0 hn0 H
 unfold M.spec_inRange at h
 refine c_seq (rg (st (v := (B false)) (rv_assign rfl) (w_end (q_then (c_seq (rg (st (v := (I Gu)) (rv_move rfl) (st (v := (I Gt)) (rv_move rfl) (st (v := (B (decide (Gu ≤ Gt)))) (rv_leq (a := Gu) (b := Gt) rfl rfl) (st (v := (B (decide (Gu ≤ Gt)))) (rv_move rfl) ?_))))))))))
 rcases Bool.eq_false_or_eq_true (decide (Gu ≤ Gt)) with hb1 | hb1
 ·replace h := bif_t hb1 h
  refine st_g (v := (I Gt)) (congrArg some hb1) (rv_move rfl) (st_g (v := (I Gv)) (congrArg some hb1) (rv_move rfl) (st_g (v := (B (decide (Gt ≤ Gv)))) (congrArg some hb1) (rv_leq (a := Gt) (b := Gv) rfl rfl) (st (v := (B (decide (Gt ≤ Gv)))) (rv_pick_t (congrArg B hb1) rfl) (st (v := (B (decide (Gt ≤ Gv)))) (rv_assign rfl) (w_end (q_then (c_ret ?_)))))))
  obtain rfl := Option.some.inj h
  exact fin_ret (v := (B (decide (Gt ≤ Gv)))) (results_ok Try.results55 (res_tmp (v := (B (decide (Gt ≤ Gv)))) rfl res_nil) rfl) ⟨rfl, rfl⟩ (H.sel' [] rfl rfl)
 ·replace h := bif_f hb1 h
  refine st_skip (congrArg some hb1) (st_skip (congrArg some hb1) (st_skip (congrArg some hb1) (st (v := (B false)) (rv_pick_f (congrArg B hb1) rfl) (st (v := (B false)) (rv_assign rfl) (w_end (q_then (c_ret ?_)))))))
  obtain rfl := Option.some.inj h
  exact fin_ret (v := (B false)) (results_ok Try.results55 (res_tmp (v := (B false)) rfl res_nil) rfl) ⟨rfl, rfl⟩ (H.sel' [] rfl rfl)

theorem c_spec_allIn {Ai : List Int} {Gu : Int} {Gv : Int} {Aj : Option Addr} {Ak : Nat} {r : Bool} (h : M.spec_allIn Ai Gu Gv = some r) :
    Cal2 Try.prog 98 [(Sl Aj Ai Ak), (I Gu), (I Gv)] [Ch.ro 0 (Sl Aj Ai Ak) Ai] (fun n0 v L => v = (B r) ∧ L = []) := by
 refine cal2 (n := 22) Try.func98 rfl rfl rfl rfl ?_
 intro S0 σ0 n0 hn0 H
 unfold M.spec_allIn at h
 refine c_seq (rg (st (v := (B false)) (rv_assign rfl) (w_end (q_then (c_seq (c_seq (rg (st (v := (I 0)) (rv_assign rfl) (w_end (q_then ?_))))))))))
 obtain ⟨o1, hj, h'⟩ := bind_some h
 clear h
 refine c_cut (fun e a w => (∃ t, o1 = (.inl t) ∧ e = .normal ∧ ∃ (ρ : Nat → Value) (σ : St), a = fr 22 (updL ρ []) ∧ w = σ.w ∧ Hp S0 σ0 σ []) ∨ (∃ t, o1 = (.inr t) ∧ e = .ret ∧ ∃ (ρ : Nat → Value) (σ : St), a = fr 22 (updL ρ [(6, (B t))]) ∧ w = σ.w ∧ Hp S0 σ0 σ [])) ?_ ?_
 ·clear h'
  rename _ = some o1 => h
  refine c_blk (wp_loopM _ h (fun s2 a w => ∃ (ρ : Nat → Value) (σ : St), a = fr 22 (updL ρ [(0, (Sl Aj Ai Ak)), (1, (I Gu)), (2, (I Gv)), (7, (I s2))]) ∧ w = σ.w ∧ Hp S0 σ0 σ [Ch.ro 0 (Sl Aj Ai Ak) Ai]) ⟨_, σ0, fr_join ⟨rfl, rfl, rfl, rfl, trivial⟩, rfl, H.sel' [0] rfl rfl⟩ ?_)
  clear h H
  rintro s2 a w o ⟨ρ, σ3, rfl, rfl, H⟩ h hres
  refine c_seq (c_seq (rg (st (v := (I s2)) (rv_move rfl) (st (v := (Sl Aj Ai Ak)) (rv_move rfl) (st (v := (I (Ai.length : Int))) (rv_len Try.underlying29 rfl) (st (v := (B (decide (s2 < (Ai.length : Int))))) (rv_lss (a := s2) (b := (Ai.length : Int)) rfl rfl) (w_end (q_then ?_))))))))
  refine cd_cond (decide (s2 < (Ai.length : Int))) rfl (fun hb4 => ?_) (fun hb4 => ?_)
  ·replace h := bif_t hb4 h
   refine c_skip (q_then (c_seq (c_blk (c_seq (rg (st (v := (Sl Aj Ai Ak)) (rv_move rfl) (st (v := (I s2)) (rv_move rfl) ?_)))))))
   obtain ⟨x5, hx6, h'⟩ := bind_some h
   clear h
   have h := h'; clear h'
   obtain ⟨b8, o9, hi7, -⟩ := (H.ro 0 rfl).ix hx6
   refine st (v := (pt b8 o9)) (rv_ix Try.underlying29 ti3 rfl rfl hi7) ?_
   have hc10 := ((H.ro 0 rfl).at hx6 hi7).int
   refine st (v := (I x5)) (rv_load1 Try.underlying3 rfl rfl hc10) (st (v := (I Gu)) (rv_move rfl) (st (v := (I Gv)) (rv_move rfl) ?_))
   obtain ⟨r11, hx12, h'⟩ := bind_some h
   clear h
   have h := h'; clear h'
   have hc13 := c_spec_inRange hx12
   refine st_call (cx_call hc13 (ent_f hc13.fn rfl) hn0 (H.sel' [0] rfl rfl : Hp S0 σ0 _ ([] ++ _))) wn ?_
   rintro _ σ14 ⟨_, ⟨rfl, rfl⟩, H, -⟩
   replace H : Hp _ _ _ [_] := H
   refine st (v := (B (!r11))) (rv_not rfl) (w_end (q_then ?_))
   refine cd_cond (!r11) rfl (fun hb15 => ?_) (fun hb15 => ?_)
   ·replace h := bif_t hb15 h
    refine c_seq (rg (st (v := (B false)) (rv_assign rfl) (w_end (q_then (c_ret (q_blk_r (q_then_r (q_then_r (q_blk_r ?_)))))))))
    obtain rfl := Option.some.inj h
    obtain rfl := hres _ rfl
    exact .inr (⟨_, rfl, rfl, _, σ14, fr_join ⟨rfl, trivial⟩, rfl, H.sel' [] rfl rfl⟩)
   ·replace h := bif_f hb15 h
    refine c_skip (q_blk (q_then (rg (st (v := (I s2)) (rv_move rfl) (st (v := (I (w64 (s2 + 1)))) (rv_add (a := s2) (b := 1) rfl rfl) (st (v := (I (w64 (s2 + 1)))) (rv_assign rfl) (w_end (q_then ?_))))))))
    obtain rfl := Option.some.inj h
    exact ⟨_, rfl, _, σ14, fr_join ⟨rfl, rfl, rfl, rfl, trivial⟩, rfl, H.sel' [0] rfl rfl⟩
  ·replace h := bif_f hb4 h
   refine c_exit (q_then_x (q_then_x (q_blk_hit ?_)))
   obtain rfl := Option.some.inj h
   obtain rfl := hres _ rfl
   exact .inl ⟨_, rfl, rfl, _, σ3, fr_join trivial, rfl, H.sel' [] rfl rfl⟩
 ·clear hj
  have h := h'
  clear h' H
  rintro e a w (⟨t16, rfl, rfl, ρ, σ17, rfl, rfl, H⟩ | ⟨t18, rfl, rfl, ρ, σ19, rfl, rfl, H⟩)
  ·replace h := selim_l h
   refine q_then (c_seq (rg (st (v := (B true)) (rv_assign rfl) (w_end (q_then (c_ret ?_))))))
   obtain rfl := Option.some.inj h
   exact fin_ret (v := (B true)) (results_ok Try.results98 (res_tmp (v := (B true)) rfl res_nil) rfl) ⟨rfl, rfl⟩ (H.sel' [] rfl rfl)
  ·replace h := selim_r h
   refine q_then_r ?_
   obtain rfl := Option.some.inj h
   exact fin_ret (v := (B t18)) (results_ok Try.results98 (res_tmp (v := (B t18)) rfl res_nil) rfl) ⟨rfl, rfl⟩ (H.sel' [] rfl rfl)

theorem c_spec_isVector {Aa : List Int} {Ac : Option Addr} {Ad : Nat} {r : Bool} (h : M.spec_isVector Aa = some r) :
    Cal2 Try.prog 79 [(Sl Ac Aa Ad)] [Ch.ro 0 (Sl Ac Aa Ad) Aa] (fun n0 v L => v = (B r) ∧ L = []) := by
 refine cal2 (n := 10) Try.func79 rfl rfl rfl rfl ?_
 intro S0 σ0 n0 hn0 H
 unfold M.spec_isVector at h
 refine c_seq (rg (st (v := (B false)) (rv_assign rfl) (w_end (q_then (c_seq (rg (st (v := (Sl Ac Aa Ad)) (rv_move rfl) (st (v := (I (Aa.length : Int))) (rv_len Try.underlying29 rfl) (st (v := (B ((Aa.length : Int) == 4))) (rv_eql (a := (Aa.length : Int)) (b := 4) rfl rfl) (st (v := (B ((Aa.length : Int) == 4))) (rv_move rfl) ?_))))))))))
 rcases Bool.eq_false_or_eq_true ((Aa.length : Int) == 4) with hb1 | hb1
 ·replace h := bif_t hb1 h
  refine st_g (v := (Sl Ac Aa Ad)) (congrArg some hb1) (rv_move rfl) ?_
  obtain ⟨r2, hx3, h'⟩ := bind_some h
  clear h
  have h := h'; clear h'
  have hc4 := c_spec_allIn (Aj := Ac) (Ak := Ad) hx3
  refine st_call (cx_call hc4 (ent_f hc4.fn rfl) hn0 (H.sel' [0, 0] rfl rfl : Hp S0 σ0 _ ([_] ++ _))) (wanted_yes rfl (by exact (congrArg some hb1))) ?_
  rintro _ σ5 ⟨_, ⟨rfl, rfl⟩, H, -⟩
  replace H : Hp _ _ _ [_] := H
  refine st (v := (B r2)) (rv_pick_t (congrArg B hb1) rfl) (st (v := (B r2)) (rv_assign rfl) (w_end (q_then (c_ret ?_))))
  obtain rfl := Option.some.inj h
  exact fin_ret (v := (B r2)) (results_ok Try.results79 (res_tmp (v := (B r2)) rfl res_nil) rfl) ⟨rfl, rfl⟩ (H.sel' [] rfl rfl)
 ·replace h := bif_f hb1 h
  refine st_skip (congrArg some hb1) (st_skip (congrArg some hb1) (st (v := (B false)) (rv_pick_f (congrArg B hb1) rfl) (st (v := (B false)) (rv_assign rfl) (w_end (q_then (c_ret ?_))))))
  obtain rfl := Option.some.inj h
  exact fin_ret (v := (B false)) (results_ok Try.results79 (res_tmp (v := (B false)) rfl res_nil) rfl) ⟨rfl, rfl⟩ (H.sel' [] rfl rfl)

theorem c_spec_validItem {Af : Int × (List Int) × Int} {Ag : Option Addr} {Ah : Nat} {r : Bool} (h : M.spec_validItem Af = some r) :
    Cal2 Try.prog 68 [(.agg #[(I Af.1), (Sl Ag Af.2.1 Ah), (I Af.2.2)])] [Ch.ro 0 (Sl Ag Af.2.1 Ah) Af.2.1] (fun n0 v L => v = (B r) ∧ L = []) := by
 refine cal2 (n := 16) Try.func68 rfl rfl rfl rfl ?_
 intro S0 σ0 n0 hn0 H
 unfold M.spec_validItem at h
 refine c_seq (rg (st_ex (ex_box (cs := [(I Af.1), (Sl Ag Af.2.1 Ah), (I Af.2.2)]) H hn0 rfl rfl) wn ?_))
 rintro _ σ2 ⟨b1, rfl, H, -⟩
 refine st (v := (B false)) (rv_assign rfl) (w_end (q_then (c_seq (rg (st (v := (pt b1 0)) (rv_fieldAddr (off := 0) (ft := 3) Try.underlying34 rfl ti3 rfl rfl) ?_)))))
 have hc3 := H.cell (u := (I Af.1)) (o' := 0) 0 0 rfl rfl rfl
 refine st (v := (I Af.1)) (rv_load1 Try.underlying3 rfl rfl hc3) ?_
 obtain ⟨r4, hx5, h'⟩ := bind_some h
 clear h
 have h := h'; clear h'
 have hc6 := c_spec_inRange hx5
 refine st_call (cx_call hc6 (ent_f hc6.fn rfl) hn0 (H.sel' [0, 1] rfl rfl : Hp S0 σ0 _ ([] ++ _))) wn ?_
 rintro _ σ7 ⟨_, ⟨rfl, rfl⟩, H, -⟩
 replace H : Hp _ _ _ [_, _] := H
 refine st (v := (B r4)) (rv_move rfl) ?_
 rcases Bool.eq_false_or_eq_true r4 with hb8 | hb8
 ·replace h := bif_t hb8 h
  refine st_g (v := (pt b1 1)) (congrArg some hb8) (rv_fieldAddr (off := 1) (ft := 29) Try.underlying34 rfl ti29 rfl rfl) ?_
  have hc9 := H.cell (u := (Sl Ag Af.2.1 Ah)) (o' := 1) 0 1 rfl rfl rfl
  refine st_g (v := (Sl Ag Af.2.1 Ah)) (congrArg some hb8) (rv_load1 Try.underlying29 rfl rfl hc9) ?_
  obtain ⟨r10, hx11, h'⟩ := bind_some h
  clear h
  have h := h'; clear h'
  have hc12 := c_spec_isVector (Ac := Ag) (Ad := Ah) hx11
  refine st_call (cx_call hc12 (ent_f hc12.fn rfl) hn0 (H.sel' [1, 0, 1] rfl rfl : Hp S0 σ0 _ ([_] ++ _))) (wanted_yes rfl (by exact (congrArg some hb8))) ?_
  rintro _ σ13 ⟨_, ⟨rfl, rfl⟩, H, -⟩
  replace H : Hp _ _ _ [_, _] := H
  refine st (v := (B r10)) (rv_pick_t (congrArg B hb8) rfl) (st (v := (B r10)) (rv_move rfl) ?_)
  rcases Bool.eq_false_or_eq_true r10 with hb14 | hb14
  ·replace h := bif_t hb14 h
   refine st_g (v := (pt b1 2)) (congrArg some hb14) (rv_fieldAddr (off := 2) (ft := 3) Try.underlying34 rfl ti3 rfl rfl) ?_
   have hc15 := H.cell (u := (I Af.2.2)) (o' := 2) 0 2 rfl rfl rfl
   refine st_g (v := (I Af.2.2)) (congrArg some hb14) (rv_load1 Try.underlying3 rfl rfl hc15) ?_
   obtain ⟨r16, hx17, h'⟩ := bind_some h
   clear h
   have h := h'; clear h'
   have hc18 := c_spec_inRange hx17
   refine st_call (cx_call hc18 (ent_f hc18.fn rfl) hn0 (H.sel' [0, 1] rfl rfl : Hp S0 σ0 _ ([] ++ _))) (wanted_yes rfl (by exact (congrArg some hb14))) ?_
   rintro _ σ19 ⟨_, ⟨rfl, rfl⟩, H, -⟩
   replace H : Hp _ _ _ [_, _] := H
   refine st (v := (B r16)) (rv_pick_t (congrArg B hb14) rfl) (st (v := (B r16)) (rv_assign rfl) (w_end (q_then (c_ret ?_))))
   obtain rfl := Option.some.inj h
   exact fin_ret (v := (B r16)) (results_ok Try.results68 (res_tmp (v := (B r16)) rfl res_nil) rfl) ⟨rfl, rfl⟩ (H.sel' [] rfl rfl)
  ·replace h := bif_f hb14 h
   refine st_skip (congrArg some hb14) (st_skip (congrArg some hb14) (st_skip (congrArg some hb14) (st (v := (B false)) (rv_pick_f (congrArg B hb14) rfl) (st (v := (B false)) (rv_assign rfl) (w_end (q_then (c_ret ?_)))))))
   obtain rfl := Option.some.inj h
   exact fin_ret (v := (B false)) (results_ok Try.results68 (res_tmp (v := (B false)) rfl res_nil) rfl) ⟨rfl, rfl⟩ (H.sel' [] rfl rfl)
 ·replace h := bif_f hb8 h
  refine st_skip (congrArg some hb8) (st_skip (congrArg some hb8) (st_skip (congrArg some hb8) (st (v := (B false)) (rv_pick_f (congrArg B hb8) rfl) (st (v := (B false)) (rv_move rfl) (st_skip rfl (st_skip rfl (st_skip rfl (st (v := (B false)) (rv_pick_f rfl rfl) (st (v := (B false)) (rv_assign rfl) (w_end (q_then ?_)))))))))))
  refine c_ret ?_
  obtain rfl := Option.some.inj h
  exact fin_ret (v := (B false)) (results_ok Try.results68 (res_tmp (v := (B false)) rfl res_nil) rfl) ⟨rfl, rfl⟩ (H.sel' [] rfl rfl)

theorem c_spec_validStore {Ai : List (Int × (List Int) × Int)} {Aj : Option Addr} {Ak : Nat} {r : Bool} (h : M.spec_validStore Ai = some r) :
    Cal2 Try.prog 41 [(Sl Aj Ai Ak)] [Ch.ro 0 (Sl Aj Ai Ak) Ai] (fun n0 v L => v = (B r) ∧ L = []) := by
 refine cal2 (n := 37) Try.func41 rfl rfl rfl rfl ?_
 intro S0 σ0 n0 hn0 H
 unfold M.spec_validStore at h
 refine c_seq (rg (st (v := (B false)) (rv_assign rfl) (w_end (q_then (c_seq (c_seq (rg (st (v := (I 0)) (rv_assign rfl) (w_end (q_then ?_))))))))))
 obtain ⟨o1, hj, h'⟩ := bind_some h
 clear h
 refine c_cut (fun e a w => (∃ t, o1 = (.inl t) ∧ e = .normal ∧ ∃ (ρ : Nat → Value) (σ : St), a = fr 37 (updL ρ [(0, (Sl Aj Ai Ak))]) ∧ w = σ.w ∧ Hp S0 σ0 σ [Ch.ro 0 (Sl Aj Ai Ak) Ai]) ∨ (∃ t, o1 = (.inr t) ∧ e = .ret ∧ ∃ (ρ : Nat → Value) (σ : St), a = fr 37 (updL ρ [(2, (B t))]) ∧ w = σ.w ∧ Hp S0 σ0 σ [])) ?_ ?_
 ·clear h'
  rename _ = some o1 => h
  refine c_blk (wp_loopM _ h (fun s2 a w => ∃ (ρ : Nat → Value) (σ : St), a = fr 37 (updL ρ [(0, (Sl Aj Ai Ak)), (3, (I s2))]) ∧ w = σ.w ∧ Hp S0 σ0 σ [Ch.ro 0 (Sl Aj Ai Ak) Ai]) ⟨_, σ0, fr_join ⟨rfl, rfl, trivial⟩, rfl, H.sel' [0] rfl rfl⟩ ?_)
  clear h H
  rintro s2 a w o ⟨ρ, σ3, rfl, rfl, H⟩ h hres
  refine c_seq (c_seq (rg (st (v := (I s2)) (rv_move rfl) (st (v := (Sl Aj Ai Ak)) (rv_move rfl) (st (v := (I (Ai.length : Int))) (rv_len Try.underlying23 rfl) (st (v := (B (decide (s2 < (Ai.length : Int))))) (rv_lss (a := s2) (b := (Ai.length : Int)) rfl rfl) (w_end (q_then ?_))))))))
  refine cd_cond (decide (s2 < (Ai.length : Int))) rfl (fun hb4 => ?_) (fun hb4 => ?_)
  ·replace h := bif_t hb4 h
   refine c_skip (q_then (c_seq (c_blk (c_seq ?_))))
   obtain ⟨o5, hj, h'⟩ := bind_some h
   clear h
   refine c_cut (fun e a w => e = .normal ∧ ∃ (ρ : Nat → Value) (σ : St), a = fr 37 (updL ρ [(0, (Sl Aj Ai Ak)), (3, (I s2)), (33, (B o5))]) ∧ w = σ.w ∧ Hp S0 σ0 σ [Ch.ro 0 (Sl Aj Ai Ak) Ai]) ?_ ?_
   ·clear h'
    rename _ = some o5 => h
    obtain ⟨x6, hx7, h'⟩ := bind_some h
    clear h
    have h := h'; clear h'
    obtain ⟨b9, o10, hi8, -⟩ := (H.ro 0 rfl).ix hx7
    obtain ⟨_, ⟨_, _, rfl, rfl, ⟨_, _, rfl, ⟨_, rfl, hR15⟩, rfl⟩⟩, hl11, hc12⟩ := ((H.ro 0 rfl).at hx7 hi8).cells
    obtain ⟨a13, c14, rfl⟩ := hR15.isSl
    replace H := H.add (d := Ch.ro 0 (Sl a13 x6.2.1 c14) x6.2.1) hR15 (fun _ h => h)
    clear hR15
    obtain ⟨r16, hx17, h'⟩ := bind_some h
    clear h
    have h := h'; clear h'
    have hc18 := c_spec_validItem (Ag := a13) (Ah := c14) hx17
    rcases Bool.eq_false_or_eq_true (!r16) with hb19 | hb19
    ·replace h := bif_t hb19 h
     have Hs := H
     refine rg2 (σ := σ3) (Nm := Unit) 21 [4] [[false], [true]] [[(0, 0)], [(0, 0)], [(0, 0)], [(0, 0)], [(0, 1)], [(1, 1)], [(1, 1)], [(1, 1)], [(1, 1)], [(1, 1)], [(1, 1)], [(1, 1)], [(1, 1)], [(1, 1)], [(1, 1)], [(1, 1)], [(1, 1)], [(1, 1)], [(1, 1)], [(1, 1)], [(1, 1)]] 1 [fun _ => fun σm => Hp S0 σ0 σm [Ch.ro 0 (Sl a13 x6.2.1 c14) x6.2.1, Ch.ro 0 (Sl Aj Ai Ak) Ai] ∧ Md (cov []) σ3 σm, fun _ => fun σm => Hp S0 σ0 σm [Ch.ro 0 (Sl a13 x6.2.1 c14) x6.2.1, Ch.ro 0 (Sl Aj Ai Ak) Ai] ∧ Md (cov []) σ3 σm] [fun _ => (Sl Aj Ai Ak), fun _ => (I s2), fun _ => (pt b9 o10), fun _ => (.agg #[(I x6.1), (Sl a13 x6.2.1 c14), (I x6.2.2)]), fun _ => (B r16), fun _ => (B (!r16)), fun _ => (B (!r16)), fun _ => undef, fun _ => undef, fun _ => undef, fun _ => undef, fun _ => undef, fun _ => undef, fun _ => undef, fun _ => undef, fun _ => undef, fun _ => undef, fun _ => undef, fun _ => undef, fun _ => undef, fun _ => undef] () (by kernel_rfl) (by kernel_rfl) ?_ ?_ ?_
     ·intro σm m0
      exact ⟨H.grow (m0.mono fun _ h => h.elim), m0⟩
     ·refine ac rfl (by
        intro k _nm ρ σm hJ hoff hdep
        have e0 := look_off (N := 37) (hoff 0 rfl) rfl
        exact dp_v (v := (Sl Aj Ai Ak)) wn (rv_move e0) rfl hJ) ?_
      refine ac rfl (by
        intro k _nm ρ σm hJ hoff hdep
        have e3 := look_off (N := 37) (hoff 3 rfl) rfl
        exact dp_v (v := (I s2)) wn (rv_move e3) rfl hJ) ?_
      refine ac rfl (by
        intro k _nm ρ σm hJ hoff hdep
        have e10 := hdep 0 rfl rfl 10 rfl
        have e11 := hdep 1 rfl rfl 11 rfl
        exact dp_v (v := (pt b9 o10)) wn (rv_ix Try.underlying23 ti34 e10 e11 hi8) rfl hJ) ?_
      refine all_cons (by
        refine ⟨?_, ?_⟩
        ·intro _nm ρ σm hJ hoff hdep
         have e12 := hdep 2 rfl rfl 12 rfl
         obtain ⟨H, m⟩ := id hJ
         replace hc12 := fun j hj => (Hs.ro 1 rfl).hmd hx7 hi8 (k := j) (Nat.lt_of_lt_of_eq hj hl11) (hc12 j hj) m
         exact dp_v (v := (.agg #[(I x6.1), (Sl a13 x6.2.1 c14), (I x6.2.2)])) wn (rv_load Try.underlying34 rfl ti34 e12 hl11 hc12) rfl hJ
        trivial) ?_
      refine all_cons (by
        refine ⟨?_, ?_⟩
        ·intro _nm ρ σm hJ hoff hdep
         have e13 : look 37 ρ 13 = (.agg #[(I x6.1), (Sl a13 x6.2.1 c14), (I x6.2.2)]) := hdep 3 rfl rfl 13 rfl
         obtain ⟨H, m⟩ := id hJ
         refine dp_cx wn (cx_call hc18 (ent_f hc18.fn (by show [look 37 ρ 13] = _; rw [e13])) hn0 (H.sel' [0, 0, 1] rfl rfl : Hp S0 σ0 _ ([_] ++ _))) ?_
         rintro _ σq ⟨_, ⟨rfl, rfl⟩, H2, m2⟩
         exact ⟨_, (), rfl, rfl, ⟨H2.sel' [0, 1] rfl rfl, m.comp0 (m2.mono (fun i h => by simp [cov, Ch.ro] at h))⟩, stab [0, 1, 2, 3] (by kernel_rfl) ⟨rfl, rfl, rfl, rfl, trivial⟩⟩
        trivial) ?_
      refine ac rfl (by
        intro k _nm ρ σm hJ hoff hdep
        have e14 := hdep 4 rfl rfl 14 rfl
        exact dp_v (v := (B (!r16))) wn (rv_not e14) rfl hJ) ?_
      refine ac rfl (by
        intro k _nm ρ σm hJ hoff hdep
        have e15 := hdep 5 rfl rfl 15 rfl
        exact dp_v (v := (B (!r16))) wn (rv_move e15) rfl hJ) ?_
      refine ac rfl (by
        intro k _nm ρ σm hJ hoff hdep
        have e16 := hdep 6 rfl rfl 16 rfl
        exact dp_skip (wanted_no rfl (yv_of rfl (e16.trans (congrArg B hb19)))) rfl hJ) ?_
      refine ac rfl (by
        intro k _nm ρ σm hJ hoff hdep
        have e16 := hdep 6 rfl rfl 16 rfl
        exact dp_skip (wanted_no rfl (yv_of rfl (e16.trans (congrArg B hb19)))) rfl hJ) ?_
      refine ac rfl (by
        intro k _nm ρ σm hJ hoff hdep
        have e16 := hdep 6 rfl rfl 16 rfl
        exact dp_skip (wanted_no rfl (yv_of rfl (e16.trans (congrArg B hb19)))) rfl hJ) ?_
      refine ac rfl (by
        intro k _nm ρ σm hJ hoff hdep
        have e19 := hdep 9 rfl rfl 19 rfl
        exact dp_skip (wanted_u rfl (yv_undef rfl e19)) rfl hJ) ?_
      refine ac rfl (by
        intro k _nm ρ σm hJ hoff hdep
        have e19 := hdep 9 rfl rfl 19 rfl
        exact dp_skip (wanted_u rfl (yv_undef rfl e19)) rfl hJ) ?_
      refine ac rfl (by
        intro k _nm ρ σm hJ hoff hdep
        have e19 := hdep 9 rfl rfl 19 rfl
        exact dp_skip (wanted_u rfl (yv_undef rfl e19)) rfl hJ) ?_
      refine ac rfl (by
        intro k _nm ρ σm hJ hoff hdep
        have e19 := hdep 9 rfl rfl 19 rfl
        exact dp_skip (wanted_u rfl (yv_undef rfl e19)) rfl hJ) ?_
      refine ac rfl (by
        intro k _nm ρ σm hJ hoff hdep
        have e19 := hdep 9 rfl rfl 19 rfl
        exact dp_skip (wanted_u rfl (yv_undef rfl e19)) rfl hJ) ?_
      refine ac rfl (by
        intro k _nm ρ σm hJ hoff hdep
        have e19 := hdep 9 rfl rfl 19 rfl
        exact dp_skip (wanted_u rfl (yv_undef rfl e19)) rfl hJ) ?_
      refine ac rfl (by
        intro k _nm ρ σm hJ hoff hdep
        have e19 := hdep 9 rfl rfl 19 rfl
        exact dp_skip (wanted_u rfl (yv_undef rfl e19)) rfl hJ) ?_
      refine ac rfl (by
        intro k _nm ρ σm hJ hoff hdep
        have e19 := hdep 9 rfl rfl 19 rfl
        exact dp_skip (wanted_u rfl (yv_undef rfl e19)) rfl hJ) ?_
      refine ac rfl (by
        intro k _nm ρ σm hJ hoff hdep
        have e19 := hdep 9 rfl rfl 19 rfl
        exact dp_skip (wanted_u rfl (yv_undef rfl e19)) rfl hJ) ?_
      refine ac rfl (by
        intro k _nm ρ σm hJ hoff hdep
        have e19 := hdep 9 rfl rfl 19 rfl
        exact dp_skip (wanted_u rfl (yv_undef rfl e19)) rfl hJ) ?_
      refine ac rfl (by
        intro k _nm ρ σm hJ hoff hdep
        have e19 := hdep 9 rfl rfl 19 rfl
        exact dp_skip (wanted_u rfl (yv_undef rfl e19)) rfl hJ) ?_
      exact all_nil
     ·intro _nm ρ σ20 hJ hoff hrel
      have e0 := look_off (N := 37) (hoff 0 rfl) rfl
      have e3 := look_off (N := 37) (hoff 3 rfl) rfl
      have e16 := hrel 6 rfl 16 rfl
      have e19 := hrel 9 rfl 19 rfl
      have e24 := hrel 14 rfl 24 rfl
      have e30 := hrel 20 rfl 30 rfl
      obtain ⟨H, -⟩ := (show Hp S0 σ0 σ20 [Ch.ro 0 (Sl a13 x6.2.1 c14) x6.2.1, Ch.ro 0 (Sl Aj Ai Ak) Ai] ∧ Md (cov []) σ3 σ20 from hJ)
      clear hJ Hs
      rw [fr_lookL (L := [(0, (Sl Aj Ai Ak)), (3, (I s2)), (16, (B (!r16))), (19, undef), (24, undef), (30, undef)]) ⟨e0, e3, e16, e19, e24, e30, trivial⟩]
      clear hoff hrel e0 e3 e16 e19 e24 e30
      refine st_skip_u rfl (st_skip (congrArg some hb19) (st (v := (B true)) (rv_pick_t (congrArg B hb19) rfl) (w_end ?_)))
      obtain rfl := Option.some.inj h
      exact ⟨rfl, _, σ20, fr_join ⟨rfl, rfl, rfl, trivial⟩, rfl, H.sel' [1] rfl rfl⟩
    ·replace h := bif_f hb19 h
     rcases Bool.eq_false_or_eq_true (decide (0 < s2)) with hb21 | hb21
     ·replace h := bif_t hb21 h
      obtain ⟨x22, hx23, h'⟩ := bind_some h
      clear h
      have h := h'; clear h'
      obtain ⟨b25, o26, hi24, -⟩ := (H.ro 1 rfl).ix hx23
      have hc27 := ((H.ro 1 rfl).at hx23 hi24).fst.int
      obtain ⟨x28, hx29, h'⟩ := bind_some h
      clear h
      have h := h'; clear h'
      obtain ⟨b31, o32, hi30, -⟩ := (H.ro 1 rfl).ix hx29
      have hc33 := ((H.ro 1 rfl).at hx29 hi30).fst.int
      have Hs := H
      refine rg2 (σ := σ3) (Nm := Unit) 21 [4] [[false], [true]] [[(0, 0)], [(0, 0)], [(0, 0)], [(0, 0)], [(0, 1)], [(1, 1)], [(1, 1)], [(1, 1)], [(1, 1)], [(1, 1)], [(1, 1)], [(1, 1)], [(1, 1)], [(1, 1)], [(1, 1)], [(1, 1)], [(1, 1)], [(1, 1)], [(1, 1)], [(1, 1)], [(1, 1)]] 1 [fun _ => fun σm => Hp S0 σ0 σm [Ch.ro 0 (Sl a13 x6.2.1 c14) x6.2.1, Ch.ro 0 (Sl Aj Ai Ak) Ai] ∧ Md (cov []) σ3 σm, fun _ => fun σm => Hp S0 σ0 σm [Ch.ro 0 (Sl a13 x6.2.1 c14) x6.2.1, Ch.ro 0 (Sl Aj Ai Ak) Ai] ∧ Md (cov []) σ3 σm] [fun _ => (Sl Aj Ai Ak), fun _ => (I s2), fun _ => (pt b9 o10), fun _ => (.agg #[(I x6.1), (Sl a13 x6.2.1 c14), (I x6.2.2)]), fun _ => (B r16), fun _ => (B (!r16)), fun _ => (B (!r16)), fun _ => (I s2), fun _ => (B (decide (0 < s2))), fun _ => (B (decide (0 < s2))), fun _ => (Sl Aj Ai Ak), fun _ => (I s2), fun _ => (pt b25 o26), fun _ => (pt b25 (o26 + 0)), fun _ => (I x22.1), fun _ => (Sl Aj Ai Ak), fun _ => (I s2), fun _ => (I (w64 (s2 - 1))), fun _ => (pt b31 o32), fun _ => (pt b31 (o32 + 0)), fun _ => (I x28.1)] () (by kernel_rfl) (by kernel_rfl) ?_ ?_ ?_
      ·intro σm m0
       exact ⟨H.grow (m0.mono fun _ h => h.elim), m0⟩
      ·refine ac rfl (by
         intro k _nm ρ σm hJ hoff hdep
         have e0 := look_off (N := 37) (hoff 0 rfl) rfl
         exact dp_v (v := (Sl Aj Ai Ak)) wn (rv_move e0) rfl hJ) ?_
       refine ac rfl (by
         intro k _nm ρ σm hJ hoff hdep
         have e3 := look_off (N := 37) (hoff 3 rfl) rfl
         exact dp_v (v := (I s2)) wn (rv_move e3) rfl hJ) ?_
       refine ac rfl (by
         intro k _nm ρ σm hJ hoff hdep
         have e10 := hdep 0 rfl rfl 10 rfl
         have e11 := hdep 1 rfl rfl 11 rfl
         exact dp_v (v := (pt b9 o10)) wn (rv_ix Try.underlying23 ti34 e10 e11 hi8) rfl hJ) ?_
       refine all_cons (by
         refine ⟨?_, ?_⟩
         ·intro _nm ρ σm hJ hoff hdep
          have e12 := hdep 2 rfl rfl 12 rfl
          obtain ⟨H, m⟩ := id hJ
          replace hc12 := fun j hj => (Hs.ro 1 rfl).hmd hx7 hi8 (k := j) (Nat.lt_of_lt_of_eq hj hl11) (hc12 j hj) m
          exact dp_v (v := (.agg #[(I x6.1), (Sl a13 x6.2.1 c14), (I x6.2.2)])) wn (rv_load Try.underlying34 rfl ti34 e12 hl11 hc12) rfl hJ
         trivial) ?_
       refine all_cons (by
         refine ⟨?_, ?_⟩
         ·intro _nm ρ σm hJ hoff hdep
          have e13 : look 37 ρ 13 = (.agg #[(I x6.1), (Sl a13 x6.2.1 c14), (I x6.2.2)]) := hdep 3 rfl rfl 13 rfl
          obtain ⟨H, m⟩ := id hJ
          refine dp_cx wn (cx_call hc18 (ent_f hc18.fn (by show [look 37 ρ 13] = _; rw [e13])) hn0 (H.sel' [0, 0, 1] rfl rfl : Hp S0 σ0 _ ([_] ++ _))) ?_
          rintro _ σq ⟨_, ⟨rfl, rfl⟩, H2, m2⟩
          exact ⟨_, (), rfl, rfl, ⟨H2.sel' [0, 1] rfl rfl, m.comp0 (m2.mono (fun i h => by simp [cov, Ch.ro] at h))⟩, stab [0, 1, 2, 3] (by kernel_rfl) ⟨rfl, rfl, rfl, rfl, trivial⟩⟩
         trivial) ?_
       refine ac rfl (by
         intro k _nm ρ σm hJ hoff hdep
         have e14 := hdep 4 rfl rfl 14 rfl
         exact dp_v (v := (B (!r16))) wn (rv_not e14) rfl hJ) ?_
       refine ac rfl (by
         intro k _nm ρ σm hJ hoff hdep
         have e15 := hdep 5 rfl rfl 15 rfl
         exact dp_v (v := (B (!r16))) wn (rv_move e15) rfl hJ) ?_
       refine ac rfl (by
         intro k _nm ρ σm hJ hoff hdep
         have e3 := look_off (N := 37) (hoff 3 rfl) rfl
         have e16 := hdep 6 rfl rfl 16 rfl
         exact dp_v (v := (I s2)) (wanted_yes rfl (yv_of rfl (e16.trans (congrArg B hb19)))) (rv_move e3) rfl hJ) ?_
       refine ac rfl (by
         intro k _nm ρ σm hJ hoff hdep
         have e17 := hdep 7 rfl rfl 17 rfl
         have e16 := hdep 6 rfl rfl 16 rfl
         exact dp_v (v := (B (decide (0 < s2)))) (wanted_yes rfl (yv_of rfl (e16.trans (congrArg B hb19)))) (rv_gtr (a := s2) (b := 0) e17 rfl) rfl hJ) ?_
       refine ac rfl (by
         intro k _nm ρ σm hJ hoff hdep
         have e18 := hdep 8 rfl rfl 18 rfl
         have e16 := hdep 6 rfl rfl 16 rfl
         exact dp_v (v := (B (decide (0 < s2)))) (wanted_yes rfl (yv_of rfl (e16.trans (congrArg B hb19)))) (rv_move e18) rfl hJ) ?_
       refine ac rfl (by
         intro k _nm ρ σm hJ hoff hdep
         have e0 := look_off (N := 37) (hoff 0 rfl) rfl
         have e19 := hdep 9 rfl rfl 19 rfl
         exact dp_v (v := (Sl Aj Ai Ak)) (wanted_yes rfl (yv_of rfl (e19.trans (congrArg B hb21)))) (rv_move e0) rfl hJ) ?_
       refine ac rfl (by
         intro k _nm ρ σm hJ hoff hdep
         have e3 := look_off (N := 37) (hoff 3 rfl) rfl
         have e19 := hdep 9 rfl rfl 19 rfl
         exact dp_v (v := (I s2)) (wanted_yes rfl (yv_of rfl (e19.trans (congrArg B hb21)))) (rv_move e3) rfl hJ) ?_
       refine ac rfl (by
         intro k _nm ρ σm hJ hoff hdep
         have e20 := hdep 10 rfl rfl 20 rfl
         have e21 := hdep 11 rfl rfl 21 rfl
         have e19 := hdep 9 rfl rfl 19 rfl
         exact dp_v (v := (pt b25 o26)) (wanted_yes rfl (yv_of rfl (e19.trans (congrArg B hb21)))) (rv_ix Try.underlying23 ti34 e20 e21 hi24) rfl hJ) ?_
       refine ac rfl (by
         intro k _nm ρ σm hJ hoff hdep
         have e22 := hdep 12 rfl rfl 22 rfl
         have e19 := hdep 9 rfl rfl 19 rfl
         exact dp_v (v := (pt b25 (o26 + 0))) (wanted_yes rfl (yv_of rfl (e19.trans (congrArg B hb21)))) (rv_fieldAddr (off := 0) (ft := 3) Try.underlying34 rfl ti3 rfl e22) rfl hJ) ?_
       refine all_cons (by
         refine ⟨?_, ?_⟩
         ·intro _nm ρ σm hJ hoff hdep
          have e23 := hdep 13 rfl rfl 23 rfl
          have e19 := hdep 9 rfl rfl 19 rfl
          obtain ⟨H, m⟩ := id hJ
          replace hc27 := (Hs.ro 1 rfl).hmd hx23 hi24 (k := 0) (by decide) hc27 m
          exact dp_v (v := (I x22.1)) (wanted_yes rfl (yv_of rfl (e19.trans (congrArg B hb21)))) (rv_load1 Try.underlying3 rfl e23 hc27) rfl hJ
         trivial) ?_
       refine ac rfl (by
         intro k _nm ρ σm hJ hoff hdep
         have e0 := look_off (N := 37) (hoff 0 rfl) rfl
         have e19 := hdep 9 rfl rfl 19 rfl
         exact dp_v (v := (Sl Aj Ai Ak)) (wanted_yes rfl (yv_of rfl (e19.trans (congrArg B hb21)))) (rv_move e0) rfl hJ) ?_
       refine ac rfl (by
         intro k _nm ρ σm hJ hoff hdep
         have e3 := look_off (N := 37) (hoff 3 rfl) rfl
         have e19 := hdep 9 rfl rfl 19 rfl
         exact dp_v (v := (I s2)) (wanted_yes rfl (yv_of rfl (e19.trans (congrArg B hb21)))) (rv_move e3) rfl hJ) ?_
       refine ac rfl (by
         intro k _nm ρ σm hJ hoff hdep
         have e26 := hdep 16 rfl rfl 26 rfl
         have e19 := hdep 9 rfl rfl 19 rfl
         exact dp_v (v := (I (w64 (s2 - 1)))) (wanted_yes rfl (yv_of rfl (e19.trans (congrArg B hb21)))) (rv_sub (a := s2) (b := 1) e26 rfl) rfl hJ) ?_
       refine ac rfl (by
         intro k _nm ρ σm hJ hoff hdep
         have e25 := hdep 15 rfl rfl 25 rfl
         have e27 := hdep 17 rfl rfl 27 rfl
         have e19 := hdep 9 rfl rfl 19 rfl
         exact dp_v (v := (pt b31 o32)) (wanted_yes rfl (yv_of rfl (e19.trans (congrArg B hb21)))) (rv_ix Try.underlying23 ti34 e25 e27 hi30) rfl hJ) ?_
       refine ac rfl (by
         intro k _nm ρ σm hJ hoff hdep
         have e28 := hdep 18 rfl rfl 28 rfl
         have e19 := hdep 9 rfl rfl 19 rfl
         exact dp_v (v := (pt b31 (o32 + 0))) (wanted_yes rfl (yv_of rfl (e19.trans (congrArg B hb21)))) (rv_fieldAddr (off := 0) (ft := 3) Try.underlying34 rfl ti3 rfl e28) rfl hJ) ?_
       refine all_cons (by
         refine ⟨?_, ?_⟩
         ·intro _nm ρ σm hJ hoff hdep
          have e29 := hdep 19 rfl rfl 29 rfl
          have e19 := hdep 9 rfl rfl 19 rfl
          obtain ⟨H, m⟩ := id hJ
          replace hc33 := (Hs.ro 1 rfl).hmd hx29 hi30 (k := 0) (by decide) hc33 m
          exact dp_v (v := (I x28.1)) (wanted_yes rfl (yv_of rfl (e19.trans (congrArg B hb21)))) (rv_load1 Try.underlying3 rfl e29 hc33) rfl hJ
         trivial) ?_
       exact all_nil
      ·intro _nm ρ σ34 hJ hoff hrel
       have e0 := look_off (N := 37) (hoff 0 rfl) rfl
       have e3 := look_off (N := 37) (hoff 3 rfl) rfl
       have e16 := hrel 6 rfl 16 rfl
       have e19 := hrel 9 rfl 19 rfl
       have e24 := hrel 14 rfl 24 rfl
       have e30 := hrel 20 rfl 30 rfl
       obtain ⟨H, -⟩ := (show Hp S0 σ0 σ34 [Ch.ro 0 (Sl a13 x6.2.1 c14) x6.2.1, Ch.ro 0 (Sl Aj Ai Ak) Ai] ∧ Md (cov []) σ3 σ34 from hJ)
       clear hJ Hs
       rw [fr_lookL (L := [(0, (Sl Aj Ai Ak)), (3, (I s2)), (16, (B (!r16))), (19, (B (decide (0 < s2)))), (24, (I x22.1)), (30, (I x28.1))]) ⟨e0, e3, e16, e19, e24, e30, trivial⟩]
       clear hoff hrel e0 e3 e16 e19 e24 e30
       refine st_g (v := (B (decide (x22.1 ≤ x28.1)))) (congrArg some hb21) (rv_leq (a := x22.1) (b := x28.1) rfl rfl) (st_g (v := (B (decide (x22.1 ≤ x28.1)))) (congrArg some hb19) (rv_pick_t (congrArg B hb21) rfl) (st (v := (B (decide (x22.1 ≤ x28.1)))) (rv_pick_f (congrArg B hb19) rfl) (w_end ?_)))
       obtain rfl := Option.some.inj h
       exact ⟨rfl, _, σ34, fr_join ⟨rfl, rfl, rfl, trivial⟩, rfl, H.sel' [1] rfl rfl⟩
     ·replace h := bif_f hb21 h
      have Hs := H
      refine rg2 (σ := σ3) (Nm := Unit) 21 [4] [[false], [true]] [[(0, 0)], [(0, 0)], [(0, 0)], [(0, 0)], [(0, 1)], [(1, 1)], [(1, 1)], [(1, 1)], [(1, 1)], [(1, 1)], [(1, 1)], [(1, 1)], [(1, 1)], [(1, 1)], [(1, 1)], [(1, 1)], [(1, 1)], [(1, 1)], [(1, 1)], [(1, 1)], [(1, 1)]] 1 [fun _ => fun σm => Hp S0 σ0 σm [Ch.ro 0 (Sl a13 x6.2.1 c14) x6.2.1, Ch.ro 0 (Sl Aj Ai Ak) Ai] ∧ Md (cov []) σ3 σm, fun _ => fun σm => Hp S0 σ0 σm [Ch.ro 0 (Sl a13 x6.2.1 c14) x6.2.1, Ch.ro 0 (Sl Aj Ai Ak) Ai] ∧ Md (cov []) σ3 σm] [fun _ => (Sl Aj Ai Ak), fun _ => (I s2), fun _ => (pt b9 o10), fun _ => (.agg #[(I x6.1), (Sl a13 x6.2.1 c14), (I x6.2.2)]), fun _ => (B r16), fun _ => (B (!r16)), fun _ => (B (!r16)), fun _ => (I s2), fun _ => (B (decide (0 < s2))), fun _ => (B (decide (0 < s2))), fun _ => undef, fun _ => undef, fun _ => undef, fun _ => undef, fun _ => undef, fun _ => undef, fun _ => undef, fun _ => undef, fun _ => undef, fun _ => undef, fun _ => undef] () (by kernel_rfl) (by kernel_rfl) ?_ ?_ ?_
      ·intro σm m0
       exact ⟨H.grow (m0.mono fun _ h => h.elim), m0⟩
      ·refine ac rfl (by
         intro k _nm ρ σm hJ hoff hdep
         have e0 := look_off (N := 37) (hoff 0 rfl) rfl
         exact dp_v (v := (Sl Aj Ai Ak)) wn (rv_move e0) rfl hJ) ?_
       refine ac rfl (by
         intro k _nm ρ σm hJ hoff hdep
         have e3 := look_off (N := 37) (hoff 3 rfl) rfl
         exact dp_v (v := (I s2)) wn (rv_move e3) rfl hJ) ?_
       refine ac rfl (by
         intro k _nm ρ σm hJ hoff hdep
         have e10 := hdep 0 rfl rfl 10 rfl
         have e11 := hdep 1 rfl rfl 11 rfl
         exact dp_v (v := (pt b9 o10)) wn (rv_ix Try.underlying23 ti34 e10 e11 hi8) rfl hJ) ?_
       refine all_cons (by
         refine ⟨?_, ?_⟩
         ·intro _nm ρ σm hJ hoff hdep
          have e12 := hdep 2 rfl rfl 12 rfl
          obtain ⟨H, m⟩ := id hJ
          replace hc12 := fun j hj => (Hs.ro 1 rfl).hmd hx7 hi8 (k := j) (Nat.lt_of_lt_of_eq hj hl11) (hc12 j hj) m
          exact dp_v (v := (.agg #[(I x6.1), (Sl a13 x6.2.1 c14), (I x6.2.2)])) wn (rv_load Try.underlying34 rfl ti34 e12 hl11 hc12) rfl hJ
         trivial) ?_
       refine all_cons (by
         refine ⟨?_, ?_⟩
         ·intro _nm ρ σm hJ hoff hdep
          have e13 : look 37 ρ 13 = (.agg #[(I x6.1), (Sl a13 x6.2.1 c14), (I x6.2.2)]) := hdep 3 rfl rfl 13 rfl
          obtain ⟨H, m⟩ := id hJ
          refine dp_cx wn (cx_call hc18 (ent_f hc18.fn (by show [look 37 ρ 13] = _; rw [e13])) hn0 (H.sel' [0, 0, 1] rfl rfl : Hp S0 σ0 _ ([_] ++ _))) ?_
          rintro _ σq ⟨_, ⟨rfl, rfl⟩, H2, m2⟩
          exact ⟨_, (), rfl, rfl, ⟨H2.sel' [0, 1] rfl rfl, m.comp0 (m2.mono (fun i h => by simp [cov, Ch.ro] at h))⟩, stab [0, 1, 2, 3] (by kernel_rfl) ⟨rfl, rfl, rfl, rfl, trivial⟩⟩
         trivial) ?_
       refine ac rfl (by
         intro k _nm ρ σm hJ hoff hdep
         have e14 := hdep 4 rfl rfl 14 rfl
         exact dp_v (v := (B (!r16))) wn (rv_not e14) rfl hJ) ?_
       refine ac rfl (by
         intro k _nm ρ σm hJ hoff hdep
         have e15 := hdep 5 rfl rfl 15 rfl
         exact dp_v (v := (B (!r16))) wn (rv_move e15) rfl hJ) ?_
       refine ac rfl (by
         intro k _nm ρ σm hJ hoff hdep
         have e3 := look_off (N := 37) (hoff 3 rfl) rfl
         have e16 := hdep 6 rfl rfl 16 rfl
         exact dp_v (v := (I s2)) (wanted_yes rfl (yv_of rfl (e16.trans (congrArg B hb19)))) (rv_move e3) rfl hJ) ?_
       refine ac rfl (by
         intro k _nm ρ σm hJ hoff hdep
         have e17 := hdep 7 rfl rfl 17 rfl
         have e16 := hdep 6 rfl rfl 16 rfl
         exact dp_v (v := (B (decide (0 < s2)))) (wanted_yes rfl (yv_of rfl (e16.trans (congrArg B hb19)))) (rv_gtr (a := s2) (b := 0) e17 rfl) rfl hJ) ?_
       refine ac rfl (by
         intro k _nm ρ σm hJ hoff hdep
         have e18 := hdep 8 rfl rfl 18 rfl
         have e16 := hdep 6 rfl rfl 16 rfl
         exact dp_v (v := (B (decide (0 < s2)))) (wanted_yes rfl (yv_of rfl (e16.trans (congrArg B hb19)))) (rv_move e18) rfl hJ) ?_
       refine ac rfl (by
         intro k _nm ρ σm hJ hoff hdep
         have e19 := hdep 9 rfl rfl 19 rfl
         exact dp_skip (wanted_no rfl (yv_of rfl (e19.trans (congrArg B hb21)))) rfl hJ) ?_
       refine ac rfl (by
         intro k _nm ρ σm hJ hoff hdep
         have e19 := hdep 9 rfl rfl 19 rfl
         exact dp_skip (wanted_no rfl (yv_of rfl (e19.trans (congrArg B hb21)))) rfl hJ) ?_
       refine ac rfl (by
         intro k _nm ρ σm hJ hoff hdep
         have e19 := hdep 9 rfl rfl 19 rfl
         exact dp_skip (wanted_no rfl (yv_of rfl (e19.trans (congrArg B hb21)))) rfl hJ) ?_
       refine ac rfl (by
         intro k _nm ρ σm hJ hoff hdep
         have e19 := hdep 9 rfl rfl 19 rfl
         exact dp_skip (wanted_no rfl (yv_of rfl (e19.trans (congrArg B hb21)))) rfl hJ) ?_
       refine ac rfl (by
         intro k _nm ρ σm hJ hoff hdep
         have e19 := hdep 9 rfl rfl 19 rfl
         exact dp_skip (wanted_no rfl (yv_of rfl (e19.trans (congrArg B hb21)))) rfl hJ) ?_
       refine ac rfl (by
         intro k _nm ρ σm hJ hoff hdep
         have e19 := hdep 9 rfl rfl 19 rfl
         exact dp_skip (wanted_no rfl (yv_of rfl (e19.trans (congrArg B hb21)))) rfl hJ) ?_
       refine ac rfl (by
         intro k _nm ρ σm hJ hoff hdep
         have e19 := hdep 9 rfl rfl 19 rfl
         exact dp_skip (wanted_no rfl (yv_of rfl (e19.trans (congrArg B hb21)))) rfl hJ) ?_
       refine ac rfl (by
         intro k _nm ρ σm hJ hoff hdep
         have e19 := hdep 9 rfl rfl 19 rfl
         exact dp_skip (wanted_no rfl (yv_of rfl (e19.trans (congrArg B hb21)))) rfl hJ) ?_
       refine ac rfl (by
         intro k _nm ρ σm hJ hoff hdep
         have e19 := hdep 9 rfl rfl 19 rfl
         exact dp_skip (wanted_no rfl (yv_of rfl (e19.trans (congrArg B hb21)))) rfl hJ) ?_
       refine ac rfl (by
         intro k _nm ρ σm hJ hoff hdep
         have e19 := hdep 9 rfl rfl 19 rfl
         exact dp_skip (wanted_no rfl (yv_of rfl (e19.trans (congrArg B hb21)))) rfl hJ) ?_
       refine ac rfl (by
         intro k _nm ρ σm hJ hoff hdep
         have e19 := hdep 9 rfl rfl 19 rfl
         exact dp_skip (wanted_no rfl (yv_of rfl (e19.trans (congrArg B hb21)))) rfl hJ) ?_
       exact all_nil
      ·intro _nm ρ σ35 hJ hoff hrel
       have e0 := look_off (N := 37) (hoff 0 rfl) rfl
       have e3 := look_off (N := 37) (hoff 3 rfl) rfl
       have e16 := hrel 6 rfl 16 rfl
       have e19 := hrel 9 rfl 19 rfl
       have e24 := hrel 14 rfl 24 rfl
       have e30 := hrel 20 rfl 30 rfl
       obtain ⟨H, -⟩ := (show Hp S0 σ0 σ35 [Ch.ro 0 (Sl a13 x6.2.1 c14) x6.2.1, Ch.ro 0 (Sl Aj Ai Ak) Ai] ∧ Md (cov []) σ3 σ35 from hJ)
       clear hJ Hs
       rw [fr_lookL (L := [(0, (Sl Aj Ai Ak)), (3, (I s2)), (16, (B (!r16))), (19, (B (decide (0 < s2)))), (24, undef), (30, undef)]) ⟨e0, e3, e16, e19, e24, e30, trivial⟩]
       clear hoff hrel e0 e3 e16 e19 e24 e30
       refine st_skip (congrArg some hb21) (st_g (v := (B false)) (congrArg some hb19) (rv_pick_f (congrArg B hb21) rfl) (st (v := (B false)) (rv_pick_f (congrArg B hb19) rfl) (w_end ?_)))
       obtain rfl := Option.some.inj h
       exact ⟨rfl, _, σ35, fr_join ⟨rfl, rfl, rfl, trivial⟩, rfl, H.sel' [1] rfl rfl⟩
   ·clear hj
    have h := h'
    clear h' H
    rintro e a w ⟨rfl, ρ, σ36, rfl, rfl, H⟩
    refine q_then ?_
    refine cd_cond o5 rfl (fun hb37 => ?_) (fun hb37 => ?_)
    ·replace h := bif_t hb37 h
     refine c_seq (rg (st (v := (B false)) (rv_assign rfl) (w_end (q_then (c_ret (q_blk_r (q_then_r (q_then_r (q_blk_r ?_)))))))))
     obtain rfl := Option.some.inj h
     obtain rfl := hres _ rfl
     exact .inr (⟨_, rfl, rfl, _, σ36, fr_join ⟨rfl, trivial⟩, rfl, H.sel' [] rfl rfl⟩)
    ·replace h := bif_f hb37 h
     refine c_skip (q_blk (q_then (rg (st (v := (I s2)) (rv_move rfl) (st (v := (I (w64 (s2 + 1)))) (rv_add (a := s2) (b := 1) rfl rfl) (st (v := (I (w64 (s2 + 1)))) (rv_assign rfl) (w_end (q_then ?_))))))))
     obtain rfl := Option.some.inj h
     exact ⟨_, rfl, _, σ36, fr_join ⟨rfl, rfl, trivial⟩, rfl, H.sel' [0] rfl rfl⟩
  ·replace h := bif_f hb4 h
   refine c_exit (q_then_x (q_then_x (q_blk_hit ?_)))
   obtain rfl := Option.some.inj h
   obtain rfl := hres _ rfl
   exact .inl ⟨_, rfl, rfl, _, σ3, fr_join ⟨rfl, trivial⟩, rfl, H.sel' [0] rfl rfl⟩
 ·clear hj
  have h := h'
  clear h' H
  rintro e a w (⟨t38, rfl, rfl, ρ, σ39, rfl, rfl, H⟩ | ⟨t40, rfl, rfl, ρ, σ41, rfl, rfl, H⟩)
  ·replace h := selim_l h
   refine q_then (c_seq (rg (st (v := (Sl Aj Ai Ak)) (rv_move rfl) (st (v := (I (Ai.length : Int))) (rv_len Try.underlying23 rfl) (st (v := (B (decide ((Ai.length : Int) ≤ 16)))) (rv_leq (a := (Ai.length : Int)) (b := 16) rfl rfl) (st (v := (B (decide ((Ai.length : Int) ≤ 16)))) (rv_assign rfl) (w_end (q_then (c_ret ?_)))))))))
   obtain rfl := Option.some.inj h
   exact fin_ret (v := (B (decide ((Ai.length : Int) ≤ 16)))) (results_ok Try.results41 (res_tmp (v := (B (decide ((Ai.length : Int) ≤ 16)))) rfl res_nil) rfl) ⟨rfl, rfl⟩ (H.sel' [] rfl rfl)
  ·replace h := selim_r h
   refine q_then_r ?_
   obtain rfl := Option.some.inj h
   exact fin_ret (v := (B t40)) (results_ok Try.results41 (res_tmp (v := (B t40)) rfl res_nil) rfl) ⟨rfl, rfl⟩ (H.sel' [] rfl rfl)

theorem c_spec_validKind {Am : Int}  {r : Bool} (h : M.spec_validKind Am = some r) :
    Cal2 Try.prog 69 [(I Am)] [] (fun n0 v L => v = (B r) ∧ L = []) := by
 refine cal2 (n := 5) Try.func69 rfl rfl rfl rfl ?_
 intro S0 σ0 n0 hn0 H
 unfold M.spec_validKind at h
 refine c_seq (rg (st (v := (B false)) (rv_assign rfl) (w_end (q_then (c_seq (rg (st (v := (I Am)) (rv_move rfl) ?_)))))))
 obtain ⟨r1, hx2, h'⟩ := bind_some h
 clear h
 have h := h'; clear h'
 have hc3 := c_spec_inRange hx2
 refine st_call (cx_call hc3 (ent_f hc3.fn rfl) hn0 (H.sel' [] rfl rfl : Hp S0 σ0 _ ([] ++ _))) wn ?_
 rintro _ σ4 ⟨_, ⟨rfl, rfl⟩, H, -⟩
 replace H : Hp _ _ _ [] := H
 refine st (v := (B r1)) (rv_assign rfl) (w_end (q_then (c_ret ?_)))
 obtain rfl := Option.some.inj h
 exact fin_ret (v := (B r1)) (results_ok Try.results69 (res_tmp (v := (B r1)) rfl res_nil) rfl) ⟨rfl, rfl⟩ (H.sel' [] rfl rfl)

theorem c_spec_isMetric {Am : Int}  {r : Bool} (h : M.spec_isMetric Am = some r) :
    Cal2 Try.prog 42 [(I Am)] [] (fun n0 v L => v = (B r) ∧ L = []) := by
 refine cal2 (n := 9) Try.func42 rfl rfl rfl rfl ?_
 intro S0 σ0 n0 hn0 H
 unfold M.spec_isMetric at h
 refine c_seq (rg (st (v := (B false)) (rv_assign rfl) (w_end (q_then (c_seq (rg (st (v := (I Am)) (rv_move rfl) ?_)))))))
 obtain ⟨r1, hx2, h'⟩ := bind_some h
 clear h
 have h := h'; clear h'
 have hc3 := c_spec_validKind hx2
 refine st_call (cx_call hc3 (ent_f hc3.fn rfl) hn0 (H.sel' [] rfl rfl : Hp S0 σ0 _ ([] ++ _))) wn ?_
 rintro _ σ4 ⟨_, ⟨rfl, rfl⟩, H, -⟩
 replace H : Hp _ _ _ [] := H
 refine st (v := (B r1)) (rv_move rfl) ?_
 rcases Bool.eq_false_or_eq_true r1 with hb5 | hb5
 ·replace h := bif_t hb5 h
  refine st_g (v := (I Am)) (congrArg some hb5) (rv_move rfl) (st_g (v := (B (Am != 3))) (congrArg some hb5) (rv_neq (a := Am) (b := 3) rfl rfl) (st (v := (B (Am != 3))) (rv_pick_t (congrArg B hb5) rfl) (st (v := (B (Am != 3))) (rv_assign rfl) (w_end (q_then (c_ret ?_))))))
  obtain rfl := Option.some.inj h
  exact fin_ret (v := (B (Am != 3))) (results_ok Try.results42 (res_tmp (v := (B (Am != 3))) rfl res_nil) rfl) ⟨rfl, rfl⟩ (H.sel' [] rfl rfl)
 ·replace h := bif_f hb5 h
  refine st_skip (congrArg some hb5) (st_skip (congrArg some hb5) (st (v := (B false)) (rv_pick_f (congrArg B hb5) rfl) (st (v := (B false)) (rv_assign rfl) (w_end (q_then (c_ret ?_))))))
  obtain rfl := Option.some.inj h
  exact fin_ret (v := (B false)) (results_ok Try.results42 (res_tmp (v := (B false)) rfl res_nil) rfl) ⟨rfl, rfl⟩ (H.sel' [] rfl rfl)

theorem c_spec_nearer {Aq : Int × Int} {Ar : Int × Int}  {r : Bool} (h : M.spec_nearer Aq Ar = some r) :
    Cal2 Try.prog 90 [(.agg #[(I Aq.1), (I Aq.2)]), (.agg #[(I Ar.1), (I Ar.2)])] [] (fun n0 v L => v = (B r) ∧ L = []) := by
 refine cal2 (n := 24) Try.func90 rfl rfl rfl rfl ?_
 intro S0 σ0 n0 hn0 H
 unfold M.spec_nearer at h
 refine c_seq (rg (st_ex (ex_box (cs := [(I Aq.1), (I Aq.2)]) H hn0 rfl rfl) wn ?_))
 rintro _ σ2 ⟨b1, rfl, H, -⟩
 refine st_ex (ex_box (cs := [(I Ar.1), (I Ar.2)]) H hn0 rfl rfl) wn ?_
 rintro _ σ4 ⟨b3, rfl, H, -⟩
 refine st (v := (B false)) (rv_assign rfl) (w_end (q_then (c_seq (rg (st (v := (pt b1 1)) (rv_fieldAddr (off := 1) (ft := 3) Try.underlying107 rfl ti3 rfl rfl) ?_)))))
 have hc5 := H.cell (u := (I Aq.2)) (o' := 1) 1 1 rfl rfl rfl
 refine st (v := (I Aq.2)) (rv_load1 Try.underlying3 rfl rfl hc5) (st (v := (pt b3 1)) (rv_fieldAddr (off := 1) (ft := 3) Try.underlying107 rfl ti3 rfl rfl) ?_)
 have hc6 := H.cell (u := (I Ar.2)) (o' := 1) 0 1 rfl rfl rfl
 refine st (v := (I Ar.2)) (rv_load1 Try.underlying3 rfl rfl hc6) (st (v := (B (decide (Aq.2 < Ar.2)))) (rv_lss (a := Aq.2) (b := Ar.2) rfl rfl) (st (v := (B (decide (Aq.2 < Ar.2)))) (rv_move rfl) ?_))
 rcases Bool.eq_false_or_eq_true (decide (Aq.2 < Ar.2)) with hb7 | hb7
 ·replace h := bif_t hb7 h
  refine st_skip (congrArg some hb7) (st_skip (congrArg some hb7) (st_skip (congrArg some hb7) (st_skip (congrArg some hb7) (st_skip (congrArg some hb7) (st_skip (congrArg some hb7) (st_skip_u rfl (st_skip_u rfl (st_skip_u rfl (st_skip_u rfl (st_skip_u rfl (st_skip (congrArg some hb7) ?_)))))))))))
  refine st (v := (B true)) (rv_pick_t (congrArg B hb7) rfl) (st (v := (B true)) (rv_assign rfl) (w_end (q_then (c_ret ?_))))
  obtain rfl := Option.some.inj h
  exact fin_ret (v := (B true)) (results_ok Try.results90 (res_tmp (v := (B true)) rfl res_nil) rfl) ⟨rfl, rfl⟩ (H.sel' [] rfl rfl)
 ·replace h := bif_f hb7 h
  refine st_g (v := (pt b1 1)) (congrArg some hb7) (rv_fieldAddr (off := 1) (ft := 3) Try.underlying107 rfl ti3 rfl rfl) ?_
  have hc8 := H.cell (u := (I Aq.2)) (o' := 1) 1 1 rfl rfl rfl
  refine st_g (v := (I Aq.2)) (congrArg some hb7) (rv_load1 Try.underlying3 rfl rfl hc8) (st_g (v := (pt b3 1)) (congrArg some hb7) (rv_fieldAddr (off := 1) (ft := 3) Try.underlying107 rfl ti3 rfl rfl) ?_)
  have hc9 := H.cell (u := (I Ar.2)) (o' := 1) 0 1 rfl rfl rfl
  refine st_g (v := (I Ar.2)) (congrArg some hb7) (rv_load1 Try.underlying3 rfl rfl hc9) (st_g (v := (B (Aq.2 == Ar.2))) (congrArg some hb7) (rv_eql (a := Aq.2) (b := Ar.2) rfl rfl) (st_g (v := (B (Aq.2 == Ar.2))) (congrArg some hb7) (rv_move rfl) ?_))
  rcases Bool.eq_false_or_eq_true (Aq.2 == Ar.2) with hb10 | hb10
  ·replace h := bif_t hb10 h
   refine st_g (v := (pt b1 0)) (congrArg some hb10) (rv_fieldAddr (off := 0) (ft := 3) Try.underlying107 rfl ti3 rfl rfl) ?_
   have hc11 := H.cell (u := (I Aq.1)) (o' := 0) 1 0 rfl rfl rfl
   refine st_g (v := (I Aq.1)) (congrArg some hb10) (rv_load1 Try.underlying3 rfl rfl hc11) (st_g (v := (pt b3 0)) (congrArg some hb10) (rv_fieldAddr (off := 0) (ft := 3) Try.underlying107 rfl ti3 rfl rfl) ?_)
   have hc12 := H.cell (u := (I Ar.1)) (o' := 0) 0 0 rfl rfl rfl
   refine st_g (v := (I Ar.1)) (congrArg some hb10) (rv_load1 Try.underlying3 rfl rfl hc12) (st_g (v := (B (decide (Aq.1 < Ar.1)))) (congrArg some hb10) (rv_lss (a := Aq.1) (b := Ar.1) rfl rfl) (st_g (v := (B (decide (Aq.1 < Ar.1)))) (congrArg some hb7) (rv_pick_t (congrArg B hb10) rfl) (st (v := (B (decide (Aq.1 < Ar.1)))) (rv_pick_f (congrArg B hb7) rfl) (st (v := (B (decide (Aq.1 < Ar.1)))) (rv_assign rfl) (w_end (q_then (c_ret ?_)))))))
   obtain rfl := Option.some.inj h
   exact fin_ret (v := (B (decide (Aq.1 < Ar.1)))) (results_ok Try.results90 (res_tmp (v := (B (decide (Aq.1 < Ar.1)))) rfl res_nil) rfl) ⟨rfl, rfl⟩ (H.sel' [] rfl rfl)
  ·replace h := bif_f hb10 h
   refine st_skip (congrArg some hb10) (st_skip (congrArg some hb10) (st_skip (congrArg some hb10) (st_skip (congrArg some hb10) (st_skip (congrArg some hb10) (st_g (v := (B false)) (congrArg some hb7) (rv_pick_f (congrArg B hb10) rfl) (st (v := (B false)) (rv_pick_f (congrArg B hb7) rfl) (st (v := (B false)) (rv_assign rfl) (w_end (q_then (c_ret ?_))))))))))
   obtain rfl := Option.some.inj h
   exact fin_ret (v := (B false)) (results_ok Try.results90 (res_tmp (v := (B false)) rfl res_nil) rfl) ⟨rfl, rfl⟩ (H.sel' [] rfl rfl)

theorem c_spec_size {Gt : Int}  {r : Int} (h : M.spec_size Gt = some r) :
    Cal2 Try.prog 92 [(I Gt)] [] (fun n0 v L => v = (I r) ∧ L = []) := by
 refine cal2 (n := 7) Try.func92 rfl rfl rfl rfl ?_
 intro S0 σ0 n0 hn0 H
 unfold M.spec_size at h
 refine c_seq (rg (st (v := (I 0)) (rv_assign rfl) (w_end (q_then (c_seq (rg (st (v := (I Gt)) (rv_move rfl) (st (v := (I Gt)) (rv_move rfl) (st (v := (I (w64 (0 - Gt)))) (rv_neg (a := Gt) rfl) (st (v := (I (max Gt (w64 (0 - Gt))))) (rv_max rfl rfl) (st (v := (I (max Gt (w64 (0 - Gt))))) (rv_assign rfl) ?_)))))))))))
 refine w_end (q_then (c_ret ?_))
 obtain rfl := Option.some.inj h
 exact fin_ret (v := (I (max Gt (w64 (0 - Gt))))) (results_ok Try.results92 (res_tmp (v := (I (max Gt (w64 (0 - Gt))))) rfl res_nil) rfl) ⟨rfl, rfl⟩ (H.sel' [] rfl rfl)

theorem c_spec_toInt {Ga : Bool}  {r : Int} (h : M.spec_toInt Ga = some r) :
    Cal2 Try.prog 93 [(B Ga)] [] (fun n0 v L => v = (I r) ∧ L = []) := by
 refine cal2 (n := 4) Try.func93 rfl rfl rfl rfl ?_
 intro S0 σ0 n0 hn0 H
 unfold M.spec_toInt at h
 refine c_seq (rg (st (v := (I 0)) (rv_assign rfl) (w_end (q_then (c_seq (c_seq (rg (st (v := (B Ga)) (rv_move rfl) (w_end (q_then ?_))))))))))
 refine cd_cond Ga rfl (fun hb1 => ?_) (fun hb1 => ?_)
 ·replace h := bif_t hb1 h
  refine c_seq (rg (st (v := (I 1)) (rv_assign rfl) (w_end (q_then (c_ret (q_then_r ?_))))))
  obtain rfl := Option.some.inj h
  exact fin_ret (v := (I 1)) (results_ok Try.results93 (res_tmp (v := (I 1)) rfl res_nil) rfl) ⟨rfl, rfl⟩ (H.sel' [] rfl rfl)
 ·replace h := bif_f hb1 h
  refine c_skip (q_then (c_seq (rg (st (v := (I 0)) (rv_assign rfl) (w_end (q_then (c_ret ?_)))))))
  obtain rfl := Option.some.inj h
  exact fin_ret (v := (I 0)) (results_ok Try.results93 (res_tmp (v := (I 0)) rfl res_nil) rfl) ⟨rfl, rfl⟩ (H.sel' [] rfl rfl)

theorem c_spec_dist {Am : Int} {Av : List Int} {Aw : List Int} {Ax : Option Addr} {Ay : Nat} {Az : Option Addr} {Ba : Nat} {r : Int} (h : M.spec_dist Am Av Aw = some r) :
    Cal2 Try.prog 71 [(I Am), (Sl Ax Av Ay), (Sl Az Aw Ba)] [Ch.ro 0 (Sl Ax Av Ay) Av, Ch.ro 0 (Sl Az Aw Ba) Aw] (fun n0 v L => v = (I r) ∧ L = []) := by
 refine cal2 (n := 50) Try.func71 rfl rfl rfl rfl ?_
 intro S0 σ0 n0 hn0 H
 unfold M.spec_dist at h
 refine c_seq (rg (st (v := (I 0)) (rv_assign rfl) (w_end (q_then (c_seq (rg (st (v := (I 0)) (rv_assign rfl) (w_end (q_then (c_seq (c_seq ?_)))))))))))
 refine rg (st (v := (I 0)) (rv_assign rfl) (w_end (q_then ?_)))
 obtain ⟨o1, hj, h'⟩ := bind_some h
 clear h
 refine c_cut (fun e a w => e = .normal ∧ ∃ (ρ : Nat → Value) (σ : St), a = fr 50 (updL ρ [(7, (I o1))]) ∧ w = σ.w ∧ Hp S0 σ0 σ []) ?_ ?_
 ·clear h'
  rename _ = some o1 => h
  refine c_blk (wp_loopM _ h (fun s2 a w => ∃ (ρ : Nat → Value) (σ : St), a = fr 50 (updL ρ [(0, (I Am)), (1, (Sl Ax Av Ay)), (2, (Sl Az Aw Ba)), (7, (I s2.1)), (8, (I s2.2))]) ∧ w = σ.w ∧ Hp S0 σ0 σ [Ch.ro 0 (Sl Ax Av Ay) Av, Ch.ro 0 (Sl Az Aw Ba) Aw]) ⟨_, σ0, fr_join ⟨rfl, rfl, rfl, rfl, rfl, trivial⟩, rfl, H.sel' [0, 1] rfl rfl⟩ ?_)
  clear h H
  rintro s2 a w o ⟨ρ, σ3, rfl, rfl, H⟩ h hres
  refine c_seq (c_seq (rg (st (v := (I s2.2)) (rv_move rfl) (st (v := (Sl Ax Av Ay)) (rv_move rfl) (st (v := (I (Av.length : Int))) (rv_len Try.underlying29 rfl) (st (v := (B (decide (s2.2 < (Av.length : Int))))) (rv_lss (a := s2.2) (b := (Av.length : Int)) rfl rfl) (w_end (q_then ?_))))))))
  refine cd_cond (decide (s2.2 < (Av.length : Int))) rfl (fun hb4 => ?_) (fun hb4 => ?_)
  ·replace h := bif_t hb4 h
   refine c_skip (q_then (c_seq ?_))
   obtain ⟨o5, hj, h'⟩ := bind_some h
   clear h
   refine c_cut (fun e a w => e = .normal ∧ ∃ (ρ : Nat → Value) (σ : St), a = fr 50 (updL ρ [(0, (I Am)), (1, (Sl Ax Av Ay)), (2, (Sl Az Aw Ba)), (7, (I o5)), (8, (I s2.2))]) ∧ w = σ.w ∧ Hp S0 σ0 σ [Ch.ro 0 (Sl Ax Av Ay) Av, Ch.ro 0 (Sl Az Aw Ba) Aw]) ?_ ?_
   ·clear h'
    rename _ = some o5 => h
    refine c_blk (c_seq ?_)
    refine rgP (σ := σ3) 8 (by kernel_rfl) (by kernel_rfl) (by kernel_rfl) ?_
    refine sq (v := (Sl Ax Av Ay)) (rv_move rfl) (sq (v := (I s2.2)) (rv_move rfl) ?_)
    obtain ⟨x6, hx7, h'⟩ := bind_some h
    clear h
    have h := h'; clear h'
    obtain ⟨b9, o10, hi8, -⟩ := (H.ro 0 rfl).ix hx7
    refine sq (v := (pt b9 o10)) (rv_ix Try.underlying29 ti3 rfl rfl hi8) ?_
    have hc11 := ((H.ro 0 rfl).at hx7 hi8).int
    refine sq (v := (I x6)) (rv_load1 Try.underlying3 rfl rfl hc11) (sq (v := (Sl Az Aw Ba)) (rv_move rfl) (sq (v := (I s2.2)) (rv_move rfl) ?_))
    obtain ⟨x12, hx13, h'⟩ := bind_some h
    clear h
    have h := h'; clear h'
    obtain ⟨b15, o16, hi14, -⟩ := (H.ro 1 rfl).ix hx13
    refine sq (v := (pt b15 o16)) (rv_ix Try.underlying29 ti3 rfl rfl hi14) ?_
    have hc17 := ((H.ro 1 rfl).at hx13 hi14).int
    refine sq (v := (I x12)) (rv_load1 Try.underlying3 rfl rfl hc17) (sq_end ?_)
    intro σ18 hm19
    replace H := H.grow (hm19.mono fun _ h => h); clear hm19
    refine st (v := (I (w64 (x6 - x12)))) (rv_sub (a := x6) (b := x12) rfl rfl) ?_
    obtain ⟨r20, hx21, h'⟩ := bind_some h
    clear h
    have h := h'; clear h'
    have hc22 := c_spec_size hx21
    refine st_call (cx_call hc22 (ent_f hc22.fn rfl) hn0 (H.sel' [0, 1] rfl rfl : Hp S0 σ0 _ ([] ++ _))) wn ?_
    rintro _ σ23 ⟨_, ⟨rfl, rfl⟩, H, -⟩
    replace H : Hp _ _ _ [_, _] := H
    refine st (v := (I r20)) (rv_assign rfl) (w_end (q_then (c_seq (rg (st (v := (I Am)) (rv_move rfl) (w_end (q_then (c_blk (c_seq (rg (st (v := (B (Am == 1))) (rv_eql (a := Am) (b := 1) rfl rfl) ?_)))))))))))
    refine st (v := (B (Am == 1))) (rv_assign rfl) (w_end (q_then ?_))
    refine cd_cond (Am == 1) rfl (fun hb24 => ?_) (fun hb24 => ?_)
    ·replace h := bif_t hb24 h
     refine rg (st (v := (I s2.1)) (rv_move rfl) (st (v := (I r20)) (rv_move rfl) (st (v := (I (w64 (s2.1 + r20)))) (rv_add (a := s2.1) (b := r20) rfl rfl) (st (v := (I (w64 (s2.1 + r20)))) (rv_assign rfl) (w_end (q_blk (q_blk ?_)))))))
     obtain rfl := Option.some.inj h
     exact ⟨rfl, _, σ23, fr_join ⟨rfl, rfl, rfl, rfl, rfl, trivial⟩, rfl, H.sel' [0, 1] rfl rfl⟩
    ·replace h := bif_f hb24 h
     refine c_seq (rg (st (v := (B (Am == 2))) (rv_eql (a := Am) (b := 2) rfl rfl) (st (v := (B (Am == 2))) (rv_assign rfl) (w_end (q_then ?_)))))
     refine cd_cond (Am == 2) rfl (fun hb25 => ?_) (fun hb25 => ?_)
     ·replace h := bif_t hb25 h
      refine rg (st (v := (I s2.1)) (rv_move rfl) (st (v := (I r20)) (rv_move rfl) (st (v := (I (max s2.1 r20))) (rv_max rfl rfl) (st (v := (I (max s2.1 r20))) (rv_assign rfl) (w_end (q_blk (q_blk ?_)))))))
      obtain rfl := Option.some.inj h
      exact ⟨rfl, _, σ23, fr_join ⟨rfl, rfl, rfl, rfl, rfl, trivial⟩, rfl, H.sel' [0, 1] rfl rfl⟩
     ·replace h := bif_f hb25 h
      refine c_seq (rg (st (v := (B (Am == 3))) (rv_eql (a := Am) (b := 3) rfl rfl) (st (v := (B (Am == 3))) (rv_assign rfl) (w_end (q_then ?_)))))
      refine cd_cond (Am == 3) rfl (fun hb26 => ?_) (fun hb26 => ?_)
      ·replace h := bif_t hb26 h
       refine rg (st (v := (I s2.1)) (rv_move rfl) (st (v := (I r20)) (rv_move rfl) (st (v := (I r20)) (rv_move rfl) (st (v := (I (w64 (r20 * r20)))) (rv_mul (a := r20) (b := r20) rfl rfl) (st (v := (I (w64 (s2.1 + (w64 (r20 * r20)))))) (rv_add (a := s2.1) (b := (w64 (r20 * r20))) rfl rfl) (st (v := (I (w64 (s2.1 + (w64 (r20 * r20)))))) (rv_assign rfl) (w_end (q_blk (q_blk ?_)))))))))
       obtain rfl := Option.some.inj h
       exact ⟨rfl, _, σ23, fr_join ⟨rfl, rfl, rfl, rfl, rfl, trivial⟩, rfl, H.sel' [0, 1] rfl rfl⟩
      ·replace h := bif_f hb26 h
       refine rg (st (v := (I s2.1)) (rv_move rfl) (st (v := (I r20)) (rv_move rfl) (st (v := (B (decide (0 < r20)))) (rv_gtr (a := r20) (b := 0) rfl rfl) ?_)))
       obtain ⟨r27, hx28, h'⟩ := bind_some h
       clear h
       have h := h'; clear h'
       have hc29 := c_spec_toInt hx28
       refine st_call (cx_call hc29 (ent_f hc29.fn rfl) hn0 (H.sel' [0, 1] rfl rfl : Hp S0 σ0 _ ([] ++ _))) wn ?_
       rintro _ σ30 ⟨_, ⟨rfl, rfl⟩, H, -⟩
       replace H : Hp _ _ _ [_, _] := H
       refine st (v := (I (w64 (s2.1 + r27)))) (rv_add (a := s2.1) (b := r27) rfl rfl) (st (v := (I (w64 (s2.1 + r27)))) (rv_assign rfl) (w_end (q_blk (q_blk ?_))))
       obtain rfl := Option.some.inj h
       exact ⟨rfl, _, σ30, fr_join ⟨rfl, rfl, rfl, rfl, rfl, trivial⟩, rfl, H.sel' [0, 1] rfl rfl⟩
   ·clear hj
    have h := h'
    clear h' H
    rintro e a w ⟨rfl, ρ, σ31, rfl, rfl, H⟩
    refine q_then (rg (st (v := (I s2.2)) (rv_move rfl) (st (v := (I (w64 (s2.2 + 1)))) (rv_add (a := s2.2) (b := 1) rfl rfl) (st (v := (I (w64 (s2.2 + 1)))) (rv_assign rfl) (w_end (q_then ?_))))))
    obtain rfl := Option.some.inj h
    exact ⟨_, rfl, _, σ31, fr_join ⟨rfl, rfl, rfl, rfl, rfl, trivial⟩, rfl, H.sel' [0, 1] rfl rfl⟩
  ·replace h := bif_f hb4 h
   refine c_exit (q_then_x (q_then_x (q_blk_hit ?_)))
   obtain rfl := Option.some.inj h
   obtain rfl := hres _ rfl
   exact ⟨rfl, _, σ3, fr_join ⟨rfl, trivial⟩, rfl, H.sel' [] rfl rfl⟩
 ·clear hj
  have h := h'
  clear h' H
  rintro e a w ⟨rfl, ρ, σ32, rfl, rfl, H⟩
  refine q_then (c_seq (rg (st (v := (I o1)) (rv_move rfl) (st (v := (I o1)) (rv_assign rfl) (w_end (q_then (c_ret ?_)))))))
  obtain rfl := Option.some.inj h
  exact fin_ret (v := (I o1)) (results_ok Try.results71 (res_tmp (v := (I o1)) rfl res_nil) rfl) ⟨rfl, rfl⟩ (H.sel' [] rfl rfl)

theorem c_spec_hit {Af : Int × (List Int) × Int} {Bl : Int} {Bm : List Int} {Ag : Option Addr} {Ah : Nat} {Bn : Option Addr} {Bo : Nat} {r : (Int × Int)} (h : M.spec_hit Af Bl Bm = some r) :
    Cal2 Try.prog 91 [(.agg #[(I Af.1), (Sl Ag Af.2.1 Ah), (I Af.2.2)]), (I Bl), (Sl Bn Bm Bo)] [Ch.ro 0 (Sl Ag Af.2.1 Ah) Af.2.1, Ch.ro 0 (Sl Bn Bm Bo) Bm] (fun n0 v L => v = (.agg #[(I r.1), (I r.2)]) ∧ L = []) := by
 refine cal2 (n := 15) Try.func91 rfl rfl rfl rfl ?_
 intro S0 σ0 n0 hn0 H
 unfold M.spec_hit at h
 refine c_seq (rg (st_ex (ex_box (cs := [(I Af.1), (Sl Ag Af.2.1 Ah), (I Af.2.2)]) H hn0 rfl rfl) wn ?_))
 rintro _ σ2 ⟨b1, rfl, H, -⟩
 refine st_ex (ex_alloc (cs := [(I 0), (I 0)]) H hn0 ti107 rfl) wn ?_
 rintro _ σ4 ⟨b3, rfl, H, -⟩
 refine w_end (q_then (c_seq ?_))
 have hc5 := H.cell (u := (I Af.1)) (o' := 0) 1 0 rfl rfl rfl
 have hc6 := H.cell (u := (Sl Ag Af.2.1 Ah)) (o' := 1) 1 1 rfl rfl rfl
 obtain ⟨r7, hx8, h'⟩ := bind_some h
 clear h
 have h := h'; clear h'
 have hc9 := c_spec_dist (Ax := Ag) (Ay := Ah) (Az := Bn) (Ba := Bo) hx8
 have Hs := H
 refine rg2 (σ := σ4) (Nm := Unit) 7 [6] [[false], [true]] [[(0, 0), (1, 1)], [(0, 0), (1, 1)], [(0, 0)], [(0, 0)], [(0, 0)], [(0, 0)], [(0, 1)]] 1 [fun _ => fun σm => Hp S0 σ0 σm [Ch.bx n0 b3 0 [(I 0), (I 0)] [] [], Ch.bx n0 b1 0 [(I Af.1), (Sl Ag Af.2.1 Ah), (I Af.2.2)] [] [], Ch.ro 0 (Sl Ag Af.2.1 Ah) Af.2.1, Ch.ro 0 (Sl Bn Bm Bo) Bm] ∧ Md (cov []) σ4 σm, fun _ => fun σm => Hp S0 σ0 σm [Ch.bx n0 b3 0 [(I 0), (I 0)] [] [], Ch.bx n0 b1 0 [(I Af.1), (Sl Ag Af.2.1 Ah), (I Af.2.2)] [] [], Ch.ro 0 (Sl Ag Af.2.1 Ah) Af.2.1, Ch.ro 0 (Sl Bn Bm Bo) Bm] ∧ Md (cov []) σ4 σm] [fun _ => (pt b1 0), fun _ => (I Af.1), fun _ => (I Bl), fun _ => (pt b1 1), fun _ => (Sl Ag Af.2.1 Ah), fun _ => (Sl Bn Bm Bo), fun _ => (I r7)] () (by kernel_rfl) (by kernel_rfl) ?_ ?_ ?_
 ·intro σm m0
  exact ⟨H.grow (m0.mono fun _ h => h.elim), m0⟩
 ·refine ac rfl (by
    intro k _nm ρ σm hJ hoff hdep
    have e3 := look_off (N := 15) (hoff 3 rfl) rfl
    exact dp_v (v := (pt b1 0)) wn (rv_fieldAddr (off := 0) (ft := 3) Try.underlying34 rfl ti3 rfl e3) rfl hJ) ?_
  refine all_cons (by
    refine ⟨?_, ?_⟩
    ·intro _nm ρ σm hJ hoff hdep
     have e7 := hdep 0 rfl rfl 7 rfl
     obtain ⟨H, m⟩ := id hJ
     have hc5 := H.cell (u := (I Af.1)) (o' := 0) 1 0 rfl rfl rfl
     exact dp_v (v := (I Af.1)) wn (rv_load1 Try.underlying3 rfl e7 hc5) rfl hJ
    refine ⟨?_, ?_⟩
    ·intro _nm ρ σm hJ hoff hdep
     have e7 := hdep 0 rfl rfl 7 rfl
     obtain ⟨H, m⟩ := id hJ
     have hc5 := H.cell (u := (I Af.1)) (o' := 0) 1 0 rfl rfl rfl
     exact dp_v (v := (I Af.1)) wn (rv_load1 Try.underlying3 rfl e7 hc5) rfl hJ
    trivial) ?_
  refine ac rfl (by
    intro k _nm ρ σm hJ hoff hdep
    have e1 := look_off (N := 15) (hoff 1 rfl) rfl
    exact dp_v (v := (I Bl)) wn (rv_move e1) rfl hJ) ?_
  refine ac rfl (by
    intro k _nm ρ σm hJ hoff hdep
    have e3 := look_off (N := 15) (hoff 3 rfl) rfl
    exact dp_v (v := (pt b1 1)) wn (rv_fieldAddr (off := 1) (ft := 29) Try.underlying34 rfl ti29 rfl e3) rfl hJ) ?_
  refine all_cons (by
    refine ⟨?_, ?_⟩
    ·intro _nm ρ σm hJ hoff hdep
     have e10 := hdep 3 rfl rfl 10 rfl
     obtain ⟨H, m⟩ := id hJ
     have hc6 := H.cell (u := (Sl Ag Af.2.1 Ah)) (o' := 1) 1 1 rfl rfl rfl
     exact dp_v (v := (Sl Ag Af.2.1 Ah)) wn (rv_load1 Try.underlying29 rfl e10 hc6) rfl hJ
    trivial) ?_
  refine ac rfl (by
    intro k _nm ρ σm hJ hoff hdep
    have e2 := look_off (N := 15) (hoff 2 rfl) rfl
    exact dp_v (v := (Sl Bn Bm Bo)) wn (rv_move e2) rfl hJ) ?_
  refine all_cons (by
    refine ⟨?_, ?_⟩
    ·intro _nm ρ σm hJ hoff hdep
     have e9 : look 15 ρ 9 = (I Bl) := hdep 2 rfl rfl 9 rfl
     have e11 : look 15 ρ 11 = (Sl Ag Af.2.1 Ah) := hdep 4 rfl rfl 11 rfl
     have e12 : look 15 ρ 12 = (Sl Bn Bm Bo) := hdep 5 rfl rfl 12 rfl
     obtain ⟨H, m⟩ := id hJ
     refine dp_cx wn (cx_call hc9 (ent_f hc9.fn (by show [look 15 ρ 9, look 15 ρ 11, look 15 ρ 12] = _; rw [e9, e11, e12])) hn0 (H.sel' [2, 3, 0, 1, 2, 3] rfl rfl : Hp S0 σ0 _ ([_, _] ++ _))) ?_
     rintro _ σq ⟨_, ⟨rfl, rfl⟩, H2, m2⟩
     exact ⟨_, (), rfl, rfl, ⟨H2.sel' [0, 1, 2, 3] rfl rfl, m.comp0 (m2.mono (fun i h => by simp [cov, Ch.ro] at h))⟩, stab [0, 1, 2, 3, 4, 5] (by kernel_rfl) ⟨rfl, rfl, rfl, rfl, rfl, rfl, trivial⟩⟩
    trivial) ?_
  exact all_nil
 ·intro _nm ρ σ10 hJ hoff hrel
  have e6 := look_off (N := 15) (hoff 6 rfl) rfl
  have e8 := hrel 1 rfl 8 rfl
  have e13 := hrel 6 rfl 13 rfl
  obtain ⟨H, -⟩ := (show Hp S0 σ0 σ10 [Ch.bx n0 b3 0 [(I 0), (I 0)] [] [], Ch.bx n0 b1 0 [(I Af.1), (Sl Ag Af.2.1 Ah), (I Af.2.2)] [] [], Ch.ro 0 (Sl Ag Af.2.1 Ah) Af.2.1, Ch.ro 0 (Sl Bn Bm Bo) Bm] ∧ Md (cov []) σ4 σ10 from hJ)
  clear hJ Hs
  rw [fr_lookL (L := [(6, (pt b3 0)), (8, (I Af.1)), (13, (I r7))]) ⟨e6, e8, e13, trivial⟩]
  clear hoff hrel e6 e8 e13
  refine st (v := (.agg #[(I Af.1), (I r7)])) (rv_build (ps := [(0, (I Af.1)), (1, (I r7))]) Try.underlying107 ti107 (bp107 Try.underlying107) rfl (by kernel_rfl)) ?_
  refine st_exS (ex_store_box (k := 0) (cs := [(I 0), (I 0)]) (vs := [(I Af.1), (I r7)]) (cs' := [(I Af.1), (I r7)]) H (i := 0) rfl ti107 rfl rfl rfl rfl rfl (Nat.le_of_ble_eq_true rfl) (by simp [plain]) rfl) wn ?_
  rintro σ11 ⟨H, -⟩
  refine w_end (q_then (c_ret ?_))
  obtain rfl := Option.some.inj h
  exact fin_ret (v := (.agg #[(I Af.1), (I r7)])) (results_ok Try.results91 (res_cell rfl (run_cellRes (cs := [(I Af.1), (I r7)]) Try.underlying107 rfl ti107 rfl (H.cells 0 rfl)) res_nil) rfl) ⟨rfl, rfl⟩ (H.sel' [] rfl rfl)

end Go.Vs
