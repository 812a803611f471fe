/- The functions compute what their models say. -/
import Derived.Test.YtflpjndobffkjaaKTreeVisitsMoreC5
set_option linter.unusedVariables false
set_option linter.unusedSimpArgs false
set_option maxRecDepth 20000
namespace Go.Vs
open Go Go.Proofs
attribute [local irreducible] Code.wp Code.wpIn wpList wpListIn wpQuiet Calls CallsIn

theorem c_slices_SortFunc_impl_Item_impl_Item__impl_sortByDistance_1 {Bd : List (Int × (List Int) × Int)} {Fw : Int} {Fx : List Int} {Fy : Option Addr} {Ga : Nat} {Gb Gc Gd : Nat} {Ge Gf : List Value} {Gg : Option Addr} {Gh : Nat} {Gi Gj Gk : Nat} {Gl Gm : List Value} {r : (List (Int × (List Int) × Int))} (h : M.slices_SortFunc_impl_Item_impl_Item__impl_sortByDistance_1 Bd Fw Fx = some r) :
    Cal2 Try.prog 87 [(Sl Fy Bd Ga), (.func (.func 88) #[] #[(pt Gc Gd), (pt Gj Gk)])] [Ch.own 0 0 (Sl Fy Bd Ga) Bd, Ch.bx Gb Gc Gd [(I Fw)] Ge Gf, Ch.bx Gi Gj Gk [(Sl Gg Fx Gh)] Gl Gm, Ch.ro 0 (Sl Gg Fx Gh) Fx] (fun n0 v L => v = (.tuple #[]) ∧ L = [Ch.own 0 0 (Sl Fy r Ga) r, Ch.bx Gb Gc Gd [(I Fw)] Ge Gf, Ch.bx Gi Gj Gk [(Sl Gg Fx Gh)] Gl Gm] ∧ r.length = Bd.length) := by
 refine cal2 (n := 14) Try.func87 rfl rfl rfl rfl ?_
 intro S0 σ0 n0 hn0 H
 unfold M.slices_SortFunc_impl_Item_impl_Item__impl_sortByDistance_1 at h
 refine c_seq (rg (st (v := (Sl Fy Bd Ga)) (rv_move rfl) (st (v := (I (Bd.length : Int))) (rv_len Try.underlying23 rfl) (st (v := (I (Bd.length : Int))) (rv_assign rfl) (w_end (q_then (rg (st (v := (Sl Fy Bd Ga)) (rv_move rfl) (st (v := (I (Bd.length : Int))) (rv_move rfl) (st (v := (I (Bd.length : Int))) (rv_move rfl) (st (v := (.int .u64 (wk .u64 (Bd.length : Int)))) (rvk_conv (k := .i64) (k' := .u64) (a := (Bd.length : Int)) Try.underlying3 Try.underlying132 rfl) ?_)))))))))))
 obtain ⟨r1, hx2, h'⟩ := bind_some h
 clear h
 have h := h'; clear h'
 have hc3 := c_math_bits_Len hx2
 refine st_call (cx_call hc3 (ent_f hc3.fn rfl) hn0 (H.sel' [0, 1, 2, 3] rfl rfl : Hp S0 σ0 _ ([] ++ _))) wn ?_
 rintro _ σ4 ⟨_, ⟨rfl, rfl⟩, H, -⟩
 replace H : Hp _ _ _ [_, _, _, _] := H
 refine st (v := (.func (.func 88) #[] #[(pt Gc Gd), (pt Gj Gk)])) (rv_move rfl) ?_
 obtain ⟨r5, hx6, h'⟩ := bind_some h
 clear h
 have h := h'; clear h'
 have hc7 := c_slices_pdqsortCmpFunc_impl_Item__impl_sortByDistance_1 100 (Dg := Fy) (Dh := Ga) (Dz := Gb) (Ea := Gc) (Eb := Gd) (Ec := Ge) (Ed := Gf) (Eg := Gi) (Eh := Gj) (Ei := Gk) (Ej := Gl) (Ek := Gm) (Ee := Gg) (Ef := Gh) hx6
 refine st_call (cx_call hc7 (ent_f hc7.fn rfl) hn0 (H.sel' [0, 1, 2, 3, 3] rfl rfl : Hp S0 σ0 _ ([_, _, _, _] ++ _))) wn ?_
 rintro _ σ9 ⟨_, ⟨rfl, rfl, hn8⟩, H, -⟩
 replace H : Hp _ _ _ [_, _, _, _] := H
 have hsl : (Sl Fy Bd Ga) = (Sl Fy r5 Ga) := sl_len hn8.symm
 try rw [hsl]
 try rw [hsl] at H
 clear hsl
 refine w_end ?_
 obtain rfl := Option.some.inj h
 exact fin_end (v := (.tuple #[])) (results_ok Try.results87 res_nil rfl) ⟨rfl, rfl, hn8⟩ (H.sel' [0, 1, 2] rfl rfl)

theorem c_impl_sortByDistance {Ap : List (Int × (List Int) × Int)} {Cb : Int} {Cc : List Int} {Aq : Option Addr} {Ar : Nat} {Cd : Option Addr} {Ce : Nat} {r : (List (Int × (List Int) × Int))} (h : M.impl_sortByDistance Ap Cb Cc = some r) :
    Cal2 Try.prog 67 [(Sl Aq Ap Ar), (I Cb), (Sl Cd Cc Ce)] [Ch.ro 0 (Sl Aq Ap Ar) Ap, Ch.ro 0 (Sl Cd Cc Ce) Cc] (fun n0 v L => ∃ (az1 : Option Addr), ∃ (cz2 : Nat), v = (Sl az1 r cz2) ∧ L = [Ch.own 0 0 (Sl az1 r cz2) r]) := by
 refine cal2 (n := 14) Try.func67 rfl rfl rfl rfl ?_
 intro S0 σ0 n0 hn0 H
 unfold M.impl_sortByDistance at h
 refine c_seq (rg (st_ex (ex_box (cs := [(I Cb)]) H hn0 rfl rfl) wn ?_))
 rintro _ σ2 ⟨b1, rfl, H, -⟩
 refine st_ex (ex_box (cs := [(Sl Cd Cc Ce)]) H hn0 rfl rfl) wn ?_
 rintro _ σ4 ⟨b3, rfl, H, -⟩
 refine st (v := (.slice none 0 0)) (rv_assign rfl) (w_end (q_then (c_seq (rg (st (v := (Sl Aq Ap Ar)) (rv_move rfl) ?_)))))
 obtain ⟨r5, hx6, h'⟩ := bind_some h
 clear h
 have h := h'; clear h'
 have hc7 := c_slices_Clone_impl_Item_impl_Item (By := Aq) (Bz := Ar) hx6
 refine st_call (cx_call hc7 (ent_f hc7.fn rfl) hn0 (H.sel' [2, 0, 1, 2, 3] rfl rfl : Hp S0 σ0 _ ([_] ++ _))) wn ?_
 rintro _ σ10 ⟨_, ⟨a8, c9, rfl, rfl⟩, H, -⟩
 replace H : Hp _ _ _ [_, _, _, _, _] := H
 refine st (v := (Sl a8 r5 c9)) (rv_assign rfl) (w_end (q_then (c_seq (rg (st (v := (Sl a8 r5 c9)) (rv_move rfl) (st (v := (.func (.func 88) #[] #[(pt b1 0), (pt b3 0)])) (rv_makeFunc (vs := [(pt b1 0), (pt b3 0)]) rfl) ?_))))))
 replace H := H.ownLow 0 0 0 rfl (Nat.zero_le _) (Nat.zero_le _)
 obtain ⟨r11, hx12, h'⟩ := bind_some h
 clear h
 have h := h'; clear h'
 have hc13 := c_slices_SortFunc_impl_Item_impl_Item__impl_sortByDistance_1 (Fy := a8) (Ga := c9) (Gb := n0) (Gc := b1) (Gd := 0) (Ge := []) (Gf := []) (Gi := n0) (Gj := b3) (Gk := 0) (Gl := []) (Gm := []) (Gg := Cd) (Gh := Ce) hx12
 refine st_call (cx_call hc13 (ent_f hc13.fn rfl) hn0 (H.sel' [0, 2, 1, 4, 3, 4] rfl rfl : Hp S0 σ0 _ ([_, _, _, _] ++ _))) wn ?_
 rintro _ σ15 ⟨_, ⟨rfl, rfl, hn14⟩, H, -⟩
 replace H : Hp _ _ _ [_, _, _, _, _] := H
 have hsl : (Sl a8 r5 c9) = (Sl a8 r11 c9) := sl_len hn14.symm
 try rw [hsl]
 try rw [hsl] at H
 clear hsl
 refine w_end (q_then (c_seq (rg (st (v := (Sl a8 r11 c9)) (rv_move rfl) (st (v := (Sl a8 r11 c9)) (rv_assign rfl) (w_end (q_then (c_ret ?_))))))))
 obtain rfl := Option.some.inj h
 exact fin_ret (v := (Sl a8 r11 c9)) (results_ok Try.results67 (res_tmp (v := (Sl a8 r11 c9)) rfl res_nil) rfl) ⟨a8, c9, rfl, rfl⟩ (H.sel' [0] rfl rfl)

theorem c_impl_growTree : ∀ (fuel : Nat) {Ap : List (Int × (List Int) × Int)} {Cb : Int} {Aq : Option Addr} {Ar : Nat} {r : (Tr (Int × (List Int) × Int))} (h : M.impl_growTree fuel Ap Cb = some r),
    Cal2 Try.prog 39 [(Sl Aq Ap Ar), (I Cb)] [Ch.ro 0 (Sl Aq Ap Ar) Ap] (fun n0 v L => ∃ (az1 : Option Addr), v = (.pointer az1) ∧ L = [Ch.pr 0 (.pointer az1) r]) := by
 intro fuel
 induction fuel with
 | zero => intro _ _ _ _ r h; cases h
 | succ fuel ih =>
 ·intro Ap Cb Aq Ar r h
  replace h : M.impl_growTree_F (M.impl_growTree fuel) Ap Cb = some r := h
  refine cal2 (n := 54) Try.func39 rfl rfl rfl rfl ?_
  intro S0 σ0 n0 hn0 H
  unfold M.impl_growTree_F at h
  refine c_seq (rg (st (v := (.pointer none)) (rv_assign rfl) (w_end (q_then (c_seq (c_seq (rg (st (v := (Sl Aq Ap Ar)) (rv_move rfl) (st (v := (I (Ap.length : Int))) (rv_len Try.underlying23 rfl) (st (v := (B ((Ap.length : Int) == 0))) (rv_eql (a := (Ap.length : Int)) (b := 0) rfl rfl) (w_end ?_)))))))))))
  refine q_then ?_
  refine cd_cond ((Ap.length : Int) == 0) rfl (fun hb1 => ?_) (fun hb1 => ?_)
  ·replace h := bif_t hb1 h
   refine c_seq (rg (st (v := (.pointer none)) (rv_assign rfl) (w_end (q_then (c_ret (q_then_r ?_))))))
   replace H := H.nilPr (Int × (List Int) × Int) 0
   obtain rfl := Option.some.inj h
   exact fin_ret (v := (.pointer none)) (results_ok Try.results39 (res_tmp (v := (.pointer none)) rfl res_nil) rfl) ⟨none, rfl, rfl⟩ (H.sel' [0] rfl rfl)
  ·replace h := bif_f hb1 h
   refine c_skip (q_then (c_seq (rg (st (v := (Sl Aq Ap Ar)) (rv_move rfl) ?_))))
   obtain ⟨x2, hx3, h'⟩ := bind_some h
   clear h
   have h := h'; clear h'
   obtain ⟨b5, o6, hi4, -⟩ := (H.ro 0 rfl).ix hx3
   refine st (v := (pt b5 o6)) (rv_ix Try.underlying23 ti34 rfl rfl hi4) ?_
   obtain ⟨_, ⟨_, _, rfl, rfl, ⟨_, _, rfl, ⟨_, rfl, hR11⟩, rfl⟩⟩, hl7, hc8⟩ := ((H.ro 0 rfl).at hx3 hi4).cells
   obtain ⟨a9, c10, rfl⟩ := hR11.isSl
   replace H := H.add (d := Ch.ro 0 (Sl a9 x2.2.1 c10) x2.2.1) hR11 (fun _ h => h)
   clear hR11
   refine st (v := (.agg #[(I x2.1), (Sl a9 x2.2.1 c10), (I x2.2.2)])) (rv_load Try.underlying34 rfl ti34 rfl hl7 hc8) (st_ex (ex_alloc (cs := [(I 0), (.slice none 0 0), (I 0)]) H hn0 ti34 rfl) wn ?_)
   rintro _ σ13 ⟨b12, rfl, H, -⟩
   refine st_exS (ex_store_box (k := 0) (cs := [(I 0), (.slice none 0 0), (I 0)]) (vs := [(I x2.1), (Sl a9 x2.2.1 c10), (I x2.2.2)]) (cs' := [(I x2.1), (Sl a9 x2.2.1 c10), (I x2.2.2)]) H (i := 0) rfl ti34 rfl rfl rfl rfl rfl (Nat.le_of_ble_eq_true rfl) (by simp [plain]) rfl) wn ?_
   rintro σ14 ⟨H, -⟩
   refine w_end (q_then (c_seq ?_))
   refine rgP (σ := σ14) 5 (by kernel_rfl) (by kernel_rfl) (by kernel_rfl) ?_
   refine sq (v := (Sl Aq Ap Ar)) (rv_move rfl) ?_
   obtain ⟨xs15, hx16, h'⟩ := bind_some h
   clear h
   have h := h'; clear h'
   obtain ⟨a17, c18, hs19, hR20⟩ := (H.ro 2 rfl).slice hx16
   replace H := H.add (d := Ch.ro 0 (Sl a17 xs15 c18) xs15) hR20 (fun _ h => h)
   clear hR20
   refine sq (v := (Sl a17 xs15 c18)) (rv_slice_l Try.underlying23 ti34 hs19 rfl rfl) (sq (v := (I Cb)) (rv_move rfl) (sq (v := (pt b12 1)) (rv_fieldAddr (off := 1) (ft := 29) Try.underlying34 rfl ti29 rfl rfl) ?_))
   have hc21 := H.cell (u := (Sl a9 x2.2.1 c10)) (o' := 1) 1 1 rfl rfl rfl
   refine sq (v := (Sl a9 x2.2.1 c10)) (rv_load1 Try.underlying29 rfl rfl hc21) (sq_end ?_)
   intro σ22 hm23
   replace H := H.grow (hm23.mono fun _ h => h); clear hm23
   obtain ⟨r24, hx25, h'⟩ := bind_some h
   clear h
   have h := h'; clear h'
   have hc26 := c_impl_sortByDistance (Aq := a17) (Ar := c18) (Cd := a9) (Ce := c10) hx25
   refine st_call (cx_call hc26 (ent_f hc26.fn rfl) hn0 (H.sel' [0, 2, 0, 1, 2, 3] rfl rfl : Hp S0 σ0 _ ([_, _] ++ _))) wn ?_
   rintro _ σ29 ⟨_, ⟨a27, c28, rfl, rfl⟩, H, -⟩
   replace H : Hp _ _ _ [_, _, _, _, _] := H
   refine st (v := (Sl a27 r24 c28)) (rv_assign rfl) (w_end (q_then (c_seq (rg (st (v := (Sl a27 r24 c28)) (rv_move rfl) (st (v := (I (r24.length : Int))) (rv_len Try.underlying23 rfl) (st (v := (I (w64 ((r24.length : Int) + 1)))) (rv_add (a := (r24.length : Int)) (b := 1) rfl rfl) ?_)))))))
   refine st (v := (I (w64 ((w64 ((r24.length : Int) + 1)).tdiv 2)))) (rv_quo (a := (w64 ((r24.length : Int) + 1))) (b := 2) rfl rfl (by decide)) ?_
   refine st (v := (I (w64 ((w64 ((r24.length : Int) + 1)).tdiv 2)))) (rv_assign rfl) (w_end (q_then (c_seq ?_)))
   obtain ⟨σ30, hw31, H, -⟩ := H.pub 0 rfl (Nat.le_refl _)
   rw [← hw31]; clear hw31
   have hc32 := H.cells 2 rfl
   obtain ⟨xs33, hx34, h'⟩ := bind_some h
   clear h
   have h := h'; clear h'
   obtain ⟨a35, c36, hs37, hR38⟩ := (H.ro 0 rfl).slice hx34
   replace H := H.add (d := Ch.ro 0 (Sl a35 xs33 c36) xs33) hR38 (fun _ h => h)
   clear hR38
   obtain ⟨r39, hx40, h'⟩ := bind_some h
   clear h
   have h := h'; clear h'
   have hc41 := ih (Aq := a35) (Ar := c36) hx40
   obtain ⟨xs43, hx44, h'⟩ := bind_some h
   clear h
   have h := h'; clear h'
   obtain ⟨a45, c46, hs47, hR48⟩ := (H.ro 1 rfl).slice hx44
   replace H := H.add (d := Ch.ro 0 (Sl a45 xs43 c46) xs43) hR48 (fun _ h => h)
   clear hR48
   obtain ⟨r49, hx50, h'⟩ := bind_some h
   clear h
   have h := h'; clear h'
   have hc51 := ih (Aq := a45) (Ar := c46) hx50
   have Hs := H
   refine rg2 (σ := σ30) (Nm := (Option Addr) × (Option Addr)) 11 [5, 10] [[false, false], [true, false], [true, true]] [[(0, 0), (1, 1), (2, 2)], [(0, 0)], [(0, 0)], [(0, 0)], [(0, 0)], [(0, 1)], [(0, 0), (1, 1)], [(0, 0), (1, 1)], [(0, 0), (1, 1)], [(0, 0), (1, 1)], [(1, 2)]] 2 [fun ((a42, a52) : (Option Addr) × (Option Addr)) => fun σm => Hp S0 σ0 σm [Ch.ro 0 (Sl a45 xs43 c46) xs43, Ch.ro 0 (Sl a35 xs33 c36) xs33, Ch.ro 0 (Sl a27 r24 c28) r24, Ch.ro 0 (Sl a17 xs15 c18) xs15, Ch.bx n0 b12 0 [(I x2.1), (Sl a9 x2.2.1 c10), (I x2.2.2)] [] [], Ch.ro 0 (Sl a9 x2.2.1 c10) x2.2.1, Ch.ro 0 (Sl Aq Ap Ar) Ap] ∧ Md (cov []) σ30 σm, fun ((a42, a52) : (Option Addr) × (Option Addr)) => fun σm => Hp S0 σ0 σm [Ch.pr 0 (.pointer a42) r39, Ch.ro 0 (Sl a45 xs43 c46) xs43, Ch.ro 0 (Sl a35 xs33 c36) xs33, Ch.ro 0 (Sl a27 r24 c28) r24, Ch.ro 0 (Sl a17 xs15 c18) xs15, Ch.bx n0 b12 0 [(I x2.1), (Sl a9 x2.2.1 c10), (I x2.2.2)] [] [], Ch.ro 0 (Sl a9 x2.2.1 c10) x2.2.1, Ch.ro 0 (Sl Aq Ap Ar) Ap] ∧ Md (cov []) σ30 σm, fun ((a42, a52) : (Option Addr) × (Option Addr)) => fun σm => Hp S0 σ0 σm [Ch.pr 0 (.pointer a52) r49, Ch.pr 0 (.pointer a42) r39, Ch.ro 0 (Sl a45 xs43 c46) xs43, Ch.ro 0 (Sl a35 xs33 c36) xs33, Ch.ro 0 (Sl a27 r24 c28) r24, Ch.ro 0 (Sl a17 xs15 c18) xs15, Ch.bx n0 b12 0 [(I x2.1), (Sl a9 x2.2.1 c10), (I x2.2.2)] [] [], Ch.ro 0 (Sl a9 x2.2.1 c10) x2.2.1, Ch.ro 0 (Sl Aq Ap Ar) Ap] ∧ Md (cov []) σ30 σm] [fun ((a42, a52) : (Option Addr) × (Option Addr)) => (.agg #[(I x2.1), (Sl a9 x2.2.1 c10), (I x2.2.2)]), fun ((a42, a52) : (Option Addr) × (Option Addr)) => (Sl a27 r24 c28), fun ((a42, a52) : (Option Addr) × (Option Addr)) => (I (w64 ((w64 ((r24.length : Int) + 1)).tdiv 2))), fun ((a42, a52) : (Option Addr) × (Option Addr)) => (Sl a35 xs33 c36), fun ((a42, a52) : (Option Addr) × (Option Addr)) => (I Cb), fun ((a42, a52) : (Option Addr) × (Option Addr)) => (.pointer a42), fun ((a42, a52) : (Option Addr) × (Option Addr)) => (Sl a27 r24 c28), fun ((a42, a52) : (Option Addr) × (Option Addr)) => (I (w64 ((w64 ((r24.length : Int) + 1)).tdiv 2))), fun ((a42, a52) : (Option Addr) × (Option Addr)) => (Sl a45 xs43 c46), fun ((a42, a52) : (Option Addr) × (Option Addr)) => (I Cb), fun ((a42, a52) : (Option Addr) × (Option Addr)) => (.pointer a52)] (none, none) (by kernel_rfl) (by kernel_rfl) ?_ ?_ ?_
   ·intro σm m0
    exact ⟨H.grow (m0.mono fun _ h => h.elim), m0⟩
   ·refine all_cons (by
      refine ⟨?_, ?_⟩
      ·rintro ⟨a42, a52⟩ ρ σm hJ hoff hdep
       have e5 := look_off (N := 54) (hoff 5 rfl) rfl
       obtain ⟨H, m⟩ := id hJ
       have hc32 := H.cells 4 rfl
       exact dp_v (v := (.agg #[(I x2.1), (Sl a9 x2.2.1 c10), (I x2.2.2)])) wn (rv_load (cs := [(I x2.1), (Sl a9 x2.2.1 c10), (I x2.2.2)]) Try.underlying34 rfl ti34 e5 rfl hc32) rfl hJ
      refine ⟨?_, ?_⟩
      ·rintro ⟨a42, a52⟩ ρ σm hJ hoff hdep
       have e5 := look_off (N := 54) (hoff 5 rfl) rfl
       obtain ⟨H, m⟩ := id hJ
       have hc32 := H.cells 5 rfl
       exact dp_v (v := (.agg #[(I x2.1), (Sl a9 x2.2.1 c10), (I x2.2.2)])) wn (rv_load (cs := [(I x2.1), (Sl a9 x2.2.1 c10), (I x2.2.2)]) Try.underlying34 rfl ti34 e5 rfl hc32) rfl hJ
      refine ⟨?_, ?_⟩
      ·rintro ⟨a42, a52⟩ ρ σm hJ hoff hdep
       have e5 := look_off (N := 54) (hoff 5 rfl) rfl
       obtain ⟨H, m⟩ := id hJ
       have hc32 := H.cells 6 rfl
       exact dp_v (v := (.agg #[(I x2.1), (Sl a9 x2.2.1 c10), (I x2.2.2)])) wn (rv_load (cs := [(I x2.1), (Sl a9 x2.2.1 c10), (I x2.2.2)]) Try.underlying34 rfl ti34 e5 rfl hc32) rfl hJ
      trivial) ?_
    refine ac rfl (by
      intro k; rintro ⟨a42, a52⟩ ρ σm hJ hoff hdep
      have e6 := look_off (N := 54) (hoff 6 rfl) rfl
      exact dp_v (v := (Sl a27 r24 c28)) wn (rv_move e6) rfl hJ) ?_
    refine ac rfl (by
      intro k; rintro ⟨a42, a52⟩ ρ σm hJ hoff hdep
      have e7 := look_off (N := 54) (hoff 7 rfl) rfl
      exact dp_v (v := (I (w64 ((w64 ((r24.length : Int) + 1)).tdiv 2)))) wn (rv_move e7) rfl hJ) ?_
    refine ac rfl (by
      intro k; rintro ⟨a42, a52⟩ ρ σm hJ hoff hdep
      have e26 := hdep 1 rfl rfl 26 rfl
      have e27 := hdep 2 rfl rfl 27 rfl
      exact dp_v (v := (Sl a35 xs33 c36)) wn (rv_slice_h Try.underlying23 ti34 hs37 e26 e27) rfl hJ) ?_
    refine ac rfl (by
      intro k; rintro ⟨a42, a52⟩ ρ σm hJ hoff hdep
      have e1 := look_off (N := 54) (hoff 1 rfl) rfl
      exact dp_v (v := (I Cb)) wn (rv_move e1) rfl hJ) ?_
    refine all_cons (by
      refine ⟨?_, ?_⟩
      ·rintro ⟨a42, a52⟩ ρ σm hJ hoff hdep
       have e28 : look 54 ρ 28 = (Sl a35 xs33 c36) := hdep 3 rfl rfl 28 rfl
       have e29 : look 54 ρ 29 = (I Cb) := hdep 4 rfl rfl 29 rfl
       obtain ⟨H, m⟩ := id hJ
       refine dp_cx wn (cx_call hc41 (ent_f hc41.fn (by show [look 54 ρ 28, look 54 ρ 29] = _; rw [e28, e29])) hn0 (H.sel' [1, 0, 1, 2, 3, 4, 5, 6] rfl rfl : Hp S0 σ0 _ ([_] ++ _))) ?_
       rintro _ σq ⟨_, ⟨a42x, rfl, rfl⟩, H2, m2⟩
       exact ⟨_, (a42x, a52), rfl, rfl, ⟨H2.sel' [0, 1, 2, 3, 4, 5, 6, 7] rfl rfl, m.comp0 (m2.mono (fun i h => by simp [cov, Ch.ro] at h))⟩, stab [0, 1, 2, 3, 4, 6, 7, 8, 9] (by kernel_rfl) ⟨rfl, rfl, rfl, rfl, rfl, rfl, rfl, rfl, rfl, trivial⟩⟩
      trivial) ?_
    refine ac rfl (by
      intro k; rintro ⟨a42, a52⟩ ρ σm hJ hoff hdep
      have e6 := look_off (N := 54) (hoff 6 rfl) rfl
      exact dp_v (v := (Sl a27 r24 c28)) wn (rv_move e6) rfl hJ) ?_
    refine ac rfl (by
      intro k; rintro ⟨a42, a52⟩ ρ σm hJ hoff hdep
      have e7 := look_off (N := 54) (hoff 7 rfl) rfl
      exact dp_v (v := (I (w64 ((w64 ((r24.length : Int) + 1)).tdiv 2)))) wn (rv_move e7) rfl hJ) ?_
    refine ac rfl (by
      intro k; rintro ⟨a42, a52⟩ ρ σm hJ hoff hdep
      have e31 := hdep 6 rfl rfl 31 rfl
      have e32 := hdep 7 rfl rfl 32 rfl
      exact dp_v (v := (Sl a45 xs43 c46)) wn (rv_slice_l Try.underlying23 ti34 hs47 e31 e32) rfl hJ) ?_
    refine ac rfl (by
      intro k; rintro ⟨a42, a52⟩ ρ σm hJ hoff hdep
      have e1 := look_off (N := 54) (hoff 1 rfl) rfl
      exact dp_v (v := (I Cb)) wn (rv_move e1) rfl hJ) ?_
    refine all_cons (by
      refine ⟨?_, ?_⟩
      ·rintro ⟨a42, a52⟩ ρ σm hJ hoff hdep
       have e33 : look 54 ρ 33 = (Sl a45 xs43 c46) := hdep 8 rfl rfl 33 rfl
       have e34 : look 54 ρ 34 = (I Cb) := hdep 9 rfl rfl 34 rfl
       obtain ⟨H, m⟩ := id hJ
       refine dp_cx wn (cx_call hc51 (ent_f hc51.fn (by show [look 54 ρ 33, look 54 ρ 34] = _; rw [e33, e34])) hn0 (H.sel' [1, 0, 1, 2, 3, 4, 5, 6, 7] rfl rfl : Hp S0 σ0 _ ([_] ++ _))) ?_
       rintro _ σq ⟨_, ⟨a52x, rfl, rfl⟩, H2, m2⟩
       exact ⟨_, (a42, a52x), rfl, rfl, ⟨H2.sel' [0, 1, 2, 3, 4, 5, 6, 7, 8] rfl rfl, m.comp0 (m2.mono (fun i h => by simp [cov, Ch.ro] at h))⟩, stab [0, 1, 2, 3, 4, 5, 6, 7, 8, 9] (by kernel_rfl) ⟨rfl, rfl, rfl, rfl, rfl, rfl, rfl, rfl, rfl, rfl, trivial⟩⟩
      trivial) ?_
    exact all_nil
   ·rintro ⟨a42, a52⟩ ρ σ53 hJ hoff hrel
    have e1 := look_off (N := 54) (hoff 1 rfl) rfl
    have e5 := look_off (N := 54) (hoff 5 rfl) rfl
    have e6 := look_off (N := 54) (hoff 6 rfl) rfl
    have e7 := look_off (N := 54) (hoff 7 rfl) rfl
    have e25 := hrel 0 rfl 25 rfl
    have e30 := hrel 5 rfl 30 rfl
    have e35 := hrel 10 rfl 35 rfl
    obtain ⟨H, -⟩ := (show Hp S0 σ0 σ53 [Ch.pr 0 (.pointer a52) r49, Ch.pr 0 (.pointer a42) r39, Ch.ro 0 (Sl a45 xs43 c46) xs43, Ch.ro 0 (Sl a35 xs33 c36) xs33, Ch.ro 0 (Sl a27 r24 c28) r24, Ch.ro 0 (Sl a17 xs15 c18) xs15, Ch.bx n0 b12 0 [(I x2.1), (Sl a9 x2.2.1 c10), (I x2.2.2)] [] [], Ch.ro 0 (Sl a9 x2.2.1 c10) x2.2.1, Ch.ro 0 (Sl Aq Ap Ar) Ap] ∧ Md (cov []) σ30 σ53 from hJ)
    clear hJ Hs
    rw [fr_lookL (L := [(1, (I Cb)), (5, (pt b12 0)), (6, (Sl a27 r24 c28)), (7, (I (w64 ((w64 ((r24.length : Int) + 1)).tdiv 2)))), (25, (.agg #[(I x2.1), (Sl a9 x2.2.1 c10), (I x2.2.2)])), (30, (.pointer a42)), (35, (.pointer a52))]) ⟨e1, e5, e6, e7, e25, e30, e35, trivial⟩]
    clear hoff hrel e1 e5 e6 e7 e25 e30 e35
    refine st (v := (.agg #[(I x2.1), (Sl a9 x2.2.1 c10), (I x2.2.2), (I 0), (.pointer a42), (.pointer a52)])) (rv_build (ps := [(0, (.agg #[(I x2.1), (Sl a9 x2.2.1 c10), (I x2.2.2)])), (2, (.pointer a42)), (3, (.pointer a52))]) Try.underlying98 ti98 (bp98 Try.underlying98) rfl (by kernel_rfl)) ?_
    refine st_ex (ex_box (cs := [(I x2.1), (Sl a9 x2.2.1 c10), (I x2.2.2), (I 0), (.pointer a42), (.pointer a52)]) H hn0 rfl rfl) wn ?_
    rintro _ σ55 ⟨b54, rfl, H, -⟩
    replace H : Hp S0 σ0 σ55 [Ch.bx n0 b54 0 [(I x2.1), (Sl a9 x2.2.1 c10), (I x2.2.2), (I 0), (.pointer a42), (.pointer a52)] [] [], Ch.pr 0 (.pointer a52) r49, Ch.pr 0 (.pointer a42) r39, Ch.ro 0 (Sl a27 r24 c28) r24, Ch.bx n0 b12 0 [(I x2.1), (Sl a9 x2.2.1 c10), (I x2.2.2)] [] [], Ch.ro 0 (Sl a9 x2.2.1 c10) x2.2.1] := H.sel' [0, 1, 2, 5, 7, 8] rfl rfl
    refine st (v := (pt b54 0)) (rv_assign rfl) (w_end (q_then (c_seq (c_seq (rg (st (v := (I (w64 ((w64 ((r24.length : Int) + 1)).tdiv 2)))) (rv_move rfl) (st (v := (B (decide (0 < (w64 ((w64 ((r24.length : Int) + 1)).tdiv 2)))))) (rv_gtr (a := (w64 ((w64 ((r24.length : Int) + 1)).tdiv 2))) (b := 0) rfl rfl) (w_end (q_then ?_)))))))))
    obtain ⟨o56, hj, h'⟩ := bind_some h
    clear h
    refine c_cut (fun e a w => e = .normal ∧ ∃ (ρ : Nat → Value) (σ : St) (aj1 : Option Addr) (cj2 : Nat) (aj3 : Option Addr) (aj4 : Option Addr), a = fr 54 (updL ρ [(8, (pt b54 0))]) ∧ w = σ.w ∧ Hp S0 σ0 σ [Ch.bx n0 b54 0 [(I o56.1.1), (Sl aj1 o56.1.2.1 cj2), (I o56.1.2.2), (I o56.2.1), (.pointer aj3), (.pointer aj4)] [] [], Ch.ro 0 (Sl aj1 o56.1.2.1 cj2) o56.1.2.1, Ch.pr 0 (.pointer aj3) o56.2.2.1, Ch.pr 0 (.pointer aj4) o56.2.2.2]) ?_ ?_
    ·clear h'
     rename _ = some o56 => h
     refine cd_cond (decide (0 < (w64 ((w64 ((r24.length : Int) + 1)).tdiv 2)))) rfl (fun hb57 => ?_) (fun hb57 => ?_)
     ·replace h := bif_t hb57 h
      have hc58 := H.cell (u := (Sl a9 x2.2.1 c10)) (o' := 1) 4 1 rfl rfl rfl
      obtain ⟨x59, hx60, h'⟩ := bind_some h
      clear h
      have h := h'; clear h'
      obtain ⟨b62, o63, hi61, -⟩ := (H.ro 3 rfl).ix hx60
      obtain ⟨v67, hc68, hR66⟩ := ((H.ro 3 rfl).at hx60 hi61).snd.fst.slice
      obtain ⟨a64, c65, rfl⟩ := hR66.isSl
      replace H := H.add (d := Ch.ro 0 (Sl a64 x59.2.1 c65) x59.2.1) hR66 (fun _ h => h)
      clear hR66
      obtain ⟨r69, hx70, h'⟩ := bind_some h
      clear h
      have h := h'; clear h'
      have hc71 := c_impl_Distance (Bs := a9) (Bt := c10) (Bu := a64) (Bv := c65) hx70
      have Hs := H
      refine rg2 (σ := σ55) (Nm := Unit) 11 [10] [[false], [true]] [[(0, 0), (1, 1)], [(0, 0)], [(0, 0)], [(0, 0)], [(0, 0)], [(0, 0)], [(0, 0)], [(0, 0)], [(0, 0)], [(0, 0)], [(0, 1)]] 1 [fun _ => fun σm => Hp S0 σ0 σm [Ch.ro 0 (Sl a64 x59.2.1 c65) x59.2.1, Ch.bx n0 b54 0 [(I x2.1), (Sl a9 x2.2.1 c10), (I x2.2.2), (I 0), (.pointer a42), (.pointer a52)] [] [], Ch.pr 0 (.pointer a52) r49, Ch.pr 0 (.pointer a42) r39, Ch.ro 0 (Sl a27 r24 c28) r24, Ch.bx n0 b12 0 [(I x2.1), (Sl a9 x2.2.1 c10), (I x2.2.2)] [] [], Ch.ro 0 (Sl a9 x2.2.1 c10) x2.2.1] ∧ Md (cov []) σ55 σm, fun _ => fun σm => Hp S0 σ0 σm [Ch.ro 0 (Sl a64 x59.2.1 c65) x59.2.1, Ch.bx n0 b54 0 [(I x2.1), (Sl a9 x2.2.1 c10), (I x2.2.2), (I 0), (.pointer a42), (.pointer a52)] [] [], Ch.pr 0 (.pointer a52) r49, Ch.pr 0 (.pointer a42) r39, Ch.ro 0 (Sl a27 r24 c28) r24, Ch.bx n0 b12 0 [(I x2.1), (Sl a9 x2.2.1 c10), (I x2.2.2)] [] [], Ch.ro 0 (Sl a9 x2.2.1 c10) x2.2.1] ∧ Md (cov []) σ55 σm] [fun _ => (pt b54 0), fun _ => (I Cb), fun _ => (pt b12 1), fun _ => (Sl a9 x2.2.1 c10), fun _ => (Sl a27 r24 c28), fun _ => (I (w64 ((w64 ((r24.length : Int) + 1)).tdiv 2))), fun _ => (I (w64 ((w64 ((w64 ((r24.length : Int) + 1)).tdiv 2)) - 1))), fun _ => (pt b62 o63), fun _ => (pt b62 (o63 + 1)), fun _ => (Sl a64 x59.2.1 c65), fun _ => (I r69)] () (by kernel_rfl) (by kernel_rfl) ?_ ?_ ?_
      ·intro σm m0
       exact ⟨H.grow (m0.mono fun _ h => h.elim), m0⟩
      ·refine ac rfl (by
         intro k _nm ρ σm hJ hoff hdep
         have e8 := look_off (N := 54) (hoff 8 rfl) rfl
         exact dp_v (v := (pt b54 0)) wn (rv_move e8) rfl hJ) ?_
       refine ac rfl (by
         intro k _nm ρ σm hJ hoff hdep
         have e1 := look_off (N := 54) (hoff 1 rfl) rfl
         exact dp_v (v := (I Cb)) wn (rv_move e1) rfl hJ) ?_
       refine ac rfl (by
         intro k _nm ρ σm hJ hoff hdep
         have e5 := look_off (N := 54) (hoff 5 rfl) rfl
         exact dp_v (v := (pt b12 1)) wn (rv_fieldAddr (off := 1) (ft := 29) Try.underlying34 rfl ti29 rfl e5) rfl hJ) ?_
       refine all_cons (by
         refine ⟨?_, ?_⟩
         ·intro _nm ρ σm hJ hoff hdep
          have e42 := hdep 2 rfl rfl 42 rfl
          obtain ⟨H, m⟩ := id hJ
          have hc58 := H.cell (u := (Sl a9 x2.2.1 c10)) (o' := 1) 5 1 rfl rfl rfl
          exact dp_v (v := (Sl a9 x2.2.1 c10)) wn (rv_load1 Try.underlying29 rfl e42 hc58) rfl hJ
         trivial) ?_
       refine ac rfl (by
         intro k _nm ρ σm hJ hoff hdep
         have e6 := look_off (N := 54) (hoff 6 rfl) rfl
         exact dp_v (v := (Sl a27 r24 c28)) wn (rv_move e6) rfl hJ) ?_
       refine ac rfl (by
         intro k _nm ρ σm hJ hoff hdep
         have e7 := look_off (N := 54) (hoff 7 rfl) rfl
         exact dp_v (v := (I (w64 ((w64 ((r24.length : Int) + 1)).tdiv 2)))) wn (rv_move e7) rfl hJ) ?_
       refine ac rfl (by
         intro k _nm ρ σm hJ hoff hdep
         have e45 := hdep 5 rfl rfl 45 rfl
         exact dp_v (v := (I (w64 ((w64 ((w64 ((r24.length : Int) + 1)).tdiv 2)) - 1)))) wn (rv_sub (a := (w64 ((w64 ((r24.length : Int) + 1)).tdiv 2))) (b := 1) e45 rfl) rfl hJ) ?_
       refine ac rfl (by
         intro k _nm ρ σm hJ hoff hdep
         have e44 := hdep 4 rfl rfl 44 rfl
         have e46 := hdep 6 rfl rfl 46 rfl
         exact dp_v (v := (pt b62 o63)) wn (rv_ix Try.underlying23 ti34 e44 e46 hi61) rfl hJ) ?_
       refine ac rfl (by
         intro k _nm ρ σm hJ hoff hdep
         have e47 := hdep 7 rfl rfl 47 rfl
         exact dp_v (v := (pt b62 (o63 + 1))) wn (rv_fieldAddr (off := 1) (ft := 29) Try.underlying34 rfl ti29 rfl e47) rfl hJ) ?_
       refine all_cons (by
         refine ⟨?_, ?_⟩
         ·intro _nm ρ σm hJ hoff hdep
          have e48 := hdep 8 rfl rfl 48 rfl
          obtain ⟨H, m⟩ := id hJ
          replace hc68 := (Hs.ro 4 rfl).hmd hx60 hi61 (k := 1) (by decide) hc68 m
          exact dp_v (v := (Sl a64 x59.2.1 c65)) wn (rv_load1 Try.underlying29 rfl e48 hc68) rfl hJ
         trivial) ?_
       refine all_cons (by
         refine ⟨?_, ?_⟩
         ·intro _nm ρ σm hJ hoff hdep
          have e41 : look 54 ρ 41 = (I Cb) := hdep 1 rfl rfl 41 rfl
          have e43 : look 54 ρ 43 = (Sl a9 x2.2.1 c10) := hdep 3 rfl rfl 43 rfl
          have e49 : look 54 ρ 49 = (Sl a64 x59.2.1 c65) := hdep 9 rfl rfl 49 rfl
          obtain ⟨H, m⟩ := id hJ
          refine dp_cx wn (cx_call hc71 (ent_f hc71.fn (by show [look 54 ρ 41, look 54 ρ 43, look 54 ρ 49] = _; rw [e41, e43, e49])) hn0 (H.sel' [6, 0, 0, 1, 2, 3, 4, 5, 6] rfl rfl : Hp S0 σ0 _ ([_, _] ++ _))) ?_
          rintro _ σq ⟨_, ⟨rfl, rfl⟩, H2, m2⟩
          exact ⟨_, (), rfl, rfl, ⟨H2.sel' [0, 1, 2, 3, 4, 5, 6] rfl rfl, m.comp0 (m2.mono (fun i h => by simp [cov, Ch.ro] at h))⟩, stab [0, 1, 2, 3, 4, 5, 6, 7, 8, 9] (by kernel_rfl) ⟨rfl, rfl, rfl, rfl, rfl, rfl, rfl, rfl, rfl, rfl, trivial⟩⟩
         trivial) ?_
       exact all_nil
      ·intro _nm ρ σ72 hJ hoff hrel
       have e8 := look_off (N := 54) (hoff 8 rfl) rfl
       have e40 := hrel 0 rfl 40 rfl
       have e50 := hrel 10 rfl 50 rfl
       obtain ⟨H, -⟩ := (show Hp S0 σ0 σ72 [Ch.ro 0 (Sl a64 x59.2.1 c65) x59.2.1, Ch.bx n0 b54 0 [(I x2.1), (Sl a9 x2.2.1 c10), (I x2.2.2), (I 0), (.pointer a42), (.pointer a52)] [] [], Ch.pr 0 (.pointer a52) r49, Ch.pr 0 (.pointer a42) r39, Ch.ro 0 (Sl a27 r24 c28) r24, Ch.bx n0 b12 0 [(I x2.1), (Sl a9 x2.2.1 c10), (I x2.2.2)] [] [], Ch.ro 0 (Sl a9 x2.2.1 c10) x2.2.1] ∧ Md (cov []) σ55 σ72 from hJ)
       clear hJ Hs
       rw [fr_lookL (L := [(8, (pt b54 0)), (40, (pt b54 0)), (50, (I r69))]) ⟨e8, e40, e50, trivial⟩]
       clear hoff hrel e8 e40 e50
       refine st (v := (pt b54 0)) (rv_nilCheck rfl) (st (v := (pt b54 3)) (rv_fieldAddr (off := 3) (ft := 3) Try.underlying98 rfl ti3 rfl rfl) ?_)
       refine st_exS (ex_store_box (k := 3) (cs := [(I x2.1), (Sl a9 x2.2.1 c10), (I x2.2.2), (I 0), (.pointer a42), (.pointer a52)]) (vs := [(I r69)]) (cs' := [(I x2.1), (Sl a9 x2.2.1 c10), (I x2.2.2), (I r69), (.pointer a42), (.pointer a52)]) H (i := 1) rfl ti3 rfl rfl rfl rfl rfl (Nat.le_of_ble_eq_true rfl) (by simp [plain]) rfl) wn ?_
       rintro σ73 ⟨H, -⟩
       refine w_end ?_
       obtain rfl := Option.some.inj h
       exact ⟨rfl, _, σ73, a9, c10, a42, a52, fr_join ⟨rfl, trivial⟩, rfl, H.sel' [0, 6, 3, 2] rfl rfl⟩
     ·replace h := bif_f hb57 h
      refine c_skip ?_
      obtain rfl := Option.some.inj h
      exact ⟨rfl, _, σ55, a9, c10, a42, a52, fr_join ⟨rfl, trivial⟩, rfl, H.sel' [0, 5, 2, 1] rfl rfl⟩
    ·clear hj
     have h := h'
     clear h' H
     rintro e a w ⟨rfl, ρ, σ74, a75, c76, a77, a78, rfl, rfl, H⟩
     refine q_then (c_seq (rg (st (v := (pt b54 0)) (rv_move rfl) (st (v := (pt b54 0)) (rv_assign rfl) (w_end (q_then (c_ret ?_)))))))
     have hp81 : Rp.rp 0 σ74 [(I o56.1.1), (Sl a75 o56.1.2.1 c76), (I o56.1.2.2), (I o56.2.1), (.pointer a77), (.pointer a78)] (((o56.1.1, o56.1.2.1, o56.1.2.2), o56.2.1, o56.2.2.1, o56.2.2.2) : (Int × (List Int) × Int) × Int × (Tr (Int × (List Int) × Int)) × (Tr (Int × (List Int) × Int))) := ⟨[(I o56.1.1), (Sl a75 o56.1.2.1 c76), (I o56.1.2.2)], [(I o56.2.1), (.pointer a77), (.pointer a78)], rfl, ⟨[(I o56.1.1)], [(Sl a75 o56.1.2.1 c76), (I o56.1.2.2)], rfl, rfl, ⟨[(Sl a75 o56.1.2.1 c76)], [(I o56.1.2.2)], rfl, ⟨_, rfl, (H.ro 1 rfl)⟩, rfl⟩⟩, ⟨[(I o56.2.1)], [(.pointer a77), (.pointer a78)], rfl, rfl, ⟨[(.pointer a77)], [(.pointer a78)], rfl, ⟨_, rfl, (H.pr 2 rfl)⟩, ⟨_, rfl, (H.pr 3 rfl)⟩⟩⟩⟩
     obtain ⟨σ79, hw80, H, -⟩ := H.pubTr 0 rfl (Nat.zero_le _) hp81
     rw [← hw80]; clear hw80
     obtain rfl := Option.some.inj h
     exact fin_ret (v := (.pointer (some ⟨b54, 0, none⟩))) (results_ok Try.results39 (res_tmp (v := (.pointer (some ⟨b54, 0, none⟩))) rfl res_nil) rfl) ⟨(some ⟨b54, 0, none⟩), rfl, rfl⟩ (H.sel' [0] rfl rfl)

theorem c_impl_validKey {Gn : Int}  {r : Bool} (h : M.impl_validKey Gn = some r) :
    Cal2 Try.prog 85 [(I Gn)] [] (fun n0 v L => v = (B r) ∧ L = []) := by
 refine cal2 (n := 9) Try.func85 rfl rfl rfl rfl ?_
 intro S0 σ0 n0 hn0 H
 unfold M.impl_validKey at h
 refine c_seq (rg (st (v := (B false)) (rv_assign rfl) (w_end (q_then (c_seq (rg (st (v := (I Gn)) (rv_move rfl) (st (v := (B (decide (1 ≤ Gn)))) (rv_geq (a := Gn) (b := 1) rfl rfl) (st (v := (B (decide (1 ≤ Gn)))) (rv_move rfl) ?_)))))))))
 rcases Bool.eq_false_or_eq_true (decide (1 ≤ Gn)) with hb1 | hb1
 ·replace h := bif_t hb1 h
  refine st_g (v := (I Gn)) (congrArg some hb1) (rv_move rfl) (st_g (v := (B (decide (Gn ≤ 99)))) (congrArg some hb1) (rv_leq (a := Gn) (b := 99) rfl rfl) (st (v := (B (decide (Gn ≤ 99)))) (rv_pick_t (congrArg B hb1) rfl) (st (v := (B (decide (Gn ≤ 99)))) (rv_assign rfl) (w_end (q_then (c_ret ?_))))))
  obtain rfl := Option.some.inj h
  exact fin_ret (v := (B (decide (Gn ≤ 99)))) (results_ok Try.results85 (res_tmp (v := (B (decide (Gn ≤ 99)))) rfl res_nil) rfl) ⟨rfl, rfl⟩ (H.sel' [] rfl rfl)
 ·replace h := bif_f hb1 h
  refine st_skip (congrArg some hb1) (st_skip (congrArg some hb1) (st (v := (B false)) (rv_pick_f (congrArg B hb1) rfl) (st (v := (B false)) (rv_assign rfl) (w_end (q_then (c_ret ?_))))))
  obtain rfl := Option.some.inj h
  exact fin_ret (v := (B false)) (results_ok Try.results85 (res_tmp (v := (B false)) rfl res_nil) rfl) ⟨rfl, rfl⟩ (H.sel' [] rfl rfl)

theorem c_impl_validItem {Bd : Int × (List Int) × Int} {Be : Option Addr} {Bf : Nat} {r : Bool} (h : M.impl_validItem Bd = some r) :
    Cal2 Try.prog 65 [(.agg #[(I Bd.1), (Sl Be Bd.2.1 Bf), (I Bd.2.2)])] [Ch.ro 0 (Sl Be Bd.2.1 Bf) Bd.2.1] (fun n0 v L => v = (B r) ∧ L = []) := by
 refine cal2 (n := 21) Try.func65 rfl rfl rfl rfl ?_
 intro S0 σ0 n0 hn0 H
 unfold M.impl_validItem at h
 refine c_seq (rg (st_ex (ex_box (cs := [(I Bd.1), (Sl Be Bd.2.1 Bf), (I Bd.2.2)]) H hn0 rfl rfl) wn ?_))
 rintro _ σ2 ⟨b1, rfl, H, -⟩
 refine st (v := (B false)) (rv_assign rfl) (w_end (q_then (c_seq (rg (st (v := (pt b1 0)) (rv_fieldAddr (off := 0) (ft := 3) Try.underlying34 rfl ti3 rfl rfl) ?_)))))
 have hc3 := H.cell (u := (I Bd.1)) (o' := 0) 0 0 rfl rfl rfl
 refine st (v := (I Bd.1)) (rv_load1 Try.underlying3 rfl rfl hc3) ?_
 obtain ⟨r4, hx5, h'⟩ := bind_some h
 clear h
 have h := h'; clear h'
 have hc6 := c_impl_validKey hx5
 refine st_call (cx_call hc6 (ent_f hc6.fn rfl) hn0 (H.sel' [0, 1] rfl rfl : Hp S0 σ0 _ ([] ++ _))) wn ?_
 rintro _ σ7 ⟨_, ⟨rfl, rfl⟩, H, -⟩
 replace H : Hp _ _ _ [_, _] := H
 refine st (v := (B r4)) (rv_move rfl) ?_
 rcases Bool.eq_false_or_eq_true r4 with hb8 | hb8
 ·replace h := bif_t hb8 h
  refine st_g (v := (pt b1 1)) (congrArg some hb8) (rv_fieldAddr (off := 1) (ft := 29) Try.underlying34 rfl ti29 rfl rfl) ?_
  have hc9 := H.cell (u := (Sl Be Bd.2.1 Bf)) (o' := 1) 0 1 rfl rfl rfl
  refine st_g (v := (Sl Be Bd.2.1 Bf)) (congrArg some hb8) (rv_load1 Try.underlying29 rfl rfl hc9) ?_
  obtain ⟨r10, hx11, h'⟩ := bind_some h
  clear h
  have h := h'; clear h'
  have hc12 := c_impl_ValidVector (Bb := Be) (Bc := Bf) hx11
  refine st_call (cx_call hc12 (ent_f hc12.fn rfl) hn0 (H.sel' [1, 0, 1] rfl rfl : Hp S0 σ0 _ ([_] ++ _))) (wanted_yes rfl (by exact (congrArg some hb8))) ?_
  rintro _ σ13 ⟨_, ⟨rfl, rfl⟩, H, -⟩
  replace H : Hp _ _ _ [_, _] := H
  refine st (v := (B r10)) (rv_pick_t (congrArg B hb8) rfl) (st (v := (B r10)) (rv_move rfl) ?_)
  rcases Bool.eq_false_or_eq_true r10 with hb14 | hb14
  ·replace h := bif_t hb14 h
   refine st_g (v := (pt b1 2)) (congrArg some hb14) (rv_fieldAddr (off := 2) (ft := 3) Try.underlying34 rfl ti3 rfl rfl) ?_
   have hc15 := H.cell (u := (I Bd.2.2)) (o' := 2) 0 2 rfl rfl rfl
   refine st_g (v := (I Bd.2.2)) (congrArg some hb14) (rv_load1 Try.underlying3 rfl rfl hc15) (st_g (v := (B (decide (0 ≤ Bd.2.2)))) (congrArg some hb14) (rv_geq (a := Bd.2.2) (b := 0) rfl rfl) (st (v := (B (decide (0 ≤ Bd.2.2)))) (rv_pick_t (congrArg B hb14) rfl) (st (v := (B (decide (0 ≤ Bd.2.2)))) (rv_move rfl) ?_)))
   rcases Bool.eq_false_or_eq_true (decide (0 ≤ Bd.2.2)) with hb16 | hb16
   ·replace h := bif_t hb16 h
    refine st_g (v := (pt b1 2)) (congrArg some hb16) (rv_fieldAddr (off := 2) (ft := 3) Try.underlying34 rfl ti3 rfl rfl) ?_
    have hc17 := H.cell (u := (I Bd.2.2)) (o' := 2) 0 2 rfl rfl rfl
    refine st_g (v := (I Bd.2.2)) (congrArg some hb16) (rv_load1 Try.underlying3 rfl rfl hc17) (st_g (v := (B (decide (Bd.2.2 ≤ 15)))) (congrArg some hb16) (rv_leq (a := Bd.2.2) (b := 15) rfl rfl) (st (v := (B (decide (Bd.2.2 ≤ 15)))) (rv_pick_t (congrArg B hb16) rfl) (st (v := (B (decide (Bd.2.2 ≤ 15)))) (rv_assign rfl) (w_end (q_then (c_ret ?_))))))
    obtain rfl := Option.some.inj h
    exact fin_ret (v := (B (decide (Bd.2.2 ≤ 15)))) (results_ok Try.results65 (res_tmp (v := (B (decide (Bd.2.2 ≤ 15)))) rfl res_nil) rfl) ⟨rfl, rfl⟩ (H.sel' [] rfl rfl)
   ·replace h := bif_f hb16 h
    refine st_skip (congrArg some hb16) (st_skip (congrArg some hb16) (st_skip (congrArg some hb16) (st (v := (B false)) (rv_pick_f (congrArg B hb16) rfl) (st (v := (B false)) (rv_assign rfl) (w_end (q_then (c_ret ?_)))))))
    obtain rfl := Option.some.inj h
    exact fin_ret (v := (B false)) (results_ok Try.results65 (res_tmp (v := (B false)) rfl res_nil) rfl) ⟨rfl, rfl⟩ (H.sel' [] rfl rfl)
  ·replace h := bif_f hb14 h
   refine st_skip (congrArg some hb14) (st_skip (congrArg some hb14) (st_skip (congrArg some hb14) (st (v := (B false)) (rv_pick_f (congrArg B hb14) rfl) (st (v := (B false)) (rv_move rfl) (st_skip rfl (st_skip rfl (st_skip rfl (st (v := (B false)) (rv_pick_f rfl rfl) (st (v := (B false)) (rv_assign rfl) (w_end (q_then ?_)))))))))))
   refine c_ret ?_
   obtain rfl := Option.some.inj h
   exact fin_ret (v := (B false)) (results_ok Try.results65 (res_tmp (v := (B false)) rfl res_nil) rfl) ⟨rfl, rfl⟩ (H.sel' [] rfl rfl)
 ·replace h := bif_f hb8 h
  refine st_skip (congrArg some hb8) (st_skip (congrArg some hb8) (st_skip (congrArg some hb8) (st (v := (B false)) (rv_pick_f (congrArg B hb8) rfl) (st (v := (B false)) (rv_move rfl) (st_skip rfl (st_skip rfl (st_skip rfl (st (v := (B false)) (rv_pick_f rfl rfl) (st (v := (B false)) (rv_move rfl) (st_skip rfl (st_skip rfl ?_)))))))))))
  refine st_skip rfl (st (v := (B false)) (rv_pick_f rfl rfl) (st (v := (B false)) (rv_assign rfl) (w_end (q_then (c_ret ?_)))))
  obtain rfl := Option.some.inj h
  exact fin_ret (v := (B false)) (results_ok Try.results65 (res_tmp (v := (B false)) rfl res_nil) rfl) ⟨rfl, rfl⟩ (H.sel' [] rfl rfl)

theorem c_impl_ValidStore {Ap : List (Int × (List Int) × Int)} {Aq : Option Addr} {Ar : Nat} {r : Bool} (h : M.impl_ValidStore Ap = some r) :
    Cal2 Try.prog 37 [(Sl Aq Ap Ar)] [Ch.ro 0 (Sl Aq Ap Ar) Ap] (fun n0 v L => v = (B r) ∧ L = []) := by
 refine cal2 (n := 27) Try.func37 rfl rfl rfl rfl ?_
 intro S0 σ0 n0 hn0 H
 unfold M.impl_ValidStore at h
 refine c_seq (rg (st (v := (B false)) (rv_assign rfl) (w_end (q_then (c_seq (c_seq (rg (st (v := (Sl Aq Ap Ar)) (rv_move rfl) (st (v := (I (Ap.length : Int))) (rv_len Try.underlying23 rfl) (st (v := (B (decide (16 < (Ap.length : Int))))) (rv_gtr (a := (Ap.length : Int)) (b := 16) rfl rfl) (w_end ?_)))))))))))
 refine q_then ?_
 refine cd_cond (decide (16 < (Ap.length : Int))) rfl (fun hb1 => ?_) (fun hb1 => ?_)
 ·replace h := bif_t hb1 h
  refine c_seq (rg (st (v := (B false)) (rv_assign rfl) (w_end (q_then (c_ret (q_then_r ?_))))))
  obtain rfl := Option.some.inj h
  exact fin_ret (v := (B false)) (results_ok Try.results37 (res_tmp (v := (B false)) rfl res_nil) rfl) ⟨rfl, rfl⟩ (H.sel' [] rfl rfl)
 ·replace h := bif_f hb1 h
  refine c_skip (q_then (c_seq (rg (st (v := (I 0)) (rv_assign rfl) (w_end (q_then (c_seq (c_seq (rg (st (v := (Sl Aq Ap Ar)) (rv_move rfl) (st (v := (I (Ap.length : Int))) (rv_len Try.underlying23 rfl) ?_)))))))))))
  refine st (v := (I 0)) (rv_move rfl) (w_end (q_then ?_))
  obtain ⟨o2, hj, h'⟩ := bind_some h
  clear h
  refine c_cut (fun e a w => (∃ t, o2 = (.inl t) ∧ e = .normal ∧ ∃ (ρ : Nat → Value) (σ : St), a = fr 27 (updL ρ []) ∧ w = σ.w ∧ Hp S0 σ0 σ []) ∨ (∃ t, o2 = (.inr t) ∧ e = .ret ∧ ∃ (ρ : Nat → Value) (σ : St), a = fr 27 (updL ρ [(2, (B t))]) ∧ w = σ.w ∧ Hp S0 σ0 σ [])) ?_ ?_
  ·clear h'
   rename _ = some o2 => h
   refine c_blk (wp_loopM _ h (fun s3 a w => ∃ (ρ : Nat → Value) (σ : St), a = fr 27 (updL ρ [(3, (I s3.1)), (9, (Sl Aq Ap Ar)), (10, (I (Ap.length : Int))), (11, (I s3.2))]) ∧ w = σ.w ∧ Hp S0 σ0 σ [Ch.ro 0 (Sl Aq Ap Ar) Ap]) ⟨_, σ0, fr_join ⟨rfl, rfl, rfl, rfl, trivial⟩, rfl, H.sel' [0] rfl rfl⟩ ?_)
   clear h H
   rintro s3 a w o ⟨ρ, σ4, rfl, rfl, H⟩ h hres
   refine c_seq (rg (st (v := (B (decide (s3.2 < (Ap.length : Int))))) (rv_lss (a := s3.2) (b := (Ap.length : Int)) rfl rfl) (w_end (q_then (c_seq ?_)))))
   refine cd_cond (decide (s3.2 < (Ap.length : Int))) rfl (fun hb5 => ?_) (fun hb5 => ?_)
   ·replace h := bif_t hb5 h
    refine c_skip (q_then (c_seq (c_blk (c_seq (rg ?_)))))
    obtain ⟨x6, hx7, h'⟩ := bind_some h
    clear h
    have h := h'; clear h'
    obtain ⟨b9, o10, hi8, -⟩ := (H.ro 0 rfl).ix hx7
    refine st (v := (pt b9 o10)) (rv_ix Try.underlying23 ti34 rfl rfl hi8) ?_
    obtain ⟨_, ⟨_, _, rfl, rfl, ⟨_, _, rfl, ⟨_, rfl, hR15⟩, rfl⟩⟩, hl11, hc12⟩ := ((H.ro 0 rfl).at hx7 hi8).cells
    obtain ⟨a13, c14, rfl⟩ := hR15.isSl
    replace H := H.add (d := Ch.ro 0 (Sl a13 x6.2.1 c14) x6.2.1) hR15 (fun _ h => h)
    clear hR15
    refine st (v := (.agg #[(I x6.1), (Sl a13 x6.2.1 c14), (I x6.2.2)])) (rv_load Try.underlying34 rfl ti34 rfl hl11 hc12) (st_ex (ex_alloc (cs := [(I 0), (.slice none 0 0), (I 0)]) H hn0 ti34 rfl) wn ?_)
    rintro _ σ17 ⟨b16, rfl, H, -⟩
    refine st_exS (ex_store_box (k := 0) (cs := [(I 0), (.slice none 0 0), (I 0)]) (vs := [(I x6.1), (Sl a13 x6.2.1 c14), (I x6.2.2)]) (cs' := [(I x6.1), (Sl a13 x6.2.1 c14), (I x6.2.2)]) H (i := 0) rfl ti34 rfl rfl rfl rfl rfl (Nat.le_of_ble_eq_true rfl) (by simp [plain]) rfl) wn ?_
    rintro σ18 ⟨H, -⟩
    refine w_end (q_then (c_seq (c_seq ?_)))
    obtain ⟨o19, hj, h'⟩ := bind_some h
    clear h
    refine c_cut (fun e a w => e = .normal ∧ ∃ (ρ : Nat → Value) (σ : St), a = fr 27 (updL ρ [(5, (pt b16 0)), (9, (Sl Aq Ap Ar)), (10, (I (Ap.length : Int))), (11, (I s3.2)), (23, (B o19))]) ∧ w = σ.w ∧ Hp S0 σ0 σ [Ch.ro 0 (Sl a13 x6.2.1 c14) x6.2.1, Ch.bx n0 b16 0 [(I x6.1), (Sl a13 x6.2.1 c14), (I x6.2.2)] [] [], Ch.ro 0 (Sl Aq Ap Ar) Ap]) ?_ ?_
    ·clear h'
     rename _ = some o19 => h
     refine rg ?_
     have hc20 := H.cells 0 rfl
     refine st (v := (.agg #[(I x6.1), (Sl a13 x6.2.1 c14), (I x6.2.2)])) (rv_load (cs := [(I x6.1), (Sl a13 x6.2.1 c14), (I x6.2.2)]) Try.underlying34 rfl ti34 rfl rfl hc20) ?_
     obtain ⟨r21, hx22, h'⟩ := bind_some h
     clear h
     have h := h'; clear h'
     have hc23 := c_impl_validItem (Be := a13) (Bf := c14) hx22
     refine st_call (cx_call hc23 (ent_f hc23.fn rfl) hn0 (H.sel' [1, 0, 1, 2] rfl rfl : Hp S0 σ0 _ ([_] ++ _))) wn ?_
     rintro _ σ24 ⟨_, ⟨rfl, rfl⟩, H, -⟩
     replace H : Hp _ _ _ [_, _, _] := H
     refine st (v := (B (!r21))) (rv_not rfl) (st (v := (B (!r21))) (rv_move rfl) ?_)
     rcases Bool.eq_false_or_eq_true (!r21) with hb25 | hb25
     ·replace h := bif_t hb25 h
      refine st_skip (congrArg some hb25) (st_skip (congrArg some hb25) (st_skip (congrArg some hb25) (st_skip (congrArg some hb25) (st (v := (B true)) (rv_pick_t (congrArg B hb25) rfl) (w_end ?_)))))
      obtain rfl := Option.some.inj h
      exact ⟨rfl, _, σ24, fr_join ⟨rfl, rfl, rfl, rfl, rfl, trivial⟩, rfl, H.sel' [1, 0, 2] rfl rfl⟩
     ·replace h := bif_f hb25 h
      refine st_g (v := (pt b16 0)) (congrArg some hb25) (rv_fieldAddr (off := 0) (ft := 3) Try.underlying34 rfl ti3 rfl rfl) ?_
      have hc26 := H.cell (u := (I x6.1)) (o' := 0) 0 0 rfl rfl rfl
      refine st_g (v := (I x6.1)) (congrArg some hb25) (rv_load1 Try.underlying3 rfl rfl hc26) (st_g (v := (I s3.1)) (congrArg some hb25) (rv_move rfl) (st_g (v := (B (decide (x6.1 ≤ s3.1)))) (congrArg some hb25) (rv_leq (a := x6.1) (b := s3.1) rfl rfl) (st (v := (B (decide (x6.1 ≤ s3.1)))) (rv_pick_f (congrArg B hb25) rfl) (w_end ?_))))
      obtain rfl := Option.some.inj h
      exact ⟨rfl, _, σ24, fr_join ⟨rfl, rfl, rfl, rfl, rfl, trivial⟩, rfl, H.sel' [1, 0, 2] rfl rfl⟩
    ·clear hj
     have h := h'
     clear h' H
     rintro e a w ⟨rfl, ρ, σ27, rfl, rfl, H⟩
     refine q_then ?_
     refine cd_cond o19 rfl (fun hb28 => ?_) (fun hb28 => ?_)
     ·replace h := bif_t hb28 h
      refine c_seq (rg (st (v := (B false)) (rv_assign rfl) (w_end (q_then (c_ret (q_then_r (q_blk_r (q_then_r (q_then_r (q_blk_r ?_))))))))))
      obtain rfl := Option.some.inj h
      obtain rfl := hres _ rfl
      exact .inr (⟨_, rfl, rfl, _, σ27, fr_join ⟨rfl, trivial⟩, rfl, H.sel' [] rfl rfl⟩)
     ·replace h := bif_f hb28 h
      refine c_skip (q_then (rg (st (v := (pt b16 0)) (rv_fieldAddr (off := 0) (ft := 3) Try.underlying34 rfl ti3 rfl rfl) ?_)))
      have hc29 := H.cell (u := (I x6.1)) (o' := 0) 1 0 rfl rfl rfl
      refine st (v := (I x6.1)) (rv_load1 Try.underlying3 rfl rfl hc29) (st (v := (I x6.1)) (rv_assign rfl) (w_end (q_blk (q_then (rg (st (v := (I (w64 (s3.2 + 1)))) (rv_add (a := s3.2) (b := 1) rfl rfl) (st (v := (I (w64 (s3.2 + 1)))) (rv_move rfl) (w_end (q_then ?_)))))))))
      obtain rfl := Option.some.inj h
      exact ⟨_, rfl, _, σ27, fr_join ⟨rfl, rfl, rfl, rfl, trivial⟩, rfl, H.sel' [2] rfl rfl⟩
   ·replace h := bif_f hb5 h
    refine c_exit (q_then_x (q_then_x (q_blk_hit ?_)))
    obtain rfl := Option.some.inj h
    obtain rfl := hres _ rfl
    exact .inl ⟨_, rfl, rfl, _, σ4, fr_join trivial, rfl, H.sel' [] rfl rfl⟩
  ·clear hj
   have h := h'
   clear h' H
   rintro e a w (⟨t30, rfl, rfl, ρ, σ31, rfl, rfl, H⟩ | ⟨t32, rfl, rfl, ρ, σ33, rfl, rfl, H⟩)
   ·replace h := selim_l h
    refine q_then (c_seq (rg (st (v := (B true)) (rv_assign rfl) (w_end (q_then (c_ret ?_))))))
    obtain rfl := Option.some.inj h
    exact fin_ret (v := (B true)) (results_ok Try.results37 (res_tmp (v := (B true)) rfl res_nil) rfl) ⟨rfl, rfl⟩ (H.sel' [] rfl rfl)
   ·replace h := selim_r h
    refine q_then_r ?_
    obtain rfl := Option.some.inj h
    exact fin_ret (v := (B t32)) (results_ok Try.results37 (res_tmp (v := (B t32)) rfl res_nil) rfl) ⟨rfl, rfl⟩ (H.sel' [] rfl rfl)

theorem c_impl_validSearch {Ap : List (Int × (List Int) × Int)} {Cb : Int} {Cc : List Int} {Gp : Int} {Aq : Option Addr} {Ar : Nat} {Cd : Option Addr} {Ce : Nat} {r : Bool} (h : M.impl_validSearch Ap Cb Cc Gp = some r) :
    Cal2 Try.prog 52 [(Sl Aq Ap Ar), (I Cb), (Sl Cd Cc Ce), (I Gp)] [Ch.ro 0 (Sl Aq Ap Ar) Ap, Ch.ro 0 (Sl Cd Cc Ce) Cc] (fun n0 v L => v = (B r) ∧ L = []) := by
 refine cal2 (n := 27) Try.func52 rfl rfl rfl rfl ?_
 intro S0 σ0 n0 hn0 H
 unfold M.impl_validSearch at h
 refine c_seq (rg (st (v := (B false)) (rv_assign rfl) (w_end (q_then (c_seq (rg (st (v := (Sl Aq Ap Ar)) (rv_move rfl) ?_)))))))
 obtain ⟨r1, hx2, h'⟩ := bind_some h
 clear h
 have h := h'; clear h'
 have hc3 := c_impl_ValidStore (Aq := Aq) (Ar := Ar) hx2
 refine st_call (cx_call hc3 (ent_f hc3.fn rfl) hn0 (H.sel' [0, 0, 1] rfl rfl : Hp S0 σ0 _ ([_] ++ _))) wn ?_
 rintro _ σ4 ⟨_, ⟨rfl, rfl⟩, H, -⟩
 replace H : Hp _ _ _ [_, _] := H
 refine st (v := (B r1)) (rv_move rfl) ?_
 rcases Bool.eq_false_or_eq_true r1 with hb5 | hb5
 ·replace h := bif_t hb5 h
  refine st_g (v := (I Cb)) (congrArg some hb5) (rv_move rfl) ?_
  obtain ⟨r6, hx7, h'⟩ := bind_some h
  clear h
  have h := h'; clear h'
  have hc8 := c_impl_validKind hx7
  refine st_call (cx_call hc8 (ent_f hc8.fn rfl) hn0 (H.sel' [0, 1] rfl rfl : Hp S0 σ0 _ ([] ++ _))) (wanted_yes rfl (by exact (congrArg some hb5))) ?_
  rintro _ σ9 ⟨_, ⟨rfl, rfl⟩, H, -⟩
  replace H : Hp _ _ _ [_, _] := H
  refine st (v := (B r6)) (rv_pick_t (congrArg B hb5) rfl) (st (v := (B r6)) (rv_move rfl) ?_)
  rcases Bool.eq_false_or_eq_true r6 with hb10 | hb10
  ·replace h := bif_t hb10 h
   refine st_g (v := (Sl Cd Cc Ce)) (congrArg some hb10) (rv_move rfl) ?_
   obtain ⟨r11, hx12, h'⟩ := bind_some h
   clear h
   have h := h'; clear h'
   have hc13 := c_impl_ValidVector (Bb := Cd) (Bc := Ce) hx12
   refine st_call (cx_call hc13 (ent_f hc13.fn rfl) hn0 (H.sel' [1, 0, 1] rfl rfl : Hp S0 σ0 _ ([_] ++ _))) (wanted_yes rfl (by exact (congrArg some hb10))) ?_
   rintro _ σ14 ⟨_, ⟨rfl, rfl⟩, H, -⟩
   replace H : Hp _ _ _ [_, _] := H
   refine st (v := (B r11)) (rv_pick_t (congrArg B hb10) rfl) (st (v := (B r11)) (rv_move rfl) ?_)
   rcases Bool.eq_false_or_eq_true r11 with hb15 | hb15
   ·replace h := bif_t hb15 h
    refine st_g (v := (I Gp)) (congrArg some hb15) (rv_move rfl) (st_g (v := (B (decide (1 ≤ Gp)))) (congrArg some hb15) (rv_geq (a := Gp) (b := 1) rfl rfl) (st (v := (B (decide (1 ≤ Gp)))) (rv_pick_t (congrArg B hb15) rfl) (st (v := (B (decide (1 ≤ Gp)))) (rv_move rfl) ?_)))
    rcases Bool.eq_false_or_eq_true (decide (1 ≤ Gp)) with hb16 | hb16
    ·replace h := bif_t hb16 h
     refine st_g (v := (I Gp)) (congrArg some hb16) (rv_move rfl) (st_g (v := (B (decide (Gp ≤ 16)))) (congrArg some hb16) (rv_leq (a := Gp) (b := 16) rfl rfl) (st (v := (B (decide (Gp ≤ 16)))) (rv_pick_t (congrArg B hb16) rfl) (st (v := (B (decide (Gp ≤ 16)))) (rv_assign rfl) (w_end (q_then (c_ret ?_))))))
     obtain rfl := Option.some.inj h
     exact fin_ret (v := (B (decide (Gp ≤ 16)))) (results_ok Try.results52 (res_tmp (v := (B (decide (Gp ≤ 16)))) rfl res_nil) rfl) ⟨rfl, rfl⟩ (H.sel' [] rfl rfl)
    ·replace h := bif_f hb16 h
     refine st_skip (congrArg some hb16) (st_skip (congrArg some hb16) (st (v := (B false)) (rv_pick_f (congrArg B hb16) rfl) (st (v := (B false)) (rv_assign rfl) (w_end (q_then (c_ret ?_))))))
     obtain rfl := Option.some.inj h
     exact fin_ret (v := (B false)) (results_ok Try.results52 (res_tmp (v := (B false)) rfl res_nil) rfl) ⟨rfl, rfl⟩ (H.sel' [] rfl rfl)
   ·replace h := bif_f hb15 h
    refine st_skip (congrArg some hb15) (st_skip (congrArg some hb15) (st (v := (B false)) (rv_pick_f (congrArg B hb15) rfl) (st (v := (B false)) (rv_move rfl) (st_skip rfl (st_skip rfl (st (v := (B false)) (rv_pick_f rfl rfl) (st (v := (B false)) (rv_assign rfl) (w_end (q_then (c_ret ?_))))))))))
    obtain rfl := Option.some.inj h
    exact fin_ret (v := (B false)) (results_ok Try.results52 (res_tmp (v := (B false)) rfl res_nil) rfl) ⟨rfl, rfl⟩ (H.sel' [] rfl rfl)
  ·replace h := bif_f hb10 h
   refine st_skip (congrArg some hb10) (st_skip (congrArg some hb10) (st (v := (B false)) (rv_pick_f (congrArg B hb10) rfl) (st (v := (B false)) (rv_move rfl) (st_skip rfl (st_skip rfl (st (v := (B false)) (rv_pick_f rfl rfl) (st (v := (B false)) (rv_move rfl) (st_skip rfl (st_skip rfl (st (v := (B false)) (rv_pick_f rfl rfl) (st (v := (B false)) (rv_assign rfl) ?_)))))))))))
   refine w_end (q_then (c_ret ?_))
   obtain rfl := Option.some.inj h
   exact fin_ret (v := (B false)) (results_ok Try.results52 (res_tmp (v := (B false)) rfl res_nil) rfl) ⟨rfl, rfl⟩ (H.sel' [] rfl rfl)
 ·replace h := bif_f hb5 h
  refine st_skip (congrArg some hb5) (st_skip (congrArg some hb5) (st (v := (B false)) (rv_pick_f (congrArg B hb5) rfl) (st (v := (B false)) (rv_move rfl) (st_skip rfl (st_skip rfl (st (v := (B false)) (rv_pick_f rfl rfl) (st (v := (B false)) (rv_move rfl) (st_skip rfl (st_skip rfl (st (v := (B false)) (rv_pick_f rfl rfl) (st (v := (B false)) (rv_move rfl) ?_)))))))))))
  refine st_skip rfl (st_skip rfl (st (v := (B false)) (rv_pick_f rfl rfl) (st (v := (B false)) (rv_assign rfl) (w_end (q_then (c_ret ?_))))))
  obtain rfl := Option.some.inj h
  exact fin_ret (v := (B false)) (results_ok Try.results52 (res_tmp (v := (B false)) rfl res_nil) rfl) ⟨rfl, rfl⟩ (H.sel' [] rfl rfl)

theorem c_impl_hitHeap_Push__impl_Hit {Gq : List (Int × Int)} {Bg : Int × Int} {Gr : Option Addr} {Gs : Nat} {Gt Gu Gv : Nat} {Gw Gx : List Value} {r : (List (Int × Int))} (h : M.impl_hitHeap_Push__impl_Hit Gq Bg = some r) :
    Cal2 Try.prog 150 [(pt Gu Gv), (.iface 107 (.agg #[(I Bg.1), (I Bg.2)]))] [Ch.bx Gt Gu Gv [(Sl Gr Gq Gs)] Gw Gx, Ch.own 0 0 (Sl Gr Gq Gs) Gq] (fun n0 v L => ∃ (az1 : Option Addr), ∃ (cz2 : Nat), v = (.tuple #[]) ∧ L = [Ch.bx Gt Gu Gv [(Sl az1 r cz2)] Gw Gx, Ch.own 0 0 (Sl az1 r cz2) r]) := by
 refine cal2 (n := 13) Try.func150 rfl rfl rfl rfl ?_
 intro S0 σ0 n0 hn0 H
 unfold M.impl_hitHeap_Push__impl_Hit at h
 have hc1 := H.cell (u := (Sl Gr Gq Gs)) (o' := Gv) 0 0 rfl rfl rfl
 obtain ⟨xs3, hx4, h'⟩ := bind_some h
 clear h
 have h := h'; clear h'
 have Hs := H
 refine rg2 (σ := σ0) (Nm := (Nat) × (Option Addr) × (Nat)) 8 [6, 7] [[false, false], [true, false], [true, true]] [[(0, 0), (1, 1), (2, 2)], [(0, 0), (1, 1)], [(0, 0), (1, 1)], [(0, 0), (1, 1)], [(0, 0)], [(0, 0)], [(0, 1)], [(1, 2)]] 2 [fun ((b2, a5, c6) : (Nat) × (Option Addr) × (Nat)) => fun σm => Hp S0 σ0 σm [Ch.bx Gt Gu Gv [(Sl Gr Gq Gs)] Gw Gx, Ch.own 0 0 (Sl Gr Gq Gs) Gq] ∧ Md (cov []) σ0 σm, fun ((b2, a5, c6) : (Nat) × (Option Addr) × (Nat)) => fun σm => Hp S0 σ0 σm [Ch.own n0 n0 (Sl (some ⟨b2, 0, none⟩) ([(Bg.1, Bg.2)] : List (Int × Int)) 1) ([(Bg.1, Bg.2)] : List (Int × Int)), Ch.bx Gt Gu Gv [(Sl Gr Gq Gs)] Gw Gx, Ch.own 0 0 (Sl Gr Gq Gs) Gq] ∧ Md (cov []) σ0 σm, fun ((b2, a5, c6) : (Nat) × (Option Addr) × (Nat)) => fun σm => Hp S0 σ0 σm [Ch.own 0 0 (Sl a5 xs3 c6) xs3, Ch.own n0 n0 (Sl (some ⟨b2, 0, none⟩) ([(Bg.1, Bg.2)] : List (Int × Int)) 1) ([(Bg.1, Bg.2)] : List (Int × Int)), Ch.bx Gt Gu Gv [(Sl Gr Gq Gs)] Gw Gx] ∧ Md (fun i => (cov []) i ∨ (fun b => blk (Sl Gr Gq Gs) = some b) i) σ0 σm] [fun ((b2, a5, c6) : (Nat) × (Option Addr) × (Nat)) => (pt Gu Gv), fun ((b2, a5, c6) : (Nat) × (Option Addr) × (Nat)) => (pt Gu Gv), fun ((b2, a5, c6) : (Nat) × (Option Addr) × (Nat)) => (pt Gu Gv), fun ((b2, a5, c6) : (Nat) × (Option Addr) × (Nat)) => (Sl Gr Gq Gs), fun ((b2, a5, c6) : (Nat) × (Option Addr) × (Nat)) => (.iface 107 (.agg #[(I Bg.1), (I Bg.2)])), fun ((b2, a5, c6) : (Nat) × (Option Addr) × (Nat)) => (.agg #[(I Bg.1), (I Bg.2)]), fun ((b2, a5, c6) : (Nat) × (Option Addr) × (Nat)) => (Sl (some ⟨b2, 0, none⟩) ([(Bg.1, Bg.2)] : List (Int × Int)) 1), fun ((b2, a5, c6) : (Nat) × (Option Addr) × (Nat)) => (Sl a5 xs3 c6)] (0, none, 0) (by kernel_rfl) (by kernel_rfl) ?_ ?_ ?_
 ·intro σm m0
  exact ⟨H.grow (m0.mono fun _ h => h.elim), m0⟩
 ·refine ac rfl (by
    intro k; rintro ⟨b2, a5, c6⟩ ρ σm hJ hoff hdep
    have e0 := look_off (N := 13) (hoff 0 rfl) rfl
    exact dp_v (v := (pt Gu Gv)) wn (rv_move e0) rfl hJ) ?_
  refine ac rfl (by
    intro k; rintro ⟨b2, a5, c6⟩ ρ σm hJ hoff hdep
    have e0 := look_off (N := 13) (hoff 0 rfl) rfl
    exact dp_v (v := (pt Gu Gv)) wn (rv_move e0) rfl hJ) ?_
  refine ac rfl (by
    intro k; rintro ⟨b2, a5, c6⟩ ρ σm hJ hoff hdep
    have e5 := hdep 1 rfl rfl 5 rfl
    exact dp_v (v := (pt Gu Gv)) wn (rv_nilCheck e5) rfl hJ) ?_
  refine all_cons (by
    refine ⟨?_, ?_⟩
    ·rintro ⟨b2, a5, c6⟩ ρ σm hJ hoff hdep
     have e6 := hdep 2 rfl rfl 6 rfl
     obtain ⟨H, m⟩ := id hJ
     have hc1 := H.cell (u := (Sl Gr Gq Gs)) (o' := Gv) 0 0 rfl rfl rfl
     exact dp_v (v := (Sl Gr Gq Gs)) wn (rv_load1 Try.underlying74 rfl e6 hc1) rfl hJ
    refine ⟨?_, ?_⟩
    ·rintro ⟨b2, a5, c6⟩ ρ σm hJ hoff hdep
     have e6 := hdep 2 rfl rfl 6 rfl
     obtain ⟨H, m⟩ := id hJ
     have hc1 := H.cell (u := (Sl Gr Gq Gs)) (o' := Gv) 1 0 rfl rfl rfl
     exact dp_v (v := (Sl Gr Gq Gs)) wn (rv_load1 Try.underlying74 rfl e6 hc1) rfl hJ
    trivial) ?_
  refine ac rfl (by
    intro k; rintro ⟨b2, a5, c6⟩ ρ σm hJ hoff hdep
    have e1 := look_off (N := 13) (hoff 1 rfl) rfl
    exact dp_v (v := (.iface 107 (.agg #[(I Bg.1), (I Bg.2)]))) wn (rv_move e1) rfl hJ) ?_
  refine ac rfl (by
    intro k; rintro ⟨b2, a5, c6⟩ ρ σm hJ hoff hdep
    have e8 := hdep 4 rfl rfl 8 rfl
    exact dp_v (v := (.agg #[(I Bg.1), (I Bg.2)])) wn (rv_typeAssert Try.underlying107 rfl e8) rfl hJ) ?_
  refine all_cons (by
    refine ⟨?_, ?_⟩
    ·rintro ⟨b2, a5, c6⟩ ρ σm hJ hoff hdep
     have e9 : look 13 ρ 9 = (.agg #[(I Bg.1), (I Bg.2)]) := hdep 5 rfl rfl 9 rfl
     obtain ⟨H, m⟩ := id hJ
     refine dp_ex wn (ex_buildSlice (el := n0) (xs := ([(Bg.1, Bg.2)] : List (Int × Int))) (ps := [(0, (.agg #[(I Bg.1), (I Bg.2)]))]) (cs := [(I Bg.1), (I Bg.2)]) H hn0 Try.underlying74 ti107 rfl (by show [(0, look 13 ρ 9)] = _; rw [e9]) (by kernel_rfl) (.cons (c := [(I Bg.1), (I Bg.2)]) ⟨[(I Bg.1)], [(I Bg.2)], rfl, rfl, rfl⟩ (.nil)) rfl) ?_
     rintro _ σq ⟨b2x, rfl, H2, m2⟩
     exact ⟨_, (b2x, a5, c6), rfl, rfl, ⟨H2.sel' [0, 1, 2] rfl rfl, m.comp0 m2⟩, stab [0, 1, 2, 3, 4, 5] (by kernel_rfl) ⟨rfl, rfl, rfl, rfl, rfl, rfl, trivial⟩⟩
    trivial) ?_
  refine all_cons (by
    refine ⟨?_, ?_⟩
    ·rintro ⟨b2, a5, c6⟩ ρ σm hJ hoff hdep
     have e7 := hdep 3 rfl rfl 7 rfl
     have e10 := hdep 6 rfl rfl 10 rfl
     obtain ⟨H, m⟩ := id hJ
     refine dp_ex wn (ex_append H (i := 2) rfl Try.underlying74 Try.underlying74 ti107 rfl rfl (by decide) ((H.own 0 rfl).rd.sc) hx4 (Nat.zero_le _) e7 e10) ?_
     rintro _ σq ⟨a5x, c6x, rfl, H2, m2⟩
     exact ⟨_, (b2, a5x, c6x), rfl, rfl, ⟨H2.sel' [0, 1, 2] rfl rfl, m.comp m2⟩, stab [0, 1, 2, 3, 4, 5, 6] (by kernel_rfl) ⟨rfl, rfl, rfl, rfl, rfl, rfl, rfl, trivial⟩⟩
    trivial) ?_
  exact all_nil
 ·rintro ⟨b2, a5, c6⟩ ρ σ7 hJ hoff hrel
  have e0 := look_off (N := 13) (hoff 0 rfl) rfl
  have e4 := hrel 0 rfl 4 rfl
  have e11 := hrel 7 rfl 11 rfl
  obtain ⟨H, -⟩ := (show Hp S0 σ0 σ7 [Ch.own 0 0 (Sl a5 xs3 c6) xs3, Ch.own n0 n0 (Sl (some ⟨b2, 0, none⟩) ([(Bg.1, Bg.2)] : List (Int × Int)) 1) ([(Bg.1, Bg.2)] : List (Int × Int)), Ch.bx Gt Gu Gv [(Sl Gr Gq Gs)] Gw Gx] ∧ Md (fun i => (cov []) i ∨ (fun b => blk (Sl Gr Gq Gs) = some b) i) σ0 σ7 from hJ)
  clear hJ Hs
  rw [fr_lookL (L := [(0, (pt Gu Gv)), (4, (pt Gu Gv)), (11, (Sl a5 xs3 c6))]) ⟨e0, e4, e11, trivial⟩]
  clear hoff hrel e0 e4 e11
  refine st (v := (pt Gu Gv)) (rv_nilCheck rfl) ?_
  refine st_exS (ex_store_box (k := 0) (cs := [(Sl Gr Gq Gs)]) (vs := [(Sl a5 xs3 c6)]) (cs' := [(Sl a5 xs3 c6)]) H (i := 2) rfl ti74 rfl rfl rfl rfl rfl (Nat.le_of_ble_eq_true rfl) (by simp [plain]) rfl) wn ?_
  rintro σ8 ⟨H, -⟩
  refine w_end ?_
  obtain rfl := Option.some.inj h
  exact fin_end (v := (.tuple #[])) (results_ok Try.results150 res_nil rfl) ⟨a5, c6, rfl, rfl⟩ (H.sel' [0, 1] rfl rfl)

theorem c_impl_hitHeap_Len {Gq : List (Int × Int)} {Gr : Option Addr} {Gs : Nat} {r : Int} (h : M.impl_hitHeap_Len Gq = some r) :
    Cal2 Try.prog 146 [(Sl Gr Gq Gs)] [Ch.ro 0 (Sl Gr Gq Gs) Gq] (fun n0 v L => v = (I r) ∧ L = []) := by
 refine cal2 (n := 5) Try.func146 rfl rfl rfl rfl ?_
 intro S0 σ0 n0 hn0 H
 unfold M.impl_hitHeap_Len at h
 refine c_seq (rg (st (v := (I 0)) (rv_assign rfl) (w_end (q_then (c_seq (rg (st (v := (Sl Gr Gq Gs)) (rv_move rfl) (st (v := (I (Gq.length : Int))) (rv_len Try.underlying74 rfl) (st (v := (I (Gq.length : Int))) (rv_assign rfl) (w_end (q_then ?_)))))))))))
 refine c_ret ?_
 obtain rfl := Option.some.inj h
 exact fin_ret (v := (I (Gq.length : Int))) (results_ok Try.results146 (res_tmp (v := (I (Gq.length : Int))) rfl res_nil) rfl) ⟨rfl, rfl⟩ (H.sel' [] rfl rfl)

theorem c_impl_hitHeap_Less {Gq : List (Int × Int)} {Gy : Int} {Gz : Int} {Gr : Option Addr} {Gs : Nat} {r : Bool} (h : M.impl_hitHeap_Less Gq Gy Gz = some r) :
    Cal2 Try.prog 147 [(Sl Gr Gq Gs), (I Gy), (I Gz)] [Ch.ro 0 (Sl Gr Gq Gs) Gq] (fun n0 v L => v = (B r) ∧ L = []) := by
 refine cal2 (n := 17) Try.func147 rfl rfl rfl rfl ?_
 intro S0 σ0 n0 hn0 H
 unfold M.impl_hitHeap_Less at h
 refine c_seq (rg (st (v := (B false)) (rv_assign rfl) (w_end (q_then (c_seq ?_)))))
 refine rgP (σ := σ0) 8 (by kernel_rfl) (by kernel_rfl) (by kernel_rfl) ?_
 refine sq (v := (Sl Gr Gq Gs)) (rv_move rfl) (sq (v := (I Gy)) (rv_move rfl) ?_)
 obtain ⟨x1, hx2, h'⟩ := bind_some h
 clear h
 have h := h'; clear h'
 obtain ⟨b4, o5, hi3, -⟩ := (H.ro 0 rfl).ix hx2
 refine sq (v := (pt b4 o5)) (rv_ix Try.underlying74 ti107 rfl rfl hi3) ?_
 obtain ⟨_, ⟨_, _, rfl, rfl, rfl⟩, hl6, hc7⟩ := ((H.ro 0 rfl).at hx2 hi3).cells
 refine sq (v := (.agg #[(I x1.1), (I x1.2)])) (rv_load Try.underlying107 rfl ti107 rfl hl6 hc7) (sq (v := (Sl Gr Gq Gs)) (rv_move rfl) (sq (v := (I Gz)) (rv_move rfl) ?_))
 obtain ⟨x8, hx9, h'⟩ := bind_some h
 clear h
 have h := h'; clear h'
 obtain ⟨b11, o12, hi10, -⟩ := (H.ro 0 rfl).ix hx9
 refine sq (v := (pt b11 o12)) (rv_ix Try.underlying74 ti107 rfl rfl hi10) ?_
 obtain ⟨_, ⟨_, _, rfl, rfl, rfl⟩, hl13, hc14⟩ := ((H.ro 0 rfl).at hx9 hi10).cells
 refine sq (v := (.agg #[(I x8.1), (I x8.2)])) (rv_load Try.underlying107 rfl ti107 rfl hl13 hc14) (sq_end ?_)
 intro σ15 hm16
 replace H := H.grow (hm16.mono fun _ h => h); clear hm16
 obtain ⟨r17, hx18, h'⟩ := bind_some h
 clear h
 have h := h'; clear h'
 have hc19 := c_impl_compareHits hx18
 refine st_call (cx_call hc19 (ent_f hc19.fn rfl) hn0 (H.sel' [0] rfl rfl : Hp S0 σ0 _ ([] ++ _))) wn ?_
 rintro _ σ20 ⟨_, ⟨rfl, rfl⟩, H, -⟩
 replace H : Hp _ _ _ [_] := H
 refine st (v := (B (decide (0 < r17)))) (rv_gtr (a := r17) (b := 0) rfl rfl) (st (v := (B (decide (0 < r17)))) (rv_assign rfl) (w_end (q_then (c_ret ?_))))
 obtain rfl := Option.some.inj h
 exact fin_ret (v := (B (decide (0 < r17)))) (results_ok Try.results147 (res_tmp (v := (B (decide (0 < r17)))) rfl res_nil) rfl) ⟨rfl, rfl⟩ (H.sel' [] rfl rfl)

theorem c_impl_hitHeap_Swap {Gq : List (Int × Int)} {Gy : Int} {Gz : Int} {Gr : Option Addr} {Gs : Nat} {r : (List (Int × Int))} (h : M.impl_hitHeap_Swap Gq Gy Gz = some r) :
    Cal2 Try.prog 148 [(Sl Gr Gq Gs), (I Gy), (I Gz)] [Ch.own 0 0 (Sl Gr Gq Gs) Gq] (fun n0 v L => v = (.tuple #[]) ∧ L = [Ch.own 0 0 (Sl Gr r Gs) r] ∧ r.length = Gq.length) := by
 refine cal2 (n := 20) Try.func148 rfl rfl rfl rfl ?_
 intro S0 σ0 n0 hn0 H
 unfold M.impl_hitHeap_Swap at h
 obtain ⟨x1, hx2, h'⟩ := bind_some h
 clear h
 have h := h'; clear h'
 obtain ⟨b4, o5, hi3, -⟩ := (H.own 0 rfl).ix hx2
 obtain ⟨_, ⟨_, _, rfl, rfl, rfl⟩, hl6, hc7⟩ := ((H.own 0 rfl).at hx2 hi3).cells
 obtain ⟨x8, hx9, h'⟩ := bind_some h
 clear h
 have h := h'; clear h'
 obtain ⟨b11, o12, hi10, -⟩ := (H.own 0 rfl).ix hx9
 obtain ⟨_, ⟨_, _, rfl, rfl, rfl⟩, hl13, hc14⟩ := ((H.own 0 rfl).at hx9 hi10).cells
 obtain ⟨x15, hx16, h'⟩ := bind_some h
 clear h
 have h := h'; clear h'
 obtain ⟨b18, o19, hi17, -⟩ := (H.own 0 rfl).ix hx16
 have Hs := H
 refine rg2 (σ := σ0) (Nm := Unit) 14 [13] [[false], [true]] [[(0, 0)], [(0, 0)], [(0, 0), (1, 1)], [(0, 0), (1, 1)], [(0, 0)], [(0, 0)], [(0, 0)], [(0, 0)], [(0, 0)], [(0, 0)], [(0, 0)], [(0, 0)], [(0, 0)], [(0, 1)]] 1 [fun _ => fun σm => Hp S0 σ0 σm [Ch.own 0 0 (Sl Gr Gq Gs) Gq] ∧ Md (cov []) σ0 σm, fun _ => fun σm => Hp S0 σ0 σm [Ch.own 0 0 (Sl Gr Gq Gs) (Gq.set Gy.toNat (x1.1, x1.2))] ∧ Md (fun i => (cov []) i ∨ (fun b => blk (Sl Gr Gq Gs) = some b) i) σ0 σm] [fun _ => (Sl Gr Gq Gs), fun _ => (I Gy), fun _ => (Sl Gr Gq Gs), fun _ => (I Gz), fun _ => (Sl Gr Gq Gs), fun _ => (I Gz), fun _ => (pt b4 o5), fun _ => (.agg #[(I x1.1), (I x1.2)]), fun _ => (Sl Gr Gq Gs), fun _ => (I Gy), fun _ => (pt b11 o12), fun _ => (.agg #[(I x8.1), (I x8.2)]), fun _ => (pt b18 o19), fun _ => undef] () (by kernel_rfl) (by kernel_rfl) ?_ ?_ ?_
 ·intro σm m0
  exact ⟨H.grow (m0.mono fun _ h => h.elim), m0⟩
 ·refine ac rfl (by
    intro k _nm ρ σm hJ hoff hdep
    have e0 := look_off (N := 20) (hoff 0 rfl) rfl
    exact dp_v (v := (Sl Gr Gq Gs)) wn (rv_move e0) rfl hJ) ?_
  refine ac rfl (by
    intro k _nm ρ σm hJ hoff hdep
    have e1 := look_off (N := 20) (hoff 1 rfl) rfl
    exact dp_v (v := (I Gy)) wn (rv_move e1) rfl hJ) ?_
  refine ac rfl (by
    intro k _nm ρ σm hJ hoff hdep
    have e0 := look_off (N := 20) (hoff 0 rfl) rfl
    exact dp_v (v := (Sl Gr Gq Gs)) wn (rv_move e0) rfl hJ) ?_
  refine ac rfl (by
    intro k _nm ρ σm hJ hoff hdep
    have e2 := look_off (N := 20) (hoff 2 rfl) rfl
    exact dp_v (v := (I Gz)) wn (rv_move e2) rfl hJ) ?_
  refine ac rfl (by
    intro k _nm ρ σm hJ hoff hdep
    have e0 := look_off (N := 20) (hoff 0 rfl) rfl
    exact dp_v (v := (Sl Gr Gq Gs)) wn (rv_move e0) rfl hJ) ?_
  refine ac rfl (by
    intro k _nm ρ σm hJ hoff hdep
    have e2 := look_off (N := 20) (hoff 2 rfl) rfl
    exact dp_v (v := (I Gz)) wn (rv_move e2) rfl hJ) ?_
  refine ac rfl (by
    intro k _nm ρ σm hJ hoff hdep
    have e10 := hdep 4 rfl rfl 10 rfl
    have e11 := hdep 5 rfl rfl 11 rfl
    exact dp_v (v := (pt b4 o5)) wn (rv_ix Try.underlying74 ti107 e10 e11 hi3) rfl hJ) ?_
  refine all_cons (by
    refine ⟨?_, ?_⟩
    ·intro _nm ρ σm hJ hoff hdep
     have e12 := hdep 6 rfl rfl 12 rfl
     obtain ⟨H, m⟩ := id hJ
     obtain ⟨_, ⟨_, _, rfl, rfl, rfl⟩, hl6, hc7⟩ := ((H.own 0 rfl).at hx2 hi3).cells
     exact dp_v (v := (.agg #[(I x1.1), (I x1.2)])) wn (rv_load Try.underlying107 rfl ti107 e12 hl6 hc7) rfl hJ
    trivial) ?_
  refine ac rfl (by
    intro k _nm ρ σm hJ hoff hdep
    have e0 := look_off (N := 20) (hoff 0 rfl) rfl
    exact dp_v (v := (Sl Gr Gq Gs)) wn (rv_move e0) rfl hJ) ?_
  refine ac rfl (by
    intro k _nm ρ σm hJ hoff hdep
    have e1 := look_off (N := 20) (hoff 1 rfl) rfl
    exact dp_v (v := (I Gy)) wn (rv_move e1) rfl hJ) ?_
  refine ac rfl (by
    intro k _nm ρ σm hJ hoff hdep
    have e14 := hdep 8 rfl rfl 14 rfl
    have e15 := hdep 9 rfl rfl 15 rfl
    exact dp_v (v := (pt b11 o12)) wn (rv_ix Try.underlying74 ti107 e14 e15 hi10) rfl hJ) ?_
  refine all_cons (by
    refine ⟨?_, ?_⟩
    ·intro _nm ρ σm hJ hoff hdep
     have e16 := hdep 10 rfl rfl 16 rfl
     obtain ⟨H, m⟩ := id hJ
     obtain ⟨_, ⟨_, _, rfl, rfl, rfl⟩, hl13, hc14⟩ := ((H.own 0 rfl).at hx9 hi10).cells
     exact dp_v (v := (.agg #[(I x8.1), (I x8.2)])) wn (rv_load Try.underlying107 rfl ti107 e16 hl13 hc14) rfl hJ
    trivial) ?_
  refine ac rfl (by
    intro k _nm ρ σm hJ hoff hdep
    have e6 := hdep 0 rfl rfl 6 rfl
    have e7 := hdep 1 rfl rfl 7 rfl
    exact dp_v (v := (pt b18 o19)) wn (rv_ix Try.underlying74 ti107 e6 e7 hi17) rfl hJ) ?_
  refine all_cons (by
    refine ⟨?_, ?_⟩
    ·intro _nm ρ σm hJ hoff hdep
     have e18 := hdep 12 rfl rfl 18 rfl
     have e13 := hdep 7 rfl rfl 13 rfl
     obtain ⟨H, m⟩ := id hJ
     refine dp_exS wn rfl (ex_store_own (e' := (x1.1, x1.2)) (vs := [(I x1.1), (I x1.2)]) (k := 0) H (i := 0) rfl ti107 hx16 hi17 e18 rfl e13 rfl rfl (Nat.le_of_ble_eq_true rfl) (by simp [plain]) (by rintro _ ⟨_, _, rfl, rfl, rfl⟩; exact ⟨[(I x1.1)], [(I x1.2)], rfl, rfl, rfl⟩)) ?_
     rintro σq ⟨H2, m2⟩
     exact ⟨_, (), rfl, ⟨H2.sel' [0] rfl rfl, m.comp m2⟩, stab [0, 1, 2, 3, 4, 5, 6, 7, 8, 9, 10, 11, 12] (by kernel_rfl) ⟨rfl, rfl, rfl, rfl, rfl, rfl, rfl, rfl, rfl, rfl, rfl, rfl, rfl, trivial⟩⟩
    trivial) ?_
  exact all_nil
 ·intro _nm ρ σ20 hJ hoff hrel
  have e0 := look_off (N := 20) (hoff 0 rfl) rfl
  have e8 := hrel 2 rfl 8 rfl
  have e9 := hrel 3 rfl 9 rfl
  have e17 := hrel 11 rfl 17 rfl
  obtain ⟨H, -⟩ := (show Hp S0 σ0 σ20 [Ch.own 0 0 (Sl Gr Gq Gs) (Gq.set Gy.toNat (x1.1, x1.2))] ∧ Md (fun i => (cov []) i ∨ (fun b => blk (Sl Gr Gq Gs) = some b) i) σ0 σ20 from hJ)
  clear hJ Hs
  rw [fr_lookL (L := [(0, (Sl Gr Gq Gs)), (8, (Sl Gr Gq Gs)), (9, (I Gz)), (17, (.agg #[(I x8.1), (I x8.2)]))]) ⟨e0, e8, e9, e17, trivial⟩]
  clear hoff hrel e0 e8 e9 e17
  have hsl : (Sl Gr Gq Gs) = (Sl Gr (Gq.set Gy.toNat (x1.1, x1.2)) Gs) := sl_len (by simp)
  rw [hsl]; rw [hsl] at H; clear hsl
  obtain ⟨x21, hx22, h'⟩ := bind_some h
  clear h
  have h := h'; clear h'
  obtain ⟨b24, o25, hi23, -⟩ := (H.own 0 rfl).ix hx22
  refine st (v := (pt b24 o25)) (rv_ix Try.underlying74 ti107 rfl rfl hi23) ?_
  refine st_exS (ex_store_own (e' := (x8.1, x8.2)) (vs := [(I x8.1), (I x8.2)]) (k := 0) H (i := 0) rfl ti107 hx22 hi23 rfl rfl rfl rfl rfl (Nat.le_of_ble_eq_true rfl) (by simp [plain]) (by rintro _ ⟨_, _, rfl, rfl, rfl⟩; exact ⟨[(I x8.1)], [(I x8.2)], rfl, rfl, rfl⟩)) wn ?_
  rintro σ26 ⟨H, -⟩
  have hsl : (Sl Gr (Gq.set Gy.toNat (x1.1, x1.2)) Gs) = (Sl Gr ((Gq.set Gy.toNat (x1.1, x1.2)).set Gz.toNat (x8.1, x8.2)) Gs) := sl_len List.length_set.symm
  rw [hsl]; rw [hsl] at H; clear hsl
  refine w_end ?_
  obtain rfl := Option.some.inj h
  exact fin_end (v := (.tuple #[])) (results_ok Try.results148 res_nil rfl) ⟨rfl, rfl, (List.length_set.trans List.length_set)⟩ (H.sel' [0] rfl rfl)

theorem c_container_heap_up__impl_hitHeap {Gq : List (Int × Int)} {Ha : Int} {Gr : Option Addr} {Gs : Nat} {Gt Gu Gv : Nat} {Gw Gx : List Value} {r : (List (Int × Int))} (h : M.container_heap_up__impl_hitHeap Gq Ha = some r) :
    Cal2 Try.prog 109 [(.iface 124 (pt Gu Gv)), (I Ha)] [Ch.bx Gt Gu Gv [(Sl Gr Gq Gs)] Gw Gx, Ch.own 0 0 (Sl Gr Gq Gs) Gq] (fun n0 v L => ∃ (az1 : Option Addr), ∃ (cz2 : Nat), v = (.tuple #[]) ∧ L = [Ch.bx Gt Gu Gv [(Sl az1 r cz2)] Gw Gx, Ch.own 0 0 (Sl az1 r cz2) r]) := by
 refine cal2 (n := 23) Try.func109 rfl rfl rfl rfl ?_
 intro S0 σ0 n0 hn0 H
 unfold M.container_heap_up__impl_hitHeap at h
 obtain ⟨o1, hj, h'⟩ := bind_some h
 clear h
 refine c_cut (fun e a w => e = .normal ∧ ∃ (ρ : Nat → Value) (σ : St) (aj1 : Option Addr) (cj2 : Nat), a = fr 23 (updL ρ [(0, (.iface 124 (pt Gu Gv)))]) ∧ w = σ.w ∧ Hp S0 σ0 σ [Ch.bx Gt Gu Gv [(Sl aj1 o1 cj2)] Gw Gx, Ch.own 0 0 (Sl aj1 o1 cj2) o1]) ?_ ?_
 ·clear h'
  rename _ = some o1 => h
  refine c_blk (wp_loopM _ h (fun s2 a w => ∃ (ρ : Nat → Value) (σ : St) (aj1 : Option Addr) (cj2 : Nat), a = fr 23 (updL ρ [(0, (.iface 124 (pt Gu Gv))), (1, (I s2.2))]) ∧ w = σ.w ∧ Hp S0 σ0 σ [Ch.bx Gt Gu Gv [(Sl aj1 s2.1 cj2)] Gw Gx, Ch.own 0 0 (Sl aj1 s2.1 cj2) s2.1]) ⟨_, σ0, Gr, Gs, fr_join ⟨rfl, rfl, trivial⟩, rfl, H.sel' [0, 1] rfl rfl⟩ ?_)
  clear h H
  rintro s2 a w o ⟨ρ, σ3, a4, c5, rfl, rfl, H⟩ h hres
  refine c_blk (c_seq (rg (st (v := (I s2.2)) (rv_move rfl) (st (v := (I (w64 (s2.2 - 1)))) (rv_sub (a := s2.2) (b := 1) rfl rfl) ?_))))
  refine st (v := (I (w64 ((w64 (s2.2 - 1)).tdiv 2)))) (rv_quo (a := (w64 (s2.2 - 1))) (b := 2) rfl rfl (by decide)) ?_
  refine st (v := (I (w64 ((w64 (s2.2 - 1)).tdiv 2)))) (rv_assign rfl) (w_end (q_then (c_seq (c_seq ?_))))
  obtain ⟨o6, hj, h'⟩ := bind_some h
  clear h
  refine c_cut (fun e a w => e = .normal ∧ ∃ (ρ : Nat → Value) (σ : St), a = fr 23 (updL ρ [(0, (.iface 124 (pt Gu Gv))), (1, (I s2.2)), (4, (I (w64 ((w64 (s2.2 - 1)).tdiv 2)))), (17, (B o6))]) ∧ w = σ.w ∧ Hp S0 σ0 σ [Ch.own 0 0 (Sl a4 s2.1 c5) s2.1, Ch.bx Gt Gu Gv [(Sl a4 s2.1 c5)] Gw Gx]) ?_ ?_
  ·clear h'
   rename _ = some o6 => h
   refine rg (st (v := (I (w64 ((w64 (s2.2 - 1)).tdiv 2)))) (rv_move rfl) (st (v := (I s2.2)) (rv_move rfl) (st (v := (B ((w64 ((w64 (s2.2 - 1)).tdiv 2)) == s2.2))) (rv_eql (a := (w64 ((w64 (s2.2 - 1)).tdiv 2))) (b := s2.2) rfl rfl) (st (v := (B ((w64 ((w64 (s2.2 - 1)).tdiv 2)) == s2.2))) (rv_move rfl) ?_))))
   rcases Bool.eq_false_or_eq_true ((w64 ((w64 (s2.2 - 1)).tdiv 2)) == s2.2) with hb7 | hb7
   ·replace h := bif_t hb7 h
    refine st_skip (congrArg some hb7) (st_skip (congrArg some hb7) (st_skip (congrArg some hb7) (st_skip (congrArg some hb7) (st_skip (congrArg some hb7) (st (v := (B true)) (rv_pick_t (congrArg B hb7) rfl) (w_end ?_))))))
    obtain rfl := Option.some.inj h
    exact ⟨rfl, _, σ3, fr_join ⟨rfl, rfl, rfl, rfl, trivial⟩, rfl, H.sel' [1, 0] rfl rfl⟩
   ·replace h := bif_f hb7 h
    refine st_g (v := (.iface 124 (pt Gu Gv))) (congrArg some hb7) (rv_move rfl) (st_g (v := (I s2.2)) (congrArg some hb7) (rv_move rfl) (st_g (v := (I (w64 ((w64 (s2.2 - 1)).tdiv 2)))) (congrArg some hb7) (rv_move rfl) ?_))
    obtain ⟨r8, hx9, h'⟩ := bind_some h
    clear h
    have h := h'; clear h'
    have hc10 := c_impl_hitHeap_Less (Gr := a4) (Gs := c5) hx9
    have hle := Nat.le_trans hn0 H.size
    refine st_call (cx_lend (Loan.lend Loan.nil) hc10 (ent_iv hc10.fn (by kernel_rfl) Try.underlying124 Try.underlying74 rfl rfl (H.cell (u := (Sl a4 s2.1 c5)) (o' := Gv) 0 0 rfl rfl rfl) rfl) (show Hp S0 σ0 _ ([Ch.own 0 0 (Sl a4 s2.1 c5) s2.1] ++ ([] ++ [Ch.bx Gt Gu Gv [(Sl a4 s2.1 c5)] Gw Gx])) from (H.sel' [1, 0] rfl rfl)) (by rintro _ _ _ ⟨rfl, rfl⟩; exact trivial)) (wanted_yes rfl (by exact (congrArg some hb7))) ?_
    rintro _ σ11 ⟨_, ⟨rfl, rfl⟩, H, -, -⟩
    replace H : Hp _ _ _ [_, _] := H
    clear hle
    replace H : Hp _ _ _ [_, _] := H
    refine st_g (v := (B (!r8))) (congrArg some hb7) (rv_not rfl) (st (v := (B (!r8))) (rv_pick_f (congrArg B hb7) rfl) (w_end ?_))
    obtain rfl := Option.some.inj h
    exact ⟨rfl, _, σ11, fr_join ⟨rfl, rfl, rfl, rfl, trivial⟩, rfl, H.sel' [0, 1] rfl rfl⟩
  ·clear hj
   have h := h'
   clear h' H
   rintro e a w ⟨rfl, ρ, σ12, rfl, rfl, H⟩
   refine q_then ?_
   refine cd_cond o6 rfl (fun hb13 => ?_) (fun hb13 => ?_)
   ·replace h := bif_t hb13 h
    refine c_exit (q_then_x ?_)
    refine q_blk_x (by decide) ?_
    refine q_then_x (q_blk_hit ?_)
    obtain rfl := Option.some.inj h
    obtain rfl := hres _ rfl
    exact ⟨rfl, _, σ12, a4, c5, fr_join ⟨rfl, trivial⟩, rfl, H.sel' [1, 0] rfl rfl⟩
   ·replace h := bif_f hb13 h
    refine c_skip (q_then (c_seq (rg (st (v := (.iface 124 (pt Gu Gv))) (rv_move rfl) (st (v := (I (w64 ((w64 (s2.2 - 1)).tdiv 2)))) (rv_move rfl) (st (v := (I s2.2)) (rv_move rfl) ?_))))))
    obtain ⟨r14, hx15, h'⟩ := bind_some h
    clear h
    have h := h'; clear h'
    have hc16 := c_impl_hitHeap_Swap (Gr := a4) (Gs := c5) hx15
    refine st_call (cx_call hc16 (ent_iv hc16.fn (by kernel_rfl) Try.underlying124 Try.underlying74 rfl rfl (H.cell (u := (Sl a4 s2.1 c5)) (o' := Gv) 1 0 rfl rfl rfl) rfl) hn0 (H.sel' [0, 1] rfl rfl : Hp S0 σ0 _ ([_] ++ _))) wn ?_
    rintro _ σ18 ⟨_, ⟨rfl, rfl, hn17⟩, H, -⟩
    replace H : Hp _ _ _ [_, _] := H
    have hsl : (Sl a4 s2.1 c5) = (Sl a4 r14 c5) := sl_len hn17.symm
    try rw [hsl]
    try rw [hsl] at H
    clear hsl
    refine w_end (q_then (rg (st (v := (I (w64 ((w64 (s2.2 - 1)).tdiv 2)))) (rv_move rfl) (st (v := (I (w64 ((w64 (s2.2 - 1)).tdiv 2)))) (rv_assign rfl) (w_end (q_blk (q_then ?_)))))))
    obtain rfl := Option.some.inj h
    exact ⟨_, rfl, _, σ18, a4, c5, fr_join ⟨rfl, rfl, trivial⟩, rfl, H.sel' [1, 0] rfl rfl⟩
 ·clear hj
  have h := h'
  clear h' H
  rintro e a w ⟨rfl, ρ, σ19, a20, c21, rfl, rfl, H⟩
  obtain rfl := Option.some.inj h
  exact fin_end (v := (.tuple #[])) (results_ok Try.results109 res_nil rfl) ⟨a20, c21, rfl, rfl⟩ (H.sel' [0, 1] rfl rfl)

theorem c_container_heap_Push__impl_hitHeap__impl_Hit {Gq : List (Int × Int)} {Bg : Int × Int} {Gr : Option Addr} {Gs : Nat} {Gt Gu Gv : Nat} {Gw Gx : List Value} {r : (List (Int × Int))} (h : M.container_heap_Push__impl_hitHeap__impl_Hit Gq Bg = some r) :
    Cal2 Try.prog 96 [(.iface 124 (pt Gu Gv)), (.iface 107 (.agg #[(I Bg.1), (I Bg.2)]))] [Ch.bx Gt Gu Gv [(Sl Gr Gq Gs)] Gw Gx, Ch.own 0 0 (Sl Gr Gq Gs) Gq] (fun n0 v L => ∃ (az1 : Option Addr), ∃ (cz2 : Nat), v = (.tuple #[]) ∧ L = [Ch.bx Gt Gu Gv [(Sl az1 r cz2)] Gw Gx, Ch.own 0 0 (Sl az1 r cz2) r]) := by
 refine cal2 (n := 12) Try.func96 rfl rfl rfl rfl ?_
 intro S0 σ0 n0 hn0 H
 unfold M.container_heap_Push__impl_hitHeap__impl_Hit at h
 refine c_seq (rg (st (v := (.iface 124 (pt Gu Gv))) (rv_move rfl) (st (v := (.iface 107 (.agg #[(I Bg.1), (I Bg.2)]))) (rv_move rfl) ?_)))
 obtain ⟨r1, hx2, h'⟩ := bind_some h
 clear h
 have h := h'; clear h'
 have hc3 := c_impl_hitHeap_Push__impl_Hit (Gt := Gt) (Gu := Gu) (Gv := Gv) (Gw := Gw) (Gx := Gx) (Gr := Gr) (Gs := Gs) hx2
 refine st_call (cx_call hc3 (ent_ip hc3.fn (by kernel_rfl) Try.underlying124 rfl rfl) hn0 (H.sel' [0, 1] rfl rfl : Hp S0 σ0 _ ([_, _] ++ _))) wn ?_
 rintro _ σ6 ⟨_, ⟨a4, c5, rfl, rfl⟩, H, -⟩
 replace H : Hp _ _ _ [_, _] := H
 refine w_end (q_then (rg (st (v := (.iface 124 (pt Gu Gv))) (rv_move rfl) (st (v := (.iface 124 (pt Gu Gv))) (rv_move rfl) ?_))))
 obtain ⟨r7, hx8, h'⟩ := bind_some h
 clear h
 have h := h'; clear h'
 have hc9 := c_impl_hitHeap_Len (Gr := a4) (Gs := c5) hx8
 have hle := Nat.le_trans hn0 H.size
 refine st_call (cx_lend (Loan.lend Loan.nil) hc9 (ent_iv hc9.fn (by kernel_rfl) Try.underlying124 Try.underlying74 rfl rfl (H.cell (u := (Sl a4 r1 c5)) (o' := Gv) 0 0 rfl rfl rfl) rfl) (show Hp S0 σ0 _ ([Ch.own 0 0 (Sl a4 r1 c5) r1] ++ ([] ++ [Ch.bx Gt Gu Gv [(Sl a4 r1 c5)] Gw Gx])) from (H.sel' [1, 0] rfl rfl)) (by rintro _ _ _ ⟨rfl, rfl⟩; exact trivial)) wn ?_
 rintro _ σ10 ⟨_, ⟨rfl, rfl⟩, H, -, -⟩
 replace H : Hp _ _ _ [_, _] := H
 clear hle
 replace H : Hp _ _ _ [_, _] := H
 refine st (v := (I (w64 (r7 - 1)))) (rv_sub (a := r7) (b := 1) rfl rfl) ?_
 obtain ⟨r11, hx12, h'⟩ := bind_some h
 clear h
 have h := h'; clear h'
 have hc13 := c_container_heap_up__impl_hitHeap (Gt := Gt) (Gu := Gu) (Gv := Gv) (Gw := Gw) (Gx := Gx) (Gr := a4) (Gs := c5) hx12
 refine st_call (cx_call hc13 (ent_f hc13.fn rfl) hn0 (H.sel' [1, 0] rfl rfl : Hp S0 σ0 _ ([_, _] ++ _))) wn ?_
 rintro _ σ16 ⟨_, ⟨a14, c15, rfl, rfl⟩, H, -⟩
 replace H : Hp _ _ _ [_, _] := H
 refine w_end ?_
 obtain rfl := Option.some.inj h
 exact fin_end (v := (.tuple #[])) (results_ok Try.results96 res_nil rfl) ⟨a14, c15, rfl, rfl⟩ (H.sel' [0, 1] rfl rfl)

theorem c_container_heap_down__impl_hitHeap {Gq : List (Int × Int)} {Hc : Int} {Aw : Int} {Gr : Option Addr} {Gs : Nat} {Gt Gu Gv : Nat} {Gw Gx : List Value} {r : Bool × (List (Int × Int))} (h : M.container_heap_down__impl_hitHeap Gq Hc Aw = some r) :
    Cal2 Try.prog 110 [(.iface 124 (pt Gu Gv)), (I Hc), (I Aw)] [Ch.bx Gt Gu Gv [(Sl Gr Gq Gs)] Gw Gx, Ch.own 0 0 (Sl Gr Gq Gs) Gq] (fun n0 v L => ∃ (az1 : Option Addr), ∃ (cz2 : Nat), v = (B r.1) ∧ L = [Ch.bx Gt Gu Gv [(Sl az1 r.2 cz2)] Gw Gx, Ch.own 0 0 (Sl az1 r.2 cz2) r.2]) := by
 refine cal2 (n := 48) Try.func110 rfl rfl rfl rfl ?_
 intro S0 σ0 n0 hn0 H
 unfold M.container_heap_down__impl_hitHeap at h
 refine c_seq (rg (st (v := (B false)) (rv_assign rfl) (w_end (q_then (c_seq (rg (st (v := (I Hc)) (rv_move rfl) (st (v := (I Hc)) (rv_assign rfl) (w_end (q_then (c_seq ?_)))))))))))
 obtain ⟨o1, hj, h'⟩ := bind_some h
 clear h
 refine c_cut (fun e a w => e = .normal ∧ ∃ (ρ : Nat → Value) (σ : St) (aj1 : Option Addr) (cj2 : Nat), a = fr 48 (updL ρ [(0, (.iface 124 (pt Gu Gv))), (1, (I Hc)), (7, (I o1.2))]) ∧ w = σ.w ∧ Hp S0 σ0 σ [Ch.bx Gt Gu Gv [(Sl aj1 o1.1 cj2)] Gw Gx, Ch.own 0 0 (Sl aj1 o1.1 cj2) o1.1]) ?_ ?_
 ·clear h'
  rename _ = some o1 => h
  refine c_blk (wp_loopM _ h (fun s2 a w => ∃ (ρ : Nat → Value) (σ : St) (aj1 : Option Addr) (cj2 : Nat), a = fr 48 (updL ρ [(0, (.iface 124 (pt Gu Gv))), (1, (I Hc)), (2, (I Aw)), (7, (I s2.2))]) ∧ w = σ.w ∧ Hp S0 σ0 σ [Ch.bx Gt Gu Gv [(Sl aj1 s2.1 cj2)] Gw Gx, Ch.own 0 0 (Sl aj1 s2.1 cj2) s2.1]) ⟨_, σ0, Gr, Gs, fr_join ⟨rfl, rfl, rfl, rfl, trivial⟩, rfl, H.sel' [0, 1] rfl rfl⟩ ?_)
  clear h H
  rintro s2 a w o ⟨ρ, σ3, a4, c5, rfl, rfl, H⟩ h hres
  refine c_blk (c_seq (rg (st (v := (I s2.2)) (rv_move rfl) (st (v := (I (w64 (2 * s2.2)))) (rv_mul (a := 2) (b := s2.2) rfl rfl) (st (v := (I (w64 ((w64 (2 * s2.2)) + 1)))) (rv_add (a := (w64 (2 * s2.2))) (b := 1) rfl rfl) (st (v := (I (w64 ((w64 (2 * s2.2)) + 1)))) (rv_assign rfl) (w_end (q_then (c_seq (c_seq ?_))))))))))
  obtain ⟨o6, hj, h'⟩ := bind_some h
  clear h
  refine c_cut (fun e a w => e = .normal ∧ ∃ (ρ : Nat → Value) (σ : St), a = fr 48 (updL ρ [(0, (.iface 124 (pt Gu Gv))), (1, (I Hc)), (2, (I Aw)), (7, (I s2.2)), (8, (I (w64 ((w64 (2 * s2.2)) + 1)))), (21, (B o6))]) ∧ w = σ.w ∧ Hp S0 σ0 σ [Ch.own 0 0 (Sl a4 s2.1 c5) s2.1, Ch.bx Gt Gu Gv [(Sl a4 s2.1 c5)] Gw Gx]) ?_ ?_
  ·clear h'
   rename _ = some o6 => h
   refine rg (st (v := (I (w64 ((w64 (2 * s2.2)) + 1)))) (rv_move rfl) (st (v := (I Aw)) (rv_move rfl) (st (v := (B (decide (Aw ≤ (w64 ((w64 (2 * s2.2)) + 1)))))) (rv_geq (a := (w64 ((w64 (2 * s2.2)) + 1))) (b := Aw) rfl rfl) (st (v := (B (decide (Aw ≤ (w64 ((w64 (2 * s2.2)) + 1)))))) (rv_move rfl) ?_))))
   rcases Bool.eq_false_or_eq_true (decide (Aw ≤ (w64 ((w64 (2 * s2.2)) + 1)))) with hb7 | hb7
   ·replace h := bif_t hb7 h
    refine st_skip (congrArg some hb7) (st_skip (congrArg some hb7) (st (v := (B true)) (rv_pick_t (congrArg B hb7) rfl) (w_end ?_)))
    obtain rfl := Option.some.inj h
    exact ⟨rfl, _, σ3, fr_join ⟨rfl, rfl, rfl, rfl, rfl, rfl, trivial⟩, rfl, H.sel' [1, 0] rfl rfl⟩
   ·replace h := bif_f hb7 h
    refine st_g (v := (I (w64 ((w64 (2 * s2.2)) + 1)))) (congrArg some hb7) (rv_move rfl) (st_g (v := (B (decide ((w64 ((w64 (2 * s2.2)) + 1)) < 0)))) (congrArg some hb7) (rv_lss (a := (w64 ((w64 (2 * s2.2)) + 1))) (b := 0) rfl rfl) (st (v := (B (decide ((w64 ((w64 (2 * s2.2)) + 1)) < 0)))) (rv_pick_f (congrArg B hb7) rfl) (w_end ?_)))
    obtain rfl := Option.some.inj h
    exact ⟨rfl, _, σ3, fr_join ⟨rfl, rfl, rfl, rfl, rfl, rfl, trivial⟩, rfl, H.sel' [1, 0] rfl rfl⟩
  ·clear hj
   have h := h'
   clear h' H
   rintro e a w ⟨rfl, ρ, σ8, rfl, rfl, H⟩
   refine q_then ?_
   refine cd_cond o6 rfl (fun hb9 => ?_) (fun hb9 => ?_)
   ·replace h := bif_t hb9 h
    refine c_exit (q_then_x ?_)
    refine q_blk_x (by decide) ?_
    refine q_then_x (q_blk_hit ?_)
    obtain rfl := Option.some.inj h
    obtain rfl := hres _ rfl
    exact ⟨rfl, _, σ8, a4, c5, fr_join ⟨rfl, rfl, rfl, trivial⟩, rfl, H.sel' [1, 0] rfl rfl⟩
   ·replace h := bif_f hb9 h
    refine c_skip (q_then (c_seq (rg (st (v := (I (w64 ((w64 (2 * s2.2)) + 1)))) (rv_move rfl) (st (v := (I (w64 ((w64 (2 * s2.2)) + 1)))) (rv_assign rfl) (w_end (q_then (c_seq (c_seq (rg (st (v := (I (w64 ((w64 (2 * s2.2)) + 1)))) (rv_move rfl) ?_)))))))))))
    refine st (v := (I (w64 ((w64 ((w64 (2 * s2.2)) + 1)) + 1)))) (rv_add (a := (w64 ((w64 (2 * s2.2)) + 1))) (b := 1) rfl rfl) (st (v := (I (w64 ((w64 ((w64 (2 * s2.2)) + 1)) + 1)))) (rv_assign rfl) (w_end (q_then (c_seq ?_))))
    obtain ⟨o10, hj, h'⟩ := bind_some h
    clear h
    refine c_cut (fun e a w => e = .normal ∧ ∃ (ρ : Nat → Value) (σ : St), a = fr 48 (updL ρ [(0, (.iface 124 (pt Gu Gv))), (1, (I Hc)), (2, (I Aw)), (7, (I s2.2)), (9, (I (w64 ((w64 (2 * s2.2)) + 1)))), (10, (I (w64 ((w64 ((w64 (2 * s2.2)) + 1)) + 1)))), (33, (B o10))]) ∧ w = σ.w ∧ Hp S0 σ0 σ [Ch.own 0 0 (Sl a4 s2.1 c5) s2.1, Ch.bx Gt Gu Gv [(Sl a4 s2.1 c5)] Gw Gx]) ?_ ?_
    ·clear h'
     rename _ = some o10 => h
     refine rg (st (v := (I (w64 ((w64 ((w64 (2 * s2.2)) + 1)) + 1)))) (rv_move rfl) (st (v := (I Aw)) (rv_move rfl) (st (v := (B (decide ((w64 ((w64 ((w64 (2 * s2.2)) + 1)) + 1)) < Aw)))) (rv_lss (a := (w64 ((w64 ((w64 (2 * s2.2)) + 1)) + 1))) (b := Aw) rfl rfl) (st (v := (B (decide ((w64 ((w64 ((w64 (2 * s2.2)) + 1)) + 1)) < Aw)))) (rv_move rfl) ?_))))
     rcases Bool.eq_false_or_eq_true (decide ((w64 ((w64 ((w64 (2 * s2.2)) + 1)) + 1)) < Aw)) with hb11 | hb11
     ·replace h := bif_t hb11 h
      refine st_g (v := (.iface 124 (pt Gu Gv))) (congrArg some hb11) (rv_move rfl) (st_g (v := (I (w64 ((w64 ((w64 (2 * s2.2)) + 1)) + 1)))) (congrArg some hb11) (rv_move rfl) (st_g (v := (I (w64 ((w64 (2 * s2.2)) + 1)))) (congrArg some hb11) (rv_move rfl) ?_))
      obtain ⟨r12, hx13, h'⟩ := bind_some h
      clear h
      have h := h'; clear h'
      have hc14 := c_impl_hitHeap_Less (Gr := a4) (Gs := c5) hx13
      have hle := Nat.le_trans hn0 H.size
      refine st_call (cx_lend (Loan.lend Loan.nil) hc14 (ent_iv hc14.fn (by kernel_rfl) Try.underlying124 Try.underlying74 rfl rfl (H.cell (u := (Sl a4 s2.1 c5)) (o' := Gv) 1 0 rfl rfl rfl) rfl) (show Hp S0 σ0 _ ([Ch.own 0 0 (Sl a4 s2.1 c5) s2.1] ++ ([] ++ [Ch.bx Gt Gu Gv [(Sl a4 s2.1 c5)] Gw Gx])) from (H.sel' [0, 1] rfl rfl)) (by rintro _ _ _ ⟨rfl, rfl⟩; exact trivial)) (wanted_yes rfl (by exact (congrArg some hb11))) ?_
      rintro _ σ15 ⟨_, ⟨rfl, rfl⟩, H, -, -⟩
      replace H : Hp _ _ _ [_, _] := H
      clear hle
      replace H : Hp _ _ _ [_, _] := H
      refine st (v := (B r12)) (rv_pick_t (congrArg B hb11) rfl) (w_end ?_)
      obtain rfl := Option.some.inj h
      exact ⟨rfl, _, σ15, fr_join ⟨rfl, rfl, rfl, rfl, rfl, rfl, rfl, trivial⟩, rfl, H.sel' [0, 1] rfl rfl⟩
     ·replace h := bif_f hb11 h
      refine st_skip (congrArg some hb11) (st_skip (congrArg some hb11) (st_skip (congrArg some hb11) (st_skip (congrArg some hb11) (st (v := (B false)) (rv_pick_f (congrArg B hb11) rfl) (w_end ?_)))))
      obtain rfl := Option.some.inj h
      exact ⟨rfl, _, σ8, fr_join ⟨rfl, rfl, rfl, rfl, rfl, rfl, rfl, trivial⟩, rfl, H.sel' [0, 1] rfl rfl⟩
    ·clear hj
     have h := h'
     clear h' H
     rintro e a w ⟨rfl, ρ, σ16, rfl, rfl, H⟩
     refine q_then ?_
     obtain ⟨o17, hj, h'⟩ := bind_some h
     clear h
     refine c_cut (fun e a w => e = .normal ∧ ∃ (ρ : Nat → Value) (σ : St), a = fr 48 (updL ρ [(0, (.iface 124 (pt Gu Gv))), (1, (I Hc)), (2, (I Aw)), (7, (I s2.2)), (9, (I o17))]) ∧ w = σ.w ∧ Hp S0 σ0 σ [Ch.own 0 0 (Sl a4 s2.1 c5) s2.1, Ch.bx Gt Gu Gv [(Sl a4 s2.1 c5)] Gw Gx]) ?_ ?_
     ·clear h'
      rename _ = some o17 => h
      refine cd_cond o10 rfl (fun hb18 => ?_) (fun hb18 => ?_)
      ·replace h := bif_t hb18 h
       refine rg (st (v := (I (w64 ((w64 ((w64 (2 * s2.2)) + 1)) + 1)))) (rv_move rfl) (st (v := (I (w64 ((w64 ((w64 (2 * s2.2)) + 1)) + 1)))) (rv_assign rfl) (w_end ?_)))
       obtain rfl := Option.some.inj h
       exact ⟨rfl, _, σ16, fr_join ⟨rfl, rfl, rfl, rfl, rfl, trivial⟩, rfl, H.sel' [0, 1] rfl rfl⟩
      ·replace h := bif_f hb18 h
       refine c_skip ?_
       obtain rfl := Option.some.inj h
       exact ⟨rfl, _, σ16, fr_join ⟨rfl, rfl, rfl, rfl, rfl, trivial⟩, rfl, H.sel' [0, 1] rfl rfl⟩
     ·clear hj
      have h := h'
      clear h' H
      rintro e a w ⟨rfl, ρ, σ19, rfl, rfl, H⟩
      refine q_then (c_seq (c_seq (rg (st (v := (.iface 124 (pt Gu Gv))) (rv_move rfl) (st (v := (I o17)) (rv_move rfl) (st (v := (I s2.2)) (rv_move rfl) ?_))))))
      obtain ⟨r20, hx21, h'⟩ := bind_some h
      clear h
      have h := h'; clear h'
      have hc22 := c_impl_hitHeap_Less (Gr := a4) (Gs := c5) hx21
      have hle := Nat.le_trans hn0 H.size
      refine st_call (cx_lend (Loan.lend Loan.nil) hc22 (ent_iv hc22.fn (by kernel_rfl) Try.underlying124 Try.underlying74 rfl rfl (H.cell (u := (Sl a4 s2.1 c5)) (o' := Gv) 1 0 rfl rfl rfl) rfl) (show Hp S0 σ0 _ ([Ch.own 0 0 (Sl a4 s2.1 c5) s2.1] ++ ([] ++ [Ch.bx Gt Gu Gv [(Sl a4 s2.1 c5)] Gw Gx])) from (H.sel' [0, 1] rfl rfl)) (by rintro _ _ _ ⟨rfl, rfl⟩; exact trivial)) wn ?_
      rintro _ σ23 ⟨_, ⟨rfl, rfl⟩, H, -, -⟩
      replace H : Hp _ _ _ [_, _] := H
      clear hle
      replace H : Hp _ _ _ [_, _] := H
      refine st (v := (B (!r20))) (rv_not rfl) (w_end (q_then ?_))
      refine cd_cond (!r20) rfl (fun hb24 => ?_) (fun hb24 => ?_)
      ·replace h := bif_t hb24 h
       refine c_exit (q_then_x ?_)
       refine q_blk_x (by decide) ?_
       refine q_then_x (q_blk_hit ?_)
       obtain rfl := Option.some.inj h
       obtain rfl := hres _ rfl
       exact ⟨rfl, _, σ23, a4, c5, fr_join ⟨rfl, rfl, rfl, trivial⟩, rfl, H.sel' [1, 0] rfl rfl⟩
      ·replace h := bif_f hb24 h
       refine c_skip (q_then (c_seq (rg (st (v := (.iface 124 (pt Gu Gv))) (rv_move rfl) (st (v := (I s2.2)) (rv_move rfl) (st (v := (I o17)) (rv_move rfl) ?_))))))
       obtain ⟨r25, hx26, h'⟩ := bind_some h
       clear h
       have h := h'; clear h'
       have hc27 := c_impl_hitHeap_Swap (Gr := a4) (Gs := c5) hx26
       refine st_call (cx_call hc27 (ent_iv hc27.fn (by kernel_rfl) Try.underlying124 Try.underlying74 rfl rfl (H.cell (u := (Sl a4 s2.1 c5)) (o' := Gv) 1 0 rfl rfl rfl) rfl) hn0 (H.sel' [0, 1] rfl rfl : Hp S0 σ0 _ ([_] ++ _))) wn ?_
       rintro _ σ29 ⟨_, ⟨rfl, rfl, hn28⟩, H, -⟩
       replace H : Hp _ _ _ [_, _] := H
       have hsl : (Sl a4 s2.1 c5) = (Sl a4 r25 c5) := sl_len hn28.symm
       try rw [hsl]
       try rw [hsl] at H
       clear hsl
       refine w_end (q_then (rg (st (v := (I o17)) (rv_move rfl) (st (v := (I o17)) (rv_assign rfl) (w_end (q_blk (q_then ?_)))))))
       obtain rfl := Option.some.inj h
       exact ⟨_, rfl, _, σ29, a4, c5, fr_join ⟨rfl, rfl, rfl, rfl, trivial⟩, rfl, H.sel' [1, 0] rfl rfl⟩
 ·clear hj
  have h := h'
  clear h' H
  rintro e a w ⟨rfl, ρ, σ30, a31, c32, rfl, rfl, H⟩
  refine q_then (c_seq (rg (st (v := (I o1.2)) (rv_move rfl) (st (v := (I Hc)) (rv_move rfl) (st (v := (B (decide (Hc < o1.2)))) (rv_gtr (a := o1.2) (b := Hc) rfl rfl) (st (v := (B (decide (Hc < o1.2)))) (rv_assign rfl) (w_end (q_then (c_ret ?_)))))))))
  obtain rfl := Option.some.inj h
  exact fin_ret (v := (B (decide (Hc < o1.2)))) (results_ok Try.results110 (res_tmp (v := (B (decide (Hc < o1.2)))) rfl res_nil) rfl) ⟨a31, c32, rfl, rfl⟩ (H.sel' [0, 1] rfl rfl)

theorem c_impl_hitHeap_Pop {Gq : List (Int × Int)} {Gr : Option Addr} {Gs : Nat} {Gt Gu Gv : Nat} {Gw Gx : List Value} {r : ((Int) × (Int)) × (List (Int × Int))} (h : M.impl_hitHeap_Pop Gq = some r) :
    Cal2 Try.prog 149 [(pt Gu Gv)] [Ch.bx Gt Gu Gv [(Sl Gr Gq Gs)] Gw Gx, Ch.own 0 0 (Sl Gr Gq Gs) Gq] (fun n0 v L => ∃ (az1 : Option Addr), ∃ (cz2 : Nat), v = (.iface 107 (.agg #[(I r.1.1), (I r.1.2)])) ∧ L = [Ch.bx Gt Gu Gv [(Sl az1 r.2 cz2)] Gw Gx, Ch.own 0 0 (Sl az1 r.2 cz2) r.2]) := by
 refine cal2 (n := 25) Try.func149 rfl rfl rfl rfl ?_
 intro S0 σ0 n0 hn0 H
 unfold M.impl_hitHeap_Pop at h
 refine c_seq (rg (st (v := .nilIface) (rv_assign rfl) (w_end (q_then (c_seq (rg (st (v := (pt Gu Gv)) (rv_move rfl) (st (v := (pt Gu Gv)) (rv_nilCheck rfl) ?_))))))))
 have hc1 := H.cell (u := (Sl Gr Gq Gs)) (o' := Gv) 0 0 rfl rfl rfl
 refine st (v := (Sl Gr Gq Gs)) (rv_load1 Try.underlying74 rfl rfl hc1) (st (v := (I (Gq.length : Int))) (rv_len Try.underlying74 rfl) (st (v := (I (w64 ((Gq.length : Int) - 1)))) (rv_sub (a := (Gq.length : Int)) (b := 1) rfl rfl) (st (v := (I (w64 ((Gq.length : Int) - 1)))) (rv_assign rfl) (w_end (q_then (c_seq (rg (st (v := (pt Gu Gv)) (rv_move rfl) (st (v := (pt Gu Gv)) (rv_nilCheck rfl) ?_)))))))))
 have hc2 := H.cell (u := (Sl Gr Gq Gs)) (o' := Gv) 0 0 rfl rfl rfl
 refine st (v := (Sl Gr Gq Gs)) (rv_load1 Try.underlying74 rfl rfl hc2) (st (v := (I (w64 ((Gq.length : Int) - 1)))) (rv_move rfl) ?_)
 obtain ⟨x3, hx4, h'⟩ := bind_some h
 clear h
 have h := h'; clear h'
 obtain ⟨b6, o7, hi5, -⟩ := (H.own 1 rfl).ix hx4
 refine st (v := (pt b6 o7)) (rv_ix Try.underlying74 ti107 rfl rfl hi5) ?_
 obtain ⟨_, ⟨_, _, rfl, rfl, rfl⟩, hl8, hc9⟩ := ((H.own 1 rfl).at hx4 hi5).cells
 refine st (v := (.agg #[(I x3.1), (I x3.2)])) (rv_load Try.underlying107 rfl ti107 rfl hl8 hc9) (st_ex (ex_alloc (cs := [(I 0), (I 0)]) H hn0 ti107 rfl) wn ?_)
 rintro _ σ11 ⟨b10, rfl, H, -⟩
 refine st_exS (ex_store_box (k := 0) (cs := [(I 0), (I 0)]) (vs := [(I x3.1), (I x3.2)]) (cs' := [(I x3.1), (I x3.2)]) H (i := 0) rfl ti107 rfl rfl rfl rfl rfl (Nat.le_of_ble_eq_true rfl) (by simp [plain]) rfl) wn ?_
 rintro σ12 ⟨H, -⟩
 refine w_end (q_then (c_seq (rg (st (v := (pt Gu Gv)) (rv_move rfl) (st (v := (pt Gu Gv)) (rv_move rfl) (st (v := (pt Gu Gv)) (rv_nilCheck rfl) ?_))))))
 have hc13 := H.cell (u := (Sl Gr Gq Gs)) (o' := Gv) 1 0 rfl rfl rfl
 refine st (v := (Sl Gr Gq Gs)) (rv_load1 Try.underlying74 rfl rfl hc13) (st (v := (I (w64 ((Gq.length : Int) - 1)))) (rv_move rfl) ?_)
 obtain ⟨xs14, hx15, h'⟩ := bind_some h
 clear h
 have h := h'; clear h'
 obtain ⟨a16, c17, hs18, -⟩ := (H.own 2 rfl).slice hx15
 refine st (v := (Sl a16 xs14 c17)) (rv_slice_h Try.underlying74 ti107 hs18 rfl rfl) (st (v := (pt Gu Gv)) (rv_nilCheck rfl) ?_)
 have hv20 := (H.own 2 rfl).view hx15 hs18
 replace H := (H.front (i := 2) rfl).turn (d := Ch.own 0 0 (Sl a16 xs14 c17) xs14) (fun _ => hv20.1) hv20.2; clear hv20
 refine st_exS (ex_store_box (k := 0) (cs := [(Sl Gr Gq Gs)]) (vs := [(Sl a16 xs14 c17)]) (cs' := [(Sl a16 xs14 c17)]) H (i := 2) rfl ti74 rfl rfl rfl rfl rfl (Nat.le_of_ble_eq_true rfl) (by simp [plain]) rfl) wn ?_
 rintro σ21 ⟨H, -⟩
 refine w_end (q_then (c_seq (rg ?_)))
 have hc22 := H.cells 2 rfl
 refine st (v := (.agg #[(I x3.1), (I x3.2)])) (rv_load (cs := [(I x3.1), (I x3.2)]) Try.underlying107 rfl ti107 rfl rfl hc22) (st (v := (.iface 107 (.agg #[(I x3.1), (I x3.2)]))) (rv_makeInterface Try.underlying107 rfl rfl) (st (v := (.iface 107 (.agg #[(I x3.1), (I x3.2)]))) (rv_assign rfl) (w_end (q_then (c_ret ?_)))))
 obtain rfl := Option.some.inj h
 exact fin_ret (v := (.iface 107 (.agg #[(I x3.1), (I x3.2)]))) (results_ok Try.results149 (res_tmp (v := (.iface 107 (.agg #[(I x3.1), (I x3.2)]))) rfl res_nil) rfl) ⟨a16, c17, rfl, rfl⟩ (H.sel' [0, 1] rfl rfl)

theorem c_container_heap_Pop__impl_hitHeap {Gq : List (Int × Int)} {Gr : Option Addr} {Gs : Nat} {Gt Gu Gv : Nat} {Gw Gx : List Value} {r : ((Int) × (Int)) × (List (Int × Int))} (h : M.container_heap_Pop__impl_hitHeap Gq = some r) :
    Cal2 Try.prog 97 [(.iface 124 (pt Gu Gv))] [Ch.bx Gt Gu Gv [(Sl Gr Gq Gs)] Gw Gx, Ch.own 0 0 (Sl Gr Gq Gs) Gq] (fun n0 v L => ∃ (az1 : Option Addr), ∃ (cz2 : Nat), v = (.iface 107 (.agg #[(I r.1.1), (I r.1.2)])) ∧ L = [Ch.bx Gt Gu Gv [(Sl az1 r.2 cz2)] Gw Gx, Ch.own 0 0 (Sl az1 r.2 cz2) r.2]) := by
 refine cal2 (n := 15) Try.func97 rfl rfl rfl rfl ?_
 intro S0 σ0 n0 hn0 H
 unfold M.container_heap_Pop__impl_hitHeap at h
 refine c_seq (rg (st (v := .nilIface) (rv_assign rfl) (w_end (q_then (c_seq (rg (st (v := (.iface 124 (pt Gu Gv))) (rv_move rfl) ?_)))))))
 obtain ⟨r1, hx2, h'⟩ := bind_some h
 clear h
 have h := h'; clear h'
 have hc3 := c_impl_hitHeap_Len (Gr := Gr) (Gs := Gs) hx2
 have hle := Nat.le_trans hn0 H.size
 refine st_call (cx_lend (Loan.lend Loan.nil) hc3 (ent_iv hc3.fn (by kernel_rfl) Try.underlying124 Try.underlying74 rfl rfl (H.cell (u := (Sl Gr Gq Gs)) (o' := Gv) 0 0 rfl rfl rfl) rfl) (show Hp S0 σ0 _ ([Ch.own 0 0 (Sl Gr Gq Gs) Gq] ++ ([] ++ [Ch.bx Gt Gu Gv [(Sl Gr Gq Gs)] Gw Gx])) from (H.sel' [1, 0] rfl rfl)) (by rintro _ _ _ ⟨rfl, rfl⟩; exact trivial)) wn ?_
 rintro _ σ4 ⟨_, ⟨rfl, rfl⟩, H, -, -⟩
 replace H : Hp _ _ _ [_, _] := H
 clear hle
 replace H : Hp _ _ _ [_, _] := H
 refine st (v := (I (w64 (r1 - 1)))) (rv_sub (a := r1) (b := 1) rfl rfl) (st (v := (I (w64 (r1 - 1)))) (rv_assign rfl) (w_end (q_then (c_seq (rg (st (v := (.iface 124 (pt Gu Gv))) (rv_move rfl) (st (v := (I (w64 (r1 - 1)))) (rv_move rfl) ?_)))))))
 obtain ⟨r5, hx6, h'⟩ := bind_some h
 clear h
 have h := h'; clear h'
 have hc7 := c_impl_hitHeap_Swap (Gr := Gr) (Gs := Gs) hx6
 refine st_call (cx_call hc7 (ent_iv hc7.fn (by kernel_rfl) Try.underlying124 Try.underlying74 rfl rfl (H.cell (u := (Sl Gr Gq Gs)) (o' := Gv) 1 0 rfl rfl rfl) rfl) hn0 (H.sel' [0, 1] rfl rfl : Hp S0 σ0 _ ([_] ++ _))) wn ?_
 rintro _ σ9 ⟨_, ⟨rfl, rfl, hn8⟩, H, -⟩
 replace H : Hp _ _ _ [_, _] := H
 have hsl : (Sl Gr Gq Gs) = (Sl Gr r5 Gs) := sl_len hn8.symm
 try rw [hsl]
 try rw [hsl] at H
 clear hsl
 refine w_end (q_then (c_seq (rg (st (v := (.iface 124 (pt Gu Gv))) (rv_move rfl) (st (v := (I (w64 (r1 - 1)))) (rv_move rfl) ?_)))))
 obtain ⟨r10, hx11, h'⟩ := bind_some h
 clear h
 have h := h'; clear h'
 have hc12 := c_container_heap_down__impl_hitHeap (Gt := Gt) (Gu := Gu) (Gv := Gv) (Gw := Gw) (Gx := Gx) (Gr := Gr) (Gs := Gs) hx11
 refine st_call (cx_call hc12 (ent_f hc12.fn rfl) hn0 (H.sel' [1, 0] rfl rfl : Hp S0 σ0 _ ([_, _] ++ _))) wn ?_
 rintro _ σ15 ⟨_, ⟨a13, c14, rfl, rfl⟩, H, -⟩
 replace H : Hp _ _ _ [_, _] := H
 refine w_end (q_then (c_seq (rg (st (v := (.iface 124 (pt Gu Gv))) (rv_move rfl) ?_))))
 obtain ⟨r16, hx17, h'⟩ := bind_some h
 clear h
 have h := h'; clear h'
 have hc18 := c_impl_hitHeap_Pop (Gt := Gt) (Gu := Gu) (Gv := Gv) (Gw := Gw) (Gx := Gx) (Gr := a13) (Gs := c14) hx17
 refine st_call (cx_call hc18 (ent_ip hc18.fn (by kernel_rfl) Try.underlying124 rfl rfl) hn0 (H.sel' [0, 1] rfl rfl : Hp S0 σ0 _ ([_, _] ++ _))) wn ?_
 rintro _ σ21 ⟨_, ⟨a19, c20, rfl, rfl⟩, H, -⟩
 replace H : Hp _ _ _ [_, _] := H
 refine st (v := (.iface 107 (.agg #[(I r16.1.1), (I r16.1.2)]))) (rv_assign rfl) (w_end (q_then (c_ret ?_)))
 obtain rfl := Option.some.inj h
 exact fin_ret (v := (.iface 107 (.agg #[(I r16.1.1), (I r16.1.2)]))) (results_ok Try.results97 (res_tmp (v := (.iface 107 (.agg #[(I r16.1.1), (I r16.1.2)]))) rfl res_nil) rfl) ⟨a19, c20, rfl, rfl⟩ (H.sel' [0, 1] rfl rfl)

theorem c_impl_nearestHits_offer {Ax : Int × (List (Int × Int))} {Hd : Int × Int} {He : Option Addr} {Hf : Nat} {Hg Hh Hi : Nat} {Hj Hk : List Value} {r : (Int × (List (Int × Int)))} (h : M.impl_nearestHits_offer Ax Hd = some r) :
    Cal2 Try.prog 77 [(pt Hh Hi), (.agg #[(I Hd.1), (I Hd.2)])] [Ch.bx Hg Hh Hi [(I Ax.1), (Sl He Ax.2 Hf)] Hj Hk, Ch.own 0 0 (Sl He Ax.2 Hf) Ax.2] (fun n0 v L => ∃ (az1 : Option Addr), ∃ (cz2 : Nat), v = (.tuple #[]) ∧ L = [Ch.bx Hg Hh Hi [(I r.1), (Sl az1 r.2 cz2)] Hj Hk, Ch.own 0 0 (Sl az1 r.2 cz2) r.2]) := by
 refine cal2 (n := 26) Try.func77 rfl rfl rfl rfl ?_
 intro S0 σ0 n0 hn0 H
 unfold M.impl_nearestHits_offer at h
 refine c_seq (rg (st_ex (ex_box (cs := [(I Hd.1), (I Hd.2)]) H hn0 rfl rfl) wn ?_))
 rintro _ σ2 ⟨b1, rfl, H, -⟩
 refine w_end (q_then (c_seq ?_))
 refine rgP (σ := σ2) 6 (by kernel_rfl) (by kernel_rfl) (by kernel_rfl) ?_
 refine sq (v := (pt Hh Hi)) (rv_move rfl) (sq (v := (pt Hh Hi)) (rv_nilCheck rfl) (sq (v := (pt Hh (Hi + 1))) (rv_fieldAddr (off := 1) (ft := 74) Try.underlying76 rfl ti74 rfl rfl) (sq (v := (.iface 124 (pt Hh (Hi + 1)))) (rv_makeInterface Try.underlying124 rfl rfl) ?_)))
 have hc3 := H.cells 0 rfl
 refine sq (v := (.agg #[(I Hd.1), (I Hd.2)])) (rv_load (cs := [(I Hd.1), (I Hd.2)]) Try.underlying107 rfl ti107 rfl rfl hc3) (sq (v := (.iface 107 (.agg #[(I Hd.1), (I Hd.2)]))) (rv_makeInterface Try.underlying107 rfl rfl) (sq_end ?_))
 intro σ4 hm5
 replace H := H.grow (hm5.mono fun _ h => h); clear hm5
 replace H := Hp.focus (c1 := [(I Ax.1)]) (c2 := [(Sl He Ax.2 Hf)]) (c3 := []) (o' := (Hi + 1)) H 1 rfl rfl
 obtain ⟨r6, hx7, h'⟩ := bind_some h
 clear h
 have h := h'; clear h'
 have hc8 := c_container_heap_Push__impl_hitHeap__impl_Hit (Gt := Hg) (Gu := Hh) (Gv := (Hi + 1)) (Gw := (Hj ++ [(I Ax.1)])) (Gx := ([] ++ Hk)) (Gr := He) (Gs := Hf) hx7
 refine st_call (cx_call hc8 (ent_f hc8.fn rfl) hn0 (H.sel' [0, 2, 1] rfl rfl : Hp S0 σ0 _ ([_, _] ++ _))) wn ?_
 rintro _ σ11 ⟨_, ⟨a9, c10, rfl, rfl⟩, H, -⟩
 replace H : Hp _ _ _ [_, _, _] := H
 replace H : Hp S0 σ0 σ11 [Ch.bx Hg Hh Hi [(I Ax.1), (Sl a9 r6 c10)] Hj Hk, Ch.own 0 0 (Sl a9 r6 c10) r6, Ch.bx n0 b1 0 [(I Hd.1), (I Hd.2)] [] []] := Hp.unfocus (o := Hi) (c1 := [(I Ax.1)]) (c2 := [(Sl a9 r6 c10)]) (c3 := []) (pre := Hj) (suf := Hk) H 0 rfl rfl
 refine w_end (q_then (c_seq ?_))
 refine rgP (σ := σ11) 9 (by kernel_rfl) (by kernel_rfl) (by kernel_rfl) ?_
 refine sq (v := (pt Hh Hi)) (rv_move rfl) (sq (v := (pt Hh Hi)) (rv_nilCheck rfl) (sq (v := (pt Hh (Hi + 1))) (rv_fieldAddr (off := 1) (ft := 74) Try.underlying76 rfl ti74 rfl rfl) ?_))
 have hc12 := H.cell (u := (Sl a9 r6 c10)) (o' := (Hi + 1)) 0 1 rfl rfl rfl
 refine sq (v := (Sl a9 r6 c10)) (rv_load1 Try.underlying74 rfl rfl hc12) (sq (v := (I (r6.length : Int))) (rv_len Try.underlying74 rfl) (sq (v := (pt Hh Hi)) (rv_move rfl) (sq (v := (pt Hh Hi)) (rv_nilCheck rfl) (sq (v := (pt Hh Hi)) (rv_fieldAddr (off := 0) (ft := 3) Try.underlying76 rfl ti3 rfl rfl) ?_))))
 have hc13 := H.cell (u := (I Ax.1)) (o' := Hi) 0 0 rfl rfl rfl
 refine sq (v := (I Ax.1)) (rv_load1 Try.underlying3 rfl rfl hc13) (sq_end ?_)
 intro σ14 hm15
 replace H := H.grow (hm15.mono fun _ h => h); clear hm15
 refine st (v := (B (decide (Ax.1 < (r6.length : Int))))) (rv_gtr (a := (r6.length : Int)) (b := Ax.1) rfl rfl) (w_end (q_then ?_))
 refine cd_cond (decide (Ax.1 < (r6.length : Int))) rfl (fun hb16 => ?_) (fun hb16 => ?_)
 ·replace h := bif_t hb16 h
  refine rg (st (v := (pt Hh Hi)) (rv_move rfl) (st (v := (pt Hh Hi)) (rv_nilCheck rfl) (st (v := (pt Hh (Hi + 1))) (rv_fieldAddr (off := 1) (ft := 74) Try.underlying76 rfl ti74 rfl rfl) (st (v := (.iface 124 (pt Hh (Hi + 1)))) (rv_makeInterface Try.underlying124 rfl rfl) ?_))))
  replace H := Hp.focus (c1 := [(I Ax.1)]) (c2 := [(Sl a9 r6 c10)]) (c3 := []) (o' := (Hi + 1)) H 0 rfl rfl
  obtain ⟨r17, hx18, h'⟩ := bind_some h
  clear h
  have h := h'; clear h'
  have hc19 := c_container_heap_Pop__impl_hitHeap (Gt := Hg) (Gu := Hh) (Gv := (Hi + 1)) (Gw := (Hj ++ [(I Ax.1)])) (Gx := ([] ++ Hk)) (Gr := a9) (Gs := c10) hx18
  refine st_call (cx_call hc19 (ent_f hc19.fn rfl) hn0 (H.sel' [0, 1, 2] rfl rfl : Hp S0 σ0 _ ([_, _] ++ _))) wn ?_
  rintro _ σ22 ⟨_, ⟨a20, c21, rfl, rfl⟩, H, -⟩
  replace H : Hp _ _ _ [_, _, _] := H
  replace H : Hp S0 σ0 σ22 [Ch.bx Hg Hh Hi [(I Ax.1), (Sl a20 r17.2 c21)] Hj Hk, Ch.own 0 0 (Sl a20 r17.2 c21) r17.2, Ch.bx n0 b1 0 [(I Hd.1), (I Hd.2)] [] []] := Hp.unfocus (o := Hi) (c1 := [(I Ax.1)]) (c2 := [(Sl a20 r17.2 c21)]) (c3 := []) (pre := Hj) (suf := Hk) H 0 rfl rfl
  refine w_end ?_
  obtain rfl := Option.some.inj h
  exact fin_end (v := (.tuple #[])) (results_ok Try.results77 res_nil rfl) ⟨a20, c21, rfl, rfl⟩ (H.sel' [0, 1] rfl rfl)
 ·replace h := bif_f hb16 h
  refine c_skip ?_
  obtain rfl := Option.some.inj h
  exact fin_end (v := (.tuple #[])) (results_ok Try.results77 res_nil rfl) ⟨a9, c10, rfl, rfl⟩ (H.sel' [0, 1] rfl rfl)

theorem c_impl_branch_turns {Hl : Tr (Int × (List Int) × Int)} {Hm : Int} {Hn : Option Addr} {r : ((Tr (Int × (List Int) × Int)) × Int) × ((Tr (Int × (List Int) × Int)) × Int)} (h : M.impl_branch_turns Hl Hm = some r) :
    Cal2 Try.prog 78 [(.pointer Hn), (I Hm)] [Ch.pr 0 (.pointer Hn) Hl] (fun n0 v L => ∃ (az1 : Option Addr), ∃ (az2 : Option Addr), v = (.tuple #[(.agg #[(.pointer az1), (I r.1.2)]), (.agg #[(.pointer az2), (I r.2.2)])]) ∧ L = [Ch.pr 0 (.pointer az1) r.1.1, Ch.pr 0 (.pointer az2) r.2.1]) := by
 refine cal2 (n := 44) Try.func78 rfl rfl rfl rfl ?_
 intro S0 σ0 n0 hn0 H
 unfold M.impl_branch_turns at h
 refine c_seq (rg (st_ex (ex_alloc (cs := [(.pointer none), (I 0)]) H hn0 ti103 rfl) wn ?_))
 rintro _ σ2 ⟨b1, rfl, H, -⟩
 refine st_ex (ex_alloc (cs := [(.pointer none), (I 0)]) H hn0 ti103 rfl) wn ?_
 rintro _ σ4 ⟨b3, rfl, H, -⟩
 refine w_end (q_then (c_seq (c_seq (rg (st (v := (I Hm)) (rv_move rfl) (st (v := (.pointer Hn)) (rv_move rfl) ?_))))))
 obtain ⟨x5, hx6, h'⟩ := bind_some h
 clear h
 have h := h'; clear h'
 obtain ⟨b8, o9, hi7⟩ := (H.pr 2 rfl).ex hx6
 refine st (v := (pt b8 o9)) (rv_nilCheckT hi7 rfl) (st (v := (pt b8 (o9 + 3))) (rv_fieldAddr (off := 3) (ft := 3) Try.underlying98 rfl ti3 rfl rfl) ?_)
 have hc10 := ((H.pr 2 rfl).at hx6 hi7).snd.fst.int
 refine st (v := (I x5.2.1)) (rv_load1 Try.underlying3 rfl rfl hc10) (st (v := (B (decide (Hm ≤ x5.2.1)))) (rv_leq (a := Hm) (b := x5.2.1) rfl rfl) (w_end (q_then ?_)))
 refine cd_cond (decide (Hm ≤ x5.2.1)) rfl (fun hb11 => ?_) (fun hb11 => ?_)
 ·replace h := bif_t hb11 h
  refine c_seq ?_
  obtain ⟨x12, hx13, h'⟩ := bind_some h
  clear h
  have h := h'; clear h'
  obtain ⟨b15, o16, hi14⟩ := (H.pr 2 rfl).ex hx13
  obtain ⟨v20, hc19, hR18⟩ := ((H.pr 2 rfl).at hx13 hi14).snd.snd.fst.tree
  obtain ⟨a17, rfl⟩ := hR18.isPtr
  replace H := H.add (d := Ch.pr 0 (.pointer a17) x12.2.2.1) hR18 (fun _ h => h)
  clear hR18
  obtain ⟨x21, hx22, h'⟩ := bind_some h
  clear h
  have h := h'; clear h'
  obtain ⟨b24, o25, hi23⟩ := (H.pr 3 rfl).ex hx22
  obtain ⟨v29, hc28, hR27⟩ := ((H.pr 3 rfl).at hx22 hi23).snd.snd.snd.tree
  obtain ⟨a26, rfl⟩ := hR27.isPtr
  replace H := H.add (d := Ch.pr 0 (.pointer a26) x21.2.2.2) hR27 (fun _ h => h)
  clear hR27
  obtain ⟨x30, hx31, h'⟩ := bind_some h
  clear h
  have h := h'; clear h'
  obtain ⟨b33, o34, hi32⟩ := (H.pr 4 rfl).ex hx31
  have hc35 := ((H.pr 4 rfl).at hx31 hi32).snd.fst.int
  have Hs := H
  refine rg2 (σ := σ4) (Nm := Unit) 17 [16] [[false], [true]] [[(0, 0)], [(0, 0)], [(0, 0)], [(0, 0)], [(0, 0)], [(0, 0), (1, 1)], [(0, 0), (1, 1)], [(0, 0), (1, 1)], [(0, 0), (1, 1)], [(0, 0), (1, 1)], [(0, 0), (1, 1)], [(0, 0), (1, 1)], [(0, 0), (1, 1)], [(0, 0), (1, 1)], [(0, 0), (1, 1)], [(0, 0), (1, 1)], [(0, 1)]] 1 [fun _ => fun σm => Hp S0 σ0 σm [Ch.pr 0 (.pointer a26) x21.2.2.2, Ch.pr 0 (.pointer a17) x12.2.2.1, Ch.bx n0 b3 0 [(.pointer none), (I 0)] [] [], Ch.bx n0 b1 0 [(.pointer none), (I 0)] [] [], Ch.pr 0 (.pointer Hn) Hl] ∧ Md (cov []) σ4 σm, fun _ => fun σm => Hp S0 σ0 σm [Ch.bx n0 b1 0 [(.pointer a17), (I 0)] [] [], Ch.pr 0 (.pointer a26) x21.2.2.2, Ch.pr 0 (.pointer a17) x12.2.2.1, Ch.bx n0 b3 0 [(.pointer none), (I 0)] [] [], Ch.pr 0 (.pointer Hn) Hl] ∧ Md (fun i => (cov []) i ∨ (fun i => i = b1) i) σ4 σm] [fun _ => (.pointer Hn), fun _ => (pt b15 o16), fun _ => (pt b15 (o16 + 4)), fun _ => (.pointer a17), fun _ => (.agg #[(.pointer a17), (I 0)]), fun _ => (.pointer Hn), fun _ => (pt b24 o25), fun _ => (pt b24 (o25 + 5)), fun _ => (.pointer a26), fun _ => (.pointer Hn), fun _ => (pt b33 o34), fun _ => (pt b33 (o34 + 3)), fun _ => (I x30.2.1), fun _ => (I Hm), fun _ => (I (w64 (x30.2.1 - Hm))), fun _ => (.agg #[(.pointer a26), (I (w64 (x30.2.1 - Hm)))]), fun _ => undef] () (by kernel_rfl) (by kernel_rfl) ?_ ?_ ?_
  ·intro σm m0
   exact ⟨H.grow (m0.mono fun _ h => h.elim), m0⟩
  ·refine ac rfl (by
     intro k _nm ρ σm hJ hoff hdep
     have e0 := look_off (N := 44) (hoff 0 rfl) rfl
     exact dp_v (v := (.pointer Hn)) wn (rv_move e0) rfl hJ) ?_
   refine ac rfl (by
     intro k _nm ρ σm hJ hoff hdep
     have e12 := hdep 0 rfl rfl 12 rfl
     exact dp_v (v := (pt b15 o16)) wn (rv_nilCheckT hi14 e12) rfl hJ) ?_
   refine ac rfl (by
     intro k _nm ρ σm hJ hoff hdep
     have e13 := hdep 1 rfl rfl 13 rfl
     exact dp_v (v := (pt b15 (o16 + 4))) wn (rv_fieldAddr (off := 4) (ft := 60) Try.underlying98 rfl ti60 rfl e13) rfl hJ) ?_
   refine all_cons (by
     refine ⟨?_, ?_⟩
     ·intro _nm ρ σm hJ hoff hdep
      have e14 := hdep 2 rfl rfl 14 rfl
      obtain ⟨H, m⟩ := id hJ
      replace hc19 := (Hs.pr 4 rfl).hmd hx13 hi14 (k := 4) (by decide) hc19 m
      exact dp_v (v := (.pointer a17)) wn (rv_load1 Try.underlying60 rfl e14 hc19) rfl hJ
     trivial) ?_
   refine ac rfl (by
     intro k _nm ρ σm hJ hoff hdep
     have e15 : look 44 ρ 15 = (.pointer a17) := hdep 3 rfl rfl 15 rfl
     exact dp_v (v := (.agg #[(.pointer a17), (I 0)])) wn (rv_build (ps := [(0, (.pointer a17))]) Try.underlying103 ti103 (bp103 Try.underlying103) (by show [(0, look 44 ρ 15)] = _; rw [e15]) (by kernel_rfl)) rfl hJ) ?_
   refine ac rfl (by
     intro k _nm ρ σm hJ hoff hdep
     have e0 := look_off (N := 44) (hoff 0 rfl) rfl
     exact dp_v (v := (.pointer Hn)) wn (rv_move e0) rfl hJ) ?_
   refine ac rfl (by
     intro k _nm ρ σm hJ hoff hdep
     have e17 := hdep 5 rfl rfl 17 rfl
     exact dp_v (v := (pt b24 o25)) wn (rv_nilCheckT hi23 e17) rfl hJ) ?_
   refine ac rfl (by
     intro k _nm ρ σm hJ hoff hdep
     have e18 := hdep 6 rfl rfl 18 rfl
     exact dp_v (v := (pt b24 (o25 + 5))) wn (rv_fieldAddr (off := 5) (ft := 60) Try.underlying98 rfl ti60 rfl e18) rfl hJ) ?_
   refine all_cons (by
     refine ⟨?_, ?_⟩
     ·intro _nm ρ σm hJ hoff hdep
      have e19 := hdep 7 rfl rfl 19 rfl
      obtain ⟨H, m⟩ := id hJ
      replace hc28 := (Hs.pr 4 rfl).hmd hx22 hi23 (k := 5) (by decide) hc28 m
      exact dp_v (v := (.pointer a26)) wn (rv_load1 Try.underlying60 rfl e19 hc28) rfl hJ
     refine ⟨?_, ?_⟩
     ·intro _nm ρ σm hJ hoff hdep
      have e19 := hdep 7 rfl rfl 19 rfl
      obtain ⟨H, m⟩ := id hJ
      replace hc28 := (Hs.pr 4 rfl).hmd hx22 hi23 (k := 5) (by decide) hc28 m
      exact dp_v (v := (.pointer a26)) wn (rv_load1 Try.underlying60 rfl e19 hc28) rfl hJ
     trivial) ?_
   refine ac rfl (by
     intro k _nm ρ σm hJ hoff hdep
     have e0 := look_off (N := 44) (hoff 0 rfl) rfl
     exact dp_v (v := (.pointer Hn)) wn (rv_move e0) rfl hJ) ?_
   refine ac rfl (by
     intro k _nm ρ σm hJ hoff hdep
     have e21 := hdep 9 rfl rfl 21 rfl
     exact dp_v (v := (pt b33 o34)) wn (rv_nilCheckT hi32 e21) rfl hJ) ?_
   refine ac rfl (by
     intro k _nm ρ σm hJ hoff hdep
     have e22 := hdep 10 rfl rfl 22 rfl
     exact dp_v (v := (pt b33 (o34 + 3))) wn (rv_fieldAddr (off := 3) (ft := 3) Try.underlying98 rfl ti3 rfl e22) rfl hJ) ?_
   refine all_cons (by
     refine ⟨?_, ?_⟩
     ·intro _nm ρ σm hJ hoff hdep
      have e23 := hdep 11 rfl rfl 23 rfl
      obtain ⟨H, m⟩ := id hJ
      replace hc35 := (Hs.pr 4 rfl).hmd hx31 hi32 (k := 3) (by decide) hc35 m
      exact dp_v (v := (I x30.2.1)) wn (rv_load1 Try.underlying3 rfl e23 hc35) rfl hJ
     refine ⟨?_, ?_⟩
     ·intro _nm ρ σm hJ hoff hdep
      have e23 := hdep 11 rfl rfl 23 rfl
      obtain ⟨H, m⟩ := id hJ
      replace hc35 := (Hs.pr 4 rfl).hmd hx31 hi32 (k := 3) (by decide) hc35 m
      exact dp_v (v := (I x30.2.1)) wn (rv_load1 Try.underlying3 rfl e23 hc35) rfl hJ
     trivial) ?_
   refine ac rfl (by
     intro k _nm ρ σm hJ hoff hdep
     have e1 := look_off (N := 44) (hoff 1 rfl) rfl
     exact dp_v (v := (I Hm)) wn (rv_move e1) rfl hJ) ?_
   refine ac rfl (by
     intro k _nm ρ σm hJ hoff hdep
     have e24 := hdep 12 rfl rfl 24 rfl
     have e25 := hdep 13 rfl rfl 25 rfl
     exact dp_v (v := (I (w64 (x30.2.1 - Hm)))) wn (rv_sub (a := x30.2.1) (b := Hm) e24 e25) rfl hJ) ?_
   refine ac rfl (by
     intro k _nm ρ σm hJ hoff hdep
     have e20 : look 44 ρ 20 = (.pointer a26) := hdep 8 rfl rfl 20 rfl
     have e26 : look 44 ρ 26 = (I (w64 (x30.2.1 - Hm))) := hdep 14 rfl rfl 26 rfl
     exact dp_v (v := (.agg #[(.pointer a26), (I (w64 (x30.2.1 - Hm)))])) wn (rv_build (ps := [(0, (.pointer a26)), (1, (I (w64 (x30.2.1 - Hm))))]) Try.underlying103 ti103 (bp103 Try.underlying103) (by show [(0, look 44 ρ 20), (1, look 44 ρ 26)] = _; rw [e20, e26]) (by kernel_rfl)) rfl hJ) ?_
   refine all_cons (by
     refine ⟨?_, ?_⟩
     ·intro _nm ρ σm hJ hoff hdep
      have e4 := look_off (N := 44) (hoff 4 rfl) rfl
      have e16 := hdep 4 rfl rfl 16 rfl
      obtain ⟨H, m⟩ := id hJ
      refine dp_exS wn rfl (ex_store_box (k := 0) (cs := [(.pointer none), (I 0)]) (vs := [(.pointer a17), (I 0)]) (cs' := [(.pointer a17), (I 0)]) H (i := 3) rfl ti103 e4 rfl e16 rfl rfl (Nat.le_of_ble_eq_true rfl) (by simp [plain]) rfl) ?_
      rintro σq ⟨H2, m2⟩
      exact ⟨_, (), rfl, ⟨H2.sel' [0, 1, 2, 3, 4] rfl rfl, m.comp m2⟩, stab [0, 1, 2, 3, 4, 5, 6, 7, 8, 9, 10, 11, 12, 13, 14, 15] (by kernel_rfl) ⟨rfl, rfl, rfl, rfl, rfl, rfl, rfl, rfl, rfl, rfl, rfl, rfl, rfl, rfl, rfl, rfl, trivial⟩⟩
     trivial) ?_
   exact all_nil
  ·intro _nm ρ σ36 hJ hoff hrel
   have e4 := look_off (N := 44) (hoff 4 rfl) rfl
   have e5 := look_off (N := 44) (hoff 5 rfl) rfl
   have e27 := hrel 15 rfl 27 rfl
   obtain ⟨H, -⟩ := (show Hp S0 σ0 σ36 [Ch.bx n0 b1 0 [(.pointer a17), (I 0)] [] [], Ch.pr 0 (.pointer a26) x21.2.2.2, Ch.pr 0 (.pointer a17) x12.2.2.1, Ch.bx n0 b3 0 [(.pointer none), (I 0)] [] [], Ch.pr 0 (.pointer Hn) Hl] ∧ Md (fun i => (cov []) i ∨ (fun i => i = b1) i) σ4 σ36 from hJ)
   clear hJ Hs
   rw [fr_lookL (L := [(4, (pt b1 0)), (5, (pt b3 0)), (27, (.agg #[(.pointer a26), (I (w64 (x30.2.1 - Hm)))]))]) ⟨e4, e5, e27, trivial⟩]
   clear hoff hrel e4 e5 e27
   refine st_exS (ex_store_box (k := 0) (cs := [(.pointer none), (I 0)]) (vs := [(.pointer a26), (I (w64 (x30.2.1 - Hm)))]) (cs' := [(.pointer a26), (I (w64 (x30.2.1 - Hm)))]) H (i := 3) rfl ti103 rfl rfl rfl rfl rfl (Nat.le_of_ble_eq_true rfl) (by simp [plain]) rfl) wn ?_
   rintro σ37 ⟨H, -⟩
   refine w_end (q_then (c_ret (q_then_r ?_)))
   obtain rfl := Option.some.inj h
   exact fin_ret (v := (.tuple #[(.agg #[(.pointer a17), (I 0)]), (.agg #[(.pointer a26), (I (w64 (x30.2.1 - Hm)))])])) (results_ok Try.results78 (res_cell rfl (run_cellRes (cs := [(.pointer a17), (I 0)]) Try.underlying103 rfl ti103 rfl (H.cells 1 rfl)) (res_cell rfl (run_cellRes (cs := [(.pointer a26), (I (w64 (x30.2.1 - Hm)))]) Try.underlying103 rfl ti103 rfl (H.cells 0 rfl)) res_nil)) rfl) ⟨a17, a26, rfl, rfl⟩ (H.sel' [3, 2] rfl rfl)
 ·replace h := bif_f hb11 h
  refine c_skip (q_then (c_seq ?_))
  obtain ⟨x38, hx39, h'⟩ := bind_some h
  clear h
  have h := h'; clear h'
  obtain ⟨b41, o42, hi40⟩ := (H.pr 2 rfl).ex hx39
  obtain ⟨v46, hc45, hR44⟩ := ((H.pr 2 rfl).at hx39 hi40).snd.snd.snd.tree
  obtain ⟨a43, rfl⟩ := hR44.isPtr
  replace H := H.add (d := Ch.pr 0 (.pointer a43) x38.2.2.2) hR44 (fun _ h => h)
  clear hR44
  obtain ⟨x47, hx48, h'⟩ := bind_some h
  clear h
  have h := h'; clear h'
  obtain ⟨b50, o51, hi49⟩ := (H.pr 3 rfl).ex hx48
  obtain ⟨v55, hc54, hR53⟩ := ((H.pr 3 rfl).at hx48 hi49).snd.snd.fst.tree
  obtain ⟨a52, rfl⟩ := hR53.isPtr
  replace H := H.add (d := Ch.pr 0 (.pointer a52) x47.2.2.1) hR53 (fun _ h => h)
  clear hR53
  obtain ⟨x56, hx57, h'⟩ := bind_some h
  clear h
  have h := h'; clear h'
  obtain ⟨b59, o60, hi58⟩ := (H.pr 4 rfl).ex hx57
  have hc61 := ((H.pr 4 rfl).at hx57 hi58).snd.fst.int
  have Hs := H
  refine rg2 (σ := σ4) (Nm := Unit) 17 [16] [[false], [true]] [[(0, 0)], [(0, 0)], [(0, 0)], [(0, 0)], [(0, 0)], [(0, 0), (1, 1)], [(0, 0), (1, 1)], [(0, 0), (1, 1)], [(0, 0), (1, 1)], [(0, 0), (1, 1)], [(0, 0), (1, 1)], [(0, 0), (1, 1)], [(0, 0), (1, 1)], [(0, 0), (1, 1)], [(0, 0), (1, 1)], [(0, 0), (1, 1)], [(0, 1)]] 1 [fun _ => fun σm => Hp S0 σ0 σm [Ch.pr 0 (.pointer a52) x47.2.2.1, Ch.pr 0 (.pointer a43) x38.2.2.2, Ch.bx n0 b3 0 [(.pointer none), (I 0)] [] [], Ch.bx n0 b1 0 [(.pointer none), (I 0)] [] [], Ch.pr 0 (.pointer Hn) Hl] ∧ Md (cov []) σ4 σm, fun _ => fun σm => Hp S0 σ0 σm [Ch.bx n0 b1 0 [(.pointer a43), (I 0)] [] [], Ch.pr 0 (.pointer a52) x47.2.2.1, Ch.pr 0 (.pointer a43) x38.2.2.2, Ch.bx n0 b3 0 [(.pointer none), (I 0)] [] [], Ch.pr 0 (.pointer Hn) Hl] ∧ Md (fun i => (cov []) i ∨ (fun i => i = b1) i) σ4 σm] [fun _ => (.pointer Hn), fun _ => (pt b41 o42), fun _ => (pt b41 (o42 + 5)), fun _ => (.pointer a43), fun _ => (.agg #[(.pointer a43), (I 0)]), fun _ => (.pointer Hn), fun _ => (pt b50 o51), fun _ => (pt b50 (o51 + 4)), fun _ => (.pointer a52), fun _ => (I Hm), fun _ => (.pointer Hn), fun _ => (pt b59 o60), fun _ => (pt b59 (o60 + 3)), fun _ => (I x56.2.1), fun _ => (I (w64 (Hm - x56.2.1))), fun _ => (.agg #[(.pointer a52), (I (w64 (Hm - x56.2.1)))]), fun _ => undef] () (by kernel_rfl) (by kernel_rfl) ?_ ?_ ?_
  ·intro σm m0
   exact ⟨H.grow (m0.mono fun _ h => h.elim), m0⟩
  ·refine ac rfl (by
     intro k _nm ρ σm hJ hoff hdep
     have e0 := look_off (N := 44) (hoff 0 rfl) rfl
     exact dp_v (v := (.pointer Hn)) wn (rv_move e0) rfl hJ) ?_
   refine ac rfl (by
     intro k _nm ρ σm hJ hoff hdep
     have e28 := hdep 0 rfl rfl 28 rfl
     exact dp_v (v := (pt b41 o42)) wn (rv_nilCheckT hi40 e28) rfl hJ) ?_
   refine ac rfl (by
     intro k _nm ρ σm hJ hoff hdep
     have e29 := hdep 1 rfl rfl 29 rfl
     exact dp_v (v := (pt b41 (o42 + 5))) wn (rv_fieldAddr (off := 5) (ft := 60) Try.underlying98 rfl ti60 rfl e29) rfl hJ) ?_
   refine all_cons (by
     refine ⟨?_, ?_⟩
     ·intro _nm ρ σm hJ hoff hdep
      have e30 := hdep 2 rfl rfl 30 rfl
      obtain ⟨H, m⟩ := id hJ
      replace hc45 := (Hs.pr 4 rfl).hmd hx39 hi40 (k := 5) (by decide) hc45 m
      exact dp_v (v := (.pointer a43)) wn (rv_load1 Try.underlying60 rfl e30 hc45) rfl hJ
     trivial) ?_
   refine ac rfl (by
     intro k _nm ρ σm hJ hoff hdep
     have e31 : look 44 ρ 31 = (.pointer a43) := hdep 3 rfl rfl 31 rfl
     exact dp_v (v := (.agg #[(.pointer a43), (I 0)])) wn (rv_build (ps := [(0, (.pointer a43))]) Try.underlying103 ti103 (bp103 Try.underlying103) (by show [(0, look 44 ρ 31)] = _; rw [e31]) (by kernel_rfl)) rfl hJ) ?_
   refine ac rfl (by
     intro k _nm ρ σm hJ hoff hdep
     have e0 := look_off (N := 44) (hoff 0 rfl) rfl
     exact dp_v (v := (.pointer Hn)) wn (rv_move e0) rfl hJ) ?_
   refine ac rfl (by
     intro k _nm ρ σm hJ hoff hdep
     have e33 := hdep 5 rfl rfl 33 rfl
     exact dp_v (v := (pt b50 o51)) wn (rv_nilCheckT hi49 e33) rfl hJ) ?_
   refine ac rfl (by
     intro k _nm ρ σm hJ hoff hdep
     have e34 := hdep 6 rfl rfl 34 rfl
     exact dp_v (v := (pt b50 (o51 + 4))) wn (rv_fieldAddr (off := 4) (ft := 60) Try.underlying98 rfl ti60 rfl e34) rfl hJ) ?_
   refine all_cons (by
     refine ⟨?_, ?_⟩
     ·intro _nm ρ σm hJ hoff hdep
      have e35 := hdep 7 rfl rfl 35 rfl
      obtain ⟨H, m⟩ := id hJ
      replace hc54 := (Hs.pr 4 rfl).hmd hx48 hi49 (k := 4) (by decide) hc54 m
      exact dp_v (v := (.pointer a52)) wn (rv_load1 Try.underlying60 rfl e35 hc54) rfl hJ
     refine ⟨?_, ?_⟩
     ·intro _nm ρ σm hJ hoff hdep
      have e35 := hdep 7 rfl rfl 35 rfl
      obtain ⟨H, m⟩ := id hJ
      replace hc54 := (Hs.pr 4 rfl).hmd hx48 hi49 (k := 4) (by decide) hc54 m
      exact dp_v (v := (.pointer a52)) wn (rv_load1 Try.underlying60 rfl e35 hc54) rfl hJ
     trivial) ?_
   refine ac rfl (by
     intro k _nm ρ σm hJ hoff hdep
     have e1 := look_off (N := 44) (hoff 1 rfl) rfl
     exact dp_v (v := (I Hm)) wn (rv_move e1) rfl hJ) ?_
   refine ac rfl (by
     intro k _nm ρ σm hJ hoff hdep
     have e0 := look_off (N := 44) (hoff 0 rfl) rfl
     exact dp_v (v := (.pointer Hn)) wn (rv_move e0) rfl hJ) ?_
   refine ac rfl (by
     intro k _nm ρ σm hJ hoff hdep
     have e38 := hdep 10 rfl rfl 38 rfl
     exact dp_v (v := (pt b59 o60)) wn (rv_nilCheckT hi58 e38) rfl hJ) ?_
   refine ac rfl (by
     intro k _nm ρ σm hJ hoff hdep
     have e39 := hdep 11 rfl rfl 39 rfl
     exact dp_v (v := (pt b59 (o60 + 3))) wn (rv_fieldAddr (off := 3) (ft := 3) Try.underlying98 rfl ti3 rfl e39) rfl hJ) ?_
   refine all_cons (by
     refine ⟨?_, ?_⟩
     ·intro _nm ρ σm hJ hoff hdep
      have e40 := hdep 12 rfl rfl 40 rfl
      obtain ⟨H, m⟩ := id hJ
      replace hc61 := (Hs.pr 4 rfl).hmd hx57 hi58 (k := 3) (by decide) hc61 m
      exact dp_v (v := (I x56.2.1)) wn (rv_load1 Try.underlying3 rfl e40 hc61) rfl hJ
     refine ⟨?_, ?_⟩
     ·intro _nm ρ σm hJ hoff hdep
      have e40 := hdep 12 rfl rfl 40 rfl
      obtain ⟨H, m⟩ := id hJ
      replace hc61 := (Hs.pr 4 rfl).hmd hx57 hi58 (k := 3) (by decide) hc61 m
      exact dp_v (v := (I x56.2.1)) wn (rv_load1 Try.underlying3 rfl e40 hc61) rfl hJ
     trivial) ?_
   refine ac rfl (by
     intro k _nm ρ σm hJ hoff hdep
     have e37 := hdep 9 rfl rfl 37 rfl
     have e41 := hdep 13 rfl rfl 41 rfl
     exact dp_v (v := (I (w64 (Hm - x56.2.1)))) wn (rv_sub (a := Hm) (b := x56.2.1) e37 e41) rfl hJ) ?_
   refine ac rfl (by
     intro k _nm ρ σm hJ hoff hdep
     have e36 : look 44 ρ 36 = (.pointer a52) := hdep 8 rfl rfl 36 rfl
     have e42 : look 44 ρ 42 = (I (w64 (Hm - x56.2.1))) := hdep 14 rfl rfl 42 rfl
     exact dp_v (v := (.agg #[(.pointer a52), (I (w64 (Hm - x56.2.1)))])) wn (rv_build (ps := [(0, (.pointer a52)), (1, (I (w64 (Hm - x56.2.1))))]) Try.underlying103 ti103 (bp103 Try.underlying103) (by show [(0, look 44 ρ 36), (1, look 44 ρ 42)] = _; rw [e36, e42]) (by kernel_rfl)) rfl hJ) ?_
   refine all_cons (by
     refine ⟨?_, ?_⟩
     ·intro _nm ρ σm hJ hoff hdep
      have e4 := look_off (N := 44) (hoff 4 rfl) rfl
      have e32 := hdep 4 rfl rfl 32 rfl
      obtain ⟨H, m⟩ := id hJ
      refine dp_exS wn rfl (ex_store_box (k := 0) (cs := [(.pointer none), (I 0)]) (vs := [(.pointer a43), (I 0)]) (cs' := [(.pointer a43), (I 0)]) H (i := 3) rfl ti103 e4 rfl e32 rfl rfl (Nat.le_of_ble_eq_true rfl) (by simp [plain]) rfl) ?_
      rintro σq ⟨H2, m2⟩
      exact ⟨_, (), rfl, ⟨H2.sel' [0, 1, 2, 3, 4] rfl rfl, m.comp m2⟩, stab [0, 1, 2, 3, 4, 5, 6, 7, 8, 9, 10, 11, 12, 13, 14, 15] (by kernel_rfl) ⟨rfl, rfl, rfl, rfl, rfl, rfl, rfl, rfl, rfl, rfl, rfl, rfl, rfl, rfl, rfl, rfl, trivial⟩⟩
     trivial) ?_
   exact all_nil
  ·intro _nm ρ σ62 hJ hoff hrel
   have e4 := look_off (N := 44) (hoff 4 rfl) rfl
   have e5 := look_off (N := 44) (hoff 5 rfl) rfl
   have e43 := hrel 15 rfl 43 rfl
   obtain ⟨H, -⟩ := (show Hp S0 σ0 σ62 [Ch.bx n0 b1 0 [(.pointer a43), (I 0)] [] [], Ch.pr 0 (.pointer a52) x47.2.2.1, Ch.pr 0 (.pointer a43) x38.2.2.2, Ch.bx n0 b3 0 [(.pointer none), (I 0)] [] [], Ch.pr 0 (.pointer Hn) Hl] ∧ Md (fun i => (cov []) i ∨ (fun i => i = b1) i) σ4 σ62 from hJ)
   clear hJ Hs
   rw [fr_lookL (L := [(4, (pt b1 0)), (5, (pt b3 0)), (43, (.agg #[(.pointer a52), (I (w64 (Hm - x56.2.1)))]))]) ⟨e4, e5, e43, trivial⟩]
   clear hoff hrel e4 e5 e43
   refine st_exS (ex_store_box (k := 0) (cs := [(.pointer none), (I 0)]) (vs := [(.pointer a52), (I (w64 (Hm - x56.2.1)))]) (cs' := [(.pointer a52), (I (w64 (Hm - x56.2.1)))]) H (i := 3) rfl ti103 rfl rfl rfl rfl rfl (Nat.le_of_ble_eq_true rfl) (by simp [plain]) rfl) wn ?_
   rintro σ63 ⟨H, -⟩
   refine w_end (q_then (c_ret ?_))
   obtain rfl := Option.some.inj h
   exact fin_ret (v := (.tuple #[(.agg #[(.pointer a43), (I 0)]), (.agg #[(.pointer a52), (I (w64 (Hm - x56.2.1)))])])) (results_ok Try.results78 (res_cell rfl (run_cellRes (cs := [(.pointer a43), (I 0)]) Try.underlying103 rfl ti103 rfl (H.cells 1 rfl)) (res_cell rfl (run_cellRes (cs := [(.pointer a52), (I (w64 (Hm - x56.2.1)))]) Try.underlying103 rfl ti103 rfl (H.cells 0 rfl)) res_nil)) rfl) ⟨a43, a52, rfl, rfl⟩ (H.sel' [3, 2] rfl rfl)

theorem c_impl_nearestHits_reach {Ax : Int × (List (Int × Int))} {He : Option Addr} {Hf : Nat} {Hg Hh Hi : Nat} {Hj Hk : List Value} {r : Int} (h : M.impl_nearestHits_reach Ax = some r) :
    Cal2 Try.prog 75 [(pt Hh Hi)] [Ch.bx Hg Hh Hi [(I Ax.1), (Sl He Ax.2 Hf)] Hj Hk, Ch.own 0 0 (Sl He Ax.2 Hf) Ax.2] (fun n0 v L => v = (I r) ∧ L = [Ch.bx Hg Hh Hi [(I Ax.1), (Sl He Ax.2 Hf)] Hj Hk, Ch.own 0 0 (Sl He Ax.2 Hf) Ax.2]) := by
 refine cal2 (n := 20) Try.func75 rfl rfl rfl rfl ?_
 intro S0 σ0 n0 hn0 H
 unfold M.impl_nearestHits_reach at h
 refine c_seq (rg (st (v := (I 0)) (rv_assign rfl) (w_end (q_then (c_seq (c_seq ?_))))))
 refine rgP (σ := σ0) 9 (by kernel_rfl) (by kernel_rfl) (by kernel_rfl) ?_
 refine sq (v := (pt Hh Hi)) (rv_move rfl) (sq (v := (pt Hh Hi)) (rv_nilCheck rfl) (sq (v := (pt Hh (Hi + 1))) (rv_fieldAddr (off := 1) (ft := 74) Try.underlying76 rfl ti74 rfl rfl) ?_))
 have hc1 := H.cell (u := (Sl He Ax.2 Hf)) (o' := (Hi + 1)) 0 1 rfl rfl rfl
 refine sq (v := (Sl He Ax.2 Hf)) (rv_load1 Try.underlying74 rfl rfl hc1) (sq (v := (I (Ax.2.length : Int))) (rv_len Try.underlying74 rfl) (sq (v := (pt Hh Hi)) (rv_move rfl) (sq (v := (pt Hh Hi)) (rv_nilCheck rfl) (sq (v := (pt Hh Hi)) (rv_fieldAddr (off := 0) (ft := 3) Try.underlying76 rfl ti3 rfl rfl) ?_))))
 have hc2 := H.cell (u := (I Ax.1)) (o' := Hi) 0 0 rfl rfl rfl
 refine sq (v := (I Ax.1)) (rv_load1 Try.underlying3 rfl rfl hc2) (sq_end ?_)
 intro σ3 hm4
 replace H := H.grow (hm4.mono fun _ h => h); clear hm4
 refine st (v := (B (decide ((Ax.2.length : Int) < Ax.1)))) (rv_lss (a := (Ax.2.length : Int)) (b := Ax.1) rfl rfl) (w_end (q_then ?_))
 refine cd_cond (decide ((Ax.2.length : Int) < Ax.1)) rfl (fun hb5 => ?_) (fun hb5 => ?_)
 ·replace h := bif_t hb5 h
  refine c_seq (rg (st (v := (I 1000000)) (rv_assign rfl) (w_end (q_then (c_ret (q_then_r ?_))))))
  obtain rfl := Option.some.inj h
  exact fin_ret (v := (I 1000000)) (results_ok Try.results75 (res_tmp (v := (I 1000000)) rfl res_nil) rfl) ⟨rfl, rfl⟩ (H.sel' [0, 1] rfl rfl)
 ·replace h := bif_f hb5 h
  refine c_skip (q_then (c_seq (rg (st (v := (pt Hh Hi)) (rv_move rfl) (st (v := (pt Hh Hi)) (rv_nilCheck rfl) (st (v := (pt Hh (Hi + 1))) (rv_fieldAddr (off := 1) (ft := 74) Try.underlying76 rfl ti74 rfl rfl) ?_))))))
  have hc6 := H.cell (u := (Sl He Ax.2 Hf)) (o' := (Hi + 1)) 0 1 rfl rfl rfl
  refine st (v := (Sl He Ax.2 Hf)) (rv_load1 Try.underlying74 rfl rfl hc6) ?_
  obtain ⟨x7, hx8, h'⟩ := bind_some h
  clear h
  have h := h'; clear h'
  obtain ⟨b10, o11, hi9, -⟩ := (H.own 1 rfl).ix hx8
  refine st (v := (pt b10 o11)) (rv_ix Try.underlying74 ti107 rfl rfl hi9) (st (v := (pt b10 (o11 + 1))) (rv_fieldAddr (off := 1) (ft := 3) Try.underlying107 rfl ti3 rfl rfl) ?_)
  have hc12 := ((H.own 1 rfl).at hx8 hi9).snd.int
  refine st (v := (I x7.2)) (rv_load1 Try.underlying3 rfl rfl hc12) (st (v := (I x7.2)) (rv_assign rfl) (w_end (q_then (c_ret ?_))))
  obtain rfl := Option.some.inj h
  exact fin_ret (v := (I x7.2)) (results_ok Try.results75 (res_tmp (v := (I x7.2)) rfl res_nil) rfl) ⟨rfl, rfl⟩ (H.sel' [0, 1] rfl rfl)

end Go.Vs
