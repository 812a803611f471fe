/- The functions compute what their models say. -/
import Derived.Test.YtflpjndobffkjaaKIsTreeOfC4
set_option linter.unusedVariables false
set_option linter.unusedSimpArgs false
set_option maxRecDepth 20000
namespace Go.Vs
open Go Go.Proofs
attribute [local irreducible] Code.wp Code.wpIn wpList wpListIn wpQuiet Calls CallsIn

theorem c_slices_pdqsortCmpFunc_impl_Item__impl_sortByDistance_1 : ∀ (fuel : Nat) {data_0 : List (Int × (List Int) × Int)} {a_1 : Int} {b_2 : Int} {limit_3 : Int} {cmp_4_0 : Int} {cmp_4_1 : List Int} {adata_0 : Option Addr} {cdata_0 : Nat} {locmp_4_0 bcmp_4_0 ocmp_4_0 : Nat} {precmp_4_0 sufcmp_4_0 : List Value} {acmp_4_1 : Option Addr} {ccmp_4_1 : Nat} {locmp_4_1 bcmp_4_1 ocmp_4_1 : Nat} {precmp_4_1 sufcmp_4_1 : List Value} {r : (List (Int × (List Int) × Int))} (h : M.slices_pdqsortCmpFunc_impl_Item__impl_sortByDistance_1 fuel data_0 a_1 b_2 limit_3 cmp_4_0 cmp_4_1 = some r),
    Cal2 Try.prog 104 [(Sl adata_0 data_0 cdata_0), (I a_1), (I b_2), (I limit_3), (.func (.func 88) #[] #[(pt bcmp_4_0 ocmp_4_0), (pt bcmp_4_1 ocmp_4_1)])] [Ch.own 0 0 (Sl adata_0 data_0 cdata_0) data_0, Ch.bx locmp_4_0 bcmp_4_0 ocmp_4_0 [(I cmp_4_0)] precmp_4_0 sufcmp_4_0, Ch.bx locmp_4_1 bcmp_4_1 ocmp_4_1 [(Sl acmp_4_1 cmp_4_1 ccmp_4_1)] precmp_4_1 sufcmp_4_1, Ch.ro 0 (Sl acmp_4_1 cmp_4_1 ccmp_4_1) cmp_4_1] (fun n0 v L => v = (.tuple #[]) ∧ L = [Ch.own 0 0 (Sl adata_0 r cdata_0) r, Ch.bx locmp_4_0 bcmp_4_0 ocmp_4_0 [(I cmp_4_0)] precmp_4_0 sufcmp_4_0, Ch.bx locmp_4_1 bcmp_4_1 ocmp_4_1 [(Sl acmp_4_1 cmp_4_1 ccmp_4_1)] precmp_4_1 sufcmp_4_1] ∧ r.length = data_0.length) := by
 intro fuel
 induction fuel with
 | zero => intro _ _ _ _ _ _ _ _ _ _ _ _ _ _ _ _ _ _ _ _ r h; cases h
 | succ fuel ih =>
 ·intro data_0 a_1 b_2 limit_3 cmp_4_0 cmp_4_1 adata_0 cdata_0 locmp_4_0 bcmp_4_0 ocmp_4_0 precmp_4_0 sufcmp_4_0 acmp_4_1 ccmp_4_1 locmp_4_1 bcmp_4_1 ocmp_4_1 precmp_4_1 sufcmp_4_1 r h
  replace h : M.slices_pdqsortCmpFunc_impl_Item__impl_sortByDistance_1_F (M.slices_pdqsortCmpFunc_impl_Item__impl_sortByDistance_1 fuel) data_0 a_1 b_2 limit_3 cmp_4_0 cmp_4_1 = some r := h
  refine cal2 (n := 148) Try.func104 rfl rfl rfl rfl ?_
  intro S0 σ0 n0 hn0 H
  unfold M.slices_pdqsortCmpFunc_impl_Item__impl_sortByDistance_1_F at h
  refine c_seq ?_
  refine rg ?_
  refine st (v := (B true)) (rv_assign rfl) ?_
  refine w_end ?_
  refine q_then ?_
  refine c_seq ?_
  refine rg ?_
  refine st (v := (B true)) (rv_assign rfl) ?_
  refine w_end ?_
  refine q_then ?_
  obtain ⟨o1, hj, h'⟩ := bind_some h
  clear h
  refine c_cut (fun e a w => e = .ret ∧ ∃ (ρ : Nat → Value) (σ : St), a = fr 148 (updL ρ [(0, (Sl adata_0 o1 cdata_0)), (4, (.func (.func 88) #[] #[(pt bcmp_4_0 ocmp_4_0), (pt bcmp_4_1 ocmp_4_1)]))]) ∧ w = σ.w ∧ Hp S0 σ0 σ [Ch.own 0 0 (Sl adata_0 o1 cdata_0) o1, Ch.bx locmp_4_0 bcmp_4_0 ocmp_4_0 [(I cmp_4_0)] precmp_4_0 sufcmp_4_0, Ch.ro 0 (Sl acmp_4_1 cmp_4_1 ccmp_4_1) cmp_4_1, Ch.bx locmp_4_1 bcmp_4_1 ocmp_4_1 [(Sl acmp_4_1 cmp_4_1 ccmp_4_1)] precmp_4_1 sufcmp_4_1] ∧ o1.length = data_0.length) ?_ ?_
  ·clear h'
   rename _ = some o1 => h
   refine c_blk ?_
   refine wp_loopM _ h (fun s2 a w => ∃ (ρ : Nat → Value) (σ : St), a = fr 148 (updL ρ [(0, (Sl adata_0 s2.1 cdata_0)), (1, (I s2.2.1)), (2, (I s2.2.2.1)), (3, (I s2.2.2.2.1)), (4, (.func (.func 88) #[] #[(pt bcmp_4_0 ocmp_4_0), (pt bcmp_4_1 ocmp_4_1)])), (10, (B s2.2.2.2.2.1)), (11, (B s2.2.2.2.2.2))]) ∧ w = σ.w ∧ Hp S0 σ0 σ [Ch.own 0 0 (Sl adata_0 s2.1 cdata_0) s2.1, Ch.bx locmp_4_0 bcmp_4_0 ocmp_4_0 [(I cmp_4_0)] precmp_4_0 sufcmp_4_0, Ch.ro 0 (Sl acmp_4_1 cmp_4_1 ccmp_4_1) cmp_4_1, Ch.bx locmp_4_1 bcmp_4_1 ocmp_4_1 [(Sl acmp_4_1 cmp_4_1 ccmp_4_1)] precmp_4_1 sufcmp_4_1] ∧ s2.1.length = data_0.length) ⟨_, σ0, fr_join ⟨rfl, rfl, rfl, rfl, rfl, rfl, rfl, trivial⟩, rfl, H.sel' [0, 1, 3, 2] rfl rfl, rfl⟩ ?_
   clear h H
   rintro s2 a w o ⟨ρ, σ3, rfl, rfl, H, hn4⟩ h hres
   refine c_blk ?_
   refine c_seq ?_
   refine rg ?_
   refine st (v := (I s2.2.2.1)) (rv_move rfl) ?_
   refine st (v := (I s2.2.1)) (rv_move rfl) ?_
   refine st (v := (I (w64 (s2.2.2.1 - s2.2.1)))) (rv_sub (a := s2.2.2.1) (b := s2.2.1) rfl rfl) ?_
   refine st (v := (I (w64 (s2.2.2.1 - s2.2.1)))) (rv_assign rfl) ?_
   refine w_end ?_
   refine q_then ?_
   refine c_seq ?_
   refine c_seq ?_
   refine rg ?_
   refine st (v := (I (w64 (s2.2.2.1 - s2.2.1)))) (rv_move rfl) ?_
   refine st (v := (B (decide ((w64 (s2.2.2.1 - s2.2.1)) ≤ 12)))) (rv_leq (a := (w64 (s2.2.2.1 - s2.2.1))) (b := 12) rfl rfl) ?_
   refine w_end ?_
   refine q_then ?_
   refine cd_cond (decide ((w64 (s2.2.2.1 - s2.2.1)) ≤ 12)) rfl (fun hb5 => ?_) (fun hb5 => ?_)
   ·replace h := bif_t hb5 h
    refine c_seq ?_
    refine rg ?_
    refine st (v := (Sl adata_0 s2.1 cdata_0)) (rv_move rfl) ?_
    refine st (v := (I s2.2.1)) (rv_move rfl) ?_
    refine st (v := (I s2.2.2.1)) (rv_move rfl) ?_
    refine st (v := (.func (.func 88) #[] #[(pt bcmp_4_0 ocmp_4_0), (pt bcmp_4_1 ocmp_4_1)])) (rv_move rfl) ?_
    obtain ⟨r6, hx7, h'⟩ := bind_some h
    clear h
    have h := h'; clear h'
    have hc8 := c_slices_insertionSortCmpFunc_impl_Item__impl_sortByDistance_1 (adata_0 := adata_0) (cdata_0 := cdata_0) (locmp_3_0 := locmp_4_0) (bcmp_3_0 := bcmp_4_0) (ocmp_3_0 := ocmp_4_0) (precmp_3_0 := precmp_4_0) (sufcmp_3_0 := sufcmp_4_0) (locmp_3_1 := locmp_4_1) (bcmp_3_1 := bcmp_4_1) (ocmp_3_1 := ocmp_4_1) (precmp_3_1 := precmp_4_1) (sufcmp_3_1 := sufcmp_4_1) (acmp_3_1 := acmp_4_1) (ccmp_3_1 := ccmp_4_1) hx7
    refine st_call (cx_call hc8 (ent_f hc8.fn rfl) hn0 (H.sel' [0, 1, 3, 2, 2] rfl rfl : Hp S0 σ0 _ ([_, _, _, _] ++ _))) (wanted_none _ rfl _) ?_
    rintro _ σ10 ⟨_, ⟨rfl, rfl, hn9⟩, H, -⟩
    replace H : Hp S0 σ0 σ10 [Ch.own 0 0 (Sl adata_0 r6 cdata_0) r6, Ch.bx locmp_4_0 bcmp_4_0 ocmp_4_0 [(I cmp_4_0)] precmp_4_0 sufcmp_4_0, Ch.bx locmp_4_1 bcmp_4_1 ocmp_4_1 [(Sl acmp_4_1 cmp_4_1 ccmp_4_1)] precmp_4_1 sufcmp_4_1, Ch.ro 0 (Sl acmp_4_1 cmp_4_1 ccmp_4_1) cmp_4_1] := H
    have hsl : (Sl adata_0 s2.1 cdata_0) = (Sl adata_0 r6 cdata_0) := sl_len hn9.symm
    try rw [hsl]
    try rw [hsl] at H
    clear hsl
    refine w_end ?_
    refine q_then ?_
    refine c_ret ?_
    refine q_then_r ?_
    refine q_blk_r ?_
    refine q_then_r ?_
    refine q_blk_r ?_
    obtain rfl := Option.some.inj h
    obtain rfl := hres _ rfl
    exact ⟨rfl, _, σ10, fr_join ⟨rfl, rfl, trivial⟩, rfl, H.sel' [0, 1, 3, 2] rfl rfl, (hn9.trans hn4)⟩
   ·replace h := bif_f hb5 h
    refine c_skip ?_
    refine q_then ?_
    refine c_seq ?_
    refine c_seq ?_
    refine rg ?_
    refine st (v := (I s2.2.2.2.1)) (rv_move rfl) ?_
    refine st (v := (B (s2.2.2.2.1 == 0))) (rv_eql (a := s2.2.2.2.1) (b := 0) rfl rfl) ?_
    refine w_end ?_
    refine q_then ?_
    refine cd_cond (s2.2.2.2.1 == 0) rfl (fun hb11 => ?_) (fun hb11 => ?_)
    ·replace h := bif_t hb11 h
     refine c_seq ?_
     refine rg ?_
     refine st (v := (Sl adata_0 s2.1 cdata_0)) (rv_move rfl) ?_
     refine st (v := (I s2.2.1)) (rv_move rfl) ?_
     refine st (v := (I s2.2.2.1)) (rv_move rfl) ?_
     refine st (v := (.func (.func 88) #[] #[(pt bcmp_4_0 ocmp_4_0), (pt bcmp_4_1 ocmp_4_1)])) (rv_move rfl) ?_
     obtain ⟨r12, hx13, h'⟩ := bind_some h
     clear h
     have h := h'; clear h'
     have hc14 := c_slices_heapSortCmpFunc_impl_Item__impl_sortByDistance_1 (adata_0 := adata_0) (cdata_0 := cdata_0) (locmp_3_0 := locmp_4_0) (bcmp_3_0 := bcmp_4_0) (ocmp_3_0 := ocmp_4_0) (precmp_3_0 := precmp_4_0) (sufcmp_3_0 := sufcmp_4_0) (locmp_3_1 := locmp_4_1) (bcmp_3_1 := bcmp_4_1) (ocmp_3_1 := ocmp_4_1) (precmp_3_1 := precmp_4_1) (sufcmp_3_1 := sufcmp_4_1) (acmp_3_1 := acmp_4_1) (ccmp_3_1 := ccmp_4_1) hx13
     refine st_call (cx_call hc14 (ent_f hc14.fn rfl) hn0 (H.sel' [0, 1, 3, 2, 2] rfl rfl : Hp S0 σ0 _ ([_, _, _, _] ++ _))) (wanted_none _ rfl _) ?_
     rintro _ σ16 ⟨_, ⟨rfl, rfl, hn15⟩, H, -⟩
     replace H : Hp S0 σ0 σ16 [Ch.own 0 0 (Sl adata_0 r12 cdata_0) r12, Ch.bx locmp_4_0 bcmp_4_0 ocmp_4_0 [(I cmp_4_0)] precmp_4_0 sufcmp_4_0, Ch.bx locmp_4_1 bcmp_4_1 ocmp_4_1 [(Sl acmp_4_1 cmp_4_1 ccmp_4_1)] precmp_4_1 sufcmp_4_1, Ch.ro 0 (Sl acmp_4_1 cmp_4_1 ccmp_4_1) cmp_4_1] := H
     have hsl : (Sl adata_0 s2.1 cdata_0) = (Sl adata_0 r12 cdata_0) := sl_len hn15.symm
     try rw [hsl]
     try rw [hsl] at H
     clear hsl
     refine w_end ?_
     refine q_then ?_
     refine c_ret ?_
     refine q_then_r ?_
     refine q_blk_r ?_
     refine q_then_r ?_
     refine q_blk_r ?_
     obtain rfl := Option.some.inj h
     obtain rfl := hres _ rfl
     exact ⟨rfl, _, σ16, fr_join ⟨rfl, rfl, trivial⟩, rfl, H.sel' [0, 1, 3, 2] rfl rfl, (hn15.trans hn4)⟩
    ·replace h := bif_f hb11 h
     refine c_skip ?_
     refine q_then ?_
     refine c_seq ?_
     refine c_seq ?_
     refine rg ?_
     refine st (v := (B s2.2.2.2.2.1)) (rv_move rfl) ?_
     refine st (v := (B (!s2.2.2.2.2.1))) (rv_not rfl) ?_
     refine w_end ?_
     refine q_then ?_
     obtain ⟨o17, hj, h'⟩ := bind_some h
     clear h
     refine c_cut (fun e a w => e = .normal ∧ ∃ (ρ : Nat → Value) (σ : St), a = fr 148 (updL ρ [(0, (Sl adata_0 o17.1 cdata_0)), (1, (I s2.2.1)), (2, (I s2.2.2.1)), (3, (I o17.2)), (4, (.func (.func 88) #[] #[(pt bcmp_4_0 ocmp_4_0), (pt bcmp_4_1 ocmp_4_1)])), (10, (B s2.2.2.2.2.1)), (11, (B s2.2.2.2.2.2)), (12, (I (w64 (s2.2.2.1 - s2.2.1))))]) ∧ w = σ.w ∧ Hp S0 σ0 σ [Ch.own 0 0 (Sl adata_0 o17.1 cdata_0) o17.1, Ch.bx locmp_4_0 bcmp_4_0 ocmp_4_0 [(I cmp_4_0)] precmp_4_0 sufcmp_4_0, Ch.ro 0 (Sl acmp_4_1 cmp_4_1 ccmp_4_1) cmp_4_1, Ch.bx locmp_4_1 bcmp_4_1 ocmp_4_1 [(Sl acmp_4_1 cmp_4_1 ccmp_4_1)] precmp_4_1 sufcmp_4_1] ∧ o17.1.length = s2.1.length) ?_ ?_
     ·clear h'
      rename _ = some o17 => h
      refine cd_cond (!s2.2.2.2.2.1) rfl (fun hb18 => ?_) (fun hb18 => ?_)
      ·replace h := bif_t hb18 h
       refine c_seq ?_
       refine rg ?_
       refine st (v := (Sl adata_0 s2.1 cdata_0)) (rv_move rfl) ?_
       refine st (v := (I s2.2.1)) (rv_move rfl) ?_
       refine st (v := (I s2.2.2.1)) (rv_move rfl) ?_
       refine st (v := (.func (.func 88) #[] #[(pt bcmp_4_0 ocmp_4_0), (pt bcmp_4_1 ocmp_4_1)])) (rv_move rfl) ?_
       obtain ⟨r19, hx20, h'⟩ := bind_some h
       clear h
       have h := h'; clear h'
       have hc21 := c_slices_breakPatternsCmpFunc_impl_Item__impl_sortByDistance_1 (adata_0 := adata_0) (cdata_0 := cdata_0) (locmp_3_0 := locmp_4_0) (bcmp_3_0 := bcmp_4_0) (ocmp_3_0 := ocmp_4_0) (precmp_3_0 := precmp_4_0) (sufcmp_3_0 := sufcmp_4_0) (locmp_3_1 := locmp_4_1) (bcmp_3_1 := bcmp_4_1) (ocmp_3_1 := ocmp_4_1) (precmp_3_1 := precmp_4_1) (sufcmp_3_1 := sufcmp_4_1) (acmp_3_1 := acmp_4_1) (ccmp_3_1 := ccmp_4_1) hx20
       refine st_call (cx_call hc21 (ent_f hc21.fn rfl) hn0 (H.sel' [0, 1, 3, 2, 2] rfl rfl : Hp S0 σ0 _ ([_, _, _, _] ++ _))) (wanted_none _ rfl _) ?_
       rintro _ σ23 ⟨_, ⟨rfl, rfl, hn22⟩, H, -⟩
       replace H : Hp S0 σ0 σ23 [Ch.own 0 0 (Sl adata_0 r19 cdata_0) r19, Ch.bx locmp_4_0 bcmp_4_0 ocmp_4_0 [(I cmp_4_0)] precmp_4_0 sufcmp_4_0, Ch.bx locmp_4_1 bcmp_4_1 ocmp_4_1 [(Sl acmp_4_1 cmp_4_1 ccmp_4_1)] precmp_4_1 sufcmp_4_1, Ch.ro 0 (Sl acmp_4_1 cmp_4_1 ccmp_4_1) cmp_4_1] := H
       have hsl : (Sl adata_0 s2.1 cdata_0) = (Sl adata_0 r19 cdata_0) := sl_len hn22.symm
       try rw [hsl]
       try rw [hsl] at H
       clear hsl
       refine w_end ?_
       refine q_then ?_
       refine rg ?_
       refine st (v := (I s2.2.2.2.1)) (rv_move rfl) ?_
       refine st (v := (I (w64 (s2.2.2.2.1 - 1)))) (rv_sub (a := s2.2.2.2.1) (b := 1) rfl rfl) ?_
       refine st (v := (I (w64 (s2.2.2.2.1 - 1)))) (rv_assign rfl) ?_
       refine w_end ?_
       obtain rfl := Option.some.inj h
       exact ⟨rfl, _, σ23, fr_join ⟨rfl, rfl, rfl, rfl, rfl, rfl, rfl, rfl, trivial⟩, rfl, H.sel' [0, 1, 3, 2] rfl rfl, ((hn22.trans hn4).trans hn4.symm)⟩
      ·replace h := bif_f hb18 h
       refine c_skip ?_
       obtain rfl := Option.some.inj h
       exact ⟨rfl, _, σ3, fr_join ⟨rfl, rfl, rfl, rfl, rfl, rfl, rfl, rfl, trivial⟩, rfl, H.sel' [0, 1, 2, 3] rfl rfl, rfl⟩
     ·clear hj
      have h := h'
      clear h' H
      rintro e a w ⟨rfl, ρ, σ24, rfl, rfl, H, hn25⟩
      refine q_then ?_
      refine c_seq ?_
      refine rg ?_
      refine st (v := (Sl adata_0 o17.1 cdata_0)) (rv_move rfl) ?_
      refine st (v := (I s2.2.1)) (rv_move rfl) ?_
      refine st (v := (I s2.2.2.1)) (rv_move rfl) ?_
      refine st (v := (.func (.func 88) #[] #[(pt bcmp_4_0 ocmp_4_0), (pt bcmp_4_1 ocmp_4_1)])) (rv_move rfl) ?_
      obtain ⟨r26, hx27, h'⟩ := bind_some h
      clear h
      have h := h'; clear h'
      have hc28 := c_slices_choosePivotCmpFunc_impl_Item__impl_sortByDistance_1 (adata_0 := adata_0) (cdata_0 := cdata_0) (locmp_3_0 := locmp_4_0) (bcmp_3_0 := bcmp_4_0) (ocmp_3_0 := ocmp_4_0) (precmp_3_0 := precmp_4_0) (sufcmp_3_0 := sufcmp_4_0) (locmp_3_1 := locmp_4_1) (bcmp_3_1 := bcmp_4_1) (ocmp_3_1 := ocmp_4_1) (precmp_3_1 := precmp_4_1) (sufcmp_3_1 := sufcmp_4_1) (acmp_3_1 := acmp_4_1) (ccmp_3_1 := ccmp_4_1) hx27
      have hle := Nat.le_trans hn0 H.size
      refine st_call (cx_lend (Loan.lend (Loan.same (Loan.same (Loan.same Loan.nil)))) hc28 (ent_f hc28.fn rfl) (show Hp S0 σ0 _ ([Ch.own 0 0 (Sl adata_0 o17.1 cdata_0) o17.1] ++ ([Ch.bx locmp_4_0 bcmp_4_0 ocmp_4_0 [(I cmp_4_0)] precmp_4_0 sufcmp_4_0, Ch.bx locmp_4_1 bcmp_4_1 ocmp_4_1 [(Sl acmp_4_1 cmp_4_1 ccmp_4_1)] precmp_4_1 sufcmp_4_1, Ch.ro 0 (Sl acmp_4_1 cmp_4_1 ccmp_4_1) cmp_4_1] ++ [Ch.ro 0 (Sl acmp_4_1 cmp_4_1 ccmp_4_1) cmp_4_1])) from (H.sel' [0, 1, 3, 2, 2] rfl rfl)) (by rintro _ _ _ ⟨rfl, rfl⟩; exact ⟨Ab.bx, Ab.bx, trivial⟩)) (wanted_none _ rfl _) ?_
      rintro _ σ29 ⟨_, ⟨rfl, rfl⟩, H, -, -⟩
      replace H : Hp S0 σ0 σ29 [Ch.bx locmp_4_0 bcmp_4_0 ocmp_4_0 [(I cmp_4_0)] precmp_4_0 sufcmp_4_0, Ch.bx locmp_4_1 bcmp_4_1 ocmp_4_1 [(Sl acmp_4_1 cmp_4_1 ccmp_4_1)] precmp_4_1 sufcmp_4_1, Ch.own 0 0 (Sl adata_0 o17.1 cdata_0) o17.1, Ch.ro 0 (Sl acmp_4_1 cmp_4_1 ccmp_4_1) cmp_4_1] := H
      clear hle
      replace H : Hp S0 σ0 σ29 [Ch.bx locmp_4_0 bcmp_4_0 ocmp_4_0 [(I cmp_4_0)] precmp_4_0 sufcmp_4_0, Ch.bx locmp_4_1 bcmp_4_1 ocmp_4_1 [(Sl acmp_4_1 cmp_4_1 ccmp_4_1)] precmp_4_1 sufcmp_4_1, Ch.own 0 0 (Sl adata_0 o17.1 cdata_0) o17.1, Ch.ro 0 (Sl acmp_4_1 cmp_4_1 ccmp_4_1) cmp_4_1] := H
      refine st (v := (.tuple #[(I r26.1), (I r26.2)])) (rv_move rfl) ?_
      refine st (v := (I r26.1)) (rv_extract rfl rfl) ?_
      refine st (v := (I r26.2)) (rv_extract rfl rfl) ?_
      refine st (v := (I r26.1)) (rv_assign rfl) ?_
      refine st (v := (I r26.2)) (rv_assign rfl) ?_
      refine w_end ?_
      refine q_then ?_
      refine c_seq ?_
      refine c_seq ?_
      refine rg ?_
      refine st (v := (I r26.2)) (rv_move rfl) ?_
      refine st (v := (B (r26.2 == 2))) (rv_eql (a := r26.2) (b := 2) rfl rfl) ?_
      refine w_end ?_
      refine q_then ?_
      obtain ⟨o30, hj, h'⟩ := bind_some h
      clear h
      refine c_cut (fun e a w => e = .normal ∧ ∃ (ρ : Nat → Value) (σ : St), a = fr 148 (updL ρ [(0, (Sl adata_0 o30.1 cdata_0)), (1, (I s2.2.1)), (2, (I s2.2.2.1)), (3, (I o17.2)), (4, (.func (.func 88) #[] #[(pt bcmp_4_0 ocmp_4_0), (pt bcmp_4_1 ocmp_4_1)])), (10, (B s2.2.2.2.2.1)), (11, (B s2.2.2.2.2.2)), (12, (I (w64 (s2.2.2.1 - s2.2.1)))), (13, (I o30.2.1)), (14, (I o30.2.2))]) ∧ w = σ.w ∧ Hp S0 σ0 σ [Ch.own 0 0 (Sl adata_0 o30.1 cdata_0) o30.1, Ch.bx locmp_4_0 bcmp_4_0 ocmp_4_0 [(I cmp_4_0)] precmp_4_0 sufcmp_4_0, Ch.ro 0 (Sl acmp_4_1 cmp_4_1 ccmp_4_1) cmp_4_1, Ch.bx locmp_4_1 bcmp_4_1 ocmp_4_1 [(Sl acmp_4_1 cmp_4_1 ccmp_4_1)] precmp_4_1 sufcmp_4_1] ∧ o30.1.length = o17.1.length) ?_ ?_
      ·clear h'
       rename _ = some o30 => h
       refine cd_cond (r26.2 == 2) rfl (fun hb31 => ?_) (fun hb31 => ?_)
       ·replace h := bif_t hb31 h
        refine c_seq ?_
        refine rg ?_
        refine st (v := (Sl adata_0 o17.1 cdata_0)) (rv_move rfl) ?_
        refine st (v := (I s2.2.1)) (rv_move rfl) ?_
        refine st (v := (I s2.2.2.1)) (rv_move rfl) ?_
        refine st (v := (.func (.func 88) #[] #[(pt bcmp_4_0 ocmp_4_0), (pt bcmp_4_1 ocmp_4_1)])) (rv_move rfl) ?_
        obtain ⟨r32, hx33, h'⟩ := bind_some h
        clear h
        have h := h'; clear h'
        have hc34 := c_slices_reverseRangeCmpFunc_impl_Item__impl_sortByDistance_1 (adata_0 := adata_0) (cdata_0 := cdata_0) (locmp_3_0 := locmp_4_0) (bcmp_3_0 := bcmp_4_0) (ocmp_3_0 := ocmp_4_0) (precmp_3_0 := precmp_4_0) (sufcmp_3_0 := sufcmp_4_0) (locmp_3_1 := locmp_4_1) (bcmp_3_1 := bcmp_4_1) (ocmp_3_1 := ocmp_4_1) (precmp_3_1 := precmp_4_1) (sufcmp_3_1 := sufcmp_4_1) (acmp_3_1 := acmp_4_1) (ccmp_3_1 := ccmp_4_1) hx33
        refine st_call (cx_call hc34 (ent_f hc34.fn rfl) hn0 (H.sel' [2, 0, 1, 3, 3] rfl rfl : Hp S0 σ0 _ ([_, _, _, _] ++ _))) (wanted_none _ rfl _) ?_
        rintro _ σ36 ⟨_, ⟨rfl, rfl, hn35⟩, H, -⟩
        replace H : Hp S0 σ0 σ36 [Ch.own 0 0 (Sl adata_0 r32 cdata_0) r32, Ch.bx locmp_4_0 bcmp_4_0 ocmp_4_0 [(I cmp_4_0)] precmp_4_0 sufcmp_4_0, Ch.bx locmp_4_1 bcmp_4_1 ocmp_4_1 [(Sl acmp_4_1 cmp_4_1 ccmp_4_1)] precmp_4_1 sufcmp_4_1, Ch.ro 0 (Sl acmp_4_1 cmp_4_1 ccmp_4_1) cmp_4_1] := H
        have hsl : (Sl adata_0 o17.1 cdata_0) = (Sl adata_0 r32 cdata_0) := sl_len hn35.symm
        try rw [hsl]
        try rw [hsl] at H
        clear hsl
        refine w_end ?_
        refine q_then ?_
        refine c_seq ?_
        refine rg ?_
        refine st (v := (I s2.2.2.1)) (rv_move rfl) ?_
        refine st (v := (I (w64 (s2.2.2.1 - 1)))) (rv_sub (a := s2.2.2.1) (b := 1) rfl rfl) ?_
        refine st (v := (I r26.1)) (rv_move rfl) ?_
        refine st (v := (I s2.2.1)) (rv_move rfl) ?_
        refine st (v := (I (w64 (r26.1 - s2.2.1)))) (rv_sub (a := r26.1) (b := s2.2.1) rfl rfl) ?_
        refine st (v := (I (w64 ((w64 (s2.2.2.1 - 1)) - (w64 (r26.1 - s2.2.1)))))) (rv_sub (a := (w64 (s2.2.2.1 - 1))) (b := (w64 (r26.1 - s2.2.1))) rfl rfl) ?_
        refine st (v := (I (w64 ((w64 (s2.2.2.1 - 1)) - (w64 (r26.1 - s2.2.1)))))) (rv_assign rfl) ?_
        refine w_end ?_
        refine q_then ?_
        refine rg ?_
        refine st (v := (I 1)) (rv_assign rfl) ?_
        refine w_end ?_
        obtain rfl := Option.some.inj h
        exact ⟨rfl, _, σ36, fr_join ⟨rfl, rfl, rfl, rfl, rfl, rfl, rfl, rfl, rfl, rfl, trivial⟩, rfl, H.sel' [0, 1, 3, 2] rfl rfl, ((hn35.trans (hn25.trans hn4)).trans (hn25.trans hn4).symm)⟩
       ·replace h := bif_f hb31 h
        refine c_skip ?_
        obtain rfl := Option.some.inj h
        exact ⟨rfl, _, σ29, fr_join ⟨rfl, rfl, rfl, rfl, rfl, rfl, rfl, rfl, rfl, rfl, trivial⟩, rfl, H.sel' [2, 0, 3, 1] rfl rfl, rfl⟩
      ·clear hj
       have h := h'
       clear h' H
       rintro e a w ⟨rfl, ρ, σ37, rfl, rfl, H, hn38⟩
       refine q_then ?_
       refine c_seq ?_
       refine c_seq ?_
       obtain ⟨o39, hj, h'⟩ := bind_some h
       clear h
       refine c_cut (fun e a w => e = .normal ∧ ∃ (ρ : Nat → Value) (σ : St), a = fr 148 (updL ρ [(0, (Sl adata_0 o30.1 cdata_0)), (1, (I s2.2.1)), (2, (I s2.2.2.1)), (3, (I o17.2)), (4, (.func (.func 88) #[] #[(pt bcmp_4_0 ocmp_4_0), (pt bcmp_4_1 ocmp_4_1)])), (10, (B s2.2.2.2.2.1)), (11, (B s2.2.2.2.2.2)), (12, (I (w64 (s2.2.2.1 - s2.2.1)))), (13, (I o30.2.1)), (75, (B o39))]) ∧ w = σ.w ∧ Hp S0 σ0 σ [Ch.own 0 0 (Sl adata_0 o30.1 cdata_0) o30.1, Ch.bx locmp_4_0 bcmp_4_0 ocmp_4_0 [(I cmp_4_0)] precmp_4_0 sufcmp_4_0, Ch.ro 0 (Sl acmp_4_1 cmp_4_1 ccmp_4_1) cmp_4_1, Ch.bx locmp_4_1 bcmp_4_1 ocmp_4_1 [(Sl acmp_4_1 cmp_4_1 ccmp_4_1)] precmp_4_1 sufcmp_4_1]) ?_ ?_
       ·clear h'
        rename _ = some o39 => h
        refine rg ?_
        refine st (v := (B s2.2.2.2.2.1)) (rv_move rfl) ?_
        refine st (v := (B s2.2.2.2.2.1)) (rv_move rfl) ?_
        rcases Bool.eq_false_or_eq_true s2.2.2.2.2.1 with hb40 | hb40
        ·replace h := bif_t hb40 h
         refine st_g (v := (B s2.2.2.2.2.2)) (congrArg some hb40) (rv_move rfl) ?_
         refine st (v := (B s2.2.2.2.2.2)) (rv_pick_t (congrArg B hb40) rfl) ?_
         refine st (v := (B s2.2.2.2.2.2)) (rv_move rfl) ?_
         rcases Bool.eq_false_or_eq_true s2.2.2.2.2.2 with hb41 | hb41
         ·replace h := bif_t hb41 h
          refine st_g (v := (I o30.2.2)) (congrArg some hb41) (rv_move rfl) ?_
          refine st_g (v := (B (o30.2.2 == 1))) (congrArg some hb41) (rv_eql (a := o30.2.2) (b := 1) rfl rfl) ?_
          refine st (v := (B (o30.2.2 == 1))) (rv_pick_t (congrArg B hb41) rfl) ?_
          refine w_end ?_
          obtain rfl := Option.some.inj h
          exact ⟨rfl, _, σ37, fr_join ⟨rfl, rfl, rfl, rfl, rfl, rfl, rfl, rfl, rfl, rfl, trivial⟩, rfl, H.sel' [0, 1, 2, 3] rfl rfl⟩
         ·replace h := bif_f hb41 h
          refine st_skip (congrArg some hb41) ?_
          refine st_skip (congrArg some hb41) ?_
          refine st (v := (B false)) (rv_pick_f (congrArg B hb41) rfl) ?_
          refine w_end ?_
          obtain rfl := Option.some.inj h
          exact ⟨rfl, _, σ37, fr_join ⟨rfl, rfl, rfl, rfl, rfl, rfl, rfl, rfl, rfl, rfl, trivial⟩, rfl, H.sel' [0, 1, 2, 3] rfl rfl⟩
        ·replace h := bif_f hb40 h
         refine st_skip (congrArg some hb40) ?_
         refine st (v := (B false)) (rv_pick_f (congrArg B hb40) rfl) ?_
         refine st (v := (B false)) (rv_move rfl) ?_
         refine st_skip rfl ?_
         refine st_skip rfl ?_
         refine st (v := (B false)) (rv_pick_f rfl rfl) ?_
         refine w_end ?_
         obtain rfl := Option.some.inj h
         exact ⟨rfl, _, σ37, fr_join ⟨rfl, rfl, rfl, rfl, rfl, rfl, rfl, rfl, rfl, rfl, trivial⟩, rfl, H.sel' [0, 1, 2, 3] rfl rfl⟩
       ·clear hj
        have h := h'
        clear h' H
        rintro e a w ⟨rfl, ρ, σ42, rfl, rfl, H⟩
        refine q_then ?_
        obtain ⟨o43, hj, h'⟩ := bind_some h
        clear h
        refine c_cut (fun e a w => (∃ t, o43 = (.inl t) ∧ e = .normal ∧ ∃ (ρ : Nat → Value) (σ : St), a = fr 148 (updL ρ [(0, (Sl adata_0 t cdata_0)), (1, (I s2.2.1)), (2, (I s2.2.2.1)), (3, (I o17.2)), (4, (.func (.func 88) #[] #[(pt bcmp_4_0 ocmp_4_0), (pt bcmp_4_1 ocmp_4_1)])), (10, (B s2.2.2.2.2.1)), (11, (B s2.2.2.2.2.2)), (12, (I (w64 (s2.2.2.1 - s2.2.1)))), (13, (I o30.2.1))]) ∧ w = σ.w ∧ Hp S0 σ0 σ [Ch.own 0 0 (Sl adata_0 t cdata_0) t, Ch.bx locmp_4_0 bcmp_4_0 ocmp_4_0 [(I cmp_4_0)] precmp_4_0 sufcmp_4_0, Ch.ro 0 (Sl acmp_4_1 cmp_4_1 ccmp_4_1) cmp_4_1, Ch.bx locmp_4_1 bcmp_4_1 ocmp_4_1 [(Sl acmp_4_1 cmp_4_1 ccmp_4_1)] precmp_4_1 sufcmp_4_1] ∧ t.length = o30.1.length) ∨ (∃ t, o43 = (.inr t) ∧ e = .ret ∧ ∃ (ρ : Nat → Value) (σ : St), a = fr 148 (updL ρ [(0, (Sl adata_0 t cdata_0)), (4, (.func (.func 88) #[] #[(pt bcmp_4_0 ocmp_4_0), (pt bcmp_4_1 ocmp_4_1)]))]) ∧ w = σ.w ∧ Hp S0 σ0 σ [Ch.own 0 0 (Sl adata_0 t cdata_0) t, Ch.bx locmp_4_0 bcmp_4_0 ocmp_4_0 [(I cmp_4_0)] precmp_4_0 sufcmp_4_0, Ch.ro 0 (Sl acmp_4_1 cmp_4_1 ccmp_4_1) cmp_4_1, Ch.bx locmp_4_1 bcmp_4_1 ocmp_4_1 [(Sl acmp_4_1 cmp_4_1 ccmp_4_1)] precmp_4_1 sufcmp_4_1] ∧ t.length = o30.1.length)) ?_ ?_
        ·clear h'
         rename _ = some o43 => h
         refine cd_cond o39 rfl (fun hb44 => ?_) (fun hb44 => ?_)
         ·replace h := bif_t hb44 h
          refine c_seq ?_
          refine rg ?_
          refine st (v := (Sl adata_0 o30.1 cdata_0)) (rv_move rfl) ?_
          refine st (v := (I s2.2.1)) (rv_move rfl) ?_
          refine st (v := (I s2.2.2.1)) (rv_move rfl) ?_
          refine st (v := (.func (.func 88) #[] #[(pt bcmp_4_0 ocmp_4_0), (pt bcmp_4_1 ocmp_4_1)])) (rv_move rfl) ?_
          obtain ⟨r45, hx46, h'⟩ := bind_some h
          clear h
          have h := h'; clear h'
          have hc47 := c_slices_partialInsertionSortCmpFunc_impl_Item__impl_sortByDistance_1 (adata_0 := adata_0) (cdata_0 := cdata_0) (locmp_3_0 := locmp_4_0) (bcmp_3_0 := bcmp_4_0) (ocmp_3_0 := ocmp_4_0) (precmp_3_0 := precmp_4_0) (sufcmp_3_0 := sufcmp_4_0) (locmp_3_1 := locmp_4_1) (bcmp_3_1 := bcmp_4_1) (ocmp_3_1 := ocmp_4_1) (precmp_3_1 := precmp_4_1) (sufcmp_3_1 := sufcmp_4_1) (acmp_3_1 := acmp_4_1) (ccmp_3_1 := ccmp_4_1) hx46
          refine st_call (cx_call hc47 (ent_f hc47.fn rfl) hn0 (H.sel' [0, 1, 3, 2, 2] rfl rfl : Hp S0 σ0 _ ([_, _, _, _] ++ _))) (wanted_none _ rfl _) ?_
          rintro _ σ49 ⟨_, ⟨rfl, rfl, hn48⟩, H, -⟩
          replace H : Hp S0 σ0 σ49 [Ch.own 0 0 (Sl adata_0 r45.2 cdata_0) r45.2, Ch.bx locmp_4_0 bcmp_4_0 ocmp_4_0 [(I cmp_4_0)] precmp_4_0 sufcmp_4_0, Ch.bx locmp_4_1 bcmp_4_1 ocmp_4_1 [(Sl acmp_4_1 cmp_4_1 ccmp_4_1)] precmp_4_1 sufcmp_4_1, Ch.ro 0 (Sl acmp_4_1 cmp_4_1 ccmp_4_1) cmp_4_1] := H
          have hsl : (Sl adata_0 o30.1 cdata_0) = (Sl adata_0 r45.2 cdata_0) := sl_len hn48.symm
          try rw [hsl]
          try rw [hsl] at H
          clear hsl
          refine w_end ?_
          refine q_then ?_
          refine cd_cond r45.1 rfl (fun hb50 => ?_) (fun hb50 => ?_)
          ·replace h := bif_t hb50 h
           refine c_ret ?_
           obtain rfl := Option.some.inj h
           exact .inr (⟨_, rfl, rfl, _, σ49, fr_join ⟨rfl, rfl, trivial⟩, rfl, H.sel' [0, 1, 3, 2] rfl rfl, ((hn48.trans (hn38.trans (hn25.trans hn4))).trans (hn38.trans (hn25.trans hn4)).symm)⟩)
          ·replace h := bif_f hb50 h
           refine c_skip ?_
           obtain rfl := Option.some.inj h
           exact .inl ⟨_, rfl, rfl, _, σ49, fr_join ⟨rfl, rfl, rfl, rfl, rfl, rfl, rfl, rfl, rfl, trivial⟩, rfl, H.sel' [0, 1, 3, 2] rfl rfl, ((hn48.trans (hn38.trans (hn25.trans hn4))).trans (hn38.trans (hn25.trans hn4)).symm)⟩
         ·replace h := bif_f hb44 h
          refine c_skip ?_
          obtain rfl := Option.some.inj h
          exact .inl ⟨_, rfl, rfl, _, σ42, fr_join ⟨rfl, rfl, rfl, rfl, rfl, rfl, rfl, rfl, rfl, trivial⟩, rfl, H.sel' [0, 1, 2, 3] rfl rfl, rfl⟩
        ·clear hj
         have h := h'
         clear h' H
         rintro e a w (⟨t51, rfl, rfl, ρ, σ52, rfl, rfl, H, hn53⟩ | ⟨t107, rfl, rfl, ρ, σ108, rfl, rfl, H, hn109⟩)
         ·replace h := selim_l h
          refine q_then ?_
          refine c_seq ?_
          refine c_seq ?_
          obtain ⟨o54, hj, h'⟩ := bind_some h
          clear h
          refine c_cut (fun e a w => e = .normal ∧ ∃ (ρ : Nat → Value) (σ : St), a = fr 148 (updL ρ [(0, (Sl adata_0 t51 cdata_0)), (1, (I s2.2.1)), (2, (I s2.2.2.1)), (3, (I o17.2)), (4, (.func (.func 88) #[] #[(pt bcmp_4_0 ocmp_4_0), (pt bcmp_4_1 ocmp_4_1)])), (10, (B s2.2.2.2.2.1)), (11, (B s2.2.2.2.2.2)), (12, (I (w64 (s2.2.2.1 - s2.2.1)))), (13, (I o30.2.1)), (97, (B o54))]) ∧ w = σ.w ∧ Hp S0 σ0 σ [Ch.own 0 0 (Sl adata_0 t51 cdata_0) t51, Ch.bx locmp_4_0 bcmp_4_0 ocmp_4_0 [(I cmp_4_0)] precmp_4_0 sufcmp_4_0, Ch.ro 0 (Sl acmp_4_1 cmp_4_1 ccmp_4_1) cmp_4_1, Ch.bx locmp_4_1 bcmp_4_1 ocmp_4_1 [(Sl acmp_4_1 cmp_4_1 ccmp_4_1)] precmp_4_1 sufcmp_4_1]) ?_ ?_
          ·clear h'
           rename _ = some o54 => h
           refine rgP (σ := σ52) 13 (by kernel_rfl) (by kernel_rfl) (by kernel_rfl) ?_
           refine sq (v := (I s2.2.1)) (rv_move rfl) ?_
           refine sq (v := (B (decide (0 < s2.2.1)))) (rv_gtr (a := s2.2.1) (b := 0) rfl rfl) ?_
           refine sq (v := (B (decide (0 < s2.2.1)))) (rv_move rfl) ?_
           rcases Bool.eq_false_or_eq_true (decide (0 < s2.2.1)) with hb55 | hb55
           ·replace h := bif_t hb55 h
            refine sq_g (v := (.func (.func 88) #[] #[(pt bcmp_4_0 ocmp_4_0), (pt bcmp_4_1 ocmp_4_1)])) (congrArg some hb55) (rv_move rfl) ?_
            refine sq_g (v := (Sl adata_0 t51 cdata_0)) (congrArg some hb55) (rv_move rfl) ?_
            refine sq_g (v := (I s2.2.1)) (congrArg some hb55) (rv_move rfl) ?_
            refine sq_g (v := (I (w64 (s2.2.1 - 1)))) (congrArg some hb55) (rv_sub (a := s2.2.1) (b := 1) rfl rfl) ?_
            obtain ⟨x56, hx57, h'⟩ := bind_some h
            clear h
            have h := h'; clear h'
            obtain ⟨b59, o60, hi58, -⟩ := (H.own 0 rfl).ix hx57
            refine sq_g (v := (pt b59 o60)) (congrArg some hb55) (rv_ix Try.underlying23 ti34 rfl rfl hi58) ?_
            obtain ⟨_, ⟨_, _, rfl, rfl, ⟨_, _, rfl, ⟨_, rfl, hR65⟩, rfl⟩⟩, hl61, hc62⟩ := ((H.own 0 rfl).at hx57 hi58).cells
            obtain ⟨a63, c64, rfl⟩ := hR65.isSl
            replace H := H.add (d := Ch.ro 0 (Sl a63 x56.2.1 c64) x56.2.1) hR65 (fun _ h => h)
            clear hR65
            refine sq_g (v := (.agg #[(I x56.1), (Sl a63 x56.2.1 c64), (I x56.2.2)])) (congrArg some hb55) (rv_load Try.underlying34 rfl ti34 rfl hl61 hc62) ?_
            refine sq_g (v := (Sl adata_0 t51 cdata_0)) (congrArg some hb55) (rv_move rfl) ?_
            refine sq_g (v := (I o30.2.1)) (congrArg some hb55) (rv_move rfl) ?_
            obtain ⟨x66, hx67, h'⟩ := bind_some h
            clear h
            have h := h'; clear h'
            obtain ⟨b69, o70, hi68, -⟩ := (H.own 1 rfl).ix hx67
            refine sq_g (v := (pt b69 o70)) (congrArg some hb55) (rv_ix Try.underlying23 ti34 rfl rfl hi68) ?_
            obtain ⟨_, ⟨_, _, rfl, rfl, ⟨_, _, rfl, ⟨_, rfl, hR75⟩, rfl⟩⟩, hl71, hc72⟩ := ((H.own 1 rfl).at hx67 hi68).cells
            obtain ⟨a73, c74, rfl⟩ := hR75.isSl
            replace H := H.add (d := Ch.ro 0 (Sl a73 x66.2.1 c74) x66.2.1) hR75 (fun _ h => h)
            clear hR75
            refine sq_g (v := (.agg #[(I x66.1), (Sl a73 x66.2.1 c74), (I x66.2.2)])) (congrArg some hb55) (rv_load Try.underlying34 rfl ti34 rfl hl71 hc72) ?_
            refine sq_end ?_
            intro σ76 hm77
            replace H := H.grow (hm77.mono fun _ h => h); clear hm77
            obtain ⟨r78, hx79, h'⟩ := bind_some h
            clear h
            have h := h'; clear h'
            have hc80 := c_impl_sortByDistance_1__p3__p24 (ax_0_1 := a63) (cx_0_1 := c64) (ay_1_1 := a73) (cy_1_1 := c74) (lop_2 := locmp_4_0) (bp_2 := bcmp_4_0) (op_2 := ocmp_4_0) (prep_2 := precmp_4_0) (sufp_2 := sufcmp_4_0) (lop_3 := locmp_4_1) (bp_3 := bcmp_4_1) (op_3 := ocmp_4_1) (prep_3 := precmp_4_1) (sufp_3 := sufcmp_4_1) (ap_3 := acmp_4_1) (cp_3 := ccmp_4_1) hx79
            refine st_call (cx_call hc80 (ent_v (cap := [(pt bcmp_4_0 ocmp_4_0), (pt bcmp_4_1 ocmp_4_1)]) hc80.fn rfl rfl) hn0 (H.sel' [1, 0, 3, 5, 4, 0, 1, 2, 4] rfl rfl : Hp S0 σ0 _ ([_, _, _, _, _] ++ _))) (wanted_yes rfl (by exact (congrArg some hb55))) ?_
            rintro _ σ81 ⟨_, ⟨rfl, rfl⟩, H, -⟩
            replace H : Hp S0 σ0 σ81 [Ch.bx locmp_4_0 bcmp_4_0 ocmp_4_0 [(I cmp_4_0)] precmp_4_0 sufcmp_4_0, Ch.bx locmp_4_1 bcmp_4_1 ocmp_4_1 [(Sl acmp_4_1 cmp_4_1 ccmp_4_1)] precmp_4_1 sufcmp_4_1, Ch.ro 0 (Sl a73 x66.2.1 c74) x66.2.1, Ch.ro 0 (Sl a63 x56.2.1 c64) x56.2.1, Ch.own 0 0 (Sl adata_0 t51 cdata_0) t51, Ch.ro 0 (Sl acmp_4_1 cmp_4_1 ccmp_4_1) cmp_4_1] := H
            refine st_g (v := (B (decide (r78 < 0)))) (congrArg some hb55) (rv_lss (a := r78) (b := 0) rfl rfl) ?_
            refine st_g (v := (B (!(decide (r78 < 0))))) (congrArg some hb55) (rv_not rfl) ?_
            refine st (v := (B (!(decide (r78 < 0))))) (rv_pick_t (congrArg B hb55) rfl) ?_
            refine w_end ?_
            obtain rfl := Option.some.inj h
            exact ⟨rfl, _, σ81, fr_join ⟨rfl, rfl, rfl, rfl, rfl, rfl, rfl, rfl, rfl, rfl, trivial⟩, rfl, H.sel' [4, 0, 5, 1] rfl rfl⟩
           ·replace h := bif_f hb55 h
            refine sq_skip (congrArg some hb55) ?_
            refine sq_skip (congrArg some hb55) ?_
            refine sq_skip (congrArg some hb55) ?_
            refine sq_skip (congrArg some hb55) ?_
            refine sq_skip (congrArg some hb55) ?_
            refine sq_skip (congrArg some hb55) ?_
            refine sq_skip (congrArg some hb55) ?_
            refine sq_skip (congrArg some hb55) ?_
            refine sq_skip (congrArg some hb55) ?_
            refine sq_skip (congrArg some hb55) ?_
            refine sq_end ?_
            intro σ82 hm83
            replace H := H.grow (hm83.mono fun _ h => h); clear hm83
            refine st_skip (congrArg some hb55) ?_
            refine st_skip (congrArg some hb55) ?_
            refine st_skip (congrArg some hb55) ?_
            refine st (v := (B false)) (rv_pick_f (congrArg B hb55) rfl) ?_
            refine w_end ?_
            obtain rfl := Option.some.inj h
            exact ⟨rfl, _, σ82, fr_join ⟨rfl, rfl, rfl, rfl, rfl, rfl, rfl, rfl, rfl, rfl, trivial⟩, rfl, H.sel' [0, 1, 2, 3] rfl rfl⟩
          ·clear hj
           have h := h'
           clear h' H
           rintro e a w ⟨rfl, ρ, σ84, rfl, rfl, H⟩
           refine q_then ?_
           refine cd_cond o54 rfl (fun hb85 => ?_) (fun hb85 => ?_)
           ·replace h := bif_t hb85 h
            refine c_seq ?_
            refine rg ?_
            refine st (v := (Sl adata_0 t51 cdata_0)) (rv_move rfl) ?_
            refine st (v := (I s2.2.1)) (rv_move rfl) ?_
            refine st (v := (I s2.2.2.1)) (rv_move rfl) ?_
            refine st (v := (I o30.2.1)) (rv_move rfl) ?_
            refine st (v := (.func (.func 88) #[] #[(pt bcmp_4_0 ocmp_4_0), (pt bcmp_4_1 ocmp_4_1)])) (rv_move rfl) ?_
            obtain ⟨r86, hx87, h'⟩ := bind_some h
            clear h
            have h := h'; clear h'
            have hc88 := c_slices_partitionEqualCmpFunc_impl_Item__impl_sortByDistance_1 (adata_0 := adata_0) (cdata_0 := cdata_0) (locmp_4_0 := locmp_4_0) (bcmp_4_0 := bcmp_4_0) (ocmp_4_0 := ocmp_4_0) (precmp_4_0 := precmp_4_0) (sufcmp_4_0 := sufcmp_4_0) (locmp_4_1 := locmp_4_1) (bcmp_4_1 := bcmp_4_1) (ocmp_4_1 := ocmp_4_1) (precmp_4_1 := precmp_4_1) (sufcmp_4_1 := sufcmp_4_1) (acmp_4_1 := acmp_4_1) (ccmp_4_1 := ccmp_4_1) hx87
            refine st_call (cx_call hc88 (ent_f hc88.fn rfl) hn0 (H.sel' [0, 1, 3, 2, 2] rfl rfl : Hp S0 σ0 _ ([_, _, _, _] ++ _))) (wanted_none _ rfl _) ?_
            rintro _ σ90 ⟨_, ⟨rfl, rfl, hn89⟩, H, -⟩
            replace H : Hp S0 σ0 σ90 [Ch.own 0 0 (Sl adata_0 r86.2 cdata_0) r86.2, Ch.bx locmp_4_0 bcmp_4_0 ocmp_4_0 [(I cmp_4_0)] precmp_4_0 sufcmp_4_0, Ch.bx locmp_4_1 bcmp_4_1 ocmp_4_1 [(Sl acmp_4_1 cmp_4_1 ccmp_4_1)] precmp_4_1 sufcmp_4_1, Ch.ro 0 (Sl acmp_4_1 cmp_4_1 ccmp_4_1) cmp_4_1] := H
            have hsl : (Sl adata_0 t51 cdata_0) = (Sl adata_0 r86.2 cdata_0) := sl_len hn89.symm
            try rw [hsl]
            try rw [hsl] at H
            clear hsl
            refine st (v := (I r86.1)) (rv_assign rfl) ?_
            refine w_end ?_
            refine q_then ?_
            refine c_seq ?_
            refine rg ?_
            refine st (v := (I r86.1)) (rv_move rfl) ?_
            refine st (v := (I r86.1)) (rv_assign rfl) ?_
            refine w_end ?_
            refine q_then ?_
            refine c_exit ?_
            refine q_then_x ?_
            refine q_blk_hit ?_
            refine q_then ?_
            obtain rfl := Option.some.inj h
            exact ⟨_, rfl, _, σ90, fr_join ⟨rfl, rfl, rfl, rfl, rfl, rfl, rfl, trivial⟩, rfl, H.sel' [0, 1, 3, 2] rfl rfl, (hn89.trans (hn53.trans (hn38.trans (hn25.trans hn4))))⟩
           ·replace h := bif_f hb85 h
            refine c_skip ?_
            refine q_then ?_
            refine c_seq ?_
            refine rg ?_
            refine st (v := (Sl adata_0 t51 cdata_0)) (rv_move rfl) ?_
            refine st (v := (I s2.2.1)) (rv_move rfl) ?_
            refine st (v := (I s2.2.2.1)) (rv_move rfl) ?_
            refine st (v := (I o30.2.1)) (rv_move rfl) ?_
            refine st (v := (.func (.func 88) #[] #[(pt bcmp_4_0 ocmp_4_0), (pt bcmp_4_1 ocmp_4_1)])) (rv_move rfl) ?_
            obtain ⟨r91, hx92, h'⟩ := bind_some h
            clear h
            have h := h'; clear h'
            have hc93 := c_slices_partitionCmpFunc_impl_Item__impl_sortByDistance_1 (adata_0 := adata_0) (cdata_0 := cdata_0) (locmp_4_0 := locmp_4_0) (bcmp_4_0 := bcmp_4_0) (ocmp_4_0 := ocmp_4_0) (precmp_4_0 := precmp_4_0) (sufcmp_4_0 := sufcmp_4_0) (locmp_4_1 := locmp_4_1) (bcmp_4_1 := bcmp_4_1) (ocmp_4_1 := ocmp_4_1) (precmp_4_1 := precmp_4_1) (sufcmp_4_1 := sufcmp_4_1) (acmp_4_1 := acmp_4_1) (ccmp_4_1 := ccmp_4_1) hx92
            refine st_call (cx_call hc93 (ent_f hc93.fn rfl) hn0 (H.sel' [0, 1, 3, 2, 2] rfl rfl : Hp S0 σ0 _ ([_, _, _, _] ++ _))) (wanted_none _ rfl _) ?_
            rintro _ σ95 ⟨_, ⟨rfl, rfl, hn94⟩, H, -⟩
            replace H : Hp S0 σ0 σ95 [Ch.own 0 0 (Sl adata_0 r91.2.2 cdata_0) r91.2.2, Ch.bx locmp_4_0 bcmp_4_0 ocmp_4_0 [(I cmp_4_0)] precmp_4_0 sufcmp_4_0, Ch.bx locmp_4_1 bcmp_4_1 ocmp_4_1 [(Sl acmp_4_1 cmp_4_1 ccmp_4_1)] precmp_4_1 sufcmp_4_1, Ch.ro 0 (Sl acmp_4_1 cmp_4_1 ccmp_4_1) cmp_4_1] := H
            have hsl : (Sl adata_0 t51 cdata_0) = (Sl adata_0 r91.2.2 cdata_0) := sl_len hn94.symm
            try rw [hsl]
            try rw [hsl] at H
            clear hsl
            refine st (v := (.tuple #[(I r91.1), (B r91.2.1)])) (rv_move rfl) ?_
            refine st (v := (I r91.1)) (rv_extract rfl rfl) ?_
            refine st (v := (B r91.2.1)) (rv_extract rfl rfl) ?_
            refine st (v := (I r91.1)) (rv_assign rfl) ?_
            refine st (v := (B r91.2.1)) (rv_assign rfl) ?_
            refine w_end ?_
            refine q_then ?_
            refine c_seq ?_
            refine rg ?_
            refine st (v := (B r91.2.1)) (rv_move rfl) ?_
            refine st (v := (B r91.2.1)) (rv_assign rfl) ?_
            refine w_end ?_
            refine q_then ?_
            refine c_seq ?_
            refine rg ?_
            refine st (v := (I r91.1)) (rv_move rfl) ?_
            refine st (v := (I s2.2.1)) (rv_move rfl) ?_
            refine st (v := (I (w64 (r91.1 - s2.2.1)))) (rv_sub (a := r91.1) (b := s2.2.1) rfl rfl) ?_
            refine st (v := (I s2.2.2.1)) (rv_move rfl) ?_
            refine st (v := (I r91.1)) (rv_move rfl) ?_
            refine st (v := (I (w64 (s2.2.2.1 - r91.1)))) (rv_sub (a := s2.2.2.1) (b := r91.1) rfl rfl) ?_
            refine st (v := (I (w64 (r91.1 - s2.2.1)))) (rv_assign rfl) ?_
            refine st (v := (I (w64 (s2.2.2.1 - r91.1)))) (rv_assign rfl) ?_
            refine w_end ?_
            refine q_then ?_
            refine c_seq ?_
            refine rg ?_
            refine st (v := (I (w64 (s2.2.2.1 - s2.2.1)))) (rv_move rfl) ?_
            refine st (v := (I (w64 ((w64 (s2.2.2.1 - s2.2.1)).tdiv 8)))) (rv_quo (a := (w64 (s2.2.2.1 - s2.2.1))) (b := 8) rfl rfl (by decide)) ?_
            refine st (v := (I (w64 ((w64 (s2.2.2.1 - s2.2.1)).tdiv 8)))) (rv_assign rfl) ?_
            refine w_end ?_
            refine q_then ?_
            refine c_seq ?_
            refine rg ?_
            refine st (v := (I (w64 (r91.1 - s2.2.1)))) (rv_move rfl) ?_
            refine st (v := (I (w64 (s2.2.2.1 - r91.1)))) (rv_move rfl) ?_
            refine st (v := (B (decide ((w64 (r91.1 - s2.2.1)) < (w64 (s2.2.2.1 - r91.1)))))) (rv_lss (a := (w64 (r91.1 - s2.2.1))) (b := (w64 (s2.2.2.1 - r91.1))) rfl rfl) ?_
            refine w_end ?_
            refine q_then ?_
            refine cd_cond (decide ((w64 (r91.1 - s2.2.1)) < (w64 (s2.2.2.1 - r91.1)))) rfl (fun hb96 => ?_) (fun hb96 => ?_)
            ·replace h := bif_t hb96 h
             refine c_seq ?_
             refine rg ?_
             refine st (v := (I (w64 (r91.1 - s2.2.1)))) (rv_move rfl) ?_
             refine st (v := (I (w64 ((w64 (s2.2.2.1 - s2.2.1)).tdiv 8)))) (rv_move rfl) ?_
             refine st (v := (B (decide ((w64 ((w64 (s2.2.2.1 - s2.2.1)).tdiv 8)) ≤ (w64 (r91.1 - s2.2.1)))))) (rv_geq (a := (w64 (r91.1 - s2.2.1))) (b := (w64 ((w64 (s2.2.2.1 - s2.2.1)).tdiv 8))) rfl rfl) ?_
             refine st (v := (B (decide ((w64 ((w64 (s2.2.2.1 - s2.2.1)).tdiv 8)) ≤ (w64 (r91.1 - s2.2.1)))))) (rv_assign rfl) ?_
             refine w_end ?_
             refine q_then ?_
             refine c_seq ?_
             refine rg ?_
             refine st (v := (Sl adata_0 r91.2.2 cdata_0)) (rv_move rfl) ?_
             refine st (v := (I s2.2.1)) (rv_move rfl) ?_
             refine st (v := (I r91.1)) (rv_move rfl) ?_
             refine st (v := (I o17.2)) (rv_move rfl) ?_
             refine st (v := (.func (.func 88) #[] #[(pt bcmp_4_0 ocmp_4_0), (pt bcmp_4_1 ocmp_4_1)])) (rv_move rfl) ?_
             obtain ⟨r97, hx98, h'⟩ := bind_some h
             clear h
             have h := h'; clear h'
             have hc99 := ih (adata_0 := adata_0) (cdata_0 := cdata_0) (locmp_4_0 := locmp_4_0) (bcmp_4_0 := bcmp_4_0) (ocmp_4_0 := ocmp_4_0) (precmp_4_0 := precmp_4_0) (sufcmp_4_0 := sufcmp_4_0) (locmp_4_1 := locmp_4_1) (bcmp_4_1 := bcmp_4_1) (ocmp_4_1 := ocmp_4_1) (precmp_4_1 := precmp_4_1) (sufcmp_4_1 := sufcmp_4_1) (acmp_4_1 := acmp_4_1) (ccmp_4_1 := ccmp_4_1) hx98
             refine st_call (cx_call hc99 (ent_f hc99.fn rfl) hn0 (H.sel' [0, 1, 2, 3, 3] rfl rfl : Hp S0 σ0 _ ([_, _, _, _] ++ _))) (wanted_none _ rfl _) ?_
             rintro _ σ101 ⟨_, ⟨rfl, rfl, hn100⟩, H, -⟩
             replace H : Hp S0 σ0 σ101 [Ch.own 0 0 (Sl adata_0 r97 cdata_0) r97, Ch.bx locmp_4_0 bcmp_4_0 ocmp_4_0 [(I cmp_4_0)] precmp_4_0 sufcmp_4_0, Ch.bx locmp_4_1 bcmp_4_1 ocmp_4_1 [(Sl acmp_4_1 cmp_4_1 ccmp_4_1)] precmp_4_1 sufcmp_4_1, Ch.ro 0 (Sl acmp_4_1 cmp_4_1 ccmp_4_1) cmp_4_1] := H
             have hsl : (Sl adata_0 r91.2.2 cdata_0) = (Sl adata_0 r97 cdata_0) := sl_len hn100.symm
             try rw [hsl]
             try rw [hsl] at H
             clear hsl
             refine w_end ?_
             refine q_then ?_
             refine rg ?_
             refine st (v := (I r91.1)) (rv_move rfl) ?_
             refine st (v := (I (w64 (r91.1 + 1)))) (rv_add (a := r91.1) (b := 1) rfl rfl) ?_
             refine st (v := (I (w64 (r91.1 + 1)))) (rv_assign rfl) ?_
             refine w_end ?_
             refine q_blk ?_
             refine q_then ?_
             obtain rfl := Option.some.inj h
             exact ⟨_, rfl, _, σ101, fr_join ⟨rfl, rfl, rfl, rfl, rfl, rfl, rfl, trivial⟩, rfl, H.sel' [0, 1, 3, 2] rfl rfl, (hn100.trans (hn94.trans (hn53.trans (hn38.trans (hn25.trans hn4)))))⟩
            ·replace h := bif_f hb96 h
             refine c_seq ?_
             refine rg ?_
             refine st (v := (I (w64 (s2.2.2.1 - r91.1)))) (rv_move rfl) ?_
             refine st (v := (I (w64 ((w64 (s2.2.2.1 - s2.2.1)).tdiv 8)))) (rv_move rfl) ?_
             refine st (v := (B (decide ((w64 ((w64 (s2.2.2.1 - s2.2.1)).tdiv 8)) ≤ (w64 (s2.2.2.1 - r91.1)))))) (rv_geq (a := (w64 (s2.2.2.1 - r91.1))) (b := (w64 ((w64 (s2.2.2.1 - s2.2.1)).tdiv 8))) rfl rfl) ?_
             refine st (v := (B (decide ((w64 ((w64 (s2.2.2.1 - s2.2.1)).tdiv 8)) ≤ (w64 (s2.2.2.1 - r91.1)))))) (rv_assign rfl) ?_
             refine w_end ?_
             refine q_then ?_
             refine c_seq ?_
             refine rg ?_
             refine st (v := (Sl adata_0 r91.2.2 cdata_0)) (rv_move rfl) ?_
             refine st (v := (I r91.1)) (rv_move rfl) ?_
             refine st (v := (I (w64 (r91.1 + 1)))) (rv_add (a := r91.1) (b := 1) rfl rfl) ?_
             refine st (v := (I s2.2.2.1)) (rv_move rfl) ?_
             refine st (v := (I o17.2)) (rv_move rfl) ?_
             refine st (v := (.func (.func 88) #[] #[(pt bcmp_4_0 ocmp_4_0), (pt bcmp_4_1 ocmp_4_1)])) (rv_move rfl) ?_
             obtain ⟨r102, hx103, h'⟩ := bind_some h
             clear h
             have h := h'; clear h'
             have hc104 := ih (adata_0 := adata_0) (cdata_0 := cdata_0) (locmp_4_0 := locmp_4_0) (bcmp_4_0 := bcmp_4_0) (ocmp_4_0 := ocmp_4_0) (precmp_4_0 := precmp_4_0) (sufcmp_4_0 := sufcmp_4_0) (locmp_4_1 := locmp_4_1) (bcmp_4_1 := bcmp_4_1) (ocmp_4_1 := ocmp_4_1) (precmp_4_1 := precmp_4_1) (sufcmp_4_1 := sufcmp_4_1) (acmp_4_1 := acmp_4_1) (ccmp_4_1 := ccmp_4_1) hx103
             refine st_call (cx_call hc104 (ent_f hc104.fn rfl) hn0 (H.sel' [0, 1, 2, 3, 3] rfl rfl : Hp S0 σ0 _ ([_, _, _, _] ++ _))) (wanted_none _ rfl _) ?_
             rintro _ σ106 ⟨_, ⟨rfl, rfl, hn105⟩, H, -⟩
             replace H : Hp S0 σ0 σ106 [Ch.own 0 0 (Sl adata_0 r102 cdata_0) r102, Ch.bx locmp_4_0 bcmp_4_0 ocmp_4_0 [(I cmp_4_0)] precmp_4_0 sufcmp_4_0, Ch.bx locmp_4_1 bcmp_4_1 ocmp_4_1 [(Sl acmp_4_1 cmp_4_1 ccmp_4_1)] precmp_4_1 sufcmp_4_1, Ch.ro 0 (Sl acmp_4_1 cmp_4_1 ccmp_4_1) cmp_4_1] := H
             have hsl : (Sl adata_0 r91.2.2 cdata_0) = (Sl adata_0 r102 cdata_0) := sl_len hn105.symm
             try rw [hsl]
             try rw [hsl] at H
             clear hsl
             refine w_end ?_
             refine q_then ?_
             refine rg ?_
             refine st (v := (I r91.1)) (rv_move rfl) ?_
             refine st (v := (I r91.1)) (rv_assign rfl) ?_
             refine w_end ?_
             refine q_blk ?_
             refine q_then ?_
             obtain rfl := Option.some.inj h
             exact ⟨_, rfl, _, σ106, fr_join ⟨rfl, rfl, rfl, rfl, rfl, rfl, rfl, trivial⟩, rfl, H.sel' [0, 1, 3, 2] rfl rfl, (hn105.trans (hn94.trans (hn53.trans (hn38.trans (hn25.trans hn4)))))⟩
         ·replace h := selim_r h
          refine q_then_r ?_
          refine q_blk_r ?_
          refine q_then_r ?_
          refine q_blk_r ?_
          obtain rfl := Option.some.inj h
          obtain rfl := hres _ rfl
          exact ⟨rfl, _, σ108, fr_join ⟨rfl, rfl, trivial⟩, rfl, H.sel' [0, 1, 2, 3] rfl rfl, (hn109.trans (hn38.trans (hn25.trans hn4)))⟩
  ·clear hj
   have h := h'
   clear h' H
   rintro e a w ⟨rfl, ρ, σ110, rfl, rfl, H, hn111⟩
   obtain rfl := Option.some.inj h
   exact fin_ret (v := (.tuple #[])) (results_ok Try.results104 res_nil rfl) ⟨rfl, rfl, hn111⟩ (H.sel' [0, 1, 3] rfl rfl)

theorem c_slices_SortFunc_impl_Item_impl_Item__impl_sortByDistance_1 {x_0 : List (Int × (List Int) × Int)} {cmp_1_0 : Int} {cmp_1_1 : List Int} {ax_0 : Option Addr} {cx_0 : Nat} {locmp_1_0 bcmp_1_0 ocmp_1_0 : Nat} {precmp_1_0 sufcmp_1_0 : List Value} {acmp_1_1 : Option Addr} {ccmp_1_1 : Nat} {locmp_1_1 bcmp_1_1 ocmp_1_1 : Nat} {precmp_1_1 sufcmp_1_1 : List Value} {r : (List (Int × (List Int) × Int))} (h : M.slices_SortFunc_impl_Item_impl_Item__impl_sortByDistance_1 x_0 cmp_1_0 cmp_1_1 = some r) :
    Cal2 Try.prog 87 [(Sl ax_0 x_0 cx_0), (.func (.func 88) #[] #[(pt bcmp_1_0 ocmp_1_0), (pt bcmp_1_1 ocmp_1_1)])] [Ch.own 0 0 (Sl ax_0 x_0 cx_0) x_0, Ch.bx locmp_1_0 bcmp_1_0 ocmp_1_0 [(I cmp_1_0)] precmp_1_0 sufcmp_1_0, Ch.bx locmp_1_1 bcmp_1_1 ocmp_1_1 [(Sl acmp_1_1 cmp_1_1 ccmp_1_1)] precmp_1_1 sufcmp_1_1, Ch.ro 0 (Sl acmp_1_1 cmp_1_1 ccmp_1_1) cmp_1_1] (fun n0 v L => v = (.tuple #[]) ∧ L = [Ch.own 0 0 (Sl ax_0 r cx_0) r, Ch.bx locmp_1_0 bcmp_1_0 ocmp_1_0 [(I cmp_1_0)] precmp_1_0 sufcmp_1_0, Ch.bx locmp_1_1 bcmp_1_1 ocmp_1_1 [(Sl acmp_1_1 cmp_1_1 ccmp_1_1)] precmp_1_1 sufcmp_1_1] ∧ r.length = x_0.length) := by
 refine cal2 (n := 14) Try.func87 rfl rfl rfl rfl ?_
 intro S0 σ0 n0 hn0 H
 unfold M.slices_SortFunc_impl_Item_impl_Item__impl_sortByDistance_1 at h
 refine c_seq ?_
 refine rg ?_
 refine st (v := (Sl ax_0 x_0 cx_0)) (rv_move rfl) ?_
 refine st (v := (I (x_0.length : Int))) (rv_len Try.underlying23 rfl) ?_
 refine st (v := (I (x_0.length : Int))) (rv_assign rfl) ?_
 refine w_end ?_
 refine q_then ?_
 refine rg ?_
 refine st (v := (Sl ax_0 x_0 cx_0)) (rv_move rfl) ?_
 refine st (v := (I (x_0.length : Int))) (rv_move rfl) ?_
 refine st (v := (I (x_0.length : Int))) (rv_move rfl) ?_
 refine st (v := (.int .u64 (wk .u64 (x_0.length : Int)))) (rvk_conv (k := .i64) (k' := .u64) (a := (x_0.length : Int)) Try.underlying3 Try.underlying132 rfl) ?_
 obtain ⟨r1, hx2, h'⟩ := bind_some h
 clear h
 have h := h'; clear h'
 have hc3 := c_math_bits_Len hx2
 refine st_call (cx_call hc3 (ent_f hc3.fn rfl) hn0 (H.sel' [0, 1, 2, 3] rfl rfl : Hp S0 σ0 _ ([] ++ _))) (wanted_none _ rfl _) ?_
 rintro _ σ4 ⟨_, ⟨rfl, rfl⟩, H, -⟩
 replace H : Hp S0 σ0 σ4 [Ch.own 0 0 (Sl ax_0 x_0 cx_0) x_0, Ch.bx locmp_1_0 bcmp_1_0 ocmp_1_0 [(I cmp_1_0)] precmp_1_0 sufcmp_1_0, Ch.bx locmp_1_1 bcmp_1_1 ocmp_1_1 [(Sl acmp_1_1 cmp_1_1 ccmp_1_1)] precmp_1_1 sufcmp_1_1, Ch.ro 0 (Sl acmp_1_1 cmp_1_1 ccmp_1_1) cmp_1_1] := H
 refine st (v := (.func (.func 88) #[] #[(pt bcmp_1_0 ocmp_1_0), (pt bcmp_1_1 ocmp_1_1)])) (rv_move rfl) ?_
 obtain ⟨r5, hx6, h'⟩ := bind_some h
 clear h
 have h := h'; clear h'
 have hc7 := c_slices_pdqsortCmpFunc_impl_Item__impl_sortByDistance_1 100 (adata_0 := ax_0) (cdata_0 := cx_0) (locmp_4_0 := locmp_1_0) (bcmp_4_0 := bcmp_1_0) (ocmp_4_0 := ocmp_1_0) (precmp_4_0 := precmp_1_0) (sufcmp_4_0 := sufcmp_1_0) (locmp_4_1 := locmp_1_1) (bcmp_4_1 := bcmp_1_1) (ocmp_4_1 := ocmp_1_1) (precmp_4_1 := precmp_1_1) (sufcmp_4_1 := sufcmp_1_1) (acmp_4_1 := acmp_1_1) (ccmp_4_1 := ccmp_1_1) hx6
 refine st_call (cx_call hc7 (ent_f hc7.fn rfl) hn0 (H.sel' [0, 1, 2, 3, 3] rfl rfl : Hp S0 σ0 _ ([_, _, _, _] ++ _))) (wanted_none _ rfl _) ?_
 rintro _ σ9 ⟨_, ⟨rfl, rfl, hn8⟩, H, -⟩
 replace H : Hp S0 σ0 σ9 [Ch.own 0 0 (Sl ax_0 r5 cx_0) r5, Ch.bx locmp_1_0 bcmp_1_0 ocmp_1_0 [(I cmp_1_0)] precmp_1_0 sufcmp_1_0, Ch.bx locmp_1_1 bcmp_1_1 ocmp_1_1 [(Sl acmp_1_1 cmp_1_1 ccmp_1_1)] precmp_1_1 sufcmp_1_1, Ch.ro 0 (Sl acmp_1_1 cmp_1_1 ccmp_1_1) cmp_1_1] := H
 have hsl : (Sl ax_0 x_0 cx_0) = (Sl ax_0 r5 cx_0) := sl_len hn8.symm
 try rw [hsl]
 try rw [hsl] at H
 clear hsl
 refine w_end ?_
 obtain rfl := Option.some.inj h
 exact fin_end (v := (.tuple #[])) (results_ok Try.results87 res_nil rfl) ⟨rfl, rfl, hn8⟩ (H.sel' [0, 1, 2] rfl rfl)

theorem c_impl_sortByDistance {list_0 : List (Int × (List Int) × Int)} {kind_1 : Int} {at_2 : List Int} {alist_0 : Option Addr} {clist_0 : Nat} {aat_2 : Option Addr} {cat_2 : Nat} {r : (List (Int × (List Int) × Int))} (h : M.impl_sortByDistance list_0 kind_1 at_2 = some r) :
    Cal2 Try.prog 67 [(Sl alist_0 list_0 clist_0), (I kind_1), (Sl aat_2 at_2 cat_2)] [Ch.ro 0 (Sl alist_0 list_0 clist_0) list_0, Ch.ro 0 (Sl aat_2 at_2 cat_2) at_2] (fun n0 v L => ∃ (az1 : Option Addr), ∃ (cz2 : Nat), v = (Sl az1 r cz2) ∧ L = [Ch.own 0 0 (Sl az1 r cz2) r]) := by
 refine cal2 (n := 14) Try.func67 rfl rfl rfl rfl ?_
 intro S0 σ0 n0 hn0 H
 unfold M.impl_sortByDistance at h
 refine c_seq ?_
 refine rg ?_
 refine st_ex (ex_box (cs := [(I kind_1)]) H hn0 rfl rfl) (wanted_none _ rfl _) ?_
 rintro _ σ2 ⟨b1, rfl, H, -⟩
 refine st_ex (ex_box (cs := [(Sl aat_2 at_2 cat_2)]) H hn0 rfl rfl) (wanted_none _ rfl _) ?_
 rintro _ σ4 ⟨b3, rfl, H, -⟩
 refine st (v := (.slice none 0 0)) (rv_assign rfl) ?_
 refine w_end ?_
 refine q_then ?_
 refine c_seq ?_
 refine rg ?_
 refine st (v := (Sl alist_0 list_0 clist_0)) (rv_move rfl) ?_
 obtain ⟨r5, hx6, h'⟩ := bind_some h
 clear h
 have h := h'; clear h'
 have hc7 := c_slices_Clone_impl_Item_impl_Item (as_0 := alist_0) (cs_0 := clist_0) hx6
 refine st_call (cx_call hc7 (ent_f hc7.fn rfl) hn0 (H.sel' [2, 0, 1, 2, 3] rfl rfl : Hp S0 σ0 _ ([_] ++ _))) (wanted_none _ rfl _) ?_
 rintro _ σ10 ⟨_, ⟨a8, c9, rfl, rfl⟩, H, -⟩
 replace H : Hp S0 σ0 σ10 [Ch.own n0 0 (Sl a8 r5 c9) r5, Ch.bx n0 b3 0 [(Sl aat_2 at_2 cat_2)] [] [], Ch.bx n0 b1 0 [(I kind_1)] [] [], Ch.ro 0 (Sl alist_0 list_0 clist_0) list_0, Ch.ro 0 (Sl aat_2 at_2 cat_2) at_2] := H
 refine st (v := (Sl a8 r5 c9)) (rv_assign rfl) ?_
 refine w_end ?_
 refine q_then ?_
 refine c_seq ?_
 refine rg ?_
 refine st (v := (Sl a8 r5 c9)) (rv_move rfl) ?_
 refine st (v := (.func (.func 88) #[] #[(pt b1 0), (pt b3 0)])) (rv_makeFunc (vs := [(pt b1 0), (pt b3 0)]) rfl) ?_
 replace H := H.ownLow 0 0 0 rfl (Nat.zero_le _) (Nat.zero_le _)
 obtain ⟨r11, hx12, h'⟩ := bind_some h
 clear h
 have h := h'; clear h'
 have hc13 := c_slices_SortFunc_impl_Item_impl_Item__impl_sortByDistance_1 (ax_0 := a8) (cx_0 := c9) (locmp_1_0 := n0) (bcmp_1_0 := b1) (ocmp_1_0 := 0) (precmp_1_0 := []) (sufcmp_1_0 := []) (locmp_1_1 := n0) (bcmp_1_1 := b3) (ocmp_1_1 := 0) (precmp_1_1 := []) (sufcmp_1_1 := []) (acmp_1_1 := aat_2) (ccmp_1_1 := cat_2) hx12
 refine st_call (cx_call hc13 (ent_f hc13.fn rfl) hn0 (H.sel' [0, 2, 1, 4, 3, 4] rfl rfl : Hp S0 σ0 _ ([_, _, _, _] ++ _))) (wanted_none _ rfl _) ?_
 rintro _ σ15 ⟨_, ⟨rfl, rfl, hn14⟩, H, -⟩
 replace H : Hp S0 σ0 σ15 [Ch.own 0 0 (Sl a8 r11 c9) r11, Ch.bx n0 b1 0 [(I kind_1)] [] [], Ch.bx n0 b3 0 [(Sl aat_2 at_2 cat_2)] [] [], Ch.ro 0 (Sl alist_0 list_0 clist_0) list_0, Ch.ro 0 (Sl aat_2 at_2 cat_2) at_2] := H
 have hsl : (Sl a8 r5 c9) = (Sl a8 r11 c9) := sl_len hn14.symm
 try rw [hsl]
 try rw [hsl] at H
 clear hsl
 refine w_end ?_
 refine q_then ?_
 refine c_seq ?_
 refine rg ?_
 refine st (v := (Sl a8 r11 c9)) (rv_move rfl) ?_
 refine st (v := (Sl a8 r11 c9)) (rv_assign rfl) ?_
 refine w_end ?_
 refine q_then ?_
 refine c_ret ?_
 obtain rfl := Option.some.inj h
 exact fin_ret (v := (Sl a8 r11 c9)) (results_ok Try.results67 (res_tmp (v := (Sl a8 r11 c9)) rfl res_nil) rfl) ⟨a8, c9, rfl, rfl⟩ (H.sel' [0] rfl rfl)

theorem c_impl_growTree : ∀ (fuel : Nat) {list_0 : List (Int × (List Int) × Int)} {kind_1 : Int} {alist_0 : Option Addr} {clist_0 : Nat} {r : (Tr (Int × (List Int) × Int))} (h : M.impl_growTree fuel list_0 kind_1 = some r),
    Cal2 Try.prog 39 [(Sl alist_0 list_0 clist_0), (I kind_1)] [Ch.ro 0 (Sl alist_0 list_0 clist_0) list_0] (fun n0 v L => ∃ (az1 : Option Addr), v = (.pointer az1) ∧ L = [Ch.pr 0 (.pointer az1) r]) := by
 intro fuel
 induction fuel with
 | zero => intro _ _ _ _ r h; cases h
 | succ fuel ih =>
 ·intro list_0 kind_1 alist_0 clist_0 r h
  replace h : M.impl_growTree_F (M.impl_growTree fuel) list_0 kind_1 = some r := h
  refine cal2 (n := 54) Try.func39 rfl rfl rfl rfl ?_
  intro S0 σ0 n0 hn0 H
  unfold M.impl_growTree_F at h
  refine c_seq ?_
  refine rg ?_
  refine st (v := (.pointer none)) (rv_assign rfl) ?_
  refine w_end ?_
  refine q_then ?_
  refine c_seq ?_
  refine c_seq ?_
  refine rg ?_
  refine st (v := (Sl alist_0 list_0 clist_0)) (rv_move rfl) ?_
  refine st (v := (I (list_0.length : Int))) (rv_len Try.underlying23 rfl) ?_
  refine st (v := (B ((list_0.length : Int) == 0))) (rv_eql (a := (list_0.length : Int)) (b := 0) rfl rfl) ?_
  refine w_end ?_
  refine q_then ?_
  refine cd_cond ((list_0.length : Int) == 0) rfl (fun hb1 => ?_) (fun hb1 => ?_)
  ·replace h := bif_t hb1 h
   refine c_seq ?_
   refine rg ?_
   refine st (v := (.pointer none)) (rv_assign rfl) ?_
   refine w_end ?_
   refine q_then ?_
   refine c_ret ?_
   refine q_then_r ?_
   replace H := H.nilPr (Int × (List Int) × Int) 0
   obtain rfl := Option.some.inj h
   exact fin_ret (v := (.pointer none)) (results_ok Try.results39 (res_tmp (v := (.pointer none)) rfl res_nil) rfl) ⟨none, rfl, rfl⟩ (H.sel' [0] rfl rfl)
  ·replace h := bif_f hb1 h
   refine c_skip ?_
   refine q_then ?_
   refine c_seq ?_
   refine rg ?_
   refine st (v := (Sl alist_0 list_0 clist_0)) (rv_move rfl) ?_
   obtain ⟨x2, hx3, h'⟩ := bind_some h
   clear h
   have h := h'; clear h'
   obtain ⟨b5, o6, hi4, -⟩ := (H.ro 0 rfl).ix hx3
   refine st (v := (pt b5 o6)) (rv_ix Try.underlying23 ti34 rfl rfl hi4) ?_
   obtain ⟨_, ⟨_, _, rfl, rfl, ⟨_, _, rfl, ⟨_, rfl, hR11⟩, rfl⟩⟩, hl7, hc8⟩ := ((H.ro 0 rfl).at hx3 hi4).cells
   obtain ⟨a9, c10, rfl⟩ := hR11.isSl
   replace H := H.add (d := Ch.ro 0 (Sl a9 x2.2.1 c10) x2.2.1) hR11 (fun _ h => h)
   clear hR11
   refine st (v := (.agg #[(I x2.1), (Sl a9 x2.2.1 c10), (I x2.2.2)])) (rv_load Try.underlying34 rfl ti34 rfl hl7 hc8) ?_
   refine st_ex (ex_alloc (cs := [(I 0), (.slice none 0 0), (I 0)]) H hn0 ti34 rfl) (wanted_none _ rfl _) ?_
   rintro _ σ13 ⟨b12, rfl, H, -⟩
   refine st_exS (ex_store_box (k := 0) (cs := [(I 0), (.slice none 0 0), (I 0)]) (vs := [(I x2.1), (Sl a9 x2.2.1 c10), (I x2.2.2)]) (cs' := [(I x2.1), (Sl a9 x2.2.1 c10), (I x2.2.2)]) H (i := 0) rfl ti34 rfl rfl rfl rfl rfl (Nat.le_of_ble_eq_true rfl) (by simp [plain]) rfl) (wanted_none _ rfl _) ?_
   rintro σ14 ⟨H, -⟩
   refine w_end ?_
   refine q_then ?_
   refine c_seq ?_
   refine rgP (σ := σ14) 5 (by kernel_rfl) (by kernel_rfl) (by kernel_rfl) ?_
   refine sq (v := (Sl alist_0 list_0 clist_0)) (rv_move rfl) ?_
   obtain ⟨xs15, hx16, h'⟩ := bind_some h
   clear h
   have h := h'; clear h'
   obtain ⟨a17, c18, hs19, hR20⟩ := (H.ro 2 rfl).slice hx16
   replace H := H.add (d := Ch.ro 0 (Sl a17 xs15 c18) xs15) hR20 (fun _ h => h)
   clear hR20
   refine sq (v := (Sl a17 xs15 c18)) (rv_slice_l Try.underlying23 ti34 hs19 rfl rfl) ?_
   refine sq (v := (I kind_1)) (rv_move rfl) ?_
   refine sq (v := (pt b12 1)) (rv_fieldAddr (off := 1) (ft := 29) Try.underlying34 rfl ti29 rfl rfl) ?_
   have hc21 := H.cell (u := (Sl a9 x2.2.1 c10)) (o' := 1) 1 1 rfl rfl rfl
   refine sq (v := (Sl a9 x2.2.1 c10)) (rv_load1 Try.underlying29 rfl rfl hc21) ?_
   refine sq_end ?_
   intro σ22 hm23
   replace H := H.grow (hm23.mono fun _ h => h); clear hm23
   obtain ⟨r24, hx25, h'⟩ := bind_some h
   clear h
   have h := h'; clear h'
   have hc26 := c_impl_sortByDistance (alist_0 := a17) (clist_0 := c18) (aat_2 := a9) (cat_2 := c10) hx25
   refine st_call (cx_call hc26 (ent_f hc26.fn rfl) hn0 (H.sel' [0, 2, 0, 1, 2, 3] rfl rfl : Hp S0 σ0 _ ([_, _] ++ _))) (wanted_none _ rfl _) ?_
   rintro _ σ29 ⟨_, ⟨a27, c28, rfl, rfl⟩, H, -⟩
   replace H : Hp S0 σ0 σ29 [Ch.own 0 0 (Sl a27 r24 c28) r24, Ch.ro 0 (Sl a17 xs15 c18) xs15, Ch.bx n0 b12 0 [(I x2.1), (Sl a9 x2.2.1 c10), (I x2.2.2)] [] [], Ch.ro 0 (Sl a9 x2.2.1 c10) x2.2.1, Ch.ro 0 (Sl alist_0 list_0 clist_0) list_0] := H
   refine st (v := (Sl a27 r24 c28)) (rv_assign rfl) ?_
   refine w_end ?_
   refine q_then ?_
   refine c_seq ?_
   refine rg ?_
   refine st (v := (Sl a27 r24 c28)) (rv_move rfl) ?_
   refine st (v := (I (r24.length : Int))) (rv_len Try.underlying23 rfl) ?_
   refine st (v := (I (w64 ((r24.length : Int) + 1)))) (rv_add (a := (r24.length : Int)) (b := 1) rfl rfl) ?_
   refine st (v := (I (w64 ((w64 ((r24.length : Int) + 1)).tdiv 2)))) (rv_quo (a := (w64 ((r24.length : Int) + 1))) (b := 2) rfl rfl (by decide)) ?_
   refine st (v := (I (w64 ((w64 ((r24.length : Int) + 1)).tdiv 2)))) (rv_assign rfl) ?_
   refine w_end ?_
   refine q_then ?_
   refine c_seq ?_
   obtain ⟨σ30, hw31, H, -⟩ := H.pub 0 rfl (Nat.le_refl _)
   rw [← hw31]; clear hw31
   have hc32 := H.cells 2 rfl
   obtain ⟨xs33, hx34, h'⟩ := bind_some h
   clear h
   have h := h'; clear h'
   obtain ⟨a35, c36, hs37, hR38⟩ := (H.ro 0 rfl).slice hx34
   replace H := H.add (d := Ch.ro 0 (Sl a35 xs33 c36) xs33) hR38 (fun _ h => h)
   clear hR38
   obtain ⟨r39, hx40, h'⟩ := bind_some h
   clear h
   have h := h'; clear h'
   have hc41 := ih (alist_0 := a35) (clist_0 := c36) hx40
   obtain ⟨xs43, hx44, h'⟩ := bind_some h
   clear h
   have h := h'; clear h'
   obtain ⟨a45, c46, hs47, hR48⟩ := (H.ro 1 rfl).slice hx44
   replace H := H.add (d := Ch.ro 0 (Sl a45 xs43 c46) xs43) hR48 (fun _ h => h)
   clear hR48
   obtain ⟨r49, hx50, h'⟩ := bind_some h
   clear h
   have h := h'; clear h'
   have hc51 := ih (alist_0 := a45) (clist_0 := c46) hx50
   have Hs := H
   refine rg2 (σ := σ30) (Nm := (Option Addr) × (Option Addr)) 11 [5, 10] [[false, false], [true, false], [true, true]] [[(0, 0), (1, 1), (2, 2)], [(0, 0)], [(0, 0)], [(0, 0)], [(0, 0)], [(0, 1)], [(0, 0), (1, 1)], [(0, 0), (1, 1)], [(0, 0), (1, 1)], [(0, 0), (1, 1)], [(1, 2)]] 2 [fun ((a42, a52) : (Option Addr) × (Option Addr)) => fun σm => Hp S0 σ0 σm [Ch.ro 0 (Sl a45 xs43 c46) xs43, Ch.ro 0 (Sl a35 xs33 c36) xs33, Ch.ro 0 (Sl a27 r24 c28) r24, Ch.ro 0 (Sl a17 xs15 c18) xs15, Ch.bx n0 b12 0 [(I x2.1), (Sl a9 x2.2.1 c10), (I x2.2.2)] [] [], Ch.ro 0 (Sl a9 x2.2.1 c10) x2.2.1, Ch.ro 0 (Sl alist_0 list_0 clist_0) list_0] ∧ Md (cov []) σ30 σm, fun ((a42, a52) : (Option Addr) × (Option Addr)) => fun σm => Hp S0 σ0 σm [Ch.pr 0 (.pointer a42) r39, Ch.ro 0 (Sl a45 xs43 c46) xs43, Ch.ro 0 (Sl a35 xs33 c36) xs33, Ch.ro 0 (Sl a27 r24 c28) r24, Ch.ro 0 (Sl a17 xs15 c18) xs15, Ch.bx n0 b12 0 [(I x2.1), (Sl a9 x2.2.1 c10), (I x2.2.2)] [] [], Ch.ro 0 (Sl a9 x2.2.1 c10) x2.2.1, Ch.ro 0 (Sl alist_0 list_0 clist_0) list_0] ∧ Md (cov []) σ30 σm, fun ((a42, a52) : (Option Addr) × (Option Addr)) => fun σm => Hp S0 σ0 σm [Ch.pr 0 (.pointer a52) r49, Ch.pr 0 (.pointer a42) r39, Ch.ro 0 (Sl a45 xs43 c46) xs43, Ch.ro 0 (Sl a35 xs33 c36) xs33, Ch.ro 0 (Sl a27 r24 c28) r24, Ch.ro 0 (Sl a17 xs15 c18) xs15, Ch.bx n0 b12 0 [(I x2.1), (Sl a9 x2.2.1 c10), (I x2.2.2)] [] [], Ch.ro 0 (Sl a9 x2.2.1 c10) x2.2.1, Ch.ro 0 (Sl alist_0 list_0 clist_0) list_0] ∧ Md (cov []) σ30 σm] [fun ((a42, a52) : (Option Addr) × (Option Addr)) => (.agg #[(I x2.1), (Sl a9 x2.2.1 c10), (I x2.2.2)]), fun ((a42, a52) : (Option Addr) × (Option Addr)) => (Sl a27 r24 c28), fun ((a42, a52) : (Option Addr) × (Option Addr)) => (I (w64 ((w64 ((r24.length : Int) + 1)).tdiv 2))), fun ((a42, a52) : (Option Addr) × (Option Addr)) => (Sl a35 xs33 c36), fun ((a42, a52) : (Option Addr) × (Option Addr)) => (I kind_1), fun ((a42, a52) : (Option Addr) × (Option Addr)) => (.pointer a42), fun ((a42, a52) : (Option Addr) × (Option Addr)) => (Sl a27 r24 c28), fun ((a42, a52) : (Option Addr) × (Option Addr)) => (I (w64 ((w64 ((r24.length : Int) + 1)).tdiv 2))), fun ((a42, a52) : (Option Addr) × (Option Addr)) => (Sl a45 xs43 c46), fun ((a42, a52) : (Option Addr) × (Option Addr)) => (I kind_1), fun ((a42, a52) : (Option Addr) × (Option Addr)) => (.pointer a52)] (none, none) (by kernel_rfl) (by kernel_rfl) ?_ ?_ ?_
   ·intro σm m0
    exact ⟨H.grow (m0.mono fun _ h => h.elim), m0⟩
   ·refine all_cons (by
      refine ⟨?_, ?_⟩
      ·rintro ⟨a42, a52⟩ ρ σm hJ hoff hdep
       have e5 : look 54 ρ 5 = (pt b12 0) := look_off (hoff 5 rfl) rfl
       obtain ⟨H, m⟩ := id hJ
       have hc32 := H.cells 4 rfl
       exact dp_v (v := (.agg #[(I x2.1), (Sl a9 x2.2.1 c10), (I x2.2.2)])) (wanted_none _ rfl _) (rv_load (cs := [(I x2.1), (Sl a9 x2.2.1 c10), (I x2.2.2)]) Try.underlying34 rfl ti34 e5 rfl hc32) rfl hJ
      refine ⟨?_, ?_⟩
      ·rintro ⟨a42, a52⟩ ρ σm hJ hoff hdep
       have e5 : look 54 ρ 5 = (pt b12 0) := look_off (hoff 5 rfl) rfl
       obtain ⟨H, m⟩ := id hJ
       have hc32 := H.cells 5 rfl
       exact dp_v (v := (.agg #[(I x2.1), (Sl a9 x2.2.1 c10), (I x2.2.2)])) (wanted_none _ rfl _) (rv_load (cs := [(I x2.1), (Sl a9 x2.2.1 c10), (I x2.2.2)]) Try.underlying34 rfl ti34 e5 rfl hc32) rfl hJ
      refine ⟨?_, ?_⟩
      ·rintro ⟨a42, a52⟩ ρ σm hJ hoff hdep
       have e5 : look 54 ρ 5 = (pt b12 0) := look_off (hoff 5 rfl) rfl
       obtain ⟨H, m⟩ := id hJ
       have hc32 := H.cells 6 rfl
       exact dp_v (v := (.agg #[(I x2.1), (Sl a9 x2.2.1 c10), (I x2.2.2)])) (wanted_none _ rfl _) (rv_load (cs := [(I x2.1), (Sl a9 x2.2.1 c10), (I x2.2.2)]) Try.underlying34 rfl ti34 e5 rfl hc32) rfl hJ
      trivial) ?_
    refine all_cons (obs_v rfl (by
      intro k; rintro ⟨a42, a52⟩ ρ σm hJ hoff hdep
      have e6 : look 54 ρ 6 = (Sl a27 r24 c28) := look_off (hoff 6 rfl) rfl
      exact dp_v (v := (Sl a27 r24 c28)) (wanted_none _ rfl _) (rv_move e6) rfl hJ)) ?_
    refine all_cons (obs_v rfl (by
      intro k; rintro ⟨a42, a52⟩ ρ σm hJ hoff hdep
      have e7 : look 54 ρ 7 = (I (w64 ((w64 ((r24.length : Int) + 1)).tdiv 2))) := look_off (hoff 7 rfl) rfl
      exact dp_v (v := (I (w64 ((w64 ((r24.length : Int) + 1)).tdiv 2)))) (wanted_none _ rfl _) (rv_move e7) rfl hJ)) ?_
    refine all_cons (obs_v rfl (by
      intro k; rintro ⟨a42, a52⟩ ρ σm hJ hoff hdep
      have e26 : look 54 ρ 26 = (Sl a27 r24 c28) := hdep 1 rfl rfl 26 rfl
      have e27 : look 54 ρ 27 = (I (w64 ((w64 ((r24.length : Int) + 1)).tdiv 2))) := hdep 2 rfl rfl 27 rfl
      exact dp_v (v := (Sl a35 xs33 c36)) (wanted_none _ rfl _) (rv_slice_h Try.underlying23 ti34 hs37 e26 e27) rfl hJ)) ?_
    refine all_cons (obs_v rfl (by
      intro k; rintro ⟨a42, a52⟩ ρ σm hJ hoff hdep
      have e1 : look 54 ρ 1 = (I kind_1) := look_off (hoff 1 rfl) rfl
      exact dp_v (v := (I kind_1)) (wanted_none _ rfl _) (rv_move e1) rfl hJ)) ?_
    refine all_cons (by
      refine ⟨?_, ?_⟩
      ·rintro ⟨a42, a52⟩ ρ σm hJ hoff hdep
       have e28 : look 54 ρ 28 = (Sl a35 xs33 c36) := hdep 3 rfl rfl 28 rfl
       have e29 : look 54 ρ 29 = (I kind_1) := hdep 4 rfl rfl 29 rfl
       obtain ⟨H, m⟩ := id hJ
       refine dp_cx (wanted_none _ rfl _) (cx_call hc41 (ent_f hc41.fn (by show [look 54 ρ 28, look 54 ρ 29] = _; rw [e28, e29])) hn0 (H.sel' [1, 0, 1, 2, 3, 4, 5, 6] rfl rfl : Hp S0 σ0 _ ([_] ++ _))) ?_
       rintro _ σq ⟨_, ⟨a42x, rfl, rfl⟩, H2, m2⟩
       exact ⟨_, (a42x, a52), rfl, rfl, ⟨H2.sel' [0, 1, 2, 3, 4, 5, 6, 7] rfl rfl, m.comp0 (m2.mono (fun i h => by simp [cov, Ch.ro] at h))⟩, stab [0, 1, 2, 3, 4, 6, 7, 8, 9] (by kernel_rfl) ⟨rfl, rfl, rfl, rfl, rfl, rfl, rfl, rfl, rfl, trivial⟩⟩
      trivial) ?_
    refine all_cons (obs_v rfl (by
      intro k; rintro ⟨a42, a52⟩ ρ σm hJ hoff hdep
      have e6 : look 54 ρ 6 = (Sl a27 r24 c28) := look_off (hoff 6 rfl) rfl
      exact dp_v (v := (Sl a27 r24 c28)) (wanted_none _ rfl _) (rv_move e6) rfl hJ)) ?_
    refine all_cons (obs_v rfl (by
      intro k; rintro ⟨a42, a52⟩ ρ σm hJ hoff hdep
      have e7 : look 54 ρ 7 = (I (w64 ((w64 ((r24.length : Int) + 1)).tdiv 2))) := look_off (hoff 7 rfl) rfl
      exact dp_v (v := (I (w64 ((w64 ((r24.length : Int) + 1)).tdiv 2)))) (wanted_none _ rfl _) (rv_move e7) rfl hJ)) ?_
    refine all_cons (obs_v rfl (by
      intro k; rintro ⟨a42, a52⟩ ρ σm hJ hoff hdep
      have e31 : look 54 ρ 31 = (Sl a27 r24 c28) := hdep 6 rfl rfl 31 rfl
      have e32 : look 54 ρ 32 = (I (w64 ((w64 ((r24.length : Int) + 1)).tdiv 2))) := hdep 7 rfl rfl 32 rfl
      exact dp_v (v := (Sl a45 xs43 c46)) (wanted_none _ rfl _) (rv_slice_l Try.underlying23 ti34 hs47 e31 e32) rfl hJ)) ?_
    refine all_cons (obs_v rfl (by
      intro k; rintro ⟨a42, a52⟩ ρ σm hJ hoff hdep
      have e1 : look 54 ρ 1 = (I kind_1) := look_off (hoff 1 rfl) rfl
      exact dp_v (v := (I kind_1)) (wanted_none _ rfl _) (rv_move e1) rfl hJ)) ?_
    refine all_cons (by
      refine ⟨?_, ?_⟩
      ·rintro ⟨a42, a52⟩ ρ σm hJ hoff hdep
       have e33 : look 54 ρ 33 = (Sl a45 xs43 c46) := hdep 8 rfl rfl 33 rfl
       have e34 : look 54 ρ 34 = (I kind_1) := hdep 9 rfl rfl 34 rfl
       obtain ⟨H, m⟩ := id hJ
       refine dp_cx (wanted_none _ rfl _) (cx_call hc51 (ent_f hc51.fn (by show [look 54 ρ 33, look 54 ρ 34] = _; rw [e33, e34])) hn0 (H.sel' [1, 0, 1, 2, 3, 4, 5, 6, 7] rfl rfl : Hp S0 σ0 _ ([_] ++ _))) ?_
       rintro _ σq ⟨_, ⟨a52x, rfl, rfl⟩, H2, m2⟩
       exact ⟨_, (a42, a52x), rfl, rfl, ⟨H2.sel' [0, 1, 2, 3, 4, 5, 6, 7, 8] rfl rfl, m.comp0 (m2.mono (fun i h => by simp [cov, Ch.ro] at h))⟩, stab [0, 1, 2, 3, 4, 5, 6, 7, 8, 9] (by kernel_rfl) ⟨rfl, rfl, rfl, rfl, rfl, rfl, rfl, rfl, rfl, rfl, trivial⟩⟩
      trivial) ?_
    exact all_nil
   ·rintro ⟨a42, a52⟩ ρ σ53 hJ hoff hrel
    have e1 : look 54 ρ 1 = (I kind_1) := look_off (hoff 1 rfl) rfl
    have e5 : look 54 ρ 5 = (pt b12 0) := look_off (hoff 5 rfl) rfl
    have e6 : look 54 ρ 6 = (Sl a27 r24 c28) := look_off (hoff 6 rfl) rfl
    have e7 : look 54 ρ 7 = (I (w64 ((w64 ((r24.length : Int) + 1)).tdiv 2))) := look_off (hoff 7 rfl) rfl
    have e25 : look 54 ρ 25 = (.agg #[(I x2.1), (Sl a9 x2.2.1 c10), (I x2.2.2)]) := hrel 0 rfl 25 rfl
    have e30 : look 54 ρ 30 = (.pointer a42) := hrel 5 rfl 30 rfl
    have e35 : look 54 ρ 35 = (.pointer a52) := hrel 10 rfl 35 rfl
    obtain ⟨H, -⟩ := (show Hp S0 σ0 σ53 [Ch.pr 0 (.pointer a52) r49, Ch.pr 0 (.pointer a42) r39, Ch.ro 0 (Sl a45 xs43 c46) xs43, Ch.ro 0 (Sl a35 xs33 c36) xs33, Ch.ro 0 (Sl a27 r24 c28) r24, Ch.ro 0 (Sl a17 xs15 c18) xs15, Ch.bx n0 b12 0 [(I x2.1), (Sl a9 x2.2.1 c10), (I x2.2.2)] [] [], Ch.ro 0 (Sl a9 x2.2.1 c10) x2.2.1, Ch.ro 0 (Sl alist_0 list_0 clist_0) list_0] ∧ Md (cov []) σ30 σ53 from hJ)
    clear hJ Hs
    rw [fr_lookL (L := [(1, (I kind_1)), (5, (pt b12 0)), (6, (Sl a27 r24 c28)), (7, (I (w64 ((w64 ((r24.length : Int) + 1)).tdiv 2)))), (25, (.agg #[(I x2.1), (Sl a9 x2.2.1 c10), (I x2.2.2)])), (30, (.pointer a42)), (35, (.pointer a52))]) ⟨e1, e5, e6, e7, e25, e30, e35, trivial⟩]
    clear hoff hrel e1 e5 e6 e7 e25 e30 e35
    refine st (v := (.agg #[(I x2.1), (Sl a9 x2.2.1 c10), (I x2.2.2), (I 0), (.pointer a42), (.pointer a52)])) (rv_build (ps := [(0, (.agg #[(I x2.1), (Sl a9 x2.2.1 c10), (I x2.2.2)])), (2, (.pointer a42)), (3, (.pointer a52))]) Try.underlying98 ti98 (bp98 Try.underlying98) rfl (by kernel_rfl)) ?_
    refine st_ex (ex_box (cs := [(I x2.1), (Sl a9 x2.2.1 c10), (I x2.2.2), (I 0), (.pointer a42), (.pointer a52)]) H hn0 rfl rfl) (wanted_none _ rfl _) ?_
    rintro _ σ55 ⟨b54, rfl, H, -⟩
    replace H : Hp S0 σ0 σ55 [Ch.bx n0 b54 0 [(I x2.1), (Sl a9 x2.2.1 c10), (I x2.2.2), (I 0), (.pointer a42), (.pointer a52)] [] [], Ch.pr 0 (.pointer a52) r49, Ch.pr 0 (.pointer a42) r39, Ch.ro 0 (Sl a27 r24 c28) r24, Ch.bx n0 b12 0 [(I x2.1), (Sl a9 x2.2.1 c10), (I x2.2.2)] [] [], Ch.ro 0 (Sl a9 x2.2.1 c10) x2.2.1] := H.sel' [0, 1, 2, 5, 7, 8] rfl rfl
    refine st (v := (pt b54 0)) (rv_assign rfl) ?_
    refine w_end ?_
    refine q_then ?_
    refine c_seq ?_
    refine c_seq ?_
    refine rg ?_
    refine st (v := (I (w64 ((w64 ((r24.length : Int) + 1)).tdiv 2)))) (rv_move rfl) ?_
    refine st (v := (B (decide (0 < (w64 ((w64 ((r24.length : Int) + 1)).tdiv 2)))))) (rv_gtr (a := (w64 ((w64 ((r24.length : Int) + 1)).tdiv 2))) (b := 0) rfl rfl) ?_
    refine w_end ?_
    refine q_then ?_
    obtain ⟨o56, hj, h'⟩ := bind_some h
    clear h
    refine c_cut (fun e a w => e = .normal ∧ ∃ (ρ : Nat → Value) (σ : St) (aj1 : Option Addr) (cj2 : Nat) (aj3 : Option Addr) (aj4 : Option Addr), a = fr 54 (updL ρ [(8, (pt b54 0))]) ∧ w = σ.w ∧ Hp S0 σ0 σ [Ch.bx n0 b54 0 [(I o56.1.1), (Sl aj1 o56.1.2.1 cj2), (I o56.1.2.2), (I o56.2.1), (.pointer aj3), (.pointer aj4)] [] [], Ch.ro 0 (Sl aj1 o56.1.2.1 cj2) o56.1.2.1, Ch.pr 0 (.pointer aj3) o56.2.2.1, Ch.pr 0 (.pointer aj4) o56.2.2.2]) ?_ ?_
    ·clear h'
     rename _ = some o56 => h
     refine cd_cond (decide (0 < (w64 ((w64 ((r24.length : Int) + 1)).tdiv 2)))) rfl (fun hb57 => ?_) (fun hb57 => ?_)
     ·replace h := bif_t hb57 h
      have hc58 := H.cell (u := (Sl a9 x2.2.1 c10)) (o' := 1) 4 1 rfl rfl rfl
      obtain ⟨x59, hx60, h'⟩ := bind_some h
      clear h
      have h := h'; clear h'
      obtain ⟨b62, o63, hi61, -⟩ := (H.ro 3 rfl).ix hx60
      obtain ⟨v67, hc68, hR66⟩ := ((H.ro 3 rfl).at hx60 hi61).snd.fst.slice
      obtain ⟨a64, c65, rfl⟩ := hR66.isSl
      replace H := H.add (d := Ch.ro 0 (Sl a64 x59.2.1 c65) x59.2.1) hR66 (fun _ h => h)
      clear hR66
      obtain ⟨r69, hx70, h'⟩ := bind_some h
      clear h
      have h := h'; clear h'
      have hc71 := c_impl_Distance (aa_1 := a9) (ca_1 := c10) (ab_2 := a64) (cb_2 := c65) hx70
      have Hs := H
      refine rg2 (σ := σ55) (Nm := Unit) 11 [10] [[false], [true]] [[(0, 0), (1, 1)], [(0, 0)], [(0, 0)], [(0, 0)], [(0, 0)], [(0, 0)], [(0, 0)], [(0, 0)], [(0, 0)], [(0, 0)], [(0, 1)]] 1 [fun (_nm : Unit) => fun σm => Hp S0 σ0 σm [Ch.ro 0 (Sl a64 x59.2.1 c65) x59.2.1, Ch.bx n0 b54 0 [(I x2.1), (Sl a9 x2.2.1 c10), (I x2.2.2), (I 0), (.pointer a42), (.pointer a52)] [] [], Ch.pr 0 (.pointer a52) r49, Ch.pr 0 (.pointer a42) r39, Ch.ro 0 (Sl a27 r24 c28) r24, Ch.bx n0 b12 0 [(I x2.1), (Sl a9 x2.2.1 c10), (I x2.2.2)] [] [], Ch.ro 0 (Sl a9 x2.2.1 c10) x2.2.1] ∧ Md (cov []) σ55 σm, fun (_nm : Unit) => fun σm => Hp S0 σ0 σm [Ch.ro 0 (Sl a64 x59.2.1 c65) x59.2.1, Ch.bx n0 b54 0 [(I x2.1), (Sl a9 x2.2.1 c10), (I x2.2.2), (I 0), (.pointer a42), (.pointer a52)] [] [], Ch.pr 0 (.pointer a52) r49, Ch.pr 0 (.pointer a42) r39, Ch.ro 0 (Sl a27 r24 c28) r24, Ch.bx n0 b12 0 [(I x2.1), (Sl a9 x2.2.1 c10), (I x2.2.2)] [] [], Ch.ro 0 (Sl a9 x2.2.1 c10) x2.2.1] ∧ Md (cov []) σ55 σm] [fun (_nm : Unit) => (pt b54 0), fun (_nm : Unit) => (I kind_1), fun (_nm : Unit) => (pt b12 1), fun (_nm : Unit) => (Sl a9 x2.2.1 c10), fun (_nm : Unit) => (Sl a27 r24 c28), fun (_nm : Unit) => (I (w64 ((w64 ((r24.length : Int) + 1)).tdiv 2))), fun (_nm : Unit) => (I (w64 ((w64 ((w64 ((r24.length : Int) + 1)).tdiv 2)) - 1))), fun (_nm : Unit) => (pt b62 o63), fun (_nm : Unit) => (pt b62 (o63 + 1)), fun (_nm : Unit) => (Sl a64 x59.2.1 c65), fun (_nm : Unit) => (I r69)] () (by kernel_rfl) (by kernel_rfl) ?_ ?_ ?_
      ·intro σm m0
       exact ⟨H.grow (m0.mono fun _ h => h.elim), m0⟩
      ·refine all_cons (obs_v rfl (by
         intro k; intro _nm ρ σm hJ hoff hdep
         have e8 : look 54 ρ 8 = (pt b54 0) := look_off (hoff 8 rfl) rfl
         exact dp_v (v := (pt b54 0)) (wanted_none _ rfl _) (rv_move e8) rfl hJ)) ?_
       refine all_cons (obs_v rfl (by
         intro k; intro _nm ρ σm hJ hoff hdep
         have e1 : look 54 ρ 1 = (I kind_1) := look_off (hoff 1 rfl) rfl
         exact dp_v (v := (I kind_1)) (wanted_none _ rfl _) (rv_move e1) rfl hJ)) ?_
       refine all_cons (obs_v rfl (by
         intro k; intro _nm ρ σm hJ hoff hdep
         have e5 : look 54 ρ 5 = (pt b12 0) := look_off (hoff 5 rfl) rfl
         exact dp_v (v := (pt b12 1)) (wanted_none _ rfl _) (rv_fieldAddr (off := 1) (ft := 29) Try.underlying34 rfl ti29 rfl e5) rfl hJ)) ?_
       refine all_cons (by
         refine ⟨?_, ?_⟩
         ·intro _nm ρ σm hJ hoff hdep
          have e42 : look 54 ρ 42 = (pt b12 1) := hdep 2 rfl rfl 42 rfl
          obtain ⟨H, m⟩ := id hJ
          have hc58 := H.cell (u := (Sl a9 x2.2.1 c10)) (o' := 1) 5 1 rfl rfl rfl
          exact dp_v (v := (Sl a9 x2.2.1 c10)) (wanted_none _ rfl _) (rv_load1 Try.underlying29 rfl e42 hc58) rfl hJ
         trivial) ?_
       refine all_cons (obs_v rfl (by
         intro k; intro _nm ρ σm hJ hoff hdep
         have e6 : look 54 ρ 6 = (Sl a27 r24 c28) := look_off (hoff 6 rfl) rfl
         exact dp_v (v := (Sl a27 r24 c28)) (wanted_none _ rfl _) (rv_move e6) rfl hJ)) ?_
       refine all_cons (obs_v rfl (by
         intro k; intro _nm ρ σm hJ hoff hdep
         have e7 : look 54 ρ 7 = (I (w64 ((w64 ((r24.length : Int) + 1)).tdiv 2))) := look_off (hoff 7 rfl) rfl
         exact dp_v (v := (I (w64 ((w64 ((r24.length : Int) + 1)).tdiv 2)))) (wanted_none _ rfl _) (rv_move e7) rfl hJ)) ?_
       refine all_cons (obs_v rfl (by
         intro k; intro _nm ρ σm hJ hoff hdep
         have e45 : look 54 ρ 45 = (I (w64 ((w64 ((r24.length : Int) + 1)).tdiv 2))) := hdep 5 rfl rfl 45 rfl
         exact dp_v (v := (I (w64 ((w64 ((w64 ((r24.length : Int) + 1)).tdiv 2)) - 1)))) (wanted_none _ rfl _) (rv_sub (a := (w64 ((w64 ((r24.length : Int) + 1)).tdiv 2))) (b := 1) e45 rfl) rfl hJ)) ?_
       refine all_cons (obs_v rfl (by
         intro k; intro _nm ρ σm hJ hoff hdep
         have e44 : look 54 ρ 44 = (Sl a27 r24 c28) := hdep 4 rfl rfl 44 rfl
         have e46 : look 54 ρ 46 = (I (w64 ((w64 ((w64 ((r24.length : Int) + 1)).tdiv 2)) - 1))) := hdep 6 rfl rfl 46 rfl
         exact dp_v (v := (pt b62 o63)) (wanted_none _ rfl _) (rv_ix Try.underlying23 ti34 e44 e46 hi61) rfl hJ)) ?_
       refine all_cons (obs_v rfl (by
         intro k; intro _nm ρ σm hJ hoff hdep
         have e47 : look 54 ρ 47 = (pt b62 o63) := hdep 7 rfl rfl 47 rfl
         exact dp_v (v := (pt b62 (o63 + 1))) (wanted_none _ rfl _) (rv_fieldAddr (off := 1) (ft := 29) Try.underlying34 rfl ti29 rfl e47) rfl hJ)) ?_
       refine all_cons (by
         refine ⟨?_, ?_⟩
         ·intro _nm ρ σm hJ hoff hdep
          have e48 : look 54 ρ 48 = (pt b62 (o63 + 1)) := hdep 8 rfl rfl 48 rfl
          obtain ⟨H, m⟩ := id hJ
          replace hc68 := (Hs.ro 4 rfl).hmd hx60 hi61 (k := 1) (by decide) hc68 m
          exact dp_v (v := (Sl a64 x59.2.1 c65)) (wanted_none _ rfl _) (rv_load1 Try.underlying29 rfl e48 hc68) rfl hJ
         trivial) ?_
       refine all_cons (by
         refine ⟨?_, ?_⟩
         ·intro _nm ρ σm hJ hoff hdep
          have e41 : look 54 ρ 41 = (I kind_1) := hdep 1 rfl rfl 41 rfl
          have e43 : look 54 ρ 43 = (Sl a9 x2.2.1 c10) := hdep 3 rfl rfl 43 rfl
          have e49 : look 54 ρ 49 = (Sl a64 x59.2.1 c65) := hdep 9 rfl rfl 49 rfl
          obtain ⟨H, m⟩ := id hJ
          refine dp_cx (wanted_none _ rfl _) (cx_call hc71 (ent_f hc71.fn (by show [look 54 ρ 41, look 54 ρ 43, look 54 ρ 49] = _; rw [e41, e43, e49])) hn0 (H.sel' [6, 0, 0, 1, 2, 3, 4, 5, 6] rfl rfl : Hp S0 σ0 _ ([_, _] ++ _))) ?_
          rintro _ σq ⟨_, ⟨rfl, rfl⟩, H2, m2⟩
          exact ⟨_, (), rfl, rfl, ⟨H2.sel' [0, 1, 2, 3, 4, 5, 6] rfl rfl, m.comp0 (m2.mono (fun i h => by simp [cov, Ch.ro] at h))⟩, stab [0, 1, 2, 3, 4, 5, 6, 7, 8, 9] (by kernel_rfl) ⟨rfl, rfl, rfl, rfl, rfl, rfl, rfl, rfl, rfl, rfl, trivial⟩⟩
         trivial) ?_
       exact all_nil
      ·intro _nm ρ σ72 hJ hoff hrel
       have e8 : look 54 ρ 8 = (pt b54 0) := look_off (hoff 8 rfl) rfl
       have e40 : look 54 ρ 40 = (pt b54 0) := hrel 0 rfl 40 rfl
       have e50 : look 54 ρ 50 = (I r69) := hrel 10 rfl 50 rfl
       obtain ⟨H, -⟩ := (show Hp S0 σ0 σ72 [Ch.ro 0 (Sl a64 x59.2.1 c65) x59.2.1, Ch.bx n0 b54 0 [(I x2.1), (Sl a9 x2.2.1 c10), (I x2.2.2), (I 0), (.pointer a42), (.pointer a52)] [] [], Ch.pr 0 (.pointer a52) r49, Ch.pr 0 (.pointer a42) r39, Ch.ro 0 (Sl a27 r24 c28) r24, Ch.bx n0 b12 0 [(I x2.1), (Sl a9 x2.2.1 c10), (I x2.2.2)] [] [], Ch.ro 0 (Sl a9 x2.2.1 c10) x2.2.1] ∧ Md (cov []) σ55 σ72 from hJ)
       clear hJ Hs
       rw [fr_lookL (L := [(8, (pt b54 0)), (40, (pt b54 0)), (50, (I r69))]) ⟨e8, e40, e50, trivial⟩]
       clear hoff hrel e8 e40 e50
       refine st (v := (pt b54 0)) (rv_nilCheck rfl) ?_
       refine st (v := (pt b54 3)) (rv_fieldAddr (off := 3) (ft := 3) Try.underlying98 rfl ti3 rfl rfl) ?_
       refine st_exS (ex_store_box (k := 3) (cs := [(I x2.1), (Sl a9 x2.2.1 c10), (I x2.2.2), (I 0), (.pointer a42), (.pointer a52)]) (vs := [(I r69)]) (cs' := [(I x2.1), (Sl a9 x2.2.1 c10), (I x2.2.2), (I r69), (.pointer a42), (.pointer a52)]) H (i := 1) rfl ti3 rfl rfl rfl rfl rfl (Nat.le_of_ble_eq_true rfl) (by simp [plain]) rfl) (wanted_none _ rfl _) ?_
       rintro σ73 ⟨H, -⟩
       refine w_end ?_
       obtain rfl := Option.some.inj h
       exact ⟨rfl, _, σ73, a9, c10, a42, a52, fr_join ⟨rfl, trivial⟩, rfl, H.sel' [0, 6, 3, 2] rfl rfl⟩
     ·replace h := bif_f hb57 h
      refine c_skip ?_
      obtain rfl := Option.some.inj h
      exact ⟨rfl, _, σ55, a9, c10, a42, a52, fr_join ⟨rfl, trivial⟩, rfl, H.sel' [0, 5, 2, 1] rfl rfl⟩
    ·clear hj
     have h := h'
     clear h' H
     rintro e a w ⟨rfl, ρ, σ74, a75, c76, a77, a78, rfl, rfl, H⟩
     refine q_then ?_
     refine c_seq ?_
     refine rg ?_
     refine st (v := (pt b54 0)) (rv_move rfl) ?_
     refine st (v := (pt b54 0)) (rv_assign rfl) ?_
     refine w_end ?_
     refine q_then ?_
     refine c_ret ?_
     have hp81 : Rp.rp 0 σ74 [(I o56.1.1), (Sl a75 o56.1.2.1 c76), (I o56.1.2.2), (I o56.2.1), (.pointer a77), (.pointer a78)] (((o56.1.1, o56.1.2.1, o56.1.2.2), o56.2.1, o56.2.2.1, o56.2.2.2) : (Int × (List Int) × Int) × Int × (Tr (Int × (List Int) × Int)) × (Tr (Int × (List Int) × Int))) := ⟨[(I o56.1.1), (Sl a75 o56.1.2.1 c76), (I o56.1.2.2)], [(I o56.2.1), (.pointer a77), (.pointer a78)], rfl, ⟨[(I o56.1.1)], [(Sl a75 o56.1.2.1 c76), (I o56.1.2.2)], rfl, rfl, ⟨[(Sl a75 o56.1.2.1 c76)], [(I o56.1.2.2)], rfl, ⟨_, rfl, (H.ro 1 rfl)⟩, rfl⟩⟩, ⟨[(I o56.2.1)], [(.pointer a77), (.pointer a78)], rfl, rfl, ⟨[(.pointer a77)], [(.pointer a78)], rfl, ⟨_, rfl, (H.pr 2 rfl)⟩, ⟨_, rfl, (H.pr 3 rfl)⟩⟩⟩⟩
     obtain ⟨σ79, hw80, H, -⟩ := H.pubTr 0 rfl (Nat.zero_le _) hp81
     rw [← hw80]; clear hw80
     obtain rfl := Option.some.inj h
     exact fin_ret (v := (.pointer (some ⟨b54, 0, none⟩))) (results_ok Try.results39 (res_tmp (v := (.pointer (some ⟨b54, 0, none⟩))) rfl res_nil) rfl) ⟨(some ⟨b54, 0, none⟩), rfl, rfl⟩ (H.sel' [0] rfl rfl)

theorem c_impl_branch_appendTo : ∀ (fuel : Nat) {b_0 : Tr (Int × (List Int) × Int)} {nodes_1 : List (Int × Int × Int × Int)} {ab_0 : Option Addr} {anodes_1 : Option Addr} {cnodes_1 : Nat} {r : (List (Int × Int × Int × Int))} (h : M.impl_branch_appendTo fuel b_0 nodes_1 = some r),
    Cal2 Try.prog 40 [(.pointer ab_0), (Sl anodes_1 nodes_1 cnodes_1)] [Ch.pr 0 (.pointer ab_0) b_0, Ch.own 0 0 (Sl anodes_1 nodes_1 cnodes_1) nodes_1] (fun n0 v L => ∃ (az1 : Option Addr), ∃ (cz2 : Nat), v = (Sl az1 r cz2) ∧ L = [Ch.own 0 n0 (Sl az1 r cz2) r]) := by
 intro fuel
 induction fuel with
 | zero => intro _ _ _ _ _ r h; cases h
 | succ fuel ih =>
 ·intro b_0 nodes_1 ab_0 anodes_1 cnodes_1 r h
  replace h : M.impl_branch_appendTo_F (M.impl_branch_appendTo fuel) b_0 nodes_1 = some r := h
  refine cal2 (n := 59) Try.func40 rfl rfl rfl rfl ?_
  intro S0 σ0 n0 hn0 H
  unfold M.impl_branch_appendTo_F at h
  refine c_seq ?_
  refine rg ?_
  refine st (v := (.slice none 0 0)) (rv_assign rfl) ?_
  refine w_end ?_
  refine q_then ?_
  refine c_seq ?_
  refine c_seq ?_
  refine rg ?_
  refine st (v := (.pointer ab_0)) (rv_move rfl) ?_
  refine st (v := (B b_0.isNil)) (rv_eqlNil Try.underlying60 (H.pr 0 rfl) rfl rfl) ?_
  refine w_end ?_
  refine q_then ?_
  refine cd_cond b_0.isNil rfl (fun hb1 => ?_) (fun hb1 => ?_)
  ·replace h := bif_t hb1 h
   refine c_seq ?_
   refine rg ?_
   refine st (v := (Sl anodes_1 nodes_1 cnodes_1)) (rv_move rfl) ?_
   refine st (v := (Sl anodes_1 nodes_1 cnodes_1)) (rv_assign rfl) ?_
   refine w_end ?_
   refine q_then ?_
   refine c_ret ?_
   refine q_then_r ?_
   replace H := H.ownSc 1 0 n0 rfl (Nat.le_refl _)
   obtain rfl := Option.some.inj h
   exact fin_ret (v := (Sl anodes_1 nodes_1 cnodes_1)) (results_ok Try.results40 (res_tmp (v := (Sl anodes_1 nodes_1 cnodes_1)) rfl res_nil) rfl) ⟨anodes_1, cnodes_1, rfl, rfl⟩ (H.sel' [0] rfl rfl)
  ·replace h := bif_f hb1 h
   refine c_skip ?_
   refine q_then ?_
   refine c_seq ?_
   refine rg ?_
   refine st (v := (Sl anodes_1 nodes_1 cnodes_1)) (rv_move rfl) ?_
   refine st (v := (I (nodes_1.length : Int))) (rv_len Try.underlying26 rfl) ?_
   refine st (v := (I (nodes_1.length : Int))) (rv_assign rfl) ?_
   refine w_end ?_
   refine q_then ?_
   refine c_seq ?_
   obtain ⟨x2, hx3, h'⟩ := bind_some h
   clear h
   have h := h'; clear h'
   obtain ⟨b5, o6, hi4⟩ := (H.pr 0 rfl).ex hx3
   have hc7 := ((H.pr 0 rfl).at hx3 hi4).fst.fst.int
   obtain ⟨x8, hx9, h'⟩ := bind_some h
   clear h
   have h := h'; clear h'
   obtain ⟨b11, o12, hi10⟩ := (H.pr 0 rfl).ex hx9
   have hc13 := ((H.pr 0 rfl).at hx9 hi10).snd.fst.int
   have Hs := H
   refine rg2 (σ := σ0) (Nm := (Nat)) 12 [11] [[false], [true]] [[(0, 0), (1, 1)], [(0, 0)], [(0, 0)], [(0, 0)], [(0, 0)], [(0, 0)], [(0, 0)], [(0, 0)], [(0, 0)], [(0, 0)], [(0, 0)], [(0, 1)]] 1 [fun (b14 : (Nat)) => fun σm => Hp S0 σ0 σm [Ch.pr 0 (.pointer ab_0) b_0, Ch.own 0 0 (Sl anodes_1 nodes_1 cnodes_1) nodes_1] ∧ Md (cov []) σ0 σm, fun (b14 : (Nat)) => fun σm => Hp S0 σ0 σm [Ch.own n0 n0 (Sl (some ⟨b14, 0, none⟩) ([(x2.1.1, x8.2.1, -1, -1)] : List (Int × Int × Int × Int)) 1) ([(x2.1.1, x8.2.1, -1, -1)] : List (Int × Int × Int × Int)), Ch.pr 0 (.pointer ab_0) b_0, Ch.own 0 0 (Sl anodes_1 nodes_1 cnodes_1) nodes_1] ∧ Md (cov []) σ0 σm] [fun (b14 : (Nat)) => (Sl anodes_1 nodes_1 cnodes_1), fun (b14 : (Nat)) => (.pointer ab_0), fun (b14 : (Nat)) => (pt b5 o6), fun (b14 : (Nat)) => (pt b5 (o6 + 0)), fun (b14 : (Nat)) => (pt b5 (o6 + 0)), fun (b14 : (Nat)) => (I x2.1.1), fun (b14 : (Nat)) => (.pointer ab_0), fun (b14 : (Nat)) => (pt b11 o12), fun (b14 : (Nat)) => (pt b11 (o12 + 3)), fun (b14 : (Nat)) => (I x8.2.1), fun (b14 : (Nat)) => (.agg #[(I x2.1.1), (I x8.2.1), (I (-1)), (I (-1))]), fun (b14 : (Nat)) => (Sl (some ⟨b14, 0, none⟩) ([(x2.1.1, x8.2.1, -1, -1)] : List (Int × Int × Int × Int)) 1)] (0) (by kernel_rfl) (by kernel_rfl) ?_ ?_ ?_
   ·intro σm m0
    exact ⟨H.grow (m0.mono fun _ h => h.elim), m0⟩
   ·refine all_cons (obs_v rfl (by
      intro k; intro b14 ρ σm hJ hoff hdep
      have e1 : look 59 ρ 1 = (Sl anodes_1 nodes_1 cnodes_1) := look_off (hoff 1 rfl) rfl
      exact dp_v (v := (Sl anodes_1 nodes_1 cnodes_1)) (wanted_none _ rfl _) (rv_move e1) rfl hJ)) ?_
    refine all_cons (obs_v rfl (by
      intro k; intro b14 ρ σm hJ hoff hdep
      have e0 : look 59 ρ 0 = (.pointer ab_0) := look_off (hoff 0 rfl) rfl
      exact dp_v (v := (.pointer ab_0)) (wanted_none _ rfl _) (rv_move e0) rfl hJ)) ?_
    refine all_cons (obs_v rfl (by
      intro k; intro b14 ρ σm hJ hoff hdep
      have e12 : look 59 ρ 12 = (.pointer ab_0) := hdep 1 rfl rfl 12 rfl
      exact dp_v (v := (pt b5 o6)) (wanted_none _ rfl _) (rv_nilCheckT hi4 e12) rfl hJ)) ?_
    refine all_cons (obs_v rfl (by
      intro k; intro b14 ρ σm hJ hoff hdep
      have e13 : look 59 ρ 13 = (pt b5 o6) := hdep 2 rfl rfl 13 rfl
      exact dp_v (v := (pt b5 (o6 + 0))) (wanted_none _ rfl _) (rv_fieldAddr (off := 0) (ft := 34) Try.underlying98 rfl ti34 rfl e13) rfl hJ)) ?_
    refine all_cons (obs_v rfl (by
      intro k; intro b14 ρ σm hJ hoff hdep
      have e14 : look 59 ρ 14 = (pt b5 (o6 + 0)) := hdep 3 rfl rfl 14 rfl
      exact dp_v (v := (pt b5 (o6 + 0))) (wanted_none _ rfl _) (rv_fieldAddr (off := 0) (ft := 3) Try.underlying34 rfl ti3 rfl e14) rfl hJ)) ?_
    refine all_cons (by
      refine ⟨?_, ?_⟩
      ·intro b14 ρ σm hJ hoff hdep
       have e15 : look 59 ρ 15 = (pt b5 (o6 + 0)) := hdep 4 rfl rfl 15 rfl
       obtain ⟨H, m⟩ := id hJ
       replace hc7 := (Hs.pr 0 rfl).hmd hx3 hi4 (k := 0) (by decide) hc7 m
       exact dp_v (v := (I x2.1.1)) (wanted_none _ rfl _) (rv_load1 Try.underlying3 rfl e15 hc7) rfl hJ
      trivial) ?_
    refine all_cons (obs_v rfl (by
      intro k; intro b14 ρ σm hJ hoff hdep
      have e0 : look 59 ρ 0 = (.pointer ab_0) := look_off (hoff 0 rfl) rfl
      exact dp_v (v := (.pointer ab_0)) (wanted_none _ rfl _) (rv_move e0) rfl hJ)) ?_
    refine all_cons (obs_v rfl (by
      intro k; intro b14 ρ σm hJ hoff hdep
      have e17 : look 59 ρ 17 = (.pointer ab_0) := hdep 6 rfl rfl 17 rfl
      exact dp_v (v := (pt b11 o12)) (wanted_none _ rfl _) (rv_nilCheckT hi10 e17) rfl hJ)) ?_
    refine all_cons (obs_v rfl (by
      intro k; intro b14 ρ σm hJ hoff hdep
      have e18 : look 59 ρ 18 = (pt b11 o12) := hdep 7 rfl rfl 18 rfl
      exact dp_v (v := (pt b11 (o12 + 3))) (wanted_none _ rfl _) (rv_fieldAddr (off := 3) (ft := 3) Try.underlying98 rfl ti3 rfl e18) rfl hJ)) ?_
    refine all_cons (by
      refine ⟨?_, ?_⟩
      ·intro b14 ρ σm hJ hoff hdep
       have e19 : look 59 ρ 19 = (pt b11 (o12 + 3)) := hdep 8 rfl rfl 19 rfl
       obtain ⟨H, m⟩ := id hJ
       replace hc13 := (Hs.pr 0 rfl).hmd hx9 hi10 (k := 3) (by decide) hc13 m
       exact dp_v (v := (I x8.2.1)) (wanted_none _ rfl _) (rv_load1 Try.underlying3 rfl e19 hc13) rfl hJ
      trivial) ?_
    refine all_cons (obs_v rfl (by
      intro k; intro b14 ρ σm hJ hoff hdep
      have e16 : look 59 ρ 16 = (I x2.1.1) := hdep 5 rfl rfl 16 rfl
      have e20 : look 59 ρ 20 = (I x8.2.1) := hdep 9 rfl rfl 20 rfl
      exact dp_v (v := (.agg #[(I x2.1.1), (I x8.2.1), (I (-1)), (I (-1))])) (wanted_none _ rfl _) (rv_build (ps := [(0, (I x2.1.1)), (1, (I x8.2.1)), (2, (I (-1))), (3, (I (-1)))]) Try.underlying31 ti31 (bp31 Try.underlying31) (by show [(0, look 59 ρ 16), (1, look 59 ρ 20), (2, (I (-1))), (3, (I (-1)))] = _; rw [e16, e20]) (by kernel_rfl)) rfl hJ)) ?_
    refine all_cons (by
      refine ⟨?_, ?_⟩
      ·intro b14 ρ σm hJ hoff hdep
       have e21 : look 59 ρ 21 = (.agg #[(I x2.1.1), (I x8.2.1), (I (-1)), (I (-1))]) := hdep 10 rfl rfl 21 rfl
       obtain ⟨H, m⟩ := id hJ
       refine dp_ex (wanted_none _ rfl _) (ex_buildSlice (el := n0) (xs := ([(x2.1.1, x8.2.1, -1, -1)] : List (Int × Int × Int × Int))) (ps := [(0, (.agg #[(I x2.1.1), (I x8.2.1), (I (-1)), (I (-1))]))]) (cs := [(I x2.1.1), (I x8.2.1), (I (-1)), (I (-1))]) H hn0 Try.underlying26 ti31 rfl (by show [(0, look 59 ρ 21)] = _; rw [e21]) (by kernel_rfl) (.cons (c := [(I x2.1.1), (I x8.2.1), (I (-1)), (I (-1))]) ⟨[(I x2.1.1)], [(I x8.2.1), (I (-1)), (I (-1))], rfl, rfl, ⟨[(I x8.2.1)], [(I (-1)), (I (-1))], rfl, rfl, ⟨[(I (-1))], [(I (-1))], rfl, rfl, rfl⟩⟩⟩ (.nil)) rfl) ?_
       rintro _ σq ⟨b14x, rfl, H2, m2⟩
       exact ⟨_, b14x, rfl, rfl, ⟨H2.sel' [0, 1, 2] rfl rfl, m.comp0 m2⟩, stab [0, 1, 2, 3, 4, 5, 6, 7, 8, 9, 10] (by kernel_rfl) ⟨rfl, rfl, rfl, rfl, rfl, rfl, rfl, rfl, rfl, rfl, rfl, trivial⟩⟩
      trivial) ?_
    exact all_nil
   ·intro b14 ρ σ15 hJ hoff hrel
    have e0 : look 59 ρ 0 = (.pointer ab_0) := look_off (hoff 0 rfl) rfl
    have e5 : look 59 ρ 5 = (I (nodes_1.length : Int)) := look_off (hoff 5 rfl) rfl
    have e11 : look 59 ρ 11 = (Sl anodes_1 nodes_1 cnodes_1) := hrel 0 rfl 11 rfl
    have e22 : look 59 ρ 22 = (Sl (some ⟨b14, 0, none⟩) ([(x2.1.1, x8.2.1, -1, -1)] : List (Int × Int × Int × Int)) 1) := hrel 11 rfl 22 rfl
    obtain ⟨H, -⟩ := (show Hp S0 σ0 σ15 [Ch.own n0 n0 (Sl (some ⟨b14, 0, none⟩) ([(x2.1.1, x8.2.1, -1, -1)] : List (Int × Int × Int × Int)) 1) ([(x2.1.1, x8.2.1, -1, -1)] : List (Int × Int × Int × Int)), Ch.pr 0 (.pointer ab_0) b_0, Ch.own 0 0 (Sl anodes_1 nodes_1 cnodes_1) nodes_1] ∧ Md (cov []) σ0 σ15 from hJ)
    clear hJ Hs
    rw [fr_lookL (L := [(0, (.pointer ab_0)), (5, (I (nodes_1.length : Int))), (11, (Sl anodes_1 nodes_1 cnodes_1)), (22, (Sl (some ⟨b14, 0, none⟩) ([(x2.1.1, x8.2.1, -1, -1)] : List (Int × Int × Int × Int)) 1))]) ⟨e0, e5, e11, e22, trivial⟩]
    clear hoff hrel e0 e5 e11 e22
    obtain ⟨xs16, hx17, h'⟩ := bind_some h
    clear h
    have h := h'; clear h'
    refine st_ex (ex_append H (i := 2) rfl Try.underlying26 Try.underlying26 ti31 rfl rfl (by decide) ((H.own 0 rfl).rd.sc) hx17 (Nat.zero_le _) rfl rfl) (wanted_none _ rfl _) ?_
    rintro _ σ20 ⟨a18, c19, rfl, H, -⟩
    refine st (v := (Sl a18 xs16 c19)) (rv_assign rfl) ?_
    refine w_end ?_
    refine q_then ?_
    refine c_seq ?_
    refine c_seq ?_
    refine rg ?_
    refine st (v := (.pointer ab_0)) (rv_move rfl) ?_
    obtain ⟨x21, hx22, h'⟩ := bind_some h
    clear h
    have h := h'; clear h'
    obtain ⟨b24, o25, hi23⟩ := (H.pr 2 rfl).ex hx22
    refine st (v := (pt b24 o25)) (rv_nilCheckT hi23 rfl) ?_
    refine st (v := (pt b24 (o25 + 4))) (rv_fieldAddr (off := 4) (ft := 60) Try.underlying98 rfl ti60 rfl rfl) ?_
    obtain ⟨v29, hc28, hR27⟩ := ((H.pr 2 rfl).at hx22 hi23).snd.snd.fst.tree
    obtain ⟨a26, rfl⟩ := hR27.isPtr
    replace H := H.add (d := Ch.pr 0 (.pointer a26) x21.2.2.1) hR27 (fun _ h => h)
    clear hR27
    refine st (v := (.pointer a26)) (rv_load1 Try.underlying60 rfl rfl hc28) ?_
    refine st (v := (B (!x21.2.2.1.isNil))) (rv_neqNil Try.underlying60 (H.pr 0 rfl) rfl rfl) ?_
    refine w_end ?_
    refine q_then ?_
    obtain ⟨o30, hj, h'⟩ := bind_some h
    clear h
    refine c_cut (fun e a w => e = .normal ∧ ∃ (ρ : Nat → Value) (σ : St) (aj1 : Option Addr) (cj2 : Nat), a = fr 59 (updL ρ [(0, (.pointer ab_0)), (1, (Sl aj1 o30 cj2)), (5, (I (nodes_1.length : Int)))]) ∧ w = σ.w ∧ Hp S0 σ0 σ [Ch.pr 0 (.pointer ab_0) b_0, Ch.own 0 0 (Sl aj1 o30 cj2) o30]) ?_ ?_
    ·clear h'
     rename _ = some o30 => h
     refine cd_cond (!x21.2.2.1.isNil) rfl (fun hb31 => ?_) (fun hb31 => ?_)
     ·replace h := bif_t hb31 h
      refine c_seq ?_
      refine rg ?_
      refine st (v := (Sl a18 xs16 c19)) (rv_move rfl) ?_
      refine st (v := (I (nodes_1.length : Int))) (rv_move rfl) ?_
      refine st (v := (Sl a18 xs16 c19)) (rv_move rfl) ?_
      refine st (v := (I (xs16.length : Int))) (rv_len Try.underlying26 rfl) ?_
      obtain ⟨x32, hx33, h'⟩ := bind_some h
      clear h
      have h := h'; clear h'
      obtain ⟨b35, o36, hi34, -⟩ := (H.own 1 rfl).ix hx33
      refine st (v := (pt b35 o36)) (rv_ix Try.underlying26 ti31 rfl rfl hi34) ?_
      refine st (v := (pt b35 (o36 + 2))) (rv_fieldAddr (off := 2) (ft := 3) Try.underlying31 rfl ti3 rfl rfl) ?_
      refine st_exS (ex_store_own (e' := (x32.1, x32.2.1, (xs16.length : Int), x32.2.2.2)) (vs := [(I (xs16.length : Int))]) (k := 2) H (i := 1) rfl ti3 hx33 hi34 rfl rfl rfl rfl rfl (Nat.le_of_ble_eq_true rfl) (by simp [plain]) (by rintro _ ⟨_, _, rfl, rfl, ⟨_, _, rfl, rfl, ⟨_, _, rfl, rfl, rfl⟩⟩⟩; exact ⟨[(I x32.1)], [(I x32.2.1), (I (xs16.length : Int)), (I x32.2.2.2)], rfl, rfl, ⟨[(I x32.2.1)], [(I (xs16.length : Int)), (I x32.2.2.2)], rfl, rfl, ⟨[(I (xs16.length : Int))], [(I x32.2.2.2)], rfl, rfl, rfl⟩⟩⟩)) (wanted_none _ rfl _) ?_
      rintro σ37 ⟨H, -⟩
      have hsl : (Sl a18 xs16 c19) = (Sl a18 (xs16.set (nodes_1.length : Int).toNat (x32.1, x32.2.1, (xs16.length : Int), x32.2.2.2)) c19) := sl_len List.length_set.symm
      rw [hsl]; rw [hsl] at H; clear hsl
      refine w_end ?_
      refine q_then ?_
      refine rg ?_
      refine st (v := (.pointer ab_0)) (rv_move rfl) ?_
      obtain ⟨x38, hx39, h'⟩ := bind_some h
      clear h
      have h := h'; clear h'
      obtain ⟨b41, o42, hi40⟩ := (H.pr 3 rfl).ex hx39
      refine st (v := (pt b41 o42)) (rv_nilCheckT hi40 rfl) ?_
      refine st (v := (pt b41 (o42 + 4))) (rv_fieldAddr (off := 4) (ft := 60) Try.underlying98 rfl ti60 rfl rfl) ?_
      obtain ⟨v46, hc45, hR44⟩ := ((H.pr 3 rfl).at hx39 hi40).snd.snd.fst.tree
      obtain ⟨a43, rfl⟩ := hR44.isPtr
      replace H := H.add (d := Ch.pr 0 (.pointer a43) x38.2.2.1) hR44 (fun _ h => h)
      clear hR44
      refine st (v := (.pointer a43)) (rv_load1 Try.underlying60 rfl rfl hc45) ?_
      refine st (v := (Sl a18 (xs16.set (nodes_1.length : Int).toNat (x32.1, x32.2.1, (xs16.length : Int), x32.2.2.2)) c19)) (rv_move rfl) ?_
      obtain ⟨r47, hx48, h'⟩ := bind_some h
      clear h
      have h := h'; clear h'
      have hc49 := ih (ab_0 := a43) (anodes_1 := a18) (cnodes_1 := c19) hx48
      refine st_call (cx_call hc49 (ent_f hc49.fn rfl) hn0 (H.sel' [0, 1, 0, 2, 3, 4] rfl rfl : Hp S0 σ0 _ ([_, _] ++ _))) (wanted_none _ rfl _) ?_
      rintro _ σ52 ⟨_, ⟨a50, c51, rfl, rfl⟩, H, -⟩
      replace H : Hp S0 σ0 σ52 [Ch.own 0 n0 (Sl a50 r47 c51) r47, Ch.pr 0 (.pointer a43) x38.2.2.1, Ch.pr 0 (.pointer a26) x21.2.2.1, Ch.own n0 n0 (Sl (some ⟨b14, 0, none⟩) ([(x2.1.1, x8.2.1, -1, -1)] : List (Int × Int × Int × Int)) 1) ([(x2.1.1, x8.2.1, -1, -1)] : List (Int × Int × Int × Int)), Ch.pr 0 (.pointer ab_0) b_0] := H
      refine st (v := (Sl a50 r47 c51)) (rv_assign rfl) ?_
      refine w_end ?_
      replace H := H.ownSc 0 0 0 rfl (Nat.le_refl _)
      obtain rfl := Option.some.inj h
      exact ⟨rfl, _, σ52, a50, c51, fr_join ⟨rfl, rfl, rfl, trivial⟩, rfl, H.sel' [4, 0] rfl rfl⟩
     ·replace h := bif_f hb31 h
      refine c_skip ?_
      obtain rfl := Option.some.inj h
      exact ⟨rfl, _, σ20, a18, c19, fr_join ⟨rfl, rfl, rfl, trivial⟩, rfl, H.sel' [3, 1] rfl rfl⟩
    ·clear hj
     have h := h'
     clear h' H
     rintro e a w ⟨rfl, ρ, σ53, a54, c55, rfl, rfl, H⟩
     refine q_then ?_
     refine c_seq ?_
     refine c_seq ?_
     refine rg ?_
     refine st (v := (.pointer ab_0)) (rv_move rfl) ?_
     obtain ⟨x56, hx57, h'⟩ := bind_some h
     clear h
     have h := h'; clear h'
     obtain ⟨b59, o60, hi58⟩ := (H.pr 0 rfl).ex hx57
     refine st (v := (pt b59 o60)) (rv_nilCheckT hi58 rfl) ?_
     refine st (v := (pt b59 (o60 + 5))) (rv_fieldAddr (off := 5) (ft := 60) Try.underlying98 rfl ti60 rfl rfl) ?_
     obtain ⟨v64, hc63, hR62⟩ := ((H.pr 0 rfl).at hx57 hi58).snd.snd.snd.tree
     obtain ⟨a61, rfl⟩ := hR62.isPtr
     replace H := H.add (d := Ch.pr 0 (.pointer a61) x56.2.2.2) hR62 (fun _ h => h)
     clear hR62
     refine st (v := (.pointer a61)) (rv_load1 Try.underlying60 rfl rfl hc63) ?_
     refine st (v := (B (!x56.2.2.2.isNil))) (rv_neqNil Try.underlying60 (H.pr 0 rfl) rfl rfl) ?_
     refine w_end ?_
     refine q_then ?_
     obtain ⟨o65, hj, h'⟩ := bind_some h
     clear h
     refine c_cut (fun e a w => e = .normal ∧ ∃ (ρ : Nat → Value) (σ : St) (aj1 : Option Addr) (cj2 : Nat), a = fr 59 (updL ρ [(1, (Sl aj1 o65 cj2))]) ∧ w = σ.w ∧ Hp S0 σ0 σ [Ch.own 0 0 (Sl aj1 o65 cj2) o65]) ?_ ?_
     ·clear h'
      rename _ = some o65 => h
      refine cd_cond (!x56.2.2.2.isNil) rfl (fun hb66 => ?_) (fun hb66 => ?_)
      ·replace h := bif_t hb66 h
       refine c_seq ?_
       refine rg ?_
       refine st (v := (Sl a54 o30 c55)) (rv_move rfl) ?_
       refine st (v := (I (nodes_1.length : Int))) (rv_move rfl) ?_
       refine st (v := (Sl a54 o30 c55)) (rv_move rfl) ?_
       refine st (v := (I (o30.length : Int))) (rv_len Try.underlying26 rfl) ?_
       obtain ⟨x67, hx68, h'⟩ := bind_some h
       clear h
       have h := h'; clear h'
       obtain ⟨b70, o71, hi69, -⟩ := (H.own 2 rfl).ix hx68
       refine st (v := (pt b70 o71)) (rv_ix Try.underlying26 ti31 rfl rfl hi69) ?_
       refine st (v := (pt b70 (o71 + 3))) (rv_fieldAddr (off := 3) (ft := 3) Try.underlying31 rfl ti3 rfl rfl) ?_
       refine st_exS (ex_store_own (e' := (x67.1, x67.2.1, x67.2.2.1, (o30.length : Int))) (vs := [(I (o30.length : Int))]) (k := 3) H (i := 2) rfl ti3 hx68 hi69 rfl rfl rfl rfl rfl (Nat.le_of_ble_eq_true rfl) (by simp [plain]) (by rintro _ ⟨_, _, rfl, rfl, ⟨_, _, rfl, rfl, ⟨_, _, rfl, rfl, rfl⟩⟩⟩; exact ⟨[(I x67.1)], [(I x67.2.1), (I x67.2.2.1), (I (o30.length : Int))], rfl, rfl, ⟨[(I x67.2.1)], [(I x67.2.2.1), (I (o30.length : Int))], rfl, rfl, ⟨[(I x67.2.2.1)], [(I (o30.length : Int))], rfl, rfl, rfl⟩⟩⟩)) (wanted_none _ rfl _) ?_
       rintro σ72 ⟨H, -⟩
       have hsl : (Sl a54 o30 c55) = (Sl a54 (o30.set (nodes_1.length : Int).toNat (x67.1, x67.2.1, x67.2.2.1, (o30.length : Int))) c55) := sl_len List.length_set.symm
       rw [hsl]; rw [hsl] at H; clear hsl
       refine w_end ?_
       refine q_then ?_
       refine rg ?_
       refine st (v := (.pointer ab_0)) (rv_move rfl) ?_
       obtain ⟨x73, hx74, h'⟩ := bind_some h
       clear h
       have h := h'; clear h'
       obtain ⟨b76, o77, hi75⟩ := (H.pr 2 rfl).ex hx74
       refine st (v := (pt b76 o77)) (rv_nilCheckT hi75 rfl) ?_
       refine st (v := (pt b76 (o77 + 5))) (rv_fieldAddr (off := 5) (ft := 60) Try.underlying98 rfl ti60 rfl rfl) ?_
       obtain ⟨v81, hc80, hR79⟩ := ((H.pr 2 rfl).at hx74 hi75).snd.snd.snd.tree
       obtain ⟨a78, rfl⟩ := hR79.isPtr
       replace H := H.add (d := Ch.pr 0 (.pointer a78) x73.2.2.2) hR79 (fun _ h => h)
       clear hR79
       refine st (v := (.pointer a78)) (rv_load1 Try.underlying60 rfl rfl hc80) ?_
       refine st (v := (Sl a54 (o30.set (nodes_1.length : Int).toNat (x67.1, x67.2.1, x67.2.2.1, (o30.length : Int))) c55)) (rv_move rfl) ?_
       obtain ⟨r82, hx83, h'⟩ := bind_some h
       clear h
       have h := h'; clear h'
       have hc84 := ih (ab_0 := a78) (anodes_1 := a54) (cnodes_1 := c55) hx83
       refine st_call (cx_call hc84 (ent_f hc84.fn rfl) hn0 (H.sel' [0, 1, 0, 2, 3] rfl rfl : Hp S0 σ0 _ ([_, _] ++ _))) (wanted_none _ rfl _) ?_
       rintro _ σ87 ⟨_, ⟨a85, c86, rfl, rfl⟩, H, -⟩
       replace H : Hp S0 σ0 σ87 [Ch.own 0 n0 (Sl a85 r82 c86) r82, Ch.pr 0 (.pointer a78) x73.2.2.2, Ch.pr 0 (.pointer a61) x56.2.2.2, Ch.pr 0 (.pointer ab_0) b_0] := H
       refine st (v := (Sl a85 r82 c86)) (rv_assign rfl) ?_
       refine w_end ?_
       replace H := H.ownSc 0 0 0 rfl (Nat.le_refl _)
       obtain rfl := Option.some.inj h
       exact ⟨rfl, _, σ87, a85, c86, fr_join ⟨rfl, trivial⟩, rfl, H.sel' [0] rfl rfl⟩
      ·replace h := bif_f hb66 h
       refine c_skip ?_
       obtain rfl := Option.some.inj h
       exact ⟨rfl, _, σ53, a54, c55, fr_join ⟨rfl, trivial⟩, rfl, H.sel' [2] rfl rfl⟩
     ·clear hj
      have h := h'
      clear h' H
      rintro e a w ⟨rfl, ρ, σ88, a89, c90, rfl, rfl, H⟩
      refine q_then ?_
      refine c_seq ?_
      refine rg ?_
      refine st (v := (Sl a89 o65 c90)) (rv_move rfl) ?_
      refine st (v := (Sl a89 o65 c90)) (rv_assign rfl) ?_
      refine w_end ?_
      refine q_then ?_
      refine c_ret ?_
      replace H := H.ownSc 0 0 n0 rfl (Nat.le_refl _)
      obtain rfl := Option.some.inj h
      exact fin_ret (v := (Sl a89 o65 c90)) (results_ok Try.results40 (res_tmp (v := (Sl a89 o65 c90)) rfl res_nil) rfl) ⟨a89, c90, rfl, rfl⟩ (H.sel' [0] rfl rfl)

theorem c_impl_BuildTree {list_0 : List (Int × (List Int) × Int)} {kind_1 : Int} {alist_0 : Option Addr} {clist_0 : Nat} {r : (List (Int × Int × Int × Int))} (h : M.impl_BuildTree list_0 kind_1 = some r) :
    Cal2 Try.prog 13 [(Sl alist_0 list_0 clist_0), (I kind_1)] [Ch.ro 0 (Sl alist_0 list_0 clist_0) list_0] (fun n0 v L => ∃ (az1 : Option Addr), ∃ (cz2 : Nat), v = (Sl az1 r cz2) ∧ L = [Ch.own 0 n0 (Sl az1 r cz2) r]) := by
 refine cal2 (n := 17) Try.func13 rfl rfl rfl rfl ?_
 intro S0 σ0 n0 hn0 H
 unfold M.impl_BuildTree at h
 refine c_seq ?_
 refine rg ?_
 refine st (v := (.slice none 0 0)) (rv_assign rfl) ?_
 refine w_end ?_
 refine q_then ?_
 refine c_seq ?_
 refine c_seq ?_
 obtain ⟨o1, hj, h'⟩ := bind_some h
 clear h
 refine c_cut (fun e a w => e = .normal ∧ ∃ (ρ : Nat → Value) (σ : St), a = fr 17 (updL ρ [(0, (Sl alist_0 list_0 clist_0)), (1, (I kind_1)), (12, (B o1))]) ∧ w = σ.w ∧ Hp S0 σ0 σ [Ch.ro 0 (Sl alist_0 list_0 clist_0) list_0]) ?_ ?_
 ·clear h'
  rename _ = some o1 => h
  refine rg ?_
  refine st (v := (Sl alist_0 list_0 clist_0)) (rv_move rfl) ?_
  obtain ⟨r2, hx3, h'⟩ := bind_some h
  clear h
  have h := h'; clear h'
  have hc4 := c_impl_ValidStore (alist_0 := alist_0) (clist_0 := clist_0) hx3
  refine st_call (cx_call hc4 (ent_f hc4.fn rfl) hn0 (H.sel' [0, 0] rfl rfl : Hp S0 σ0 _ ([_] ++ _))) (wanted_none _ rfl _) ?_
  rintro _ σ5 ⟨_, ⟨rfl, rfl⟩, H, -⟩
  replace H : Hp S0 σ0 σ5 [Ch.ro 0 (Sl alist_0 list_0 clist_0) list_0] := H
  refine st (v := (B (!r2))) (rv_not rfl) ?_
  refine st (v := (B (!r2))) (rv_move rfl) ?_
  rcases Bool.eq_false_or_eq_true (!r2) with hb6 | hb6
  ·replace h := bif_t hb6 h
   refine st_skip (congrArg some hb6) ?_
   refine st_skip (congrArg some hb6) ?_
   refine st_skip (congrArg some hb6) ?_
   refine st (v := (B true)) (rv_pick_t (congrArg B hb6) rfl) ?_
   refine w_end ?_
   obtain rfl := Option.some.inj h
   exact ⟨rfl, _, σ5, fr_join ⟨rfl, rfl, rfl, trivial⟩, rfl, H.sel' [0] rfl rfl⟩
  ·replace h := bif_f hb6 h
   refine st_g (v := (I kind_1)) (congrArg some hb6) (rv_move rfl) ?_
   obtain ⟨r7, hx8, h'⟩ := bind_some h
   clear h
   have h := h'; clear h'
   have hc9 := c_impl_validTreeKind hx8
   refine st_call (cx_call hc9 (ent_f hc9.fn rfl) hn0 (H.sel' [0] rfl rfl : Hp S0 σ0 _ ([] ++ _))) (wanted_yes rfl (by exact (congrArg some hb6))) ?_
   rintro _ σ10 ⟨_, ⟨rfl, rfl⟩, H, -⟩
   replace H : Hp S0 σ0 σ10 [Ch.ro 0 (Sl alist_0 list_0 clist_0) list_0] := H
   refine st_g (v := (B (!r7))) (congrArg some hb6) (rv_not rfl) ?_
   refine st (v := (B (!r7))) (rv_pick_f (congrArg B hb6) rfl) ?_
   refine w_end ?_
   obtain rfl := Option.some.inj h
   exact ⟨rfl, _, σ10, fr_join ⟨rfl, rfl, rfl, trivial⟩, rfl, H.sel' [0] rfl rfl⟩
 ·clear hj
  have h := h'
  clear h' H
  rintro e a w ⟨rfl, ρ, σ11, rfl, rfl, H⟩
  refine q_then ?_
  refine cd_cond o1 rfl (fun hb12 => ?_) (fun hb12 => ?_)
  ·replace h := bif_t hb12 h
   refine c_seq ?_
   refine rg ?_
   refine st (v := (.slice none 0 0)) (rv_assign rfl) ?_
   refine w_end ?_
   refine q_then ?_
   refine c_ret ?_
   refine q_then_r ?_
   replace H := H.nilOwn (Int × Int × Int × Int) 0 n0
   obtain rfl := Option.some.inj h
   exact fin_ret (v := (.slice none 0 0)) (results_ok Try.results13 (res_tmp (v := (.slice none 0 0)) rfl res_nil) rfl) ⟨none, 0, rfl, rfl⟩ (H.sel' [0] rfl rfl)
  ·replace h := bif_f hb12 h
   refine c_skip ?_
   refine q_then ?_
   refine c_seq ?_
   refine rg ?_
   refine st (v := (Sl alist_0 list_0 clist_0)) (rv_move rfl) ?_
   refine st (v := (I kind_1)) (rv_move rfl) ?_
   obtain ⟨r13, hx14, h'⟩ := bind_some h
   clear h
   have h := h'; clear h'
   have hc15 := c_impl_growTree 100 (alist_0 := alist_0) (clist_0 := clist_0) hx14
   refine st_call (cx_call hc15 (ent_f hc15.fn rfl) hn0 (H.sel' [0, 0] rfl rfl : Hp S0 σ0 _ ([_] ++ _))) (wanted_none _ rfl _) ?_
   rintro _ σ17 ⟨_, ⟨a16, rfl, rfl⟩, H, -⟩
   replace H : Hp S0 σ0 σ17 [Ch.pr 0 (.pointer a16) r13, Ch.ro 0 (Sl alist_0 list_0 clist_0) list_0] := H
   replace H := H.nilOwn (Int × Int × Int × Int) 0 0
   obtain ⟨r18, hx19, h'⟩ := bind_some h
   clear h
   have h := h'; clear h'
   have hc20 := c_impl_branch_appendTo 100 (ab_0 := a16) (anodes_1 := none) (cnodes_1 := 0) hx19
   refine st_call (cx_call hc20 (ent_f hc20.fn rfl) hn0 (H.sel' [1, 0, 1, 2] rfl rfl : Hp S0 σ0 _ ([_, _] ++ _))) (wanted_none _ rfl _) ?_
   rintro _ σ23 ⟨_, ⟨a21, c22, rfl, rfl⟩, H, -⟩
   replace H : Hp S0 σ0 σ23 [Ch.own 0 n0 (Sl a21 r18 c22) r18, Ch.pr 0 (.pointer a16) r13, Ch.ro 0 (Sl alist_0 list_0 clist_0) list_0] := H
   refine st (v := (Sl a21 r18 c22)) (rv_assign rfl) ?_
   refine w_end ?_
   refine q_then ?_
   refine c_ret ?_
   obtain rfl := Option.some.inj h
   exact fin_ret (v := (Sl a21 r18 c22)) (results_ok Try.results13 (res_tmp (v := (Sl a21 r18 c22)) rfl res_nil) rfl) ⟨a21, c22, rfl, rfl⟩ (H.sel' [0] rfl rfl)

theorem c_laws_equalNodes {a_0 : List (Int × Int × Int × Int)} {b_1 : List (Int × Int × Int × Int)} {aa_0 : Option Addr} {ca_0 : Nat} {ab_1 : Option Addr} {cb_1 : Nat} {r : Bool} (h : M.laws_equalNodes a_0 b_1 = some r) :
    Cal2 Try.prog 14 [(Sl aa_0 a_0 ca_0), (Sl ab_1 b_1 cb_1)] [Ch.ro 0 (Sl aa_0 a_0 ca_0) a_0, Ch.ro 0 (Sl ab_1 b_1 cb_1) b_1] (fun n0 v L => v = (B r) ∧ L = []) := by
 refine cal2 (n := 26) Try.func14 rfl rfl rfl rfl ?_
 intro S0 σ0 n0 hn0 H
 unfold M.laws_equalNodes at h
 refine c_seq ?_
 refine rg ?_
 refine st (v := (B false)) (rv_assign rfl) ?_
 refine w_end ?_
 refine q_then ?_
 refine c_seq ?_
 refine c_seq ?_
 refine rg ?_
 refine st (v := (Sl aa_0 a_0 ca_0)) (rv_move rfl) ?_
 refine st (v := (I (a_0.length : Int))) (rv_len Try.underlying26 rfl) ?_
 refine st (v := (Sl ab_1 b_1 cb_1)) (rv_move rfl) ?_
 refine st (v := (I (b_1.length : Int))) (rv_len Try.underlying26 rfl) ?_
 refine st (v := (B ((a_0.length : Int) != (b_1.length : Int)))) (rv_neq (a := (a_0.length : Int)) (b := (b_1.length : Int)) rfl rfl) ?_
 refine w_end ?_
 refine q_then ?_
 refine cd_cond ((a_0.length : Int) != (b_1.length : Int)) rfl (fun hb1 => ?_) (fun hb1 => ?_)
 ·replace h := bif_t hb1 h
  refine c_seq ?_
  refine rg ?_
  refine st (v := (B false)) (rv_assign rfl) ?_
  refine w_end ?_
  refine q_then ?_
  refine c_ret ?_
  refine q_then_r ?_
  obtain rfl := Option.some.inj h
  exact fin_ret (v := (B false)) (results_ok Try.results14 (res_tmp (v := (B false)) rfl res_nil) rfl) ⟨rfl, rfl⟩ (H.sel' [] rfl rfl)
 ·replace h := bif_f hb1 h
  refine c_skip ?_
  refine q_then ?_
  refine c_seq ?_
  refine c_seq ?_
  refine rg ?_
  refine st (v := (I 0)) (rv_assign rfl) ?_
  refine w_end ?_
  refine q_then ?_
  obtain ⟨o2, hj, h'⟩ := bind_some h
  clear h
  refine c_cut (fun e a w => (∃ t, o2 = (.inl t) ∧ e = .normal ∧ ∃ (ρ : Nat → Value) (σ : St), a = fr 26 (updL ρ []) ∧ w = σ.w ∧ Hp S0 σ0 σ []) ∨ (∃ t, o2 = (.inr t) ∧ e = .ret ∧ ∃ (ρ : Nat → Value) (σ : St), a = fr 26 (updL ρ [(4, (B t))]) ∧ w = σ.w ∧ Hp S0 σ0 σ [])) ?_ ?_
  ·clear h'
   rename _ = some o2 => h
   refine c_blk ?_
   refine wp_loopM _ h (fun s3 a w => ∃ (ρ : Nat → Value) (σ : St), a = fr 26 (updL ρ [(0, (Sl aa_0 a_0 ca_0)), (1, (Sl ab_1 b_1 cb_1)), (5, (I s3))]) ∧ w = σ.w ∧ Hp S0 σ0 σ [Ch.ro 0 (Sl aa_0 a_0 ca_0) a_0, Ch.ro 0 (Sl ab_1 b_1 cb_1) b_1]) ⟨_, σ0, fr_join ⟨rfl, rfl, rfl, trivial⟩, rfl, H.sel' [0, 1] rfl rfl⟩ ?_
   clear h H
   rintro s3 a w o ⟨ρ, σ4, rfl, rfl, H⟩ h hres
   refine c_seq ?_
   refine c_seq ?_
   refine rg ?_
   refine st (v := (I s3)) (rv_move rfl) ?_
   refine st (v := (Sl aa_0 a_0 ca_0)) (rv_move rfl) ?_
   refine st (v := (I (a_0.length : Int))) (rv_len Try.underlying26 rfl) ?_
   refine st (v := (B (decide (s3 < (a_0.length : Int))))) (rv_lss (a := s3) (b := (a_0.length : Int)) rfl rfl) ?_
   refine w_end ?_
   refine q_then ?_
   refine cd_cond (decide (s3 < (a_0.length : Int))) rfl (fun hb5 => ?_) (fun hb5 => ?_)
   ·replace h := bif_t hb5 h
    refine c_skip ?_
    refine q_then ?_
    refine c_seq ?_
    refine c_blk ?_
    refine c_seq ?_
    refine rgP (σ := σ4) 8 (by kernel_rfl) (by kernel_rfl) (by kernel_rfl) ?_
    refine sq (v := (Sl aa_0 a_0 ca_0)) (rv_move rfl) ?_
    refine sq (v := (I s3)) (rv_move rfl) ?_
    obtain ⟨x6, hx7, h'⟩ := bind_some h
    clear h
    have h := h'; clear h'
    obtain ⟨b9, o10, hi8, -⟩ := (H.ro 0 rfl).ix hx7
    refine sq (v := (pt b9 o10)) (rv_ix Try.underlying26 ti31 rfl rfl hi8) ?_
    obtain ⟨_, ⟨_, _, rfl, rfl, ⟨_, _, rfl, rfl, ⟨_, _, rfl, rfl, rfl⟩⟩⟩, hl11, hc12⟩ := ((H.ro 0 rfl).at hx7 hi8).cells
    refine sq (v := (.agg #[(I x6.1), (I x6.2.1), (I x6.2.2.1), (I x6.2.2.2)])) (rv_load Try.underlying31 rfl ti31 rfl hl11 hc12) ?_
    refine sq (v := (Sl ab_1 b_1 cb_1)) (rv_move rfl) ?_
    refine sq (v := (I s3)) (rv_move rfl) ?_
    obtain ⟨x13, hx14, h'⟩ := bind_some h
    clear h
    have h := h'; clear h'
    obtain ⟨b16, o17, hi15, -⟩ := (H.ro 1 rfl).ix hx14
    refine sq (v := (pt b16 o17)) (rv_ix Try.underlying26 ti31 rfl rfl hi15) ?_
    obtain ⟨_, ⟨_, _, rfl, rfl, ⟨_, _, rfl, rfl, ⟨_, _, rfl, rfl, rfl⟩⟩⟩, hl18, hc19⟩ := ((H.ro 1 rfl).at hx14 hi15).cells
    refine sq (v := (.agg #[(I x13.1), (I x13.2.1), (I x13.2.2.1), (I x13.2.2.2)])) (rv_load Try.underlying31 rfl ti31 rfl hl18 hc19) ?_
    refine sq_end ?_
    intro σ20 hm21
    replace H := H.grow (hm21.mono fun _ h => h); clear hm21
    refine st (v := (B (!(([x6.1, x6.2.1, x6.2.2.1, x6.2.2.2] : List Int) == ([x13.1, x13.2.1, x13.2.2.1, x13.2.2.2] : List Int))))) (rv_neqI (xs := ([x6.1, x6.2.1, x6.2.2.1, x6.2.2.2] : List Int)) (ys := ([x13.1, x13.2.1, x13.2.2.1, x13.2.2.2] : List Int)) (by kernel_rfl) (by kernel_rfl) (by kernel_rfl) rfl (by kernel_rfl) (by exact intfs31) rfl rfl) ?_
    refine w_end ?_
    refine q_then ?_
    refine cd_cond (!(([x6.1, x6.2.1, x6.2.2.1, x6.2.2.2] : List Int) == ([x13.1, x13.2.1, x13.2.2.1, x13.2.2.2] : List Int))) rfl (fun hb22 => ?_) (fun hb22 => ?_)
    ·replace h := bif_t hb22 h
     refine c_seq ?_
     refine rg ?_
     refine st (v := (B false)) (rv_assign rfl) ?_
     refine w_end ?_
     refine q_then ?_
     refine c_ret ?_
     refine q_blk_r ?_
     refine q_then_r ?_
     refine q_then_r ?_
     refine q_blk_r ?_
     obtain rfl := Option.some.inj h
     obtain rfl := hres _ rfl
     exact .inr (⟨_, rfl, rfl, _, σ20, fr_join ⟨rfl, trivial⟩, rfl, H.sel' [] rfl rfl⟩)
    ·replace h := bif_f hb22 h
     refine c_skip ?_
     refine q_blk ?_
     refine q_then ?_
     refine rg ?_
     refine st (v := (I s3)) (rv_move rfl) ?_
     refine st (v := (I (w64 (s3 + 1)))) (rv_add (a := s3) (b := 1) rfl rfl) ?_
     refine st (v := (I (w64 (s3 + 1)))) (rv_assign rfl) ?_
     refine w_end ?_
     refine q_then ?_
     obtain rfl := Option.some.inj h
     exact ⟨_, rfl, _, σ20, fr_join ⟨rfl, rfl, rfl, trivial⟩, rfl, H.sel' [0, 1] rfl rfl⟩
   ·replace h := bif_f hb5 h
    refine c_exit ?_
    refine q_then_x ?_
    refine q_then_x ?_
    refine q_blk_hit ?_
    obtain rfl := Option.some.inj h
    obtain rfl := hres _ rfl
    exact .inl ⟨_, rfl, rfl, _, σ4, fr_join trivial, rfl, H.sel' [] rfl rfl⟩
  ·clear hj
   have h := h'
   clear h' H
   rintro e a w (⟨t23, rfl, rfl, ρ, σ24, rfl, rfl, H⟩ | ⟨t25, rfl, rfl, ρ, σ26, rfl, rfl, H⟩)
   ·replace h := selim_l h
    refine q_then ?_
    refine c_seq ?_
    refine rg ?_
    refine st (v := (B true)) (rv_assign rfl) ?_
    refine w_end ?_
    refine q_then ?_
    refine c_ret ?_
    obtain rfl := Option.some.inj h
    exact fin_ret (v := (B true)) (results_ok Try.results14 (res_tmp (v := (B true)) rfl res_nil) rfl) ⟨rfl, rfl⟩ (H.sel' [] rfl rfl)
   ·replace h := selim_r h
    refine q_then_r ?_
    obtain rfl := Option.some.inj h
    exact fin_ret (v := (B t25)) (results_ok Try.results14 (res_tmp (v := (B t25)) rfl res_nil) rfl) ⟨rfl, rfl⟩ (H.sel' [] rfl rfl)

theorem c_slices_Equal_impl_Node_impl_Node {s1_0 : List (Int × Int × Int × Int)} {s2_1 : List (Int × Int × Int × Int)} {as1_0 : Option Addr} {cs1_0 : Nat} {as2_1 : Option Addr} {cs2_1 : Nat} {r : Bool} (h : M.slices_Equal_impl_Node_impl_Node s1_0 s2_1 = some r) :
    Cal2 Try.prog 44 [(Sl as1_0 s1_0 cs1_0), (Sl as2_1 s2_1 cs2_1)] [Ch.ro 0 (Sl as1_0 s1_0 cs1_0) s1_0, Ch.ro 0 (Sl as2_1 s2_1 cs2_1) s2_1] (fun n0 v L => v = (B r) ∧ L = []) := by
 refine cal2 (n := 26) Try.func44 rfl rfl rfl rfl ?_
 intro S0 σ0 n0 hn0 H
 unfold M.slices_Equal_impl_Node_impl_Node at h
 refine c_seq ?_
 refine rg ?_
 refine st (v := (B false)) (rv_assign rfl) ?_
 refine w_end ?_
 refine q_then ?_
 refine c_seq ?_
 refine c_seq ?_
 refine rg ?_
 refine st (v := (Sl as1_0 s1_0 cs1_0)) (rv_move rfl) ?_
 refine st (v := (I (s1_0.length : Int))) (rv_len Try.underlying26 rfl) ?_
 refine st (v := (Sl as2_1 s2_1 cs2_1)) (rv_move rfl) ?_
 refine st (v := (I (s2_1.length : Int))) (rv_len Try.underlying26 rfl) ?_
 refine st (v := (B ((s1_0.length : Int) != (s2_1.length : Int)))) (rv_neq (a := (s1_0.length : Int)) (b := (s2_1.length : Int)) rfl rfl) ?_
 refine w_end ?_
 refine q_then ?_
 refine cd_cond ((s1_0.length : Int) != (s2_1.length : Int)) rfl (fun hb1 => ?_) (fun hb1 => ?_)
 ·replace h := bif_t hb1 h
  refine c_seq ?_
  refine rg ?_
  refine st (v := (B false)) (rv_assign rfl) ?_
  refine w_end ?_
  refine q_then ?_
  refine c_ret ?_
  refine q_then_r ?_
  obtain rfl := Option.some.inj h
  exact fin_ret (v := (B false)) (results_ok Try.results44 (res_tmp (v := (B false)) rfl res_nil) rfl) ⟨rfl, rfl⟩ (H.sel' [] rfl rfl)
 ·replace h := bif_f hb1 h
  refine c_skip ?_
  refine q_then ?_
  refine c_seq ?_
  refine c_seq ?_
  refine rg ?_
  refine st (v := (Sl as1_0 s1_0 cs1_0)) (rv_move rfl) ?_
  refine st (v := (I (s1_0.length : Int))) (rv_len Try.underlying26 rfl) ?_
  refine st (v := (I 0)) (rv_move rfl) ?_
  refine w_end ?_
  refine q_then ?_
  obtain ⟨o2, hj, h'⟩ := bind_some h
  clear h
  refine c_cut (fun e a w => (∃ t, o2 = (.inl t) ∧ e = .normal ∧ ∃ (ρ : Nat → Value) (σ : St), a = fr 26 (updL ρ []) ∧ w = σ.w ∧ Hp S0 σ0 σ []) ∨ (∃ t, o2 = (.inr t) ∧ e = .ret ∧ ∃ (ρ : Nat → Value) (σ : St), a = fr 26 (updL ρ [(4, (B t))]) ∧ w = σ.w ∧ Hp S0 σ0 σ [])) ?_ ?_
  ·clear h'
   rename _ = some o2 => h
   refine c_blk ?_
   refine wp_loopM _ h (fun s3 a w => ∃ (ρ : Nat → Value) (σ : St), a = fr 26 (updL ρ [(0, (Sl as1_0 s1_0 cs1_0)), (1, (Sl as2_1 s2_1 cs2_1)), (12, (I (s1_0.length : Int))), (13, (I s3))]) ∧ w = σ.w ∧ Hp S0 σ0 σ [Ch.ro 0 (Sl as1_0 s1_0 cs1_0) s1_0, Ch.ro 0 (Sl as2_1 s2_1 cs2_1) s2_1]) ⟨_, σ0, fr_join ⟨rfl, rfl, rfl, rfl, trivial⟩, rfl, H.sel' [0, 1] rfl rfl⟩ ?_
   clear h H
   rintro s3 a w o ⟨ρ, σ4, rfl, rfl, H⟩ h hres
   refine c_seq ?_
   refine rg ?_
   refine st (v := (B (decide (s3 < (s1_0.length : Int))))) (rv_lss (a := s3) (b := (s1_0.length : Int)) rfl rfl) ?_
   refine w_end ?_
   refine q_then ?_
   refine c_seq ?_
   refine cd_cond (decide (s3 < (s1_0.length : Int))) rfl (fun hb5 => ?_) (fun hb5 => ?_)
   ·replace h := bif_t hb5 h
    refine c_skip ?_
    refine q_then ?_
    refine c_seq ?_
    refine c_blk ?_
    refine c_seq ?_
    refine rg ?_
    refine st (v := (I s3)) (rv_move rfl) ?_
    refine st (v := (I s3)) (rv_assign rfl) ?_
    refine w_end ?_
    refine q_then ?_
    refine c_seq ?_
    refine rgP (σ := σ4) 8 (by kernel_rfl) (by kernel_rfl) (by kernel_rfl) ?_
    refine sq (v := (Sl as1_0 s1_0 cs1_0)) (rv_move rfl) ?_
    refine sq (v := (I s3)) (rv_move rfl) ?_
    obtain ⟨x6, hx7, h'⟩ := bind_some h
    clear h
    have h := h'; clear h'
    obtain ⟨b9, o10, hi8, -⟩ := (H.ro 0 rfl).ix hx7
    refine sq (v := (pt b9 o10)) (rv_ix Try.underlying26 ti31 rfl rfl hi8) ?_
    obtain ⟨_, ⟨_, _, rfl, rfl, ⟨_, _, rfl, rfl, ⟨_, _, rfl, rfl, rfl⟩⟩⟩, hl11, hc12⟩ := ((H.ro 0 rfl).at hx7 hi8).cells
    refine sq (v := (.agg #[(I x6.1), (I x6.2.1), (I x6.2.2.1), (I x6.2.2.2)])) (rv_load Try.underlying31 rfl ti31 rfl hl11 hc12) ?_
    refine sq (v := (Sl as2_1 s2_1 cs2_1)) (rv_move rfl) ?_
    refine sq (v := (I s3)) (rv_move rfl) ?_
    obtain ⟨x13, hx14, h'⟩ := bind_some h
    clear h
    have h := h'; clear h'
    obtain ⟨b16, o17, hi15, -⟩ := (H.ro 1 rfl).ix hx14
    refine sq (v := (pt b16 o17)) (rv_ix Try.underlying26 ti31 rfl rfl hi15) ?_
    obtain ⟨_, ⟨_, _, rfl, rfl, ⟨_, _, rfl, rfl, ⟨_, _, rfl, rfl, rfl⟩⟩⟩, hl18, hc19⟩ := ((H.ro 1 rfl).at hx14 hi15).cells
    refine sq (v := (.agg #[(I x13.1), (I x13.2.1), (I x13.2.2.1), (I x13.2.2.2)])) (rv_load Try.underlying31 rfl ti31 rfl hl18 hc19) ?_
    refine sq_end ?_
    intro σ20 hm21
    replace H := H.grow (hm21.mono fun _ h => h); clear hm21
    refine st (v := (B (!(([x6.1, x6.2.1, x6.2.2.1, x6.2.2.2] : List Int) == ([x13.1, x13.2.1, x13.2.2.1, x13.2.2.2] : List Int))))) (rv_neqI (xs := ([x6.1, x6.2.1, x6.2.2.1, x6.2.2.2] : List Int)) (ys := ([x13.1, x13.2.1, x13.2.2.1, x13.2.2.2] : List Int)) (by kernel_rfl) (by kernel_rfl) (by kernel_rfl) rfl (by kernel_rfl) (by exact intfs31) rfl rfl) ?_
    refine w_end ?_
    refine q_then ?_
    refine cd_cond (!(([x6.1, x6.2.1, x6.2.2.1, x6.2.2.2] : List Int) == ([x13.1, x13.2.1, x13.2.2.1, x13.2.2.2] : List Int))) rfl (fun hb22 => ?_) (fun hb22 => ?_)
    ·replace h := bif_t hb22 h
     refine c_seq ?_
     refine rg ?_
     refine st (v := (B false)) (rv_assign rfl) ?_
     refine w_end ?_
     refine q_then ?_
     refine c_ret ?_
     refine q_blk_r ?_
     refine q_then_r ?_
     refine q_then_r ?_
     refine q_blk_r ?_
     obtain rfl := Option.some.inj h
     obtain rfl := hres _ rfl
     exact .inr (⟨_, rfl, rfl, _, σ20, fr_join ⟨rfl, trivial⟩, rfl, H.sel' [] rfl rfl⟩)
    ·replace h := bif_f hb22 h
     refine c_skip ?_
     refine q_blk ?_
     refine q_then ?_
     refine rg ?_
     refine st (v := (I (w64 (s3 + 1)))) (rv_add (a := s3) (b := 1) rfl rfl) ?_
     refine st (v := (I (w64 (s3 + 1)))) (rv_move rfl) ?_
     refine w_end ?_
     refine q_then ?_
     obtain rfl := Option.some.inj h
     exact ⟨_, rfl, _, σ20, fr_join ⟨rfl, rfl, rfl, rfl, trivial⟩, rfl, H.sel' [0, 1] rfl rfl⟩
   ·replace h := bif_f hb5 h
    refine c_exit ?_
    refine q_then_x ?_
    refine q_then_x ?_
    refine q_blk_hit ?_
    obtain rfl := Option.some.inj h
    obtain rfl := hres _ rfl
    exact .inl ⟨_, rfl, rfl, _, σ4, fr_join trivial, rfl, H.sel' [] rfl rfl⟩
  ·clear hj
   have h := h'
   clear h' H
   rintro e a w (⟨t23, rfl, rfl, ρ, σ24, rfl, rfl, H⟩ | ⟨t25, rfl, rfl, ρ, σ26, rfl, rfl, H⟩)
   ·replace h := selim_l h
    refine q_then ?_
    refine c_seq ?_
    refine rg ?_
    refine st (v := (B true)) (rv_assign rfl) ?_
    refine w_end ?_
    refine q_then ?_
    refine c_ret ?_
    obtain rfl := Option.some.inj h
    exact fin_ret (v := (B true)) (results_ok Try.results44 (res_tmp (v := (B true)) rfl res_nil) rfl) ⟨rfl, rfl⟩ (H.sel' [] rfl rfl)
   ·replace h := selim_r h
    refine q_then_r ?_
    obtain rfl := Option.some.inj h
    exact fin_ret (v := (B t25)) (results_ok Try.results44 (res_tmp (v := (B t25)) rfl res_nil) rfl) ⟨rfl, rfl⟩ (H.sel' [] rfl rfl)

theorem c_impl_IsTreeOf {nodes_0 : List (Int × Int × Int × Int)} {list_1 : List (Int × (List Int) × Int)} {kind_2 : Int} {anodes_0 : Option Addr} {cnodes_0 : Nat} {alist_1 : Option Addr} {clist_1 : Nat} {r : Bool} (h : M.impl_IsTreeOf nodes_0 list_1 kind_2 = some r) :
    Cal2 Try.prog 17 [(Sl anodes_0 nodes_0 cnodes_0), (Sl alist_1 list_1 clist_1), (I kind_2)] [Ch.ro 0 (Sl anodes_0 nodes_0 cnodes_0) nodes_0, Ch.ro 0 (Sl alist_1 list_1 clist_1) list_1] (fun n0 v L => v = (B r) ∧ L = []) := by
 refine cal2 (n := 20) Try.func17 rfl rfl rfl rfl ?_
 intro S0 σ0 n0 hn0 H
 unfold M.impl_IsTreeOf at h
 refine c_seq ?_
 refine rg ?_
 refine st (v := (B false)) (rv_assign rfl) ?_
 refine w_end ?_
 refine q_then ?_
 refine c_seq ?_
 refine rg ?_
 refine st (v := (Sl alist_1 list_1 clist_1)) (rv_move rfl) ?_
 obtain ⟨r1, hx2, h'⟩ := bind_some h
 clear h
 have h := h'; clear h'
 have hc3 := c_impl_ValidStore (alist_0 := alist_1) (clist_0 := clist_1) hx2
 refine st_call (cx_call hc3 (ent_f hc3.fn rfl) hn0 (H.sel' [1, 0, 1] rfl rfl : Hp S0 σ0 _ ([_] ++ _))) (wanted_none _ rfl _) ?_
 rintro _ σ4 ⟨_, ⟨rfl, rfl⟩, H, -⟩
 replace H : Hp S0 σ0 σ4 [Ch.ro 0 (Sl anodes_0 nodes_0 cnodes_0) nodes_0, Ch.ro 0 (Sl alist_1 list_1 clist_1) list_1] := H
 refine st (v := (B r1)) (rv_move rfl) ?_
 rcases Bool.eq_false_or_eq_true r1 with hb5 | hb5
 ·replace h := bif_t hb5 h
  refine st_g (v := (I kind_2)) (congrArg some hb5) (rv_move rfl) ?_
  obtain ⟨r6, hx7, h'⟩ := bind_some h
  clear h
  have h := h'; clear h'
  have hc8 := c_impl_validTreeKind hx7
  refine st_call (cx_call hc8 (ent_f hc8.fn rfl) hn0 (H.sel' [0, 1] rfl rfl : Hp S0 σ0 _ ([] ++ _))) (wanted_yes rfl (by exact (congrArg some hb5))) ?_
  rintro _ σ9 ⟨_, ⟨rfl, rfl⟩, H, -⟩
  replace H : Hp S0 σ0 σ9 [Ch.ro 0 (Sl anodes_0 nodes_0 cnodes_0) nodes_0, Ch.ro 0 (Sl alist_1 list_1 clist_1) list_1] := H
  refine st (v := (B r6)) (rv_pick_t (congrArg B hb5) rfl) ?_
  refine st (v := (B r6)) (rv_move rfl) ?_
  rcases Bool.eq_false_or_eq_true r6 with hb10 | hb10
  ·replace h := bif_t hb10 h
   refine st_g (v := (Sl anodes_0 nodes_0 cnodes_0)) (congrArg some hb10) (rv_move rfl) ?_
   refine st_g (v := (Sl alist_1 list_1 clist_1)) (congrArg some hb10) (rv_move rfl) ?_
   refine st_g (v := (I kind_2)) (congrArg some hb10) (rv_move rfl) ?_
   obtain ⟨r11, hx12, h'⟩ := bind_some h
   clear h
   have h := h'; clear h'
   have hc13 := c_impl_BuildTree (alist_0 := alist_1) (clist_0 := clist_1) hx12
   refine st_call (cx_call hc13 (ent_f hc13.fn rfl) hn0 (H.sel' [1, 0, 1] rfl rfl : Hp S0 σ0 _ ([_] ++ _))) (wanted_yes rfl (by exact (congrArg some hb10))) ?_
   rintro _ σ16 ⟨_, ⟨a14, c15, rfl, rfl⟩, H, -⟩
   replace H : Hp S0 σ0 σ16 [Ch.own 0 n0 (Sl a14 r11 c15) r11, Ch.ro 0 (Sl anodes_0 nodes_0 cnodes_0) nodes_0, Ch.ro 0 (Sl alist_1 list_1 clist_1) list_1] := H
   replace H := H.ownLow 0 0 0 rfl (Nat.le_refl _) (Nat.zero_le _)
   obtain ⟨σ17, hw18, H, -⟩ := H.pub 0 rfl (Nat.le_refl _)
   rw [← hw18]; clear hw18
   obtain ⟨r19, hx20, h'⟩ := bind_some h
   clear h
   have h := h'; clear h'
   have hc21 := c_slices_Equal_impl_Node_impl_Node (as1_0 := anodes_0) (cs1_0 := cnodes_0) (as2_1 := a14) (cs2_1 := c15) hx20
   refine st_call (cx_call hc21 (ent_f hc21.fn rfl) hn0 (H.sel' [1, 0, 0, 1, 2] rfl rfl : Hp S0 σ0 _ ([_, _] ++ _))) (wanted_yes rfl (by exact (congrArg some hb10))) ?_
   rintro _ σ22 ⟨_, ⟨rfl, rfl⟩, H, -⟩
   replace H : Hp S0 σ0 σ22 [Ch.ro 0 (Sl a14 r11 c15) r11, Ch.ro 0 (Sl anodes_0 nodes_0 cnodes_0) nodes_0, Ch.ro 0 (Sl alist_1 list_1 clist_1) list_1] := H
   refine st (v := (B r19)) (rv_pick_t (congrArg B hb10) rfl) ?_
   refine st (v := (B r19)) (rv_assign rfl) ?_
   refine w_end ?_
   refine q_then ?_
   refine c_ret ?_
   obtain rfl := Option.some.inj h
   exact fin_ret (v := (B r19)) (results_ok Try.results17 (res_tmp (v := (B r19)) rfl res_nil) rfl) ⟨rfl, rfl⟩ (H.sel' [] rfl rfl)
  ·replace h := bif_f hb10 h
   refine st_skip (congrArg some hb10) ?_
   refine st_skip (congrArg some hb10) ?_
   refine st_skip (congrArg some hb10) ?_
   refine st_skip (congrArg some hb10) ?_
   refine st_skip (congrArg some hb10) ?_
   refine st (v := (B false)) (rv_pick_f (congrArg B hb10) rfl) ?_
   refine st (v := (B false)) (rv_assign rfl) ?_
   refine w_end ?_
   refine q_then ?_
   refine c_ret ?_
   obtain rfl := Option.some.inj h
   exact fin_ret (v := (B false)) (results_ok Try.results17 (res_tmp (v := (B false)) rfl res_nil) rfl) ⟨rfl, rfl⟩ (H.sel' [] rfl rfl)
 ·replace h := bif_f hb5 h
  refine st_skip (congrArg some hb5) ?_
  refine st_skip (congrArg some hb5) ?_
  refine st (v := (B false)) (rv_pick_f (congrArg B hb5) rfl) ?_
  refine st (v := (B false)) (rv_move rfl) ?_
  refine st_skip rfl ?_
  refine st_skip rfl ?_
  refine st_skip rfl ?_
  refine st_skip rfl ?_
  refine st_skip rfl ?_
  refine st (v := (B false)) (rv_pick_f rfl rfl) ?_
  refine st (v := (B false)) (rv_assign rfl) ?_
  refine w_end ?_
  refine q_then ?_
  refine c_ret ?_
  obtain rfl := Option.some.inj h
  exact fin_ret (v := (B false)) (results_ok Try.results17 (res_tmp (v := (B false)) rfl res_nil) rfl) ⟨rfl, rfl⟩ (H.sel' [] rfl rfl)

theorem c_spec_inRange {n_0 : Int} {low_1 : Int} {high_2 : Int}  {r : Bool} (h : M.spec_inRange n_0 low_1 high_2 = some r) :
    Cal2 Try.prog 55 [(I n_0), (I low_1), (I high_2)] [] (fun n0 v L => v = (B r) ∧ L = []) := by
 refine cal2 (n := 15) Try.func55 rfl rfl rfl rfl ?_
 intro S0 σ0 n0 hn0 H
 unfold M.spec_inRange at h
 refine c_seq ?_
 refine rg ?_
 refine st (v := (B false)) (rv_assign rfl) ?_
 refine w_end ?_
 refine q_then ?_
 refine c_seq ?_
 refine rg ?_
 refine st (v := (I low_1)) (rv_move rfl) ?_
 refine st (v := (I n_0)) (rv_move rfl) ?_
 refine st (v := (B (decide (low_1 ≤ n_0)))) (rv_leq (a := low_1) (b := n_0) rfl rfl) ?_
 refine st (v := (B (decide (low_1 ≤ n_0)))) (rv_move rfl) ?_
 rcases Bool.eq_false_or_eq_true (decide (low_1 ≤ n_0)) with hb1 | hb1
 ·replace h := bif_t hb1 h
  refine st_g (v := (I n_0)) (congrArg some hb1) (rv_move rfl) ?_
  refine st_g (v := (I high_2)) (congrArg some hb1) (rv_move rfl) ?_
  refine st_g (v := (B (decide (n_0 ≤ high_2)))) (congrArg some hb1) (rv_leq (a := n_0) (b := high_2) rfl rfl) ?_
  refine st (v := (B (decide (n_0 ≤ high_2)))) (rv_pick_t (congrArg B hb1) rfl) ?_
  refine st (v := (B (decide (n_0 ≤ high_2)))) (rv_assign rfl) ?_
  refine w_end ?_
  refine q_then ?_
  refine c_ret ?_
  obtain rfl := Option.some.inj h
  exact fin_ret (v := (B (decide (n_0 ≤ high_2)))) (results_ok Try.results55 (res_tmp (v := (B (decide (n_0 ≤ high_2)))) rfl res_nil) rfl) ⟨rfl, rfl⟩ (H.sel' [] rfl rfl)
 ·replace h := bif_f hb1 h
  refine st_skip (congrArg some hb1) ?_
  refine st_skip (congrArg some hb1) ?_
  refine st_skip (congrArg some hb1) ?_
  refine st (v := (B false)) (rv_pick_f (congrArg B hb1) rfl) ?_
  refine st (v := (B false)) (rv_assign rfl) ?_
  refine w_end ?_
  refine q_then ?_
  refine c_ret ?_
  obtain rfl := Option.some.inj h
  exact fin_ret (v := (B false)) (results_ok Try.results55 (res_tmp (v := (B false)) rfl res_nil) rfl) ⟨rfl, rfl⟩ (H.sel' [] rfl rfl)

theorem c_spec_allIn {list_0 : List Int} {low_1 : Int} {high_2 : Int} {alist_0 : Option Addr} {clist_0 : Nat} {r : Bool} (h : M.spec_allIn list_0 low_1 high_2 = some r) :
    Cal2 Try.prog 98 [(Sl alist_0 list_0 clist_0), (I low_1), (I high_2)] [Ch.ro 0 (Sl alist_0 list_0 clist_0) list_0] (fun n0 v L => v = (B r) ∧ L = []) := by
 refine cal2 (n := 22) Try.func98 rfl rfl rfl rfl ?_
 intro S0 σ0 n0 hn0 H
 unfold M.spec_allIn at h
 refine c_seq ?_
 refine rg ?_
 refine st (v := (B false)) (rv_assign rfl) ?_
 refine w_end ?_
 refine q_then ?_
 refine c_seq ?_
 refine c_seq ?_
 refine rg ?_
 refine st (v := (I 0)) (rv_assign rfl) ?_
 refine w_end ?_
 refine q_then ?_
 obtain ⟨o1, hj, h'⟩ := bind_some h
 clear h
 refine c_cut (fun e a w => (∃ t, o1 = (.inl t) ∧ e = .normal ∧ ∃ (ρ : Nat → Value) (σ : St), a = fr 22 (updL ρ []) ∧ w = σ.w ∧ Hp S0 σ0 σ []) ∨ (∃ t, o1 = (.inr t) ∧ e = .ret ∧ ∃ (ρ : Nat → Value) (σ : St), a = fr 22 (updL ρ [(6, (B t))]) ∧ w = σ.w ∧ Hp S0 σ0 σ [])) ?_ ?_
 ·clear h'
  rename _ = some o1 => h
  refine c_blk ?_
  refine wp_loopM _ h (fun s2 a w => ∃ (ρ : Nat → Value) (σ : St), a = fr 22 (updL ρ [(0, (Sl alist_0 list_0 clist_0)), (1, (I low_1)), (2, (I high_2)), (7, (I s2))]) ∧ w = σ.w ∧ Hp S0 σ0 σ [Ch.ro 0 (Sl alist_0 list_0 clist_0) list_0]) ⟨_, σ0, fr_join ⟨rfl, rfl, rfl, rfl, trivial⟩, rfl, H.sel' [0] rfl rfl⟩ ?_
  clear h H
  rintro s2 a w o ⟨ρ, σ3, rfl, rfl, H⟩ h hres
  refine c_seq ?_
  refine c_seq ?_
  refine rg ?_
  refine st (v := (I s2)) (rv_move rfl) ?_
  refine st (v := (Sl alist_0 list_0 clist_0)) (rv_move rfl) ?_
  refine st (v := (I (list_0.length : Int))) (rv_len Try.underlying29 rfl) ?_
  refine st (v := (B (decide (s2 < (list_0.length : Int))))) (rv_lss (a := s2) (b := (list_0.length : Int)) rfl rfl) ?_
  refine w_end ?_
  refine q_then ?_
  refine cd_cond (decide (s2 < (list_0.length : Int))) rfl (fun hb4 => ?_) (fun hb4 => ?_)
  ·replace h := bif_t hb4 h
   refine c_skip ?_
   refine q_then ?_
   refine c_seq ?_
   refine c_blk ?_
   refine c_seq ?_
   refine rg ?_
   refine st (v := (Sl alist_0 list_0 clist_0)) (rv_move rfl) ?_
   refine st (v := (I s2)) (rv_move rfl) ?_
   obtain ⟨x5, hx6, h'⟩ := bind_some h
   clear h
   have h := h'; clear h'
   obtain ⟨b8, o9, hi7, -⟩ := (H.ro 0 rfl).ix hx6
   refine st (v := (pt b8 o9)) (rv_ix Try.underlying29 ti3 rfl rfl hi7) ?_
   have hc10 := ((H.ro 0 rfl).at hx6 hi7).int
   refine st (v := (I x5)) (rv_load1 Try.underlying3 rfl rfl hc10) ?_
   refine st (v := (I low_1)) (rv_move rfl) ?_
   refine st (v := (I high_2)) (rv_move rfl) ?_
   obtain ⟨r11, hx12, h'⟩ := bind_some h
   clear h
   have h := h'; clear h'
   have hc13 := c_spec_inRange hx12
   refine st_call (cx_call hc13 (ent_f hc13.fn rfl) hn0 (H.sel' [0] rfl rfl : Hp S0 σ0 _ ([] ++ _))) (wanted_none _ rfl _) ?_
   rintro _ σ14 ⟨_, ⟨rfl, rfl⟩, H, -⟩
   replace H : Hp S0 σ0 σ14 [Ch.ro 0 (Sl alist_0 list_0 clist_0) list_0] := H
   refine st (v := (B (!r11))) (rv_not rfl) ?_
   refine w_end ?_
   refine q_then ?_
   refine cd_cond (!r11) rfl (fun hb15 => ?_) (fun hb15 => ?_)
   ·replace h := bif_t hb15 h
    refine c_seq ?_
    refine rg ?_
    refine st (v := (B false)) (rv_assign rfl) ?_
    refine w_end ?_
    refine q_then ?_
    refine c_ret ?_
    refine q_blk_r ?_
    refine q_then_r ?_
    refine q_then_r ?_
    refine q_blk_r ?_
    obtain rfl := Option.some.inj h
    obtain rfl := hres _ rfl
    exact .inr (⟨_, rfl, rfl, _, σ14, fr_join ⟨rfl, trivial⟩, rfl, H.sel' [] rfl rfl⟩)
   ·replace h := bif_f hb15 h
    refine c_skip ?_
    refine q_blk ?_
    refine q_then ?_
    refine rg ?_
    refine st (v := (I s2)) (rv_move rfl) ?_
    refine st (v := (I (w64 (s2 + 1)))) (rv_add (a := s2) (b := 1) rfl rfl) ?_
    refine st (v := (I (w64 (s2 + 1)))) (rv_assign rfl) ?_
    refine w_end ?_
    refine q_then ?_
    obtain rfl := Option.some.inj h
    exact ⟨_, rfl, _, σ14, fr_join ⟨rfl, rfl, rfl, rfl, trivial⟩, rfl, H.sel' [0] rfl rfl⟩
  ·replace h := bif_f hb4 h
   refine c_exit ?_
   refine q_then_x ?_
   refine q_then_x ?_
   refine q_blk_hit ?_
   obtain rfl := Option.some.inj h
   obtain rfl := hres _ rfl
   exact .inl ⟨_, rfl, rfl, _, σ3, fr_join trivial, rfl, H.sel' [] rfl rfl⟩
 ·clear hj
  have h := h'
  clear h' H
  rintro e a w (⟨t16, rfl, rfl, ρ, σ17, rfl, rfl, H⟩ | ⟨t18, rfl, rfl, ρ, σ19, rfl, rfl, H⟩)
  ·replace h := selim_l h
   refine q_then ?_
   refine c_seq ?_
   refine rg ?_
   refine st (v := (B true)) (rv_assign rfl) ?_
   refine w_end ?_
   refine q_then ?_
   refine c_ret ?_
   obtain rfl := Option.some.inj h
   exact fin_ret (v := (B true)) (results_ok Try.results98 (res_tmp (v := (B true)) rfl res_nil) rfl) ⟨rfl, rfl⟩ (H.sel' [] rfl rfl)
  ·replace h := selim_r h
   refine q_then_r ?_
   obtain rfl := Option.some.inj h
   exact fin_ret (v := (B t18)) (results_ok Try.results98 (res_tmp (v := (B t18)) rfl res_nil) rfl) ⟨rfl, rfl⟩ (H.sel' [] rfl rfl)

theorem c_spec_isVector {v_0 : List Int} {av_0 : Option Addr} {cv_0 : Nat} {r : Bool} (h : M.spec_isVector v_0 = some r) :
    Cal2 Try.prog 79 [(Sl av_0 v_0 cv_0)] [Ch.ro 0 (Sl av_0 v_0 cv_0) v_0] (fun n0 v L => v = (B r) ∧ L = []) := by
 refine cal2 (n := 10) Try.func79 rfl rfl rfl rfl ?_
 intro S0 σ0 n0 hn0 H
 unfold M.spec_isVector at h
 refine c_seq ?_
 refine rg ?_
 refine st (v := (B false)) (rv_assign rfl) ?_
 refine w_end ?_
 refine q_then ?_
 refine c_seq ?_
 refine rg ?_
 refine st (v := (Sl av_0 v_0 cv_0)) (rv_move rfl) ?_
 refine st (v := (I (v_0.length : Int))) (rv_len Try.underlying29 rfl) ?_
 refine st (v := (B ((v_0.length : Int) == 4))) (rv_eql (a := (v_0.length : Int)) (b := 4) rfl rfl) ?_
 refine st (v := (B ((v_0.length : Int) == 4))) (rv_move rfl) ?_
 rcases Bool.eq_false_or_eq_true ((v_0.length : Int) == 4) with hb1 | hb1
 ·replace h := bif_t hb1 h
  refine st_g (v := (Sl av_0 v_0 cv_0)) (congrArg some hb1) (rv_move rfl) ?_
  obtain ⟨r2, hx3, h'⟩ := bind_some h
  clear h
  have h := h'; clear h'
  have hc4 := c_spec_allIn (alist_0 := av_0) (clist_0 := cv_0) hx3
  refine st_call (cx_call hc4 (ent_f hc4.fn rfl) hn0 (H.sel' [0, 0] rfl rfl : Hp S0 σ0 _ ([_] ++ _))) (wanted_yes rfl (by exact (congrArg some hb1))) ?_
  rintro _ σ5 ⟨_, ⟨rfl, rfl⟩, H, -⟩
  replace H : Hp S0 σ0 σ5 [Ch.ro 0 (Sl av_0 v_0 cv_0) v_0] := H
  refine st (v := (B r2)) (rv_pick_t (congrArg B hb1) rfl) ?_
  refine st (v := (B r2)) (rv_assign rfl) ?_
  refine w_end ?_
  refine q_then ?_
  refine c_ret ?_
  obtain rfl := Option.some.inj h
  exact fin_ret (v := (B r2)) (results_ok Try.results79 (res_tmp (v := (B r2)) rfl res_nil) rfl) ⟨rfl, rfl⟩ (H.sel' [] rfl rfl)
 ·replace h := bif_f hb1 h
  refine st_skip (congrArg some hb1) ?_
  refine st_skip (congrArg some hb1) ?_
  refine st (v := (B false)) (rv_pick_f (congrArg B hb1) rfl) ?_
  refine st (v := (B false)) (rv_assign rfl) ?_
  refine w_end ?_
  refine q_then ?_
  refine c_ret ?_
  obtain rfl := Option.some.inj h
  exact fin_ret (v := (B false)) (results_ok Try.results79 (res_tmp (v := (B false)) rfl res_nil) rfl) ⟨rfl, rfl⟩ (H.sel' [] rfl rfl)

theorem c_spec_validItem {x_0 : Int × (List Int) × Int} {ax_0_1 : Option Addr} {cx_0_1 : Nat} {r : Bool} (h : M.spec_validItem x_0 = some r) :
    Cal2 Try.prog 68 [(.agg #[(I x_0.1), (Sl ax_0_1 x_0.2.1 cx_0_1), (I x_0.2.2)])] [Ch.ro 0 (Sl ax_0_1 x_0.2.1 cx_0_1) x_0.2.1] (fun n0 v L => v = (B r) ∧ L = []) := by
 refine cal2 (n := 16) Try.func68 rfl rfl rfl rfl ?_
 intro S0 σ0 n0 hn0 H
 unfold M.spec_validItem at h
 refine c_seq ?_
 refine rg ?_
 refine st_ex (ex_box (cs := [(I x_0.1), (Sl ax_0_1 x_0.2.1 cx_0_1), (I x_0.2.2)]) H hn0 rfl rfl) (wanted_none _ rfl _) ?_
 rintro _ σ2 ⟨b1, rfl, H, -⟩
 refine st (v := (B false)) (rv_assign rfl) ?_
 refine w_end ?_
 refine q_then ?_
 refine c_seq ?_
 refine rg ?_
 refine st (v := (pt b1 0)) (rv_fieldAddr (off := 0) (ft := 3) Try.underlying34 rfl ti3 rfl rfl) ?_
 have hc3 := H.cell (u := (I x_0.1)) (o' := 0) 0 0 rfl rfl rfl
 refine st (v := (I x_0.1)) (rv_load1 Try.underlying3 rfl rfl hc3) ?_
 obtain ⟨r4, hx5, h'⟩ := bind_some h
 clear h
 have h := h'; clear h'
 have hc6 := c_spec_inRange hx5
 refine st_call (cx_call hc6 (ent_f hc6.fn rfl) hn0 (H.sel' [0, 1] rfl rfl : Hp S0 σ0 _ ([] ++ _))) (wanted_none _ rfl _) ?_
 rintro _ σ7 ⟨_, ⟨rfl, rfl⟩, H, -⟩
 replace H : Hp S0 σ0 σ7 [Ch.bx n0 b1 0 [(I x_0.1), (Sl ax_0_1 x_0.2.1 cx_0_1), (I x_0.2.2)] [] [], Ch.ro 0 (Sl ax_0_1 x_0.2.1 cx_0_1) x_0.2.1] := H
 refine st (v := (B r4)) (rv_move rfl) ?_
 rcases Bool.eq_false_or_eq_true r4 with hb8 | hb8
 ·replace h := bif_t hb8 h
  refine st_g (v := (pt b1 1)) (congrArg some hb8) (rv_fieldAddr (off := 1) (ft := 29) Try.underlying34 rfl ti29 rfl rfl) ?_
  have hc9 := H.cell (u := (Sl ax_0_1 x_0.2.1 cx_0_1)) (o' := 1) 0 1 rfl rfl rfl
  refine st_g (v := (Sl ax_0_1 x_0.2.1 cx_0_1)) (congrArg some hb8) (rv_load1 Try.underlying29 rfl rfl hc9) ?_
  obtain ⟨r10, hx11, h'⟩ := bind_some h
  clear h
  have h := h'; clear h'
  have hc12 := c_spec_isVector (av_0 := ax_0_1) (cv_0 := cx_0_1) hx11
  refine st_call (cx_call hc12 (ent_f hc12.fn rfl) hn0 (H.sel' [1, 0, 1] rfl rfl : Hp S0 σ0 _ ([_] ++ _))) (wanted_yes rfl (by exact (congrArg some hb8))) ?_
  rintro _ σ13 ⟨_, ⟨rfl, rfl⟩, H, -⟩
  replace H : Hp S0 σ0 σ13 [Ch.bx n0 b1 0 [(I x_0.1), (Sl ax_0_1 x_0.2.1 cx_0_1), (I x_0.2.2)] [] [], Ch.ro 0 (Sl ax_0_1 x_0.2.1 cx_0_1) x_0.2.1] := H
  refine st (v := (B r10)) (rv_pick_t (congrArg B hb8) rfl) ?_
  refine st (v := (B r10)) (rv_move rfl) ?_
  rcases Bool.eq_false_or_eq_true r10 with hb14 | hb14
  ·replace h := bif_t hb14 h
   refine st_g (v := (pt b1 2)) (congrArg some hb14) (rv_fieldAddr (off := 2) (ft := 3) Try.underlying34 rfl ti3 rfl rfl) ?_
   have hc15 := H.cell (u := (I x_0.2.2)) (o' := 2) 0 2 rfl rfl rfl
   refine st_g (v := (I x_0.2.2)) (congrArg some hb14) (rv_load1 Try.underlying3 rfl rfl hc15) ?_
   obtain ⟨r16, hx17, h'⟩ := bind_some h
   clear h
   have h := h'; clear h'
   have hc18 := c_spec_inRange hx17
   refine st_call (cx_call hc18 (ent_f hc18.fn rfl) hn0 (H.sel' [0, 1] rfl rfl : Hp S0 σ0 _ ([] ++ _))) (wanted_yes rfl (by exact (congrArg some hb14))) ?_
   rintro _ σ19 ⟨_, ⟨rfl, rfl⟩, H, -⟩
   replace H : Hp S0 σ0 σ19 [Ch.bx n0 b1 0 [(I x_0.1), (Sl ax_0_1 x_0.2.1 cx_0_1), (I x_0.2.2)] [] [], Ch.ro 0 (Sl ax_0_1 x_0.2.1 cx_0_1) x_0.2.1] := H
   refine st (v := (B r16)) (rv_pick_t (congrArg B hb14) rfl) ?_
   refine st (v := (B r16)) (rv_assign rfl) ?_
   refine w_end ?_
   refine q_then ?_
   refine c_ret ?_
   obtain rfl := Option.some.inj h
   exact fin_ret (v := (B r16)) (results_ok Try.results68 (res_tmp (v := (B r16)) rfl res_nil) rfl) ⟨rfl, rfl⟩ (H.sel' [] rfl rfl)
  ·replace h := bif_f hb14 h
   refine st_skip (congrArg some hb14) ?_
   refine st_skip (congrArg some hb14) ?_
   refine st_skip (congrArg some hb14) ?_
   refine st (v := (B false)) (rv_pick_f (congrArg B hb14) rfl) ?_
   refine st (v := (B false)) (rv_assign rfl) ?_
   refine w_end ?_
   refine q_then ?_
   refine c_ret ?_
   obtain rfl := Option.some.inj h
   exact fin_ret (v := (B false)) (results_ok Try.results68 (res_tmp (v := (B false)) rfl res_nil) rfl) ⟨rfl, rfl⟩ (H.sel' [] rfl rfl)
 ·replace h := bif_f hb8 h
  refine st_skip (congrArg some hb8) ?_
  refine st_skip (congrArg some hb8) ?_
  refine st_skip (congrArg some hb8) ?_
  refine st (v := (B false)) (rv_pick_f (congrArg B hb8) rfl) ?_
  refine st (v := (B false)) (rv_move rfl) ?_
  refine st_skip rfl ?_
  refine st_skip rfl ?_
  refine st_skip rfl ?_
  refine st (v := (B false)) (rv_pick_f rfl rfl) ?_
  refine st (v := (B false)) (rv_assign rfl) ?_
  refine w_end ?_
  refine q_then ?_
  refine c_ret ?_
  obtain rfl := Option.some.inj h
  exact fin_ret (v := (B false)) (results_ok Try.results68 (res_tmp (v := (B false)) rfl res_nil) rfl) ⟨rfl, rfl⟩ (H.sel' [] rfl rfl)

end Go.Vs
