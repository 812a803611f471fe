/- The functions compute what their models say. -/
import Derived.Test.YtdjjikmfkejdiaeKExactProbeOrderC2
set_option linter.unusedVariables false
set_option linter.unusedSimpArgs false
set_option maxRecDepth 20000
namespace Go.Vs
open Go Go.Proofs
attribute [local irreducible] Code.wp Code.wpIn wpList wpListIn wpQuiet Calls CallsIn

theorem c_slices_symMergeCmpFunc_int__impl_ProbeOrder_1 : ∀ (fuel : Nat) {data_0 : List Int} {a_1 : Int} {m_2 : Int} {b_3 : Int} {cmp_4_0 : List (List Int)} {cmp_4_1 : List Int} {adata_0 : Option Addr} {cdata_0 : Nat} {acmp_4_0 : Option Addr} {ccmp_4_0 : Nat} {locmp_4_0 bcmp_4_0 ocmp_4_0 : Nat} {precmp_4_0 sufcmp_4_0 : List Value} {acmp_4_1 : Option Addr} {ccmp_4_1 : Nat} {locmp_4_1 bcmp_4_1 ocmp_4_1 : Nat} {precmp_4_1 sufcmp_4_1 : List Value} {r : (List Int)} (h : M.slices_symMergeCmpFunc_int__impl_ProbeOrder_1 fuel data_0 a_1 m_2 b_3 cmp_4_0 cmp_4_1 = some r),
    Cal2 Try.prog 119 [(Sl adata_0 data_0 cdata_0), (I a_1), (I m_2), (I b_3), (.func (.func 78) #[] #[(pt bcmp_4_0 ocmp_4_0), (pt bcmp_4_1 ocmp_4_1)])] [Ch.own 0 0 (Sl adata_0 data_0 cdata_0) data_0, Ch.bx locmp_4_0 bcmp_4_0 ocmp_4_0 [(Sl acmp_4_0 cmp_4_0 ccmp_4_0)] precmp_4_0 sufcmp_4_0, Ch.ro 0 (Sl acmp_4_0 cmp_4_0 ccmp_4_0) cmp_4_0, Ch.bx locmp_4_1 bcmp_4_1 ocmp_4_1 [(Sl acmp_4_1 cmp_4_1 ccmp_4_1)] precmp_4_1 sufcmp_4_1, Ch.ro 0 (Sl acmp_4_1 cmp_4_1 ccmp_4_1) cmp_4_1] (fun n0 v L => v = (.tuple #[]) ∧ L = [Ch.own 0 0 (Sl adata_0 r cdata_0) r, Ch.bx locmp_4_0 bcmp_4_0 ocmp_4_0 [(Sl acmp_4_0 cmp_4_0 ccmp_4_0)] precmp_4_0 sufcmp_4_0, Ch.bx locmp_4_1 bcmp_4_1 ocmp_4_1 [(Sl acmp_4_1 cmp_4_1 ccmp_4_1)] precmp_4_1 sufcmp_4_1] ∧ r.length = data_0.length) := by
 intro fuel
 induction fuel with
 | zero => intro _ _ _ _ _ _ _ _ _ _ _ _ _ _ _ _ _ _ _ _ _ _ r h; cases h
 | succ fuel ih =>
 ·intro data_0 a_1 m_2 b_3 cmp_4_0 cmp_4_1 adata_0 cdata_0 acmp_4_0 ccmp_4_0 locmp_4_0 bcmp_4_0 ocmp_4_0 precmp_4_0 sufcmp_4_0 acmp_4_1 ccmp_4_1 locmp_4_1 bcmp_4_1 ocmp_4_1 precmp_4_1 sufcmp_4_1 r h
  replace h : M.slices_symMergeCmpFunc_int__impl_ProbeOrder_1_F (M.slices_symMergeCmpFunc_int__impl_ProbeOrder_1 fuel) data_0 a_1 m_2 b_3 cmp_4_0 cmp_4_1 = some r := h
  refine cal2 (n := 220) Try.func119 rfl rfl rfl rfl ?_
  intro S0 σ0 n0 hn0 H
  unfold M.slices_symMergeCmpFunc_int__impl_ProbeOrder_1_F at h
  refine c_seq ?_
  refine c_seq ?_
  refine rg ?_
  refine st (v := (I m_2)) (rv_move rfl) ?_
  refine st (v := (I a_1)) (rv_move rfl) ?_
  refine st (v := (I (w64 (m_2 - a_1)))) (rv_sub (a := m_2) (b := a_1) rfl rfl) ?_
  refine st (v := (B ((w64 (m_2 - a_1)) == 1))) (rv_eql (a := (w64 (m_2 - a_1))) (b := 1) rfl rfl) ?_
  refine w_end ?_
  refine q_then ?_
  refine cd_cond ((w64 (m_2 - a_1)) == 1) rfl (fun hb1 => ?_) (fun hb1 => ?_)
  ·replace h := bif_t hb1 h
   refine c_seq ?_
   refine rg ?_
   refine st (v := (I m_2)) (rv_move rfl) ?_
   refine st (v := (I m_2)) (rv_assign rfl) ?_
   refine w_end ?_
   refine q_then ?_
   refine c_seq ?_
   refine rg ?_
   refine st (v := (I b_3)) (rv_move rfl) ?_
   refine st (v := (I b_3)) (rv_assign rfl) ?_
   refine w_end ?_
   refine q_then ?_
   refine c_seq ?_
   obtain ⟨o2, hj, h'⟩ := bind_some h
   clear h
   refine c_cut (fun e a w => e = .normal ∧ ∃ (ρ : Nat → Value) (σ : St), a = fr 220 (updL ρ [(0, (Sl adata_0 data_0 cdata_0)), (1, (I a_1)), (4, (.func (.func 78) #[] #[(pt bcmp_4_0 ocmp_4_0), (pt bcmp_4_1 ocmp_4_1)])), (10, (I o2))]) ∧ w = σ.w ∧ Hp S0 σ0 σ [Ch.own 0 0 (Sl adata_0 data_0 cdata_0) data_0, Ch.ro 0 (Sl acmp_4_0 cmp_4_0 ccmp_4_0) cmp_4_0, Ch.bx locmp_4_0 bcmp_4_0 ocmp_4_0 [(Sl acmp_4_0 cmp_4_0 ccmp_4_0)] precmp_4_0 sufcmp_4_0, Ch.ro 0 (Sl acmp_4_1 cmp_4_1 ccmp_4_1) cmp_4_1, Ch.bx locmp_4_1 bcmp_4_1 ocmp_4_1 [(Sl acmp_4_1 cmp_4_1 ccmp_4_1)] precmp_4_1 sufcmp_4_1]) ?_ ?_
   ·clear h'
    rename _ = some o2 => h
    refine c_blk ?_
    refine wp_loopM _ h (fun s3 a w => ∃ (ρ : Nat → Value) (σ : St), a = fr 220 (updL ρ [(0, (Sl adata_0 data_0 cdata_0)), (1, (I a_1)), (4, (.func (.func 78) #[] #[(pt bcmp_4_0 ocmp_4_0), (pt bcmp_4_1 ocmp_4_1)])), (10, (I s3.1)), (11, (I s3.2))]) ∧ w = σ.w ∧ Hp S0 σ0 σ [Ch.own 0 0 (Sl adata_0 data_0 cdata_0) data_0, Ch.ro 0 (Sl acmp_4_0 cmp_4_0 ccmp_4_0) cmp_4_0, Ch.bx locmp_4_0 bcmp_4_0 ocmp_4_0 [(Sl acmp_4_0 cmp_4_0 ccmp_4_0)] precmp_4_0 sufcmp_4_0, Ch.ro 0 (Sl acmp_4_1 cmp_4_1 ccmp_4_1) cmp_4_1, Ch.bx locmp_4_1 bcmp_4_1 ocmp_4_1 [(Sl acmp_4_1 cmp_4_1 ccmp_4_1)] precmp_4_1 sufcmp_4_1]) ⟨_, σ0, fr_join ⟨rfl, rfl, rfl, rfl, rfl, trivial⟩, rfl, H.sel' [0, 2, 1, 4, 3] rfl rfl⟩ ?_
    clear h H
    rintro s3 a w o ⟨ρ, σ4, rfl, rfl, H⟩ h hres
    refine c_seq ?_
    refine c_seq ?_
    refine rg ?_
    refine st (v := (I s3.1)) (rv_move rfl) ?_
    refine st (v := (I s3.2)) (rv_move rfl) ?_
    refine st (v := (B (decide (s3.1 < s3.2)))) (rv_lss (a := s3.1) (b := s3.2) rfl rfl) ?_
    refine w_end ?_
    refine q_then ?_
    refine cd_cond (decide (s3.1 < s3.2)) rfl (fun hb5 => ?_) (fun hb5 => ?_)
    ·replace h := bif_t hb5 h
     refine c_skip ?_
     refine q_then ?_
     refine c_blk ?_
     refine c_seq ?_
     refine rg ?_
     refine st (v := (I s3.1)) (rv_move rfl) ?_
     refine st (v := (I s3.2)) (rv_move rfl) ?_
     refine st (v := (I (w64 (s3.1 + s3.2)))) (rv_add (a := s3.1) (b := s3.2) rfl rfl) ?_
     refine st (v := (.int .u64 (wk .u64 (w64 (s3.1 + s3.2))))) (rvk_conv (k := .i64) (k' := .u64) (a := (w64 (s3.1 + s3.2))) Try.underlying3 Try.underlying134 rfl) ?_
     refine st (v := (.int .u64 (gshr .u64 (wk .u64 (w64 (s3.1 + s3.2))) 1))) (rvk_shr (k := .u64) (k' := .u64) (a := (wk .u64 (w64 (s3.1 + s3.2)))) (b := 1) rfl rfl (by decide)) ?_
     refine st (v := (I (wk .i64 (gshr .u64 (wk .u64 (w64 (s3.1 + s3.2))) 1)))) (rvk_conv (k := .u64) (k' := .i64) (a := (gshr .u64 (wk .u64 (w64 (s3.1 + s3.2))) 1)) Try.underlying134 Try.underlying3 rfl) ?_
     refine st (v := (I (wk .i64 (gshr .u64 (wk .u64 (w64 (s3.1 + s3.2))) 1)))) (rv_assign rfl) ?_
     refine w_end ?_
     refine q_then ?_
     refine c_seq ?_
     refine rgP (σ := σ4) 9 (by kernel_rfl) (by kernel_rfl) (by kernel_rfl) ?_
     refine sq (v := (.func (.func 78) #[] #[(pt bcmp_4_0 ocmp_4_0), (pt bcmp_4_1 ocmp_4_1)])) (rv_move rfl) ?_
     refine sq (v := (Sl adata_0 data_0 cdata_0)) (rv_move rfl) ?_
     refine sq (v := (I (wk .i64 (gshr .u64 (wk .u64 (w64 (s3.1 + s3.2))) 1)))) (rv_move rfl) ?_
     obtain ⟨x6, hx7, h'⟩ := bind_some h
     clear h
     have h := h'; clear h'
     obtain ⟨b9, o10, hi8, -⟩ := (H.own 0 rfl).ix hx7
     refine sq (v := (pt b9 o10)) (rv_ix Try.underlying23 ti3 rfl rfl hi8) ?_
     have hc11 := ((H.own 0 rfl).at hx7 hi8).int
     refine sq (v := (I x6)) (rv_load1 Try.underlying3 rfl rfl hc11) ?_
     refine sq (v := (Sl adata_0 data_0 cdata_0)) (rv_move rfl) ?_
     refine sq (v := (I a_1)) (rv_move rfl) ?_
     obtain ⟨x12, hx13, h'⟩ := bind_some h
     clear h
     have h := h'; clear h'
     obtain ⟨b15, o16, hi14, -⟩ := (H.own 0 rfl).ix hx13
     refine sq (v := (pt b15 o16)) (rv_ix Try.underlying23 ti3 rfl rfl hi14) ?_
     have hc17 := ((H.own 0 rfl).at hx13 hi14).int
     refine sq (v := (I x12)) (rv_load1 Try.underlying3 rfl rfl hc17) ?_
     refine sq_end ?_
     intro σ18 hm19
     replace H := H.grow (hm19.mono fun _ h => h); clear hm19
     obtain ⟨r20, hx21, h'⟩ := bind_some h
     clear h
     have h := h'; clear h'
     have hc22 := c_impl_ProbeOrder_1__p_SSint__p24 (lop_2 := locmp_4_0) (bp_2 := bcmp_4_0) (op_2 := ocmp_4_0) (prep_2 := precmp_4_0) (sufp_2 := sufcmp_4_0) (ap_2 := acmp_4_0) (cp_2 := ccmp_4_0) (lop_3 := locmp_4_1) (bp_3 := bcmp_4_1) (op_3 := ocmp_4_1) (prep_3 := precmp_4_1) (sufp_3 := sufcmp_4_1) (ap_3 := acmp_4_1) (cp_3 := ccmp_4_1) hx21
     refine st_call (cx_call hc22 (ent_v (cap := [(pt bcmp_4_0 ocmp_4_0), (pt bcmp_4_1 ocmp_4_1)]) hc22.fn rfl rfl) hn0 (show Hp S0 σ0 _ ([Ch.bx locmp_4_0 bcmp_4_0 ocmp_4_0 [(Sl acmp_4_0 cmp_4_0 ccmp_4_0)] precmp_4_0 sufcmp_4_0, Ch.ro 0 (Sl acmp_4_0 cmp_4_0 ccmp_4_0) cmp_4_0, Ch.bx locmp_4_1 bcmp_4_1 ocmp_4_1 [(Sl acmp_4_1 cmp_4_1 ccmp_4_1)] precmp_4_1 sufcmp_4_1, Ch.ro 0 (Sl acmp_4_1 cmp_4_1 ccmp_4_1) cmp_4_1] ++ [Ch.own 0 0 (Sl adata_0 data_0 cdata_0) data_0, Ch.ro 0 (Sl acmp_4_0 cmp_4_0 ccmp_4_0) cmp_4_0, Ch.ro 0 (Sl acmp_4_1 cmp_4_1 ccmp_4_1) cmp_4_1]) from (H.sel' [2, 1, 4, 3, 0, 1, 3] rfl rfl))) wn ?_
     rintro _ σ23 ⟨_, ⟨rfl, rfl⟩, H, -⟩
     replace H : Hp S0 σ0 σ23 [Ch.bx locmp_4_0 bcmp_4_0 ocmp_4_0 [(Sl acmp_4_0 cmp_4_0 ccmp_4_0)] precmp_4_0 sufcmp_4_0, Ch.bx locmp_4_1 bcmp_4_1 ocmp_4_1 [(Sl acmp_4_1 cmp_4_1 ccmp_4_1)] precmp_4_1 sufcmp_4_1, Ch.own 0 0 (Sl adata_0 data_0 cdata_0) data_0, Ch.ro 0 (Sl acmp_4_0 cmp_4_0 ccmp_4_0) cmp_4_0, Ch.ro 0 (Sl acmp_4_1 cmp_4_1 ccmp_4_1) cmp_4_1] := H
     refine st (v := (B (decide (r20 < 0)))) (rv_lss (a := r20) (b := 0) rfl rfl) ?_
     refine w_end ?_
     refine q_then ?_
     refine cd_cond (decide (r20 < 0)) rfl (fun hb24 => ?_) (fun hb24 => ?_)
     ·replace h := bif_t hb24 h
      refine rg ?_
      refine st (v := (I (wk .i64 (gshr .u64 (wk .u64 (w64 (s3.1 + s3.2))) 1)))) (rv_move rfl) ?_
      refine st (v := (I (w64 ((wk .i64 (gshr .u64 (wk .u64 (w64 (s3.1 + s3.2))) 1)) + 1)))) (rv_add (a := (wk .i64 (gshr .u64 (wk .u64 (w64 (s3.1 + s3.2))) 1))) (b := 1) rfl rfl) ?_
      refine st (v := (I (w64 ((wk .i64 (gshr .u64 (wk .u64 (w64 (s3.1 + s3.2))) 1)) + 1)))) (rv_assign rfl) ?_
      refine w_end ?_
      refine q_blk ?_
      refine q_then ?_
      obtain rfl := Option.some.inj h
      exact ⟨_, rfl, _, σ23, fr_join ⟨rfl, rfl, rfl, rfl, rfl, trivial⟩, rfl, H.sel' [2, 3, 0, 4, 1] rfl rfl⟩
     ·replace h := bif_f hb24 h
      refine rg ?_
      refine st (v := (I (wk .i64 (gshr .u64 (wk .u64 (w64 (s3.1 + s3.2))) 1)))) (rv_move rfl) ?_
      refine st (v := (I (wk .i64 (gshr .u64 (wk .u64 (w64 (s3.1 + s3.2))) 1)))) (rv_assign rfl) ?_
      refine w_end ?_
      refine q_blk ?_
      refine q_then ?_
      obtain rfl := Option.some.inj h
      exact ⟨_, rfl, _, σ23, fr_join ⟨rfl, rfl, rfl, rfl, rfl, trivial⟩, rfl, H.sel' [2, 3, 0, 4, 1] rfl rfl⟩
    ·replace h := bif_f hb5 h
     refine c_exit ?_
     refine q_then_x ?_
     refine q_then_x ?_
     refine q_blk_hit ?_
     obtain rfl := Option.some.inj h
     obtain rfl := hres _ rfl
     exact ⟨rfl, _, σ4, fr_join ⟨rfl, rfl, rfl, rfl, trivial⟩, rfl, H.sel' [0, 1, 2, 3, 4] rfl rfl⟩
   ·clear hj
    have h := h'
    clear h' H
    rintro e a w ⟨rfl, ρ, σ25, rfl, rfl, H⟩
    refine q_then ?_
    refine c_seq ?_
    refine c_seq ?_
    refine rg ?_
    refine st (v := (I a_1)) (rv_move rfl) ?_
    refine st (v := (I a_1)) (rv_assign rfl) ?_
    refine w_end ?_
    refine q_then ?_
    obtain ⟨o26, hj, h'⟩ := bind_some h
    clear h
    refine c_cut (fun e a w => e = .normal ∧ ∃ (ρ : Nat → Value) (σ : St), a = fr 220 (updL ρ [(0, (Sl adata_0 o26 cdata_0)), (4, (.func (.func 78) #[] #[(pt bcmp_4_0 ocmp_4_0), (pt bcmp_4_1 ocmp_4_1)]))]) ∧ w = σ.w ∧ Hp S0 σ0 σ [Ch.own 0 0 (Sl adata_0 o26 cdata_0) o26, Ch.ro 0 (Sl acmp_4_0 cmp_4_0 ccmp_4_0) cmp_4_0, Ch.bx locmp_4_0 bcmp_4_0 ocmp_4_0 [(Sl acmp_4_0 cmp_4_0 ccmp_4_0)] precmp_4_0 sufcmp_4_0, Ch.ro 0 (Sl acmp_4_1 cmp_4_1 ccmp_4_1) cmp_4_1, Ch.bx locmp_4_1 bcmp_4_1 ocmp_4_1 [(Sl acmp_4_1 cmp_4_1 ccmp_4_1)] precmp_4_1 sufcmp_4_1] ∧ o26.length = data_0.length) ?_ ?_
    ·clear h'
     rename _ = some o26 => h
     refine c_blk ?_
     refine wp_loopM _ h (fun s27 a w => ∃ (ρ : Nat → Value) (σ : St), a = fr 220 (updL ρ [(0, (Sl adata_0 s27.1 cdata_0)), (4, (.func (.func 78) #[] #[(pt bcmp_4_0 ocmp_4_0), (pt bcmp_4_1 ocmp_4_1)])), (10, (I o2)), (13, (I s27.2))]) ∧ w = σ.w ∧ Hp S0 σ0 σ [Ch.own 0 0 (Sl adata_0 s27.1 cdata_0) s27.1, Ch.ro 0 (Sl acmp_4_0 cmp_4_0 ccmp_4_0) cmp_4_0, Ch.bx locmp_4_0 bcmp_4_0 ocmp_4_0 [(Sl acmp_4_0 cmp_4_0 ccmp_4_0)] precmp_4_0 sufcmp_4_0, Ch.ro 0 (Sl acmp_4_1 cmp_4_1 ccmp_4_1) cmp_4_1, Ch.bx locmp_4_1 bcmp_4_1 ocmp_4_1 [(Sl acmp_4_1 cmp_4_1 ccmp_4_1)] precmp_4_1 sufcmp_4_1] ∧ s27.1.length = data_0.length) ⟨_, σ25, fr_join ⟨rfl, rfl, rfl, rfl, trivial⟩, rfl, H.sel' [0, 1, 2, 3, 4] rfl rfl, rfl⟩ ?_
     clear h H
     rintro s27 a w o ⟨ρ, σ28, rfl, rfl, H, hn29⟩ h hres
     refine c_seq ?_
     refine c_seq ?_
     refine rg ?_
     refine st (v := (I s27.2)) (rv_move rfl) ?_
     refine st (v := (I o2)) (rv_move rfl) ?_
     refine st (v := (I (w64 (o2 - 1)))) (rv_sub (a := o2) (b := 1) rfl rfl) ?_
     refine st (v := (B (decide (s27.2 < (w64 (o2 - 1)))))) (rv_lss (a := s27.2) (b := (w64 (o2 - 1))) rfl rfl) ?_
     refine w_end ?_
     refine q_then ?_
     refine cd_cond (decide (s27.2 < (w64 (o2 - 1)))) rfl (fun hb30 => ?_) (fun hb30 => ?_)
     ·replace h := bif_t hb30 h
      refine c_skip ?_
      refine q_then ?_
      refine c_seq ?_
      refine c_blk ?_
      obtain ⟨x31, hx32, h'⟩ := bind_some h
      clear h
      have h := h'; clear h'
      obtain ⟨b34, o35, hi33, -⟩ := (H.own 0 rfl).ix hx32
      have hc36 := ((H.own 0 rfl).at hx32 hi33).int
      obtain ⟨x37, hx38, h'⟩ := bind_some h
      clear h
      have h := h'; clear h'
      obtain ⟨b40, o41, hi39, -⟩ := (H.own 0 rfl).ix hx38
      have hc42 := ((H.own 0 rfl).at hx38 hi39).int
      obtain ⟨x43, hx44, h'⟩ := bind_some h
      clear h
      have h := h'; clear h'
      obtain ⟨b46, o47, hi45, -⟩ := (H.own 0 rfl).ix hx44
      have Hs := H
      refine rg2 (σ := σ28) (Nm := Unit) 16 [15] [[false], [true]] [[(0, 0)], [(0, 0)], [(0, 0), (1, 1)], [(0, 0), (1, 1)], [(0, 0), (1, 1)], [(0, 0)], [(0, 0)], [(0, 0)], [(0, 0)], [(0, 0)], [(0, 0)], [(0, 0)], [(0, 0)], [(0, 0)], [(0, 0)], [(0, 1)]] 1 [fun _ => fun σm => Hp S0 σ0 σm [Ch.own 0 0 (Sl adata_0 s27.1 cdata_0) s27.1, Ch.ro 0 (Sl acmp_4_0 cmp_4_0 ccmp_4_0) cmp_4_0, Ch.bx locmp_4_0 bcmp_4_0 ocmp_4_0 [(Sl acmp_4_0 cmp_4_0 ccmp_4_0)] precmp_4_0 sufcmp_4_0, Ch.ro 0 (Sl acmp_4_1 cmp_4_1 ccmp_4_1) cmp_4_1, Ch.bx locmp_4_1 bcmp_4_1 ocmp_4_1 [(Sl acmp_4_1 cmp_4_1 ccmp_4_1)] precmp_4_1 sufcmp_4_1] ∧ Md (cov []) σ28 σm, fun _ => fun σm => Hp S0 σ0 σm [Ch.own 0 0 (Sl adata_0 s27.1 cdata_0) (s27.1.set s27.2.toNat x31), Ch.ro 0 (Sl acmp_4_0 cmp_4_0 ccmp_4_0) cmp_4_0, Ch.bx locmp_4_0 bcmp_4_0 ocmp_4_0 [(Sl acmp_4_0 cmp_4_0 ccmp_4_0)] precmp_4_0 sufcmp_4_0, Ch.ro 0 (Sl acmp_4_1 cmp_4_1 ccmp_4_1) cmp_4_1, Ch.bx locmp_4_1 bcmp_4_1 ocmp_4_1 [(Sl acmp_4_1 cmp_4_1 ccmp_4_1)] precmp_4_1 sufcmp_4_1] ∧ Md (fun i => (cov []) i ∨ (fun b => blk (Sl adata_0 s27.1 cdata_0) = some b) i) σ28 σm] [fun _ => (Sl adata_0 s27.1 cdata_0), fun _ => (I s27.2), fun _ => (Sl adata_0 s27.1 cdata_0), fun _ => (I s27.2), fun _ => (I (w64 (s27.2 + 1))), fun _ => (Sl adata_0 s27.1 cdata_0), fun _ => (I s27.2), fun _ => (I (w64 (s27.2 + 1))), fun _ => (pt b34 o35), fun _ => (I x31), fun _ => (Sl adata_0 s27.1 cdata_0), fun _ => (I s27.2), fun _ => (pt b40 o41), fun _ => (I x37), fun _ => (pt b46 o47), fun _ => undef] () (by kernel_rfl) (by kernel_rfl) ?_ ?_ ?_
      ·intro σm m0
       exact ⟨H.grow (m0.mono fun _ h => h.elim), m0⟩
      ·refine ac rfl (by
         intro k _nm ρ σm hJ hoff hdep
         have e0 := look_off (N := 220) (hoff 0 rfl) rfl
         exact dp_v (v := (Sl adata_0 s27.1 cdata_0)) wn (rv_move e0) rfl hJ) ?_
       refine ac rfl (by
         intro k _nm ρ σm hJ hoff hdep
         have e13 := look_off (N := 220) (hoff 13 rfl) rfl
         exact dp_v (v := (I s27.2)) wn (rv_move e13) rfl hJ) ?_
       refine ac rfl (by
         intro k _nm ρ σm hJ hoff hdep
         have e0 := look_off (N := 220) (hoff 0 rfl) rfl
         exact dp_v (v := (Sl adata_0 s27.1 cdata_0)) wn (rv_move e0) rfl hJ) ?_
       refine ac rfl (by
         intro k _nm ρ σm hJ hoff hdep
         have e13 := look_off (N := 220) (hoff 13 rfl) rfl
         exact dp_v (v := (I s27.2)) wn (rv_move e13) rfl hJ) ?_
       refine ac rfl (by
         intro k _nm ρ σm hJ hoff hdep
         have e64 := hdep 3 rfl rfl 64 rfl
         exact dp_v (v := (I (w64 (s27.2 + 1)))) wn (rv_add (a := s27.2) (b := 1) e64 rfl) rfl hJ) ?_
       refine ac rfl (by
         intro k _nm ρ σm hJ hoff hdep
         have e0 := look_off (N := 220) (hoff 0 rfl) rfl
         exact dp_v (v := (Sl adata_0 s27.1 cdata_0)) wn (rv_move e0) rfl hJ) ?_
       refine ac rfl (by
         intro k _nm ρ σm hJ hoff hdep
         have e13 := look_off (N := 220) (hoff 13 rfl) rfl
         exact dp_v (v := (I s27.2)) wn (rv_move e13) rfl hJ) ?_
       refine ac rfl (by
         intro k _nm ρ σm hJ hoff hdep
         have e67 := hdep 6 rfl rfl 67 rfl
         exact dp_v (v := (I (w64 (s27.2 + 1)))) wn (rv_add (a := s27.2) (b := 1) e67 rfl) rfl hJ) ?_
       refine ac rfl (by
         intro k _nm ρ σm hJ hoff hdep
         have e66 := hdep 5 rfl rfl 66 rfl
         have e68 := hdep 7 rfl rfl 68 rfl
         exact dp_v (v := (pt b34 o35)) wn (rv_ix Try.underlying23 ti3 e66 e68 hi33) rfl hJ) ?_
       refine all_cons (by
         refine ⟨?_, ?_⟩
         ·intro _nm ρ σm hJ hoff hdep
          have e69 := hdep 8 rfl rfl 69 rfl
          obtain ⟨H, m⟩ := id hJ
          have hc36 := ((H.own 0 rfl).at hx32 hi33).int
          exact dp_v (v := (I x31)) wn (rv_load1 Try.underlying3 rfl e69 hc36) rfl hJ
         trivial) ?_
       refine ac rfl (by
         intro k _nm ρ σm hJ hoff hdep
         have e0 := look_off (N := 220) (hoff 0 rfl) rfl
         exact dp_v (v := (Sl adata_0 s27.1 cdata_0)) wn (rv_move e0) rfl hJ) ?_
       refine ac rfl (by
         intro k _nm ρ σm hJ hoff hdep
         have e13 := look_off (N := 220) (hoff 13 rfl) rfl
         exact dp_v (v := (I s27.2)) wn (rv_move e13) rfl hJ) ?_
       refine ac rfl (by
         intro k _nm ρ σm hJ hoff hdep
         have e71 := hdep 10 rfl rfl 71 rfl
         have e72 := hdep 11 rfl rfl 72 rfl
         exact dp_v (v := (pt b40 o41)) wn (rv_ix Try.underlying23 ti3 e71 e72 hi39) rfl hJ) ?_
       refine all_cons (by
         refine ⟨?_, ?_⟩
         ·intro _nm ρ σm hJ hoff hdep
          have e73 := hdep 12 rfl rfl 73 rfl
          obtain ⟨H, m⟩ := id hJ
          have hc42 := ((H.own 0 rfl).at hx38 hi39).int
          exact dp_v (v := (I x37)) wn (rv_load1 Try.underlying3 rfl e73 hc42) rfl hJ
         trivial) ?_
       refine ac rfl (by
         intro k _nm ρ σm hJ hoff hdep
         have e61 := hdep 0 rfl rfl 61 rfl
         have e62 := hdep 1 rfl rfl 62 rfl
         exact dp_v (v := (pt b46 o47)) wn (rv_ix Try.underlying23 ti3 e61 e62 hi45) rfl hJ) ?_
       refine all_cons (by
         refine ⟨?_, ?_⟩
         ·intro _nm ρ σm hJ hoff hdep
          have e75 := hdep 14 rfl rfl 75 rfl
          have e70 := hdep 9 rfl rfl 70 rfl
          obtain ⟨H, m⟩ := id hJ
          refine dp_exS wn rfl (ex_store_own (e' := x31) (vs := [(I x31)]) (k := 0) H (i := 0) rfl ti3 hx44 hi45 e75 rfl e70 rfl rfl (Nat.le_of_ble_eq_true rfl) (by simp [plain]) (by rintro _ rfl; exact rfl)) ?_
          rintro σq ⟨H2, m2⟩
          exact ⟨_, (), rfl, ⟨H2.sel' [0, 1, 2, 3, 4] rfl rfl, m.comp m2⟩, stab [0, 1, 2, 3, 4, 5, 6, 7, 8, 9, 10, 11, 12, 13, 14] (by kernel_rfl) ⟨rfl, rfl, rfl, rfl, rfl, rfl, rfl, rfl, rfl, rfl, rfl, rfl, rfl, rfl, rfl, trivial⟩⟩
         trivial) ?_
       exact all_nil
      ·intro _nm ρ σ48 hJ hoff hrel
       have e0 := look_off (N := 220) (hoff 0 rfl) rfl
       have e4 := look_off (N := 220) (hoff 4 rfl) rfl
       have e10 := look_off (N := 220) (hoff 10 rfl) rfl
       have e13 := look_off (N := 220) (hoff 13 rfl) rfl
       have e63 := hrel 2 rfl 63 rfl
       have e65 := hrel 4 rfl 65 rfl
       have e74 := hrel 13 rfl 74 rfl
       obtain ⟨H, -⟩ := (show Hp S0 σ0 σ48 [Ch.own 0 0 (Sl adata_0 s27.1 cdata_0) (s27.1.set s27.2.toNat x31), Ch.ro 0 (Sl acmp_4_0 cmp_4_0 ccmp_4_0) cmp_4_0, Ch.bx locmp_4_0 bcmp_4_0 ocmp_4_0 [(Sl acmp_4_0 cmp_4_0 ccmp_4_0)] precmp_4_0 sufcmp_4_0, Ch.ro 0 (Sl acmp_4_1 cmp_4_1 ccmp_4_1) cmp_4_1, Ch.bx locmp_4_1 bcmp_4_1 ocmp_4_1 [(Sl acmp_4_1 cmp_4_1 ccmp_4_1)] precmp_4_1 sufcmp_4_1] ∧ Md (fun i => (cov []) i ∨ (fun b => blk (Sl adata_0 s27.1 cdata_0) = some b) i) σ28 σ48 from hJ)
       clear hJ Hs
       rw [fr_lookL (L := [(0, (Sl adata_0 s27.1 cdata_0)), (4, (.func (.func 78) #[] #[(pt bcmp_4_0 ocmp_4_0), (pt bcmp_4_1 ocmp_4_1)])), (10, (I o2)), (13, (I s27.2)), (63, (Sl adata_0 s27.1 cdata_0)), (65, (I (w64 (s27.2 + 1)))), (74, (I x37))]) ⟨e0, e4, e10, e13, e63, e65, e74, trivial⟩]
       clear hoff hrel e0 e4 e10 e13 e63 e65 e74
       have hsl : (Sl adata_0 s27.1 cdata_0) = (Sl adata_0 (s27.1.set s27.2.toNat x31) cdata_0) := sl_len (by simp)
       rw [hsl]; rw [hsl] at H; clear hsl
       obtain ⟨x49, hx50, h'⟩ := bind_some h
       clear h
       have h := h'; clear h'
       obtain ⟨b52, o53, hi51, -⟩ := (H.own 0 rfl).ix hx50
       refine st (v := (pt b52 o53)) (rv_ix Try.underlying23 ti3 rfl rfl hi51) ?_
       refine st_exS (ex_store_own (e' := x37) (vs := [(I x37)]) (k := 0) H (i := 0) rfl ti3 hx50 hi51 rfl rfl rfl rfl rfl (Nat.le_of_ble_eq_true rfl) (by simp [plain]) (by rintro _ rfl; exact rfl)) wn ?_
       rintro σ54 ⟨H, -⟩
       have hsl : (Sl adata_0 (s27.1.set s27.2.toNat x31) cdata_0) = (Sl adata_0 ((s27.1.set s27.2.toNat x31).set (w64 (s27.2 + 1)).toNat x37) cdata_0) := sl_len List.length_set.symm
       rw [hsl]; rw [hsl] at H; clear hsl
       refine w_end ?_
       refine q_blk ?_
       refine q_then ?_
       refine rg ?_
       refine st (v := (I s27.2)) (rv_move rfl) ?_
       refine st (v := (I (w64 (s27.2 + 1)))) (rv_add (a := s27.2) (b := 1) rfl rfl) ?_
       refine st (v := (I (w64 (s27.2 + 1)))) (rv_assign rfl) ?_
       refine w_end ?_
       refine q_then ?_
       obtain rfl := Option.some.inj h
       exact ⟨_, rfl, _, σ54, fr_join ⟨rfl, rfl, rfl, rfl, trivial⟩, rfl, H.sel' [0, 1, 2, 3, 4] rfl rfl, (List.length_set.trans (List.length_set.trans hn29))⟩
     ·replace h := bif_f hb30 h
      refine c_exit ?_
      refine q_then_x ?_
      refine q_then_x ?_
      refine q_blk_hit ?_
      obtain rfl := Option.some.inj h
      obtain rfl := hres _ rfl
      exact ⟨rfl, _, σ28, fr_join ⟨rfl, rfl, trivial⟩, rfl, H.sel' [0, 1, 2, 3, 4] rfl rfl, hn29⟩
    ·clear hj
     have h := h'
     clear h' H
     rintro e a w ⟨rfl, ρ, σ55, rfl, rfl, H, hn56⟩
     refine q_then ?_
     refine c_ret ?_
     refine q_then_r ?_
     obtain rfl := Option.some.inj h
     exact fin_ret (v := (.tuple #[])) (results_ok Try.results119 res_nil rfl) ⟨rfl, rfl, hn56⟩ (H.sel' [0, 2, 4] rfl rfl)
  ·replace h := bif_f hb1 h
   refine c_skip ?_
   refine q_then ?_
   refine c_seq ?_
   refine c_seq ?_
   refine rg ?_
   refine st (v := (I b_3)) (rv_move rfl) ?_
   refine st (v := (I m_2)) (rv_move rfl) ?_
   refine st (v := (I (w64 (b_3 - m_2)))) (rv_sub (a := b_3) (b := m_2) rfl rfl) ?_
   refine st (v := (B ((w64 (b_3 - m_2)) == 1))) (rv_eql (a := (w64 (b_3 - m_2))) (b := 1) rfl rfl) ?_
   refine w_end ?_
   refine q_then ?_
   refine cd_cond ((w64 (b_3 - m_2)) == 1) rfl (fun hb57 => ?_) (fun hb57 => ?_)
   ·replace h := bif_t hb57 h
    refine c_seq ?_
    refine rg ?_
    refine st (v := (I a_1)) (rv_move rfl) ?_
    refine st (v := (I a_1)) (rv_assign rfl) ?_
    refine w_end ?_
    refine q_then ?_
    refine c_seq ?_
    refine rg ?_
    refine st (v := (I m_2)) (rv_move rfl) ?_
    refine st (v := (I m_2)) (rv_assign rfl) ?_
    refine w_end ?_
    refine q_then ?_
    refine c_seq ?_
    obtain ⟨o58, hj, h'⟩ := bind_some h
    clear h
    refine c_cut (fun e a w => e = .normal ∧ ∃ (ρ : Nat → Value) (σ : St), a = fr 220 (updL ρ [(0, (Sl adata_0 data_0 cdata_0)), (2, (I m_2)), (4, (.func (.func 78) #[] #[(pt bcmp_4_0 ocmp_4_0), (pt bcmp_4_1 ocmp_4_1)])), (14, (I o58))]) ∧ w = σ.w ∧ Hp S0 σ0 σ [Ch.own 0 0 (Sl adata_0 data_0 cdata_0) data_0, Ch.ro 0 (Sl acmp_4_0 cmp_4_0 ccmp_4_0) cmp_4_0, Ch.bx locmp_4_0 bcmp_4_0 ocmp_4_0 [(Sl acmp_4_0 cmp_4_0 ccmp_4_0)] precmp_4_0 sufcmp_4_0, Ch.ro 0 (Sl acmp_4_1 cmp_4_1 ccmp_4_1) cmp_4_1, Ch.bx locmp_4_1 bcmp_4_1 ocmp_4_1 [(Sl acmp_4_1 cmp_4_1 ccmp_4_1)] precmp_4_1 sufcmp_4_1]) ?_ ?_
    ·clear h'
     rename _ = some o58 => h
     refine c_blk ?_
     refine wp_loopM _ h (fun s59 a w => ∃ (ρ : Nat → Value) (σ : St), a = fr 220 (updL ρ [(0, (Sl adata_0 data_0 cdata_0)), (2, (I m_2)), (4, (.func (.func 78) #[] #[(pt bcmp_4_0 ocmp_4_0), (pt bcmp_4_1 ocmp_4_1)])), (14, (I s59.1)), (15, (I s59.2))]) ∧ w = σ.w ∧ Hp S0 σ0 σ [Ch.own 0 0 (Sl adata_0 data_0 cdata_0) data_0, Ch.ro 0 (Sl acmp_4_0 cmp_4_0 ccmp_4_0) cmp_4_0, Ch.bx locmp_4_0 bcmp_4_0 ocmp_4_0 [(Sl acmp_4_0 cmp_4_0 ccmp_4_0)] precmp_4_0 sufcmp_4_0, Ch.ro 0 (Sl acmp_4_1 cmp_4_1 ccmp_4_1) cmp_4_1, Ch.bx locmp_4_1 bcmp_4_1 ocmp_4_1 [(Sl acmp_4_1 cmp_4_1 ccmp_4_1)] precmp_4_1 sufcmp_4_1]) ⟨_, σ0, fr_join ⟨rfl, rfl, rfl, rfl, rfl, trivial⟩, rfl, H.sel' [0, 2, 1, 4, 3] rfl rfl⟩ ?_
     clear h H
     rintro s59 a w o ⟨ρ, σ60, rfl, rfl, H⟩ h hres
     refine c_seq ?_
     refine c_seq ?_
     refine rg ?_
     refine st (v := (I s59.1)) (rv_move rfl) ?_
     refine st (v := (I s59.2)) (rv_move rfl) ?_
     refine st (v := (B (decide (s59.1 < s59.2)))) (rv_lss (a := s59.1) (b := s59.2) rfl rfl) ?_
     refine w_end ?_
     refine q_then ?_
     refine cd_cond (decide (s59.1 < s59.2)) rfl (fun hb61 => ?_) (fun hb61 => ?_)
     ·replace h := bif_t hb61 h
      refine c_skip ?_
      refine q_then ?_
      refine c_blk ?_
      refine c_seq ?_
      refine rg ?_
      refine st (v := (I s59.1)) (rv_move rfl) ?_
      refine st (v := (I s59.2)) (rv_move rfl) ?_
      refine st (v := (I (w64 (s59.1 + s59.2)))) (rv_add (a := s59.1) (b := s59.2) rfl rfl) ?_
      refine st (v := (.int .u64 (wk .u64 (w64 (s59.1 + s59.2))))) (rvk_conv (k := .i64) (k' := .u64) (a := (w64 (s59.1 + s59.2))) Try.underlying3 Try.underlying134 rfl) ?_
      refine st (v := (.int .u64 (gshr .u64 (wk .u64 (w64 (s59.1 + s59.2))) 1))) (rvk_shr (k := .u64) (k' := .u64) (a := (wk .u64 (w64 (s59.1 + s59.2)))) (b := 1) rfl rfl (by decide)) ?_
      refine st (v := (I (wk .i64 (gshr .u64 (wk .u64 (w64 (s59.1 + s59.2))) 1)))) (rvk_conv (k := .u64) (k' := .i64) (a := (gshr .u64 (wk .u64 (w64 (s59.1 + s59.2))) 1)) Try.underlying134 Try.underlying3 rfl) ?_
      refine st (v := (I (wk .i64 (gshr .u64 (wk .u64 (w64 (s59.1 + s59.2))) 1)))) (rv_assign rfl) ?_
      refine w_end ?_
      refine q_then ?_
      refine c_seq ?_
      refine rgP (σ := σ60) 9 (by kernel_rfl) (by kernel_rfl) (by kernel_rfl) ?_
      refine sq (v := (.func (.func 78) #[] #[(pt bcmp_4_0 ocmp_4_0), (pt bcmp_4_1 ocmp_4_1)])) (rv_move rfl) ?_
      refine sq (v := (Sl adata_0 data_0 cdata_0)) (rv_move rfl) ?_
      refine sq (v := (I m_2)) (rv_move rfl) ?_
      obtain ⟨x62, hx63, h'⟩ := bind_some h
      clear h
      have h := h'; clear h'
      obtain ⟨b65, o66, hi64, -⟩ := (H.own 0 rfl).ix hx63
      refine sq (v := (pt b65 o66)) (rv_ix Try.underlying23 ti3 rfl rfl hi64) ?_
      have hc67 := ((H.own 0 rfl).at hx63 hi64).int
      refine sq (v := (I x62)) (rv_load1 Try.underlying3 rfl rfl hc67) ?_
      refine sq (v := (Sl adata_0 data_0 cdata_0)) (rv_move rfl) ?_
      refine sq (v := (I (wk .i64 (gshr .u64 (wk .u64 (w64 (s59.1 + s59.2))) 1)))) (rv_move rfl) ?_
      obtain ⟨x68, hx69, h'⟩ := bind_some h
      clear h
      have h := h'; clear h'
      obtain ⟨b71, o72, hi70, -⟩ := (H.own 0 rfl).ix hx69
      refine sq (v := (pt b71 o72)) (rv_ix Try.underlying23 ti3 rfl rfl hi70) ?_
      have hc73 := ((H.own 0 rfl).at hx69 hi70).int
      refine sq (v := (I x68)) (rv_load1 Try.underlying3 rfl rfl hc73) ?_
      refine sq_end ?_
      intro σ74 hm75
      replace H := H.grow (hm75.mono fun _ h => h); clear hm75
      obtain ⟨r76, hx77, h'⟩ := bind_some h
      clear h
      have h := h'; clear h'
      have hc78 := c_impl_ProbeOrder_1__p_SSint__p24 (lop_2 := locmp_4_0) (bp_2 := bcmp_4_0) (op_2 := ocmp_4_0) (prep_2 := precmp_4_0) (sufp_2 := sufcmp_4_0) (ap_2 := acmp_4_0) (cp_2 := ccmp_4_0) (lop_3 := locmp_4_1) (bp_3 := bcmp_4_1) (op_3 := ocmp_4_1) (prep_3 := precmp_4_1) (sufp_3 := sufcmp_4_1) (ap_3 := acmp_4_1) (cp_3 := ccmp_4_1) hx77
      refine st_call (cx_call hc78 (ent_v (cap := [(pt bcmp_4_0 ocmp_4_0), (pt bcmp_4_1 ocmp_4_1)]) hc78.fn rfl rfl) hn0 (show Hp S0 σ0 _ ([Ch.bx locmp_4_0 bcmp_4_0 ocmp_4_0 [(Sl acmp_4_0 cmp_4_0 ccmp_4_0)] precmp_4_0 sufcmp_4_0, Ch.ro 0 (Sl acmp_4_0 cmp_4_0 ccmp_4_0) cmp_4_0, Ch.bx locmp_4_1 bcmp_4_1 ocmp_4_1 [(Sl acmp_4_1 cmp_4_1 ccmp_4_1)] precmp_4_1 sufcmp_4_1, Ch.ro 0 (Sl acmp_4_1 cmp_4_1 ccmp_4_1) cmp_4_1] ++ [Ch.own 0 0 (Sl adata_0 data_0 cdata_0) data_0, Ch.ro 0 (Sl acmp_4_0 cmp_4_0 ccmp_4_0) cmp_4_0, Ch.ro 0 (Sl acmp_4_1 cmp_4_1 ccmp_4_1) cmp_4_1]) from (H.sel' [2, 1, 4, 3, 0, 1, 3] rfl rfl))) wn ?_
      rintro _ σ79 ⟨_, ⟨rfl, rfl⟩, H, -⟩
      replace H : Hp S0 σ0 σ79 [Ch.bx locmp_4_0 bcmp_4_0 ocmp_4_0 [(Sl acmp_4_0 cmp_4_0 ccmp_4_0)] precmp_4_0 sufcmp_4_0, Ch.bx locmp_4_1 bcmp_4_1 ocmp_4_1 [(Sl acmp_4_1 cmp_4_1 ccmp_4_1)] precmp_4_1 sufcmp_4_1, Ch.own 0 0 (Sl adata_0 data_0 cdata_0) data_0, Ch.ro 0 (Sl acmp_4_0 cmp_4_0 ccmp_4_0) cmp_4_0, Ch.ro 0 (Sl acmp_4_1 cmp_4_1 ccmp_4_1) cmp_4_1] := H
      refine st (v := (B (decide (r76 < 0)))) (rv_lss (a := r76) (b := 0) rfl rfl) ?_
      refine st (v := (B (!(decide (r76 < 0))))) (rv_not rfl) ?_
      refine w_end ?_
      refine q_then ?_
      refine cd_cond (!(decide (r76 < 0))) rfl (fun hb80 => ?_) (fun hb80 => ?_)
      ·replace h := bif_t hb80 h
       refine rg ?_
       refine st (v := (I (wk .i64 (gshr .u64 (wk .u64 (w64 (s59.1 + s59.2))) 1)))) (rv_move rfl) ?_
       refine st (v := (I (w64 ((wk .i64 (gshr .u64 (wk .u64 (w64 (s59.1 + s59.2))) 1)) + 1)))) (rv_add (a := (wk .i64 (gshr .u64 (wk .u64 (w64 (s59.1 + s59.2))) 1))) (b := 1) rfl rfl) ?_
       refine st (v := (I (w64 ((wk .i64 (gshr .u64 (wk .u64 (w64 (s59.1 + s59.2))) 1)) + 1)))) (rv_assign rfl) ?_
       refine w_end ?_
       refine q_blk ?_
       refine q_then ?_
       obtain rfl := Option.some.inj h
       exact ⟨_, rfl, _, σ79, fr_join ⟨rfl, rfl, rfl, rfl, rfl, trivial⟩, rfl, H.sel' [2, 3, 0, 4, 1] rfl rfl⟩
      ·replace h := bif_f hb80 h
       refine rg ?_
       refine st (v := (I (wk .i64 (gshr .u64 (wk .u64 (w64 (s59.1 + s59.2))) 1)))) (rv_move rfl) ?_
       refine st (v := (I (wk .i64 (gshr .u64 (wk .u64 (w64 (s59.1 + s59.2))) 1)))) (rv_assign rfl) ?_
       refine w_end ?_
       refine q_blk ?_
       refine q_then ?_
       obtain rfl := Option.some.inj h
       exact ⟨_, rfl, _, σ79, fr_join ⟨rfl, rfl, rfl, rfl, rfl, trivial⟩, rfl, H.sel' [2, 3, 0, 4, 1] rfl rfl⟩
     ·replace h := bif_f hb61 h
      refine c_exit ?_
      refine q_then_x ?_
      refine q_then_x ?_
      refine q_blk_hit ?_
      obtain rfl := Option.some.inj h
      obtain rfl := hres _ rfl
      exact ⟨rfl, _, σ60, fr_join ⟨rfl, rfl, rfl, rfl, trivial⟩, rfl, H.sel' [0, 1, 2, 3, 4] rfl rfl⟩
    ·clear hj
     have h := h'
     clear h' H
     rintro e a w ⟨rfl, ρ, σ81, rfl, rfl, H⟩
     refine q_then ?_
     refine c_seq ?_
     refine c_seq ?_
     refine rg ?_
     refine st (v := (I m_2)) (rv_move rfl) ?_
     refine st (v := (I m_2)) (rv_assign rfl) ?_
     refine w_end ?_
     refine q_then ?_
     obtain ⟨o82, hj, h'⟩ := bind_some h
     clear h
     refine c_cut (fun e a w => e = .normal ∧ ∃ (ρ : Nat → Value) (σ : St), a = fr 220 (updL ρ [(0, (Sl adata_0 o82 cdata_0)), (4, (.func (.func 78) #[] #[(pt bcmp_4_0 ocmp_4_0), (pt bcmp_4_1 ocmp_4_1)]))]) ∧ w = σ.w ∧ Hp S0 σ0 σ [Ch.own 0 0 (Sl adata_0 o82 cdata_0) o82, Ch.ro 0 (Sl acmp_4_0 cmp_4_0 ccmp_4_0) cmp_4_0, Ch.bx locmp_4_0 bcmp_4_0 ocmp_4_0 [(Sl acmp_4_0 cmp_4_0 ccmp_4_0)] precmp_4_0 sufcmp_4_0, Ch.ro 0 (Sl acmp_4_1 cmp_4_1 ccmp_4_1) cmp_4_1, Ch.bx locmp_4_1 bcmp_4_1 ocmp_4_1 [(Sl acmp_4_1 cmp_4_1 ccmp_4_1)] precmp_4_1 sufcmp_4_1] ∧ o82.length = data_0.length) ?_ ?_
     ·clear h'
      rename _ = some o82 => h
      refine c_blk ?_
      refine wp_loopM _ h (fun s83 a w => ∃ (ρ : Nat → Value) (σ : St), a = fr 220 (updL ρ [(0, (Sl adata_0 s83.1 cdata_0)), (4, (.func (.func 78) #[] #[(pt bcmp_4_0 ocmp_4_0), (pt bcmp_4_1 ocmp_4_1)])), (14, (I o58)), (17, (I s83.2))]) ∧ w = σ.w ∧ Hp S0 σ0 σ [Ch.own 0 0 (Sl adata_0 s83.1 cdata_0) s83.1, Ch.ro 0 (Sl acmp_4_0 cmp_4_0 ccmp_4_0) cmp_4_0, Ch.bx locmp_4_0 bcmp_4_0 ocmp_4_0 [(Sl acmp_4_0 cmp_4_0 ccmp_4_0)] precmp_4_0 sufcmp_4_0, Ch.ro 0 (Sl acmp_4_1 cmp_4_1 ccmp_4_1) cmp_4_1, Ch.bx locmp_4_1 bcmp_4_1 ocmp_4_1 [(Sl acmp_4_1 cmp_4_1 ccmp_4_1)] precmp_4_1 sufcmp_4_1] ∧ s83.1.length = data_0.length) ⟨_, σ81, fr_join ⟨rfl, rfl, rfl, rfl, trivial⟩, rfl, H.sel' [0, 1, 2, 3, 4] rfl rfl, rfl⟩ ?_
      clear h H
      rintro s83 a w o ⟨ρ, σ84, rfl, rfl, H, hn85⟩ h hres
      refine c_seq ?_
      refine c_seq ?_
      refine rg ?_
      refine st (v := (I s83.2)) (rv_move rfl) ?_
      refine st (v := (I o58)) (rv_move rfl) ?_
      refine st (v := (B (decide (o58 < s83.2)))) (rv_gtr (a := s83.2) (b := o58) rfl rfl) ?_
      refine w_end ?_
      refine q_then ?_
      refine cd_cond (decide (o58 < s83.2)) rfl (fun hb86 => ?_) (fun hb86 => ?_)
      ·replace h := bif_t hb86 h
       refine c_skip ?_
       refine q_then ?_
       refine c_seq ?_
       refine c_blk ?_
       obtain ⟨x87, hx88, h'⟩ := bind_some h
       clear h
       have h := h'; clear h'
       obtain ⟨b90, o91, hi89, -⟩ := (H.own 0 rfl).ix hx88
       have hc92 := ((H.own 0 rfl).at hx88 hi89).int
       obtain ⟨x93, hx94, h'⟩ := bind_some h
       clear h
       have h := h'; clear h'
       obtain ⟨b96, o97, hi95, -⟩ := (H.own 0 rfl).ix hx94
       have hc98 := ((H.own 0 rfl).at hx94 hi95).int
       obtain ⟨x99, hx100, h'⟩ := bind_some h
       clear h
       have h := h'; clear h'
       obtain ⟨b102, o103, hi101, -⟩ := (H.own 0 rfl).ix hx100
       have Hs := H
       refine rg2 (σ := σ84) (Nm := Unit) 16 [15] [[false], [true]] [[(0, 0)], [(0, 0)], [(0, 0), (1, 1)], [(0, 0), (1, 1)], [(0, 0), (1, 1)], [(0, 0)], [(0, 0)], [(0, 0)], [(0, 0)], [(0, 0)], [(0, 0)], [(0, 0)], [(0, 0)], [(0, 0)], [(0, 0)], [(0, 1)]] 1 [fun _ => fun σm => Hp S0 σ0 σm [Ch.own 0 0 (Sl adata_0 s83.1 cdata_0) s83.1, Ch.ro 0 (Sl acmp_4_0 cmp_4_0 ccmp_4_0) cmp_4_0, Ch.bx locmp_4_0 bcmp_4_0 ocmp_4_0 [(Sl acmp_4_0 cmp_4_0 ccmp_4_0)] precmp_4_0 sufcmp_4_0, Ch.ro 0 (Sl acmp_4_1 cmp_4_1 ccmp_4_1) cmp_4_1, Ch.bx locmp_4_1 bcmp_4_1 ocmp_4_1 [(Sl acmp_4_1 cmp_4_1 ccmp_4_1)] precmp_4_1 sufcmp_4_1] ∧ Md (cov []) σ84 σm, fun _ => fun σm => Hp S0 σ0 σm [Ch.own 0 0 (Sl adata_0 s83.1 cdata_0) (s83.1.set s83.2.toNat x87), Ch.ro 0 (Sl acmp_4_0 cmp_4_0 ccmp_4_0) cmp_4_0, Ch.bx locmp_4_0 bcmp_4_0 ocmp_4_0 [(Sl acmp_4_0 cmp_4_0 ccmp_4_0)] precmp_4_0 sufcmp_4_0, Ch.ro 0 (Sl acmp_4_1 cmp_4_1 ccmp_4_1) cmp_4_1, Ch.bx locmp_4_1 bcmp_4_1 ocmp_4_1 [(Sl acmp_4_1 cmp_4_1 ccmp_4_1)] precmp_4_1 sufcmp_4_1] ∧ Md (fun i => (cov []) i ∨ (fun b => blk (Sl adata_0 s83.1 cdata_0) = some b) i) σ84 σm] [fun _ => (Sl adata_0 s83.1 cdata_0), fun _ => (I s83.2), fun _ => (Sl adata_0 s83.1 cdata_0), fun _ => (I s83.2), fun _ => (I (w64 (s83.2 - 1))), fun _ => (Sl adata_0 s83.1 cdata_0), fun _ => (I s83.2), fun _ => (I (w64 (s83.2 - 1))), fun _ => (pt b90 o91), fun _ => (I x87), fun _ => (Sl adata_0 s83.1 cdata_0), fun _ => (I s83.2), fun _ => (pt b96 o97), fun _ => (I x93), fun _ => (pt b102 o103), fun _ => undef] () (by kernel_rfl) (by kernel_rfl) ?_ ?_ ?_
       ·intro σm m0
        exact ⟨H.grow (m0.mono fun _ h => h.elim), m0⟩
       ·refine ac rfl (by
          intro k _nm ρ σm hJ hoff hdep
          have e0 := look_off (N := 220) (hoff 0 rfl) rfl
          exact dp_v (v := (Sl adata_0 s83.1 cdata_0)) wn (rv_move e0) rfl hJ) ?_
        refine ac rfl (by
          intro k _nm ρ σm hJ hoff hdep
          have e17 := look_off (N := 220) (hoff 17 rfl) rfl
          exact dp_v (v := (I s83.2)) wn (rv_move e17) rfl hJ) ?_
        refine ac rfl (by
          intro k _nm ρ σm hJ hoff hdep
          have e0 := look_off (N := 220) (hoff 0 rfl) rfl
          exact dp_v (v := (Sl adata_0 s83.1 cdata_0)) wn (rv_move e0) rfl hJ) ?_
        refine ac rfl (by
          intro k _nm ρ σm hJ hoff hdep
          have e17 := look_off (N := 220) (hoff 17 rfl) rfl
          exact dp_v (v := (I s83.2)) wn (rv_move e17) rfl hJ) ?_
        refine ac rfl (by
          intro k _nm ρ σm hJ hoff hdep
          have e116 := hdep 3 rfl rfl 116 rfl
          exact dp_v (v := (I (w64 (s83.2 - 1)))) wn (rv_sub (a := s83.2) (b := 1) e116 rfl) rfl hJ) ?_
        refine ac rfl (by
          intro k _nm ρ σm hJ hoff hdep
          have e0 := look_off (N := 220) (hoff 0 rfl) rfl
          exact dp_v (v := (Sl adata_0 s83.1 cdata_0)) wn (rv_move e0) rfl hJ) ?_
        refine ac rfl (by
          intro k _nm ρ σm hJ hoff hdep
          have e17 := look_off (N := 220) (hoff 17 rfl) rfl
          exact dp_v (v := (I s83.2)) wn (rv_move e17) rfl hJ) ?_
        refine ac rfl (by
          intro k _nm ρ σm hJ hoff hdep
          have e119 := hdep 6 rfl rfl 119 rfl
          exact dp_v (v := (I (w64 (s83.2 - 1)))) wn (rv_sub (a := s83.2) (b := 1) e119 rfl) rfl hJ) ?_
        refine ac rfl (by
          intro k _nm ρ σm hJ hoff hdep
          have e118 := hdep 5 rfl rfl 118 rfl
          have e120 := hdep 7 rfl rfl 120 rfl
          exact dp_v (v := (pt b90 o91)) wn (rv_ix Try.underlying23 ti3 e118 e120 hi89) rfl hJ) ?_
        refine all_cons (by
          refine ⟨?_, ?_⟩
          ·intro _nm ρ σm hJ hoff hdep
           have e121 := hdep 8 rfl rfl 121 rfl
           obtain ⟨H, m⟩ := id hJ
           have hc92 := ((H.own 0 rfl).at hx88 hi89).int
           exact dp_v (v := (I x87)) wn (rv_load1 Try.underlying3 rfl e121 hc92) rfl hJ
          trivial) ?_
        refine ac rfl (by
          intro k _nm ρ σm hJ hoff hdep
          have e0 := look_off (N := 220) (hoff 0 rfl) rfl
          exact dp_v (v := (Sl adata_0 s83.1 cdata_0)) wn (rv_move e0) rfl hJ) ?_
        refine ac rfl (by
          intro k _nm ρ σm hJ hoff hdep
          have e17 := look_off (N := 220) (hoff 17 rfl) rfl
          exact dp_v (v := (I s83.2)) wn (rv_move e17) rfl hJ) ?_
        refine ac rfl (by
          intro k _nm ρ σm hJ hoff hdep
          have e123 := hdep 10 rfl rfl 123 rfl
          have e124 := hdep 11 rfl rfl 124 rfl
          exact dp_v (v := (pt b96 o97)) wn (rv_ix Try.underlying23 ti3 e123 e124 hi95) rfl hJ) ?_
        refine all_cons (by
          refine ⟨?_, ?_⟩
          ·intro _nm ρ σm hJ hoff hdep
           have e125 := hdep 12 rfl rfl 125 rfl
           obtain ⟨H, m⟩ := id hJ
           have hc98 := ((H.own 0 rfl).at hx94 hi95).int
           exact dp_v (v := (I x93)) wn (rv_load1 Try.underlying3 rfl e125 hc98) rfl hJ
          trivial) ?_
        refine ac rfl (by
          intro k _nm ρ σm hJ hoff hdep
          have e113 := hdep 0 rfl rfl 113 rfl
          have e114 := hdep 1 rfl rfl 114 rfl
          exact dp_v (v := (pt b102 o103)) wn (rv_ix Try.underlying23 ti3 e113 e114 hi101) rfl hJ) ?_
        refine all_cons (by
          refine ⟨?_, ?_⟩
          ·intro _nm ρ σm hJ hoff hdep
           have e127 := hdep 14 rfl rfl 127 rfl
           have e122 := hdep 9 rfl rfl 122 rfl
           obtain ⟨H, m⟩ := id hJ
           refine dp_exS wn rfl (ex_store_own (e' := x87) (vs := [(I x87)]) (k := 0) H (i := 0) rfl ti3 hx100 hi101 e127 rfl e122 rfl rfl (Nat.le_of_ble_eq_true rfl) (by simp [plain]) (by rintro _ rfl; exact rfl)) ?_
           rintro σq ⟨H2, m2⟩
           exact ⟨_, (), rfl, ⟨H2.sel' [0, 1, 2, 3, 4] rfl rfl, m.comp m2⟩, stab [0, 1, 2, 3, 4, 5, 6, 7, 8, 9, 10, 11, 12, 13, 14] (by kernel_rfl) ⟨rfl, rfl, rfl, rfl, rfl, rfl, rfl, rfl, rfl, rfl, rfl, rfl, rfl, rfl, rfl, trivial⟩⟩
          trivial) ?_
        exact all_nil
       ·intro _nm ρ σ104 hJ hoff hrel
        have e0 := look_off (N := 220) (hoff 0 rfl) rfl
        have e4 := look_off (N := 220) (hoff 4 rfl) rfl
        have e14 := look_off (N := 220) (hoff 14 rfl) rfl
        have e17 := look_off (N := 220) (hoff 17 rfl) rfl
        have e115 := hrel 2 rfl 115 rfl
        have e117 := hrel 4 rfl 117 rfl
        have e126 := hrel 13 rfl 126 rfl
        obtain ⟨H, -⟩ := (show Hp S0 σ0 σ104 [Ch.own 0 0 (Sl adata_0 s83.1 cdata_0) (s83.1.set s83.2.toNat x87), Ch.ro 0 (Sl acmp_4_0 cmp_4_0 ccmp_4_0) cmp_4_0, Ch.bx locmp_4_0 bcmp_4_0 ocmp_4_0 [(Sl acmp_4_0 cmp_4_0 ccmp_4_0)] precmp_4_0 sufcmp_4_0, Ch.ro 0 (Sl acmp_4_1 cmp_4_1 ccmp_4_1) cmp_4_1, Ch.bx locmp_4_1 bcmp_4_1 ocmp_4_1 [(Sl acmp_4_1 cmp_4_1 ccmp_4_1)] precmp_4_1 sufcmp_4_1] ∧ Md (fun i => (cov []) i ∨ (fun b => blk (Sl adata_0 s83.1 cdata_0) = some b) i) σ84 σ104 from hJ)
        clear hJ Hs
        rw [fr_lookL (L := [(0, (Sl adata_0 s83.1 cdata_0)), (4, (.func (.func 78) #[] #[(pt bcmp_4_0 ocmp_4_0), (pt bcmp_4_1 ocmp_4_1)])), (14, (I o58)), (17, (I s83.2)), (115, (Sl adata_0 s83.1 cdata_0)), (117, (I (w64 (s83.2 - 1)))), (126, (I x93))]) ⟨e0, e4, e14, e17, e115, e117, e126, trivial⟩]
        clear hoff hrel e0 e4 e14 e17 e115 e117 e126
        have hsl : (Sl adata_0 s83.1 cdata_0) = (Sl adata_0 (s83.1.set s83.2.toNat x87) cdata_0) := sl_len (by simp)
        rw [hsl]; rw [hsl] at H; clear hsl
        obtain ⟨x105, hx106, h'⟩ := bind_some h
        clear h
        have h := h'; clear h'
        obtain ⟨b108, o109, hi107, -⟩ := (H.own 0 rfl).ix hx106
        refine st (v := (pt b108 o109)) (rv_ix Try.underlying23 ti3 rfl rfl hi107) ?_
        refine st_exS (ex_store_own (e' := x93) (vs := [(I x93)]) (k := 0) H (i := 0) rfl ti3 hx106 hi107 rfl rfl rfl rfl rfl (Nat.le_of_ble_eq_true rfl) (by simp [plain]) (by rintro _ rfl; exact rfl)) wn ?_
        rintro σ110 ⟨H, -⟩
        have hsl : (Sl adata_0 (s83.1.set s83.2.toNat x87) cdata_0) = (Sl adata_0 ((s83.1.set s83.2.toNat x87).set (w64 (s83.2 - 1)).toNat x93) cdata_0) := sl_len List.length_set.symm
        rw [hsl]; rw [hsl] at H; clear hsl
        refine w_end ?_
        refine q_blk ?_
        refine q_then ?_
        refine rg ?_
        refine st (v := (I s83.2)) (rv_move rfl) ?_
        refine st (v := (I (w64 (s83.2 - 1)))) (rv_sub (a := s83.2) (b := 1) rfl rfl) ?_
        refine st (v := (I (w64 (s83.2 - 1)))) (rv_assign rfl) ?_
        refine w_end ?_
        refine q_then ?_
        obtain rfl := Option.some.inj h
        exact ⟨_, rfl, _, σ110, fr_join ⟨rfl, rfl, rfl, rfl, trivial⟩, rfl, H.sel' [0, 1, 2, 3, 4] rfl rfl, (List.length_set.trans (List.length_set.trans hn85))⟩
      ·replace h := bif_f hb86 h
       refine c_exit ?_
       refine q_then_x ?_
       refine q_then_x ?_
       refine q_blk_hit ?_
       obtain rfl := Option.some.inj h
       obtain rfl := hres _ rfl
       exact ⟨rfl, _, σ84, fr_join ⟨rfl, rfl, trivial⟩, rfl, H.sel' [0, 1, 2, 3, 4] rfl rfl, hn85⟩
     ·clear hj
      have h := h'
      clear h' H
      rintro e a w ⟨rfl, ρ, σ111, rfl, rfl, H, hn112⟩
      refine q_then ?_
      refine c_ret ?_
      refine q_then_r ?_
      obtain rfl := Option.some.inj h
      exact fin_ret (v := (.tuple #[])) (results_ok Try.results119 res_nil rfl) ⟨rfl, rfl, hn112⟩ (H.sel' [0, 2, 4] rfl rfl)
   ·replace h := bif_f hb57 h
    refine c_skip ?_
    refine q_then ?_
    refine c_seq ?_
    refine rg ?_
    refine st (v := (I a_1)) (rv_move rfl) ?_
    refine st (v := (I b_3)) (rv_move rfl) ?_
    refine st (v := (I (w64 (a_1 + b_3)))) (rv_add (a := a_1) (b := b_3) rfl rfl) ?_
    refine st (v := (.int .u64 (wk .u64 (w64 (a_1 + b_3))))) (rvk_conv (k := .i64) (k' := .u64) (a := (w64 (a_1 + b_3))) Try.underlying3 Try.underlying134 rfl) ?_
    refine st (v := (.int .u64 (gshr .u64 (wk .u64 (w64 (a_1 + b_3))) 1))) (rvk_shr (k := .u64) (k' := .u64) (a := (wk .u64 (w64 (a_1 + b_3)))) (b := 1) rfl rfl (by decide)) ?_
    refine st (v := (I (wk .i64 (gshr .u64 (wk .u64 (w64 (a_1 + b_3))) 1)))) (rvk_conv (k := .u64) (k' := .i64) (a := (gshr .u64 (wk .u64 (w64 (a_1 + b_3))) 1)) Try.underlying134 Try.underlying3 rfl) ?_
    refine st (v := (I (wk .i64 (gshr .u64 (wk .u64 (w64 (a_1 + b_3))) 1)))) (rv_assign rfl) ?_
    refine w_end ?_
    refine q_then ?_
    refine c_seq ?_
    refine rg ?_
    refine st (v := (I (wk .i64 (gshr .u64 (wk .u64 (w64 (a_1 + b_3))) 1)))) (rv_move rfl) ?_
    refine st (v := (I m_2)) (rv_move rfl) ?_
    refine st (v := (I (w64 ((wk .i64 (gshr .u64 (wk .u64 (w64 (a_1 + b_3))) 1)) + m_2)))) (rv_add (a := (wk .i64 (gshr .u64 (wk .u64 (w64 (a_1 + b_3))) 1))) (b := m_2) rfl rfl) ?_
    refine st (v := (I (w64 ((wk .i64 (gshr .u64 (wk .u64 (w64 (a_1 + b_3))) 1)) + m_2)))) (rv_assign rfl) ?_
    refine w_end ?_
    refine q_then ?_
    refine c_seq ?_
    refine rg ?_
    refine st (v := (I 0)) (rv_assign rfl) ?_
    refine st (v := (I 0)) (rv_assign rfl) ?_
    refine w_end ?_
    refine q_then ?_
    refine c_seq ?_
    refine c_seq ?_
    refine rg ?_
    refine st (v := (I m_2)) (rv_move rfl) ?_
    refine st (v := (I (wk .i64 (gshr .u64 (wk .u64 (w64 (a_1 + b_3))) 1)))) (rv_move rfl) ?_
    refine st (v := (B (decide ((wk .i64 (gshr .u64 (wk .u64 (w64 (a_1 + b_3))) 1)) < m_2)))) (rv_gtr (a := m_2) (b := (wk .i64 (gshr .u64 (wk .u64 (w64 (a_1 + b_3))) 1))) rfl rfl) ?_
    refine w_end ?_
    refine q_then ?_
    obtain ⟨o113, hj, h'⟩ := bind_some h
    clear h
    refine c_cut (fun e a w => e = .normal ∧ ∃ (ρ : Nat → Value) (σ : St), a = fr 220 (updL ρ [(0, (Sl adata_0 data_0 cdata_0)), (1, (I a_1)), (2, (I m_2)), (3, (I b_3)), (4, (.func (.func 78) #[] #[(pt bcmp_4_0 ocmp_4_0), (pt bcmp_4_1 ocmp_4_1)])), (18, (I (wk .i64 (gshr .u64 (wk .u64 (w64 (a_1 + b_3))) 1)))), (19, (I (w64 ((wk .i64 (gshr .u64 (wk .u64 (w64 (a_1 + b_3))) 1)) + m_2)))), (20, (I o113.1)), (21, (I o113.2))]) ∧ w = σ.w ∧ Hp S0 σ0 σ [Ch.own 0 0 (Sl adata_0 data_0 cdata_0) data_0, Ch.ro 0 (Sl acmp_4_0 cmp_4_0 ccmp_4_0) cmp_4_0, Ch.bx locmp_4_0 bcmp_4_0 ocmp_4_0 [(Sl acmp_4_0 cmp_4_0 ccmp_4_0)] precmp_4_0 sufcmp_4_0, Ch.ro 0 (Sl acmp_4_1 cmp_4_1 ccmp_4_1) cmp_4_1, Ch.bx locmp_4_1 bcmp_4_1 ocmp_4_1 [(Sl acmp_4_1 cmp_4_1 ccmp_4_1)] precmp_4_1 sufcmp_4_1]) ?_ ?_
    ·clear h'
     rename _ = some o113 => h
     refine cd_cond (decide ((wk .i64 (gshr .u64 (wk .u64 (w64 (a_1 + b_3))) 1)) < m_2)) rfl (fun hb114 => ?_) (fun hb114 => ?_)
     ·replace h := bif_t hb114 h
      refine c_seq ?_
      refine rg ?_
      refine st (v := (I (w64 ((wk .i64 (gshr .u64 (wk .u64 (w64 (a_1 + b_3))) 1)) + m_2)))) (rv_move rfl) ?_
      refine st (v := (I b_3)) (rv_move rfl) ?_
      refine st (v := (I (w64 ((w64 ((wk .i64 (gshr .u64 (wk .u64 (w64 (a_1 + b_3))) 1)) + m_2)) - b_3)))) (rv_sub (a := (w64 ((wk .i64 (gshr .u64 (wk .u64 (w64 (a_1 + b_3))) 1)) + m_2))) (b := b_3) rfl rfl) ?_
      refine st (v := (I (w64 ((w64 ((wk .i64 (gshr .u64 (wk .u64 (w64 (a_1 + b_3))) 1)) + m_2)) - b_3)))) (rv_assign rfl) ?_
      refine w_end ?_
      refine q_then ?_
      refine rg ?_
      refine st (v := (I (wk .i64 (gshr .u64 (wk .u64 (w64 (a_1 + b_3))) 1)))) (rv_move rfl) ?_
      refine st (v := (I (wk .i64 (gshr .u64 (wk .u64 (w64 (a_1 + b_3))) 1)))) (rv_assign rfl) ?_
      refine w_end ?_
      obtain rfl := Option.some.inj h
      exact ⟨rfl, _, σ0, fr_join ⟨rfl, rfl, rfl, rfl, rfl, rfl, rfl, rfl, rfl, trivial⟩, rfl, H.sel' [0, 2, 1, 4, 3] rfl rfl⟩
     ·replace h := bif_f hb114 h
      refine c_seq ?_
      refine rg ?_
      refine st (v := (I a_1)) (rv_move rfl) ?_
      refine st (v := (I a_1)) (rv_assign rfl) ?_
      refine w_end ?_
      refine q_then ?_
      refine rg ?_
      refine st (v := (I m_2)) (rv_move rfl) ?_
      refine st (v := (I m_2)) (rv_assign rfl) ?_
      refine w_end ?_
      obtain rfl := Option.some.inj h
      exact ⟨rfl, _, σ0, fr_join ⟨rfl, rfl, rfl, rfl, rfl, rfl, rfl, rfl, rfl, trivial⟩, rfl, H.sel' [0, 2, 1, 4, 3] rfl rfl⟩
    ·clear hj
     have h := h'
     clear h' H
     rintro e a w ⟨rfl, ρ, σ115, rfl, rfl, H⟩
     refine q_then ?_
     refine c_seq ?_
     refine rg ?_
     refine st (v := (I (w64 ((wk .i64 (gshr .u64 (wk .u64 (w64 (a_1 + b_3))) 1)) + m_2)))) (rv_move rfl) ?_
     refine st (v := (I (w64 ((w64 ((wk .i64 (gshr .u64 (wk .u64 (w64 (a_1 + b_3))) 1)) + m_2)) - 1)))) (rv_sub (a := (w64 ((wk .i64 (gshr .u64 (wk .u64 (w64 (a_1 + b_3))) 1)) + m_2))) (b := 1) rfl rfl) ?_
     refine st (v := (I (w64 ((w64 ((wk .i64 (gshr .u64 (wk .u64 (w64 (a_1 + b_3))) 1)) + m_2)) - 1)))) (rv_assign rfl) ?_
     refine w_end ?_
     refine q_then ?_
     refine c_seq ?_
     obtain ⟨o116, hj, h'⟩ := bind_some h
     clear h
     refine c_cut (fun e a w => e = .normal ∧ ∃ (ρ : Nat → Value) (σ : St), a = fr 220 (updL ρ [(0, (Sl adata_0 data_0 cdata_0)), (1, (I a_1)), (2, (I m_2)), (3, (I b_3)), (4, (.func (.func 78) #[] #[(pt bcmp_4_0 ocmp_4_0), (pt bcmp_4_1 ocmp_4_1)])), (18, (I (wk .i64 (gshr .u64 (wk .u64 (w64 (a_1 + b_3))) 1)))), (19, (I (w64 ((wk .i64 (gshr .u64 (wk .u64 (w64 (a_1 + b_3))) 1)) + m_2)))), (20, (I o116))]) ∧ w = σ.w ∧ Hp S0 σ0 σ [Ch.own 0 0 (Sl adata_0 data_0 cdata_0) data_0, Ch.ro 0 (Sl acmp_4_0 cmp_4_0 ccmp_4_0) cmp_4_0, Ch.bx locmp_4_0 bcmp_4_0 ocmp_4_0 [(Sl acmp_4_0 cmp_4_0 ccmp_4_0)] precmp_4_0 sufcmp_4_0, Ch.ro 0 (Sl acmp_4_1 cmp_4_1 ccmp_4_1) cmp_4_1, Ch.bx locmp_4_1 bcmp_4_1 ocmp_4_1 [(Sl acmp_4_1 cmp_4_1 ccmp_4_1)] precmp_4_1 sufcmp_4_1]) ?_ ?_
     ·clear h'
      rename _ = some o116 => h
      refine c_blk ?_
      refine wp_loopM _ h (fun s117 a w => ∃ (ρ : Nat → Value) (σ : St), a = fr 220 (updL ρ [(0, (Sl adata_0 data_0 cdata_0)), (1, (I a_1)), (2, (I m_2)), (3, (I b_3)), (4, (.func (.func 78) #[] #[(pt bcmp_4_0 ocmp_4_0), (pt bcmp_4_1 ocmp_4_1)])), (18, (I (wk .i64 (gshr .u64 (wk .u64 (w64 (a_1 + b_3))) 1)))), (19, (I (w64 ((wk .i64 (gshr .u64 (wk .u64 (w64 (a_1 + b_3))) 1)) + m_2)))), (20, (I s117.1)), (21, (I s117.2)), (22, (I (w64 ((w64 ((wk .i64 (gshr .u64 (wk .u64 (w64 (a_1 + b_3))) 1)) + m_2)) - 1))))]) ∧ w = σ.w ∧ Hp S0 σ0 σ [Ch.own 0 0 (Sl adata_0 data_0 cdata_0) data_0, Ch.ro 0 (Sl acmp_4_0 cmp_4_0 ccmp_4_0) cmp_4_0, Ch.bx locmp_4_0 bcmp_4_0 ocmp_4_0 [(Sl acmp_4_0 cmp_4_0 ccmp_4_0)] precmp_4_0 sufcmp_4_0, Ch.ro 0 (Sl acmp_4_1 cmp_4_1 ccmp_4_1) cmp_4_1, Ch.bx locmp_4_1 bcmp_4_1 ocmp_4_1 [(Sl acmp_4_1 cmp_4_1 ccmp_4_1)] precmp_4_1 sufcmp_4_1]) ⟨_, σ115, fr_join ⟨rfl, rfl, rfl, rfl, rfl, rfl, rfl, rfl, rfl, rfl, trivial⟩, rfl, H.sel' [0, 1, 2, 3, 4] rfl rfl⟩ ?_
      clear h H
      rintro s117 a w o ⟨ρ, σ118, rfl, rfl, H⟩ h hres
      refine c_seq ?_
      refine c_seq ?_
      refine rg ?_
      refine st (v := (I s117.1)) (rv_move rfl) ?_
      refine st (v := (I s117.2)) (rv_move rfl) ?_
      refine st (v := (B (decide (s117.1 < s117.2)))) (rv_lss (a := s117.1) (b := s117.2) rfl rfl) ?_
      refine w_end ?_
      refine q_then ?_
      refine cd_cond (decide (s117.1 < s117.2)) rfl (fun hb119 => ?_) (fun hb119 => ?_)
      ·replace h := bif_t hb119 h
       refine c_skip ?_
       refine q_then ?_
       refine c_blk ?_
       refine c_seq ?_
       refine rg ?_
       refine st (v := (I s117.1)) (rv_move rfl) ?_
       refine st (v := (I s117.2)) (rv_move rfl) ?_
       refine st (v := (I (w64 (s117.1 + s117.2)))) (rv_add (a := s117.1) (b := s117.2) rfl rfl) ?_
       refine st (v := (.int .u64 (wk .u64 (w64 (s117.1 + s117.2))))) (rvk_conv (k := .i64) (k' := .u64) (a := (w64 (s117.1 + s117.2))) Try.underlying3 Try.underlying134 rfl) ?_
       refine st (v := (.int .u64 (gshr .u64 (wk .u64 (w64 (s117.1 + s117.2))) 1))) (rvk_shr (k := .u64) (k' := .u64) (a := (wk .u64 (w64 (s117.1 + s117.2)))) (b := 1) rfl rfl (by decide)) ?_
       refine st (v := (I (wk .i64 (gshr .u64 (wk .u64 (w64 (s117.1 + s117.2))) 1)))) (rvk_conv (k := .u64) (k' := .i64) (a := (gshr .u64 (wk .u64 (w64 (s117.1 + s117.2))) 1)) Try.underlying134 Try.underlying3 rfl) ?_
       refine st (v := (I (wk .i64 (gshr .u64 (wk .u64 (w64 (s117.1 + s117.2))) 1)))) (rv_assign rfl) ?_
       refine w_end ?_
       refine q_then ?_
       refine c_seq ?_
       refine rgP (σ := σ118) 11 (by kernel_rfl) (by kernel_rfl) (by kernel_rfl) ?_
       refine sq (v := (.func (.func 78) #[] #[(pt bcmp_4_0 ocmp_4_0), (pt bcmp_4_1 ocmp_4_1)])) (rv_move rfl) ?_
       refine sq (v := (Sl adata_0 data_0 cdata_0)) (rv_move rfl) ?_
       refine sq (v := (I (w64 ((w64 ((wk .i64 (gshr .u64 (wk .u64 (w64 (a_1 + b_3))) 1)) + m_2)) - 1)))) (rv_move rfl) ?_
       refine sq (v := (I (wk .i64 (gshr .u64 (wk .u64 (w64 (s117.1 + s117.2))) 1)))) (rv_move rfl) ?_
       refine sq (v := (I (w64 ((w64 ((w64 ((wk .i64 (gshr .u64 (wk .u64 (w64 (a_1 + b_3))) 1)) + m_2)) - 1)) - (wk .i64 (gshr .u64 (wk .u64 (w64 (s117.1 + s117.2))) 1)))))) (rv_sub (a := (w64 ((w64 ((wk .i64 (gshr .u64 (wk .u64 (w64 (a_1 + b_3))) 1)) + m_2)) - 1))) (b := (wk .i64 (gshr .u64 (wk .u64 (w64 (s117.1 + s117.2))) 1))) rfl rfl) ?_
       obtain ⟨x120, hx121, h'⟩ := bind_some h
       clear h
       have h := h'; clear h'
       obtain ⟨b123, o124, hi122, -⟩ := (H.own 0 rfl).ix hx121
       refine sq (v := (pt b123 o124)) (rv_ix Try.underlying23 ti3 rfl rfl hi122) ?_
       have hc125 := ((H.own 0 rfl).at hx121 hi122).int
       refine sq (v := (I x120)) (rv_load1 Try.underlying3 rfl rfl hc125) ?_
       refine sq (v := (Sl adata_0 data_0 cdata_0)) (rv_move rfl) ?_
       refine sq (v := (I (wk .i64 (gshr .u64 (wk .u64 (w64 (s117.1 + s117.2))) 1)))) (rv_move rfl) ?_
       obtain ⟨x126, hx127, h'⟩ := bind_some h
       clear h
       have h := h'; clear h'
       obtain ⟨b129, o130, hi128, -⟩ := (H.own 0 rfl).ix hx127
       refine sq (v := (pt b129 o130)) (rv_ix Try.underlying23 ti3 rfl rfl hi128) ?_
       have hc131 := ((H.own 0 rfl).at hx127 hi128).int
       refine sq (v := (I x126)) (rv_load1 Try.underlying3 rfl rfl hc131) ?_
       refine sq_end ?_
       intro σ132 hm133
       replace H := H.grow (hm133.mono fun _ h => h); clear hm133
       obtain ⟨r134, hx135, h'⟩ := bind_some h
       clear h
       have h := h'; clear h'
       have hc136 := c_impl_ProbeOrder_1__p_SSint__p24 (lop_2 := locmp_4_0) (bp_2 := bcmp_4_0) (op_2 := ocmp_4_0) (prep_2 := precmp_4_0) (sufp_2 := sufcmp_4_0) (ap_2 := acmp_4_0) (cp_2 := ccmp_4_0) (lop_3 := locmp_4_1) (bp_3 := bcmp_4_1) (op_3 := ocmp_4_1) (prep_3 := precmp_4_1) (sufp_3 := sufcmp_4_1) (ap_3 := acmp_4_1) (cp_3 := ccmp_4_1) hx135
       refine st_call (cx_call hc136 (ent_v (cap := [(pt bcmp_4_0 ocmp_4_0), (pt bcmp_4_1 ocmp_4_1)]) hc136.fn rfl rfl) hn0 (show Hp S0 σ0 _ ([Ch.bx locmp_4_0 bcmp_4_0 ocmp_4_0 [(Sl acmp_4_0 cmp_4_0 ccmp_4_0)] precmp_4_0 sufcmp_4_0, Ch.ro 0 (Sl acmp_4_0 cmp_4_0 ccmp_4_0) cmp_4_0, Ch.bx locmp_4_1 bcmp_4_1 ocmp_4_1 [(Sl acmp_4_1 cmp_4_1 ccmp_4_1)] precmp_4_1 sufcmp_4_1, Ch.ro 0 (Sl acmp_4_1 cmp_4_1 ccmp_4_1) cmp_4_1] ++ [Ch.own 0 0 (Sl adata_0 data_0 cdata_0) data_0, Ch.ro 0 (Sl acmp_4_0 cmp_4_0 ccmp_4_0) cmp_4_0, Ch.ro 0 (Sl acmp_4_1 cmp_4_1 ccmp_4_1) cmp_4_1]) from (H.sel' [2, 1, 4, 3, 0, 1, 3] rfl rfl))) wn ?_
       rintro _ σ137 ⟨_, ⟨rfl, rfl⟩, H, -⟩
       replace H : Hp S0 σ0 σ137 [Ch.bx locmp_4_0 bcmp_4_0 ocmp_4_0 [(Sl acmp_4_0 cmp_4_0 ccmp_4_0)] precmp_4_0 sufcmp_4_0, Ch.bx locmp_4_1 bcmp_4_1 ocmp_4_1 [(Sl acmp_4_1 cmp_4_1 ccmp_4_1)] precmp_4_1 sufcmp_4_1, Ch.own 0 0 (Sl adata_0 data_0 cdata_0) data_0, Ch.ro 0 (Sl acmp_4_0 cmp_4_0 ccmp_4_0) cmp_4_0, Ch.ro 0 (Sl acmp_4_1 cmp_4_1 ccmp_4_1) cmp_4_1] := H
       refine st (v := (B (decide (r134 < 0)))) (rv_lss (a := r134) (b := 0) rfl rfl) ?_
       refine st (v := (B (!(decide (r134 < 0))))) (rv_not rfl) ?_
       refine w_end ?_
       refine q_then ?_
       refine cd_cond (!(decide (r134 < 0))) rfl (fun hb138 => ?_) (fun hb138 => ?_)
       ·replace h := bif_t hb138 h
        refine rg ?_
        refine st (v := (I (wk .i64 (gshr .u64 (wk .u64 (w64 (s117.1 + s117.2))) 1)))) (rv_move rfl) ?_
        refine st (v := (I (w64 ((wk .i64 (gshr .u64 (wk .u64 (w64 (s117.1 + s117.2))) 1)) + 1)))) (rv_add (a := (wk .i64 (gshr .u64 (wk .u64 (w64 (s117.1 + s117.2))) 1))) (b := 1) rfl rfl) ?_
        refine st (v := (I (w64 ((wk .i64 (gshr .u64 (wk .u64 (w64 (s117.1 + s117.2))) 1)) + 1)))) (rv_assign rfl) ?_
        refine w_end ?_
        refine q_blk ?_
        refine q_then ?_
        obtain rfl := Option.some.inj h
        exact ⟨_, rfl, _, σ137, fr_join ⟨rfl, rfl, rfl, rfl, rfl, rfl, rfl, rfl, rfl, rfl, trivial⟩, rfl, H.sel' [2, 3, 0, 4, 1] rfl rfl⟩
       ·replace h := bif_f hb138 h
        refine rg ?_
        refine st (v := (I (wk .i64 (gshr .u64 (wk .u64 (w64 (s117.1 + s117.2))) 1)))) (rv_move rfl) ?_
        refine st (v := (I (wk .i64 (gshr .u64 (wk .u64 (w64 (s117.1 + s117.2))) 1)))) (rv_assign rfl) ?_
        refine w_end ?_
        refine q_blk ?_
        refine q_then ?_
        obtain rfl := Option.some.inj h
        exact ⟨_, rfl, _, σ137, fr_join ⟨rfl, rfl, rfl, rfl, rfl, rfl, rfl, rfl, rfl, rfl, trivial⟩, rfl, H.sel' [2, 3, 0, 4, 1] rfl rfl⟩
      ·replace h := bif_f hb119 h
       refine c_exit ?_
       refine q_then_x ?_
       refine q_then_x ?_
       refine q_blk_hit ?_
       obtain rfl := Option.some.inj h
       obtain rfl := hres _ rfl
       exact ⟨rfl, _, σ118, fr_join ⟨rfl, rfl, rfl, rfl, rfl, rfl, rfl, rfl, trivial⟩, rfl, H.sel' [0, 1, 2, 3, 4] rfl rfl⟩
     ·clear hj
      have h := h'
      clear h' H
      rintro e a w ⟨rfl, ρ, σ139, rfl, rfl, H⟩
      refine q_then ?_
      refine c_seq ?_
      refine rg ?_
      refine st (v := (I (w64 ((wk .i64 (gshr .u64 (wk .u64 (w64 (a_1 + b_3))) 1)) + m_2)))) (rv_move rfl) ?_
      refine st (v := (I o116)) (rv_move rfl) ?_
      refine st (v := (I (w64 ((w64 ((wk .i64 (gshr .u64 (wk .u64 (w64 (a_1 + b_3))) 1)) + m_2)) - o116)))) (rv_sub (a := (w64 ((wk .i64 (gshr .u64 (wk .u64 (w64 (a_1 + b_3))) 1)) + m_2))) (b := o116) rfl rfl) ?_
      refine st (v := (I (w64 ((w64 ((wk .i64 (gshr .u64 (wk .u64 (w64 (a_1 + b_3))) 1)) + m_2)) - o116)))) (rv_assign rfl) ?_
      refine w_end ?_
      refine q_then ?_
      refine c_seq ?_
      refine c_seq ?_
      obtain ⟨o140, hj, h'⟩ := bind_some h
      clear h
      refine c_cut (fun e a w => e = .normal ∧ ∃ (ρ : Nat → Value) (σ : St), a = fr 220 (updL ρ [(0, (Sl adata_0 data_0 cdata_0)), (1, (I a_1)), (2, (I m_2)), (3, (I b_3)), (4, (.func (.func 78) #[] #[(pt bcmp_4_0 ocmp_4_0), (pt bcmp_4_1 ocmp_4_1)])), (18, (I (wk .i64 (gshr .u64 (wk .u64 (w64 (a_1 + b_3))) 1)))), (20, (I o116)), (24, (I (w64 ((w64 ((wk .i64 (gshr .u64 (wk .u64 (w64 (a_1 + b_3))) 1)) + m_2)) - o116)))), (185, (B o140))]) ∧ w = σ.w ∧ Hp S0 σ0 σ [Ch.own 0 0 (Sl adata_0 data_0 cdata_0) data_0, Ch.ro 0 (Sl acmp_4_0 cmp_4_0 ccmp_4_0) cmp_4_0, Ch.bx locmp_4_0 bcmp_4_0 ocmp_4_0 [(Sl acmp_4_0 cmp_4_0 ccmp_4_0)] precmp_4_0 sufcmp_4_0, Ch.ro 0 (Sl acmp_4_1 cmp_4_1 ccmp_4_1) cmp_4_1, Ch.bx locmp_4_1 bcmp_4_1 ocmp_4_1 [(Sl acmp_4_1 cmp_4_1 ccmp_4_1)] precmp_4_1 sufcmp_4_1]) ?_ ?_
      ·clear h'
       rename _ = some o140 => h
       refine rg ?_
       refine st (v := (I o116)) (rv_move rfl) ?_
       refine st (v := (I m_2)) (rv_move rfl) ?_
       refine st (v := (B (decide (o116 < m_2)))) (rv_lss (a := o116) (b := m_2) rfl rfl) ?_
       refine st (v := (B (decide (o116 < m_2)))) (rv_move rfl) ?_
       rcases Bool.eq_false_or_eq_true (decide (o116 < m_2)) with hb141 | hb141
       ·replace h := bif_t hb141 h
        refine st_g (v := (I m_2)) (congrArg some hb141) (rv_move rfl) ?_
        refine st_g (v := (I (w64 ((w64 ((wk .i64 (gshr .u64 (wk .u64 (w64 (a_1 + b_3))) 1)) + m_2)) - o116)))) (congrArg some hb141) (rv_move rfl) ?_
        refine st_g (v := (B (decide (m_2 < (w64 ((w64 ((wk .i64 (gshr .u64 (wk .u64 (w64 (a_1 + b_3))) 1)) + m_2)) - o116)))))) (congrArg some hb141) (rv_lss (a := m_2) (b := (w64 ((w64 ((wk .i64 (gshr .u64 (wk .u64 (w64 (a_1 + b_3))) 1)) + m_2)) - o116))) rfl rfl) ?_
        refine st (v := (B (decide (m_2 < (w64 ((w64 ((wk .i64 (gshr .u64 (wk .u64 (w64 (a_1 + b_3))) 1)) + m_2)) - o116)))))) (rv_pick_t (congrArg B hb141) rfl) ?_
        refine w_end ?_
        obtain rfl := Option.some.inj h
        exact ⟨rfl, _, σ139, fr_join ⟨rfl, rfl, rfl, rfl, rfl, rfl, rfl, rfl, rfl, trivial⟩, rfl, H.sel' [0, 1, 2, 3, 4] rfl rfl⟩
       ·replace h := bif_f hb141 h
        refine st_skip (congrArg some hb141) ?_
        refine st_skip (congrArg some hb141) ?_
        refine st_skip (congrArg some hb141) ?_
        refine st (v := (B false)) (rv_pick_f (congrArg B hb141) rfl) ?_
        refine w_end ?_
        obtain rfl := Option.some.inj h
        exact ⟨rfl, _, σ139, fr_join ⟨rfl, rfl, rfl, rfl, rfl, rfl, rfl, rfl, rfl, trivial⟩, rfl, H.sel' [0, 1, 2, 3, 4] rfl rfl⟩
      ·clear hj
       have h := h'
       clear h' H
       rintro e a w ⟨rfl, ρ, σ142, rfl, rfl, H⟩
       refine q_then ?_
       obtain ⟨o143, hj, h'⟩ := bind_some h
       clear h
       refine c_cut (fun e a w => e = .normal ∧ ∃ (ρ : Nat → Value) (σ : St), a = fr 220 (updL ρ [(0, (Sl adata_0 o143 cdata_0)), (1, (I a_1)), (3, (I b_3)), (4, (.func (.func 78) #[] #[(pt bcmp_4_0 ocmp_4_0), (pt bcmp_4_1 ocmp_4_1)])), (18, (I (wk .i64 (gshr .u64 (wk .u64 (w64 (a_1 + b_3))) 1)))), (20, (I o116)), (24, (I (w64 ((w64 ((wk .i64 (gshr .u64 (wk .u64 (w64 (a_1 + b_3))) 1)) + m_2)) - o116))))]) ∧ w = σ.w ∧ Hp S0 σ0 σ [Ch.own 0 0 (Sl adata_0 o143 cdata_0) o143, Ch.ro 0 (Sl acmp_4_0 cmp_4_0 ccmp_4_0) cmp_4_0, Ch.bx locmp_4_0 bcmp_4_0 ocmp_4_0 [(Sl acmp_4_0 cmp_4_0 ccmp_4_0)] precmp_4_0 sufcmp_4_0, Ch.ro 0 (Sl acmp_4_1 cmp_4_1 ccmp_4_1) cmp_4_1, Ch.bx locmp_4_1 bcmp_4_1 ocmp_4_1 [(Sl acmp_4_1 cmp_4_1 ccmp_4_1)] precmp_4_1 sufcmp_4_1] ∧ o143.length = data_0.length) ?_ ?_
       ·clear h'
        rename _ = some o143 => h
        refine cd_cond o140 rfl (fun hb144 => ?_) (fun hb144 => ?_)
        ·replace h := bif_t hb144 h
         refine rg ?_
         refine st (v := (Sl adata_0 data_0 cdata_0)) (rv_move rfl) ?_
         refine st (v := (I o116)) (rv_move rfl) ?_
         refine st (v := (I m_2)) (rv_move rfl) ?_
         refine st (v := (I (w64 ((w64 ((wk .i64 (gshr .u64 (wk .u64 (w64 (a_1 + b_3))) 1)) + m_2)) - o116)))) (rv_move rfl) ?_
         refine st (v := (.func (.func 78) #[] #[(pt bcmp_4_0 ocmp_4_0), (pt bcmp_4_1 ocmp_4_1)])) (rv_move rfl) ?_
         obtain ⟨r145, hx146, h'⟩ := bind_some h
         clear h
         have h := h'; clear h'
         have hc147 := c_slices_rotateCmpFunc_int__impl_ProbeOrder_1 (adata_0 := adata_0) (cdata_0 := cdata_0) (locmp_4_0 := locmp_4_0) (bcmp_4_0 := bcmp_4_0) (ocmp_4_0 := ocmp_4_0) (precmp_4_0 := precmp_4_0) (sufcmp_4_0 := sufcmp_4_0) (acmp_4_0 := acmp_4_0) (ccmp_4_0 := ccmp_4_0) (locmp_4_1 := locmp_4_1) (bcmp_4_1 := bcmp_4_1) (ocmp_4_1 := ocmp_4_1) (precmp_4_1 := precmp_4_1) (sufcmp_4_1 := sufcmp_4_1) (acmp_4_1 := acmp_4_1) (ccmp_4_1 := ccmp_4_1) hx146
         refine st_call (cx_call hc147 (ent_f hc147.fn rfl) hn0 (show Hp S0 σ0 _ ([Ch.own 0 0 (Sl adata_0 data_0 cdata_0) data_0, Ch.bx locmp_4_0 bcmp_4_0 ocmp_4_0 [(Sl acmp_4_0 cmp_4_0 ccmp_4_0)] precmp_4_0 sufcmp_4_0, Ch.ro 0 (Sl acmp_4_0 cmp_4_0 ccmp_4_0) cmp_4_0, Ch.bx locmp_4_1 bcmp_4_1 ocmp_4_1 [(Sl acmp_4_1 cmp_4_1 ccmp_4_1)] precmp_4_1 sufcmp_4_1, Ch.ro 0 (Sl acmp_4_1 cmp_4_1 ccmp_4_1) cmp_4_1] ++ [Ch.ro 0 (Sl acmp_4_0 cmp_4_0 ccmp_4_0) cmp_4_0, Ch.ro 0 (Sl acmp_4_1 cmp_4_1 ccmp_4_1) cmp_4_1]) from (H.sel' [0, 2, 1, 4, 3, 1, 3] rfl rfl))) wn ?_
         rintro _ σ149 ⟨_, ⟨rfl, rfl, hn148⟩, H, -⟩
         replace H : Hp S0 σ0 σ149 [Ch.own 0 0 (Sl adata_0 r145 cdata_0) r145, Ch.bx locmp_4_0 bcmp_4_0 ocmp_4_0 [(Sl acmp_4_0 cmp_4_0 ccmp_4_0)] precmp_4_0 sufcmp_4_0, Ch.bx locmp_4_1 bcmp_4_1 ocmp_4_1 [(Sl acmp_4_1 cmp_4_1 ccmp_4_1)] precmp_4_1 sufcmp_4_1, Ch.ro 0 (Sl acmp_4_0 cmp_4_0 ccmp_4_0) cmp_4_0, Ch.ro 0 (Sl acmp_4_1 cmp_4_1 ccmp_4_1) cmp_4_1] := H
         have hsl : (Sl adata_0 data_0 cdata_0) = (Sl adata_0 r145 cdata_0) := sl_len hn148.symm
         try rw [hsl]
         try rw [hsl] at H
         clear hsl
         refine w_end ?_
         obtain rfl := Option.some.inj h
         exact ⟨rfl, _, σ149, fr_join ⟨rfl, rfl, rfl, rfl, rfl, rfl, rfl, trivial⟩, rfl, H.sel' [0, 3, 1, 4, 2] rfl rfl, hn148⟩
        ·replace h := bif_f hb144 h
         refine c_skip ?_
         obtain rfl := Option.some.inj h
         exact ⟨rfl, _, σ142, fr_join ⟨rfl, rfl, rfl, rfl, rfl, rfl, rfl, trivial⟩, rfl, H.sel' [0, 1, 2, 3, 4] rfl rfl, rfl⟩
       ·clear hj
        have h := h'
        clear h' H
        rintro e a w ⟨rfl, ρ, σ150, rfl, rfl, H, hn151⟩
        refine q_then ?_
        refine c_seq ?_
        refine c_seq ?_
        obtain ⟨o152, hj, h'⟩ := bind_some h
        clear h
        refine c_cut (fun e a w => e = .normal ∧ ∃ (ρ : Nat → Value) (σ : St), a = fr 220 (updL ρ [(0, (Sl adata_0 o143 cdata_0)), (1, (I a_1)), (3, (I b_3)), (4, (.func (.func 78) #[] #[(pt bcmp_4_0 ocmp_4_0), (pt bcmp_4_1 ocmp_4_1)])), (18, (I (wk .i64 (gshr .u64 (wk .u64 (w64 (a_1 + b_3))) 1)))), (20, (I o116)), (24, (I (w64 ((w64 ((wk .i64 (gshr .u64 (wk .u64 (w64 (a_1 + b_3))) 1)) + m_2)) - o116)))), (199, (B o152))]) ∧ w = σ.w ∧ Hp S0 σ0 σ [Ch.own 0 0 (Sl adata_0 o143 cdata_0) o143, Ch.ro 0 (Sl acmp_4_0 cmp_4_0 ccmp_4_0) cmp_4_0, Ch.bx locmp_4_0 bcmp_4_0 ocmp_4_0 [(Sl acmp_4_0 cmp_4_0 ccmp_4_0)] precmp_4_0 sufcmp_4_0, Ch.ro 0 (Sl acmp_4_1 cmp_4_1 ccmp_4_1) cmp_4_1, Ch.bx locmp_4_1 bcmp_4_1 ocmp_4_1 [(Sl acmp_4_1 cmp_4_1 ccmp_4_1)] precmp_4_1 sufcmp_4_1]) ?_ ?_
        ·clear h'
         rename _ = some o152 => h
         refine rg ?_
         refine st (v := (I a_1)) (rv_move rfl) ?_
         refine st (v := (I o116)) (rv_move rfl) ?_
         refine st (v := (B (decide (a_1 < o116)))) (rv_lss (a := a_1) (b := o116) rfl rfl) ?_
         refine st (v := (B (decide (a_1 < o116)))) (rv_move rfl) ?_
         rcases Bool.eq_false_or_eq_true (decide (a_1 < o116)) with hb153 | hb153
         ·replace h := bif_t hb153 h
          refine st_g (v := (I o116)) (congrArg some hb153) (rv_move rfl) ?_
          refine st_g (v := (I (wk .i64 (gshr .u64 (wk .u64 (w64 (a_1 + b_3))) 1)))) (congrArg some hb153) (rv_move rfl) ?_
          refine st_g (v := (B (decide (o116 < (wk .i64 (gshr .u64 (wk .u64 (w64 (a_1 + b_3))) 1)))))) (congrArg some hb153) (rv_lss (a := o116) (b := (wk .i64 (gshr .u64 (wk .u64 (w64 (a_1 + b_3))) 1))) rfl rfl) ?_
          refine st (v := (B (decide (o116 < (wk .i64 (gshr .u64 (wk .u64 (w64 (a_1 + b_3))) 1)))))) (rv_pick_t (congrArg B hb153) rfl) ?_
          refine w_end ?_
          obtain rfl := Option.some.inj h
          exact ⟨rfl, _, σ150, fr_join ⟨rfl, rfl, rfl, rfl, rfl, rfl, rfl, rfl, trivial⟩, rfl, H.sel' [0, 1, 2, 3, 4] rfl rfl⟩
         ·replace h := bif_f hb153 h
          refine st_skip (congrArg some hb153) ?_
          refine st_skip (congrArg some hb153) ?_
          refine st_skip (congrArg some hb153) ?_
          refine st (v := (B false)) (rv_pick_f (congrArg B hb153) rfl) ?_
          refine w_end ?_
          obtain rfl := Option.some.inj h
          exact ⟨rfl, _, σ150, fr_join ⟨rfl, rfl, rfl, rfl, rfl, rfl, rfl, rfl, trivial⟩, rfl, H.sel' [0, 1, 2, 3, 4] rfl rfl⟩
        ·clear hj
         have h := h'
         clear h' H
         rintro e a w ⟨rfl, ρ, σ154, rfl, rfl, H⟩
         refine q_then ?_
         obtain ⟨o155, hj, h'⟩ := bind_some h
         clear h
         refine c_cut (fun e a w => e = .normal ∧ ∃ (ρ : Nat → Value) (σ : St), a = fr 220 (updL ρ [(0, (Sl adata_0 o155 cdata_0)), (3, (I b_3)), (4, (.func (.func 78) #[] #[(pt bcmp_4_0 ocmp_4_0), (pt bcmp_4_1 ocmp_4_1)])), (18, (I (wk .i64 (gshr .u64 (wk .u64 (w64 (a_1 + b_3))) 1)))), (24, (I (w64 ((w64 ((wk .i64 (gshr .u64 (wk .u64 (w64 (a_1 + b_3))) 1)) + m_2)) - o116))))]) ∧ w = σ.w ∧ Hp S0 σ0 σ [Ch.own 0 0 (Sl adata_0 o155 cdata_0) o155, Ch.ro 0 (Sl acmp_4_0 cmp_4_0 ccmp_4_0) cmp_4_0, Ch.bx locmp_4_0 bcmp_4_0 ocmp_4_0 [(Sl acmp_4_0 cmp_4_0 ccmp_4_0)] precmp_4_0 sufcmp_4_0, Ch.ro 0 (Sl acmp_4_1 cmp_4_1 ccmp_4_1) cmp_4_1, Ch.bx locmp_4_1 bcmp_4_1 ocmp_4_1 [(Sl acmp_4_1 cmp_4_1 ccmp_4_1)] precmp_4_1 sufcmp_4_1] ∧ o155.length = o143.length) ?_ ?_
         ·clear h'
          rename _ = some o155 => h
          refine cd_cond o152 rfl (fun hb156 => ?_) (fun hb156 => ?_)
          ·replace h := bif_t hb156 h
           refine rg ?_
           refine st (v := (Sl adata_0 o143 cdata_0)) (rv_move rfl) ?_
           refine st (v := (I a_1)) (rv_move rfl) ?_
           refine st (v := (I o116)) (rv_move rfl) ?_
           refine st (v := (I (wk .i64 (gshr .u64 (wk .u64 (w64 (a_1 + b_3))) 1)))) (rv_move rfl) ?_
           refine st (v := (.func (.func 78) #[] #[(pt bcmp_4_0 ocmp_4_0), (pt bcmp_4_1 ocmp_4_1)])) (rv_move rfl) ?_
           obtain ⟨r157, hx158, h'⟩ := bind_some h
           clear h
           have h := h'; clear h'
           have hc159 := ih (adata_0 := adata_0) (cdata_0 := cdata_0) (locmp_4_0 := locmp_4_0) (bcmp_4_0 := bcmp_4_0) (ocmp_4_0 := ocmp_4_0) (precmp_4_0 := precmp_4_0) (sufcmp_4_0 := sufcmp_4_0) (acmp_4_0 := acmp_4_0) (ccmp_4_0 := ccmp_4_0) (locmp_4_1 := locmp_4_1) (bcmp_4_1 := bcmp_4_1) (ocmp_4_1 := ocmp_4_1) (precmp_4_1 := precmp_4_1) (sufcmp_4_1 := sufcmp_4_1) (acmp_4_1 := acmp_4_1) (ccmp_4_1 := ccmp_4_1) hx158
           refine st_call (cx_call hc159 (ent_f hc159.fn rfl) hn0 (show Hp S0 σ0 _ ([Ch.own 0 0 (Sl adata_0 o143 cdata_0) o143, Ch.bx locmp_4_0 bcmp_4_0 ocmp_4_0 [(Sl acmp_4_0 cmp_4_0 ccmp_4_0)] precmp_4_0 sufcmp_4_0, Ch.ro 0 (Sl acmp_4_0 cmp_4_0 ccmp_4_0) cmp_4_0, Ch.bx locmp_4_1 bcmp_4_1 ocmp_4_1 [(Sl acmp_4_1 cmp_4_1 ccmp_4_1)] precmp_4_1 sufcmp_4_1, Ch.ro 0 (Sl acmp_4_1 cmp_4_1 ccmp_4_1) cmp_4_1] ++ [Ch.ro 0 (Sl acmp_4_0 cmp_4_0 ccmp_4_0) cmp_4_0, Ch.ro 0 (Sl acmp_4_1 cmp_4_1 ccmp_4_1) cmp_4_1]) from (H.sel' [0, 2, 1, 4, 3, 1, 3] rfl rfl))) wn ?_
           rintro _ σ161 ⟨_, ⟨rfl, rfl, hn160⟩, H, -⟩
           replace H : Hp S0 σ0 σ161 [Ch.own 0 0 (Sl adata_0 r157 cdata_0) r157, Ch.bx locmp_4_0 bcmp_4_0 ocmp_4_0 [(Sl acmp_4_0 cmp_4_0 ccmp_4_0)] precmp_4_0 sufcmp_4_0, Ch.bx locmp_4_1 bcmp_4_1 ocmp_4_1 [(Sl acmp_4_1 cmp_4_1 ccmp_4_1)] precmp_4_1 sufcmp_4_1, Ch.ro 0 (Sl acmp_4_0 cmp_4_0 ccmp_4_0) cmp_4_0, Ch.ro 0 (Sl acmp_4_1 cmp_4_1 ccmp_4_1) cmp_4_1] := H
           have hsl : (Sl adata_0 o143 cdata_0) = (Sl adata_0 r157 cdata_0) := sl_len hn160.symm
           try rw [hsl]
           try rw [hsl] at H
           clear hsl
           refine w_end ?_
           obtain rfl := Option.some.inj h
           exact ⟨rfl, _, σ161, fr_join ⟨rfl, rfl, rfl, rfl, rfl, trivial⟩, rfl, H.sel' [0, 3, 1, 4, 2] rfl rfl, ((hn160.trans hn151).trans hn151.symm)⟩
          ·replace h := bif_f hb156 h
           refine c_skip ?_
           obtain rfl := Option.some.inj h
           exact ⟨rfl, _, σ154, fr_join ⟨rfl, rfl, rfl, rfl, rfl, trivial⟩, rfl, H.sel' [0, 1, 2, 3, 4] rfl rfl, rfl⟩
         ·clear hj
          have h := h'
          clear h' H
          rintro e a w ⟨rfl, ρ, σ162, rfl, rfl, H, hn163⟩
          refine q_then ?_
          refine c_seq ?_
          obtain ⟨o164, hj, h'⟩ := bind_some h
          clear h
          refine c_cut (fun e a w => e = .normal ∧ ∃ (ρ : Nat → Value) (σ : St), a = fr 220 (updL ρ [(0, (Sl adata_0 o155 cdata_0)), (3, (I b_3)), (4, (.func (.func 78) #[] #[(pt bcmp_4_0 ocmp_4_0), (pt bcmp_4_1 ocmp_4_1)])), (18, (I (wk .i64 (gshr .u64 (wk .u64 (w64 (a_1 + b_3))) 1)))), (24, (I (w64 ((w64 ((wk .i64 (gshr .u64 (wk .u64 (w64 (a_1 + b_3))) 1)) + m_2)) - o116)))), (213, (B o164))]) ∧ w = σ.w ∧ Hp S0 σ0 σ [Ch.own 0 0 (Sl adata_0 o155 cdata_0) o155, Ch.ro 0 (Sl acmp_4_0 cmp_4_0 ccmp_4_0) cmp_4_0, Ch.bx locmp_4_0 bcmp_4_0 ocmp_4_0 [(Sl acmp_4_0 cmp_4_0 ccmp_4_0)] precmp_4_0 sufcmp_4_0, Ch.ro 0 (Sl acmp_4_1 cmp_4_1 ccmp_4_1) cmp_4_1, Ch.bx locmp_4_1 bcmp_4_1 ocmp_4_1 [(Sl acmp_4_1 cmp_4_1 ccmp_4_1)] precmp_4_1 sufcmp_4_1]) ?_ ?_
          ·clear h'
           rename _ = some o164 => h
           refine rg ?_
           refine st (v := (I (wk .i64 (gshr .u64 (wk .u64 (w64 (a_1 + b_3))) 1)))) (rv_move rfl) ?_
           refine st (v := (I (w64 ((w64 ((wk .i64 (gshr .u64 (wk .u64 (w64 (a_1 + b_3))) 1)) + m_2)) - o116)))) (rv_move rfl) ?_
           refine st (v := (B (decide ((wk .i64 (gshr .u64 (wk .u64 (w64 (a_1 + b_3))) 1)) < (w64 ((w64 ((wk .i64 (gshr .u64 (wk .u64 (w64 (a_1 + b_3))) 1)) + m_2)) - o116)))))) (rv_lss (a := (wk .i64 (gshr .u64 (wk .u64 (w64 (a_1 + b_3))) 1))) (b := (w64 ((w64 ((wk .i64 (gshr .u64 (wk .u64 (w64 (a_1 + b_3))) 1)) + m_2)) - o116))) rfl rfl) ?_
           refine st (v := (B (decide ((wk .i64 (gshr .u64 (wk .u64 (w64 (a_1 + b_3))) 1)) < (w64 ((w64 ((wk .i64 (gshr .u64 (wk .u64 (w64 (a_1 + b_3))) 1)) + m_2)) - o116)))))) (rv_move rfl) ?_
           rcases Bool.eq_false_or_eq_true (decide ((wk .i64 (gshr .u64 (wk .u64 (w64 (a_1 + b_3))) 1)) < (w64 ((w64 ((wk .i64 (gshr .u64 (wk .u64 (w64 (a_1 + b_3))) 1)) + m_2)) - o116)))) with hb165 | hb165
           ·replace h := bif_t hb165 h
            refine st_g (v := (I (w64 ((w64 ((wk .i64 (gshr .u64 (wk .u64 (w64 (a_1 + b_3))) 1)) + m_2)) - o116)))) (congrArg some hb165) (rv_move rfl) ?_
            refine st_g (v := (I b_3)) (congrArg some hb165) (rv_move rfl) ?_
            refine st_g (v := (B (decide ((w64 ((w64 ((wk .i64 (gshr .u64 (wk .u64 (w64 (a_1 + b_3))) 1)) + m_2)) - o116)) < b_3)))) (congrArg some hb165) (rv_lss (a := (w64 ((w64 ((wk .i64 (gshr .u64 (wk .u64 (w64 (a_1 + b_3))) 1)) + m_2)) - o116))) (b := b_3) rfl rfl) ?_
            refine st (v := (B (decide ((w64 ((w64 ((wk .i64 (gshr .u64 (wk .u64 (w64 (a_1 + b_3))) 1)) + m_2)) - o116)) < b_3)))) (rv_pick_t (congrArg B hb165) rfl) ?_
            refine w_end ?_
            obtain rfl := Option.some.inj h
            exact ⟨rfl, _, σ162, fr_join ⟨rfl, rfl, rfl, rfl, rfl, rfl, trivial⟩, rfl, H.sel' [0, 1, 2, 3, 4] rfl rfl⟩
           ·replace h := bif_f hb165 h
            refine st_skip (congrArg some hb165) ?_
            refine st_skip (congrArg some hb165) ?_
            refine st_skip (congrArg some hb165) ?_
            refine st (v := (B false)) (rv_pick_f (congrArg B hb165) rfl) ?_
            refine w_end ?_
            obtain rfl := Option.some.inj h
            exact ⟨rfl, _, σ162, fr_join ⟨rfl, rfl, rfl, rfl, rfl, rfl, trivial⟩, rfl, H.sel' [0, 1, 2, 3, 4] rfl rfl⟩
          ·clear hj
           have h := h'
           clear h' H
           rintro e a w ⟨rfl, ρ, σ166, rfl, rfl, H⟩
           refine q_then ?_
           refine cd_cond o164 rfl (fun hb167 => ?_) (fun hb167 => ?_)
           ·replace h := bif_t hb167 h
            refine rg ?_
            refine st (v := (Sl adata_0 o155 cdata_0)) (rv_move rfl) ?_
            refine st (v := (I (wk .i64 (gshr .u64 (wk .u64 (w64 (a_1 + b_3))) 1)))) (rv_move rfl) ?_
            refine st (v := (I (w64 ((w64 ((wk .i64 (gshr .u64 (wk .u64 (w64 (a_1 + b_3))) 1)) + m_2)) - o116)))) (rv_move rfl) ?_
            refine st (v := (I b_3)) (rv_move rfl) ?_
            refine st (v := (.func (.func 78) #[] #[(pt bcmp_4_0 ocmp_4_0), (pt bcmp_4_1 ocmp_4_1)])) (rv_move rfl) ?_
            obtain ⟨r168, hx169, h'⟩ := bind_some h
            clear h
            have h := h'; clear h'
            have hc170 := ih (adata_0 := adata_0) (cdata_0 := cdata_0) (locmp_4_0 := locmp_4_0) (bcmp_4_0 := bcmp_4_0) (ocmp_4_0 := ocmp_4_0) (precmp_4_0 := precmp_4_0) (sufcmp_4_0 := sufcmp_4_0) (acmp_4_0 := acmp_4_0) (ccmp_4_0 := ccmp_4_0) (locmp_4_1 := locmp_4_1) (bcmp_4_1 := bcmp_4_1) (ocmp_4_1 := ocmp_4_1) (precmp_4_1 := precmp_4_1) (sufcmp_4_1 := sufcmp_4_1) (acmp_4_1 := acmp_4_1) (ccmp_4_1 := ccmp_4_1) hx169
            refine st_call (cx_call hc170 (ent_f hc170.fn rfl) hn0 (show Hp S0 σ0 _ ([Ch.own 0 0 (Sl adata_0 o155 cdata_0) o155, Ch.bx locmp_4_0 bcmp_4_0 ocmp_4_0 [(Sl acmp_4_0 cmp_4_0 ccmp_4_0)] precmp_4_0 sufcmp_4_0, Ch.ro 0 (Sl acmp_4_0 cmp_4_0 ccmp_4_0) cmp_4_0, Ch.bx locmp_4_1 bcmp_4_1 ocmp_4_1 [(Sl acmp_4_1 cmp_4_1 ccmp_4_1)] precmp_4_1 sufcmp_4_1, Ch.ro 0 (Sl acmp_4_1 cmp_4_1 ccmp_4_1) cmp_4_1] ++ [Ch.ro 0 (Sl acmp_4_0 cmp_4_0 ccmp_4_0) cmp_4_0, Ch.ro 0 (Sl acmp_4_1 cmp_4_1 ccmp_4_1) cmp_4_1]) from (H.sel' [0, 2, 1, 4, 3, 1, 3] rfl rfl))) wn ?_
            rintro _ σ172 ⟨_, ⟨rfl, rfl, hn171⟩, H, -⟩
            replace H : Hp S0 σ0 σ172 [Ch.own 0 0 (Sl adata_0 r168 cdata_0) r168, Ch.bx locmp_4_0 bcmp_4_0 ocmp_4_0 [(Sl acmp_4_0 cmp_4_0 ccmp_4_0)] precmp_4_0 sufcmp_4_0, Ch.bx locmp_4_1 bcmp_4_1 ocmp_4_1 [(Sl acmp_4_1 cmp_4_1 ccmp_4_1)] precmp_4_1 sufcmp_4_1, Ch.ro 0 (Sl acmp_4_0 cmp_4_0 ccmp_4_0) cmp_4_0, Ch.ro 0 (Sl acmp_4_1 cmp_4_1 ccmp_4_1) cmp_4_1] := H
            have hsl : (Sl adata_0 o155 cdata_0) = (Sl adata_0 r168 cdata_0) := sl_len hn171.symm
            try rw [hsl]
            try rw [hsl] at H
            clear hsl
            refine w_end ?_
            obtain rfl := Option.some.inj h
            exact fin_end (v := (.tuple #[])) (results_ok Try.results119 res_nil rfl) ⟨rfl, rfl, (hn171.trans (hn163.trans hn151))⟩ (H.sel' [0, 1, 2] rfl rfl)
           ·replace h := bif_f hb167 h
            refine c_skip ?_
            obtain rfl := Option.some.inj h
            exact fin_end (v := (.tuple #[])) (results_ok Try.results119 res_nil rfl) ⟨rfl, rfl, (hn163.trans hn151)⟩ (H.sel' [0, 2, 4] rfl rfl)

theorem c_slices_stableCmpFunc_int__impl_ProbeOrder_1 {data_0 : List Int} {n_1 : Int} {cmp_2_0 : List (List Int)} {cmp_2_1 : List Int} {adata_0 : Option Addr} {cdata_0 : Nat} {acmp_2_0 : Option Addr} {ccmp_2_0 : Nat} {locmp_2_0 bcmp_2_0 ocmp_2_0 : Nat} {precmp_2_0 sufcmp_2_0 : List Value} {acmp_2_1 : Option Addr} {ccmp_2_1 : Nat} {locmp_2_1 bcmp_2_1 ocmp_2_1 : Nat} {precmp_2_1 sufcmp_2_1 : List Value} {r : (List Int)} (h : M.slices_stableCmpFunc_int__impl_ProbeOrder_1 data_0 n_1 cmp_2_0 cmp_2_1 = some r) :
    Cal2 Try.prog 100 [(Sl adata_0 data_0 cdata_0), (I n_1), (.func (.func 78) #[] #[(pt bcmp_2_0 ocmp_2_0), (pt bcmp_2_1 ocmp_2_1)])] [Ch.own 0 0 (Sl adata_0 data_0 cdata_0) data_0, Ch.bx locmp_2_0 bcmp_2_0 ocmp_2_0 [(Sl acmp_2_0 cmp_2_0 ccmp_2_0)] precmp_2_0 sufcmp_2_0, Ch.ro 0 (Sl acmp_2_0 cmp_2_0 ccmp_2_0) cmp_2_0, Ch.bx locmp_2_1 bcmp_2_1 ocmp_2_1 [(Sl acmp_2_1 cmp_2_1 ccmp_2_1)] precmp_2_1 sufcmp_2_1, Ch.ro 0 (Sl acmp_2_1 cmp_2_1 ccmp_2_1) cmp_2_1] (fun n0 v L => v = (.tuple #[]) ∧ L = [Ch.own 0 0 (Sl adata_0 r cdata_0) r, Ch.bx locmp_2_0 bcmp_2_0 ocmp_2_0 [(Sl acmp_2_0 cmp_2_0 ccmp_2_0)] precmp_2_0 sufcmp_2_0, Ch.bx locmp_2_1 bcmp_2_1 ocmp_2_1 [(Sl acmp_2_1 cmp_2_1 ccmp_2_1)] precmp_2_1 sufcmp_2_1] ∧ r.length = data_0.length) := by
 refine cal2 (n := 63) Try.func100 rfl rfl rfl rfl ?_
 intro S0 σ0 n0 hn0 H
 unfold M.slices_stableCmpFunc_int__impl_ProbeOrder_1 at h
 refine c_seq ?_
 refine rg ?_
 refine st (v := (I 20)) (rv_assign rfl) ?_
 refine w_end ?_
 refine q_then ?_
 refine c_seq ?_
 refine rg ?_
 refine st (v := (I 20)) (rv_move rfl) ?_
 refine st (v := (I 0)) (rv_assign rfl) ?_
 refine st (v := (I 20)) (rv_assign rfl) ?_
 refine w_end ?_
 refine q_then ?_
 refine c_seq ?_
 obtain ⟨o1, hj, h'⟩ := bind_some h
 clear h
 refine c_cut (fun e a w => e = .normal ∧ ∃ (ρ : Nat → Value) (σ : St), a = fr 63 (updL ρ [(0, (Sl adata_0 o1.1 cdata_0)), (1, (I n_1)), (2, (.func (.func 78) #[] #[(pt bcmp_2_0 ocmp_2_0), (pt bcmp_2_1 ocmp_2_1)])), (6, (I 20)), (7, (I o1.2))]) ∧ w = σ.w ∧ Hp S0 σ0 σ [Ch.own 0 0 (Sl adata_0 o1.1 cdata_0) o1.1, Ch.ro 0 (Sl acmp_2_0 cmp_2_0 ccmp_2_0) cmp_2_0, Ch.bx locmp_2_0 bcmp_2_0 ocmp_2_0 [(Sl acmp_2_0 cmp_2_0 ccmp_2_0)] precmp_2_0 sufcmp_2_0, Ch.ro 0 (Sl acmp_2_1 cmp_2_1 ccmp_2_1) cmp_2_1, Ch.bx locmp_2_1 bcmp_2_1 ocmp_2_1 [(Sl acmp_2_1 cmp_2_1 ccmp_2_1)] precmp_2_1 sufcmp_2_1] ∧ o1.1.length = data_0.length) ?_ ?_
 ·clear h'
  rename _ = some o1 => h
  refine c_blk ?_
  refine wp_loopM _ h (fun s2 a w => ∃ (ρ : Nat → Value) (σ : St), a = fr 63 (updL ρ [(0, (Sl adata_0 s2.1 cdata_0)), (1, (I n_1)), (2, (.func (.func 78) #[] #[(pt bcmp_2_0 ocmp_2_0), (pt bcmp_2_1 ocmp_2_1)])), (6, (I 20)), (7, (I s2.2.1)), (8, (I s2.2.2))]) ∧ w = σ.w ∧ Hp S0 σ0 σ [Ch.own 0 0 (Sl adata_0 s2.1 cdata_0) s2.1, Ch.ro 0 (Sl acmp_2_0 cmp_2_0 ccmp_2_0) cmp_2_0, Ch.bx locmp_2_0 bcmp_2_0 ocmp_2_0 [(Sl acmp_2_0 cmp_2_0 ccmp_2_0)] precmp_2_0 sufcmp_2_0, Ch.ro 0 (Sl acmp_2_1 cmp_2_1 ccmp_2_1) cmp_2_1, Ch.bx locmp_2_1 bcmp_2_1 ocmp_2_1 [(Sl acmp_2_1 cmp_2_1 ccmp_2_1)] precmp_2_1 sufcmp_2_1] ∧ s2.1.length = data_0.length) ⟨_, σ0, fr_join ⟨rfl, rfl, rfl, rfl, rfl, rfl, trivial⟩, rfl, H.sel' [0, 2, 1, 4, 3] rfl rfl, rfl⟩ ?_
  clear h H
  rintro s2 a w o ⟨ρ, σ3, rfl, rfl, H, hn4⟩ h hres
  refine c_seq ?_
  refine c_seq ?_
  refine rg ?_
  refine st (v := (I s2.2.2)) (rv_move rfl) ?_
  refine st (v := (I n_1)) (rv_move rfl) ?_
  refine st (v := (B (decide (s2.2.2 ≤ n_1)))) (rv_leq (a := s2.2.2) (b := n_1) rfl rfl) ?_
  refine w_end ?_
  refine q_then ?_
  refine cd_cond (decide (s2.2.2 ≤ n_1)) rfl (fun hb5 => ?_) (fun hb5 => ?_)
  ·replace h := bif_t hb5 h
   refine c_skip ?_
   refine q_then ?_
   refine c_blk ?_
   refine c_seq ?_
   refine rg ?_
   refine st (v := (Sl adata_0 s2.1 cdata_0)) (rv_move rfl) ?_
   refine st (v := (I s2.2.1)) (rv_move rfl) ?_
   refine st (v := (I s2.2.2)) (rv_move rfl) ?_
   refine st (v := (.func (.func 78) #[] #[(pt bcmp_2_0 ocmp_2_0), (pt bcmp_2_1 ocmp_2_1)])) (rv_move rfl) ?_
   obtain ⟨r6, hx7, h'⟩ := bind_some h
   clear h
   have h := h'; clear h'
   have hc8 := c_slices_insertionSortCmpFunc_int__impl_ProbeOrder_1 (adata_0 := adata_0) (cdata_0 := cdata_0) (locmp_3_0 := locmp_2_0) (bcmp_3_0 := bcmp_2_0) (ocmp_3_0 := ocmp_2_0) (precmp_3_0 := precmp_2_0) (sufcmp_3_0 := sufcmp_2_0) (acmp_3_0 := acmp_2_0) (ccmp_3_0 := ccmp_2_0) (locmp_3_1 := locmp_2_1) (bcmp_3_1 := bcmp_2_1) (ocmp_3_1 := ocmp_2_1) (precmp_3_1 := precmp_2_1) (sufcmp_3_1 := sufcmp_2_1) (acmp_3_1 := acmp_2_1) (ccmp_3_1 := ccmp_2_1) hx7
   refine st_call (cx_call hc8 (ent_f hc8.fn rfl) hn0 (show Hp S0 σ0 _ ([Ch.own 0 0 (Sl adata_0 s2.1 cdata_0) s2.1, Ch.bx locmp_2_0 bcmp_2_0 ocmp_2_0 [(Sl acmp_2_0 cmp_2_0 ccmp_2_0)] precmp_2_0 sufcmp_2_0, Ch.ro 0 (Sl acmp_2_0 cmp_2_0 ccmp_2_0) cmp_2_0, Ch.bx locmp_2_1 bcmp_2_1 ocmp_2_1 [(Sl acmp_2_1 cmp_2_1 ccmp_2_1)] precmp_2_1 sufcmp_2_1, Ch.ro 0 (Sl acmp_2_1 cmp_2_1 ccmp_2_1) cmp_2_1] ++ [Ch.ro 0 (Sl acmp_2_0 cmp_2_0 ccmp_2_0) cmp_2_0, Ch.ro 0 (Sl acmp_2_1 cmp_2_1 ccmp_2_1) cmp_2_1]) from (H.sel' [0, 2, 1, 4, 3, 1, 3] rfl rfl))) wn ?_
   rintro _ σ10 ⟨_, ⟨rfl, rfl, hn9⟩, H, -⟩
   replace H : Hp S0 σ0 σ10 [Ch.own 0 0 (Sl adata_0 r6 cdata_0) r6, Ch.bx locmp_2_0 bcmp_2_0 ocmp_2_0 [(Sl acmp_2_0 cmp_2_0 ccmp_2_0)] precmp_2_0 sufcmp_2_0, Ch.bx locmp_2_1 bcmp_2_1 ocmp_2_1 [(Sl acmp_2_1 cmp_2_1 ccmp_2_1)] precmp_2_1 sufcmp_2_1, Ch.ro 0 (Sl acmp_2_0 cmp_2_0 ccmp_2_0) cmp_2_0, Ch.ro 0 (Sl acmp_2_1 cmp_2_1 ccmp_2_1) cmp_2_1] := H
   have hsl : (Sl adata_0 s2.1 cdata_0) = (Sl adata_0 r6 cdata_0) := sl_len hn9.symm
   try rw [hsl]
   try rw [hsl] at H
   clear hsl
   refine w_end ?_
   refine q_then ?_
   refine c_seq ?_
   refine rg ?_
   refine st (v := (I s2.2.2)) (rv_move rfl) ?_
   refine st (v := (I s2.2.2)) (rv_assign rfl) ?_
   refine w_end ?_
   refine q_then ?_
   refine rg ?_
   refine st (v := (I s2.2.2)) (rv_move rfl) ?_
   refine st (v := (I 20)) (rv_move rfl) ?_
   refine st (v := (I (w64 (s2.2.2 + 20)))) (rv_add (a := s2.2.2) (b := 20) rfl rfl) ?_
   refine st (v := (I (w64 (s2.2.2 + 20)))) (rv_assign rfl) ?_
   refine w_end ?_
   refine q_blk ?_
   refine q_then ?_
   obtain rfl := Option.some.inj h
   exact ⟨_, rfl, _, σ10, fr_join ⟨rfl, rfl, rfl, rfl, rfl, rfl, trivial⟩, rfl, H.sel' [0, 3, 1, 4, 2] rfl rfl, (hn9.trans hn4)⟩
  ·replace h := bif_f hb5 h
   refine c_exit ?_
   refine q_then_x ?_
   refine q_then_x ?_
   refine q_blk_hit ?_
   obtain rfl := Option.some.inj h
   obtain rfl := hres _ rfl
   exact ⟨rfl, _, σ3, fr_join ⟨rfl, rfl, rfl, rfl, rfl, trivial⟩, rfl, H.sel' [0, 1, 2, 3, 4] rfl rfl, hn4⟩
 ·clear hj
  have h := h'
  clear h' H
  rintro e a w ⟨rfl, ρ, σ11, rfl, rfl, H, hn12⟩
  refine q_then ?_
  refine c_seq ?_
  refine rg ?_
  refine st (v := (Sl adata_0 o1.1 cdata_0)) (rv_move rfl) ?_
  refine st (v := (I o1.2)) (rv_move rfl) ?_
  refine st (v := (I n_1)) (rv_move rfl) ?_
  refine st (v := (.func (.func 78) #[] #[(pt bcmp_2_0 ocmp_2_0), (pt bcmp_2_1 ocmp_2_1)])) (rv_move rfl) ?_
  obtain ⟨r13, hx14, h'⟩ := bind_some h
  clear h
  have h := h'; clear h'
  have hc15 := c_slices_insertionSortCmpFunc_int__impl_ProbeOrder_1 (adata_0 := adata_0) (cdata_0 := cdata_0) (locmp_3_0 := locmp_2_0) (bcmp_3_0 := bcmp_2_0) (ocmp_3_0 := ocmp_2_0) (precmp_3_0 := precmp_2_0) (sufcmp_3_0 := sufcmp_2_0) (acmp_3_0 := acmp_2_0) (ccmp_3_0 := ccmp_2_0) (locmp_3_1 := locmp_2_1) (bcmp_3_1 := bcmp_2_1) (ocmp_3_1 := ocmp_2_1) (precmp_3_1 := precmp_2_1) (sufcmp_3_1 := sufcmp_2_1) (acmp_3_1 := acmp_2_1) (ccmp_3_1 := ccmp_2_1) hx14
  refine st_call (cx_call hc15 (ent_f hc15.fn rfl) hn0 (show Hp S0 σ0 _ ([Ch.own 0 0 (Sl adata_0 o1.1 cdata_0) o1.1, Ch.bx locmp_2_0 bcmp_2_0 ocmp_2_0 [(Sl acmp_2_0 cmp_2_0 ccmp_2_0)] precmp_2_0 sufcmp_2_0, Ch.ro 0 (Sl acmp_2_0 cmp_2_0 ccmp_2_0) cmp_2_0, Ch.bx locmp_2_1 bcmp_2_1 ocmp_2_1 [(Sl acmp_2_1 cmp_2_1 ccmp_2_1)] precmp_2_1 sufcmp_2_1, Ch.ro 0 (Sl acmp_2_1 cmp_2_1 ccmp_2_1) cmp_2_1] ++ [Ch.ro 0 (Sl acmp_2_0 cmp_2_0 ccmp_2_0) cmp_2_0, Ch.ro 0 (Sl acmp_2_1 cmp_2_1 ccmp_2_1) cmp_2_1]) from (H.sel' [0, 2, 1, 4, 3, 1, 3] rfl rfl))) wn ?_
  rintro _ σ17 ⟨_, ⟨rfl, rfl, hn16⟩, H, -⟩
  replace H : Hp S0 σ0 σ17 [Ch.own 0 0 (Sl adata_0 r13 cdata_0) r13, Ch.bx locmp_2_0 bcmp_2_0 ocmp_2_0 [(Sl acmp_2_0 cmp_2_0 ccmp_2_0)] precmp_2_0 sufcmp_2_0, Ch.bx locmp_2_1 bcmp_2_1 ocmp_2_1 [(Sl acmp_2_1 cmp_2_1 ccmp_2_1)] precmp_2_1 sufcmp_2_1, Ch.ro 0 (Sl acmp_2_0 cmp_2_0 ccmp_2_0) cmp_2_0, Ch.ro 0 (Sl acmp_2_1 cmp_2_1 ccmp_2_1) cmp_2_1] := H
  have hsl : (Sl adata_0 o1.1 cdata_0) = (Sl adata_0 r13 cdata_0) := sl_len hn16.symm
  try rw [hsl]
  try rw [hsl] at H
  clear hsl
  refine w_end ?_
  refine q_then ?_
  obtain ⟨o18, hj, h'⟩ := bind_some h
  clear h
  refine c_cut (fun e a w => e = .normal ∧ ∃ (ρ : Nat → Value) (σ : St), a = fr 63 (updL ρ [(0, (Sl adata_0 o18 cdata_0)), (2, (.func (.func 78) #[] #[(pt bcmp_2_0 ocmp_2_0), (pt bcmp_2_1 ocmp_2_1)]))]) ∧ w = σ.w ∧ Hp S0 σ0 σ [Ch.own 0 0 (Sl adata_0 o18 cdata_0) o18, Ch.ro 0 (Sl acmp_2_0 cmp_2_0 ccmp_2_0) cmp_2_0, Ch.bx locmp_2_0 bcmp_2_0 ocmp_2_0 [(Sl acmp_2_0 cmp_2_0 ccmp_2_0)] precmp_2_0 sufcmp_2_0, Ch.ro 0 (Sl acmp_2_1 cmp_2_1 ccmp_2_1) cmp_2_1, Ch.bx locmp_2_1 bcmp_2_1 ocmp_2_1 [(Sl acmp_2_1 cmp_2_1 ccmp_2_1)] precmp_2_1 sufcmp_2_1] ∧ o18.length = r13.length) ?_ ?_
  ·clear h'
   rename _ = some o18 => h
   refine c_blk ?_
   refine wp_loopM _ h (fun s19 a w => ∃ (ρ : Nat → Value) (σ : St), a = fr 63 (updL ρ [(0, (Sl adata_0 s19.1 cdata_0)), (1, (I n_1)), (2, (.func (.func 78) #[] #[(pt bcmp_2_0 ocmp_2_0), (pt bcmp_2_1 ocmp_2_1)])), (6, (I s19.2))]) ∧ w = σ.w ∧ Hp S0 σ0 σ [Ch.own 0 0 (Sl adata_0 s19.1 cdata_0) s19.1, Ch.ro 0 (Sl acmp_2_0 cmp_2_0 ccmp_2_0) cmp_2_0, Ch.bx locmp_2_0 bcmp_2_0 ocmp_2_0 [(Sl acmp_2_0 cmp_2_0 ccmp_2_0)] precmp_2_0 sufcmp_2_0, Ch.ro 0 (Sl acmp_2_1 cmp_2_1 ccmp_2_1) cmp_2_1, Ch.bx locmp_2_1 bcmp_2_1 ocmp_2_1 [(Sl acmp_2_1 cmp_2_1 ccmp_2_1)] precmp_2_1 sufcmp_2_1] ∧ s19.1.length = r13.length) ⟨_, σ17, fr_join ⟨rfl, rfl, rfl, rfl, trivial⟩, rfl, H.sel' [0, 3, 1, 4, 2] rfl rfl, rfl⟩ ?_
   clear h H
   rintro s19 a w o ⟨ρ, σ20, rfl, rfl, H, hn21⟩ h hres
   refine c_seq ?_
   refine c_seq ?_
   refine rg ?_
   refine st (v := (I s19.2)) (rv_move rfl) ?_
   refine st (v := (I n_1)) (rv_move rfl) ?_
   refine st (v := (B (decide (s19.2 < n_1)))) (rv_lss (a := s19.2) (b := n_1) rfl rfl) ?_
   refine w_end ?_
   refine q_then ?_
   refine cd_cond (decide (s19.2 < n_1)) rfl (fun hb22 => ?_) (fun hb22 => ?_)
   ·replace h := bif_t hb22 h
    refine c_skip ?_
    refine q_then ?_
    refine c_blk ?_
    refine c_seq ?_
    refine rg ?_
    refine st (v := (I s19.2)) (rv_move rfl) ?_
    refine st (v := (I (w64 (2 * s19.2)))) (rv_mul (a := 2) (b := s19.2) rfl rfl) ?_
    refine st (v := (I 0)) (rv_assign rfl) ?_
    refine st (v := (I (w64 (2 * s19.2)))) (rv_assign rfl) ?_
    refine w_end ?_
    refine q_then ?_
    refine c_seq ?_
    obtain ⟨o23, hj, h'⟩ := bind_some h
    clear h
    refine c_cut (fun e a w => e = .normal ∧ ∃ (ρ : Nat → Value) (σ : St), a = fr 63 (updL ρ [(0, (Sl adata_0 o23.1 cdata_0)), (1, (I n_1)), (2, (.func (.func 78) #[] #[(pt bcmp_2_0 ocmp_2_0), (pt bcmp_2_1 ocmp_2_1)])), (6, (I s19.2)), (7, (I o23.2))]) ∧ w = σ.w ∧ Hp S0 σ0 σ [Ch.own 0 0 (Sl adata_0 o23.1 cdata_0) o23.1, Ch.ro 0 (Sl acmp_2_0 cmp_2_0 ccmp_2_0) cmp_2_0, Ch.bx locmp_2_0 bcmp_2_0 ocmp_2_0 [(Sl acmp_2_0 cmp_2_0 ccmp_2_0)] precmp_2_0 sufcmp_2_0, Ch.ro 0 (Sl acmp_2_1 cmp_2_1 ccmp_2_1) cmp_2_1, Ch.bx locmp_2_1 bcmp_2_1 ocmp_2_1 [(Sl acmp_2_1 cmp_2_1 ccmp_2_1)] precmp_2_1 sufcmp_2_1] ∧ o23.1.length = s19.1.length) ?_ ?_
    ·clear h'
     rename _ = some o23 => h
     refine c_blk ?_
     refine wp_loopM _ h (fun s24 a w => ∃ (ρ : Nat → Value) (σ : St), a = fr 63 (updL ρ [(0, (Sl adata_0 s24.1 cdata_0)), (1, (I n_1)), (2, (.func (.func 78) #[] #[(pt bcmp_2_0 ocmp_2_0), (pt bcmp_2_1 ocmp_2_1)])), (6, (I s19.2)), (7, (I s24.2.1)), (8, (I s24.2.2))]) ∧ w = σ.w ∧ Hp S0 σ0 σ [Ch.own 0 0 (Sl adata_0 s24.1 cdata_0) s24.1, Ch.ro 0 (Sl acmp_2_0 cmp_2_0 ccmp_2_0) cmp_2_0, Ch.bx locmp_2_0 bcmp_2_0 ocmp_2_0 [(Sl acmp_2_0 cmp_2_0 ccmp_2_0)] precmp_2_0 sufcmp_2_0, Ch.ro 0 (Sl acmp_2_1 cmp_2_1 ccmp_2_1) cmp_2_1, Ch.bx locmp_2_1 bcmp_2_1 ocmp_2_1 [(Sl acmp_2_1 cmp_2_1 ccmp_2_1)] precmp_2_1 sufcmp_2_1] ∧ s24.1.length = s19.1.length) ⟨_, σ20, fr_join ⟨rfl, rfl, rfl, rfl, rfl, rfl, trivial⟩, rfl, H.sel' [0, 1, 2, 3, 4] rfl rfl, rfl⟩ ?_
     clear h H
     rintro s24 a w o ⟨ρ, σ25, rfl, rfl, H, hn26⟩ h hres
     refine c_seq ?_
     refine c_seq ?_
     refine rg ?_
     refine st (v := (I s24.2.2)) (rv_move rfl) ?_
     refine st (v := (I n_1)) (rv_move rfl) ?_
     refine st (v := (B (decide (s24.2.2 ≤ n_1)))) (rv_leq (a := s24.2.2) (b := n_1) rfl rfl) ?_
     refine w_end ?_
     refine q_then ?_
     refine cd_cond (decide (s24.2.2 ≤ n_1)) rfl (fun hb27 => ?_) (fun hb27 => ?_)
     ·replace h := bif_t hb27 h
      refine c_skip ?_
      refine q_then ?_
      refine c_blk ?_
      refine c_seq ?_
      refine rg ?_
      refine st (v := (Sl adata_0 s24.1 cdata_0)) (rv_move rfl) ?_
      refine st (v := (I s24.2.1)) (rv_move rfl) ?_
      refine st (v := (I s24.2.1)) (rv_move rfl) ?_
      refine st (v := (I s19.2)) (rv_move rfl) ?_
      refine st (v := (I (w64 (s24.2.1 + s19.2)))) (rv_add (a := s24.2.1) (b := s19.2) rfl rfl) ?_
      refine st (v := (I s24.2.2)) (rv_move rfl) ?_
      refine st (v := (.func (.func 78) #[] #[(pt bcmp_2_0 ocmp_2_0), (pt bcmp_2_1 ocmp_2_1)])) (rv_move rfl) ?_
      obtain ⟨r28, hx29, h'⟩ := bind_some h
      clear h
      have h := h'; clear h'
      have hc30 := c_slices_symMergeCmpFunc_int__impl_ProbeOrder_1 100 (adata_0 := adata_0) (cdata_0 := cdata_0) (locmp_4_0 := locmp_2_0) (bcmp_4_0 := bcmp_2_0) (ocmp_4_0 := ocmp_2_0) (precmp_4_0 := precmp_2_0) (sufcmp_4_0 := sufcmp_2_0) (acmp_4_0 := acmp_2_0) (ccmp_4_0 := ccmp_2_0) (locmp_4_1 := locmp_2_1) (bcmp_4_1 := bcmp_2_1) (ocmp_4_1 := ocmp_2_1) (precmp_4_1 := precmp_2_1) (sufcmp_4_1 := sufcmp_2_1) (acmp_4_1 := acmp_2_1) (ccmp_4_1 := ccmp_2_1) hx29
      refine st_call (cx_call hc30 (ent_f hc30.fn rfl) hn0 (show Hp S0 σ0 _ ([Ch.own 0 0 (Sl adata_0 s24.1 cdata_0) s24.1, Ch.bx locmp_2_0 bcmp_2_0 ocmp_2_0 [(Sl acmp_2_0 cmp_2_0 ccmp_2_0)] precmp_2_0 sufcmp_2_0, Ch.ro 0 (Sl acmp_2_0 cmp_2_0 ccmp_2_0) cmp_2_0, Ch.bx locmp_2_1 bcmp_2_1 ocmp_2_1 [(Sl acmp_2_1 cmp_2_1 ccmp_2_1)] precmp_2_1 sufcmp_2_1, Ch.ro 0 (Sl acmp_2_1 cmp_2_1 ccmp_2_1) cmp_2_1] ++ [Ch.ro 0 (Sl acmp_2_0 cmp_2_0 ccmp_2_0) cmp_2_0, Ch.ro 0 (Sl acmp_2_1 cmp_2_1 ccmp_2_1) cmp_2_1]) from (H.sel' [0, 2, 1, 4, 3, 1, 3] rfl rfl))) wn ?_
      rintro _ σ32 ⟨_, ⟨rfl, rfl, hn31⟩, H, -⟩
      replace H : Hp S0 σ0 σ32 [Ch.own 0 0 (Sl adata_0 r28 cdata_0) r28, Ch.bx locmp_2_0 bcmp_2_0 ocmp_2_0 [(Sl acmp_2_0 cmp_2_0 ccmp_2_0)] precmp_2_0 sufcmp_2_0, Ch.bx locmp_2_1 bcmp_2_1 ocmp_2_1 [(Sl acmp_2_1 cmp_2_1 ccmp_2_1)] precmp_2_1 sufcmp_2_1, Ch.ro 0 (Sl acmp_2_0 cmp_2_0 ccmp_2_0) cmp_2_0, Ch.ro 0 (Sl acmp_2_1 cmp_2_1 ccmp_2_1) cmp_2_1] := H
      have hsl : (Sl adata_0 s24.1 cdata_0) = (Sl adata_0 r28 cdata_0) := sl_len hn31.symm
      try rw [hsl]
      try rw [hsl] at H
      clear hsl
      refine w_end ?_
      refine q_then ?_
      refine c_seq ?_
      refine rg ?_
      refine st (v := (I s24.2.2)) (rv_move rfl) ?_
      refine st (v := (I s24.2.2)) (rv_assign rfl) ?_
      refine w_end ?_
      refine q_then ?_
      refine rg ?_
      refine st (v := (I s24.2.2)) (rv_move rfl) ?_
      refine st (v := (I s19.2)) (rv_move rfl) ?_
      refine st (v := (I (w64 (2 * s19.2)))) (rv_mul (a := 2) (b := s19.2) rfl rfl) ?_
      refine st (v := (I (w64 (s24.2.2 + (w64 (2 * s19.2)))))) (rv_add (a := s24.2.2) (b := (w64 (2 * s19.2))) rfl rfl) ?_
      refine st (v := (I (w64 (s24.2.2 + (w64 (2 * s19.2)))))) (rv_assign rfl) ?_
      refine w_end ?_
      refine q_blk ?_
      refine q_then ?_
      obtain rfl := Option.some.inj h
      exact ⟨_, rfl, _, σ32, fr_join ⟨rfl, rfl, rfl, rfl, rfl, rfl, trivial⟩, rfl, H.sel' [0, 3, 1, 4, 2] rfl rfl, ((hn31.trans (hn26.trans (hn21.trans (hn16.trans hn12)))).trans (hn21.trans (hn16.trans hn12)).symm)⟩
     ·replace h := bif_f hb27 h
      refine c_exit ?_
      refine q_then_x ?_
      refine q_then_x ?_
      refine q_blk_hit ?_
      obtain rfl := Option.some.inj h
      obtain rfl := hres _ rfl
      exact ⟨rfl, _, σ25, fr_join ⟨rfl, rfl, rfl, rfl, rfl, trivial⟩, rfl, H.sel' [0, 1, 2, 3, 4] rfl rfl, ((hn26.trans (hn21.trans (hn16.trans hn12))).trans (hn21.trans (hn16.trans hn12)).symm)⟩
    ·clear hj
     have h := h'
     clear h' H
     rintro e a w ⟨rfl, ρ, σ33, rfl, rfl, H, hn34⟩
     refine q_then ?_
     refine c_seq ?_
     refine c_seq ?_
     refine rg ?_
     refine st (v := (I o23.2)) (rv_move rfl) ?_
     refine st (v := (I s19.2)) (rv_move rfl) ?_
     refine st (v := (I (w64 (o23.2 + s19.2)))) (rv_add (a := o23.2) (b := s19.2) rfl rfl) ?_
     refine st (v := (I (w64 (o23.2 + s19.2)))) (rv_assign rfl) ?_
     refine w_end ?_
     refine q_then ?_
     refine c_seq ?_
     refine rg ?_
     refine st (v := (I (w64 (o23.2 + s19.2)))) (rv_move rfl) ?_
     refine st (v := (I n_1)) (rv_move rfl) ?_
     refine st (v := (B (decide ((w64 (o23.2 + s19.2)) < n_1)))) (rv_lss (a := (w64 (o23.2 + s19.2))) (b := n_1) rfl rfl) ?_
     refine w_end ?_
     refine q_then ?_
     obtain ⟨o35, hj, h'⟩ := bind_some h
     clear h
     refine c_cut (fun e a w => e = .normal ∧ ∃ (ρ : Nat → Value) (σ : St), a = fr 63 (updL ρ [(0, (Sl adata_0 o35 cdata_0)), (1, (I n_1)), (2, (.func (.func 78) #[] #[(pt bcmp_2_0 ocmp_2_0), (pt bcmp_2_1 ocmp_2_1)])), (6, (I s19.2))]) ∧ w = σ.w ∧ Hp S0 σ0 σ [Ch.own 0 0 (Sl adata_0 o35 cdata_0) o35, Ch.ro 0 (Sl acmp_2_0 cmp_2_0 ccmp_2_0) cmp_2_0, Ch.bx locmp_2_0 bcmp_2_0 ocmp_2_0 [(Sl acmp_2_0 cmp_2_0 ccmp_2_0)] precmp_2_0 sufcmp_2_0, Ch.ro 0 (Sl acmp_2_1 cmp_2_1 ccmp_2_1) cmp_2_1, Ch.bx locmp_2_1 bcmp_2_1 ocmp_2_1 [(Sl acmp_2_1 cmp_2_1 ccmp_2_1)] precmp_2_1 sufcmp_2_1] ∧ o35.length = o23.1.length) ?_ ?_
     ·clear h'
      rename _ = some o35 => h
      refine cd_cond (decide ((w64 (o23.2 + s19.2)) < n_1)) rfl (fun hb36 => ?_) (fun hb36 => ?_)
      ·replace h := bif_t hb36 h
       refine rg ?_
       refine st (v := (Sl adata_0 o23.1 cdata_0)) (rv_move rfl) ?_
       refine st (v := (I o23.2)) (rv_move rfl) ?_
       refine st (v := (I (w64 (o23.2 + s19.2)))) (rv_move rfl) ?_
       refine st (v := (I n_1)) (rv_move rfl) ?_
       refine st (v := (.func (.func 78) #[] #[(pt bcmp_2_0 ocmp_2_0), (pt bcmp_2_1 ocmp_2_1)])) (rv_move rfl) ?_
       obtain ⟨r37, hx38, h'⟩ := bind_some h
       clear h
       have h := h'; clear h'
       have hc39 := c_slices_symMergeCmpFunc_int__impl_ProbeOrder_1 100 (adata_0 := adata_0) (cdata_0 := cdata_0) (locmp_4_0 := locmp_2_0) (bcmp_4_0 := bcmp_2_0) (ocmp_4_0 := ocmp_2_0) (precmp_4_0 := precmp_2_0) (sufcmp_4_0 := sufcmp_2_0) (acmp_4_0 := acmp_2_0) (ccmp_4_0 := ccmp_2_0) (locmp_4_1 := locmp_2_1) (bcmp_4_1 := bcmp_2_1) (ocmp_4_1 := ocmp_2_1) (precmp_4_1 := precmp_2_1) (sufcmp_4_1 := sufcmp_2_1) (acmp_4_1 := acmp_2_1) (ccmp_4_1 := ccmp_2_1) hx38
       refine st_call (cx_call hc39 (ent_f hc39.fn rfl) hn0 (show Hp S0 σ0 _ ([Ch.own 0 0 (Sl adata_0 o23.1 cdata_0) o23.1, Ch.bx locmp_2_0 bcmp_2_0 ocmp_2_0 [(Sl acmp_2_0 cmp_2_0 ccmp_2_0)] precmp_2_0 sufcmp_2_0, Ch.ro 0 (Sl acmp_2_0 cmp_2_0 ccmp_2_0) cmp_2_0, Ch.bx locmp_2_1 bcmp_2_1 ocmp_2_1 [(Sl acmp_2_1 cmp_2_1 ccmp_2_1)] precmp_2_1 sufcmp_2_1, Ch.ro 0 (Sl acmp_2_1 cmp_2_1 ccmp_2_1) cmp_2_1] ++ [Ch.ro 0 (Sl acmp_2_0 cmp_2_0 ccmp_2_0) cmp_2_0, Ch.ro 0 (Sl acmp_2_1 cmp_2_1 ccmp_2_1) cmp_2_1]) from (H.sel' [0, 2, 1, 4, 3, 1, 3] rfl rfl))) wn ?_
       rintro _ σ41 ⟨_, ⟨rfl, rfl, hn40⟩, H, -⟩
       replace H : Hp S0 σ0 σ41 [Ch.own 0 0 (Sl adata_0 r37 cdata_0) r37, Ch.bx locmp_2_0 bcmp_2_0 ocmp_2_0 [(Sl acmp_2_0 cmp_2_0 ccmp_2_0)] precmp_2_0 sufcmp_2_0, Ch.bx locmp_2_1 bcmp_2_1 ocmp_2_1 [(Sl acmp_2_1 cmp_2_1 ccmp_2_1)] precmp_2_1 sufcmp_2_1, Ch.ro 0 (Sl acmp_2_0 cmp_2_0 ccmp_2_0) cmp_2_0, Ch.ro 0 (Sl acmp_2_1 cmp_2_1 ccmp_2_1) cmp_2_1] := H
       have hsl : (Sl adata_0 o23.1 cdata_0) = (Sl adata_0 r37 cdata_0) := sl_len hn40.symm
       try rw [hsl]
       try rw [hsl] at H
       clear hsl
       refine w_end ?_
       obtain rfl := Option.some.inj h
       exact ⟨rfl, _, σ41, fr_join ⟨rfl, rfl, rfl, rfl, trivial⟩, rfl, H.sel' [0, 3, 1, 4, 2] rfl rfl, ((hn40.trans (hn34.trans (hn21.trans (hn16.trans hn12)))).trans (hn34.trans (hn21.trans (hn16.trans hn12))).symm)⟩
      ·replace h := bif_f hb36 h
       refine c_skip ?_
       obtain rfl := Option.some.inj h
       exact ⟨rfl, _, σ33, fr_join ⟨rfl, rfl, rfl, rfl, trivial⟩, rfl, H.sel' [0, 1, 2, 3, 4] rfl rfl, rfl⟩
     ·clear hj
      have h := h'
      clear h' H
      rintro e a w ⟨rfl, ρ, σ42, rfl, rfl, H, hn43⟩
      refine q_then ?_
      refine rg ?_
      refine st (v := (I s19.2)) (rv_move rfl) ?_
      refine st (v := (I (w64 (s19.2 * 2)))) (rv_mul (a := s19.2) (b := 2) rfl rfl) ?_
      refine st (v := (I (w64 (s19.2 * 2)))) (rv_assign rfl) ?_
      refine w_end ?_
      refine q_blk ?_
      refine q_then ?_
      obtain rfl := Option.some.inj h
      exact ⟨_, rfl, _, σ42, fr_join ⟨rfl, rfl, rfl, rfl, trivial⟩, rfl, H.sel' [0, 1, 2, 3, 4] rfl rfl, ((hn43.trans (hn34.trans (hn21.trans (hn16.trans hn12)))).trans (hn16.trans hn12).symm)⟩
   ·replace h := bif_f hb22 h
    refine c_exit ?_
    refine q_then_x ?_
    refine q_then_x ?_
    refine q_blk_hit ?_
    obtain rfl := Option.some.inj h
    obtain rfl := hres _ rfl
    exact ⟨rfl, _, σ20, fr_join ⟨rfl, rfl, trivial⟩, rfl, H.sel' [0, 1, 2, 3, 4] rfl rfl, ((hn21.trans (hn16.trans hn12)).trans (hn16.trans hn12).symm)⟩
  ·clear hj
   have h := h'
   clear h' H
   rintro e a w ⟨rfl, ρ, σ44, rfl, rfl, H, hn45⟩
   obtain rfl := Option.some.inj h
   exact fin_end (v := (.tuple #[])) (results_ok Try.results100 res_nil rfl) ⟨rfl, rfl, (hn45.trans (hn16.trans hn12))⟩ (H.sel' [0, 2, 4] rfl rfl)

theorem c_slices_SortStableFunc_int_int__impl_ProbeOrder_1 {x_0 : List Int} {cmp_1_0 : List (List Int)} {cmp_1_1 : List Int} {ax_0 : Option Addr} {cx_0 : Nat} {acmp_1_0 : Option Addr} {ccmp_1_0 : Nat} {locmp_1_0 bcmp_1_0 ocmp_1_0 : Nat} {precmp_1_0 sufcmp_1_0 : List Value} {acmp_1_1 : Option Addr} {ccmp_1_1 : Nat} {locmp_1_1 bcmp_1_1 ocmp_1_1 : Nat} {precmp_1_1 sufcmp_1_1 : List Value} {r : (List Int)} (h : M.slices_SortStableFunc_int_int__impl_ProbeOrder_1 x_0 cmp_1_0 cmp_1_1 = some r) :
    Cal2 Try.prog 77 [(Sl ax_0 x_0 cx_0), (.func (.func 78) #[] #[(pt bcmp_1_0 ocmp_1_0), (pt bcmp_1_1 ocmp_1_1)])] [Ch.own 0 0 (Sl ax_0 x_0 cx_0) x_0, Ch.bx locmp_1_0 bcmp_1_0 ocmp_1_0 [(Sl acmp_1_0 cmp_1_0 ccmp_1_0)] precmp_1_0 sufcmp_1_0, Ch.ro 0 (Sl acmp_1_0 cmp_1_0 ccmp_1_0) cmp_1_0, Ch.bx locmp_1_1 bcmp_1_1 ocmp_1_1 [(Sl acmp_1_1 cmp_1_1 ccmp_1_1)] precmp_1_1 sufcmp_1_1, Ch.ro 0 (Sl acmp_1_1 cmp_1_1 ccmp_1_1) cmp_1_1] (fun n0 v L => v = (.tuple #[]) ∧ L = [Ch.own 0 0 (Sl ax_0 r cx_0) r, Ch.bx locmp_1_0 bcmp_1_0 ocmp_1_0 [(Sl acmp_1_0 cmp_1_0 ccmp_1_0)] precmp_1_0 sufcmp_1_0, Ch.bx locmp_1_1 bcmp_1_1 ocmp_1_1 [(Sl acmp_1_1 cmp_1_1 ccmp_1_1)] precmp_1_1 sufcmp_1_1] ∧ r.length = x_0.length) := by
 refine cal2 (n := 9) Try.func77 rfl rfl rfl rfl ?_
 intro S0 σ0 n0 hn0 H
 unfold M.slices_SortStableFunc_int_int__impl_ProbeOrder_1 at h
 refine rg ?_
 refine st (v := (Sl ax_0 x_0 cx_0)) (rv_move rfl) ?_
 refine st (v := (Sl ax_0 x_0 cx_0)) (rv_move rfl) ?_
 refine st (v := (I (x_0.length : Int))) (rv_len Try.underlying23 rfl) ?_
 refine st (v := (.func (.func 78) #[] #[(pt bcmp_1_0 ocmp_1_0), (pt bcmp_1_1 ocmp_1_1)])) (rv_move rfl) ?_
 obtain ⟨r1, hx2, h'⟩ := bind_some h
 clear h
 have h := h'; clear h'
 have hc3 := c_slices_stableCmpFunc_int__impl_ProbeOrder_1 (adata_0 := ax_0) (cdata_0 := cx_0) (locmp_2_0 := locmp_1_0) (bcmp_2_0 := bcmp_1_0) (ocmp_2_0 := ocmp_1_0) (precmp_2_0 := precmp_1_0) (sufcmp_2_0 := sufcmp_1_0) (acmp_2_0 := acmp_1_0) (ccmp_2_0 := ccmp_1_0) (locmp_2_1 := locmp_1_1) (bcmp_2_1 := bcmp_1_1) (ocmp_2_1 := ocmp_1_1) (precmp_2_1 := precmp_1_1) (sufcmp_2_1 := sufcmp_1_1) (acmp_2_1 := acmp_1_1) (ccmp_2_1 := ccmp_1_1) hx2
 refine st_call (cx_call hc3 (ent_f hc3.fn rfl) hn0 (show Hp S0 σ0 _ ([Ch.own 0 0 (Sl ax_0 x_0 cx_0) x_0, Ch.bx locmp_1_0 bcmp_1_0 ocmp_1_0 [(Sl acmp_1_0 cmp_1_0 ccmp_1_0)] precmp_1_0 sufcmp_1_0, Ch.ro 0 (Sl acmp_1_0 cmp_1_0 ccmp_1_0) cmp_1_0, Ch.bx locmp_1_1 bcmp_1_1 ocmp_1_1 [(Sl acmp_1_1 cmp_1_1 ccmp_1_1)] precmp_1_1 sufcmp_1_1, Ch.ro 0 (Sl acmp_1_1 cmp_1_1 ccmp_1_1) cmp_1_1] ++ [Ch.ro 0 (Sl acmp_1_0 cmp_1_0 ccmp_1_0) cmp_1_0, Ch.ro 0 (Sl acmp_1_1 cmp_1_1 ccmp_1_1) cmp_1_1]) from (H.sel' [0, 1, 2, 3, 4, 2, 4] rfl rfl))) wn ?_
 rintro _ σ5 ⟨_, ⟨rfl, rfl, hn4⟩, H, -⟩
 replace H : Hp S0 σ0 σ5 [Ch.own 0 0 (Sl ax_0 r1 cx_0) r1, Ch.bx locmp_1_0 bcmp_1_0 ocmp_1_0 [(Sl acmp_1_0 cmp_1_0 ccmp_1_0)] precmp_1_0 sufcmp_1_0, Ch.bx locmp_1_1 bcmp_1_1 ocmp_1_1 [(Sl acmp_1_1 cmp_1_1 ccmp_1_1)] precmp_1_1 sufcmp_1_1, Ch.ro 0 (Sl acmp_1_0 cmp_1_0 ccmp_1_0) cmp_1_0, Ch.ro 0 (Sl acmp_1_1 cmp_1_1 ccmp_1_1) cmp_1_1] := H
 have hsl : (Sl ax_0 x_0 cx_0) = (Sl ax_0 r1 cx_0) := sl_len hn4.symm
 try rw [hsl]
 try rw [hsl] at H
 clear hsl
 refine w_end ?_
 obtain rfl := Option.some.inj h
 exact fin_end (v := (.tuple #[])) (results_ok Try.results77 res_nil rfl) ⟨rfl, rfl, hn4⟩ (H.sel' [0, 1, 2] rfl rfl)

theorem c_impl_ProbeOrder {centres_0 : List (List Int)} {at_1 : List Int} {many_2 : Int} {acentres_0 : Option Addr} {ccentres_0 : Nat} {aat_1 : Option Addr} {cat_1 : Nat} {r : (List Int)} (h : M.impl_ProbeOrder centres_0 at_1 many_2 = some r) :
    Cal2 Try.prog 41 [(Sl acentres_0 centres_0 ccentres_0), (Sl aat_1 at_1 cat_1), (I many_2)] [Ch.ro 0 (Sl acentres_0 centres_0 ccentres_0) centres_0, Ch.ro 0 (Sl aat_1 at_1 cat_1) at_1] (fun n0 v L => ∃ (az1 : Option Addr), ∃ (cz2 : Nat), v = (Sl az1 r cz2) ∧ L = [Ch.own 0 n0 (Sl az1 r cz2) r]) := by
 refine cal2 (n := 36) Try.func41 rfl rfl rfl rfl ?_
 intro S0 σ0 n0 hn0 H
 unfold M.impl_ProbeOrder at h
 refine c_seq ?_
 refine rg ?_
 refine st_ex (ex_box (cs := [(Sl acentres_0 centres_0 ccentres_0)]) H hn0 rfl rfl) wn ?_
 rintro _ σ2 ⟨b1, rfl, H, -⟩
 refine st_ex (ex_box (cs := [(Sl aat_1 at_1 cat_1)]) H hn0 rfl rfl) wn ?_
 rintro _ σ4 ⟨b3, rfl, H, -⟩
 refine st (v := (.slice none 0 0)) (rv_assign rfl) ?_
 refine w_end ?_
 refine q_then ?_
 refine c_seq ?_
 refine c_seq ?_
 refine rg ?_
 have hc5 := H.cell (u := (Sl acentres_0 centres_0 ccentres_0)) (o' := 0) 1 0 rfl rfl rfl
 refine st (v := (Sl acentres_0 centres_0 ccentres_0)) (rv_load1 Try.underlying48 rfl rfl hc5) ?_
 have hc6 := H.cell (u := (Sl aat_1 at_1 cat_1)) (o' := 0) 0 0 rfl rfl rfl
 refine st (v := (Sl aat_1 at_1 cat_1)) (rv_load1 Try.underlying23 rfl rfl hc6) ?_
 refine st (v := (I many_2)) (rv_move rfl) ?_
 obtain ⟨r7, hx8, h'⟩ := bind_some h
 clear h
 have h := h'; clear h'
 have hc9 := c_impl_validProbe (acentres_0 := acentres_0) (ccentres_0 := ccentres_0) (aat_1 := aat_1) (cat_1 := cat_1) hx8
 refine st_call (cx_call hc9 (ent_f hc9.fn rfl) hn0 (show Hp S0 σ0 _ ([Ch.ro 0 (Sl acentres_0 centres_0 ccentres_0) centres_0, Ch.ro 0 (Sl aat_1 at_1 cat_1) at_1] ++ [Ch.bx n0 b3 0 [(Sl aat_1 at_1 cat_1)] [] [], Ch.bx n0 b1 0 [(Sl acentres_0 centres_0 ccentres_0)] [] [], Ch.ro 0 (Sl acentres_0 centres_0 ccentres_0) centres_0, Ch.ro 0 (Sl aat_1 at_1 cat_1) at_1]) from (H.sel' [2, 3, 0, 1, 2, 3] rfl rfl))) wn ?_
 rintro _ σ10 ⟨_, ⟨rfl, rfl⟩, H, -⟩
 replace H : Hp S0 σ0 σ10 [Ch.bx n0 b3 0 [(Sl aat_1 at_1 cat_1)] [] [], Ch.bx n0 b1 0 [(Sl acentres_0 centres_0 ccentres_0)] [] [], Ch.ro 0 (Sl acentres_0 centres_0 ccentres_0) centres_0, Ch.ro 0 (Sl aat_1 at_1 cat_1) at_1] := H
 refine st (v := (B (!r7))) (rv_not rfl) ?_
 refine w_end ?_
 refine q_then ?_
 refine cd_cond (!r7) rfl (fun hb11 => ?_) (fun hb11 => ?_)
 ·replace h := bif_t hb11 h
  refine c_seq ?_
  refine rg ?_
  refine st (v := (.slice none 0 0)) (rv_assign rfl) ?_
  refine w_end ?_
  refine q_then ?_
  refine c_ret ?_
  refine q_then_r ?_
  replace H := H.nilOwn Int 0 n0
  obtain rfl := Option.some.inj h
  exact fin_ret (v := (.slice none 0 0)) (results_ok Try.results41 (res_tmp (v := (.slice none 0 0)) rfl res_nil) rfl) ⟨none, 0, rfl, rfl⟩ (H.sel' [0] rfl rfl)
 ·replace h := bif_f hb11 h
  refine c_skip ?_
  refine q_then ?_
  refine c_seq ?_
  refine rg ?_
  have hc12 := H.cell (u := (Sl acentres_0 centres_0 ccentres_0)) (o' := 0) 1 0 rfl rfl rfl
  refine st (v := (Sl acentres_0 centres_0 ccentres_0)) (rv_load1 Try.underlying48 rfl rfl hc12) ?_
  refine st (v := (I (centres_0.length : Int))) (rv_len Try.underlying48 rfl) ?_
  obtain ⟨xs13, hx14, h'⟩ := bind_some h
  clear h
  have h := h'; clear h'
  refine st_ex (ex_make (el := n0) (z0 := (0 : Int)) (zs := [(I 0)]) H hn0 Try.underlying23 ti3 rfl rfl rfl (by decide) hx14 rfl rfl) wn ?_
  rintro _ σ18 ⟨b15, c16, rfl, ht17, H, -⟩
  replace ht17 := ht17.trans (gmake_len hx14).symm
  refine st (v := (Sl (some ⟨b15, 0, none⟩) xs13 c16)) (rv_assign rfl) ?_
  refine w_end ?_
  refine q_then ?_
  refine c_seq ?_
  refine c_seq ?_
  refine rg ?_
  refine st (v := (Sl (some ⟨b15, 0, none⟩) xs13 c16)) (rv_move rfl) ?_
  refine st (v := (I (xs13.length : Int))) (rv_len Try.underlying23 rfl) ?_
  refine st (v := (I 0)) (rv_move rfl) ?_
  refine w_end ?_
  refine q_then ?_
  obtain ⟨o19, hj, h'⟩ := bind_some h
  clear h
  refine c_cut (fun e a w => e = .normal ∧ ∃ (ρ : Nat → Value) (σ : St), a = fr 36 (updL ρ [(2, (I many_2)), (3, (pt b1 0)), (4, (pt b3 0)), (7, (Sl (some ⟨b15, 0, none⟩) o19 c16))]) ∧ w = σ.w ∧ Hp S0 σ0 σ [Ch.ro 0 (Sl acentres_0 centres_0 ccentres_0) centres_0, Ch.bx n0 b1 0 [(Sl acentres_0 centres_0 ccentres_0)] [] [], Ch.ro 0 (Sl aat_1 at_1 cat_1) at_1, Ch.bx n0 b3 0 [(Sl aat_1 at_1 cat_1)] [] [], Ch.own n0 n0 (Sl (some ⟨b15, 0, none⟩) o19 c16) o19] ∧ c16 = o19.length ∧ o19.length = xs13.length) ?_ ?_
  ·clear h'
   rename _ = some o19 => h
   refine c_blk ?_
   refine wp_loopM _ h (fun s20 a w => ∃ (ρ : Nat → Value) (σ : St), a = fr 36 (updL ρ [(2, (I many_2)), (3, (pt b1 0)), (4, (pt b3 0)), (7, (Sl (some ⟨b15, 0, none⟩) s20.1 c16)), (18, (I (xs13.length : Int))), (19, (I s20.2))]) ∧ w = σ.w ∧ Hp S0 σ0 σ [Ch.ro 0 (Sl acentres_0 centres_0 ccentres_0) centres_0, Ch.bx n0 b1 0 [(Sl acentres_0 centres_0 ccentres_0)] [] [], Ch.ro 0 (Sl aat_1 at_1 cat_1) at_1, Ch.bx n0 b3 0 [(Sl aat_1 at_1 cat_1)] [] [], Ch.own n0 n0 (Sl (some ⟨b15, 0, none⟩) s20.1 c16) s20.1] ∧ c16 = s20.1.length ∧ s20.1.length = xs13.length) ⟨_, σ18, fr_join ⟨rfl, rfl, rfl, rfl, rfl, rfl, trivial⟩, rfl, H.sel' [3, 2, 4, 1, 0] rfl rfl, ht17, rfl⟩ ?_
   clear h H
   rintro s20 a w o ⟨ρ, σ21, rfl, rfl, H, ht22, hn23⟩ h hres
   refine c_seq ?_
   refine rg ?_
   refine st (v := (B (decide (s20.2 < (xs13.length : Int))))) (rv_lss (a := s20.2) (b := (xs13.length : Int)) rfl rfl) ?_
   refine w_end ?_
   refine q_then ?_
   refine c_seq ?_
   refine cd_cond (decide (s20.2 < (xs13.length : Int))) rfl (fun hb24 => ?_) (fun hb24 => ?_)
   ·replace h := bif_t hb24 h
    refine c_skip ?_
    refine q_then ?_
    refine c_seq ?_
    refine c_blk ?_
    refine c_seq ?_
    refine rg ?_
    refine st (v := (I s20.2)) (rv_move rfl) ?_
    refine st (v := (I s20.2)) (rv_assign rfl) ?_
    refine w_end ?_
    refine q_then ?_
    refine rg ?_
    refine st (v := (Sl (some ⟨b15, 0, none⟩) s20.1 c16)) (rv_move rfl) ?_
    refine st (v := (I s20.2)) (rv_move rfl) ?_
    refine st (v := (I s20.2)) (rv_move rfl) ?_
    obtain ⟨x25, hx26, h'⟩ := bind_some h
    clear h
    have h := h'; clear h'
    obtain ⟨b28, o29, hi27, -⟩ := (H.own 4 rfl).ix hx26
    refine st (v := (pt b28 o29)) (rv_ix Try.underlying23 ti3 rfl rfl hi27) ?_
    refine st_exS (ex_store_own (e' := s20.2) (vs := [(I s20.2)]) (k := 0) H (i := 4) rfl ti3 hx26 hi27 rfl rfl rfl rfl rfl (Nat.le_of_ble_eq_true rfl) (by simp [plain]) (by rintro _ rfl; exact rfl)) wn ?_
    rintro σ30 ⟨H, -⟩
    have hsl : (Sl (some ⟨b15, 0, none⟩) s20.1 c16) = (Sl (some ⟨b15, 0, none⟩) (s20.1.set s20.2.toNat s20.2) c16) := sl_len List.length_set.symm
    rw [hsl]; rw [hsl] at H; clear hsl
    refine w_end ?_
    refine q_blk ?_
    refine q_then ?_
    refine rg ?_
    refine st (v := (I (w64 (s20.2 + 1)))) (rv_add (a := s20.2) (b := 1) rfl rfl) ?_
    refine st (v := (I (w64 (s20.2 + 1)))) (rv_move rfl) ?_
    refine w_end ?_
    refine q_then ?_
    obtain rfl := Option.some.inj h
    exact ⟨_, rfl, _, σ30, fr_join ⟨rfl, rfl, rfl, rfl, rfl, rfl, trivial⟩, rfl, H.sel' [1, 2, 3, 4, 0] rfl rfl, (ht22.trans List.length_set.symm), (List.length_set.trans hn23)⟩
   ·replace h := bif_f hb24 h
    refine c_exit ?_
    refine q_then_x ?_
    refine q_then_x ?_
    refine q_blk_hit ?_
    obtain rfl := Option.some.inj h
    obtain rfl := hres _ rfl
    exact ⟨rfl, _, σ21, fr_join ⟨rfl, rfl, rfl, rfl, trivial⟩, rfl, H.sel' [0, 1, 2, 3, 4] rfl rfl, ht22, hn23⟩
  ·clear hj
   have h := h'
   clear h' H
   rintro e a w ⟨rfl, ρ, σ31, rfl, rfl, H, ht32, hn33⟩
   refine q_then ?_
   refine c_seq ?_
   refine rg ?_
   refine st (v := (Sl (some ⟨b15, 0, none⟩) o19 c16)) (rv_move rfl) ?_
   refine st (v := (.func (.func 78) #[] #[(pt b1 0), (pt b3 0)])) (rv_makeFunc (vs := [(pt b1 0), (pt b3 0)]) rfl) ?_
   replace H := H.ownLow 4 0 0 rfl (Nat.zero_le _) (Nat.zero_le _)
   obtain ⟨r34, hx35, h'⟩ := bind_some h
   clear h
   have h := h'; clear h'
   have hc36 := c_slices_SortStableFunc_int_int__impl_ProbeOrder_1 (ax_0 := (some ⟨b15, 0, none⟩)) (cx_0 := c16) (locmp_1_0 := n0) (bcmp_1_0 := b1) (ocmp_1_0 := 0) (precmp_1_0 := []) (sufcmp_1_0 := []) (acmp_1_0 := acentres_0) (ccmp_1_0 := ccentres_0) (locmp_1_1 := n0) (bcmp_1_1 := b3) (ocmp_1_1 := 0) (precmp_1_1 := []) (sufcmp_1_1 := []) (acmp_1_1 := aat_1) (ccmp_1_1 := cat_1) hx35
   refine st_call (cx_call hc36 (ent_f hc36.fn rfl) hn0 (show Hp S0 σ0 _ ([Ch.own 0 0 (Sl (some ⟨b15, 0, none⟩) o19 c16) o19, Ch.bx n0 b1 0 [(Sl acentres_0 centres_0 ccentres_0)] [] [], Ch.ro 0 (Sl acentres_0 centres_0 ccentres_0) centres_0, Ch.bx n0 b3 0 [(Sl aat_1 at_1 cat_1)] [] [], Ch.ro 0 (Sl aat_1 at_1 cat_1) at_1] ++ [Ch.ro 0 (Sl acentres_0 centres_0 ccentres_0) centres_0, Ch.ro 0 (Sl aat_1 at_1 cat_1) at_1]) from (H.sel' [0, 2, 1, 4, 3, 1, 3] rfl rfl))) wn ?_
   rintro _ σ38 ⟨_, ⟨rfl, rfl, hn37⟩, H, -⟩
   replace H : Hp S0 σ0 σ38 [Ch.own 0 0 (Sl (some ⟨b15, 0, none⟩) r34 c16) r34, Ch.bx n0 b1 0 [(Sl acentres_0 centres_0 ccentres_0)] [] [], Ch.bx n0 b3 0 [(Sl aat_1 at_1 cat_1)] [] [], Ch.ro 0 (Sl acentres_0 centres_0 ccentres_0) centres_0, Ch.ro 0 (Sl aat_1 at_1 cat_1) at_1] := H
   have hsl : (Sl (some ⟨b15, 0, none⟩) o19 c16) = (Sl (some ⟨b15, 0, none⟩) r34 c16) := sl_len hn37.symm
   try rw [hsl]
   try rw [hsl] at H
   clear hsl
   refine w_end ?_
   refine q_then ?_
   refine c_seq ?_
   refine rg ?_
   refine st (v := (Sl (some ⟨b15, 0, none⟩) r34 c16)) (rv_move rfl) ?_
   refine st (v := (I many_2)) (rv_move rfl) ?_
   refine st (v := (Sl (some ⟨b15, 0, none⟩) r34 c16)) (rv_move rfl) ?_
   refine st (v := (I (r34.length : Int))) (rv_len Try.underlying23 rfl) ?_
   refine st (v := (I (min many_2 (r34.length : Int)))) (rv_min rfl rfl) ?_
   obtain ⟨xs39, hx40, h'⟩ := bind_some h
   clear h
   have h := h'; clear h'
   obtain ⟨a41, c42, hs43, hR44, hb45⟩ := (H.own 0 rfl).slice hx40
   replace H := (H.front (i := 0) rfl).turn (d := Ch.own 0 0 (Sl a41 xs39 c42) xs39) (fun _ => hR44) hb45; clear hR44 hb45
   refine st (v := (Sl a41 xs39 c42)) (rv_slice_h Try.underlying23 ti3 hs43 rfl rfl) ?_
   refine st (v := (Sl a41 xs39 c42)) (rv_assign rfl) ?_
   refine w_end ?_
   refine q_then ?_
   refine c_ret ?_
   replace H := H.ownSc 0 0 n0 rfl (Nat.le_refl _)
   obtain rfl := Option.some.inj h
   exact fin_ret (v := (Sl a41 xs39 c42)) (results_ok Try.results41 (res_tmp (v := (Sl a41 xs39 c42)) rfl res_nil) rfl) ⟨a41, c42, rfl, rfl⟩ (H.sel' [0] rfl rfl)

theorem c_laws_markIntSS {a_0 : List (List Int)} {k_1 : Int} {aa_0 : Option Addr} {ca_0 : Nat} {lo : Nat} {K : List Ch} (hK : Dp lo (Sl aa_0 a_0 ca_0) a_0 K) {r : Int} (h : M.markIntSD a_0 k_1 = some r) :
    Cal2 Try.prog 42 [(Sl aa_0 a_0 ca_0), (I k_1)] [Ch.big K] (fun n0 v L => v = (I r) ∧ L = []) := by
 obtain ⟨hn, h⟩ := markIntSD_some h
 obtain ⟨ps, hps, rfl⟩ := hK.ex
 refine cal2 (n := 19) Try.func42 rfl rfl rfl rfl ?_
 intro S0 σ0 n0 hn0 H
 refine c_seq ?_
 refine rg ?_
 refine st (v := (I 0)) (rv_assign rfl) ?_
 refine w_end ?_
 refine q_then ?_
 refine c_seq ?_
 refine c_seq ?_
 refine rg ?_
 refine st (v := (I 0)) (rv_assign rfl) ?_
 refine w_end ?_
 refine q_then ?_
 refine c_cut (fun e a w => e = .normal ∧ ∃ (ρ : Nat → Value) (σ : St), a = fr 19 (updL ρ [(1, (I r))]) ∧ w = σ.w ∧ Hp S0 σ0 σ []) ?_ ?_
 ·refine c_blk ?_
  have hlen : ps.length = a_0.length := by rw [hps]; simp
  refine wp_loop_ghost (fun m a w => ∃ (i : Nat) (ρ : Nat → Value) (σ : St) (ys : List Value) (qs : List ((List Int) × Value)) (k : Int), i + m = a_0.length ∧ qs.length = m ∧ ys.drop i = qs.map dsh ∧ M.dmarkIntSS (qs.map (·.1)) k = some r ∧ a = fr 19 (updL ρ [(0, (Sl aa_0 a_0 ca_0)), (1, (I k)), (5, (I (i : Int)))]) ∧ w = σ.w ∧ Hp S0 σ0 σ [Ch.own lo lo (Sl aa_0 a_0 ca_0) ys, Ch.big (qs.map (dow lo))]) a_0.length ⟨0, _, σ0, _, ps, k_1, by omega, hlen, rfl, hps ▸ h, fr_join ⟨rfl, rfl, rfl, trivial⟩, rfl, H.unbig⟩ ?_
  clear H
  rintro m _ _ ⟨i, ρ, σ3, ys, qs, k, him, hqs, hys, hk, rfl, rfl, H⟩
  refine c_seq ?_
  refine c_seq ?_
  refine rg ?_
  refine st (v := (I (i : Int))) (rv_move rfl) ?_
  refine st (v := (Sl aa_0 a_0 ca_0)) (rv_move rfl) ?_
  refine st (v := (I (a_0.length : Int))) (rv_len Try.underlying48 rfl) ?_
  refine st (v := (B (decide ((i : Int) < (a_0.length : Int))))) (rv_lss (a := (i : Int)) (b := (a_0.length : Int)) rfl rfl) ?_
  refine w_end ?_
  refine q_then ?_
  refine cd_cond (decide ((i : Int) < (a_0.length : Int))) rfl (fun hb => ?_) (fun hb => ?_)
  ·have hlt : i < a_0.length := by have := of_decide_eq_true hb; omega
   obtain ⟨m, rfl⟩ : ∃ m', m = m' + 1 := ⟨m - 1, by omega⟩
   obtain ⟨p, qs, rfl⟩ : ∃ p qs', qs = p :: qs' := by cases qs with
    | nil => cases hqs
    | cons p qs => exact ⟨p, qs, rfl⟩
   obtain ⟨q, hq, hk'⟩ := bind_some (show (M.laws_markIntS p.1 k).bind (fun q => M.dmarkIntSS (qs.map (·.1)) q.1) = some r from hk)
   replace hys : ys.drop i = dsh p :: qs.map dsh := hys
   refine c_skip ?_
   refine q_then ?_
   refine c_seq ?_
   refine c_blk ?_
   refine rg ?_
   refine st (v := (Sl aa_0 a_0 ca_0)) (rv_move rfl) ?_
   refine st (v := (I (i : Int))) (rv_move rfl) ?_
   have hx7 := gidx_drop hys
   obtain ⟨b9, o10, hi8, -⟩ := (H.own 0 rfl).ix hx7
   refine st (v := (pt b9 o10)) (rv_ix Try.underlying48 ti23 rfl rfl hi8) ?_
   obtain ⟨_, ⟨rfl, hpl⟩, hl18, hc19⟩ := ((H.own 0 rfl).at hx7 hi8).cells
   replace H := Hp.unbig (H.sel' [1, 0] rfl rfl)
   obtain ⟨a20, c21, h22⟩ : IsSl p.2 p.1.length := (show Ow σ3 lo lo p.2 p.1 from H.head).isSl
   obtain ⟨px, hd⟩ := p
   dsimp only at h22 hq hys hc19
   subst h22
   have hc20 := hc19 0 (by simp)
   refine st (v := (Sl a20 px c21)) (rv_load1 Try.underlying23 rfl rfl hc20) ?_
   refine st (v := (I k)) (rv_move rfl) ?_
   replace H : Hp S0 σ0 σ3 [Ch.own lo lo (Sl a20 px c21) px, Ch.big (qs.map (dow lo)), Ch.own lo lo (Sl aa_0 a_0 ca_0) ys] := H
   replace H := H.ownSc 0 0 0 rfl (Nat.zero_le _)
   have hc25 := c_laws_markIntS (aa_0 := a20) (ca_0 := c21) hq
   refine st_call (cx_call hc25 (ent_f hc25.fn rfl) hn0 (H.sel' [0, 1, 2] rfl rfl : Hp S0 σ0 _ ([_] ++ _))) (wanted_none _ rfl _) ?_
   rintro _ σ29 ⟨_, ⟨rfl, rfl, -⟩, H, -⟩
   replace H : Hp S0 σ0 σ29 [Ch.own 0 0 (Sl a20 q.2 c21) q.2, Ch.big (qs.map (dow lo)), Ch.own lo lo (Sl aa_0 a_0 ca_0) ys] := H
   replace H := H.sel' [2, 1] rfl rfl
   refine st (v := (I q.1)) (rv_assign rfl) ?_
   refine w_end ?_
   refine q_blk ?_
   refine q_then ?_
   refine rg ?_
   refine st (v := (I (i : Int))) (rv_move rfl) ?_
   refine st (v := (I (w64 ((i : Int) + 1)))) (rv_add (a := (i : Int)) (b := 1) rfl rfl) ?_
   refine st (v := (I (w64 ((i : Int) + 1)))) (rv_assign rfl) ?_
   refine w_end ?_
   have e1 : w64 ((i : Int) + 1) = ((i + 1 : Nat) : Int) := w64_id (by omega) (by omega)
   rw [e1]
   refine q_then ?_
   exact ⟨m, by omega, i + 1, _, σ29, _, qs, _, by omega, by simpa using hqs, drop_next hys, hk', fr_join ⟨rfl, rfl, rfl, trivial⟩, rfl, H⟩
  ·have hlt : ¬ i < a_0.length := by have := of_decide_eq_false hb; omega
   obtain rfl : m = 0 := by omega
   obtain rfl : qs = [] := List.eq_nil_of_length_eq_zero hqs
   obtain rfl : k = r := Option.some.inj hk
   refine c_exit ?_
   refine q_then_x ?_
   refine q_then_x ?_
   refine q_blk_hit ?_
   exact ⟨rfl, _, σ3, fr_join ⟨rfl, trivial⟩, rfl, H.sel' [] rfl rfl⟩
 ·clear H
  rintro e a w ⟨rfl, ρ, σ41, rfl, rfl, H⟩
  refine q_then ?_
  refine c_seq ?_
  refine rg ?_
  refine st (v := (I r)) (rv_move rfl) ?_
  refine st (v := (I r)) (rv_assign rfl) ?_
  refine w_end ?_
  refine q_then ?_
  refine c_ret ?_
  exact fin_ret (v := (I r)) (results_ok Try.results42 (res_tmp (v := (I r)) rfl res_nil) rfl) ⟨rfl, rfl⟩ H


theorem c_laws_heldIntS {a_0 : List Int} {k_1 : Int} {aa_0 : Option Addr} {ca_0 : Nat} {r : Int} (h : M.laws_heldIntS a_0 k_1 = some r) :
    Cal2 Try.prog 43 [(Sl aa_0 a_0 ca_0), (I k_1)] [Ch.ro 0 (Sl aa_0 a_0 ca_0) a_0] (fun n0 v L => v = (I r) ∧ L = []) := by
 refine cal2 (n := 21) Try.func43 rfl rfl rfl rfl ?_
 intro S0 σ0 n0 hn0 H
 unfold M.laws_heldIntS at h
 refine c_seq ?_
 refine rg ?_
 refine st (v := (I 0)) (rv_assign rfl) ?_
 refine w_end ?_
 refine q_then ?_
 refine c_seq ?_
 refine c_seq ?_
 refine rg ?_
 refine st (v := (I 0)) (rv_assign rfl) ?_
 refine w_end ?_
 refine q_then ?_
 obtain ⟨o1, hj, h'⟩ := bind_some h
 clear h
 refine c_cut (fun e a w => (∃ t, o1 = (.inl t) ∧ e = .normal ∧ ∃ (ρ : Nat → Value) (σ : St), a = fr 21 (updL ρ [(1, (I t))]) ∧ w = σ.w ∧ Hp S0 σ0 σ []) ∨ (∃ t, o1 = (.inr t) ∧ e = .ret ∧ ∃ (ρ : Nat → Value) (σ : St), a = fr 21 (updL ρ [(4, (I t))]) ∧ w = σ.w ∧ Hp S0 σ0 σ [])) ?_ ?_
 ·clear h'
  rename _ = some o1 => h
  refine c_blk ?_
  refine wp_loopM _ h (fun s2 a w => ∃ (ρ : Nat → Value) (σ : St), a = fr 21 (updL ρ [(0, (Sl aa_0 a_0 ca_0)), (1, (I s2.1)), (5, (I s2.2))]) ∧ w = σ.w ∧ Hp S0 σ0 σ [Ch.ro 0 (Sl aa_0 a_0 ca_0) a_0]) ⟨_, σ0, fr_join ⟨rfl, rfl, rfl, trivial⟩, rfl, H.sel' [0] rfl rfl⟩ ?_
  clear h H
  rintro s2 a w o ⟨ρ, σ3, rfl, rfl, H⟩ h hres
  refine c_seq ?_
  refine c_seq ?_
  refine rg ?_
  refine st (v := (I s2.2)) (rv_move rfl) ?_
  refine st (v := (Sl aa_0 a_0 ca_0)) (rv_move rfl) ?_
  refine st (v := (I (a_0.length : Int))) (rv_len Try.underlying23 rfl) ?_
  refine st (v := (B (decide (s2.2 < (a_0.length : Int))))) (rv_lss (a := s2.2) (b := (a_0.length : Int)) rfl rfl) ?_
  refine w_end ?_
  refine q_then ?_
  refine cd_cond (decide (s2.2 < (a_0.length : Int))) rfl (fun hb4 => ?_) (fun hb4 => ?_)
  ·replace h := bif_t hb4 h
   refine c_skip ?_
   refine q_then ?_
   refine c_seq ?_
   refine c_blk ?_
   refine c_seq ?_
   refine c_seq ?_
   refine rg ?_
   refine st (v := (Sl aa_0 a_0 ca_0)) (rv_move rfl) ?_
   refine st (v := (I s2.2)) (rv_move rfl) ?_
   obtain ⟨x5, hx6, h'⟩ := bind_some h
   clear h
   have h := h'; clear h'
   obtain ⟨b8, o9, hi7, -⟩ := (H.ro 0 rfl).ix hx6
   refine st (v := (pt b8 o9)) (rv_ix Try.underlying23 ti3 rfl rfl hi7) ?_
   have hc10 := ((H.ro 0 rfl).at hx6 hi7).int
   refine st (v := (I x5)) (rv_load1 Try.underlying3 rfl rfl hc10) ?_
   refine st (v := (I s2.1)) (rv_move rfl) ?_
   refine st (v := (B (x5 != s2.1))) (rv_neq (a := x5) (b := s2.1) rfl rfl) ?_
   refine w_end ?_
   refine q_then ?_
   refine cd_cond (x5 != s2.1) rfl (fun hb11 => ?_) (fun hb11 => ?_)
   ·replace h := bif_t hb11 h
    refine c_seq ?_
    refine rg ?_
    refine st (v := (I (-1))) (rv_assign rfl) ?_
    refine w_end ?_
    refine q_then ?_
    refine c_ret ?_
    refine q_then_r ?_
    refine q_blk_r ?_
    refine q_then_r ?_
    refine q_then_r ?_
    refine q_blk_r ?_
    obtain rfl := Option.some.inj h
    obtain rfl := hres _ rfl
    exact .inr (⟨_, rfl, rfl, _, σ3, fr_join ⟨rfl, trivial⟩, rfl, H.sel' [] rfl rfl⟩)
   ·replace h := bif_f hb11 h
    refine c_skip ?_
    refine q_then ?_
    refine rg ?_
    refine st (v := (I s2.1)) (rv_move rfl) ?_
    refine st (v := (I (w64 (s2.1 + 1)))) (rv_add (a := s2.1) (b := 1) rfl rfl) ?_
    refine st (v := (I (w64 (s2.1 + 1)))) (rv_assign rfl) ?_
    refine w_end ?_
    refine q_blk ?_
    refine q_then ?_
    refine rg ?_
    refine st (v := (I s2.2)) (rv_move rfl) ?_
    refine st (v := (I (w64 (s2.2 + 1)))) (rv_add (a := s2.2) (b := 1) rfl rfl) ?_
    refine st (v := (I (w64 (s2.2 + 1)))) (rv_assign rfl) ?_
    refine w_end ?_
    refine q_then ?_
    obtain rfl := Option.some.inj h
    exact ⟨_, rfl, _, σ3, fr_join ⟨rfl, rfl, rfl, trivial⟩, rfl, H.sel' [0] rfl rfl⟩
  ·replace h := bif_f hb4 h
   refine c_exit ?_
   refine q_then_x ?_
   refine q_then_x ?_
   refine q_blk_hit ?_
   obtain rfl := Option.some.inj h
   obtain rfl := hres _ rfl
   exact .inl ⟨_, rfl, rfl, _, σ3, fr_join ⟨rfl, trivial⟩, rfl, H.sel' [] rfl rfl⟩
 ·clear hj
  have h := h'
  clear h' H
  rintro e a w (⟨t12, rfl, rfl, ρ, σ13, rfl, rfl, H⟩ | ⟨t14, rfl, rfl, ρ, σ15, rfl, rfl, H⟩)
  ·replace h := selim_l h
   refine q_then ?_
   refine c_seq ?_
   refine rg ?_
   refine st (v := (I t12)) (rv_move rfl) ?_
   refine st (v := (I t12)) (rv_assign rfl) ?_
   refine w_end ?_
   refine q_then ?_
   refine c_ret ?_
   obtain rfl := Option.some.inj h
   exact fin_ret (v := (I t12)) (results_ok Try.results43 (res_tmp (v := (I t12)) rfl res_nil) rfl) ⟨rfl, rfl⟩ (H.sel' [] rfl rfl)
  ·replace h := selim_r h
   refine q_then_r ?_
   obtain rfl := Option.some.inj h
   exact fin_ret (v := (I t14)) (results_ok Try.results43 (res_tmp (v := (I t14)) rfl res_nil) rfl) ⟨rfl, rfl⟩ (H.sel' [] rfl rfl)

end Go.Vs
