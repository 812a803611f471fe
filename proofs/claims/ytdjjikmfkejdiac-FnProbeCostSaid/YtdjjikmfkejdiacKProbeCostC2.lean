/- The functions compute what their models say. -/
import Derived.Test.YtdjjikmfkejdiacKProbeCostC1
set_option linter.unusedVariables false
set_option linter.unusedSimpArgs false
set_option maxRecDepth 20000
namespace Go.Vs
open Go Go.Proofs
attribute [local irreducible] Code.wp Code.wpIn wpList wpListIn wpQuiet Calls CallsIn

theorem c_slices_insertionSortCmpFunc_int__impl_ProbeOrder_1 {data_0 : List Int} {a_1 : Int} {b_2 : Int} {cmp_3_0 : List (List Int)} {cmp_3_1 : List Int} {adata_0 : Option Addr} {cdata_0 : Nat} {acmp_3_0 : Option Addr} {ccmp_3_0 : Nat} {locmp_3_0 bcmp_3_0 ocmp_3_0 : Nat} {precmp_3_0 sufcmp_3_0 : List Value} {acmp_3_1 : Option Addr} {ccmp_3_1 : Nat} {locmp_3_1 bcmp_3_1 ocmp_3_1 : Nat} {precmp_3_1 sufcmp_3_1 : List Value} {r : (List Int)} (h : M.slices_insertionSortCmpFunc_int__impl_ProbeOrder_1 data_0 a_1 b_2 cmp_3_0 cmp_3_1 = some r) :
    Cal2 Try.prog 108 [(Sl adata_0 data_0 cdata_0), (I a_1), (I b_2), (.func (.func 58) #[] #[(pt bcmp_3_0 ocmp_3_0), (pt bcmp_3_1 ocmp_3_1)])] [Ch.own 0 0 (Sl adata_0 data_0 cdata_0) data_0, Ch.bx locmp_3_0 bcmp_3_0 ocmp_3_0 [(Sl acmp_3_0 cmp_3_0 ccmp_3_0)] precmp_3_0 sufcmp_3_0, Ch.ro 0 (Sl acmp_3_0 cmp_3_0 ccmp_3_0) cmp_3_0, Ch.bx locmp_3_1 bcmp_3_1 ocmp_3_1 [(Sl acmp_3_1 cmp_3_1 ccmp_3_1)] precmp_3_1 sufcmp_3_1, Ch.ro 0 (Sl acmp_3_1 cmp_3_1 ccmp_3_1) cmp_3_1] (fun n0 v L => v = (.tuple #[]) ∧ L = [Ch.own 0 0 (Sl adata_0 r cdata_0) r, Ch.bx locmp_3_0 bcmp_3_0 ocmp_3_0 [(Sl acmp_3_0 cmp_3_0 ccmp_3_0)] precmp_3_0 sufcmp_3_0, Ch.bx locmp_3_1 bcmp_3_1 ocmp_3_1 [(Sl acmp_3_1 cmp_3_1 ccmp_3_1)] precmp_3_1 sufcmp_3_1] ∧ r.length = data_0.length) := by
 refine cal2 (n := 53) Try.func108 rfl rfl rfl rfl ?_
 intro S0 σ0 n0 hn0 H
 unfold M.slices_insertionSortCmpFunc_int__impl_ProbeOrder_1 at h
 refine c_seq ?_
 refine rg ?_
 refine st (v := (I a_1)) (rv_move rfl) ?_
 refine st (v := (I (w64 (a_1 + 1)))) (rv_add (a := a_1) (b := 1) rfl rfl) ?_
 refine st (v := (I (w64 (a_1 + 1)))) (rv_assign rfl) ?_
 refine w_end ?_
 refine q_then ?_
 obtain ⟨o1, hj, h'⟩ := bind_some h
 clear h
 refine c_cut (fun e a w => e = .normal ∧ ∃ (ρ : Nat → Value) (σ : St), a = fr 53 (updL ρ [(0, (Sl adata_0 o1 cdata_0)), (3, (.func (.func 58) #[] #[(pt bcmp_3_0 ocmp_3_0), (pt bcmp_3_1 ocmp_3_1)]))]) ∧ w = σ.w ∧ Hp S0 σ0 σ [Ch.own 0 0 (Sl adata_0 o1 cdata_0) o1, Ch.ro 0 (Sl acmp_3_0 cmp_3_0 ccmp_3_0) cmp_3_0, Ch.bx locmp_3_0 bcmp_3_0 ocmp_3_0 [(Sl acmp_3_0 cmp_3_0 ccmp_3_0)] precmp_3_0 sufcmp_3_0, Ch.ro 0 (Sl acmp_3_1 cmp_3_1 ccmp_3_1) cmp_3_1, Ch.bx locmp_3_1 bcmp_3_1 ocmp_3_1 [(Sl acmp_3_1 cmp_3_1 ccmp_3_1)] precmp_3_1 sufcmp_3_1] ∧ o1.length = data_0.length) ?_ ?_
 ·clear h'
  rename _ = some o1 => h
  refine c_blk ?_
  refine wp_loopM _ h (fun s2 a w => ∃ (ρ : Nat → Value) (σ : St), a = fr 53 (updL ρ [(0, (Sl adata_0 s2.1 cdata_0)), (1, (I a_1)), (2, (I b_2)), (3, (.func (.func 58) #[] #[(pt bcmp_3_0 ocmp_3_0), (pt bcmp_3_1 ocmp_3_1)])), (8, (I s2.2))]) ∧ w = σ.w ∧ Hp S0 σ0 σ [Ch.own 0 0 (Sl adata_0 s2.1 cdata_0) s2.1, Ch.ro 0 (Sl acmp_3_0 cmp_3_0 ccmp_3_0) cmp_3_0, Ch.bx locmp_3_0 bcmp_3_0 ocmp_3_0 [(Sl acmp_3_0 cmp_3_0 ccmp_3_0)] precmp_3_0 sufcmp_3_0, Ch.ro 0 (Sl acmp_3_1 cmp_3_1 ccmp_3_1) cmp_3_1, Ch.bx locmp_3_1 bcmp_3_1 ocmp_3_1 [(Sl acmp_3_1 cmp_3_1 ccmp_3_1)] precmp_3_1 sufcmp_3_1] ∧ s2.1.length = data_0.length) ⟨_, σ0, fr_join ⟨rfl, rfl, rfl, rfl, rfl, trivial⟩, rfl, H.sel' [0, 2, 1, 4, 3] rfl rfl, rfl⟩ ?_
  clear h H
  rintro s2 a w o ⟨ρ, σ3, rfl, rfl, H, hn4⟩ h hres
  refine c_seq ?_
  refine c_seq ?_
  refine rg ?_
  refine st (v := (I s2.2)) (rv_move rfl) ?_
  refine st (v := (I b_2)) (rv_move rfl) ?_
  refine st (v := (B (decide (s2.2 < b_2)))) (rv_lss (a := s2.2) (b := b_2) rfl rfl) ?_
  refine w_end ?_
  refine q_then ?_
  refine cd_cond (decide (s2.2 < b_2)) rfl (fun hb5 => ?_) (fun hb5 => ?_)
  ·replace h := bif_t hb5 h
   refine c_skip ?_
   refine q_then ?_
   refine c_seq ?_
   refine c_blk ?_
   refine c_seq ?_
   refine rg ?_
   refine st (v := (I s2.2)) (rv_move rfl) ?_
   refine st (v := (I s2.2)) (rv_assign rfl) ?_
   refine w_end ?_
   refine q_then ?_
   obtain ⟨o6, hj, h'⟩ := bind_some h
   clear h
   refine c_cut (fun e a w => e = .normal ∧ ∃ (ρ : Nat → Value) (σ : St), a = fr 53 (updL ρ [(0, (Sl adata_0 o6 cdata_0)), (1, (I a_1)), (2, (I b_2)), (3, (.func (.func 58) #[] #[(pt bcmp_3_0 ocmp_3_0), (pt bcmp_3_1 ocmp_3_1)])), (8, (I s2.2))]) ∧ w = σ.w ∧ Hp S0 σ0 σ [Ch.own 0 0 (Sl adata_0 o6 cdata_0) o6, Ch.ro 0 (Sl acmp_3_0 cmp_3_0 ccmp_3_0) cmp_3_0, Ch.bx locmp_3_0 bcmp_3_0 ocmp_3_0 [(Sl acmp_3_0 cmp_3_0 ccmp_3_0)] precmp_3_0 sufcmp_3_0, Ch.ro 0 (Sl acmp_3_1 cmp_3_1 ccmp_3_1) cmp_3_1, Ch.bx locmp_3_1 bcmp_3_1 ocmp_3_1 [(Sl acmp_3_1 cmp_3_1 ccmp_3_1)] precmp_3_1 sufcmp_3_1] ∧ o6.length = s2.1.length) ?_ ?_
   ·clear h'
    rename _ = some o6 => h
    refine c_blk ?_
    refine wp_loopM _ h (fun s7 a w => ∃ (ρ : Nat → Value) (σ : St), a = fr 53 (updL ρ [(0, (Sl adata_0 s7.1 cdata_0)), (1, (I a_1)), (2, (I b_2)), (3, (.func (.func 58) #[] #[(pt bcmp_3_0 ocmp_3_0), (pt bcmp_3_1 ocmp_3_1)])), (8, (I s2.2)), (9, (I s7.2))]) ∧ w = σ.w ∧ Hp S0 σ0 σ [Ch.own 0 0 (Sl adata_0 s7.1 cdata_0) s7.1, Ch.ro 0 (Sl acmp_3_0 cmp_3_0 ccmp_3_0) cmp_3_0, Ch.bx locmp_3_0 bcmp_3_0 ocmp_3_0 [(Sl acmp_3_0 cmp_3_0 ccmp_3_0)] precmp_3_0 sufcmp_3_0, Ch.ro 0 (Sl acmp_3_1 cmp_3_1 ccmp_3_1) cmp_3_1, Ch.bx locmp_3_1 bcmp_3_1 ocmp_3_1 [(Sl acmp_3_1 cmp_3_1 ccmp_3_1)] precmp_3_1 sufcmp_3_1] ∧ s7.1.length = s2.1.length) ⟨_, σ3, fr_join ⟨rfl, rfl, rfl, rfl, rfl, rfl, trivial⟩, rfl, H.sel' [0, 1, 2, 3, 4] rfl rfl, rfl⟩ ?_
    clear h H
    rintro s7 a w o ⟨ρ, σ8, rfl, rfl, H, hn9⟩ h hres
    refine c_seq ?_
    refine c_seq ?_
    obtain ⟨o10, hj, h'⟩ := bind_some h
    clear h
    refine c_cut (fun e a w => e = .normal ∧ ∃ (ρ : Nat → Value) (σ : St), a = fr 53 (updL ρ [(0, (Sl adata_0 s7.1 cdata_0)), (1, (I a_1)), (2, (I b_2)), (3, (.func (.func 58) #[] #[(pt bcmp_3_0 ocmp_3_0), (pt bcmp_3_1 ocmp_3_1)])), (8, (I s2.2)), (9, (I s7.2)), (34, (B o10))]) ∧ w = σ.w ∧ Hp S0 σ0 σ [Ch.own 0 0 (Sl adata_0 s7.1 cdata_0) s7.1, Ch.ro 0 (Sl acmp_3_0 cmp_3_0 ccmp_3_0) cmp_3_0, Ch.bx locmp_3_0 bcmp_3_0 ocmp_3_0 [(Sl acmp_3_0 cmp_3_0 ccmp_3_0)] precmp_3_0 sufcmp_3_0, Ch.ro 0 (Sl acmp_3_1 cmp_3_1 ccmp_3_1) cmp_3_1, Ch.bx locmp_3_1 bcmp_3_1 ocmp_3_1 [(Sl acmp_3_1 cmp_3_1 ccmp_3_1)] precmp_3_1 sufcmp_3_1]) ?_ ?_
    ·clear h'
     rename _ = some o10 => h
     refine rgP (σ := σ8) 14 (by kernel_rfl) (by kernel_rfl) (by kernel_rfl) ?_
     refine sq (v := (I s7.2)) (rv_move rfl) ?_
     refine sq (v := (I a_1)) (rv_move rfl) ?_
     refine sq (v := (B (decide (a_1 < s7.2)))) (rv_gtr (a := s7.2) (b := a_1) rfl rfl) ?_
     refine sq (v := (B (decide (a_1 < s7.2)))) (rv_move rfl) ?_
     rcases Bool.eq_false_or_eq_true (decide (a_1 < s7.2)) with hb11 | hb11
     ·replace h := bif_t hb11 h
      refine sq_g (v := (.func (.func 58) #[] #[(pt bcmp_3_0 ocmp_3_0), (pt bcmp_3_1 ocmp_3_1)])) (congrArg some hb11) (rv_move rfl) ?_
      refine sq_g (v := (Sl adata_0 s7.1 cdata_0)) (congrArg some hb11) (rv_move rfl) ?_
      refine sq_g (v := (I s7.2)) (congrArg some hb11) (rv_move rfl) ?_
      obtain ⟨x12, hx13, h'⟩ := bind_some h
      clear h
      have h := h'; clear h'
      obtain ⟨b15, o16, hi14, -⟩ := (H.own 0 rfl).ix hx13
      refine sq_g (v := (pt b15 o16)) (congrArg some hb11) (rv_ix Try.underlying29 ti3 rfl rfl hi14) ?_
      have hc17 := ((H.own 0 rfl).at hx13 hi14).int
      refine sq_g (v := (I x12)) (congrArg some hb11) (rv_load1 Try.underlying3 rfl rfl hc17) ?_
      refine sq_g (v := (Sl adata_0 s7.1 cdata_0)) (congrArg some hb11) (rv_move rfl) ?_
      refine sq_g (v := (I s7.2)) (congrArg some hb11) (rv_move rfl) ?_
      refine sq_g (v := (I (w64 (s7.2 - 1)))) (congrArg some hb11) (rv_sub (a := s7.2) (b := 1) rfl rfl) ?_
      obtain ⟨x18, hx19, h'⟩ := bind_some h
      clear h
      have h := h'; clear h'
      obtain ⟨b21, o22, hi20, -⟩ := (H.own 0 rfl).ix hx19
      refine sq_g (v := (pt b21 o22)) (congrArg some hb11) (rv_ix Try.underlying29 ti3 rfl rfl hi20) ?_
      have hc23 := ((H.own 0 rfl).at hx19 hi20).int
      refine sq_g (v := (I x18)) (congrArg some hb11) (rv_load1 Try.underlying3 rfl rfl hc23) ?_
      refine sq_end ?_
      intro σ24 hm25
      replace H := H.grow (hm25.mono fun _ h => h); clear hm25
      obtain ⟨r26, hx27, h'⟩ := bind_some h
      clear h
      have h := h'; clear h'
      have hc28 := c_impl_ProbeOrder_1__p_SSint__p24 (lop_2 := locmp_3_0) (bp_2 := bcmp_3_0) (op_2 := ocmp_3_0) (prep_2 := precmp_3_0) (sufp_2 := sufcmp_3_0) (ap_2 := acmp_3_0) (cp_2 := ccmp_3_0) (lop_3 := locmp_3_1) (bp_3 := bcmp_3_1) (op_3 := ocmp_3_1) (prep_3 := precmp_3_1) (sufp_3 := sufcmp_3_1) (ap_3 := acmp_3_1) (cp_3 := ccmp_3_1) hx27
      refine st_call (cx_call hc28 (ent_v (cap := [(pt bcmp_3_0 ocmp_3_0), (pt bcmp_3_1 ocmp_3_1)]) hc28.fn rfl rfl) hn0 (show Hp S0 σ0 _ ([Ch.bx locmp_3_0 bcmp_3_0 ocmp_3_0 [(Sl acmp_3_0 cmp_3_0 ccmp_3_0)] precmp_3_0 sufcmp_3_0, Ch.ro 0 (Sl acmp_3_0 cmp_3_0 ccmp_3_0) cmp_3_0, Ch.bx locmp_3_1 bcmp_3_1 ocmp_3_1 [(Sl acmp_3_1 cmp_3_1 ccmp_3_1)] precmp_3_1 sufcmp_3_1, Ch.ro 0 (Sl acmp_3_1 cmp_3_1 ccmp_3_1) cmp_3_1] ++ [Ch.own 0 0 (Sl adata_0 s7.1 cdata_0) s7.1, Ch.ro 0 (Sl acmp_3_0 cmp_3_0 ccmp_3_0) cmp_3_0, Ch.ro 0 (Sl acmp_3_1 cmp_3_1 ccmp_3_1) cmp_3_1]) from (H.sel' [2, 1, 4, 3, 0, 1, 3] rfl rfl))) (wanted_yes rfl (by exact (congrArg some hb11))) ?_
      rintro _ σ29 ⟨_, ⟨rfl, rfl⟩, H, -⟩
      replace H : Hp S0 σ0 σ29 [Ch.bx locmp_3_0 bcmp_3_0 ocmp_3_0 [(Sl acmp_3_0 cmp_3_0 ccmp_3_0)] precmp_3_0 sufcmp_3_0, Ch.bx locmp_3_1 bcmp_3_1 ocmp_3_1 [(Sl acmp_3_1 cmp_3_1 ccmp_3_1)] precmp_3_1 sufcmp_3_1, Ch.own 0 0 (Sl adata_0 s7.1 cdata_0) s7.1, Ch.ro 0 (Sl acmp_3_0 cmp_3_0 ccmp_3_0) cmp_3_0, Ch.ro 0 (Sl acmp_3_1 cmp_3_1 ccmp_3_1) cmp_3_1] := H
      refine st_g (v := (B (decide (r26 < 0)))) (congrArg some hb11) (rv_lss (a := r26) (b := 0) rfl rfl) ?_
      refine st (v := (B (decide (r26 < 0)))) (rv_pick_t (congrArg B hb11) rfl) ?_
      refine w_end ?_
      obtain rfl := Option.some.inj h
      exact ⟨rfl, _, σ29, fr_join ⟨rfl, rfl, rfl, rfl, rfl, rfl, rfl, trivial⟩, rfl, H.sel' [2, 3, 0, 4, 1] rfl rfl⟩
     ·replace h := bif_f hb11 h
      refine sq_skip (congrArg some hb11) ?_
      refine sq_skip (congrArg some hb11) ?_
      refine sq_skip (congrArg some hb11) ?_
      refine sq_skip (congrArg some hb11) ?_
      refine sq_skip (congrArg some hb11) ?_
      refine sq_skip (congrArg some hb11) ?_
      refine sq_skip (congrArg some hb11) ?_
      refine sq_skip (congrArg some hb11) ?_
      refine sq_skip (congrArg some hb11) ?_
      refine sq_skip (congrArg some hb11) ?_
      refine sq_end ?_
      intro σ30 hm31
      replace H := H.grow (hm31.mono fun _ h => h); clear hm31
      refine st_skip (congrArg some hb11) ?_
      refine st_skip (congrArg some hb11) ?_
      refine st (v := (B false)) (rv_pick_f (congrArg B hb11) rfl) ?_
      refine w_end ?_
      obtain rfl := Option.some.inj h
      exact ⟨rfl, _, σ30, fr_join ⟨rfl, rfl, rfl, rfl, rfl, rfl, rfl, trivial⟩, rfl, H.sel' [0, 1, 2, 3, 4] rfl rfl⟩
    ·clear hj
     have h := h'
     clear h' H
     rintro e a w ⟨rfl, ρ, σ32, rfl, rfl, H⟩
     refine q_then ?_
     refine cd_cond o10 rfl (fun hb33 => ?_) (fun hb33 => ?_)
     ·replace h := bif_t hb33 h
      refine c_skip ?_
      refine q_then ?_
      refine c_seq ?_
      refine c_blk ?_
      obtain ⟨x34, hx35, h'⟩ := bind_some h
      clear h
      have h := h'; clear h'
      obtain ⟨b37, o38, hi36, -⟩ := (H.own 0 rfl).ix hx35
      have hc39 := ((H.own 0 rfl).at hx35 hi36).int
      obtain ⟨x40, hx41, h'⟩ := bind_some h
      clear h
      have h := h'; clear h'
      obtain ⟨b43, o44, hi42, -⟩ := (H.own 0 rfl).ix hx41
      have hc45 := ((H.own 0 rfl).at hx41 hi42).int
      obtain ⟨x46, hx47, h'⟩ := bind_some h
      clear h
      have h := h'; clear h'
      obtain ⟨b49, o50, hi48, -⟩ := (H.own 0 rfl).ix hx47
      have Hs := H
      refine rg2 (σ := σ32) (Nm := Unit) 16 [15] [[false], [true]] [[(0, 0)], [(0, 0)], [(0, 0), (1, 1)], [(0, 0), (1, 1)], [(0, 0), (1, 1)], [(0, 0)], [(0, 0)], [(0, 0)], [(0, 0)], [(0, 0)], [(0, 0)], [(0, 0)], [(0, 0)], [(0, 0)], [(0, 0)], [(0, 1)]] 1 [fun _ => fun σm => Hp S0 σ0 σm [Ch.own 0 0 (Sl adata_0 s7.1 cdata_0) s7.1, Ch.ro 0 (Sl acmp_3_0 cmp_3_0 ccmp_3_0) cmp_3_0, Ch.bx locmp_3_0 bcmp_3_0 ocmp_3_0 [(Sl acmp_3_0 cmp_3_0 ccmp_3_0)] precmp_3_0 sufcmp_3_0, Ch.ro 0 (Sl acmp_3_1 cmp_3_1 ccmp_3_1) cmp_3_1, Ch.bx locmp_3_1 bcmp_3_1 ocmp_3_1 [(Sl acmp_3_1 cmp_3_1 ccmp_3_1)] precmp_3_1 sufcmp_3_1] ∧ Md (cov []) σ32 σm, fun _ => fun σm => Hp S0 σ0 σm [Ch.own 0 0 (Sl adata_0 s7.1 cdata_0) (s7.1.set s7.2.toNat x34), Ch.ro 0 (Sl acmp_3_0 cmp_3_0 ccmp_3_0) cmp_3_0, Ch.bx locmp_3_0 bcmp_3_0 ocmp_3_0 [(Sl acmp_3_0 cmp_3_0 ccmp_3_0)] precmp_3_0 sufcmp_3_0, Ch.ro 0 (Sl acmp_3_1 cmp_3_1 ccmp_3_1) cmp_3_1, Ch.bx locmp_3_1 bcmp_3_1 ocmp_3_1 [(Sl acmp_3_1 cmp_3_1 ccmp_3_1)] precmp_3_1 sufcmp_3_1] ∧ Md (fun i => (cov []) i ∨ (fun b => blk (Sl adata_0 s7.1 cdata_0) = some b) i) σ32 σm] [fun _ => (Sl adata_0 s7.1 cdata_0), fun _ => (I s7.2), fun _ => (Sl adata_0 s7.1 cdata_0), fun _ => (I s7.2), fun _ => (I (w64 (s7.2 - 1))), fun _ => (Sl adata_0 s7.1 cdata_0), fun _ => (I s7.2), fun _ => (I (w64 (s7.2 - 1))), fun _ => (pt b37 o38), fun _ => (I x34), fun _ => (Sl adata_0 s7.1 cdata_0), fun _ => (I s7.2), fun _ => (pt b43 o44), fun _ => (I x40), fun _ => (pt b49 o50), fun _ => undef] () (by kernel_rfl) (by kernel_rfl) ?_ ?_ ?_
      ·intro σm m0
       exact ⟨H.grow (m0.mono fun _ h => h.elim), m0⟩
      ·refine ac rfl (by
         intro k _nm ρ σm hJ hoff hdep
         have e0 := look_off (N := 53) (hoff 0 rfl) rfl
         exact dp_v (v := (Sl adata_0 s7.1 cdata_0)) wn (rv_move e0) rfl hJ) ?_
       refine ac rfl (by
         intro k _nm ρ σm hJ hoff hdep
         have e9 := look_off (N := 53) (hoff 9 rfl) rfl
         exact dp_v (v := (I s7.2)) wn (rv_move e9) rfl hJ) ?_
       refine ac rfl (by
         intro k _nm ρ σm hJ hoff hdep
         have e0 := look_off (N := 53) (hoff 0 rfl) rfl
         exact dp_v (v := (Sl adata_0 s7.1 cdata_0)) wn (rv_move e0) rfl hJ) ?_
       refine ac rfl (by
         intro k _nm ρ σm hJ hoff hdep
         have e9 := look_off (N := 53) (hoff 9 rfl) rfl
         exact dp_v (v := (I s7.2)) wn (rv_move e9) rfl hJ) ?_
       refine ac rfl (by
         intro k _nm ρ σm hJ hoff hdep
         have e40 := hdep 3 rfl rfl 40 rfl
         exact dp_v (v := (I (w64 (s7.2 - 1)))) wn (rv_sub (a := s7.2) (b := 1) e40 rfl) rfl hJ) ?_
       refine ac rfl (by
         intro k _nm ρ σm hJ hoff hdep
         have e0 := look_off (N := 53) (hoff 0 rfl) rfl
         exact dp_v (v := (Sl adata_0 s7.1 cdata_0)) wn (rv_move e0) rfl hJ) ?_
       refine ac rfl (by
         intro k _nm ρ σm hJ hoff hdep
         have e9 := look_off (N := 53) (hoff 9 rfl) rfl
         exact dp_v (v := (I s7.2)) wn (rv_move e9) rfl hJ) ?_
       refine ac rfl (by
         intro k _nm ρ σm hJ hoff hdep
         have e43 := hdep 6 rfl rfl 43 rfl
         exact dp_v (v := (I (w64 (s7.2 - 1)))) wn (rv_sub (a := s7.2) (b := 1) e43 rfl) rfl hJ) ?_
       refine ac rfl (by
         intro k _nm ρ σm hJ hoff hdep
         have e42 := hdep 5 rfl rfl 42 rfl
         have e44 := hdep 7 rfl rfl 44 rfl
         exact dp_v (v := (pt b37 o38)) wn (rv_ix Try.underlying29 ti3 e42 e44 hi36) rfl hJ) ?_
       refine all_cons (by
         refine ⟨?_, ?_⟩
         ·intro _nm ρ σm hJ hoff hdep
          have e45 := hdep 8 rfl rfl 45 rfl
          obtain ⟨H, m⟩ := id hJ
          have hc39 := ((H.own 0 rfl).at hx35 hi36).int
          exact dp_v (v := (I x34)) wn (rv_load1 Try.underlying3 rfl e45 hc39) rfl hJ
         trivial) ?_
       refine ac rfl (by
         intro k _nm ρ σm hJ hoff hdep
         have e0 := look_off (N := 53) (hoff 0 rfl) rfl
         exact dp_v (v := (Sl adata_0 s7.1 cdata_0)) wn (rv_move e0) rfl hJ) ?_
       refine ac rfl (by
         intro k _nm ρ σm hJ hoff hdep
         have e9 := look_off (N := 53) (hoff 9 rfl) rfl
         exact dp_v (v := (I s7.2)) wn (rv_move e9) rfl hJ) ?_
       refine ac rfl (by
         intro k _nm ρ σm hJ hoff hdep
         have e47 := hdep 10 rfl rfl 47 rfl
         have e48 := hdep 11 rfl rfl 48 rfl
         exact dp_v (v := (pt b43 o44)) wn (rv_ix Try.underlying29 ti3 e47 e48 hi42) rfl hJ) ?_
       refine all_cons (by
         refine ⟨?_, ?_⟩
         ·intro _nm ρ σm hJ hoff hdep
          have e49 := hdep 12 rfl rfl 49 rfl
          obtain ⟨H, m⟩ := id hJ
          have hc45 := ((H.own 0 rfl).at hx41 hi42).int
          exact dp_v (v := (I x40)) wn (rv_load1 Try.underlying3 rfl e49 hc45) rfl hJ
         trivial) ?_
       refine ac rfl (by
         intro k _nm ρ σm hJ hoff hdep
         have e37 := hdep 0 rfl rfl 37 rfl
         have e38 := hdep 1 rfl rfl 38 rfl
         exact dp_v (v := (pt b49 o50)) wn (rv_ix Try.underlying29 ti3 e37 e38 hi48) rfl hJ) ?_
       refine all_cons (by
         refine ⟨?_, ?_⟩
         ·intro _nm ρ σm hJ hoff hdep
          have e51 := hdep 14 rfl rfl 51 rfl
          have e46 := hdep 9 rfl rfl 46 rfl
          obtain ⟨H, m⟩ := id hJ
          refine dp_exS wn rfl (ex_store_own (e' := x34) (vs := [(I x34)]) (k := 0) H (i := 0) rfl ti3 hx47 hi48 e51 rfl e46 rfl rfl (Nat.le_of_ble_eq_true rfl) (by simp [plain]) (by rintro _ rfl; exact rfl)) ?_
          rintro σq ⟨H2, m2⟩
          exact ⟨_, (), rfl, ⟨H2.sel' [0, 1, 2, 3, 4] rfl rfl, m.comp m2⟩, stab [0, 1, 2, 3, 4, 5, 6, 7, 8, 9, 10, 11, 12, 13, 14] (by kernel_rfl) ⟨rfl, rfl, rfl, rfl, rfl, rfl, rfl, rfl, rfl, rfl, rfl, rfl, rfl, rfl, rfl, trivial⟩⟩
         trivial) ?_
       exact all_nil
      ·intro _nm ρ σ51 hJ hoff hrel
       have e0 := look_off (N := 53) (hoff 0 rfl) rfl
       have e1 := look_off (N := 53) (hoff 1 rfl) rfl
       have e2 := look_off (N := 53) (hoff 2 rfl) rfl
       have e3 := look_off (N := 53) (hoff 3 rfl) rfl
       have e8 := look_off (N := 53) (hoff 8 rfl) rfl
       have e9 := look_off (N := 53) (hoff 9 rfl) rfl
       have e39 := hrel 2 rfl 39 rfl
       have e41 := hrel 4 rfl 41 rfl
       have e50 := hrel 13 rfl 50 rfl
       obtain ⟨H, -⟩ := (show Hp S0 σ0 σ51 [Ch.own 0 0 (Sl adata_0 s7.1 cdata_0) (s7.1.set s7.2.toNat x34), Ch.ro 0 (Sl acmp_3_0 cmp_3_0 ccmp_3_0) cmp_3_0, Ch.bx locmp_3_0 bcmp_3_0 ocmp_3_0 [(Sl acmp_3_0 cmp_3_0 ccmp_3_0)] precmp_3_0 sufcmp_3_0, Ch.ro 0 (Sl acmp_3_1 cmp_3_1 ccmp_3_1) cmp_3_1, Ch.bx locmp_3_1 bcmp_3_1 ocmp_3_1 [(Sl acmp_3_1 cmp_3_1 ccmp_3_1)] precmp_3_1 sufcmp_3_1] ∧ Md (fun i => (cov []) i ∨ (fun b => blk (Sl adata_0 s7.1 cdata_0) = some b) i) σ32 σ51 from hJ)
       clear hJ Hs
       rw [fr_lookL (L := [(0, (Sl adata_0 s7.1 cdata_0)), (1, (I a_1)), (2, (I b_2)), (3, (.func (.func 58) #[] #[(pt bcmp_3_0 ocmp_3_0), (pt bcmp_3_1 ocmp_3_1)])), (8, (I s2.2)), (9, (I s7.2)), (39, (Sl adata_0 s7.1 cdata_0)), (41, (I (w64 (s7.2 - 1)))), (50, (I x40))]) ⟨e0, e1, e2, e3, e8, e9, e39, e41, e50, trivial⟩]
       clear hoff hrel e0 e1 e2 e3 e8 e9 e39 e41 e50
       have hsl : (Sl adata_0 s7.1 cdata_0) = (Sl adata_0 (s7.1.set s7.2.toNat x34) cdata_0) := sl_len (by simp)
       rw [hsl]; rw [hsl] at H; clear hsl
       obtain ⟨x52, hx53, h'⟩ := bind_some h
       clear h
       have h := h'; clear h'
       obtain ⟨b55, o56, hi54, -⟩ := (H.own 0 rfl).ix hx53
       refine st (v := (pt b55 o56)) (rv_ix Try.underlying29 ti3 rfl rfl hi54) ?_
       refine st_exS (ex_store_own (e' := x40) (vs := [(I x40)]) (k := 0) H (i := 0) rfl ti3 hx53 hi54 rfl rfl rfl rfl rfl (Nat.le_of_ble_eq_true rfl) (by simp [plain]) (by rintro _ rfl; exact rfl)) wn ?_
       rintro σ57 ⟨H, -⟩
       have hsl : (Sl adata_0 (s7.1.set s7.2.toNat x34) cdata_0) = (Sl adata_0 ((s7.1.set s7.2.toNat x34).set (w64 (s7.2 - 1)).toNat x40) cdata_0) := sl_len List.length_set.symm
       rw [hsl]; rw [hsl] at H; clear hsl
       refine w_end ?_
       refine q_blk ?_
       refine q_then ?_
       refine rg ?_
       refine st (v := (I s7.2)) (rv_move rfl) ?_
       refine st (v := (I (w64 (s7.2 - 1)))) (rv_sub (a := s7.2) (b := 1) rfl rfl) ?_
       refine st (v := (I (w64 (s7.2 - 1)))) (rv_assign rfl) ?_
       refine w_end ?_
       refine q_then ?_
       obtain rfl := Option.some.inj h
       exact ⟨_, rfl, _, σ57, fr_join ⟨rfl, rfl, rfl, rfl, rfl, rfl, trivial⟩, rfl, H.sel' [0, 1, 2, 3, 4] rfl rfl, ((List.length_set.trans (List.length_set.trans (hn9.trans hn4))).trans hn4.symm)⟩
     ·replace h := bif_f hb33 h
      refine c_exit ?_
      refine q_then_x ?_
      refine q_then_x ?_
      refine q_blk_hit ?_
      obtain rfl := Option.some.inj h
      obtain rfl := hres _ rfl
      exact ⟨rfl, _, σ32, fr_join ⟨rfl, rfl, rfl, rfl, rfl, trivial⟩, rfl, H.sel' [0, 1, 2, 3, 4] rfl rfl, ((hn9.trans hn4).trans hn4.symm)⟩
   ·clear hj
    have h := h'
    clear h' H
    rintro e a w ⟨rfl, ρ, σ58, rfl, rfl, H, hn59⟩
    refine q_blk ?_
    refine q_then ?_
    refine rg ?_
    refine st (v := (I s2.2)) (rv_move rfl) ?_
    refine st (v := (I (w64 (s2.2 + 1)))) (rv_add (a := s2.2) (b := 1) rfl rfl) ?_
    refine st (v := (I (w64 (s2.2 + 1)))) (rv_assign rfl) ?_
    refine w_end ?_
    refine q_then ?_
    obtain rfl := Option.some.inj h
    exact ⟨_, rfl, _, σ58, fr_join ⟨rfl, rfl, rfl, rfl, rfl, trivial⟩, rfl, H.sel' [0, 1, 2, 3, 4] rfl rfl, (hn59.trans hn4)⟩
  ·replace h := bif_f hb5 h
   refine c_exit ?_
   refine q_then_x ?_
   refine q_then_x ?_
   refine q_blk_hit ?_
   obtain rfl := Option.some.inj h
   obtain rfl := hres _ rfl
   exact ⟨rfl, _, σ3, fr_join ⟨rfl, rfl, trivial⟩, rfl, H.sel' [0, 1, 2, 3, 4] rfl rfl, hn4⟩
 ·clear hj
  have h := h'
  clear h' H
  rintro e a w ⟨rfl, ρ, σ60, rfl, rfl, H, hn61⟩
  obtain rfl := Option.some.inj h
  exact fin_end (v := (.tuple #[])) (results_ok Try.results108 res_nil rfl) ⟨rfl, rfl, hn61⟩ (H.sel' [0, 2, 4] rfl rfl)

theorem c_slices_swapRangeCmpFunc_int__impl_ProbeOrder_1 {data_0 : List Int} {a_1 : Int} {b_2 : Int} {n_3 : Int} {cmp_4_0 : List (List Int)} {cmp_4_1 : List Int} {adata_0 : Option Addr} {cdata_0 : Nat} {acmp_4_0 : Option Addr} {ccmp_4_0 : Nat} {locmp_4_0 bcmp_4_0 ocmp_4_0 : Nat} {precmp_4_0 sufcmp_4_0 : List Value} {acmp_4_1 : Option Addr} {ccmp_4_1 : Nat} {locmp_4_1 bcmp_4_1 ocmp_4_1 : Nat} {precmp_4_1 sufcmp_4_1 : List Value} {r : (List Int)} (h : M.slices_swapRangeCmpFunc_int__impl_ProbeOrder_1 data_0 a_1 b_2 n_3 cmp_4_0 cmp_4_1 = some r) :
    Cal2 Try.prog 126 [(Sl adata_0 data_0 cdata_0), (I a_1), (I b_2), (I n_3), (.func (.func 58) #[] #[(pt bcmp_4_0 ocmp_4_0), (pt bcmp_4_1 ocmp_4_1)])] [Ch.own 0 0 (Sl adata_0 data_0 cdata_0) data_0, Ch.bx locmp_4_0 bcmp_4_0 ocmp_4_0 [(Sl acmp_4_0 cmp_4_0 ccmp_4_0)] precmp_4_0 sufcmp_4_0, Ch.ro 0 (Sl acmp_4_0 cmp_4_0 ccmp_4_0) cmp_4_0, Ch.bx locmp_4_1 bcmp_4_1 ocmp_4_1 [(Sl acmp_4_1 cmp_4_1 ccmp_4_1)] precmp_4_1 sufcmp_4_1, Ch.ro 0 (Sl acmp_4_1 cmp_4_1 ccmp_4_1) cmp_4_1] (fun n0 v L => v = (.tuple #[]) ∧ L = [Ch.own 0 0 (Sl adata_0 r cdata_0) r, Ch.bx locmp_4_0 bcmp_4_0 ocmp_4_0 [(Sl acmp_4_0 cmp_4_0 ccmp_4_0)] precmp_4_0 sufcmp_4_0, Ch.bx locmp_4_1 bcmp_4_1 ocmp_4_1 [(Sl acmp_4_1 cmp_4_1 ccmp_4_1)] precmp_4_1 sufcmp_4_1] ∧ r.length = data_0.length) := by
 refine cal2 (n := 38) Try.func126 rfl rfl rfl rfl ?_
 intro S0 σ0 n0 hn0 H
 unfold M.slices_swapRangeCmpFunc_int__impl_ProbeOrder_1 at h
 refine c_seq ?_
 refine rg ?_
 refine st (v := (I 0)) (rv_assign rfl) ?_
 refine w_end ?_
 refine q_then ?_
 obtain ⟨o1, hj, h'⟩ := bind_some h
 clear h
 refine c_cut (fun e a w => e = .normal ∧ ∃ (ρ : Nat → Value) (σ : St), a = fr 38 (updL ρ [(0, (Sl adata_0 o1 cdata_0)), (4, (.func (.func 58) #[] #[(pt bcmp_4_0 ocmp_4_0), (pt bcmp_4_1 ocmp_4_1)]))]) ∧ w = σ.w ∧ Hp S0 σ0 σ [Ch.own 0 0 (Sl adata_0 o1 cdata_0) o1, Ch.ro 0 (Sl acmp_4_0 cmp_4_0 ccmp_4_0) cmp_4_0, Ch.bx locmp_4_0 bcmp_4_0 ocmp_4_0 [(Sl acmp_4_0 cmp_4_0 ccmp_4_0)] precmp_4_0 sufcmp_4_0, Ch.ro 0 (Sl acmp_4_1 cmp_4_1 ccmp_4_1) cmp_4_1, Ch.bx locmp_4_1 bcmp_4_1 ocmp_4_1 [(Sl acmp_4_1 cmp_4_1 ccmp_4_1)] precmp_4_1 sufcmp_4_1] ∧ o1.length = data_0.length) ?_ ?_
 ·clear h'
  rename _ = some o1 => h
  refine c_blk ?_
  refine wp_loopM _ h (fun s2 a w => ∃ (ρ : Nat → Value) (σ : St), a = fr 38 (updL ρ [(0, (Sl adata_0 s2.1 cdata_0)), (1, (I a_1)), (2, (I b_2)), (3, (I n_3)), (4, (.func (.func 58) #[] #[(pt bcmp_4_0 ocmp_4_0), (pt bcmp_4_1 ocmp_4_1)])), (10, (I s2.2))]) ∧ w = σ.w ∧ Hp S0 σ0 σ [Ch.own 0 0 (Sl adata_0 s2.1 cdata_0) s2.1, Ch.ro 0 (Sl acmp_4_0 cmp_4_0 ccmp_4_0) cmp_4_0, Ch.bx locmp_4_0 bcmp_4_0 ocmp_4_0 [(Sl acmp_4_0 cmp_4_0 ccmp_4_0)] precmp_4_0 sufcmp_4_0, Ch.ro 0 (Sl acmp_4_1 cmp_4_1 ccmp_4_1) cmp_4_1, Ch.bx locmp_4_1 bcmp_4_1 ocmp_4_1 [(Sl acmp_4_1 cmp_4_1 ccmp_4_1)] precmp_4_1 sufcmp_4_1] ∧ s2.1.length = data_0.length) ⟨_, σ0, fr_join ⟨rfl, rfl, rfl, rfl, rfl, rfl, trivial⟩, rfl, H.sel' [0, 2, 1, 4, 3] rfl rfl, rfl⟩ ?_
  clear h H
  rintro s2 a w o ⟨ρ, σ3, rfl, rfl, H, hn4⟩ h hres
  refine c_seq ?_
  refine c_seq ?_
  refine rg ?_
  refine st (v := (I s2.2)) (rv_move rfl) ?_
  refine st (v := (I n_3)) (rv_move rfl) ?_
  refine st (v := (B (decide (s2.2 < n_3)))) (rv_lss (a := s2.2) (b := n_3) rfl rfl) ?_
  refine w_end ?_
  refine q_then ?_
  refine cd_cond (decide (s2.2 < n_3)) rfl (fun hb5 => ?_) (fun hb5 => ?_)
  ·replace h := bif_t hb5 h
   refine c_skip ?_
   refine q_then ?_
   refine c_seq ?_
   refine c_blk ?_
   obtain ⟨x6, hx7, h'⟩ := bind_some h
   clear h
   have h := h'; clear h'
   obtain ⟨b9, o10, hi8, -⟩ := (H.own 0 rfl).ix hx7
   have hc11 := ((H.own 0 rfl).at hx7 hi8).int
   obtain ⟨x12, hx13, h'⟩ := bind_some h
   clear h
   have h := h'; clear h'
   obtain ⟨b15, o16, hi14, -⟩ := (H.own 0 rfl).ix hx13
   have hc17 := ((H.own 0 rfl).at hx13 hi14).int
   obtain ⟨x18, hx19, h'⟩ := bind_some h
   clear h
   have h := h'; clear h'
   obtain ⟨b21, o22, hi20, -⟩ := (H.own 0 rfl).ix hx19
   have Hs := H
   refine rg2 (σ := σ3) (Nm := Unit) 22 [21] [[false], [true]] [[(0, 0)], [(0, 0)], [(0, 0)], [(0, 0)], [(0, 0), (1, 1)], [(0, 0), (1, 1)], [(0, 0), (1, 1)], [(0, 0), (1, 1)], [(0, 0)], [(0, 0)], [(0, 0)], [(0, 0)], [(0, 0)], [(0, 0)], [(0, 0)], [(0, 0)], [(0, 0)], [(0, 0)], [(0, 0)], [(0, 0)], [(0, 0)], [(0, 1)]] 1 [fun _ => fun σm => Hp S0 σ0 σm [Ch.own 0 0 (Sl adata_0 s2.1 cdata_0) s2.1, Ch.ro 0 (Sl acmp_4_0 cmp_4_0 ccmp_4_0) cmp_4_0, Ch.bx locmp_4_0 bcmp_4_0 ocmp_4_0 [(Sl acmp_4_0 cmp_4_0 ccmp_4_0)] precmp_4_0 sufcmp_4_0, Ch.ro 0 (Sl acmp_4_1 cmp_4_1 ccmp_4_1) cmp_4_1, Ch.bx locmp_4_1 bcmp_4_1 ocmp_4_1 [(Sl acmp_4_1 cmp_4_1 ccmp_4_1)] precmp_4_1 sufcmp_4_1] ∧ Md (cov []) σ3 σm, fun _ => fun σm => Hp S0 σ0 σm [Ch.own 0 0 (Sl adata_0 s2.1 cdata_0) (s2.1.set (w64 (a_1 + s2.2)).toNat x6), Ch.ro 0 (Sl acmp_4_0 cmp_4_0 ccmp_4_0) cmp_4_0, Ch.bx locmp_4_0 bcmp_4_0 ocmp_4_0 [(Sl acmp_4_0 cmp_4_0 ccmp_4_0)] precmp_4_0 sufcmp_4_0, Ch.ro 0 (Sl acmp_4_1 cmp_4_1 ccmp_4_1) cmp_4_1, Ch.bx locmp_4_1 bcmp_4_1 ocmp_4_1 [(Sl acmp_4_1 cmp_4_1 ccmp_4_1)] precmp_4_1 sufcmp_4_1] ∧ Md (fun i => (cov []) i ∨ (fun b => blk (Sl adata_0 s2.1 cdata_0) = some b) i) σ3 σm] [fun _ => (Sl adata_0 s2.1 cdata_0), fun _ => (I a_1), fun _ => (I s2.2), fun _ => (I (w64 (a_1 + s2.2))), fun _ => (Sl adata_0 s2.1 cdata_0), fun _ => (I b_2), fun _ => (I s2.2), fun _ => (I (w64 (b_2 + s2.2))), fun _ => (Sl adata_0 s2.1 cdata_0), fun _ => (I b_2), fun _ => (I s2.2), fun _ => (I (w64 (b_2 + s2.2))), fun _ => (pt b9 o10), fun _ => (I x6), fun _ => (Sl adata_0 s2.1 cdata_0), fun _ => (I a_1), fun _ => (I s2.2), fun _ => (I (w64 (a_1 + s2.2))), fun _ => (pt b15 o16), fun _ => (I x12), fun _ => (pt b21 o22), fun _ => undef] () (by kernel_rfl) (by kernel_rfl) ?_ ?_ ?_
   ·intro σm m0
    exact ⟨H.grow (m0.mono fun _ h => h.elim), m0⟩
   ·refine ac rfl (by
      intro k _nm ρ σm hJ hoff hdep
      have e0 := look_off (N := 38) (hoff 0 rfl) rfl
      exact dp_v (v := (Sl adata_0 s2.1 cdata_0)) wn (rv_move e0) rfl hJ) ?_
    refine ac rfl (by
      intro k _nm ρ σm hJ hoff hdep
      have e1 := look_off (N := 38) (hoff 1 rfl) rfl
      exact dp_v (v := (I a_1)) wn (rv_move e1) rfl hJ) ?_
    refine ac rfl (by
      intro k _nm ρ σm hJ hoff hdep
      have e10 := look_off (N := 38) (hoff 10 rfl) rfl
      exact dp_v (v := (I s2.2)) wn (rv_move e10) rfl hJ) ?_
    refine ac rfl (by
      intro k _nm ρ σm hJ hoff hdep
      have e17 := hdep 1 rfl rfl 17 rfl
      have e18 := hdep 2 rfl rfl 18 rfl
      exact dp_v (v := (I (w64 (a_1 + s2.2)))) wn (rv_add (a := a_1) (b := s2.2) e17 e18) rfl hJ) ?_
    refine ac rfl (by
      intro k _nm ρ σm hJ hoff hdep
      have e0 := look_off (N := 38) (hoff 0 rfl) rfl
      exact dp_v (v := (Sl adata_0 s2.1 cdata_0)) wn (rv_move e0) rfl hJ) ?_
    refine ac rfl (by
      intro k _nm ρ σm hJ hoff hdep
      have e2 := look_off (N := 38) (hoff 2 rfl) rfl
      exact dp_v (v := (I b_2)) wn (rv_move e2) rfl hJ) ?_
    refine ac rfl (by
      intro k _nm ρ σm hJ hoff hdep
      have e10 := look_off (N := 38) (hoff 10 rfl) rfl
      exact dp_v (v := (I s2.2)) wn (rv_move e10) rfl hJ) ?_
    refine ac rfl (by
      intro k _nm ρ σm hJ hoff hdep
      have e21 := hdep 5 rfl rfl 21 rfl
      have e22 := hdep 6 rfl rfl 22 rfl
      exact dp_v (v := (I (w64 (b_2 + s2.2)))) wn (rv_add (a := b_2) (b := s2.2) e21 e22) rfl hJ) ?_
    refine ac rfl (by
      intro k _nm ρ σm hJ hoff hdep
      have e0 := look_off (N := 38) (hoff 0 rfl) rfl
      exact dp_v (v := (Sl adata_0 s2.1 cdata_0)) wn (rv_move e0) rfl hJ) ?_
    refine ac rfl (by
      intro k _nm ρ σm hJ hoff hdep
      have e2 := look_off (N := 38) (hoff 2 rfl) rfl
      exact dp_v (v := (I b_2)) wn (rv_move e2) rfl hJ) ?_
    refine ac rfl (by
      intro k _nm ρ σm hJ hoff hdep
      have e10 := look_off (N := 38) (hoff 10 rfl) rfl
      exact dp_v (v := (I s2.2)) wn (rv_move e10) rfl hJ) ?_
    refine ac rfl (by
      intro k _nm ρ σm hJ hoff hdep
      have e25 := hdep 9 rfl rfl 25 rfl
      have e26 := hdep 10 rfl rfl 26 rfl
      exact dp_v (v := (I (w64 (b_2 + s2.2)))) wn (rv_add (a := b_2) (b := s2.2) e25 e26) rfl hJ) ?_
    refine ac rfl (by
      intro k _nm ρ σm hJ hoff hdep
      have e24 := hdep 8 rfl rfl 24 rfl
      have e27 := hdep 11 rfl rfl 27 rfl
      exact dp_v (v := (pt b9 o10)) wn (rv_ix Try.underlying29 ti3 e24 e27 hi8) rfl hJ) ?_
    refine all_cons (by
      refine ⟨?_, ?_⟩
      ·intro _nm ρ σm hJ hoff hdep
       have e28 := hdep 12 rfl rfl 28 rfl
       obtain ⟨H, m⟩ := id hJ
       have hc11 := ((H.own 0 rfl).at hx7 hi8).int
       exact dp_v (v := (I x6)) wn (rv_load1 Try.underlying3 rfl e28 hc11) rfl hJ
      trivial) ?_
    refine ac rfl (by
      intro k _nm ρ σm hJ hoff hdep
      have e0 := look_off (N := 38) (hoff 0 rfl) rfl
      exact dp_v (v := (Sl adata_0 s2.1 cdata_0)) wn (rv_move e0) rfl hJ) ?_
    refine ac rfl (by
      intro k _nm ρ σm hJ hoff hdep
      have e1 := look_off (N := 38) (hoff 1 rfl) rfl
      exact dp_v (v := (I a_1)) wn (rv_move e1) rfl hJ) ?_
    refine ac rfl (by
      intro k _nm ρ σm hJ hoff hdep
      have e10 := look_off (N := 38) (hoff 10 rfl) rfl
      exact dp_v (v := (I s2.2)) wn (rv_move e10) rfl hJ) ?_
    refine ac rfl (by
      intro k _nm ρ σm hJ hoff hdep
      have e31 := hdep 15 rfl rfl 31 rfl
      have e32 := hdep 16 rfl rfl 32 rfl
      exact dp_v (v := (I (w64 (a_1 + s2.2)))) wn (rv_add (a := a_1) (b := s2.2) e31 e32) rfl hJ) ?_
    refine ac rfl (by
      intro k _nm ρ σm hJ hoff hdep
      have e30 := hdep 14 rfl rfl 30 rfl
      have e33 := hdep 17 rfl rfl 33 rfl
      exact dp_v (v := (pt b15 o16)) wn (rv_ix Try.underlying29 ti3 e30 e33 hi14) rfl hJ) ?_
    refine all_cons (by
      refine ⟨?_, ?_⟩
      ·intro _nm ρ σm hJ hoff hdep
       have e34 := hdep 18 rfl rfl 34 rfl
       obtain ⟨H, m⟩ := id hJ
       have hc17 := ((H.own 0 rfl).at hx13 hi14).int
       exact dp_v (v := (I x12)) wn (rv_load1 Try.underlying3 rfl e34 hc17) rfl hJ
      trivial) ?_
    refine ac rfl (by
      intro k _nm ρ σm hJ hoff hdep
      have e16 := hdep 0 rfl rfl 16 rfl
      have e19 := hdep 3 rfl rfl 19 rfl
      exact dp_v (v := (pt b21 o22)) wn (rv_ix Try.underlying29 ti3 e16 e19 hi20) rfl hJ) ?_
    refine all_cons (by
      refine ⟨?_, ?_⟩
      ·intro _nm ρ σm hJ hoff hdep
       have e36 := hdep 20 rfl rfl 36 rfl
       have e29 := hdep 13 rfl rfl 29 rfl
       obtain ⟨H, m⟩ := id hJ
       refine dp_exS wn rfl (ex_store_own (e' := x6) (vs := [(I x6)]) (k := 0) H (i := 0) rfl ti3 hx19 hi20 e36 rfl e29 rfl rfl (Nat.le_of_ble_eq_true rfl) (by simp [plain]) (by rintro _ rfl; exact rfl)) ?_
       rintro σq ⟨H2, m2⟩
       exact ⟨_, (), rfl, ⟨H2.sel' [0, 1, 2, 3, 4] rfl rfl, m.comp m2⟩, stab [0, 1, 2, 3, 4, 5, 6, 7, 8, 9, 10, 11, 12, 13, 14, 15, 16, 17, 18, 19, 20] (by kernel_rfl) ⟨rfl, rfl, rfl, rfl, rfl, rfl, rfl, rfl, rfl, rfl, rfl, rfl, rfl, rfl, rfl, rfl, rfl, rfl, rfl, rfl, rfl, trivial⟩⟩
      trivial) ?_
    exact all_nil
   ·intro _nm ρ σ23 hJ hoff hrel
    have e0 := look_off (N := 38) (hoff 0 rfl) rfl
    have e1 := look_off (N := 38) (hoff 1 rfl) rfl
    have e2 := look_off (N := 38) (hoff 2 rfl) rfl
    have e3 := look_off (N := 38) (hoff 3 rfl) rfl
    have e4 := look_off (N := 38) (hoff 4 rfl) rfl
    have e10 := look_off (N := 38) (hoff 10 rfl) rfl
    have e20 := hrel 4 rfl 20 rfl
    have e23 := hrel 7 rfl 23 rfl
    have e35 := hrel 19 rfl 35 rfl
    obtain ⟨H, -⟩ := (show Hp S0 σ0 σ23 [Ch.own 0 0 (Sl adata_0 s2.1 cdata_0) (s2.1.set (w64 (a_1 + s2.2)).toNat x6), Ch.ro 0 (Sl acmp_4_0 cmp_4_0 ccmp_4_0) cmp_4_0, Ch.bx locmp_4_0 bcmp_4_0 ocmp_4_0 [(Sl acmp_4_0 cmp_4_0 ccmp_4_0)] precmp_4_0 sufcmp_4_0, Ch.ro 0 (Sl acmp_4_1 cmp_4_1 ccmp_4_1) cmp_4_1, Ch.bx locmp_4_1 bcmp_4_1 ocmp_4_1 [(Sl acmp_4_1 cmp_4_1 ccmp_4_1)] precmp_4_1 sufcmp_4_1] ∧ Md (fun i => (cov []) i ∨ (fun b => blk (Sl adata_0 s2.1 cdata_0) = some b) i) σ3 σ23 from hJ)
    clear hJ Hs
    rw [fr_lookL (L := [(0, (Sl adata_0 s2.1 cdata_0)), (1, (I a_1)), (2, (I b_2)), (3, (I n_3)), (4, (.func (.func 58) #[] #[(pt bcmp_4_0 ocmp_4_0), (pt bcmp_4_1 ocmp_4_1)])), (10, (I s2.2)), (20, (Sl adata_0 s2.1 cdata_0)), (23, (I (w64 (b_2 + s2.2)))), (35, (I x12))]) ⟨e0, e1, e2, e3, e4, e10, e20, e23, e35, trivial⟩]
    clear hoff hrel e0 e1 e2 e3 e4 e10 e20 e23 e35
    have hsl : (Sl adata_0 s2.1 cdata_0) = (Sl adata_0 (s2.1.set (w64 (a_1 + s2.2)).toNat x6) cdata_0) := sl_len (by simp)
    rw [hsl]; rw [hsl] at H; clear hsl
    obtain ⟨x24, hx25, h'⟩ := bind_some h
    clear h
    have h := h'; clear h'
    obtain ⟨b27, o28, hi26, -⟩ := (H.own 0 rfl).ix hx25
    refine st (v := (pt b27 o28)) (rv_ix Try.underlying29 ti3 rfl rfl hi26) ?_
    refine st_exS (ex_store_own (e' := x12) (vs := [(I x12)]) (k := 0) H (i := 0) rfl ti3 hx25 hi26 rfl rfl rfl rfl rfl (Nat.le_of_ble_eq_true rfl) (by simp [plain]) (by rintro _ rfl; exact rfl)) wn ?_
    rintro σ29 ⟨H, -⟩
    have hsl : (Sl adata_0 (s2.1.set (w64 (a_1 + s2.2)).toNat x6) cdata_0) = (Sl adata_0 ((s2.1.set (w64 (a_1 + s2.2)).toNat x6).set (w64 (b_2 + s2.2)).toNat x12) cdata_0) := sl_len List.length_set.symm
    rw [hsl]; rw [hsl] at H; clear hsl
    refine w_end ?_
    refine q_blk ?_
    refine q_then ?_
    refine rg ?_
    refine st (v := (I s2.2)) (rv_move rfl) ?_
    refine st (v := (I (w64 (s2.2 + 1)))) (rv_add (a := s2.2) (b := 1) rfl rfl) ?_
    refine st (v := (I (w64 (s2.2 + 1)))) (rv_assign rfl) ?_
    refine w_end ?_
    refine q_then ?_
    obtain rfl := Option.some.inj h
    exact ⟨_, rfl, _, σ29, fr_join ⟨rfl, rfl, rfl, rfl, rfl, rfl, trivial⟩, rfl, H.sel' [0, 1, 2, 3, 4] rfl rfl, (List.length_set.trans (List.length_set.trans hn4))⟩
  ·replace h := bif_f hb5 h
   refine c_exit ?_
   refine q_then_x ?_
   refine q_then_x ?_
   refine q_blk_hit ?_
   obtain rfl := Option.some.inj h
   obtain rfl := hres _ rfl
   exact ⟨rfl, _, σ3, fr_join ⟨rfl, rfl, trivial⟩, rfl, H.sel' [0, 1, 2, 3, 4] rfl rfl, hn4⟩
 ·clear hj
  have h := h'
  clear h' H
  rintro e a w ⟨rfl, ρ, σ30, rfl, rfl, H, hn31⟩
  obtain rfl := Option.some.inj h
  exact fin_end (v := (.tuple #[])) (results_ok Try.results126 res_nil rfl) ⟨rfl, rfl, hn31⟩ (H.sel' [0, 2, 4] rfl rfl)

theorem c_slices_rotateCmpFunc_int__impl_ProbeOrder_1 {data_0 : List Int} {a_1 : Int} {m_2 : Int} {b_3 : Int} {cmp_4_0 : List (List Int)} {cmp_4_1 : List Int} {adata_0 : Option Addr} {cdata_0 : Nat} {acmp_4_0 : Option Addr} {ccmp_4_0 : Nat} {locmp_4_0 bcmp_4_0 ocmp_4_0 : Nat} {precmp_4_0 sufcmp_4_0 : List Value} {acmp_4_1 : Option Addr} {ccmp_4_1 : Nat} {locmp_4_1 bcmp_4_1 ocmp_4_1 : Nat} {precmp_4_1 sufcmp_4_1 : List Value} {r : (List Int)} (h : M.slices_rotateCmpFunc_int__impl_ProbeOrder_1 data_0 a_1 m_2 b_3 cmp_4_0 cmp_4_1 = some r) :
    Cal2 Try.prog 119 [(Sl adata_0 data_0 cdata_0), (I a_1), (I m_2), (I b_3), (.func (.func 58) #[] #[(pt bcmp_4_0 ocmp_4_0), (pt bcmp_4_1 ocmp_4_1)])] [Ch.own 0 0 (Sl adata_0 data_0 cdata_0) data_0, Ch.bx locmp_4_0 bcmp_4_0 ocmp_4_0 [(Sl acmp_4_0 cmp_4_0 ccmp_4_0)] precmp_4_0 sufcmp_4_0, Ch.ro 0 (Sl acmp_4_0 cmp_4_0 ccmp_4_0) cmp_4_0, Ch.bx locmp_4_1 bcmp_4_1 ocmp_4_1 [(Sl acmp_4_1 cmp_4_1 ccmp_4_1)] precmp_4_1 sufcmp_4_1, Ch.ro 0 (Sl acmp_4_1 cmp_4_1 ccmp_4_1) cmp_4_1] (fun n0 v L => v = (.tuple #[]) ∧ L = [Ch.own 0 0 (Sl adata_0 r cdata_0) r, Ch.bx locmp_4_0 bcmp_4_0 ocmp_4_0 [(Sl acmp_4_0 cmp_4_0 ccmp_4_0)] precmp_4_0 sufcmp_4_0, Ch.bx locmp_4_1 bcmp_4_1 ocmp_4_1 [(Sl acmp_4_1 cmp_4_1 ccmp_4_1)] precmp_4_1 sufcmp_4_1] ∧ r.length = data_0.length) := by
 refine cal2 (n := 58) Try.func119 rfl rfl rfl rfl ?_
 intro S0 σ0 n0 hn0 H
 unfold M.slices_rotateCmpFunc_int__impl_ProbeOrder_1 at h
 refine c_seq ?_
 refine rg ?_
 refine st (v := (I m_2)) (rv_move rfl) ?_
 refine st (v := (I a_1)) (rv_move rfl) ?_
 refine st (v := (I (w64 (m_2 - a_1)))) (rv_sub (a := m_2) (b := a_1) rfl rfl) ?_
 refine st (v := (I (w64 (m_2 - a_1)))) (rv_assign rfl) ?_
 refine w_end ?_
 refine q_then ?_
 refine c_seq ?_
 refine rg ?_
 refine st (v := (I b_3)) (rv_move rfl) ?_
 refine st (v := (I m_2)) (rv_move rfl) ?_
 refine st (v := (I (w64 (b_3 - m_2)))) (rv_sub (a := b_3) (b := m_2) rfl rfl) ?_
 refine st (v := (I (w64 (b_3 - m_2)))) (rv_assign rfl) ?_
 refine w_end ?_
 refine q_then ?_
 refine c_seq ?_
 obtain ⟨o1, hj, h'⟩ := bind_some h
 clear h
 refine c_cut (fun e a w => e = .normal ∧ ∃ (ρ : Nat → Value) (σ : St), a = fr 58 (updL ρ [(0, (Sl adata_0 o1.1 cdata_0)), (2, (I m_2)), (4, (.func (.func 58) #[] #[(pt bcmp_4_0 ocmp_4_0), (pt bcmp_4_1 ocmp_4_1)])), (10, (I o1.2))]) ∧ w = σ.w ∧ Hp S0 σ0 σ [Ch.own 0 0 (Sl adata_0 o1.1 cdata_0) o1.1, Ch.ro 0 (Sl acmp_4_0 cmp_4_0 ccmp_4_0) cmp_4_0, Ch.bx locmp_4_0 bcmp_4_0 ocmp_4_0 [(Sl acmp_4_0 cmp_4_0 ccmp_4_0)] precmp_4_0 sufcmp_4_0, Ch.ro 0 (Sl acmp_4_1 cmp_4_1 ccmp_4_1) cmp_4_1, Ch.bx locmp_4_1 bcmp_4_1 ocmp_4_1 [(Sl acmp_4_1 cmp_4_1 ccmp_4_1)] precmp_4_1 sufcmp_4_1] ∧ o1.1.length = data_0.length) ?_ ?_
 ·clear h'
  rename _ = some o1 => h
  refine c_blk ?_
  refine wp_loopM _ h (fun s2 a w => ∃ (ρ : Nat → Value) (σ : St), a = fr 58 (updL ρ [(0, (Sl adata_0 s2.1 cdata_0)), (2, (I m_2)), (4, (.func (.func 58) #[] #[(pt bcmp_4_0 ocmp_4_0), (pt bcmp_4_1 ocmp_4_1)])), (10, (I s2.2.1)), (11, (I s2.2.2))]) ∧ w = σ.w ∧ Hp S0 σ0 σ [Ch.own 0 0 (Sl adata_0 s2.1 cdata_0) s2.1, Ch.ro 0 (Sl acmp_4_0 cmp_4_0 ccmp_4_0) cmp_4_0, Ch.bx locmp_4_0 bcmp_4_0 ocmp_4_0 [(Sl acmp_4_0 cmp_4_0 ccmp_4_0)] precmp_4_0 sufcmp_4_0, Ch.ro 0 (Sl acmp_4_1 cmp_4_1 ccmp_4_1) cmp_4_1, Ch.bx locmp_4_1 bcmp_4_1 ocmp_4_1 [(Sl acmp_4_1 cmp_4_1 ccmp_4_1)] precmp_4_1 sufcmp_4_1] ∧ s2.1.length = data_0.length) ⟨_, σ0, fr_join ⟨rfl, rfl, rfl, rfl, rfl, trivial⟩, rfl, H.sel' [0, 2, 1, 4, 3] rfl rfl, rfl⟩ ?_
  clear h H
  rintro s2 a w o ⟨ρ, σ3, rfl, rfl, H, hn4⟩ h hres
  refine c_seq ?_
  refine c_seq ?_
  refine rg ?_
  refine st (v := (I s2.2.1)) (rv_move rfl) ?_
  refine st (v := (I s2.2.2)) (rv_move rfl) ?_
  refine st (v := (B (s2.2.1 != s2.2.2))) (rv_neq (a := s2.2.1) (b := s2.2.2) rfl rfl) ?_
  refine w_end ?_
  refine q_then ?_
  refine cd_cond (s2.2.1 != s2.2.2) rfl (fun hb5 => ?_) (fun hb5 => ?_)
  ·replace h := bif_t hb5 h
   refine c_skip ?_
   refine q_then ?_
   refine c_blk ?_
   refine c_seq ?_
   refine rg ?_
   refine st (v := (I s2.2.1)) (rv_move rfl) ?_
   refine st (v := (I s2.2.2)) (rv_move rfl) ?_
   refine st (v := (B (decide (s2.2.2 < s2.2.1)))) (rv_gtr (a := s2.2.1) (b := s2.2.2) rfl rfl) ?_
   refine w_end ?_
   refine q_then ?_
   refine cd_cond (decide (s2.2.2 < s2.2.1)) rfl (fun hb6 => ?_) (fun hb6 => ?_)
   ·replace h := bif_t hb6 h
    refine c_seq ?_
    refine rg ?_
    refine st (v := (Sl adata_0 s2.1 cdata_0)) (rv_move rfl) ?_
    refine st (v := (I m_2)) (rv_move rfl) ?_
    refine st (v := (I s2.2.1)) (rv_move rfl) ?_
    refine st (v := (I (w64 (m_2 - s2.2.1)))) (rv_sub (a := m_2) (b := s2.2.1) rfl rfl) ?_
    refine st (v := (I m_2)) (rv_move rfl) ?_
    refine st (v := (I s2.2.2)) (rv_move rfl) ?_
    refine st (v := (.func (.func 58) #[] #[(pt bcmp_4_0 ocmp_4_0), (pt bcmp_4_1 ocmp_4_1)])) (rv_move rfl) ?_
    obtain ⟨r7, hx8, h'⟩ := bind_some h
    clear h
    have h := h'; clear h'
    have hc9 := c_slices_swapRangeCmpFunc_int__impl_ProbeOrder_1 (adata_0 := adata_0) (cdata_0 := cdata_0) (locmp_4_0 := locmp_4_0) (bcmp_4_0 := bcmp_4_0) (ocmp_4_0 := ocmp_4_0) (precmp_4_0 := precmp_4_0) (sufcmp_4_0 := sufcmp_4_0) (acmp_4_0 := acmp_4_0) (ccmp_4_0 := ccmp_4_0) (locmp_4_1 := locmp_4_1) (bcmp_4_1 := bcmp_4_1) (ocmp_4_1 := ocmp_4_1) (precmp_4_1 := precmp_4_1) (sufcmp_4_1 := sufcmp_4_1) (acmp_4_1 := acmp_4_1) (ccmp_4_1 := ccmp_4_1) hx8
    refine st_call (cx_call hc9 (ent_f hc9.fn rfl) hn0 (show Hp S0 σ0 _ ([Ch.own 0 0 (Sl adata_0 s2.1 cdata_0) s2.1, Ch.bx locmp_4_0 bcmp_4_0 ocmp_4_0 [(Sl acmp_4_0 cmp_4_0 ccmp_4_0)] precmp_4_0 sufcmp_4_0, Ch.ro 0 (Sl acmp_4_0 cmp_4_0 ccmp_4_0) cmp_4_0, Ch.bx locmp_4_1 bcmp_4_1 ocmp_4_1 [(Sl acmp_4_1 cmp_4_1 ccmp_4_1)] precmp_4_1 sufcmp_4_1, Ch.ro 0 (Sl acmp_4_1 cmp_4_1 ccmp_4_1) cmp_4_1] ++ [Ch.ro 0 (Sl acmp_4_0 cmp_4_0 ccmp_4_0) cmp_4_0, Ch.ro 0 (Sl acmp_4_1 cmp_4_1 ccmp_4_1) cmp_4_1]) from (H.sel' [0, 2, 1, 4, 3, 1, 3] rfl rfl))) wn ?_
    rintro _ σ11 ⟨_, ⟨rfl, rfl, hn10⟩, H, -⟩
    replace H : Hp S0 σ0 σ11 [Ch.own 0 0 (Sl adata_0 r7 cdata_0) r7, Ch.bx locmp_4_0 bcmp_4_0 ocmp_4_0 [(Sl acmp_4_0 cmp_4_0 ccmp_4_0)] precmp_4_0 sufcmp_4_0, Ch.bx locmp_4_1 bcmp_4_1 ocmp_4_1 [(Sl acmp_4_1 cmp_4_1 ccmp_4_1)] precmp_4_1 sufcmp_4_1, Ch.ro 0 (Sl acmp_4_0 cmp_4_0 ccmp_4_0) cmp_4_0, Ch.ro 0 (Sl acmp_4_1 cmp_4_1 ccmp_4_1) cmp_4_1] := H
    have hsl : (Sl adata_0 s2.1 cdata_0) = (Sl adata_0 r7 cdata_0) := sl_len hn10.symm
    try rw [hsl]
    try rw [hsl] at H
    clear hsl
    refine w_end ?_
    refine q_then ?_
    refine rg ?_
    refine st (v := (I s2.2.1)) (rv_move rfl) ?_
    refine st (v := (I s2.2.2)) (rv_move rfl) ?_
    refine st (v := (I (w64 (s2.2.1 - s2.2.2)))) (rv_sub (a := s2.2.1) (b := s2.2.2) rfl rfl) ?_
    refine st (v := (I (w64 (s2.2.1 - s2.2.2)))) (rv_assign rfl) ?_
    refine w_end ?_
    refine q_blk ?_
    refine q_then ?_
    obtain rfl := Option.some.inj h
    exact ⟨_, rfl, _, σ11, fr_join ⟨rfl, rfl, rfl, rfl, rfl, trivial⟩, rfl, H.sel' [0, 3, 1, 4, 2] rfl rfl, (hn10.trans hn4)⟩
   ·replace h := bif_f hb6 h
    refine c_seq ?_
    refine rg ?_
    refine st (v := (Sl adata_0 s2.1 cdata_0)) (rv_move rfl) ?_
    refine st (v := (I m_2)) (rv_move rfl) ?_
    refine st (v := (I s2.2.1)) (rv_move rfl) ?_
    refine st (v := (I (w64 (m_2 - s2.2.1)))) (rv_sub (a := m_2) (b := s2.2.1) rfl rfl) ?_
    refine st (v := (I m_2)) (rv_move rfl) ?_
    refine st (v := (I s2.2.2)) (rv_move rfl) ?_
    refine st (v := (I (w64 (m_2 + s2.2.2)))) (rv_add (a := m_2) (b := s2.2.2) rfl rfl) ?_
    refine st (v := (I s2.2.1)) (rv_move rfl) ?_
    refine st (v := (I (w64 ((w64 (m_2 + s2.2.2)) - s2.2.1)))) (rv_sub (a := (w64 (m_2 + s2.2.2))) (b := s2.2.1) rfl rfl) ?_
    refine st (v := (I s2.2.1)) (rv_move rfl) ?_
    refine st (v := (.func (.func 58) #[] #[(pt bcmp_4_0 ocmp_4_0), (pt bcmp_4_1 ocmp_4_1)])) (rv_move rfl) ?_
    obtain ⟨r12, hx13, h'⟩ := bind_some h
    clear h
    have h := h'; clear h'
    have hc14 := c_slices_swapRangeCmpFunc_int__impl_ProbeOrder_1 (adata_0 := adata_0) (cdata_0 := cdata_0) (locmp_4_0 := locmp_4_0) (bcmp_4_0 := bcmp_4_0) (ocmp_4_0 := ocmp_4_0) (precmp_4_0 := precmp_4_0) (sufcmp_4_0 := sufcmp_4_0) (acmp_4_0 := acmp_4_0) (ccmp_4_0 := ccmp_4_0) (locmp_4_1 := locmp_4_1) (bcmp_4_1 := bcmp_4_1) (ocmp_4_1 := ocmp_4_1) (precmp_4_1 := precmp_4_1) (sufcmp_4_1 := sufcmp_4_1) (acmp_4_1 := acmp_4_1) (ccmp_4_1 := ccmp_4_1) hx13
    refine st_call (cx_call hc14 (ent_f hc14.fn rfl) hn0 (show Hp S0 σ0 _ ([Ch.own 0 0 (Sl adata_0 s2.1 cdata_0) s2.1, Ch.bx locmp_4_0 bcmp_4_0 ocmp_4_0 [(Sl acmp_4_0 cmp_4_0 ccmp_4_0)] precmp_4_0 sufcmp_4_0, Ch.ro 0 (Sl acmp_4_0 cmp_4_0 ccmp_4_0) cmp_4_0, Ch.bx locmp_4_1 bcmp_4_1 ocmp_4_1 [(Sl acmp_4_1 cmp_4_1 ccmp_4_1)] precmp_4_1 sufcmp_4_1, Ch.ro 0 (Sl acmp_4_1 cmp_4_1 ccmp_4_1) cmp_4_1] ++ [Ch.ro 0 (Sl acmp_4_0 cmp_4_0 ccmp_4_0) cmp_4_0, Ch.ro 0 (Sl acmp_4_1 cmp_4_1 ccmp_4_1) cmp_4_1]) from (H.sel' [0, 2, 1, 4, 3, 1, 3] rfl rfl))) wn ?_
    rintro _ σ16 ⟨_, ⟨rfl, rfl, hn15⟩, H, -⟩
    replace H : Hp S0 σ0 σ16 [Ch.own 0 0 (Sl adata_0 r12 cdata_0) r12, Ch.bx locmp_4_0 bcmp_4_0 ocmp_4_0 [(Sl acmp_4_0 cmp_4_0 ccmp_4_0)] precmp_4_0 sufcmp_4_0, Ch.bx locmp_4_1 bcmp_4_1 ocmp_4_1 [(Sl acmp_4_1 cmp_4_1 ccmp_4_1)] precmp_4_1 sufcmp_4_1, Ch.ro 0 (Sl acmp_4_0 cmp_4_0 ccmp_4_0) cmp_4_0, Ch.ro 0 (Sl acmp_4_1 cmp_4_1 ccmp_4_1) cmp_4_1] := H
    have hsl : (Sl adata_0 s2.1 cdata_0) = (Sl adata_0 r12 cdata_0) := sl_len hn15.symm
    try rw [hsl]
    try rw [hsl] at H
    clear hsl
    refine w_end ?_
    refine q_then ?_
    refine rg ?_
    refine st (v := (I s2.2.2)) (rv_move rfl) ?_
    refine st (v := (I s2.2.1)) (rv_move rfl) ?_
    refine st (v := (I (w64 (s2.2.2 - s2.2.1)))) (rv_sub (a := s2.2.2) (b := s2.2.1) rfl rfl) ?_
    refine st (v := (I (w64 (s2.2.2 - s2.2.1)))) (rv_assign rfl) ?_
    refine w_end ?_
    refine q_blk ?_
    refine q_then ?_
    obtain rfl := Option.some.inj h
    exact ⟨_, rfl, _, σ16, fr_join ⟨rfl, rfl, rfl, rfl, rfl, trivial⟩, rfl, H.sel' [0, 3, 1, 4, 2] rfl rfl, (hn15.trans hn4)⟩
  ·replace h := bif_f hb5 h
   refine c_exit ?_
   refine q_then_x ?_
   refine q_then_x ?_
   refine q_blk_hit ?_
   obtain rfl := Option.some.inj h
   obtain rfl := hres _ rfl
   exact ⟨rfl, _, σ3, fr_join ⟨rfl, rfl, rfl, rfl, trivial⟩, rfl, H.sel' [0, 1, 2, 3, 4] rfl rfl, hn4⟩
 ·clear hj
  have h := h'
  clear h' H
  rintro e a w ⟨rfl, ρ, σ17, rfl, rfl, H, hn18⟩
  refine q_then ?_
  refine rg ?_
  refine st (v := (Sl adata_0 o1.1 cdata_0)) (rv_move rfl) ?_
  refine st (v := (I m_2)) (rv_move rfl) ?_
  refine st (v := (I o1.2)) (rv_move rfl) ?_
  refine st (v := (I (w64 (m_2 - o1.2)))) (rv_sub (a := m_2) (b := o1.2) rfl rfl) ?_
  refine st (v := (I m_2)) (rv_move rfl) ?_
  refine st (v := (I o1.2)) (rv_move rfl) ?_
  refine st (v := (.func (.func 58) #[] #[(pt bcmp_4_0 ocmp_4_0), (pt bcmp_4_1 ocmp_4_1)])) (rv_move rfl) ?_
  obtain ⟨r19, hx20, h'⟩ := bind_some h
  clear h
  have h := h'; clear h'
  have hc21 := c_slices_swapRangeCmpFunc_int__impl_ProbeOrder_1 (adata_0 := adata_0) (cdata_0 := cdata_0) (locmp_4_0 := locmp_4_0) (bcmp_4_0 := bcmp_4_0) (ocmp_4_0 := ocmp_4_0) (precmp_4_0 := precmp_4_0) (sufcmp_4_0 := sufcmp_4_0) (acmp_4_0 := acmp_4_0) (ccmp_4_0 := ccmp_4_0) (locmp_4_1 := locmp_4_1) (bcmp_4_1 := bcmp_4_1) (ocmp_4_1 := ocmp_4_1) (precmp_4_1 := precmp_4_1) (sufcmp_4_1 := sufcmp_4_1) (acmp_4_1 := acmp_4_1) (ccmp_4_1 := ccmp_4_1) hx20
  refine st_call (cx_call hc21 (ent_f hc21.fn rfl) hn0 (show Hp S0 σ0 _ ([Ch.own 0 0 (Sl adata_0 o1.1 cdata_0) o1.1, Ch.bx locmp_4_0 bcmp_4_0 ocmp_4_0 [(Sl acmp_4_0 cmp_4_0 ccmp_4_0)] precmp_4_0 sufcmp_4_0, Ch.ro 0 (Sl acmp_4_0 cmp_4_0 ccmp_4_0) cmp_4_0, Ch.bx locmp_4_1 bcmp_4_1 ocmp_4_1 [(Sl acmp_4_1 cmp_4_1 ccmp_4_1)] precmp_4_1 sufcmp_4_1, Ch.ro 0 (Sl acmp_4_1 cmp_4_1 ccmp_4_1) cmp_4_1] ++ [Ch.ro 0 (Sl acmp_4_0 cmp_4_0 ccmp_4_0) cmp_4_0, Ch.ro 0 (Sl acmp_4_1 cmp_4_1 ccmp_4_1) cmp_4_1]) from (H.sel' [0, 2, 1, 4, 3, 1, 3] rfl rfl))) wn ?_
  rintro _ σ23 ⟨_, ⟨rfl, rfl, hn22⟩, H, -⟩
  replace H : Hp S0 σ0 σ23 [Ch.own 0 0 (Sl adata_0 r19 cdata_0) r19, Ch.bx locmp_4_0 bcmp_4_0 ocmp_4_0 [(Sl acmp_4_0 cmp_4_0 ccmp_4_0)] precmp_4_0 sufcmp_4_0, Ch.bx locmp_4_1 bcmp_4_1 ocmp_4_1 [(Sl acmp_4_1 cmp_4_1 ccmp_4_1)] precmp_4_1 sufcmp_4_1, Ch.ro 0 (Sl acmp_4_0 cmp_4_0 ccmp_4_0) cmp_4_0, Ch.ro 0 (Sl acmp_4_1 cmp_4_1 ccmp_4_1) cmp_4_1] := H
  have hsl : (Sl adata_0 o1.1 cdata_0) = (Sl adata_0 r19 cdata_0) := sl_len hn22.symm
  try rw [hsl]
  try rw [hsl] at H
  clear hsl
  refine w_end ?_
  obtain rfl := Option.some.inj h
  exact fin_end (v := (.tuple #[])) (results_ok Try.results119 res_nil rfl) ⟨rfl, rfl, (hn22.trans hn18)⟩ (H.sel' [0, 1, 2] rfl rfl)

theorem c_slices_symMergeCmpFunc_int__impl_ProbeOrder_1 : ∀ (fuel : Nat) {data_0 : List Int} {a_1 : Int} {m_2 : Int} {b_3 : Int} {cmp_4_0 : List (List Int)} {cmp_4_1 : List Int} {adata_0 : Option Addr} {cdata_0 : Nat} {acmp_4_0 : Option Addr} {ccmp_4_0 : Nat} {locmp_4_0 bcmp_4_0 ocmp_4_0 : Nat} {precmp_4_0 sufcmp_4_0 : List Value} {acmp_4_1 : Option Addr} {ccmp_4_1 : Nat} {locmp_4_1 bcmp_4_1 ocmp_4_1 : Nat} {precmp_4_1 sufcmp_4_1 : List Value} {r : (List Int)} (h : M.slices_symMergeCmpFunc_int__impl_ProbeOrder_1 fuel data_0 a_1 m_2 b_3 cmp_4_0 cmp_4_1 = some r),
    Cal2 Try.prog 109 [(Sl adata_0 data_0 cdata_0), (I a_1), (I m_2), (I b_3), (.func (.func 58) #[] #[(pt bcmp_4_0 ocmp_4_0), (pt bcmp_4_1 ocmp_4_1)])] [Ch.own 0 0 (Sl adata_0 data_0 cdata_0) data_0, Ch.bx locmp_4_0 bcmp_4_0 ocmp_4_0 [(Sl acmp_4_0 cmp_4_0 ccmp_4_0)] precmp_4_0 sufcmp_4_0, Ch.ro 0 (Sl acmp_4_0 cmp_4_0 ccmp_4_0) cmp_4_0, Ch.bx locmp_4_1 bcmp_4_1 ocmp_4_1 [(Sl acmp_4_1 cmp_4_1 ccmp_4_1)] precmp_4_1 sufcmp_4_1, Ch.ro 0 (Sl acmp_4_1 cmp_4_1 ccmp_4_1) cmp_4_1] (fun n0 v L => v = (.tuple #[]) ∧ L = [Ch.own 0 0 (Sl adata_0 r cdata_0) r, Ch.bx locmp_4_0 bcmp_4_0 ocmp_4_0 [(Sl acmp_4_0 cmp_4_0 ccmp_4_0)] precmp_4_0 sufcmp_4_0, Ch.bx locmp_4_1 bcmp_4_1 ocmp_4_1 [(Sl acmp_4_1 cmp_4_1 ccmp_4_1)] precmp_4_1 sufcmp_4_1] ∧ r.length = data_0.length) := by
 intro fuel
 induction fuel with
 | zero => intro _ _ _ _ _ _ _ _ _ _ _ _ _ _ _ _ _ _ _ _ _ _ r h; cases h
 | succ fuel ih =>
 ·intro data_0 a_1 m_2 b_3 cmp_4_0 cmp_4_1 adata_0 cdata_0 acmp_4_0 ccmp_4_0 locmp_4_0 bcmp_4_0 ocmp_4_0 precmp_4_0 sufcmp_4_0 acmp_4_1 ccmp_4_1 locmp_4_1 bcmp_4_1 ocmp_4_1 precmp_4_1 sufcmp_4_1 r h
  replace h : M.slices_symMergeCmpFunc_int__impl_ProbeOrder_1_F (M.slices_symMergeCmpFunc_int__impl_ProbeOrder_1 fuel) data_0 a_1 m_2 b_3 cmp_4_0 cmp_4_1 = some r := h
  refine cal2 (n := 220) Try.func109 rfl rfl rfl rfl ?_
  intro S0 σ0 n0 hn0 H
  unfold M.slices_symMergeCmpFunc_int__impl_ProbeOrder_1_F at h
  refine c_seq ?_
  refine c_seq ?_
  refine rg ?_
  refine st (v := (I m_2)) (rv_move rfl) ?_
  refine st (v := (I a_1)) (rv_move rfl) ?_
  refine st (v := (I (w64 (m_2 - a_1)))) (rv_sub (a := m_2) (b := a_1) rfl rfl) ?_
  refine st (v := (B ((w64 (m_2 - a_1)) == 1))) (rv_eql (a := (w64 (m_2 - a_1))) (b := 1) rfl rfl) ?_
  refine w_end ?_
  refine q_then ?_
  refine cd_cond ((w64 (m_2 - a_1)) == 1) rfl (fun hb1 => ?_) (fun hb1 => ?_)
  ·replace h := bif_t hb1 h
   refine c_seq ?_
   refine rg ?_
   refine st (v := (I m_2)) (rv_move rfl) ?_
   refine st (v := (I m_2)) (rv_assign rfl) ?_
   refine w_end ?_
   refine q_then ?_
   refine c_seq ?_
   refine rg ?_
   refine st (v := (I b_3)) (rv_move rfl) ?_
   refine st (v := (I b_3)) (rv_assign rfl) ?_
   refine w_end ?_
   refine q_then ?_
   refine c_seq ?_
   obtain ⟨o2, hj, h'⟩ := bind_some h
   clear h
   refine c_cut (fun e a w => e = .normal ∧ ∃ (ρ : Nat → Value) (σ : St), a = fr 220 (updL ρ [(0, (Sl adata_0 data_0 cdata_0)), (1, (I a_1)), (4, (.func (.func 58) #[] #[(pt bcmp_4_0 ocmp_4_0), (pt bcmp_4_1 ocmp_4_1)])), (10, (I o2))]) ∧ w = σ.w ∧ Hp S0 σ0 σ [Ch.own 0 0 (Sl adata_0 data_0 cdata_0) data_0, Ch.ro 0 (Sl acmp_4_0 cmp_4_0 ccmp_4_0) cmp_4_0, Ch.bx locmp_4_0 bcmp_4_0 ocmp_4_0 [(Sl acmp_4_0 cmp_4_0 ccmp_4_0)] precmp_4_0 sufcmp_4_0, Ch.ro 0 (Sl acmp_4_1 cmp_4_1 ccmp_4_1) cmp_4_1, Ch.bx locmp_4_1 bcmp_4_1 ocmp_4_1 [(Sl acmp_4_1 cmp_4_1 ccmp_4_1)] precmp_4_1 sufcmp_4_1]) ?_ ?_
   ·clear h'
    rename _ = some o2 => h
    refine c_blk ?_
    refine wp_loopM _ h (fun s3 a w => ∃ (ρ : Nat → Value) (σ : St), a = fr 220 (updL ρ [(0, (Sl adata_0 data_0 cdata_0)), (1, (I a_1)), (4, (.func (.func 58) #[] #[(pt bcmp_4_0 ocmp_4_0), (pt bcmp_4_1 ocmp_4_1)])), (10, (I s3.1)), (11, (I s3.2))]) ∧ w = σ.w ∧ Hp S0 σ0 σ [Ch.own 0 0 (Sl adata_0 data_0 cdata_0) data_0, Ch.ro 0 (Sl acmp_4_0 cmp_4_0 ccmp_4_0) cmp_4_0, Ch.bx locmp_4_0 bcmp_4_0 ocmp_4_0 [(Sl acmp_4_0 cmp_4_0 ccmp_4_0)] precmp_4_0 sufcmp_4_0, Ch.ro 0 (Sl acmp_4_1 cmp_4_1 ccmp_4_1) cmp_4_1, Ch.bx locmp_4_1 bcmp_4_1 ocmp_4_1 [(Sl acmp_4_1 cmp_4_1 ccmp_4_1)] precmp_4_1 sufcmp_4_1]) ⟨_, σ0, fr_join ⟨rfl, rfl, rfl, rfl, rfl, trivial⟩, rfl, H.sel' [0, 2, 1, 4, 3] rfl rfl⟩ ?_
    clear h H
    rintro s3 a w o ⟨ρ, σ4, rfl, rfl, H⟩ h hres
    refine c_seq ?_
    refine c_seq ?_
    refine rg ?_
    refine st (v := (I s3.1)) (rv_move rfl) ?_
    refine st (v := (I s3.2)) (rv_move rfl) ?_
    refine st (v := (B (decide (s3.1 < s3.2)))) (rv_lss (a := s3.1) (b := s3.2) rfl rfl) ?_
    refine w_end ?_
    refine q_then ?_
    refine cd_cond (decide (s3.1 < s3.2)) rfl (fun hb5 => ?_) (fun hb5 => ?_)
    ·replace h := bif_t hb5 h
     refine c_skip ?_
     refine q_then ?_
     refine c_blk ?_
     refine c_seq ?_
     refine rg ?_
     refine st (v := (I s3.1)) (rv_move rfl) ?_
     refine st (v := (I s3.2)) (rv_move rfl) ?_
     refine st (v := (I (w64 (s3.1 + s3.2)))) (rv_add (a := s3.1) (b := s3.2) rfl rfl) ?_
     refine st (v := (.int .u64 (wk .u64 (w64 (s3.1 + s3.2))))) (rvk_conv (k := .i64) (k' := .u64) (a := (w64 (s3.1 + s3.2))) Try.underlying3 Try.underlying121 rfl) ?_
     refine st (v := (.int .u64 (gshr .u64 (wk .u64 (w64 (s3.1 + s3.2))) 1))) (rvk_shr (k := .u64) (k' := .u64) (a := (wk .u64 (w64 (s3.1 + s3.2)))) (b := 1) rfl rfl (by decide)) ?_
     refine st (v := (I (wk .i64 (gshr .u64 (wk .u64 (w64 (s3.1 + s3.2))) 1)))) (rvk_conv (k := .u64) (k' := .i64) (a := (gshr .u64 (wk .u64 (w64 (s3.1 + s3.2))) 1)) Try.underlying121 Try.underlying3 rfl) ?_
     refine st (v := (I (wk .i64 (gshr .u64 (wk .u64 (w64 (s3.1 + s3.2))) 1)))) (rv_assign rfl) ?_
     refine w_end ?_
     refine q_then ?_
     refine c_seq ?_
     refine rgP (σ := σ4) 9 (by kernel_rfl) (by kernel_rfl) (by kernel_rfl) ?_
     refine sq (v := (.func (.func 58) #[] #[(pt bcmp_4_0 ocmp_4_0), (pt bcmp_4_1 ocmp_4_1)])) (rv_move rfl) ?_
     refine sq (v := (Sl adata_0 data_0 cdata_0)) (rv_move rfl) ?_
     refine sq (v := (I (wk .i64 (gshr .u64 (wk .u64 (w64 (s3.1 + s3.2))) 1)))) (rv_move rfl) ?_
     obtain ⟨x6, hx7, h'⟩ := bind_some h
     clear h
     have h := h'; clear h'
     obtain ⟨b9, o10, hi8, -⟩ := (H.own 0 rfl).ix hx7
     refine sq (v := (pt b9 o10)) (rv_ix Try.underlying29 ti3 rfl rfl hi8) ?_
     have hc11 := ((H.own 0 rfl).at hx7 hi8).int
     refine sq (v := (I x6)) (rv_load1 Try.underlying3 rfl rfl hc11) ?_
     refine sq (v := (Sl adata_0 data_0 cdata_0)) (rv_move rfl) ?_
     refine sq (v := (I a_1)) (rv_move rfl) ?_
     obtain ⟨x12, hx13, h'⟩ := bind_some h
     clear h
     have h := h'; clear h'
     obtain ⟨b15, o16, hi14, -⟩ := (H.own 0 rfl).ix hx13
     refine sq (v := (pt b15 o16)) (rv_ix Try.underlying29 ti3 rfl rfl hi14) ?_
     have hc17 := ((H.own 0 rfl).at hx13 hi14).int
     refine sq (v := (I x12)) (rv_load1 Try.underlying3 rfl rfl hc17) ?_
     refine sq_end ?_
     intro σ18 hm19
     replace H := H.grow (hm19.mono fun _ h => h); clear hm19
     obtain ⟨r20, hx21, h'⟩ := bind_some h
     clear h
     have h := h'; clear h'
     have hc22 := c_impl_ProbeOrder_1__p_SSint__p24 (lop_2 := locmp_4_0) (bp_2 := bcmp_4_0) (op_2 := ocmp_4_0) (prep_2 := precmp_4_0) (sufp_2 := sufcmp_4_0) (ap_2 := acmp_4_0) (cp_2 := ccmp_4_0) (lop_3 := locmp_4_1) (bp_3 := bcmp_4_1) (op_3 := ocmp_4_1) (prep_3 := precmp_4_1) (sufp_3 := sufcmp_4_1) (ap_3 := acmp_4_1) (cp_3 := ccmp_4_1) hx21
     refine st_call (cx_call hc22 (ent_v (cap := [(pt bcmp_4_0 ocmp_4_0), (pt bcmp_4_1 ocmp_4_1)]) hc22.fn rfl rfl) hn0 (show Hp S0 σ0 _ ([Ch.bx locmp_4_0 bcmp_4_0 ocmp_4_0 [(Sl acmp_4_0 cmp_4_0 ccmp_4_0)] precmp_4_0 sufcmp_4_0, Ch.ro 0 (Sl acmp_4_0 cmp_4_0 ccmp_4_0) cmp_4_0, Ch.bx locmp_4_1 bcmp_4_1 ocmp_4_1 [(Sl acmp_4_1 cmp_4_1 ccmp_4_1)] precmp_4_1 sufcmp_4_1, Ch.ro 0 (Sl acmp_4_1 cmp_4_1 ccmp_4_1) cmp_4_1] ++ [Ch.own 0 0 (Sl adata_0 data_0 cdata_0) data_0, Ch.ro 0 (Sl acmp_4_0 cmp_4_0 ccmp_4_0) cmp_4_0, Ch.ro 0 (Sl acmp_4_1 cmp_4_1 ccmp_4_1) cmp_4_1]) from (H.sel' [2, 1, 4, 3, 0, 1, 3] rfl rfl))) wn ?_
     rintro _ σ23 ⟨_, ⟨rfl, rfl⟩, H, -⟩
     replace H : Hp S0 σ0 σ23 [Ch.bx locmp_4_0 bcmp_4_0 ocmp_4_0 [(Sl acmp_4_0 cmp_4_0 ccmp_4_0)] precmp_4_0 sufcmp_4_0, Ch.bx locmp_4_1 bcmp_4_1 ocmp_4_1 [(Sl acmp_4_1 cmp_4_1 ccmp_4_1)] precmp_4_1 sufcmp_4_1, Ch.own 0 0 (Sl adata_0 data_0 cdata_0) data_0, Ch.ro 0 (Sl acmp_4_0 cmp_4_0 ccmp_4_0) cmp_4_0, Ch.ro 0 (Sl acmp_4_1 cmp_4_1 ccmp_4_1) cmp_4_1] := H
     refine st (v := (B (decide (r20 < 0)))) (rv_lss (a := r20) (b := 0) rfl rfl) ?_
     refine w_end ?_
     refine q_then ?_
     refine cd_cond (decide (r20 < 0)) rfl (fun hb24 => ?_) (fun hb24 => ?_)
     ·replace h := bif_t hb24 h
      refine rg ?_
      refine st (v := (I (wk .i64 (gshr .u64 (wk .u64 (w64 (s3.1 + s3.2))) 1)))) (rv_move rfl) ?_
      refine st (v := (I (w64 ((wk .i64 (gshr .u64 (wk .u64 (w64 (s3.1 + s3.2))) 1)) + 1)))) (rv_add (a := (wk .i64 (gshr .u64 (wk .u64 (w64 (s3.1 + s3.2))) 1))) (b := 1) rfl rfl) ?_
      refine st (v := (I (w64 ((wk .i64 (gshr .u64 (wk .u64 (w64 (s3.1 + s3.2))) 1)) + 1)))) (rv_assign rfl) ?_
      refine w_end ?_
      refine q_blk ?_
      refine q_then ?_
      obtain rfl := Option.some.inj h
      exact ⟨_, rfl, _, σ23, fr_join ⟨rfl, rfl, rfl, rfl, rfl, trivial⟩, rfl, H.sel' [2, 3, 0, 4, 1] rfl rfl⟩
     ·replace h := bif_f hb24 h
      refine rg ?_
      refine st (v := (I (wk .i64 (gshr .u64 (wk .u64 (w64 (s3.1 + s3.2))) 1)))) (rv_move rfl) ?_
      refine st (v := (I (wk .i64 (gshr .u64 (wk .u64 (w64 (s3.1 + s3.2))) 1)))) (rv_assign rfl) ?_
      refine w_end ?_
      refine q_blk ?_
      refine q_then ?_
      obtain rfl := Option.some.inj h
      exact ⟨_, rfl, _, σ23, fr_join ⟨rfl, rfl, rfl, rfl, rfl, trivial⟩, rfl, H.sel' [2, 3, 0, 4, 1] rfl rfl⟩
    ·replace h := bif_f hb5 h
     refine c_exit ?_
     refine q_then_x ?_
     refine q_then_x ?_
     refine q_blk_hit ?_
     obtain rfl := Option.some.inj h
     obtain rfl := hres _ rfl
     exact ⟨rfl, _, σ4, fr_join ⟨rfl, rfl, rfl, rfl, trivial⟩, rfl, H.sel' [0, 1, 2, 3, 4] rfl rfl⟩
   ·clear hj
    have h := h'
    clear h' H
    rintro e a w ⟨rfl, ρ, σ25, rfl, rfl, H⟩
    refine q_then ?_
    refine c_seq ?_
    refine c_seq ?_
    refine rg ?_
    refine st (v := (I a_1)) (rv_move rfl) ?_
    refine st (v := (I a_1)) (rv_assign rfl) ?_
    refine w_end ?_
    refine q_then ?_
    obtain ⟨o26, hj, h'⟩ := bind_some h
    clear h
    refine c_cut (fun e a w => e = .normal ∧ ∃ (ρ : Nat → Value) (σ : St), a = fr 220 (updL ρ [(0, (Sl adata_0 o26 cdata_0)), (4, (.func (.func 58) #[] #[(pt bcmp_4_0 ocmp_4_0), (pt bcmp_4_1 ocmp_4_1)]))]) ∧ w = σ.w ∧ Hp S0 σ0 σ [Ch.own 0 0 (Sl adata_0 o26 cdata_0) o26, Ch.ro 0 (Sl acmp_4_0 cmp_4_0 ccmp_4_0) cmp_4_0, Ch.bx locmp_4_0 bcmp_4_0 ocmp_4_0 [(Sl acmp_4_0 cmp_4_0 ccmp_4_0)] precmp_4_0 sufcmp_4_0, Ch.ro 0 (Sl acmp_4_1 cmp_4_1 ccmp_4_1) cmp_4_1, Ch.bx locmp_4_1 bcmp_4_1 ocmp_4_1 [(Sl acmp_4_1 cmp_4_1 ccmp_4_1)] precmp_4_1 sufcmp_4_1] ∧ o26.length = data_0.length) ?_ ?_
    ·clear h'
     rename _ = some o26 => h
     refine c_blk ?_
     refine wp_loopM _ h (fun s27 a w => ∃ (ρ : Nat → Value) (σ : St), a = fr 220 (updL ρ [(0, (Sl adata_0 s27.1 cdata_0)), (4, (.func (.func 58) #[] #[(pt bcmp_4_0 ocmp_4_0), (pt bcmp_4_1 ocmp_4_1)])), (10, (I o2)), (13, (I s27.2))]) ∧ w = σ.w ∧ Hp S0 σ0 σ [Ch.own 0 0 (Sl adata_0 s27.1 cdata_0) s27.1, Ch.ro 0 (Sl acmp_4_0 cmp_4_0 ccmp_4_0) cmp_4_0, Ch.bx locmp_4_0 bcmp_4_0 ocmp_4_0 [(Sl acmp_4_0 cmp_4_0 ccmp_4_0)] precmp_4_0 sufcmp_4_0, Ch.ro 0 (Sl acmp_4_1 cmp_4_1 ccmp_4_1) cmp_4_1, Ch.bx locmp_4_1 bcmp_4_1 ocmp_4_1 [(Sl acmp_4_1 cmp_4_1 ccmp_4_1)] precmp_4_1 sufcmp_4_1] ∧ s27.1.length = data_0.length) ⟨_, σ25, fr_join ⟨rfl, rfl, rfl, rfl, trivial⟩, rfl, H.sel' [0, 1, 2, 3, 4] rfl rfl, rfl⟩ ?_
     clear h H
     rintro s27 a w o ⟨ρ, σ28, rfl, rfl, H, hn29⟩ h hres
     refine c_seq ?_
     refine c_seq ?_
     refine rg ?_
     refine st (v := (I s27.2)) (rv_move rfl) ?_
     refine st (v := (I o2)) (rv_move rfl) ?_
     refine st (v := (I (w64 (o2 - 1)))) (rv_sub (a := o2) (b := 1) rfl rfl) ?_
     refine st (v := (B (decide (s27.2 < (w64 (o2 - 1)))))) (rv_lss (a := s27.2) (b := (w64 (o2 - 1))) rfl rfl) ?_
     refine w_end ?_
     refine q_then ?_
     refine cd_cond (decide (s27.2 < (w64 (o2 - 1)))) rfl (fun hb30 => ?_) (fun hb30 => ?_)
     ·replace h := bif_t hb30 h
      refine c_skip ?_
      refine q_then ?_
      refine c_seq ?_
      refine c_blk ?_
      obtain ⟨x31, hx32, h'⟩ := bind_some h
      clear h
      have h := h'; clear h'
      obtain ⟨b34, o35, hi33, -⟩ := (H.own 0 rfl).ix hx32
      have hc36 := ((H.own 0 rfl).at hx32 hi33).int
      obtain ⟨x37, hx38, h'⟩ := bind_some h
      clear h
      have h := h'; clear h'
      obtain ⟨b40, o41, hi39, -⟩ := (H.own 0 rfl).ix hx38
      have hc42 := ((H.own 0 rfl).at hx38 hi39).int
      obtain ⟨x43, hx44, h'⟩ := bind_some h
      clear h
      have h := h'; clear h'
      obtain ⟨b46, o47, hi45, -⟩ := (H.own 0 rfl).ix hx44
      have Hs := H
      refine rg2 (σ := σ28) (Nm := Unit) 16 [15] [[false], [true]] [[(0, 0)], [(0, 0)], [(0, 0), (1, 1)], [(0, 0), (1, 1)], [(0, 0), (1, 1)], [(0, 0)], [(0, 0)], [(0, 0)], [(0, 0)], [(0, 0)], [(0, 0)], [(0, 0)], [(0, 0)], [(0, 0)], [(0, 0)], [(0, 1)]] 1 [fun _ => fun σm => Hp S0 σ0 σm [Ch.own 0 0 (Sl adata_0 s27.1 cdata_0) s27.1, Ch.ro 0 (Sl acmp_4_0 cmp_4_0 ccmp_4_0) cmp_4_0, Ch.bx locmp_4_0 bcmp_4_0 ocmp_4_0 [(Sl acmp_4_0 cmp_4_0 ccmp_4_0)] precmp_4_0 sufcmp_4_0, Ch.ro 0 (Sl acmp_4_1 cmp_4_1 ccmp_4_1) cmp_4_1, Ch.bx locmp_4_1 bcmp_4_1 ocmp_4_1 [(Sl acmp_4_1 cmp_4_1 ccmp_4_1)] precmp_4_1 sufcmp_4_1] ∧ Md (cov []) σ28 σm, fun _ => fun σm => Hp S0 σ0 σm [Ch.own 0 0 (Sl adata_0 s27.1 cdata_0) (s27.1.set s27.2.toNat x31), Ch.ro 0 (Sl acmp_4_0 cmp_4_0 ccmp_4_0) cmp_4_0, Ch.bx locmp_4_0 bcmp_4_0 ocmp_4_0 [(Sl acmp_4_0 cmp_4_0 ccmp_4_0)] precmp_4_0 sufcmp_4_0, Ch.ro 0 (Sl acmp_4_1 cmp_4_1 ccmp_4_1) cmp_4_1, Ch.bx locmp_4_1 bcmp_4_1 ocmp_4_1 [(Sl acmp_4_1 cmp_4_1 ccmp_4_1)] precmp_4_1 sufcmp_4_1] ∧ Md (fun i => (cov []) i ∨ (fun b => blk (Sl adata_0 s27.1 cdata_0) = some b) i) σ28 σm] [fun _ => (Sl adata_0 s27.1 cdata_0), fun _ => (I s27.2), fun _ => (Sl adata_0 s27.1 cdata_0), fun _ => (I s27.2), fun _ => (I (w64 (s27.2 + 1))), fun _ => (Sl adata_0 s27.1 cdata_0), fun _ => (I s27.2), fun _ => (I (w64 (s27.2 + 1))), fun _ => (pt b34 o35), fun _ => (I x31), fun _ => (Sl adata_0 s27.1 cdata_0), fun _ => (I s27.2), fun _ => (pt b40 o41), fun _ => (I x37), fun _ => (pt b46 o47), fun _ => undef] () (by kernel_rfl) (by kernel_rfl) ?_ ?_ ?_
      ·intro σm m0
       exact ⟨H.grow (m0.mono fun _ h => h.elim), m0⟩
      ·refine ac rfl (by
         intro k _nm ρ σm hJ hoff hdep
         have e0 := look_off (N := 220) (hoff 0 rfl) rfl
         exact dp_v (v := (Sl adata_0 s27.1 cdata_0)) wn (rv_move e0) rfl hJ) ?_
       refine ac rfl (by
         intro k _nm ρ σm hJ hoff hdep
         have e13 := look_off (N := 220) (hoff 13 rfl) rfl
         exact dp_v (v := (I s27.2)) wn (rv_move e13) rfl hJ) ?_
       refine ac rfl (by
         intro k _nm ρ σm hJ hoff hdep
         have e0 := look_off (N := 220) (hoff 0 rfl) rfl
         exact dp_v (v := (Sl adata_0 s27.1 cdata_0)) wn (rv_move e0) rfl hJ) ?_
       refine ac rfl (by
         intro k _nm ρ σm hJ hoff hdep
         have e13 := look_off (N := 220) (hoff 13 rfl) rfl
         exact dp_v (v := (I s27.2)) wn (rv_move e13) rfl hJ) ?_
       refine ac rfl (by
         intro k _nm ρ σm hJ hoff hdep
         have e64 := hdep 3 rfl rfl 64 rfl
         exact dp_v (v := (I (w64 (s27.2 + 1)))) wn (rv_add (a := s27.2) (b := 1) e64 rfl) rfl hJ) ?_
       refine ac rfl (by
         intro k _nm ρ σm hJ hoff hdep
         have e0 := look_off (N := 220) (hoff 0 rfl) rfl
         exact dp_v (v := (Sl adata_0 s27.1 cdata_0)) wn (rv_move e0) rfl hJ) ?_
       refine ac rfl (by
         intro k _nm ρ σm hJ hoff hdep
         have e13 := look_off (N := 220) (hoff 13 rfl) rfl
         exact dp_v (v := (I s27.2)) wn (rv_move e13) rfl hJ) ?_
       refine ac rfl (by
         intro k _nm ρ σm hJ hoff hdep
         have e67 := hdep 6 rfl rfl 67 rfl
         exact dp_v (v := (I (w64 (s27.2 + 1)))) wn (rv_add (a := s27.2) (b := 1) e67 rfl) rfl hJ) ?_
       refine ac rfl (by
         intro k _nm ρ σm hJ hoff hdep
         have e66 := hdep 5 rfl rfl 66 rfl
         have e68 := hdep 7 rfl rfl 68 rfl
         exact dp_v (v := (pt b34 o35)) wn (rv_ix Try.underlying29 ti3 e66 e68 hi33) rfl hJ) ?_
       refine all_cons (by
         refine ⟨?_, ?_⟩
         ·intro _nm ρ σm hJ hoff hdep
          have e69 := hdep 8 rfl rfl 69 rfl
          obtain ⟨H, m⟩ := id hJ
          have hc36 := ((H.own 0 rfl).at hx32 hi33).int
          exact dp_v (v := (I x31)) wn (rv_load1 Try.underlying3 rfl e69 hc36) rfl hJ
         trivial) ?_
       refine ac rfl (by
         intro k _nm ρ σm hJ hoff hdep
         have e0 := look_off (N := 220) (hoff 0 rfl) rfl
         exact dp_v (v := (Sl adata_0 s27.1 cdata_0)) wn (rv_move e0) rfl hJ) ?_
       refine ac rfl (by
         intro k _nm ρ σm hJ hoff hdep
         have e13 := look_off (N := 220) (hoff 13 rfl) rfl
         exact dp_v (v := (I s27.2)) wn (rv_move e13) rfl hJ) ?_
       refine ac rfl (by
         intro k _nm ρ σm hJ hoff hdep
         have e71 := hdep 10 rfl rfl 71 rfl
         have e72 := hdep 11 rfl rfl 72 rfl
         exact dp_v (v := (pt b40 o41)) wn (rv_ix Try.underlying29 ti3 e71 e72 hi39) rfl hJ) ?_
       refine all_cons (by
         refine ⟨?_, ?_⟩
         ·intro _nm ρ σm hJ hoff hdep
          have e73 := hdep 12 rfl rfl 73 rfl
          obtain ⟨H, m⟩ := id hJ
          have hc42 := ((H.own 0 rfl).at hx38 hi39).int
          exact dp_v (v := (I x37)) wn (rv_load1 Try.underlying3 rfl e73 hc42) rfl hJ
         trivial) ?_
       refine ac rfl (by
         intro k _nm ρ σm hJ hoff hdep
         have e61 := hdep 0 rfl rfl 61 rfl
         have e62 := hdep 1 rfl rfl 62 rfl
         exact dp_v (v := (pt b46 o47)) wn (rv_ix Try.underlying29 ti3 e61 e62 hi45) rfl hJ) ?_
       refine all_cons (by
         refine ⟨?_, ?_⟩
         ·intro _nm ρ σm hJ hoff hdep
          have e75 := hdep 14 rfl rfl 75 rfl
          have e70 := hdep 9 rfl rfl 70 rfl
          obtain ⟨H, m⟩ := id hJ
          refine dp_exS wn rfl (ex_store_own (e' := x31) (vs := [(I x31)]) (k := 0) H (i := 0) rfl ti3 hx44 hi45 e75 rfl e70 rfl rfl (Nat.le_of_ble_eq_true rfl) (by simp [plain]) (by rintro _ rfl; exact rfl)) ?_
          rintro σq ⟨H2, m2⟩
          exact ⟨_, (), rfl, ⟨H2.sel' [0, 1, 2, 3, 4] rfl rfl, m.comp m2⟩, stab [0, 1, 2, 3, 4, 5, 6, 7, 8, 9, 10, 11, 12, 13, 14] (by kernel_rfl) ⟨rfl, rfl, rfl, rfl, rfl, rfl, rfl, rfl, rfl, rfl, rfl, rfl, rfl, rfl, rfl, trivial⟩⟩
         trivial) ?_
       exact all_nil
      ·intro _nm ρ σ48 hJ hoff hrel
       have e0 := look_off (N := 220) (hoff 0 rfl) rfl
       have e4 := look_off (N := 220) (hoff 4 rfl) rfl
       have e10 := look_off (N := 220) (hoff 10 rfl) rfl
       have e13 := look_off (N := 220) (hoff 13 rfl) rfl
       have e63 := hrel 2 rfl 63 rfl
       have e65 := hrel 4 rfl 65 rfl
       have e74 := hrel 13 rfl 74 rfl
       obtain ⟨H, -⟩ := (show Hp S0 σ0 σ48 [Ch.own 0 0 (Sl adata_0 s27.1 cdata_0) (s27.1.set s27.2.toNat x31), Ch.ro 0 (Sl acmp_4_0 cmp_4_0 ccmp_4_0) cmp_4_0, Ch.bx locmp_4_0 bcmp_4_0 ocmp_4_0 [(Sl acmp_4_0 cmp_4_0 ccmp_4_0)] precmp_4_0 sufcmp_4_0, Ch.ro 0 (Sl acmp_4_1 cmp_4_1 ccmp_4_1) cmp_4_1, Ch.bx locmp_4_1 bcmp_4_1 ocmp_4_1 [(Sl acmp_4_1 cmp_4_1 ccmp_4_1)] precmp_4_1 sufcmp_4_1] ∧ Md (fun i => (cov []) i ∨ (fun b => blk (Sl adata_0 s27.1 cdata_0) = some b) i) σ28 σ48 from hJ)
       clear hJ Hs
       rw [fr_lookL (L := [(0, (Sl adata_0 s27.1 cdata_0)), (4, (.func (.func 58) #[] #[(pt bcmp_4_0 ocmp_4_0), (pt bcmp_4_1 ocmp_4_1)])), (10, (I o2)), (13, (I s27.2)), (63, (Sl adata_0 s27.1 cdata_0)), (65, (I (w64 (s27.2 + 1)))), (74, (I x37))]) ⟨e0, e4, e10, e13, e63, e65, e74, trivial⟩]
       clear hoff hrel e0 e4 e10 e13 e63 e65 e74
       have hsl : (Sl adata_0 s27.1 cdata_0) = (Sl adata_0 (s27.1.set s27.2.toNat x31) cdata_0) := sl_len (by simp)
       rw [hsl]; rw [hsl] at H; clear hsl
       obtain ⟨x49, hx50, h'⟩ := bind_some h
       clear h
       have h := h'; clear h'
       obtain ⟨b52, o53, hi51, -⟩ := (H.own 0 rfl).ix hx50
       refine st (v := (pt b52 o53)) (rv_ix Try.underlying29 ti3 rfl rfl hi51) ?_
       refine st_exS (ex_store_own (e' := x37) (vs := [(I x37)]) (k := 0) H (i := 0) rfl ti3 hx50 hi51 rfl rfl rfl rfl rfl (Nat.le_of_ble_eq_true rfl) (by simp [plain]) (by rintro _ rfl; exact rfl)) wn ?_
       rintro σ54 ⟨H, -⟩
       have hsl : (Sl adata_0 (s27.1.set s27.2.toNat x31) cdata_0) = (Sl adata_0 ((s27.1.set s27.2.toNat x31).set (w64 (s27.2 + 1)).toNat x37) cdata_0) := sl_len List.length_set.symm
       rw [hsl]; rw [hsl] at H; clear hsl
       refine w_end ?_
       refine q_blk ?_
       refine q_then ?_
       refine rg ?_
       refine st (v := (I s27.2)) (rv_move rfl) ?_
       refine st (v := (I (w64 (s27.2 + 1)))) (rv_add (a := s27.2) (b := 1) rfl rfl) ?_
       refine st (v := (I (w64 (s27.2 + 1)))) (rv_assign rfl) ?_
       refine w_end ?_
       refine q_then ?_
       obtain rfl := Option.some.inj h
       exact ⟨_, rfl, _, σ54, fr_join ⟨rfl, rfl, rfl, rfl, trivial⟩, rfl, H.sel' [0, 1, 2, 3, 4] rfl rfl, (List.length_set.trans (List.length_set.trans hn29))⟩
     ·replace h := bif_f hb30 h
      refine c_exit ?_
      refine q_then_x ?_
      refine q_then_x ?_
      refine q_blk_hit ?_
      obtain rfl := Option.some.inj h
      obtain rfl := hres _ rfl
      exact ⟨rfl, _, σ28, fr_join ⟨rfl, rfl, trivial⟩, rfl, H.sel' [0, 1, 2, 3, 4] rfl rfl, hn29⟩
    ·clear hj
     have h := h'
     clear h' H
     rintro e a w ⟨rfl, ρ, σ55, rfl, rfl, H, hn56⟩
     refine q_then ?_
     refine c_ret ?_
     refine q_then_r ?_
     obtain rfl := Option.some.inj h
     exact fin_ret (v := (.tuple #[])) (results_ok Try.results109 res_nil rfl) ⟨rfl, rfl, hn56⟩ (H.sel' [0, 2, 4] rfl rfl)
  ·replace h := bif_f hb1 h
   refine c_skip ?_
   refine q_then ?_
   refine c_seq ?_
   refine c_seq ?_
   refine rg ?_
   refine st (v := (I b_3)) (rv_move rfl) ?_
   refine st (v := (I m_2)) (rv_move rfl) ?_
   refine st (v := (I (w64 (b_3 - m_2)))) (rv_sub (a := b_3) (b := m_2) rfl rfl) ?_
   refine st (v := (B ((w64 (b_3 - m_2)) == 1))) (rv_eql (a := (w64 (b_3 - m_2))) (b := 1) rfl rfl) ?_
   refine w_end ?_
   refine q_then ?_
   refine cd_cond ((w64 (b_3 - m_2)) == 1) rfl (fun hb57 => ?_) (fun hb57 => ?_)
   ·replace h := bif_t hb57 h
    refine c_seq ?_
    refine rg ?_
    refine st (v := (I a_1)) (rv_move rfl) ?_
    refine st (v := (I a_1)) (rv_assign rfl) ?_
    refine w_end ?_
    refine q_then ?_
    refine c_seq ?_
    refine rg ?_
    refine st (v := (I m_2)) (rv_move rfl) ?_
    refine st (v := (I m_2)) (rv_assign rfl) ?_
    refine w_end ?_
    refine q_then ?_
    refine c_seq ?_
    obtain ⟨o58, hj, h'⟩ := bind_some h
    clear h
    refine c_cut (fun e a w => e = .normal ∧ ∃ (ρ : Nat → Value) (σ : St), a = fr 220 (updL ρ [(0, (Sl adata_0 data_0 cdata_0)), (2, (I m_2)), (4, (.func (.func 58) #[] #[(pt bcmp_4_0 ocmp_4_0), (pt bcmp_4_1 ocmp_4_1)])), (14, (I o58))]) ∧ w = σ.w ∧ Hp S0 σ0 σ [Ch.own 0 0 (Sl adata_0 data_0 cdata_0) data_0, Ch.ro 0 (Sl acmp_4_0 cmp_4_0 ccmp_4_0) cmp_4_0, Ch.bx locmp_4_0 bcmp_4_0 ocmp_4_0 [(Sl acmp_4_0 cmp_4_0 ccmp_4_0)] precmp_4_0 sufcmp_4_0, Ch.ro 0 (Sl acmp_4_1 cmp_4_1 ccmp_4_1) cmp_4_1, Ch.bx locmp_4_1 bcmp_4_1 ocmp_4_1 [(Sl acmp_4_1 cmp_4_1 ccmp_4_1)] precmp_4_1 sufcmp_4_1]) ?_ ?_
    ·clear h'
     rename _ = some o58 => h
     refine c_blk ?_
     refine wp_loopM _ h (fun s59 a w => ∃ (ρ : Nat → Value) (σ : St), a = fr 220 (updL ρ [(0, (Sl adata_0 data_0 cdata_0)), (2, (I m_2)), (4, (.func (.func 58) #[] #[(pt bcmp_4_0 ocmp_4_0), (pt bcmp_4_1 ocmp_4_1)])), (14, (I s59.1)), (15, (I s59.2))]) ∧ w = σ.w ∧ Hp S0 σ0 σ [Ch.own 0 0 (Sl adata_0 data_0 cdata_0) data_0, Ch.ro 0 (Sl acmp_4_0 cmp_4_0 ccmp_4_0) cmp_4_0, Ch.bx locmp_4_0 bcmp_4_0 ocmp_4_0 [(Sl acmp_4_0 cmp_4_0 ccmp_4_0)] precmp_4_0 sufcmp_4_0, Ch.ro 0 (Sl acmp_4_1 cmp_4_1 ccmp_4_1) cmp_4_1, Ch.bx locmp_4_1 bcmp_4_1 ocmp_4_1 [(Sl acmp_4_1 cmp_4_1 ccmp_4_1)] precmp_4_1 sufcmp_4_1]) ⟨_, σ0, fr_join ⟨rfl, rfl, rfl, rfl, rfl, trivial⟩, rfl, H.sel' [0, 2, 1, 4, 3] rfl rfl⟩ ?_
     clear h H
     rintro s59 a w o ⟨ρ, σ60, rfl, rfl, H⟩ h hres
     refine c_seq ?_
     refine c_seq ?_
     refine rg ?_
     refine st (v := (I s59.1)) (rv_move rfl) ?_
     refine st (v := (I s59.2)) (rv_move rfl) ?_
     refine st (v := (B (decide (s59.1 < s59.2)))) (rv_lss (a := s59.1) (b := s59.2) rfl rfl) ?_
     refine w_end ?_
     refine q_then ?_
     refine cd_cond (decide (s59.1 < s59.2)) rfl (fun hb61 => ?_) (fun hb61 => ?_)
     ·replace h := bif_t hb61 h
      refine c_skip ?_
      refine q_then ?_
      refine c_blk ?_
      refine c_seq ?_
      refine rg ?_
      refine st (v := (I s59.1)) (rv_move rfl) ?_
      refine st (v := (I s59.2)) (rv_move rfl) ?_
      refine st (v := (I (w64 (s59.1 + s59.2)))) (rv_add (a := s59.1) (b := s59.2) rfl rfl) ?_
      refine st (v := (.int .u64 (wk .u64 (w64 (s59.1 + s59.2))))) (rvk_conv (k := .i64) (k' := .u64) (a := (w64 (s59.1 + s59.2))) Try.underlying3 Try.underlying121 rfl) ?_
      refine st (v := (.int .u64 (gshr .u64 (wk .u64 (w64 (s59.1 + s59.2))) 1))) (rvk_shr (k := .u64) (k' := .u64) (a := (wk .u64 (w64 (s59.1 + s59.2)))) (b := 1) rfl rfl (by decide)) ?_
      refine st (v := (I (wk .i64 (gshr .u64 (wk .u64 (w64 (s59.1 + s59.2))) 1)))) (rvk_conv (k := .u64) (k' := .i64) (a := (gshr .u64 (wk .u64 (w64 (s59.1 + s59.2))) 1)) Try.underlying121 Try.underlying3 rfl) ?_
      refine st (v := (I (wk .i64 (gshr .u64 (wk .u64 (w64 (s59.1 + s59.2))) 1)))) (rv_assign rfl) ?_
      refine w_end ?_
      refine q_then ?_
      refine c_seq ?_
      refine rgP (σ := σ60) 9 (by kernel_rfl) (by kernel_rfl) (by kernel_rfl) ?_
      refine sq (v := (.func (.func 58) #[] #[(pt bcmp_4_0 ocmp_4_0), (pt bcmp_4_1 ocmp_4_1)])) (rv_move rfl) ?_
      refine sq (v := (Sl adata_0 data_0 cdata_0)) (rv_move rfl) ?_
      refine sq (v := (I m_2)) (rv_move rfl) ?_
      obtain ⟨x62, hx63, h'⟩ := bind_some h
      clear h
      have h := h'; clear h'
      obtain ⟨b65, o66, hi64, -⟩ := (H.own 0 rfl).ix hx63
      refine sq (v := (pt b65 o66)) (rv_ix Try.underlying29 ti3 rfl rfl hi64) ?_
      have hc67 := ((H.own 0 rfl).at hx63 hi64).int
      refine sq (v := (I x62)) (rv_load1 Try.underlying3 rfl rfl hc67) ?_
      refine sq (v := (Sl adata_0 data_0 cdata_0)) (rv_move rfl) ?_
      refine sq (v := (I (wk .i64 (gshr .u64 (wk .u64 (w64 (s59.1 + s59.2))) 1)))) (rv_move rfl) ?_
      obtain ⟨x68, hx69, h'⟩ := bind_some h
      clear h
      have h := h'; clear h'
      obtain ⟨b71, o72, hi70, -⟩ := (H.own 0 rfl).ix hx69
      refine sq (v := (pt b71 o72)) (rv_ix Try.underlying29 ti3 rfl rfl hi70) ?_
      have hc73 := ((H.own 0 rfl).at hx69 hi70).int
      refine sq (v := (I x68)) (rv_load1 Try.underlying3 rfl rfl hc73) ?_
      refine sq_end ?_
      intro σ74 hm75
      replace H := H.grow (hm75.mono fun _ h => h); clear hm75
      obtain ⟨r76, hx77, h'⟩ := bind_some h
      clear h
      have h := h'; clear h'
      have hc78 := c_impl_ProbeOrder_1__p_SSint__p24 (lop_2 := locmp_4_0) (bp_2 := bcmp_4_0) (op_2 := ocmp_4_0) (prep_2 := precmp_4_0) (sufp_2 := sufcmp_4_0) (ap_2 := acmp_4_0) (cp_2 := ccmp_4_0) (lop_3 := locmp_4_1) (bp_3 := bcmp_4_1) (op_3 := ocmp_4_1) (prep_3 := precmp_4_1) (sufp_3 := sufcmp_4_1) (ap_3 := acmp_4_1) (cp_3 := ccmp_4_1) hx77
      refine st_call (cx_call hc78 (ent_v (cap := [(pt bcmp_4_0 ocmp_4_0), (pt bcmp_4_1 ocmp_4_1)]) hc78.fn rfl rfl) hn0 (show Hp S0 σ0 _ ([Ch.bx locmp_4_0 bcmp_4_0 ocmp_4_0 [(Sl acmp_4_0 cmp_4_0 ccmp_4_0)] precmp_4_0 sufcmp_4_0, Ch.ro 0 (Sl acmp_4_0 cmp_4_0 ccmp_4_0) cmp_4_0, Ch.bx locmp_4_1 bcmp_4_1 ocmp_4_1 [(Sl acmp_4_1 cmp_4_1 ccmp_4_1)] precmp_4_1 sufcmp_4_1, Ch.ro 0 (Sl acmp_4_1 cmp_4_1 ccmp_4_1) cmp_4_1] ++ [Ch.own 0 0 (Sl adata_0 data_0 cdata_0) data_0, Ch.ro 0 (Sl acmp_4_0 cmp_4_0 ccmp_4_0) cmp_4_0, Ch.ro 0 (Sl acmp_4_1 cmp_4_1 ccmp_4_1) cmp_4_1]) from (H.sel' [2, 1, 4, 3, 0, 1, 3] rfl rfl))) wn ?_
      rintro _ σ79 ⟨_, ⟨rfl, rfl⟩, H, -⟩
      replace H : Hp S0 σ0 σ79 [Ch.bx locmp_4_0 bcmp_4_0 ocmp_4_0 [(Sl acmp_4_0 cmp_4_0 ccmp_4_0)] precmp_4_0 sufcmp_4_0, Ch.bx locmp_4_1 bcmp_4_1 ocmp_4_1 [(Sl acmp_4_1 cmp_4_1 ccmp_4_1)] precmp_4_1 sufcmp_4_1, Ch.own 0 0 (Sl adata_0 data_0 cdata_0) data_0, Ch.ro 0 (Sl acmp_4_0 cmp_4_0 ccmp_4_0) cmp_4_0, Ch.ro 0 (Sl acmp_4_1 cmp_4_1 ccmp_4_1) cmp_4_1] := H
      refine st (v := (B (decide (r76 < 0)))) (rv_lss (a := r76) (b := 0) rfl rfl) ?_
      refine st (v := (B (!(decide (r76 < 0))))) (rv_not rfl) ?_
      refine w_end ?_
      refine q_then ?_
      refine cd_cond (!(decide (r76 < 0))) rfl (fun hb80 => ?_) (fun hb80 => ?_)
      ·replace h := bif_t hb80 h
       refine rg ?_
       refine st (v := (I (wk .i64 (gshr .u64 (wk .u64 (w64 (s59.1 + s59.2))) 1)))) (rv_move rfl) ?_
       refine st (v := (I (w64 ((wk .i64 (gshr .u64 (wk .u64 (w64 (s59.1 + s59.2))) 1)) + 1)))) (rv_add (a := (wk .i64 (gshr .u64 (wk .u64 (w64 (s59.1 + s59.2))) 1))) (b := 1) rfl rfl) ?_
       refine st (v := (I (w64 ((wk .i64 (gshr .u64 (wk .u64 (w64 (s59.1 + s59.2))) 1)) + 1)))) (rv_assign rfl) ?_
       refine w_end ?_
       refine q_blk ?_
       refine q_then ?_
       obtain rfl := Option.some.inj h
       exact ⟨_, rfl, _, σ79, fr_join ⟨rfl, rfl, rfl, rfl, rfl, trivial⟩, rfl, H.sel' [2, 3, 0, 4, 1] rfl rfl⟩
      ·replace h := bif_f hb80 h
       refine rg ?_
       refine st (v := (I (wk .i64 (gshr .u64 (wk .u64 (w64 (s59.1 + s59.2))) 1)))) (rv_move rfl) ?_
       refine st (v := (I (wk .i64 (gshr .u64 (wk .u64 (w64 (s59.1 + s59.2))) 1)))) (rv_assign rfl) ?_
       refine w_end ?_
       refine q_blk ?_
       refine q_then ?_
       obtain rfl := Option.some.inj h
       exact ⟨_, rfl, _, σ79, fr_join ⟨rfl, rfl, rfl, rfl, rfl, trivial⟩, rfl, H.sel' [2, 3, 0, 4, 1] rfl rfl⟩
     ·replace h := bif_f hb61 h
      refine c_exit ?_
      refine q_then_x ?_
      refine q_then_x ?_
      refine q_blk_hit ?_
      obtain rfl := Option.some.inj h
      obtain rfl := hres _ rfl
      exact ⟨rfl, _, σ60, fr_join ⟨rfl, rfl, rfl, rfl, trivial⟩, rfl, H.sel' [0, 1, 2, 3, 4] rfl rfl⟩
    ·clear hj
     have h := h'
     clear h' H
     rintro e a w ⟨rfl, ρ, σ81, rfl, rfl, H⟩
     refine q_then ?_
     refine c_seq ?_
     refine c_seq ?_
     refine rg ?_
     refine st (v := (I m_2)) (rv_move rfl) ?_
     refine st (v := (I m_2)) (rv_assign rfl) ?_
     refine w_end ?_
     refine q_then ?_
     obtain ⟨o82, hj, h'⟩ := bind_some h
     clear h
     refine c_cut (fun e a w => e = .normal ∧ ∃ (ρ : Nat → Value) (σ : St), a = fr 220 (updL ρ [(0, (Sl adata_0 o82 cdata_0)), (4, (.func (.func 58) #[] #[(pt bcmp_4_0 ocmp_4_0), (pt bcmp_4_1 ocmp_4_1)]))]) ∧ w = σ.w ∧ Hp S0 σ0 σ [Ch.own 0 0 (Sl adata_0 o82 cdata_0) o82, Ch.ro 0 (Sl acmp_4_0 cmp_4_0 ccmp_4_0) cmp_4_0, Ch.bx locmp_4_0 bcmp_4_0 ocmp_4_0 [(Sl acmp_4_0 cmp_4_0 ccmp_4_0)] precmp_4_0 sufcmp_4_0, Ch.ro 0 (Sl acmp_4_1 cmp_4_1 ccmp_4_1) cmp_4_1, Ch.bx locmp_4_1 bcmp_4_1 ocmp_4_1 [(Sl acmp_4_1 cmp_4_1 ccmp_4_1)] precmp_4_1 sufcmp_4_1] ∧ o82.length = data_0.length) ?_ ?_
     ·clear h'
      rename _ = some o82 => h
      refine c_blk ?_
      refine wp_loopM _ h (fun s83 a w => ∃ (ρ : Nat → Value) (σ : St), a = fr 220 (updL ρ [(0, (Sl adata_0 s83.1 cdata_0)), (4, (.func (.func 58) #[] #[(pt bcmp_4_0 ocmp_4_0), (pt bcmp_4_1 ocmp_4_1)])), (14, (I o58)), (17, (I s83.2))]) ∧ w = σ.w ∧ Hp S0 σ0 σ [Ch.own 0 0 (Sl adata_0 s83.1 cdata_0) s83.1, Ch.ro 0 (Sl acmp_4_0 cmp_4_0 ccmp_4_0) cmp_4_0, Ch.bx locmp_4_0 bcmp_4_0 ocmp_4_0 [(Sl acmp_4_0 cmp_4_0 ccmp_4_0)] precmp_4_0 sufcmp_4_0, Ch.ro 0 (Sl acmp_4_1 cmp_4_1 ccmp_4_1) cmp_4_1, Ch.bx locmp_4_1 bcmp_4_1 ocmp_4_1 [(Sl acmp_4_1 cmp_4_1 ccmp_4_1)] precmp_4_1 sufcmp_4_1] ∧ s83.1.length = data_0.length) ⟨_, σ81, fr_join ⟨rfl, rfl, rfl, rfl, trivial⟩, rfl, H.sel' [0, 1, 2, 3, 4] rfl rfl, rfl⟩ ?_
      clear h H
      rintro s83 a w o ⟨ρ, σ84, rfl, rfl, H, hn85⟩ h hres
      refine c_seq ?_
      refine c_seq ?_
      refine rg ?_
      refine st (v := (I s83.2)) (rv_move rfl) ?_
      refine st (v := (I o58)) (rv_move rfl) ?_
      refine st (v := (B (decide (o58 < s83.2)))) (rv_gtr (a := s83.2) (b := o58) rfl rfl) ?_
      refine w_end ?_
      refine q_then ?_
      refine cd_cond (decide (o58 < s83.2)) rfl (fun hb86 => ?_) (fun hb86 => ?_)
      ·replace h := bif_t hb86 h
       refine c_skip ?_
       refine q_then ?_
       refine c_seq ?_
       refine c_blk ?_
       obtain ⟨x87, hx88, h'⟩ := bind_some h
       clear h
       have h := h'; clear h'
       obtain ⟨b90, o91, hi89, -⟩ := (H.own 0 rfl).ix hx88
       have hc92 := ((H.own 0 rfl).at hx88 hi89).int
       obtain ⟨x93, hx94, h'⟩ := bind_some h
       clear h
       have h := h'; clear h'
       obtain ⟨b96, o97, hi95, -⟩ := (H.own 0 rfl).ix hx94
       have hc98 := ((H.own 0 rfl).at hx94 hi95).int
       obtain ⟨x99, hx100, h'⟩ := bind_some h
       clear h
       have h := h'; clear h'
       obtain ⟨b102, o103, hi101, -⟩ := (H.own 0 rfl).ix hx100
       have Hs := H
       refine rg2 (σ := σ84) (Nm := Unit) 16 [15] [[false], [true]] [[(0, 0)], [(0, 0)], [(0, 0), (1, 1)], [(0, 0), (1, 1)], [(0, 0), (1, 1)], [(0, 0)], [(0, 0)], [(0, 0)], [(0, 0)], [(0, 0)], [(0, 0)], [(0, 0)], [(0, 0)], [(0, 0)], [(0, 0)], [(0, 1)]] 1 [fun _ => fun σm => Hp S0 σ0 σm [Ch.own 0 0 (Sl adata_0 s83.1 cdata_0) s83.1, Ch.ro 0 (Sl acmp_4_0 cmp_4_0 ccmp_4_0) cmp_4_0, Ch.bx locmp_4_0 bcmp_4_0 ocmp_4_0 [(Sl acmp_4_0 cmp_4_0 ccmp_4_0)] precmp_4_0 sufcmp_4_0, Ch.ro 0 (Sl acmp_4_1 cmp_4_1 ccmp_4_1) cmp_4_1, Ch.bx locmp_4_1 bcmp_4_1 ocmp_4_1 [(Sl acmp_4_1 cmp_4_1 ccmp_4_1)] precmp_4_1 sufcmp_4_1] ∧ Md (cov []) σ84 σm, fun _ => fun σm => Hp S0 σ0 σm [Ch.own 0 0 (Sl adata_0 s83.1 cdata_0) (s83.1.set s83.2.toNat x87), Ch.ro 0 (Sl acmp_4_0 cmp_4_0 ccmp_4_0) cmp_4_0, Ch.bx locmp_4_0 bcmp_4_0 ocmp_4_0 [(Sl acmp_4_0 cmp_4_0 ccmp_4_0)] precmp_4_0 sufcmp_4_0, Ch.ro 0 (Sl acmp_4_1 cmp_4_1 ccmp_4_1) cmp_4_1, Ch.bx locmp_4_1 bcmp_4_1 ocmp_4_1 [(Sl acmp_4_1 cmp_4_1 ccmp_4_1)] precmp_4_1 sufcmp_4_1] ∧ Md (fun i => (cov []) i ∨ (fun b => blk (Sl adata_0 s83.1 cdata_0) = some b) i) σ84 σm] [fun _ => (Sl adata_0 s83.1 cdata_0), fun _ => (I s83.2), fun _ => (Sl adata_0 s83.1 cdata_0), fun _ => (I s83.2), fun _ => (I (w64 (s83.2 - 1))), fun _ => (Sl adata_0 s83.1 cdata_0), fun _ => (I s83.2), fun _ => (I (w64 (s83.2 - 1))), fun _ => (pt b90 o91), fun _ => (I x87), fun _ => (Sl adata_0 s83.1 cdata_0), fun _ => (I s83.2), fun _ => (pt b96 o97), fun _ => (I x93), fun _ => (pt b102 o103), fun _ => undef] () (by kernel_rfl) (by kernel_rfl) ?_ ?_ ?_
       ·intro σm m0
        exact ⟨H.grow (m0.mono fun _ h => h.elim), m0⟩
       ·refine ac rfl (by
          intro k _nm ρ σm hJ hoff hdep
          have e0 := look_off (N := 220) (hoff 0 rfl) rfl
          exact dp_v (v := (Sl adata_0 s83.1 cdata_0)) wn (rv_move e0) rfl hJ) ?_
        refine ac rfl (by
          intro k _nm ρ σm hJ hoff hdep
          have e17 := look_off (N := 220) (hoff 17 rfl) rfl
          exact dp_v (v := (I s83.2)) wn (rv_move e17) rfl hJ) ?_
        refine ac rfl (by
          intro k _nm ρ σm hJ hoff hdep
          have e0 := look_off (N := 220) (hoff 0 rfl) rfl
          exact dp_v (v := (Sl adata_0 s83.1 cdata_0)) wn (rv_move e0) rfl hJ) ?_
        refine ac rfl (by
          intro k _nm ρ σm hJ hoff hdep
          have e17 := look_off (N := 220) (hoff 17 rfl) rfl
          exact dp_v (v := (I s83.2)) wn (rv_move e17) rfl hJ) ?_
        refine ac rfl (by
          intro k _nm ρ σm hJ hoff hdep
          have e116 := hdep 3 rfl rfl 116 rfl
          exact dp_v (v := (I (w64 (s83.2 - 1)))) wn (rv_sub (a := s83.2) (b := 1) e116 rfl) rfl hJ) ?_
        refine ac rfl (by
          intro k _nm ρ σm hJ hoff hdep
          have e0 := look_off (N := 220) (hoff 0 rfl) rfl
          exact dp_v (v := (Sl adata_0 s83.1 cdata_0)) wn (rv_move e0) rfl hJ) ?_
        refine ac rfl (by
          intro k _nm ρ σm hJ hoff hdep
          have e17 := look_off (N := 220) (hoff 17 rfl) rfl
          exact dp_v (v := (I s83.2)) wn (rv_move e17) rfl hJ) ?_
        refine ac rfl (by
          intro k _nm ρ σm hJ hoff hdep
          have e119 := hdep 6 rfl rfl 119 rfl
          exact dp_v (v := (I (w64 (s83.2 - 1)))) wn (rv_sub (a := s83.2) (b := 1) e119 rfl) rfl hJ) ?_
        refine ac rfl (by
          intro k _nm ρ σm hJ hoff hdep
          have e118 := hdep 5 rfl rfl 118 rfl
          have e120 := hdep 7 rfl rfl 120 rfl
          exact dp_v (v := (pt b90 o91)) wn (rv_ix Try.underlying29 ti3 e118 e120 hi89) rfl hJ) ?_
        refine all_cons (by
          refine ⟨?_, ?_⟩
          ·intro _nm ρ σm hJ hoff hdep
           have e121 := hdep 8 rfl rfl 121 rfl
           obtain ⟨H, m⟩ := id hJ
           have hc92 := ((H.own 0 rfl).at hx88 hi89).int
           exact dp_v (v := (I x87)) wn (rv_load1 Try.underlying3 rfl e121 hc92) rfl hJ
          trivial) ?_
        refine ac rfl (by
          intro k _nm ρ σm hJ hoff hdep
          have e0 := look_off (N := 220) (hoff 0 rfl) rfl
          exact dp_v (v := (Sl adata_0 s83.1 cdata_0)) wn (rv_move e0) rfl hJ) ?_
        refine ac rfl (by
          intro k _nm ρ σm hJ hoff hdep
          have e17 := look_off (N := 220) (hoff 17 rfl) rfl
          exact dp_v (v := (I s83.2)) wn (rv_move e17) rfl hJ) ?_
        refine ac rfl (by
          intro k _nm ρ σm hJ hoff hdep
          have e123 := hdep 10 rfl rfl 123 rfl
          have e124 := hdep 11 rfl rfl 124 rfl
          exact dp_v (v := (pt b96 o97)) wn (rv_ix Try.underlying29 ti3 e123 e124 hi95) rfl hJ) ?_
        refine all_cons (by
          refine ⟨?_, ?_⟩
          ·intro _nm ρ σm hJ hoff hdep
           have e125 := hdep 12 rfl rfl 125 rfl
           obtain ⟨H, m⟩ := id hJ
           have hc98 := ((H.own 0 rfl).at hx94 hi95).int
           exact dp_v (v := (I x93)) wn (rv_load1 Try.underlying3 rfl e125 hc98) rfl hJ
          trivial) ?_
        refine ac rfl (by
          intro k _nm ρ σm hJ hoff hdep
          have e113 := hdep 0 rfl rfl 113 rfl
          have e114 := hdep 1 rfl rfl 114 rfl
          exact dp_v (v := (pt b102 o103)) wn (rv_ix Try.underlying29 ti3 e113 e114 hi101) rfl hJ) ?_
        refine all_cons (by
          refine ⟨?_, ?_⟩
          ·intro _nm ρ σm hJ hoff hdep
           have e127 := hdep 14 rfl rfl 127 rfl
           have e122 := hdep 9 rfl rfl 122 rfl
           obtain ⟨H, m⟩ := id hJ
           refine dp_exS wn rfl (ex_store_own (e' := x87) (vs := [(I x87)]) (k := 0) H (i := 0) rfl ti3 hx100 hi101 e127 rfl e122 rfl rfl (Nat.le_of_ble_eq_true rfl) (by simp [plain]) (by rintro _ rfl; exact rfl)) ?_
           rintro σq ⟨H2, m2⟩
           exact ⟨_, (), rfl, ⟨H2.sel' [0, 1, 2, 3, 4] rfl rfl, m.comp m2⟩, stab [0, 1, 2, 3, 4, 5, 6, 7, 8, 9, 10, 11, 12, 13, 14] (by kernel_rfl) ⟨rfl, rfl, rfl, rfl, rfl, rfl, rfl, rfl, rfl, rfl, rfl, rfl, rfl, rfl, rfl, trivial⟩⟩
          trivial) ?_
        exact all_nil
       ·intro _nm ρ σ104 hJ hoff hrel
        have e0 := look_off (N := 220) (hoff 0 rfl) rfl
        have e4 := look_off (N := 220) (hoff 4 rfl) rfl
        have e14 := look_off (N := 220) (hoff 14 rfl) rfl
        have e17 := look_off (N := 220) (hoff 17 rfl) rfl
        have e115 := hrel 2 rfl 115 rfl
        have e117 := hrel 4 rfl 117 rfl
        have e126 := hrel 13 rfl 126 rfl
        obtain ⟨H, -⟩ := (show Hp S0 σ0 σ104 [Ch.own 0 0 (Sl adata_0 s83.1 cdata_0) (s83.1.set s83.2.toNat x87), Ch.ro 0 (Sl acmp_4_0 cmp_4_0 ccmp_4_0) cmp_4_0, Ch.bx locmp_4_0 bcmp_4_0 ocmp_4_0 [(Sl acmp_4_0 cmp_4_0 ccmp_4_0)] precmp_4_0 sufcmp_4_0, Ch.ro 0 (Sl acmp_4_1 cmp_4_1 ccmp_4_1) cmp_4_1, Ch.bx locmp_4_1 bcmp_4_1 ocmp_4_1 [(Sl acmp_4_1 cmp_4_1 ccmp_4_1)] precmp_4_1 sufcmp_4_1] ∧ Md (fun i => (cov []) i ∨ (fun b => blk (Sl adata_0 s83.1 cdata_0) = some b) i) σ84 σ104 from hJ)
        clear hJ Hs
        rw [fr_lookL (L := [(0, (Sl adata_0 s83.1 cdata_0)), (4, (.func (.func 58) #[] #[(pt bcmp_4_0 ocmp_4_0), (pt bcmp_4_1 ocmp_4_1)])), (14, (I o58)), (17, (I s83.2)), (115, (Sl adata_0 s83.1 cdata_0)), (117, (I (w64 (s83.2 - 1)))), (126, (I x93))]) ⟨e0, e4, e14, e17, e115, e117, e126, trivial⟩]
        clear hoff hrel e0 e4 e14 e17 e115 e117 e126
        have hsl : (Sl adata_0 s83.1 cdata_0) = (Sl adata_0 (s83.1.set s83.2.toNat x87) cdata_0) := sl_len (by simp)
        rw [hsl]; rw [hsl] at H; clear hsl
        obtain ⟨x105, hx106, h'⟩ := bind_some h
        clear h
        have h := h'; clear h'
        obtain ⟨b108, o109, hi107, -⟩ := (H.own 0 rfl).ix hx106
        refine st (v := (pt b108 o109)) (rv_ix Try.underlying29 ti3 rfl rfl hi107) ?_
        refine st_exS (ex_store_own (e' := x93) (vs := [(I x93)]) (k := 0) H (i := 0) rfl ti3 hx106 hi107 rfl rfl rfl rfl rfl (Nat.le_of_ble_eq_true rfl) (by simp [plain]) (by rintro _ rfl; exact rfl)) wn ?_
        rintro σ110 ⟨H, -⟩
        have hsl : (Sl adata_0 (s83.1.set s83.2.toNat x87) cdata_0) = (Sl adata_0 ((s83.1.set s83.2.toNat x87).set (w64 (s83.2 - 1)).toNat x93) cdata_0) := sl_len List.length_set.symm
        rw [hsl]; rw [hsl] at H; clear hsl
        refine w_end ?_
        refine q_blk ?_
        refine q_then ?_
        refine rg ?_
        refine st (v := (I s83.2)) (rv_move rfl) ?_
        refine st (v := (I (w64 (s83.2 - 1)))) (rv_sub (a := s83.2) (b := 1) rfl rfl) ?_
        refine st (v := (I (w64 (s83.2 - 1)))) (rv_assign rfl) ?_
        refine w_end ?_
        refine q_then ?_
        obtain rfl := Option.some.inj h
        exact ⟨_, rfl, _, σ110, fr_join ⟨rfl, rfl, rfl, rfl, trivial⟩, rfl, H.sel' [0, 1, 2, 3, 4] rfl rfl, (List.length_set.trans (List.length_set.trans hn85))⟩
      ·replace h := bif_f hb86 h
       refine c_exit ?_
       refine q_then_x ?_
       refine q_then_x ?_
       refine q_blk_hit ?_
       obtain rfl := Option.some.inj h
       obtain rfl := hres _ rfl
       exact ⟨rfl, _, σ84, fr_join ⟨rfl, rfl, trivial⟩, rfl, H.sel' [0, 1, 2, 3, 4] rfl rfl, hn85⟩
     ·clear hj
      have h := h'
      clear h' H
      rintro e a w ⟨rfl, ρ, σ111, rfl, rfl, H, hn112⟩
      refine q_then ?_
      refine c_ret ?_
      refine q_then_r ?_
      obtain rfl := Option.some.inj h
      exact fin_ret (v := (.tuple #[])) (results_ok Try.results109 res_nil rfl) ⟨rfl, rfl, hn112⟩ (H.sel' [0, 2, 4] rfl rfl)
   ·replace h := bif_f hb57 h
    refine c_skip ?_
    refine q_then ?_
    refine c_seq ?_
    refine rg ?_
    refine st (v := (I a_1)) (rv_move rfl) ?_
    refine st (v := (I b_3)) (rv_move rfl) ?_
    refine st (v := (I (w64 (a_1 + b_3)))) (rv_add (a := a_1) (b := b_3) rfl rfl) ?_
    refine st (v := (.int .u64 (wk .u64 (w64 (a_1 + b_3))))) (rvk_conv (k := .i64) (k' := .u64) (a := (w64 (a_1 + b_3))) Try.underlying3 Try.underlying121 rfl) ?_
    refine st (v := (.int .u64 (gshr .u64 (wk .u64 (w64 (a_1 + b_3))) 1))) (rvk_shr (k := .u64) (k' := .u64) (a := (wk .u64 (w64 (a_1 + b_3)))) (b := 1) rfl rfl (by decide)) ?_
    refine st (v := (I (wk .i64 (gshr .u64 (wk .u64 (w64 (a_1 + b_3))) 1)))) (rvk_conv (k := .u64) (k' := .i64) (a := (gshr .u64 (wk .u64 (w64 (a_1 + b_3))) 1)) Try.underlying121 Try.underlying3 rfl) ?_
    refine st (v := (I (wk .i64 (gshr .u64 (wk .u64 (w64 (a_1 + b_3))) 1)))) (rv_assign rfl) ?_
    refine w_end ?_
    refine q_then ?_
    refine c_seq ?_
    refine rg ?_
    refine st (v := (I (wk .i64 (gshr .u64 (wk .u64 (w64 (a_1 + b_3))) 1)))) (rv_move rfl) ?_
    refine st (v := (I m_2)) (rv_move rfl) ?_
    refine st (v := (I (w64 ((wk .i64 (gshr .u64 (wk .u64 (w64 (a_1 + b_3))) 1)) + m_2)))) (rv_add (a := (wk .i64 (gshr .u64 (wk .u64 (w64 (a_1 + b_3))) 1))) (b := m_2) rfl rfl) ?_
    refine st (v := (I (w64 ((wk .i64 (gshr .u64 (wk .u64 (w64 (a_1 + b_3))) 1)) + m_2)))) (rv_assign rfl) ?_
    refine w_end ?_
    refine q_then ?_
    refine c_seq ?_
    refine rg ?_
    refine st (v := (I 0)) (rv_assign rfl) ?_
    refine st (v := (I 0)) (rv_assign rfl) ?_
    refine w_end ?_
    refine q_then ?_
    refine c_seq ?_
    refine c_seq ?_
    refine rg ?_
    refine st (v := (I m_2)) (rv_move rfl) ?_
    refine st (v := (I (wk .i64 (gshr .u64 (wk .u64 (w64 (a_1 + b_3))) 1)))) (rv_move rfl) ?_
    refine st (v := (B (decide ((wk .i64 (gshr .u64 (wk .u64 (w64 (a_1 + b_3))) 1)) < m_2)))) (rv_gtr (a := m_2) (b := (wk .i64 (gshr .u64 (wk .u64 (w64 (a_1 + b_3))) 1))) rfl rfl) ?_
    refine w_end ?_
    refine q_then ?_
    obtain ⟨o113, hj, h'⟩ := bind_some h
    clear h
    refine c_cut (fun e a w => e = .normal ∧ ∃ (ρ : Nat → Value) (σ : St), a = fr 220 (updL ρ [(0, (Sl adata_0 data_0 cdata_0)), (1, (I a_1)), (2, (I m_2)), (3, (I b_3)), (4, (.func (.func 58) #[] #[(pt bcmp_4_0 ocmp_4_0), (pt bcmp_4_1 ocmp_4_1)])), (18, (I (wk .i64 (gshr .u64 (wk .u64 (w64 (a_1 + b_3))) 1)))), (19, (I (w64 ((wk .i64 (gshr .u64 (wk .u64 (w64 (a_1 + b_3))) 1)) + m_2)))), (20, (I o113.1)), (21, (I o113.2))]) ∧ w = σ.w ∧ Hp S0 σ0 σ [Ch.own 0 0 (Sl adata_0 data_0 cdata_0) data_0, Ch.ro 0 (Sl acmp_4_0 cmp_4_0 ccmp_4_0) cmp_4_0, Ch.bx locmp_4_0 bcmp_4_0 ocmp_4_0 [(Sl acmp_4_0 cmp_4_0 ccmp_4_0)] precmp_4_0 sufcmp_4_0, Ch.ro 0 (Sl acmp_4_1 cmp_4_1 ccmp_4_1) cmp_4_1, Ch.bx locmp_4_1 bcmp_4_1 ocmp_4_1 [(Sl acmp_4_1 cmp_4_1 ccmp_4_1)] precmp_4_1 sufcmp_4_1]) ?_ ?_
    ·clear h'
     rename _ = some o113 => h
     refine cd_cond (decide ((wk .i64 (gshr .u64 (wk .u64 (w64 (a_1 + b_3))) 1)) < m_2)) rfl (fun hb114 => ?_) (fun hb114 => ?_)
     ·replace h := bif_t hb114 h
      refine c_seq ?_
      refine rg ?_
      refine st (v := (I (w64 ((wk .i64 (gshr .u64 (wk .u64 (w64 (a_1 + b_3))) 1)) + m_2)))) (rv_move rfl) ?_
      refine st (v := (I b_3)) (rv_move rfl) ?_
      refine st (v := (I (w64 ((w64 ((wk .i64 (gshr .u64 (wk .u64 (w64 (a_1 + b_3))) 1)) + m_2)) - b_3)))) (rv_sub (a := (w64 ((wk .i64 (gshr .u64 (wk .u64 (w64 (a_1 + b_3))) 1)) + m_2))) (b := b_3) rfl rfl) ?_
      refine st (v := (I (w64 ((w64 ((wk .i64 (gshr .u64 (wk .u64 (w64 (a_1 + b_3))) 1)) + m_2)) - b_3)))) (rv_assign rfl) ?_
      refine w_end ?_
      refine q_then ?_
      refine rg ?_
      refine st (v := (I (wk .i64 (gshr .u64 (wk .u64 (w64 (a_1 + b_3))) 1)))) (rv_move rfl) ?_
      refine st (v := (I (wk .i64 (gshr .u64 (wk .u64 (w64 (a_1 + b_3))) 1)))) (rv_assign rfl) ?_
      refine w_end ?_
      obtain rfl := Option.some.inj h
      exact ⟨rfl, _, σ0, fr_join ⟨rfl, rfl, rfl, rfl, rfl, rfl, rfl, rfl, rfl, trivial⟩, rfl, H.sel' [0, 2, 1, 4, 3] rfl rfl⟩
     ·replace h := bif_f hb114 h
      refine c_seq ?_
      refine rg ?_
      refine st (v := (I a_1)) (rv_move rfl) ?_
      refine st (v := (I a_1)) (rv_assign rfl) ?_
      refine w_end ?_
      refine q_then ?_
      refine rg ?_
      refine st (v := (I m_2)) (rv_move rfl) ?_
      refine st (v := (I m_2)) (rv_assign rfl) ?_
      refine w_end ?_
      obtain rfl := Option.some.inj h
      exact ⟨rfl, _, σ0, fr_join ⟨rfl, rfl, rfl, rfl, rfl, rfl, rfl, rfl, rfl, trivial⟩, rfl, H.sel' [0, 2, 1, 4, 3] rfl rfl⟩
    ·clear hj
     have h := h'
     clear h' H
     rintro e a w ⟨rfl, ρ, σ115, rfl, rfl, H⟩
     refine q_then ?_
     refine c_seq ?_
     refine rg ?_
     refine st (v := (I (w64 ((wk .i64 (gshr .u64 (wk .u64 (w64 (a_1 + b_3))) 1)) + m_2)))) (rv_move rfl) ?_
     refine st (v := (I (w64 ((w64 ((wk .i64 (gshr .u64 (wk .u64 (w64 (a_1 + b_3))) 1)) + m_2)) - 1)))) (rv_sub (a := (w64 ((wk .i64 (gshr .u64 (wk .u64 (w64 (a_1 + b_3))) 1)) + m_2))) (b := 1) rfl rfl) ?_
     refine st (v := (I (w64 ((w64 ((wk .i64 (gshr .u64 (wk .u64 (w64 (a_1 + b_3))) 1)) + m_2)) - 1)))) (rv_assign rfl) ?_
     refine w_end ?_
     refine q_then ?_
     refine c_seq ?_
     obtain ⟨o116, hj, h'⟩ := bind_some h
     clear h
     refine c_cut (fun e a w => e = .normal ∧ ∃ (ρ : Nat → Value) (σ : St), a = fr 220 (updL ρ [(0, (Sl adata_0 data_0 cdata_0)), (1, (I a_1)), (2, (I m_2)), (3, (I b_3)), (4, (.func (.func 58) #[] #[(pt bcmp_4_0 ocmp_4_0), (pt bcmp_4_1 ocmp_4_1)])), (18, (I (wk .i64 (gshr .u64 (wk .u64 (w64 (a_1 + b_3))) 1)))), (19, (I (w64 ((wk .i64 (gshr .u64 (wk .u64 (w64 (a_1 + b_3))) 1)) + m_2)))), (20, (I o116))]) ∧ w = σ.w ∧ Hp S0 σ0 σ [Ch.own 0 0 (Sl adata_0 data_0 cdata_0) data_0, Ch.ro 0 (Sl acmp_4_0 cmp_4_0 ccmp_4_0) cmp_4_0, Ch.bx locmp_4_0 bcmp_4_0 ocmp_4_0 [(Sl acmp_4_0 cmp_4_0 ccmp_4_0)] precmp_4_0 sufcmp_4_0, Ch.ro 0 (Sl acmp_4_1 cmp_4_1 ccmp_4_1) cmp_4_1, Ch.bx locmp_4_1 bcmp_4_1 ocmp_4_1 [(Sl acmp_4_1 cmp_4_1 ccmp_4_1)] precmp_4_1 sufcmp_4_1]) ?_ ?_
     ·clear h'
      rename _ = some o116 => h
      refine c_blk ?_
      refine wp_loopM _ h (fun s117 a w => ∃ (ρ : Nat → Value) (σ : St), a = fr 220 (updL ρ [(0, (Sl adata_0 data_0 cdata_0)), (1, (I a_1)), (2, (I m_2)), (3, (I b_3)), (4, (.func (.func 58) #[] #[(pt bcmp_4_0 ocmp_4_0), (pt bcmp_4_1 ocmp_4_1)])), (18, (I (wk .i64 (gshr .u64 (wk .u64 (w64 (a_1 + b_3))) 1)))), (19, (I (w64 ((wk .i64 (gshr .u64 (wk .u64 (w64 (a_1 + b_3))) 1)) + m_2)))), (20, (I s117.1)), (21, (I s117.2)), (22, (I (w64 ((w64 ((wk .i64 (gshr .u64 (wk .u64 (w64 (a_1 + b_3))) 1)) + m_2)) - 1))))]) ∧ w = σ.w ∧ Hp S0 σ0 σ [Ch.own 0 0 (Sl adata_0 data_0 cdata_0) data_0, Ch.ro 0 (Sl acmp_4_0 cmp_4_0 ccmp_4_0) cmp_4_0, Ch.bx locmp_4_0 bcmp_4_0 ocmp_4_0 [(Sl acmp_4_0 cmp_4_0 ccmp_4_0)] precmp_4_0 sufcmp_4_0, Ch.ro 0 (Sl acmp_4_1 cmp_4_1 ccmp_4_1) cmp_4_1, Ch.bx locmp_4_1 bcmp_4_1 ocmp_4_1 [(Sl acmp_4_1 cmp_4_1 ccmp_4_1)] precmp_4_1 sufcmp_4_1]) ⟨_, σ115, fr_join ⟨rfl, rfl, rfl, rfl, rfl, rfl, rfl, rfl, rfl, rfl, trivial⟩, rfl, H.sel' [0, 1, 2, 3, 4] rfl rfl⟩ ?_
      clear h H
      rintro s117 a w o ⟨ρ, σ118, rfl, rfl, H⟩ h hres
      refine c_seq ?_
      refine c_seq ?_
      refine rg ?_
      refine st (v := (I s117.1)) (rv_move rfl) ?_
      refine st (v := (I s117.2)) (rv_move rfl) ?_
      refine st (v := (B (decide (s117.1 < s117.2)))) (rv_lss (a := s117.1) (b := s117.2) rfl rfl) ?_
      refine w_end ?_
      refine q_then ?_
      refine cd_cond (decide (s117.1 < s117.2)) rfl (fun hb119 => ?_) (fun hb119 => ?_)
      ·replace h := bif_t hb119 h
       refine c_skip ?_
       refine q_then ?_
       refine c_blk ?_
       refine c_seq ?_
       refine rg ?_
       refine st (v := (I s117.1)) (rv_move rfl) ?_
       refine st (v := (I s117.2)) (rv_move rfl) ?_
       refine st (v := (I (w64 (s117.1 + s117.2)))) (rv_add (a := s117.1) (b := s117.2) rfl rfl) ?_
       refine st (v := (.int .u64 (wk .u64 (w64 (s117.1 + s117.2))))) (rvk_conv (k := .i64) (k' := .u64) (a := (w64 (s117.1 + s117.2))) Try.underlying3 Try.underlying121 rfl) ?_
       refine st (v := (.int .u64 (gshr .u64 (wk .u64 (w64 (s117.1 + s117.2))) 1))) (rvk_shr (k := .u64) (k' := .u64) (a := (wk .u64 (w64 (s117.1 + s117.2)))) (b := 1) rfl rfl (by decide)) ?_
       refine st (v := (I (wk .i64 (gshr .u64 (wk .u64 (w64 (s117.1 + s117.2))) 1)))) (rvk_conv (k := .u64) (k' := .i64) (a := (gshr .u64 (wk .u64 (w64 (s117.1 + s117.2))) 1)) Try.underlying121 Try.underlying3 rfl) ?_
       refine st (v := (I (wk .i64 (gshr .u64 (wk .u64 (w64 (s117.1 + s117.2))) 1)))) (rv_assign rfl) ?_
       refine w_end ?_
       refine q_then ?_
       refine c_seq ?_
       refine rgP (σ := σ118) 11 (by kernel_rfl) (by kernel_rfl) (by kernel_rfl) ?_
       refine sq (v := (.func (.func 58) #[] #[(pt bcmp_4_0 ocmp_4_0), (pt bcmp_4_1 ocmp_4_1)])) (rv_move rfl) ?_
       refine sq (v := (Sl adata_0 data_0 cdata_0)) (rv_move rfl) ?_
       refine sq (v := (I (w64 ((w64 ((wk .i64 (gshr .u64 (wk .u64 (w64 (a_1 + b_3))) 1)) + m_2)) - 1)))) (rv_move rfl) ?_
       refine sq (v := (I (wk .i64 (gshr .u64 (wk .u64 (w64 (s117.1 + s117.2))) 1)))) (rv_move rfl) ?_
       refine sq (v := (I (w64 ((w64 ((w64 ((wk .i64 (gshr .u64 (wk .u64 (w64 (a_1 + b_3))) 1)) + m_2)) - 1)) - (wk .i64 (gshr .u64 (wk .u64 (w64 (s117.1 + s117.2))) 1)))))) (rv_sub (a := (w64 ((w64 ((wk .i64 (gshr .u64 (wk .u64 (w64 (a_1 + b_3))) 1)) + m_2)) - 1))) (b := (wk .i64 (gshr .u64 (wk .u64 (w64 (s117.1 + s117.2))) 1))) rfl rfl) ?_
       obtain ⟨x120, hx121, h'⟩ := bind_some h
       clear h
       have h := h'; clear h'
       obtain ⟨b123, o124, hi122, -⟩ := (H.own 0 rfl).ix hx121
       refine sq (v := (pt b123 o124)) (rv_ix Try.underlying29 ti3 rfl rfl hi122) ?_
       have hc125 := ((H.own 0 rfl).at hx121 hi122).int
       refine sq (v := (I x120)) (rv_load1 Try.underlying3 rfl rfl hc125) ?_
       refine sq (v := (Sl adata_0 data_0 cdata_0)) (rv_move rfl) ?_
       refine sq (v := (I (wk .i64 (gshr .u64 (wk .u64 (w64 (s117.1 + s117.2))) 1)))) (rv_move rfl) ?_
       obtain ⟨x126, hx127, h'⟩ := bind_some h
       clear h
       have h := h'; clear h'
       obtain ⟨b129, o130, hi128, -⟩ := (H.own 0 rfl).ix hx127
       refine sq (v := (pt b129 o130)) (rv_ix Try.underlying29 ti3 rfl rfl hi128) ?_
       have hc131 := ((H.own 0 rfl).at hx127 hi128).int
       refine sq (v := (I x126)) (rv_load1 Try.underlying3 rfl rfl hc131) ?_
       refine sq_end ?_
       intro σ132 hm133
       replace H := H.grow (hm133.mono fun _ h => h); clear hm133
       obtain ⟨r134, hx135, h'⟩ := bind_some h
       clear h
       have h := h'; clear h'
       have hc136 := c_impl_ProbeOrder_1__p_SSint__p24 (lop_2 := locmp_4_0) (bp_2 := bcmp_4_0) (op_2 := ocmp_4_0) (prep_2 := precmp_4_0) (sufp_2 := sufcmp_4_0) (ap_2 := acmp_4_0) (cp_2 := ccmp_4_0) (lop_3 := locmp_4_1) (bp_3 := bcmp_4_1) (op_3 := ocmp_4_1) (prep_3 := precmp_4_1) (sufp_3 := sufcmp_4_1) (ap_3 := acmp_4_1) (cp_3 := ccmp_4_1) hx135
       refine st_call (cx_call hc136 (ent_v (cap := [(pt bcmp_4_0 ocmp_4_0), (pt bcmp_4_1 ocmp_4_1)]) hc136.fn rfl rfl) hn0 (show Hp S0 σ0 _ ([Ch.bx locmp_4_0 bcmp_4_0 ocmp_4_0 [(Sl acmp_4_0 cmp_4_0 ccmp_4_0)] precmp_4_0 sufcmp_4_0, Ch.ro 0 (Sl acmp_4_0 cmp_4_0 ccmp_4_0) cmp_4_0, Ch.bx locmp_4_1 bcmp_4_1 ocmp_4_1 [(Sl acmp_4_1 cmp_4_1 ccmp_4_1)] precmp_4_1 sufcmp_4_1, Ch.ro 0 (Sl acmp_4_1 cmp_4_1 ccmp_4_1) cmp_4_1] ++ [Ch.own 0 0 (Sl adata_0 data_0 cdata_0) data_0, Ch.ro 0 (Sl acmp_4_0 cmp_4_0 ccmp_4_0) cmp_4_0, Ch.ro 0 (Sl acmp_4_1 cmp_4_1 ccmp_4_1) cmp_4_1]) from (H.sel' [2, 1, 4, 3, 0, 1, 3] rfl rfl))) wn ?_
       rintro _ σ137 ⟨_, ⟨rfl, rfl⟩, H, -⟩
       replace H : Hp S0 σ0 σ137 [Ch.bx locmp_4_0 bcmp_4_0 ocmp_4_0 [(Sl acmp_4_0 cmp_4_0 ccmp_4_0)] precmp_4_0 sufcmp_4_0, Ch.bx locmp_4_1 bcmp_4_1 ocmp_4_1 [(Sl acmp_4_1 cmp_4_1 ccmp_4_1)] precmp_4_1 sufcmp_4_1, Ch.own 0 0 (Sl adata_0 data_0 cdata_0) data_0, Ch.ro 0 (Sl acmp_4_0 cmp_4_0 ccmp_4_0) cmp_4_0, Ch.ro 0 (Sl acmp_4_1 cmp_4_1 ccmp_4_1) cmp_4_1] := H
       refine st (v := (B (decide (r134 < 0)))) (rv_lss (a := r134) (b := 0) rfl rfl) ?_
       refine st (v := (B (!(decide (r134 < 0))))) (rv_not rfl) ?_
       refine w_end ?_
       refine q_then ?_
       refine cd_cond (!(decide (r134 < 0))) rfl (fun hb138 => ?_) (fun hb138 => ?_)
       ·replace h := bif_t hb138 h
        refine rg ?_
        refine st (v := (I (wk .i64 (gshr .u64 (wk .u64 (w64 (s117.1 + s117.2))) 1)))) (rv_move rfl) ?_
        refine st (v := (I (w64 ((wk .i64 (gshr .u64 (wk .u64 (w64 (s117.1 + s117.2))) 1)) + 1)))) (rv_add (a := (wk .i64 (gshr .u64 (wk .u64 (w64 (s117.1 + s117.2))) 1))) (b := 1) rfl rfl) ?_
        refine st (v := (I (w64 ((wk .i64 (gshr .u64 (wk .u64 (w64 (s117.1 + s117.2))) 1)) + 1)))) (rv_assign rfl) ?_
        refine w_end ?_
        refine q_blk ?_
        refine q_then ?_
        obtain rfl := Option.some.inj h
        exact ⟨_, rfl, _, σ137, fr_join ⟨rfl, rfl, rfl, rfl, rfl, rfl, rfl, rfl, rfl, rfl, trivial⟩, rfl, H.sel' [2, 3, 0, 4, 1] rfl rfl⟩
       ·replace h := bif_f hb138 h
        refine rg ?_
        refine st (v := (I (wk .i64 (gshr .u64 (wk .u64 (w64 (s117.1 + s117.2))) 1)))) (rv_move rfl) ?_
        refine st (v := (I (wk .i64 (gshr .u64 (wk .u64 (w64 (s117.1 + s117.2))) 1)))) (rv_assign rfl) ?_
        refine w_end ?_
        refine q_blk ?_
        refine q_then ?_
        obtain rfl := Option.some.inj h
        exact ⟨_, rfl, _, σ137, fr_join ⟨rfl, rfl, rfl, rfl, rfl, rfl, rfl, rfl, rfl, rfl, trivial⟩, rfl, H.sel' [2, 3, 0, 4, 1] rfl rfl⟩
      ·replace h := bif_f hb119 h
       refine c_exit ?_
       refine q_then_x ?_
       refine q_then_x ?_
       refine q_blk_hit ?_
       obtain rfl := Option.some.inj h
       obtain rfl := hres _ rfl
       exact ⟨rfl, _, σ118, fr_join ⟨rfl, rfl, rfl, rfl, rfl, rfl, rfl, rfl, trivial⟩, rfl, H.sel' [0, 1, 2, 3, 4] rfl rfl⟩
     ·clear hj
      have h := h'
      clear h' H
      rintro e a w ⟨rfl, ρ, σ139, rfl, rfl, H⟩
      refine q_then ?_
      refine c_seq ?_
      refine rg ?_
      refine st (v := (I (w64 ((wk .i64 (gshr .u64 (wk .u64 (w64 (a_1 + b_3))) 1)) + m_2)))) (rv_move rfl) ?_
      refine st (v := (I o116)) (rv_move rfl) ?_
      refine st (v := (I (w64 ((w64 ((wk .i64 (gshr .u64 (wk .u64 (w64 (a_1 + b_3))) 1)) + m_2)) - o116)))) (rv_sub (a := (w64 ((wk .i64 (gshr .u64 (wk .u64 (w64 (a_1 + b_3))) 1)) + m_2))) (b := o116) rfl rfl) ?_
      refine st (v := (I (w64 ((w64 ((wk .i64 (gshr .u64 (wk .u64 (w64 (a_1 + b_3))) 1)) + m_2)) - o116)))) (rv_assign rfl) ?_
      refine w_end ?_
      refine q_then ?_
      refine c_seq ?_
      refine c_seq ?_
      obtain ⟨o140, hj, h'⟩ := bind_some h
      clear h
      refine c_cut (fun e a w => e = .normal ∧ ∃ (ρ : Nat → Value) (σ : St), a = fr 220 (updL ρ [(0, (Sl adata_0 data_0 cdata_0)), (1, (I a_1)), (2, (I m_2)), (3, (I b_3)), (4, (.func (.func 58) #[] #[(pt bcmp_4_0 ocmp_4_0), (pt bcmp_4_1 ocmp_4_1)])), (18, (I (wk .i64 (gshr .u64 (wk .u64 (w64 (a_1 + b_3))) 1)))), (20, (I o116)), (24, (I (w64 ((w64 ((wk .i64 (gshr .u64 (wk .u64 (w64 (a_1 + b_3))) 1)) + m_2)) - o116)))), (185, (B o140))]) ∧ w = σ.w ∧ Hp S0 σ0 σ [Ch.own 0 0 (Sl adata_0 data_0 cdata_0) data_0, Ch.ro 0 (Sl acmp_4_0 cmp_4_0 ccmp_4_0) cmp_4_0, Ch.bx locmp_4_0 bcmp_4_0 ocmp_4_0 [(Sl acmp_4_0 cmp_4_0 ccmp_4_0)] precmp_4_0 sufcmp_4_0, Ch.ro 0 (Sl acmp_4_1 cmp_4_1 ccmp_4_1) cmp_4_1, Ch.bx locmp_4_1 bcmp_4_1 ocmp_4_1 [(Sl acmp_4_1 cmp_4_1 ccmp_4_1)] precmp_4_1 sufcmp_4_1]) ?_ ?_
      ·clear h'
       rename _ = some o140 => h
       refine rg ?_
       refine st (v := (I o116)) (rv_move rfl) ?_
       refine st (v := (I m_2)) (rv_move rfl) ?_
       refine st (v := (B (decide (o116 < m_2)))) (rv_lss (a := o116) (b := m_2) rfl rfl) ?_
       refine st (v := (B (decide (o116 < m_2)))) (rv_move rfl) ?_
       rcases Bool.eq_false_or_eq_true (decide (o116 < m_2)) with hb141 | hb141
       ·replace h := bif_t hb141 h
        refine st_g (v := (I m_2)) (congrArg some hb141) (rv_move rfl) ?_
        refine st_g (v := (I (w64 ((w64 ((wk .i64 (gshr .u64 (wk .u64 (w64 (a_1 + b_3))) 1)) + m_2)) - o116)))) (congrArg some hb141) (rv_move rfl) ?_
        refine st_g (v := (B (decide (m_2 < (w64 ((w64 ((wk .i64 (gshr .u64 (wk .u64 (w64 (a_1 + b_3))) 1)) + m_2)) - o116)))))) (congrArg some hb141) (rv_lss (a := m_2) (b := (w64 ((w64 ((wk .i64 (gshr .u64 (wk .u64 (w64 (a_1 + b_3))) 1)) + m_2)) - o116))) rfl rfl) ?_
        refine st (v := (B (decide (m_2 < (w64 ((w64 ((wk .i64 (gshr .u64 (wk .u64 (w64 (a_1 + b_3))) 1)) + m_2)) - o116)))))) (rv_pick_t (congrArg B hb141) rfl) ?_
        refine w_end ?_
        obtain rfl := Option.some.inj h
        exact ⟨rfl, _, σ139, fr_join ⟨rfl, rfl, rfl, rfl, rfl, rfl, rfl, rfl, rfl, trivial⟩, rfl, H.sel' [0, 1, 2, 3, 4] rfl rfl⟩
       ·replace h := bif_f hb141 h
        refine st_skip (congrArg some hb141) ?_
        refine st_skip (congrArg some hb141) ?_
        refine st_skip (congrArg some hb141) ?_
        refine st (v := (B false)) (rv_pick_f (congrArg B hb141) rfl) ?_
        refine w_end ?_
        obtain rfl := Option.some.inj h
        exact ⟨rfl, _, σ139, fr_join ⟨rfl, rfl, rfl, rfl, rfl, rfl, rfl, rfl, rfl, trivial⟩, rfl, H.sel' [0, 1, 2, 3, 4] rfl rfl⟩
      ·clear hj
       have h := h'
       clear h' H
       rintro e a w ⟨rfl, ρ, σ142, rfl, rfl, H⟩
       refine q_then ?_
       obtain ⟨o143, hj, h'⟩ := bind_some h
       clear h
       refine c_cut (fun e a w => e = .normal ∧ ∃ (ρ : Nat → Value) (σ : St), a = fr 220 (updL ρ [(0, (Sl adata_0 o143 cdata_0)), (1, (I a_1)), (3, (I b_3)), (4, (.func (.func 58) #[] #[(pt bcmp_4_0 ocmp_4_0), (pt bcmp_4_1 ocmp_4_1)])), (18, (I (wk .i64 (gshr .u64 (wk .u64 (w64 (a_1 + b_3))) 1)))), (20, (I o116)), (24, (I (w64 ((w64 ((wk .i64 (gshr .u64 (wk .u64 (w64 (a_1 + b_3))) 1)) + m_2)) - o116))))]) ∧ w = σ.w ∧ Hp S0 σ0 σ [Ch.own 0 0 (Sl adata_0 o143 cdata_0) o143, Ch.ro 0 (Sl acmp_4_0 cmp_4_0 ccmp_4_0) cmp_4_0, Ch.bx locmp_4_0 bcmp_4_0 ocmp_4_0 [(Sl acmp_4_0 cmp_4_0 ccmp_4_0)] precmp_4_0 sufcmp_4_0, Ch.ro 0 (Sl acmp_4_1 cmp_4_1 ccmp_4_1) cmp_4_1, Ch.bx locmp_4_1 bcmp_4_1 ocmp_4_1 [(Sl acmp_4_1 cmp_4_1 ccmp_4_1)] precmp_4_1 sufcmp_4_1] ∧ o143.length = data_0.length) ?_ ?_
       ·clear h'
        rename _ = some o143 => h
        refine cd_cond o140 rfl (fun hb144 => ?_) (fun hb144 => ?_)
        ·replace h := bif_t hb144 h
         refine rg ?_
         refine st (v := (Sl adata_0 data_0 cdata_0)) (rv_move rfl) ?_
         refine st (v := (I o116)) (rv_move rfl) ?_
         refine st (v := (I m_2)) (rv_move rfl) ?_
         refine st (v := (I (w64 ((w64 ((wk .i64 (gshr .u64 (wk .u64 (w64 (a_1 + b_3))) 1)) + m_2)) - o116)))) (rv_move rfl) ?_
         refine st (v := (.func (.func 58) #[] #[(pt bcmp_4_0 ocmp_4_0), (pt bcmp_4_1 ocmp_4_1)])) (rv_move rfl) ?_
         obtain ⟨r145, hx146, h'⟩ := bind_some h
         clear h
         have h := h'; clear h'
         have hc147 := c_slices_rotateCmpFunc_int__impl_ProbeOrder_1 (adata_0 := adata_0) (cdata_0 := cdata_0) (locmp_4_0 := locmp_4_0) (bcmp_4_0 := bcmp_4_0) (ocmp_4_0 := ocmp_4_0) (precmp_4_0 := precmp_4_0) (sufcmp_4_0 := sufcmp_4_0) (acmp_4_0 := acmp_4_0) (ccmp_4_0 := ccmp_4_0) (locmp_4_1 := locmp_4_1) (bcmp_4_1 := bcmp_4_1) (ocmp_4_1 := ocmp_4_1) (precmp_4_1 := precmp_4_1) (sufcmp_4_1 := sufcmp_4_1) (acmp_4_1 := acmp_4_1) (ccmp_4_1 := ccmp_4_1) hx146
         refine st_call (cx_call hc147 (ent_f hc147.fn rfl) hn0 (show Hp S0 σ0 _ ([Ch.own 0 0 (Sl adata_0 data_0 cdata_0) data_0, Ch.bx locmp_4_0 bcmp_4_0 ocmp_4_0 [(Sl acmp_4_0 cmp_4_0 ccmp_4_0)] precmp_4_0 sufcmp_4_0, Ch.ro 0 (Sl acmp_4_0 cmp_4_0 ccmp_4_0) cmp_4_0, Ch.bx locmp_4_1 bcmp_4_1 ocmp_4_1 [(Sl acmp_4_1 cmp_4_1 ccmp_4_1)] precmp_4_1 sufcmp_4_1, Ch.ro 0 (Sl acmp_4_1 cmp_4_1 ccmp_4_1) cmp_4_1] ++ [Ch.ro 0 (Sl acmp_4_0 cmp_4_0 ccmp_4_0) cmp_4_0, Ch.ro 0 (Sl acmp_4_1 cmp_4_1 ccmp_4_1) cmp_4_1]) from (H.sel' [0, 2, 1, 4, 3, 1, 3] rfl rfl))) wn ?_
         rintro _ σ149 ⟨_, ⟨rfl, rfl, hn148⟩, H, -⟩
         replace H : Hp S0 σ0 σ149 [Ch.own 0 0 (Sl adata_0 r145 cdata_0) r145, Ch.bx locmp_4_0 bcmp_4_0 ocmp_4_0 [(Sl acmp_4_0 cmp_4_0 ccmp_4_0)] precmp_4_0 sufcmp_4_0, Ch.bx locmp_4_1 bcmp_4_1 ocmp_4_1 [(Sl acmp_4_1 cmp_4_1 ccmp_4_1)] precmp_4_1 sufcmp_4_1, Ch.ro 0 (Sl acmp_4_0 cmp_4_0 ccmp_4_0) cmp_4_0, Ch.ro 0 (Sl acmp_4_1 cmp_4_1 ccmp_4_1) cmp_4_1] := H
         have hsl : (Sl adata_0 data_0 cdata_0) = (Sl adata_0 r145 cdata_0) := sl_len hn148.symm
         try rw [hsl]
         try rw [hsl] at H
         clear hsl
         refine w_end ?_
         obtain rfl := Option.some.inj h
         exact ⟨rfl, _, σ149, fr_join ⟨rfl, rfl, rfl, rfl, rfl, rfl, rfl, trivial⟩, rfl, H.sel' [0, 3, 1, 4, 2] rfl rfl, hn148⟩
        ·replace h := bif_f hb144 h
         refine c_skip ?_
         obtain rfl := Option.some.inj h
         exact ⟨rfl, _, σ142, fr_join ⟨rfl, rfl, rfl, rfl, rfl, rfl, rfl, trivial⟩, rfl, H.sel' [0, 1, 2, 3, 4] rfl rfl, rfl⟩
       ·clear hj
        have h := h'
        clear h' H
        rintro e a w ⟨rfl, ρ, σ150, rfl, rfl, H, hn151⟩
        refine q_then ?_
        refine c_seq ?_
        refine c_seq ?_
        obtain ⟨o152, hj, h'⟩ := bind_some h
        clear h
        refine c_cut (fun e a w => e = .normal ∧ ∃ (ρ : Nat → Value) (σ : St), a = fr 220 (updL ρ [(0, (Sl adata_0 o143 cdata_0)), (1, (I a_1)), (3, (I b_3)), (4, (.func (.func 58) #[] #[(pt bcmp_4_0 ocmp_4_0), (pt bcmp_4_1 ocmp_4_1)])), (18, (I (wk .i64 (gshr .u64 (wk .u64 (w64 (a_1 + b_3))) 1)))), (20, (I o116)), (24, (I (w64 ((w64 ((wk .i64 (gshr .u64 (wk .u64 (w64 (a_1 + b_3))) 1)) + m_2)) - o116)))), (199, (B o152))]) ∧ w = σ.w ∧ Hp S0 σ0 σ [Ch.own 0 0 (Sl adata_0 o143 cdata_0) o143, Ch.ro 0 (Sl acmp_4_0 cmp_4_0 ccmp_4_0) cmp_4_0, Ch.bx locmp_4_0 bcmp_4_0 ocmp_4_0 [(Sl acmp_4_0 cmp_4_0 ccmp_4_0)] precmp_4_0 sufcmp_4_0, Ch.ro 0 (Sl acmp_4_1 cmp_4_1 ccmp_4_1) cmp_4_1, Ch.bx locmp_4_1 bcmp_4_1 ocmp_4_1 [(Sl acmp_4_1 cmp_4_1 ccmp_4_1)] precmp_4_1 sufcmp_4_1]) ?_ ?_
        ·clear h'
         rename _ = some o152 => h
         refine rg ?_
         refine st (v := (I a_1)) (rv_move rfl) ?_
         refine st (v := (I o116)) (rv_move rfl) ?_
         refine st (v := (B (decide (a_1 < o116)))) (rv_lss (a := a_1) (b := o116) rfl rfl) ?_
         refine st (v := (B (decide (a_1 < o116)))) (rv_move rfl) ?_
         rcases Bool.eq_false_or_eq_true (decide (a_1 < o116)) with hb153 | hb153
         ·replace h := bif_t hb153 h
          refine st_g (v := (I o116)) (congrArg some hb153) (rv_move rfl) ?_
          refine st_g (v := (I (wk .i64 (gshr .u64 (wk .u64 (w64 (a_1 + b_3))) 1)))) (congrArg some hb153) (rv_move rfl) ?_
          refine st_g (v := (B (decide (o116 < (wk .i64 (gshr .u64 (wk .u64 (w64 (a_1 + b_3))) 1)))))) (congrArg some hb153) (rv_lss (a := o116) (b := (wk .i64 (gshr .u64 (wk .u64 (w64 (a_1 + b_3))) 1))) rfl rfl) ?_
          refine st (v := (B (decide (o116 < (wk .i64 (gshr .u64 (wk .u64 (w64 (a_1 + b_3))) 1)))))) (rv_pick_t (congrArg B hb153) rfl) ?_
          refine w_end ?_
          obtain rfl := Option.some.inj h
          exact ⟨rfl, _, σ150, fr_join ⟨rfl, rfl, rfl, rfl, rfl, rfl, rfl, rfl, trivial⟩, rfl, H.sel' [0, 1, 2, 3, 4] rfl rfl⟩
         ·replace h := bif_f hb153 h
          refine st_skip (congrArg some hb153) ?_
          refine st_skip (congrArg some hb153) ?_
          refine st_skip (congrArg some hb153) ?_
          refine st (v := (B false)) (rv_pick_f (congrArg B hb153) rfl) ?_
          refine w_end ?_
          obtain rfl := Option.some.inj h
          exact ⟨rfl, _, σ150, fr_join ⟨rfl, rfl, rfl, rfl, rfl, rfl, rfl, rfl, trivial⟩, rfl, H.sel' [0, 1, 2, 3, 4] rfl rfl⟩
        ·clear hj
         have h := h'
         clear h' H
         rintro e a w ⟨rfl, ρ, σ154, rfl, rfl, H⟩
         refine q_then ?_
         obtain ⟨o155, hj, h'⟩ := bind_some h
         clear h
         refine c_cut (fun e a w => e = .normal ∧ ∃ (ρ : Nat → Value) (σ : St), a = fr 220 (updL ρ [(0, (Sl adata_0 o155 cdata_0)), (3, (I b_3)), (4, (.func (.func 58) #[] #[(pt bcmp_4_0 ocmp_4_0), (pt bcmp_4_1 ocmp_4_1)])), (18, (I (wk .i64 (gshr .u64 (wk .u64 (w64 (a_1 + b_3))) 1)))), (24, (I (w64 ((w64 ((wk .i64 (gshr .u64 (wk .u64 (w64 (a_1 + b_3))) 1)) + m_2)) - o116))))]) ∧ w = σ.w ∧ Hp S0 σ0 σ [Ch.own 0 0 (Sl adata_0 o155 cdata_0) o155, Ch.ro 0 (Sl acmp_4_0 cmp_4_0 ccmp_4_0) cmp_4_0, Ch.bx locmp_4_0 bcmp_4_0 ocmp_4_0 [(Sl acmp_4_0 cmp_4_0 ccmp_4_0)] precmp_4_0 sufcmp_4_0, Ch.ro 0 (Sl acmp_4_1 cmp_4_1 ccmp_4_1) cmp_4_1, Ch.bx locmp_4_1 bcmp_4_1 ocmp_4_1 [(Sl acmp_4_1 cmp_4_1 ccmp_4_1)] precmp_4_1 sufcmp_4_1] ∧ o155.length = o143.length) ?_ ?_
         ·clear h'
          rename _ = some o155 => h
          refine cd_cond o152 rfl (fun hb156 => ?_) (fun hb156 => ?_)
          ·replace h := bif_t hb156 h
           refine rg ?_
           refine st (v := (Sl adata_0 o143 cdata_0)) (rv_move rfl) ?_
           refine st (v := (I a_1)) (rv_move rfl) ?_
           refine st (v := (I o116)) (rv_move rfl) ?_
           refine st (v := (I (wk .i64 (gshr .u64 (wk .u64 (w64 (a_1 + b_3))) 1)))) (rv_move rfl) ?_
           refine st (v := (.func (.func 58) #[] #[(pt bcmp_4_0 ocmp_4_0), (pt bcmp_4_1 ocmp_4_1)])) (rv_move rfl) ?_
           obtain ⟨r157, hx158, h'⟩ := bind_some h
           clear h
           have h := h'; clear h'
           have hc159 := ih (adata_0 := adata_0) (cdata_0 := cdata_0) (locmp_4_0 := locmp_4_0) (bcmp_4_0 := bcmp_4_0) (ocmp_4_0 := ocmp_4_0) (precmp_4_0 := precmp_4_0) (sufcmp_4_0 := sufcmp_4_0) (acmp_4_0 := acmp_4_0) (ccmp_4_0 := ccmp_4_0) (locmp_4_1 := locmp_4_1) (bcmp_4_1 := bcmp_4_1) (ocmp_4_1 := ocmp_4_1) (precmp_4_1 := precmp_4_1) (sufcmp_4_1 := sufcmp_4_1) (acmp_4_1 := acmp_4_1) (ccmp_4_1 := ccmp_4_1) hx158
           refine st_call (cx_call hc159 (ent_f hc159.fn rfl) hn0 (show Hp S0 σ0 _ ([Ch.own 0 0 (Sl adata_0 o143 cdata_0) o143, Ch.bx locmp_4_0 bcmp_4_0 ocmp_4_0 [(Sl acmp_4_0 cmp_4_0 ccmp_4_0)] precmp_4_0 sufcmp_4_0, Ch.ro 0 (Sl acmp_4_0 cmp_4_0 ccmp_4_0) cmp_4_0, Ch.bx locmp_4_1 bcmp_4_1 ocmp_4_1 [(Sl acmp_4_1 cmp_4_1 ccmp_4_1)] precmp_4_1 sufcmp_4_1, Ch.ro 0 (Sl acmp_4_1 cmp_4_1 ccmp_4_1) cmp_4_1] ++ [Ch.ro 0 (Sl acmp_4_0 cmp_4_0 ccmp_4_0) cmp_4_0, Ch.ro 0 (Sl acmp_4_1 cmp_4_1 ccmp_4_1) cmp_4_1]) from (H.sel' [0, 2, 1, 4, 3, 1, 3] rfl rfl))) wn ?_
           rintro _ σ161 ⟨_, ⟨rfl, rfl, hn160⟩, H, -⟩
           replace H : Hp S0 σ0 σ161 [Ch.own 0 0 (Sl adata_0 r157 cdata_0) r157, Ch.bx locmp_4_0 bcmp_4_0 ocmp_4_0 [(Sl acmp_4_0 cmp_4_0 ccmp_4_0)] precmp_4_0 sufcmp_4_0, Ch.bx locmp_4_1 bcmp_4_1 ocmp_4_1 [(Sl acmp_4_1 cmp_4_1 ccmp_4_1)] precmp_4_1 sufcmp_4_1, Ch.ro 0 (Sl acmp_4_0 cmp_4_0 ccmp_4_0) cmp_4_0, Ch.ro 0 (Sl acmp_4_1 cmp_4_1 ccmp_4_1) cmp_4_1] := H
           have hsl : (Sl adata_0 o143 cdata_0) = (Sl adata_0 r157 cdata_0) := sl_len hn160.symm
           try rw [hsl]
           try rw [hsl] at H
           clear hsl
           refine w_end ?_
           obtain rfl := Option.some.inj h
           exact ⟨rfl, _, σ161, fr_join ⟨rfl, rfl, rfl, rfl, rfl, trivial⟩, rfl, H.sel' [0, 3, 1, 4, 2] rfl rfl, ((hn160.trans hn151).trans hn151.symm)⟩
          ·replace h := bif_f hb156 h
           refine c_skip ?_
           obtain rfl := Option.some.inj h
           exact ⟨rfl, _, σ154, fr_join ⟨rfl, rfl, rfl, rfl, rfl, trivial⟩, rfl, H.sel' [0, 1, 2, 3, 4] rfl rfl, rfl⟩
         ·clear hj
          have h := h'
          clear h' H
          rintro e a w ⟨rfl, ρ, σ162, rfl, rfl, H, hn163⟩
          refine q_then ?_
          refine c_seq ?_
          obtain ⟨o164, hj, h'⟩ := bind_some h
          clear h
          refine c_cut (fun e a w => e = .normal ∧ ∃ (ρ : Nat → Value) (σ : St), a = fr 220 (updL ρ [(0, (Sl adata_0 o155 cdata_0)), (3, (I b_3)), (4, (.func (.func 58) #[] #[(pt bcmp_4_0 ocmp_4_0), (pt bcmp_4_1 ocmp_4_1)])), (18, (I (wk .i64 (gshr .u64 (wk .u64 (w64 (a_1 + b_3))) 1)))), (24, (I (w64 ((w64 ((wk .i64 (gshr .u64 (wk .u64 (w64 (a_1 + b_3))) 1)) + m_2)) - o116)))), (213, (B o164))]) ∧ w = σ.w ∧ Hp S0 σ0 σ [Ch.own 0 0 (Sl adata_0 o155 cdata_0) o155, Ch.ro 0 (Sl acmp_4_0 cmp_4_0 ccmp_4_0) cmp_4_0, Ch.bx locmp_4_0 bcmp_4_0 ocmp_4_0 [(Sl acmp_4_0 cmp_4_0 ccmp_4_0)] precmp_4_0 sufcmp_4_0, Ch.ro 0 (Sl acmp_4_1 cmp_4_1 ccmp_4_1) cmp_4_1, Ch.bx locmp_4_1 bcmp_4_1 ocmp_4_1 [(Sl acmp_4_1 cmp_4_1 ccmp_4_1)] precmp_4_1 sufcmp_4_1]) ?_ ?_
          ·clear h'
           rename _ = some o164 => h
           refine rg ?_
           refine st (v := (I (wk .i64 (gshr .u64 (wk .u64 (w64 (a_1 + b_3))) 1)))) (rv_move rfl) ?_
           refine st (v := (I (w64 ((w64 ((wk .i64 (gshr .u64 (wk .u64 (w64 (a_1 + b_3))) 1)) + m_2)) - o116)))) (rv_move rfl) ?_
           refine st (v := (B (decide ((wk .i64 (gshr .u64 (wk .u64 (w64 (a_1 + b_3))) 1)) < (w64 ((w64 ((wk .i64 (gshr .u64 (wk .u64 (w64 (a_1 + b_3))) 1)) + m_2)) - o116)))))) (rv_lss (a := (wk .i64 (gshr .u64 (wk .u64 (w64 (a_1 + b_3))) 1))) (b := (w64 ((w64 ((wk .i64 (gshr .u64 (wk .u64 (w64 (a_1 + b_3))) 1)) + m_2)) - o116))) rfl rfl) ?_
           refine st (v := (B (decide ((wk .i64 (gshr .u64 (wk .u64 (w64 (a_1 + b_3))) 1)) < (w64 ((w64 ((wk .i64 (gshr .u64 (wk .u64 (w64 (a_1 + b_3))) 1)) + m_2)) - o116)))))) (rv_move rfl) ?_
           rcases Bool.eq_false_or_eq_true (decide ((wk .i64 (gshr .u64 (wk .u64 (w64 (a_1 + b_3))) 1)) < (w64 ((w64 ((wk .i64 (gshr .u64 (wk .u64 (w64 (a_1 + b_3))) 1)) + m_2)) - o116)))) with hb165 | hb165
           ·replace h := bif_t hb165 h
            refine st_g (v := (I (w64 ((w64 ((wk .i64 (gshr .u64 (wk .u64 (w64 (a_1 + b_3))) 1)) + m_2)) - o116)))) (congrArg some hb165) (rv_move rfl) ?_
            refine st_g (v := (I b_3)) (congrArg some hb165) (rv_move rfl) ?_
            refine st_g (v := (B (decide ((w64 ((w64 ((wk .i64 (gshr .u64 (wk .u64 (w64 (a_1 + b_3))) 1)) + m_2)) - o116)) < b_3)))) (congrArg some hb165) (rv_lss (a := (w64 ((w64 ((wk .i64 (gshr .u64 (wk .u64 (w64 (a_1 + b_3))) 1)) + m_2)) - o116))) (b := b_3) rfl rfl) ?_
            refine st (v := (B (decide ((w64 ((w64 ((wk .i64 (gshr .u64 (wk .u64 (w64 (a_1 + b_3))) 1)) + m_2)) - o116)) < b_3)))) (rv_pick_t (congrArg B hb165) rfl) ?_
            refine w_end ?_
            obtain rfl := Option.some.inj h
            exact ⟨rfl, _, σ162, fr_join ⟨rfl, rfl, rfl, rfl, rfl, rfl, trivial⟩, rfl, H.sel' [0, 1, 2, 3, 4] rfl rfl⟩
           ·replace h := bif_f hb165 h
            refine st_skip (congrArg some hb165) ?_
            refine st_skip (congrArg some hb165) ?_
            refine st_skip (congrArg some hb165) ?_
            refine st (v := (B false)) (rv_pick_f (congrArg B hb165) rfl) ?_
            refine w_end ?_
            obtain rfl := Option.some.inj h
            exact ⟨rfl, _, σ162, fr_join ⟨rfl, rfl, rfl, rfl, rfl, rfl, trivial⟩, rfl, H.sel' [0, 1, 2, 3, 4] rfl rfl⟩
          ·clear hj
           have h := h'
           clear h' H
           rintro e a w ⟨rfl, ρ, σ166, rfl, rfl, H⟩
           refine q_then ?_
           refine cd_cond o164 rfl (fun hb167 => ?_) (fun hb167 => ?_)
           ·replace h := bif_t hb167 h
            refine rg ?_
            refine st (v := (Sl adata_0 o155 cdata_0)) (rv_move rfl) ?_
            refine st (v := (I (wk .i64 (gshr .u64 (wk .u64 (w64 (a_1 + b_3))) 1)))) (rv_move rfl) ?_
            refine st (v := (I (w64 ((w64 ((wk .i64 (gshr .u64 (wk .u64 (w64 (a_1 + b_3))) 1)) + m_2)) - o116)))) (rv_move rfl) ?_
            refine st (v := (I b_3)) (rv_move rfl) ?_
            refine st (v := (.func (.func 58) #[] #[(pt bcmp_4_0 ocmp_4_0), (pt bcmp_4_1 ocmp_4_1)])) (rv_move rfl) ?_
            obtain ⟨r168, hx169, h'⟩ := bind_some h
            clear h
            have h := h'; clear h'
            have hc170 := ih (adata_0 := adata_0) (cdata_0 := cdata_0) (locmp_4_0 := locmp_4_0) (bcmp_4_0 := bcmp_4_0) (ocmp_4_0 := ocmp_4_0) (precmp_4_0 := precmp_4_0) (sufcmp_4_0 := sufcmp_4_0) (acmp_4_0 := acmp_4_0) (ccmp_4_0 := ccmp_4_0) (locmp_4_1 := locmp_4_1) (bcmp_4_1 := bcmp_4_1) (ocmp_4_1 := ocmp_4_1) (precmp_4_1 := precmp_4_1) (sufcmp_4_1 := sufcmp_4_1) (acmp_4_1 := acmp_4_1) (ccmp_4_1 := ccmp_4_1) hx169
            refine st_call (cx_call hc170 (ent_f hc170.fn rfl) hn0 (show Hp S0 σ0 _ ([Ch.own 0 0 (Sl adata_0 o155 cdata_0) o155, Ch.bx locmp_4_0 bcmp_4_0 ocmp_4_0 [(Sl acmp_4_0 cmp_4_0 ccmp_4_0)] precmp_4_0 sufcmp_4_0, Ch.ro 0 (Sl acmp_4_0 cmp_4_0 ccmp_4_0) cmp_4_0, Ch.bx locmp_4_1 bcmp_4_1 ocmp_4_1 [(Sl acmp_4_1 cmp_4_1 ccmp_4_1)] precmp_4_1 sufcmp_4_1, Ch.ro 0 (Sl acmp_4_1 cmp_4_1 ccmp_4_1) cmp_4_1] ++ [Ch.ro 0 (Sl acmp_4_0 cmp_4_0 ccmp_4_0) cmp_4_0, Ch.ro 0 (Sl acmp_4_1 cmp_4_1 ccmp_4_1) cmp_4_1]) from (H.sel' [0, 2, 1, 4, 3, 1, 3] rfl rfl))) wn ?_
            rintro _ σ172 ⟨_, ⟨rfl, rfl, hn171⟩, H, -⟩
            replace H : Hp S0 σ0 σ172 [Ch.own 0 0 (Sl adata_0 r168 cdata_0) r168, Ch.bx locmp_4_0 bcmp_4_0 ocmp_4_0 [(Sl acmp_4_0 cmp_4_0 ccmp_4_0)] precmp_4_0 sufcmp_4_0, Ch.bx locmp_4_1 bcmp_4_1 ocmp_4_1 [(Sl acmp_4_1 cmp_4_1 ccmp_4_1)] precmp_4_1 sufcmp_4_1, Ch.ro 0 (Sl acmp_4_0 cmp_4_0 ccmp_4_0) cmp_4_0, Ch.ro 0 (Sl acmp_4_1 cmp_4_1 ccmp_4_1) cmp_4_1] := H
            have hsl : (Sl adata_0 o155 cdata_0) = (Sl adata_0 r168 cdata_0) := sl_len hn171.symm
            try rw [hsl]
            try rw [hsl] at H
            clear hsl
            refine w_end ?_
            obtain rfl := Option.some.inj h
            exact fin_end (v := (.tuple #[])) (results_ok Try.results109 res_nil rfl) ⟨rfl, rfl, (hn171.trans (hn163.trans hn151))⟩ (H.sel' [0, 1, 2] rfl rfl)
           ·replace h := bif_f hb167 h
            refine c_skip ?_
            obtain rfl := Option.some.inj h
            exact fin_end (v := (.tuple #[])) (results_ok Try.results109 res_nil rfl) ⟨rfl, rfl, (hn163.trans hn151)⟩ (H.sel' [0, 2, 4] rfl rfl)

theorem c_slices_stableCmpFunc_int__impl_ProbeOrder_1 {data_0 : List Int} {n_1 : Int} {cmp_2_0 : List (List Int)} {cmp_2_1 : List Int} {adata_0 : Option Addr} {cdata_0 : Nat} {acmp_2_0 : Option Addr} {ccmp_2_0 : Nat} {locmp_2_0 bcmp_2_0 ocmp_2_0 : Nat} {precmp_2_0 sufcmp_2_0 : List Value} {acmp_2_1 : Option Addr} {ccmp_2_1 : Nat} {locmp_2_1 bcmp_2_1 ocmp_2_1 : Nat} {precmp_2_1 sufcmp_2_1 : List Value} {r : (List Int)} (h : M.slices_stableCmpFunc_int__impl_ProbeOrder_1 data_0 n_1 cmp_2_0 cmp_2_1 = some r) :
    Cal2 Try.prog 89 [(Sl adata_0 data_0 cdata_0), (I n_1), (.func (.func 58) #[] #[(pt bcmp_2_0 ocmp_2_0), (pt bcmp_2_1 ocmp_2_1)])] [Ch.own 0 0 (Sl adata_0 data_0 cdata_0) data_0, Ch.bx locmp_2_0 bcmp_2_0 ocmp_2_0 [(Sl acmp_2_0 cmp_2_0 ccmp_2_0)] precmp_2_0 sufcmp_2_0, Ch.ro 0 (Sl acmp_2_0 cmp_2_0 ccmp_2_0) cmp_2_0, Ch.bx locmp_2_1 bcmp_2_1 ocmp_2_1 [(Sl acmp_2_1 cmp_2_1 ccmp_2_1)] precmp_2_1 sufcmp_2_1, Ch.ro 0 (Sl acmp_2_1 cmp_2_1 ccmp_2_1) cmp_2_1] (fun n0 v L => v = (.tuple #[]) ∧ L = [Ch.own 0 0 (Sl adata_0 r cdata_0) r, Ch.bx locmp_2_0 bcmp_2_0 ocmp_2_0 [(Sl acmp_2_0 cmp_2_0 ccmp_2_0)] precmp_2_0 sufcmp_2_0, Ch.bx locmp_2_1 bcmp_2_1 ocmp_2_1 [(Sl acmp_2_1 cmp_2_1 ccmp_2_1)] precmp_2_1 sufcmp_2_1] ∧ r.length = data_0.length) := by
 refine cal2 (n := 63) Try.func89 rfl rfl rfl rfl ?_
 intro S0 σ0 n0 hn0 H
 unfold M.slices_stableCmpFunc_int__impl_ProbeOrder_1 at h
 refine c_seq ?_
 refine rg ?_
 refine st (v := (I 20)) (rv_assign rfl) ?_
 refine w_end ?_
 refine q_then ?_
 refine c_seq ?_
 refine rg ?_
 refine st (v := (I 20)) (rv_move rfl) ?_
 refine st (v := (I 0)) (rv_assign rfl) ?_
 refine st (v := (I 20)) (rv_assign rfl) ?_
 refine w_end ?_
 refine q_then ?_
 refine c_seq ?_
 obtain ⟨o1, hj, h'⟩ := bind_some h
 clear h
 refine c_cut (fun e a w => e = .normal ∧ ∃ (ρ : Nat → Value) (σ : St), a = fr 63 (updL ρ [(0, (Sl adata_0 o1.1 cdata_0)), (1, (I n_1)), (2, (.func (.func 58) #[] #[(pt bcmp_2_0 ocmp_2_0), (pt bcmp_2_1 ocmp_2_1)])), (6, (I 20)), (7, (I o1.2))]) ∧ w = σ.w ∧ Hp S0 σ0 σ [Ch.own 0 0 (Sl adata_0 o1.1 cdata_0) o1.1, Ch.ro 0 (Sl acmp_2_0 cmp_2_0 ccmp_2_0) cmp_2_0, Ch.bx locmp_2_0 bcmp_2_0 ocmp_2_0 [(Sl acmp_2_0 cmp_2_0 ccmp_2_0)] precmp_2_0 sufcmp_2_0, Ch.ro 0 (Sl acmp_2_1 cmp_2_1 ccmp_2_1) cmp_2_1, Ch.bx locmp_2_1 bcmp_2_1 ocmp_2_1 [(Sl acmp_2_1 cmp_2_1 ccmp_2_1)] precmp_2_1 sufcmp_2_1] ∧ o1.1.length = data_0.length) ?_ ?_
 ·clear h'
  rename _ = some o1 => h
  refine c_blk ?_
  refine wp_loopM _ h (fun s2 a w => ∃ (ρ : Nat → Value) (σ : St), a = fr 63 (updL ρ [(0, (Sl adata_0 s2.1 cdata_0)), (1, (I n_1)), (2, (.func (.func 58) #[] #[(pt bcmp_2_0 ocmp_2_0), (pt bcmp_2_1 ocmp_2_1)])), (6, (I 20)), (7, (I s2.2.1)), (8, (I s2.2.2))]) ∧ w = σ.w ∧ Hp S0 σ0 σ [Ch.own 0 0 (Sl adata_0 s2.1 cdata_0) s2.1, Ch.ro 0 (Sl acmp_2_0 cmp_2_0 ccmp_2_0) cmp_2_0, Ch.bx locmp_2_0 bcmp_2_0 ocmp_2_0 [(Sl acmp_2_0 cmp_2_0 ccmp_2_0)] precmp_2_0 sufcmp_2_0, Ch.ro 0 (Sl acmp_2_1 cmp_2_1 ccmp_2_1) cmp_2_1, Ch.bx locmp_2_1 bcmp_2_1 ocmp_2_1 [(Sl acmp_2_1 cmp_2_1 ccmp_2_1)] precmp_2_1 sufcmp_2_1] ∧ s2.1.length = data_0.length) ⟨_, σ0, fr_join ⟨rfl, rfl, rfl, rfl, rfl, rfl, trivial⟩, rfl, H.sel' [0, 2, 1, 4, 3] rfl rfl, rfl⟩ ?_
  clear h H
  rintro s2 a w o ⟨ρ, σ3, rfl, rfl, H, hn4⟩ h hres
  refine c_seq ?_
  refine c_seq ?_
  refine rg ?_
  refine st (v := (I s2.2.2)) (rv_move rfl) ?_
  refine st (v := (I n_1)) (rv_move rfl) ?_
  refine st (v := (B (decide (s2.2.2 ≤ n_1)))) (rv_leq (a := s2.2.2) (b := n_1) rfl rfl) ?_
  refine w_end ?_
  refine q_then ?_
  refine cd_cond (decide (s2.2.2 ≤ n_1)) rfl (fun hb5 => ?_) (fun hb5 => ?_)
  ·replace h := bif_t hb5 h
   refine c_skip ?_
   refine q_then ?_
   refine c_blk ?_
   refine c_seq ?_
   refine rg ?_
   refine st (v := (Sl adata_0 s2.1 cdata_0)) (rv_move rfl) ?_
   refine st (v := (I s2.2.1)) (rv_move rfl) ?_
   refine st (v := (I s2.2.2)) (rv_move rfl) ?_
   refine st (v := (.func (.func 58) #[] #[(pt bcmp_2_0 ocmp_2_0), (pt bcmp_2_1 ocmp_2_1)])) (rv_move rfl) ?_
   obtain ⟨r6, hx7, h'⟩ := bind_some h
   clear h
   have h := h'; clear h'
   have hc8 := c_slices_insertionSortCmpFunc_int__impl_ProbeOrder_1 (adata_0 := adata_0) (cdata_0 := cdata_0) (locmp_3_0 := locmp_2_0) (bcmp_3_0 := bcmp_2_0) (ocmp_3_0 := ocmp_2_0) (precmp_3_0 := precmp_2_0) (sufcmp_3_0 := sufcmp_2_0) (acmp_3_0 := acmp_2_0) (ccmp_3_0 := ccmp_2_0) (locmp_3_1 := locmp_2_1) (bcmp_3_1 := bcmp_2_1) (ocmp_3_1 := ocmp_2_1) (precmp_3_1 := precmp_2_1) (sufcmp_3_1 := sufcmp_2_1) (acmp_3_1 := acmp_2_1) (ccmp_3_1 := ccmp_2_1) hx7
   refine st_call (cx_call hc8 (ent_f hc8.fn rfl) hn0 (show Hp S0 σ0 _ ([Ch.own 0 0 (Sl adata_0 s2.1 cdata_0) s2.1, Ch.bx locmp_2_0 bcmp_2_0 ocmp_2_0 [(Sl acmp_2_0 cmp_2_0 ccmp_2_0)] precmp_2_0 sufcmp_2_0, Ch.ro 0 (Sl acmp_2_0 cmp_2_0 ccmp_2_0) cmp_2_0, Ch.bx locmp_2_1 bcmp_2_1 ocmp_2_1 [(Sl acmp_2_1 cmp_2_1 ccmp_2_1)] precmp_2_1 sufcmp_2_1, Ch.ro 0 (Sl acmp_2_1 cmp_2_1 ccmp_2_1) cmp_2_1] ++ [Ch.ro 0 (Sl acmp_2_0 cmp_2_0 ccmp_2_0) cmp_2_0, Ch.ro 0 (Sl acmp_2_1 cmp_2_1 ccmp_2_1) cmp_2_1]) from (H.sel' [0, 2, 1, 4, 3, 1, 3] rfl rfl))) wn ?_
   rintro _ σ10 ⟨_, ⟨rfl, rfl, hn9⟩, H, -⟩
   replace H : Hp S0 σ0 σ10 [Ch.own 0 0 (Sl adata_0 r6 cdata_0) r6, Ch.bx locmp_2_0 bcmp_2_0 ocmp_2_0 [(Sl acmp_2_0 cmp_2_0 ccmp_2_0)] precmp_2_0 sufcmp_2_0, Ch.bx locmp_2_1 bcmp_2_1 ocmp_2_1 [(Sl acmp_2_1 cmp_2_1 ccmp_2_1)] precmp_2_1 sufcmp_2_1, Ch.ro 0 (Sl acmp_2_0 cmp_2_0 ccmp_2_0) cmp_2_0, Ch.ro 0 (Sl acmp_2_1 cmp_2_1 ccmp_2_1) cmp_2_1] := H
   have hsl : (Sl adata_0 s2.1 cdata_0) = (Sl adata_0 r6 cdata_0) := sl_len hn9.symm
   try rw [hsl]
   try rw [hsl] at H
   clear hsl
   refine w_end ?_
   refine q_then ?_
   refine c_seq ?_
   refine rg ?_
   refine st (v := (I s2.2.2)) (rv_move rfl) ?_
   refine st (v := (I s2.2.2)) (rv_assign rfl) ?_
   refine w_end ?_
   refine q_then ?_
   refine rg ?_
   refine st (v := (I s2.2.2)) (rv_move rfl) ?_
   refine st (v := (I 20)) (rv_move rfl) ?_
   refine st (v := (I (w64 (s2.2.2 + 20)))) (rv_add (a := s2.2.2) (b := 20) rfl rfl) ?_
   refine st (v := (I (w64 (s2.2.2 + 20)))) (rv_assign rfl) ?_
   refine w_end ?_
   refine q_blk ?_
   refine q_then ?_
   obtain rfl := Option.some.inj h
   exact ⟨_, rfl, _, σ10, fr_join ⟨rfl, rfl, rfl, rfl, rfl, rfl, trivial⟩, rfl, H.sel' [0, 3, 1, 4, 2] rfl rfl, (hn9.trans hn4)⟩
  ·replace h := bif_f hb5 h
   refine c_exit ?_
   refine q_then_x ?_
   refine q_then_x ?_
   refine q_blk_hit ?_
   obtain rfl := Option.some.inj h
   obtain rfl := hres _ rfl
   exact ⟨rfl, _, σ3, fr_join ⟨rfl, rfl, rfl, rfl, rfl, trivial⟩, rfl, H.sel' [0, 1, 2, 3, 4] rfl rfl, hn4⟩
 ·clear hj
  have h := h'
  clear h' H
  rintro e a w ⟨rfl, ρ, σ11, rfl, rfl, H, hn12⟩
  refine q_then ?_
  refine c_seq ?_
  refine rg ?_
  refine st (v := (Sl adata_0 o1.1 cdata_0)) (rv_move rfl) ?_
  refine st (v := (I o1.2)) (rv_move rfl) ?_
  refine st (v := (I n_1)) (rv_move rfl) ?_
  refine st (v := (.func (.func 58) #[] #[(pt bcmp_2_0 ocmp_2_0), (pt bcmp_2_1 ocmp_2_1)])) (rv_move rfl) ?_
  obtain ⟨r13, hx14, h'⟩ := bind_some h
  clear h
  have h := h'; clear h'
  have hc15 := c_slices_insertionSortCmpFunc_int__impl_ProbeOrder_1 (adata_0 := adata_0) (cdata_0 := cdata_0) (locmp_3_0 := locmp_2_0) (bcmp_3_0 := bcmp_2_0) (ocmp_3_0 := ocmp_2_0) (precmp_3_0 := precmp_2_0) (sufcmp_3_0 := sufcmp_2_0) (acmp_3_0 := acmp_2_0) (ccmp_3_0 := ccmp_2_0) (locmp_3_1 := locmp_2_1) (bcmp_3_1 := bcmp_2_1) (ocmp_3_1 := ocmp_2_1) (precmp_3_1 := precmp_2_1) (sufcmp_3_1 := sufcmp_2_1) (acmp_3_1 := acmp_2_1) (ccmp_3_1 := ccmp_2_1) hx14
  refine st_call (cx_call hc15 (ent_f hc15.fn rfl) hn0 (show Hp S0 σ0 _ ([Ch.own 0 0 (Sl adata_0 o1.1 cdata_0) o1.1, Ch.bx locmp_2_0 bcmp_2_0 ocmp_2_0 [(Sl acmp_2_0 cmp_2_0 ccmp_2_0)] precmp_2_0 sufcmp_2_0, Ch.ro 0 (Sl acmp_2_0 cmp_2_0 ccmp_2_0) cmp_2_0, Ch.bx locmp_2_1 bcmp_2_1 ocmp_2_1 [(Sl acmp_2_1 cmp_2_1 ccmp_2_1)] precmp_2_1 sufcmp_2_1, Ch.ro 0 (Sl acmp_2_1 cmp_2_1 ccmp_2_1) cmp_2_1] ++ [Ch.ro 0 (Sl acmp_2_0 cmp_2_0 ccmp_2_0) cmp_2_0, Ch.ro 0 (Sl acmp_2_1 cmp_2_1 ccmp_2_1) cmp_2_1]) from (H.sel' [0, 2, 1, 4, 3, 1, 3] rfl rfl))) wn ?_
  rintro _ σ17 ⟨_, ⟨rfl, rfl, hn16⟩, H, -⟩
  replace H : Hp S0 σ0 σ17 [Ch.own 0 0 (Sl adata_0 r13 cdata_0) r13, Ch.bx locmp_2_0 bcmp_2_0 ocmp_2_0 [(Sl acmp_2_0 cmp_2_0 ccmp_2_0)] precmp_2_0 sufcmp_2_0, Ch.bx locmp_2_1 bcmp_2_1 ocmp_2_1 [(Sl acmp_2_1 cmp_2_1 ccmp_2_1)] precmp_2_1 sufcmp_2_1, Ch.ro 0 (Sl acmp_2_0 cmp_2_0 ccmp_2_0) cmp_2_0, Ch.ro 0 (Sl acmp_2_1 cmp_2_1 ccmp_2_1) cmp_2_1] := H
  have hsl : (Sl adata_0 o1.1 cdata_0) = (Sl adata_0 r13 cdata_0) := sl_len hn16.symm
  try rw [hsl]
  try rw [hsl] at H
  clear hsl
  refine w_end ?_
  refine q_then ?_
  obtain ⟨o18, hj, h'⟩ := bind_some h
  clear h
  refine c_cut (fun e a w => e = .normal ∧ ∃ (ρ : Nat → Value) (σ : St), a = fr 63 (updL ρ [(0, (Sl adata_0 o18 cdata_0)), (2, (.func (.func 58) #[] #[(pt bcmp_2_0 ocmp_2_0), (pt bcmp_2_1 ocmp_2_1)]))]) ∧ w = σ.w ∧ Hp S0 σ0 σ [Ch.own 0 0 (Sl adata_0 o18 cdata_0) o18, Ch.ro 0 (Sl acmp_2_0 cmp_2_0 ccmp_2_0) cmp_2_0, Ch.bx locmp_2_0 bcmp_2_0 ocmp_2_0 [(Sl acmp_2_0 cmp_2_0 ccmp_2_0)] precmp_2_0 sufcmp_2_0, Ch.ro 0 (Sl acmp_2_1 cmp_2_1 ccmp_2_1) cmp_2_1, Ch.bx locmp_2_1 bcmp_2_1 ocmp_2_1 [(Sl acmp_2_1 cmp_2_1 ccmp_2_1)] precmp_2_1 sufcmp_2_1] ∧ o18.length = r13.length) ?_ ?_
  ·clear h'
   rename _ = some o18 => h
   refine c_blk ?_
   refine wp_loopM _ h (fun s19 a w => ∃ (ρ : Nat → Value) (σ : St), a = fr 63 (updL ρ [(0, (Sl adata_0 s19.1 cdata_0)), (1, (I n_1)), (2, (.func (.func 58) #[] #[(pt bcmp_2_0 ocmp_2_0), (pt bcmp_2_1 ocmp_2_1)])), (6, (I s19.2))]) ∧ w = σ.w ∧ Hp S0 σ0 σ [Ch.own 0 0 (Sl adata_0 s19.1 cdata_0) s19.1, Ch.ro 0 (Sl acmp_2_0 cmp_2_0 ccmp_2_0) cmp_2_0, Ch.bx locmp_2_0 bcmp_2_0 ocmp_2_0 [(Sl acmp_2_0 cmp_2_0 ccmp_2_0)] precmp_2_0 sufcmp_2_0, Ch.ro 0 (Sl acmp_2_1 cmp_2_1 ccmp_2_1) cmp_2_1, Ch.bx locmp_2_1 bcmp_2_1 ocmp_2_1 [(Sl acmp_2_1 cmp_2_1 ccmp_2_1)] precmp_2_1 sufcmp_2_1] ∧ s19.1.length = r13.length) ⟨_, σ17, fr_join ⟨rfl, rfl, rfl, rfl, trivial⟩, rfl, H.sel' [0, 3, 1, 4, 2] rfl rfl, rfl⟩ ?_
   clear h H
   rintro s19 a w o ⟨ρ, σ20, rfl, rfl, H, hn21⟩ h hres
   refine c_seq ?_
   refine c_seq ?_
   refine rg ?_
   refine st (v := (I s19.2)) (rv_move rfl) ?_
   refine st (v := (I n_1)) (rv_move rfl) ?_
   refine st (v := (B (decide (s19.2 < n_1)))) (rv_lss (a := s19.2) (b := n_1) rfl rfl) ?_
   refine w_end ?_
   refine q_then ?_
   refine cd_cond (decide (s19.2 < n_1)) rfl (fun hb22 => ?_) (fun hb22 => ?_)
   ·replace h := bif_t hb22 h
    refine c_skip ?_
    refine q_then ?_
    refine c_blk ?_
    refine c_seq ?_
    refine rg ?_
    refine st (v := (I s19.2)) (rv_move rfl) ?_
    refine st (v := (I (w64 (2 * s19.2)))) (rv_mul (a := 2) (b := s19.2) rfl rfl) ?_
    refine st (v := (I 0)) (rv_assign rfl) ?_
    refine st (v := (I (w64 (2 * s19.2)))) (rv_assign rfl) ?_
    refine w_end ?_
    refine q_then ?_
    refine c_seq ?_
    obtain ⟨o23, hj, h'⟩ := bind_some h
    clear h
    refine c_cut (fun e a w => e = .normal ∧ ∃ (ρ : Nat → Value) (σ : St), a = fr 63 (updL ρ [(0, (Sl adata_0 o23.1 cdata_0)), (1, (I n_1)), (2, (.func (.func 58) #[] #[(pt bcmp_2_0 ocmp_2_0), (pt bcmp_2_1 ocmp_2_1)])), (6, (I s19.2)), (7, (I o23.2))]) ∧ w = σ.w ∧ Hp S0 σ0 σ [Ch.own 0 0 (Sl adata_0 o23.1 cdata_0) o23.1, Ch.ro 0 (Sl acmp_2_0 cmp_2_0 ccmp_2_0) cmp_2_0, Ch.bx locmp_2_0 bcmp_2_0 ocmp_2_0 [(Sl acmp_2_0 cmp_2_0 ccmp_2_0)] precmp_2_0 sufcmp_2_0, Ch.ro 0 (Sl acmp_2_1 cmp_2_1 ccmp_2_1) cmp_2_1, Ch.bx locmp_2_1 bcmp_2_1 ocmp_2_1 [(Sl acmp_2_1 cmp_2_1 ccmp_2_1)] precmp_2_1 sufcmp_2_1] ∧ o23.1.length = s19.1.length) ?_ ?_
    ·clear h'
     rename _ = some o23 => h
     refine c_blk ?_
     refine wp_loopM _ h (fun s24 a w => ∃ (ρ : Nat → Value) (σ : St), a = fr 63 (updL ρ [(0, (Sl adata_0 s24.1 cdata_0)), (1, (I n_1)), (2, (.func (.func 58) #[] #[(pt bcmp_2_0 ocmp_2_0), (pt bcmp_2_1 ocmp_2_1)])), (6, (I s19.2)), (7, (I s24.2.1)), (8, (I s24.2.2))]) ∧ w = σ.w ∧ Hp S0 σ0 σ [Ch.own 0 0 (Sl adata_0 s24.1 cdata_0) s24.1, Ch.ro 0 (Sl acmp_2_0 cmp_2_0 ccmp_2_0) cmp_2_0, Ch.bx locmp_2_0 bcmp_2_0 ocmp_2_0 [(Sl acmp_2_0 cmp_2_0 ccmp_2_0)] precmp_2_0 sufcmp_2_0, Ch.ro 0 (Sl acmp_2_1 cmp_2_1 ccmp_2_1) cmp_2_1, Ch.bx locmp_2_1 bcmp_2_1 ocmp_2_1 [(Sl acmp_2_1 cmp_2_1 ccmp_2_1)] precmp_2_1 sufcmp_2_1] ∧ s24.1.length = s19.1.length) ⟨_, σ20, fr_join ⟨rfl, rfl, rfl, rfl, rfl, rfl, trivial⟩, rfl, H.sel' [0, 1, 2, 3, 4] rfl rfl, rfl⟩ ?_
     clear h H
     rintro s24 a w o ⟨ρ, σ25, rfl, rfl, H, hn26⟩ h hres
     refine c_seq ?_
     refine c_seq ?_
     refine rg ?_
     refine st (v := (I s24.2.2)) (rv_move rfl) ?_
     refine st (v := (I n_1)) (rv_move rfl) ?_
     refine st (v := (B (decide (s24.2.2 ≤ n_1)))) (rv_leq (a := s24.2.2) (b := n_1) rfl rfl) ?_
     refine w_end ?_
     refine q_then ?_
     refine cd_cond (decide (s24.2.2 ≤ n_1)) rfl (fun hb27 => ?_) (fun hb27 => ?_)
     ·replace h := bif_t hb27 h
      refine c_skip ?_
      refine q_then ?_
      refine c_blk ?_
      refine c_seq ?_
      refine rg ?_
      refine st (v := (Sl adata_0 s24.1 cdata_0)) (rv_move rfl) ?_
      refine st (v := (I s24.2.1)) (rv_move rfl) ?_
      refine st (v := (I s24.2.1)) (rv_move rfl) ?_
      refine st (v := (I s19.2)) (rv_move rfl) ?_
      refine st (v := (I (w64 (s24.2.1 + s19.2)))) (rv_add (a := s24.2.1) (b := s19.2) rfl rfl) ?_
      refine st (v := (I s24.2.2)) (rv_move rfl) ?_
      refine st (v := (.func (.func 58) #[] #[(pt bcmp_2_0 ocmp_2_0), (pt bcmp_2_1 ocmp_2_1)])) (rv_move rfl) ?_
      obtain ⟨r28, hx29, h'⟩ := bind_some h
      clear h
      have h := h'; clear h'
      have hc30 := c_slices_symMergeCmpFunc_int__impl_ProbeOrder_1 100 (adata_0 := adata_0) (cdata_0 := cdata_0) (locmp_4_0 := locmp_2_0) (bcmp_4_0 := bcmp_2_0) (ocmp_4_0 := ocmp_2_0) (precmp_4_0 := precmp_2_0) (sufcmp_4_0 := sufcmp_2_0) (acmp_4_0 := acmp_2_0) (ccmp_4_0 := ccmp_2_0) (locmp_4_1 := locmp_2_1) (bcmp_4_1 := bcmp_2_1) (ocmp_4_1 := ocmp_2_1) (precmp_4_1 := precmp_2_1) (sufcmp_4_1 := sufcmp_2_1) (acmp_4_1 := acmp_2_1) (ccmp_4_1 := ccmp_2_1) hx29
      refine st_call (cx_call hc30 (ent_f hc30.fn rfl) hn0 (show Hp S0 σ0 _ ([Ch.own 0 0 (Sl adata_0 s24.1 cdata_0) s24.1, Ch.bx locmp_2_0 bcmp_2_0 ocmp_2_0 [(Sl acmp_2_0 cmp_2_0 ccmp_2_0)] precmp_2_0 sufcmp_2_0, Ch.ro 0 (Sl acmp_2_0 cmp_2_0 ccmp_2_0) cmp_2_0, Ch.bx locmp_2_1 bcmp_2_1 ocmp_2_1 [(Sl acmp_2_1 cmp_2_1 ccmp_2_1)] precmp_2_1 sufcmp_2_1, Ch.ro 0 (Sl acmp_2_1 cmp_2_1 ccmp_2_1) cmp_2_1] ++ [Ch.ro 0 (Sl acmp_2_0 cmp_2_0 ccmp_2_0) cmp_2_0, Ch.ro 0 (Sl acmp_2_1 cmp_2_1 ccmp_2_1) cmp_2_1]) from (H.sel' [0, 2, 1, 4, 3, 1, 3] rfl rfl))) wn ?_
      rintro _ σ32 ⟨_, ⟨rfl, rfl, hn31⟩, H, -⟩
      replace H : Hp S0 σ0 σ32 [Ch.own 0 0 (Sl adata_0 r28 cdata_0) r28, Ch.bx locmp_2_0 bcmp_2_0 ocmp_2_0 [(Sl acmp_2_0 cmp_2_0 ccmp_2_0)] precmp_2_0 sufcmp_2_0, Ch.bx locmp_2_1 bcmp_2_1 ocmp_2_1 [(Sl acmp_2_1 cmp_2_1 ccmp_2_1)] precmp_2_1 sufcmp_2_1, Ch.ro 0 (Sl acmp_2_0 cmp_2_0 ccmp_2_0) cmp_2_0, Ch.ro 0 (Sl acmp_2_1 cmp_2_1 ccmp_2_1) cmp_2_1] := H
      have hsl : (Sl adata_0 s24.1 cdata_0) = (Sl adata_0 r28 cdata_0) := sl_len hn31.symm
      try rw [hsl]
      try rw [hsl] at H
      clear hsl
      refine w_end ?_
      refine q_then ?_
      refine c_seq ?_
      refine rg ?_
      refine st (v := (I s24.2.2)) (rv_move rfl) ?_
      refine st (v := (I s24.2.2)) (rv_assign rfl) ?_
      refine w_end ?_
      refine q_then ?_
      refine rg ?_
      refine st (v := (I s24.2.2)) (rv_move rfl) ?_
      refine st (v := (I s19.2)) (rv_move rfl) ?_
      refine st (v := (I (w64 (2 * s19.2)))) (rv_mul (a := 2) (b := s19.2) rfl rfl) ?_
      refine st (v := (I (w64 (s24.2.2 + (w64 (2 * s19.2)))))) (rv_add (a := s24.2.2) (b := (w64 (2 * s19.2))) rfl rfl) ?_
      refine st (v := (I (w64 (s24.2.2 + (w64 (2 * s19.2)))))) (rv_assign rfl) ?_
      refine w_end ?_
      refine q_blk ?_
      refine q_then ?_
      obtain rfl := Option.some.inj h
      exact ⟨_, rfl, _, σ32, fr_join ⟨rfl, rfl, rfl, rfl, rfl, rfl, trivial⟩, rfl, H.sel' [0, 3, 1, 4, 2] rfl rfl, ((hn31.trans (hn26.trans (hn21.trans (hn16.trans hn12)))).trans (hn21.trans (hn16.trans hn12)).symm)⟩
     ·replace h := bif_f hb27 h
      refine c_exit ?_
      refine q_then_x ?_
      refine q_then_x ?_
      refine q_blk_hit ?_
      obtain rfl := Option.some.inj h
      obtain rfl := hres _ rfl
      exact ⟨rfl, _, σ25, fr_join ⟨rfl, rfl, rfl, rfl, rfl, trivial⟩, rfl, H.sel' [0, 1, 2, 3, 4] rfl rfl, ((hn26.trans (hn21.trans (hn16.trans hn12))).trans (hn21.trans (hn16.trans hn12)).symm)⟩
    ·clear hj
     have h := h'
     clear h' H
     rintro e a w ⟨rfl, ρ, σ33, rfl, rfl, H, hn34⟩
     refine q_then ?_
     refine c_seq ?_
     refine c_seq ?_
     refine rg ?_
     refine st (v := (I o23.2)) (rv_move rfl) ?_
     refine st (v := (I s19.2)) (rv_move rfl) ?_
     refine st (v := (I (w64 (o23.2 + s19.2)))) (rv_add (a := o23.2) (b := s19.2) rfl rfl) ?_
     refine st (v := (I (w64 (o23.2 + s19.2)))) (rv_assign rfl) ?_
     refine w_end ?_
     refine q_then ?_
     refine c_seq ?_
     refine rg ?_
     refine st (v := (I (w64 (o23.2 + s19.2)))) (rv_move rfl) ?_
     refine st (v := (I n_1)) (rv_move rfl) ?_
     refine st (v := (B (decide ((w64 (o23.2 + s19.2)) < n_1)))) (rv_lss (a := (w64 (o23.2 + s19.2))) (b := n_1) rfl rfl) ?_
     refine w_end ?_
     refine q_then ?_
     obtain ⟨o35, hj, h'⟩ := bind_some h
     clear h
     refine c_cut (fun e a w => e = .normal ∧ ∃ (ρ : Nat → Value) (σ : St), a = fr 63 (updL ρ [(0, (Sl adata_0 o35 cdata_0)), (1, (I n_1)), (2, (.func (.func 58) #[] #[(pt bcmp_2_0 ocmp_2_0), (pt bcmp_2_1 ocmp_2_1)])), (6, (I s19.2))]) ∧ w = σ.w ∧ Hp S0 σ0 σ [Ch.own 0 0 (Sl adata_0 o35 cdata_0) o35, Ch.ro 0 (Sl acmp_2_0 cmp_2_0 ccmp_2_0) cmp_2_0, Ch.bx locmp_2_0 bcmp_2_0 ocmp_2_0 [(Sl acmp_2_0 cmp_2_0 ccmp_2_0)] precmp_2_0 sufcmp_2_0, Ch.ro 0 (Sl acmp_2_1 cmp_2_1 ccmp_2_1) cmp_2_1, Ch.bx locmp_2_1 bcmp_2_1 ocmp_2_1 [(Sl acmp_2_1 cmp_2_1 ccmp_2_1)] precmp_2_1 sufcmp_2_1] ∧ o35.length = o23.1.length) ?_ ?_
     ·clear h'
      rename _ = some o35 => h
      refine cd_cond (decide ((w64 (o23.2 + s19.2)) < n_1)) rfl (fun hb36 => ?_) (fun hb36 => ?_)
      ·replace h := bif_t hb36 h
       refine rg ?_
       refine st (v := (Sl adata_0 o23.1 cdata_0)) (rv_move rfl) ?_
       refine st (v := (I o23.2)) (rv_move rfl) ?_
       refine st (v := (I (w64 (o23.2 + s19.2)))) (rv_move rfl) ?_
       refine st (v := (I n_1)) (rv_move rfl) ?_
       refine st (v := (.func (.func 58) #[] #[(pt bcmp_2_0 ocmp_2_0), (pt bcmp_2_1 ocmp_2_1)])) (rv_move rfl) ?_
       obtain ⟨r37, hx38, h'⟩ := bind_some h
       clear h
       have h := h'; clear h'
       have hc39 := c_slices_symMergeCmpFunc_int__impl_ProbeOrder_1 100 (adata_0 := adata_0) (cdata_0 := cdata_0) (locmp_4_0 := locmp_2_0) (bcmp_4_0 := bcmp_2_0) (ocmp_4_0 := ocmp_2_0) (precmp_4_0 := precmp_2_0) (sufcmp_4_0 := sufcmp_2_0) (acmp_4_0 := acmp_2_0) (ccmp_4_0 := ccmp_2_0) (locmp_4_1 := locmp_2_1) (bcmp_4_1 := bcmp_2_1) (ocmp_4_1 := ocmp_2_1) (precmp_4_1 := precmp_2_1) (sufcmp_4_1 := sufcmp_2_1) (acmp_4_1 := acmp_2_1) (ccmp_4_1 := ccmp_2_1) hx38
       refine st_call (cx_call hc39 (ent_f hc39.fn rfl) hn0 (show Hp S0 σ0 _ ([Ch.own 0 0 (Sl adata_0 o23.1 cdata_0) o23.1, Ch.bx locmp_2_0 bcmp_2_0 ocmp_2_0 [(Sl acmp_2_0 cmp_2_0 ccmp_2_0)] precmp_2_0 sufcmp_2_0, Ch.ro 0 (Sl acmp_2_0 cmp_2_0 ccmp_2_0) cmp_2_0, Ch.bx locmp_2_1 bcmp_2_1 ocmp_2_1 [(Sl acmp_2_1 cmp_2_1 ccmp_2_1)] precmp_2_1 sufcmp_2_1, Ch.ro 0 (Sl acmp_2_1 cmp_2_1 ccmp_2_1) cmp_2_1] ++ [Ch.ro 0 (Sl acmp_2_0 cmp_2_0 ccmp_2_0) cmp_2_0, Ch.ro 0 (Sl acmp_2_1 cmp_2_1 ccmp_2_1) cmp_2_1]) from (H.sel' [0, 2, 1, 4, 3, 1, 3] rfl rfl))) wn ?_
       rintro _ σ41 ⟨_, ⟨rfl, rfl, hn40⟩, H, -⟩
       replace H : Hp S0 σ0 σ41 [Ch.own 0 0 (Sl adata_0 r37 cdata_0) r37, Ch.bx locmp_2_0 bcmp_2_0 ocmp_2_0 [(Sl acmp_2_0 cmp_2_0 ccmp_2_0)] precmp_2_0 sufcmp_2_0, Ch.bx locmp_2_1 bcmp_2_1 ocmp_2_1 [(Sl acmp_2_1 cmp_2_1 ccmp_2_1)] precmp_2_1 sufcmp_2_1, Ch.ro 0 (Sl acmp_2_0 cmp_2_0 ccmp_2_0) cmp_2_0, Ch.ro 0 (Sl acmp_2_1 cmp_2_1 ccmp_2_1) cmp_2_1] := H
       have hsl : (Sl adata_0 o23.1 cdata_0) = (Sl adata_0 r37 cdata_0) := sl_len hn40.symm
       try rw [hsl]
       try rw [hsl] at H
       clear hsl
       refine w_end ?_
       obtain rfl := Option.some.inj h
       exact ⟨rfl, _, σ41, fr_join ⟨rfl, rfl, rfl, rfl, trivial⟩, rfl, H.sel' [0, 3, 1, 4, 2] rfl rfl, ((hn40.trans (hn34.trans (hn21.trans (hn16.trans hn12)))).trans (hn34.trans (hn21.trans (hn16.trans hn12))).symm)⟩
      ·replace h := bif_f hb36 h
       refine c_skip ?_
       obtain rfl := Option.some.inj h
       exact ⟨rfl, _, σ33, fr_join ⟨rfl, rfl, rfl, rfl, trivial⟩, rfl, H.sel' [0, 1, 2, 3, 4] rfl rfl, rfl⟩
     ·clear hj
      have h := h'
      clear h' H
      rintro e a w ⟨rfl, ρ, σ42, rfl, rfl, H, hn43⟩
      refine q_then ?_
      refine rg ?_
      refine st (v := (I s19.2)) (rv_move rfl) ?_
      refine st (v := (I (w64 (s19.2 * 2)))) (rv_mul (a := s19.2) (b := 2) rfl rfl) ?_
      refine st (v := (I (w64 (s19.2 * 2)))) (rv_assign rfl) ?_
      refine w_end ?_
      refine q_blk ?_
      refine q_then ?_
      obtain rfl := Option.some.inj h
      exact ⟨_, rfl, _, σ42, fr_join ⟨rfl, rfl, rfl, rfl, trivial⟩, rfl, H.sel' [0, 1, 2, 3, 4] rfl rfl, ((hn43.trans (hn34.trans (hn21.trans (hn16.trans hn12)))).trans (hn16.trans hn12).symm)⟩
   ·replace h := bif_f hb22 h
    refine c_exit ?_
    refine q_then_x ?_
    refine q_then_x ?_
    refine q_blk_hit ?_
    obtain rfl := Option.some.inj h
    obtain rfl := hres _ rfl
    exact ⟨rfl, _, σ20, fr_join ⟨rfl, rfl, trivial⟩, rfl, H.sel' [0, 1, 2, 3, 4] rfl rfl, ((hn21.trans (hn16.trans hn12)).trans (hn16.trans hn12).symm)⟩
  ·clear hj
   have h := h'
   clear h' H
   rintro e a w ⟨rfl, ρ, σ44, rfl, rfl, H, hn45⟩
   obtain rfl := Option.some.inj h
   exact fin_end (v := (.tuple #[])) (results_ok Try.results89 res_nil rfl) ⟨rfl, rfl, (hn45.trans (hn16.trans hn12))⟩ (H.sel' [0, 2, 4] rfl rfl)

end Go.Vs
