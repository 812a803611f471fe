/- The functions compute what their models say. -/
import Derived.Test.YtifddljigkhfgaaKInBoxMostC3
set_option linter.unusedVariables false
set_option linter.unusedSimpArgs false
set_option maxRecDepth 20000
namespace Go.Vs
open Go Go.Proofs
attribute [local irreducible] Code.wp Code.wpIn wpList wpListIn wpQuiet Calls CallsIn

theorem c_slices_siftDownCmpFunc_impl_Hit__impl_compareHits {data_0 : List (Int × Int)} {lo_1 : Int} {hi_2 : Int} {first_3 : Int} {adata_0 : Option Addr} {cdata_0 : Nat} {r : (List (Int × Int))} (h : M.slices_siftDownCmpFunc_impl_Hit__impl_compareHits data_0 lo_1 hi_2 first_3 = some r) :
    Cal2 Try.prog 152 [(Sl adata_0 data_0 cdata_0), (I lo_1), (I hi_2), (I first_3), (.func (.func 89) #[] #[])] [Ch.own 0 0 (Sl adata_0 data_0 cdata_0) data_0] (fun n0 v L => v = (.tuple #[]) ∧ L = [Ch.own 0 0 (Sl adata_0 r cdata_0) r] ∧ r.length = data_0.length) := by
 refine cal2 (n := 82) Try.func152 rfl rfl rfl rfl ?_
 intro S0 σ0 n0 hn0 H
 unfold M.slices_siftDownCmpFunc_impl_Hit__impl_compareHits at h
 refine c_seq ?_
 refine rg ?_
 refine st (v := (I lo_1)) (rv_move rfl) ?_
 refine st (v := (I lo_1)) (rv_assign rfl) ?_
 refine w_end ?_
 refine q_then ?_
 obtain ⟨o1, hj, h'⟩ := bind_some h
 clear h
 refine c_cut (fun e a w => (∃ t, o1 = (.inl t) ∧ e = .normal ∧ ∃ (ρ : Nat → Value) (σ : St), a = fr 82 (updL ρ [(0, (Sl adata_0 t cdata_0))]) ∧ w = σ.w ∧ Hp S0 σ0 σ [Ch.own 0 0 (Sl adata_0 t cdata_0) t] ∧ t.length = data_0.length) ∨ (∃ t, o1 = (.inr t) ∧ e = .ret ∧ ∃ (ρ : Nat → Value) (σ : St), a = fr 82 (updL ρ [(0, (Sl adata_0 t cdata_0))]) ∧ w = σ.w ∧ Hp S0 σ0 σ [Ch.own 0 0 (Sl adata_0 t cdata_0) t] ∧ t.length = data_0.length)) ?_ ?_
 ·clear h'
  rename _ = some o1 => h
  refine c_blk ?_
  refine wp_loopM _ h (fun s2 a w => ∃ (ρ : Nat → Value) (σ : St), a = fr 82 (updL ρ [(0, (Sl adata_0 s2.1 cdata_0)), (2, (I hi_2)), (3, (I first_3)), (4, (.func (.func 89) #[] #[])), (10, (I s2.2))]) ∧ w = σ.w ∧ Hp S0 σ0 σ [Ch.own 0 0 (Sl adata_0 s2.1 cdata_0) s2.1] ∧ s2.1.length = data_0.length) ⟨_, σ0, fr_join ⟨rfl, rfl, rfl, rfl, rfl, trivial⟩, rfl, H.sel' [0] rfl rfl, rfl⟩ ?_
  clear h H
  rintro s2 a w o ⟨ρ, σ3, rfl, rfl, H, hn4⟩ h hres
  refine c_blk ?_
  refine c_seq ?_
  refine rg ?_
  refine st (v := (I s2.2)) (rv_move rfl) ?_
  refine st (v := (I (w64 (2 * s2.2)))) (rv_mul (a := 2) (b := s2.2) rfl rfl) ?_
  refine st (v := (I (w64 ((w64 (2 * s2.2)) + 1)))) (rv_add (a := (w64 (2 * s2.2))) (b := 1) rfl rfl) ?_
  refine st (v := (I (w64 ((w64 (2 * s2.2)) + 1)))) (rv_assign rfl) ?_
  refine w_end ?_
  refine q_then ?_
  refine c_seq ?_
  refine c_seq ?_
  refine rg ?_
  refine st (v := (I (w64 ((w64 (2 * s2.2)) + 1)))) (rv_move rfl) ?_
  refine st (v := (I hi_2)) (rv_move rfl) ?_
  refine st (v := (B (decide (hi_2 ≤ (w64 ((w64 (2 * s2.2)) + 1)))))) (rv_geq (a := (w64 ((w64 (2 * s2.2)) + 1))) (b := hi_2) rfl rfl) ?_
  refine w_end ?_
  refine q_then ?_
  refine cd_cond (decide (hi_2 ≤ (w64 ((w64 (2 * s2.2)) + 1)))) rfl (fun hb5 => ?_) (fun hb5 => ?_)
  ·replace h := bif_t hb5 h
   refine c_exit ?_
   refine q_then_x ?_
   refine q_blk_x (by decide) ?_
   refine q_then_x ?_
   refine q_blk_hit ?_
   obtain rfl := Option.some.inj h
   obtain rfl := hres _ rfl
   exact .inl ⟨_, rfl, rfl, _, σ3, fr_join ⟨rfl, trivial⟩, rfl, H.sel' [0] rfl rfl, hn4⟩
  ·replace h := bif_f hb5 h
   refine c_skip ?_
   refine q_then ?_
   refine c_seq ?_
   refine c_seq ?_
   obtain ⟨o6, hj, h'⟩ := bind_some h
   clear h
   refine c_cut (fun e a w => e = .normal ∧ ∃ (ρ : Nat → Value) (σ : St), a = fr 82 (updL ρ [(0, (Sl adata_0 s2.1 cdata_0)), (2, (I hi_2)), (3, (I first_3)), (4, (.func (.func 89) #[] #[])), (10, (I s2.2)), (11, (I (w64 ((w64 (2 * s2.2)) + 1)))), (40, (B o6))]) ∧ w = σ.w ∧ Hp S0 σ0 σ [Ch.own 0 0 (Sl adata_0 s2.1 cdata_0) s2.1]) ?_ ?_
   ·clear h'
    rename _ = some o6 => h
    refine rgP (σ := σ3) 19 (by kernel_rfl) (by kernel_rfl) (by kernel_rfl) ?_
    refine sq (v := (I (w64 ((w64 (2 * s2.2)) + 1)))) (rv_move rfl) ?_
    refine sq (v := (I (w64 ((w64 ((w64 (2 * s2.2)) + 1)) + 1)))) (rv_add (a := (w64 ((w64 (2 * s2.2)) + 1))) (b := 1) rfl rfl) ?_
    refine sq (v := (I hi_2)) (rv_move rfl) ?_
    refine sq (v := (B (decide ((w64 ((w64 ((w64 (2 * s2.2)) + 1)) + 1)) < hi_2)))) (rv_lss (a := (w64 ((w64 ((w64 (2 * s2.2)) + 1)) + 1))) (b := hi_2) rfl rfl) ?_
    refine sq (v := (B (decide ((w64 ((w64 ((w64 (2 * s2.2)) + 1)) + 1)) < hi_2)))) (rv_move rfl) ?_
    rcases Bool.eq_false_or_eq_true (decide ((w64 ((w64 ((w64 (2 * s2.2)) + 1)) + 1)) < hi_2)) with hb7 | hb7
    ·replace h := bif_t hb7 h
     refine sq_g (v := (.func (.func 89) #[] #[])) (congrArg some hb7) (rv_move rfl) ?_
     refine sq_g (v := (Sl adata_0 s2.1 cdata_0)) (congrArg some hb7) (rv_move rfl) ?_
     refine sq_g (v := (I first_3)) (congrArg some hb7) (rv_move rfl) ?_
     refine sq_g (v := (I (w64 ((w64 (2 * s2.2)) + 1)))) (congrArg some hb7) (rv_move rfl) ?_
     refine sq_g (v := (I (w64 (first_3 + (w64 ((w64 (2 * s2.2)) + 1)))))) (congrArg some hb7) (rv_add (a := first_3) (b := (w64 ((w64 (2 * s2.2)) + 1))) rfl rfl) ?_
     obtain ⟨x8, hx9, h'⟩ := bind_some h
     clear h
     have h := h'; clear h'
     obtain ⟨b11, o12, hi10, -⟩ := (H.own 0 rfl).ix hx9
     refine sq_g (v := (pt b11 o12)) (congrArg some hb7) (rv_ix Try.underlying27 ti33 rfl rfl hi10) ?_
     obtain ⟨_, ⟨_, _, rfl, rfl, rfl⟩, hl13, hc14⟩ := ((H.own 0 rfl).at hx9 hi10).cells
     refine sq_g (v := (.agg #[(I x8.1), (I x8.2)])) (congrArg some hb7) (rv_load Try.underlying33 rfl ti33 rfl hl13 hc14) ?_
     refine sq_g (v := (Sl adata_0 s2.1 cdata_0)) (congrArg some hb7) (rv_move rfl) ?_
     refine sq_g (v := (I first_3)) (congrArg some hb7) (rv_move rfl) ?_
     refine sq_g (v := (I (w64 ((w64 (2 * s2.2)) + 1)))) (congrArg some hb7) (rv_move rfl) ?_
     refine sq_g (v := (I (w64 (first_3 + (w64 ((w64 (2 * s2.2)) + 1)))))) (congrArg some hb7) (rv_add (a := first_3) (b := (w64 ((w64 (2 * s2.2)) + 1))) rfl rfl) ?_
     refine sq_g (v := (I (w64 ((w64 (first_3 + (w64 ((w64 (2 * s2.2)) + 1)))) + 1)))) (congrArg some hb7) (rv_add (a := (w64 (first_3 + (w64 ((w64 (2 * s2.2)) + 1))))) (b := 1) rfl rfl) ?_
     obtain ⟨x15, hx16, h'⟩ := bind_some h
     clear h
     have h := h'; clear h'
     obtain ⟨b18, o19, hi17, -⟩ := (H.own 0 rfl).ix hx16
     refine sq_g (v := (pt b18 o19)) (congrArg some hb7) (rv_ix Try.underlying27 ti33 rfl rfl hi17) ?_
     obtain ⟨_, ⟨_, _, rfl, rfl, rfl⟩, hl20, hc21⟩ := ((H.own 0 rfl).at hx16 hi17).cells
     refine sq_g (v := (.agg #[(I x15.1), (I x15.2)])) (congrArg some hb7) (rv_load Try.underlying33 rfl ti33 rfl hl20 hc21) ?_
     refine sq_end ?_
     intro σ22 hm23
     replace H := H.grow (hm23.mono fun _ h => h); clear hm23
     obtain ⟨r24, hx25, h'⟩ := bind_some h
     clear h
     have h := h'; clear h'
     have hc26 := c_impl_compareHits hx25
     refine st_call (cx_call hc26 (ent_v (cap := []) hc26.fn rfl rfl) hn0 (show Hp S0 σ0 _ ([] ++ [Ch.own 0 0 (Sl adata_0 s2.1 cdata_0) s2.1]) from (H.sel' [0] rfl rfl))) (wanted_yes rfl (by exact (congrArg some hb7))) ?_
     rintro _ σ27 ⟨_, ⟨rfl, rfl⟩, H, -⟩
     replace H : Hp S0 σ0 σ27 [Ch.own 0 0 (Sl adata_0 s2.1 cdata_0) s2.1] := H
     refine st_g (v := (B (decide (r24 < 0)))) (congrArg some hb7) (rv_lss (a := r24) (b := 0) rfl rfl) ?_
     refine st (v := (B (decide (r24 < 0)))) (rv_pick_t (congrArg B hb7) rfl) ?_
     refine w_end ?_
     obtain rfl := Option.some.inj h
     exact ⟨rfl, _, σ27, fr_join ⟨rfl, rfl, rfl, rfl, rfl, rfl, rfl, trivial⟩, rfl, H.sel' [0] rfl rfl⟩
    ·replace h := bif_f hb7 h
     refine sq_skip (congrArg some hb7) ?_
     refine sq_skip (congrArg some hb7) ?_
     refine sq_skip (congrArg some hb7) ?_
     refine sq_skip (congrArg some hb7) ?_
     refine sq_skip (congrArg some hb7) ?_
     refine sq_skip (congrArg some hb7) ?_
     refine sq_skip (congrArg some hb7) ?_
     refine sq_skip (congrArg some hb7) ?_
     refine sq_skip (congrArg some hb7) ?_
     refine sq_skip (congrArg some hb7) ?_
     refine sq_skip (congrArg some hb7) ?_
     refine sq_skip (congrArg some hb7) ?_
     refine sq_skip (congrArg some hb7) ?_
     refine sq_skip (congrArg some hb7) ?_
     refine sq_end ?_
     intro σ28 hm29
     replace H := H.grow (hm29.mono fun _ h => h); clear hm29
     refine st_skip (congrArg some hb7) ?_
     refine st_skip (congrArg some hb7) ?_
     refine st (v := (B false)) (rv_pick_f (congrArg B hb7) rfl) ?_
     refine w_end ?_
     obtain rfl := Option.some.inj h
     exact ⟨rfl, _, σ28, fr_join ⟨rfl, rfl, rfl, rfl, rfl, rfl, rfl, trivial⟩, rfl, H.sel' [0] rfl rfl⟩
   ·clear hj
    have h := h'
    clear h' H
    rintro e a w ⟨rfl, ρ, σ30, rfl, rfl, H⟩
    refine q_then ?_
    obtain ⟨o31, hj, h'⟩ := bind_some h
    clear h
    refine c_cut (fun e a w => e = .normal ∧ ∃ (ρ : Nat → Value) (σ : St), a = fr 82 (updL ρ [(0, (Sl adata_0 s2.1 cdata_0)), (2, (I hi_2)), (3, (I first_3)), (4, (.func (.func 89) #[] #[])), (10, (I s2.2)), (11, (I o31))]) ∧ w = σ.w ∧ Hp S0 σ0 σ [Ch.own 0 0 (Sl adata_0 s2.1 cdata_0) s2.1]) ?_ ?_
    ·clear h'
     rename _ = some o31 => h
     refine cd_cond o6 rfl (fun hb32 => ?_) (fun hb32 => ?_)
     ·replace h := bif_t hb32 h
      refine rg ?_
      refine st (v := (I (w64 ((w64 (2 * s2.2)) + 1)))) (rv_move rfl) ?_
      refine st (v := (I (w64 ((w64 ((w64 (2 * s2.2)) + 1)) + 1)))) (rv_add (a := (w64 ((w64 (2 * s2.2)) + 1))) (b := 1) rfl rfl) ?_
      refine st (v := (I (w64 ((w64 ((w64 (2 * s2.2)) + 1)) + 1)))) (rv_assign rfl) ?_
      refine w_end ?_
      obtain rfl := Option.some.inj h
      exact ⟨rfl, _, σ30, fr_join ⟨rfl, rfl, rfl, rfl, rfl, rfl, trivial⟩, rfl, H.sel' [0] rfl rfl⟩
     ·replace h := bif_f hb32 h
      refine c_skip ?_
      obtain rfl := Option.some.inj h
      exact ⟨rfl, _, σ30, fr_join ⟨rfl, rfl, rfl, rfl, rfl, rfl, trivial⟩, rfl, H.sel' [0] rfl rfl⟩
    ·clear hj
     have h := h'
     clear h' H
     rintro e a w ⟨rfl, ρ, σ33, rfl, rfl, H⟩
     refine q_then ?_
     refine c_seq ?_
     refine c_seq ?_
     refine rgP (σ := σ33) 13 (by kernel_rfl) (by kernel_rfl) (by kernel_rfl) ?_
     refine sq (v := (.func (.func 89) #[] #[])) (rv_move rfl) ?_
     refine sq (v := (Sl adata_0 s2.1 cdata_0)) (rv_move rfl) ?_
     refine sq (v := (I first_3)) (rv_move rfl) ?_
     refine sq (v := (I s2.2)) (rv_move rfl) ?_
     refine sq (v := (I (w64 (first_3 + s2.2)))) (rv_add (a := first_3) (b := s2.2) rfl rfl) ?_
     obtain ⟨x34, hx35, h'⟩ := bind_some h
     clear h
     have h := h'; clear h'
     obtain ⟨b37, o38, hi36, -⟩ := (H.own 0 rfl).ix hx35
     refine sq (v := (pt b37 o38)) (rv_ix Try.underlying27 ti33 rfl rfl hi36) ?_
     obtain ⟨_, ⟨_, _, rfl, rfl, rfl⟩, hl39, hc40⟩ := ((H.own 0 rfl).at hx35 hi36).cells
     refine sq (v := (.agg #[(I x34.1), (I x34.2)])) (rv_load Try.underlying33 rfl ti33 rfl hl39 hc40) ?_
     refine sq (v := (Sl adata_0 s2.1 cdata_0)) (rv_move rfl) ?_
     refine sq (v := (I first_3)) (rv_move rfl) ?_
     refine sq (v := (I o31)) (rv_move rfl) ?_
     refine sq (v := (I (w64 (first_3 + o31)))) (rv_add (a := first_3) (b := o31) rfl rfl) ?_
     obtain ⟨x41, hx42, h'⟩ := bind_some h
     clear h
     have h := h'; clear h'
     obtain ⟨b44, o45, hi43, -⟩ := (H.own 0 rfl).ix hx42
     refine sq (v := (pt b44 o45)) (rv_ix Try.underlying27 ti33 rfl rfl hi43) ?_
     obtain ⟨_, ⟨_, _, rfl, rfl, rfl⟩, hl46, hc47⟩ := ((H.own 0 rfl).at hx42 hi43).cells
     refine sq (v := (.agg #[(I x41.1), (I x41.2)])) (rv_load Try.underlying33 rfl ti33 rfl hl46 hc47) ?_
     refine sq_end ?_
     intro σ48 hm49
     replace H := H.grow (hm49.mono fun _ h => h); clear hm49
     obtain ⟨r50, hx51, h'⟩ := bind_some h
     clear h
     have h := h'; clear h'
     have hc52 := c_impl_compareHits hx51
     refine st_call (cx_call hc52 (ent_v (cap := []) hc52.fn rfl rfl) hn0 (show Hp S0 σ0 _ ([] ++ [Ch.own 0 0 (Sl adata_0 s2.1 cdata_0) s2.1]) from (H.sel' [0] rfl rfl))) (wanted_none _ rfl _) ?_
     rintro _ σ53 ⟨_, ⟨rfl, rfl⟩, H, -⟩
     replace H : Hp S0 σ0 σ53 [Ch.own 0 0 (Sl adata_0 s2.1 cdata_0) s2.1] := H
     refine st (v := (B (decide (r50 < 0)))) (rv_lss (a := r50) (b := 0) rfl rfl) ?_
     refine st (v := (B (!(decide (r50 < 0))))) (rv_not rfl) ?_
     refine w_end ?_
     refine q_then ?_
     refine cd_cond (!(decide (r50 < 0))) rfl (fun hb54 => ?_) (fun hb54 => ?_)
     ·replace h := bif_t hb54 h
      refine c_ret ?_
      refine q_then_r ?_
      refine q_blk_r ?_
      refine q_then_r ?_
      refine q_blk_r ?_
      obtain rfl := Option.some.inj h
      obtain rfl := hres _ rfl
      exact .inr (⟨_, rfl, rfl, _, σ53, fr_join ⟨rfl, trivial⟩, rfl, H.sel' [0] rfl rfl, hn4⟩)
     ·replace h := bif_f hb54 h
      refine c_skip ?_
      refine q_then ?_
      refine c_seq ?_
      obtain ⟨x55, hx56, h'⟩ := bind_some h
      clear h
      have h := h'; clear h'
      obtain ⟨b58, o59, hi57, -⟩ := (H.own 0 rfl).ix hx56
      obtain ⟨_, ⟨_, _, rfl, rfl, rfl⟩, hl60, hc61⟩ := ((H.own 0 rfl).at hx56 hi57).cells
      obtain ⟨x62, hx63, h'⟩ := bind_some h
      clear h
      have h := h'; clear h'
      obtain ⟨b65, o66, hi64, -⟩ := (H.own 0 rfl).ix hx63
      obtain ⟨_, ⟨_, _, rfl, rfl, rfl⟩, hl67, hc68⟩ := ((H.own 0 rfl).at hx63 hi64).cells
      obtain ⟨x69, hx70, h'⟩ := bind_some h
      clear h
      have h := h'; clear h'
      obtain ⟨b72, o73, hi71, -⟩ := (H.own 0 rfl).ix hx70
      have Hs := H
      refine rg2 (σ := σ53) (Nm := Unit) 22 [21] [[false], [true]] [[(0, 0)], [(0, 0)], [(0, 0)], [(0, 0)], [(0, 0), (1, 1)], [(0, 0), (1, 1)], [(0, 0), (1, 1)], [(0, 0), (1, 1)], [(0, 0)], [(0, 0)], [(0, 0)], [(0, 0)], [(0, 0)], [(0, 0)], [(0, 0)], [(0, 0)], [(0, 0)], [(0, 0)], [(0, 0)], [(0, 0)], [(0, 0)], [(0, 1)]] 1 [fun (_nm : Unit) => fun σm => Hp S0 σ0 σm [Ch.own 0 0 (Sl adata_0 s2.1 cdata_0) s2.1] ∧ Md (cov []) σ53 σm, fun (_nm : Unit) => fun σm => Hp S0 σ0 σm [Ch.own 0 0 (Sl adata_0 s2.1 cdata_0) (s2.1.set (w64 (first_3 + s2.2)).toNat (x55.1, x55.2))] ∧ Md (fun i => (cov []) i ∨ (fun b => blk (Sl adata_0 s2.1 cdata_0) = some b) i) σ53 σm] [fun (_nm : Unit) => (Sl adata_0 s2.1 cdata_0), fun (_nm : Unit) => (I first_3), fun (_nm : Unit) => (I s2.2), fun (_nm : Unit) => (I (w64 (first_3 + s2.2))), fun (_nm : Unit) => (Sl adata_0 s2.1 cdata_0), fun (_nm : Unit) => (I first_3), fun (_nm : Unit) => (I o31), fun (_nm : Unit) => (I (w64 (first_3 + o31))), fun (_nm : Unit) => (Sl adata_0 s2.1 cdata_0), fun (_nm : Unit) => (I first_3), fun (_nm : Unit) => (I o31), fun (_nm : Unit) => (I (w64 (first_3 + o31))), fun (_nm : Unit) => (pt b58 o59), fun (_nm : Unit) => (.agg #[(I x55.1), (I x55.2)]), fun (_nm : Unit) => (Sl adata_0 s2.1 cdata_0), fun (_nm : Unit) => (I first_3), fun (_nm : Unit) => (I s2.2), fun (_nm : Unit) => (I (w64 (first_3 + s2.2))), fun (_nm : Unit) => (pt b65 o66), fun (_nm : Unit) => (.agg #[(I x62.1), (I x62.2)]), fun (_nm : Unit) => (pt b72 o73), fun (_nm : Unit) => undef] () (by kernel_rfl) (by kernel_rfl) ?_ ?_ ?_
      ·intro σm m0
       exact ⟨H.grow (m0.mono fun _ h => h.elim), m0⟩
      ·refine all_cons (obs_v rfl (by
         intro k; intro _nm ρ σm hJ hoff hdep
         have e0 : look 82 ρ 0 = (Sl adata_0 s2.1 cdata_0) := look_off (hoff 0 rfl) rfl
         exact dp_v (v := (Sl adata_0 s2.1 cdata_0)) (wanted_none _ rfl _) (rv_move e0) rfl hJ)) ?_
       refine all_cons (obs_v rfl (by
         intro k; intro _nm ρ σm hJ hoff hdep
         have e3 : look 82 ρ 3 = (I first_3) := look_off (hoff 3 rfl) rfl
         exact dp_v (v := (I first_3)) (wanted_none _ rfl _) (rv_move e3) rfl hJ)) ?_
       refine all_cons (obs_v rfl (by
         intro k; intro _nm ρ σm hJ hoff hdep
         have e10 : look 82 ρ 10 = (I s2.2) := look_off (hoff 10 rfl) rfl
         exact dp_v (v := (I s2.2)) (wanted_none _ rfl _) (rv_move e10) rfl hJ)) ?_
       refine all_cons (obs_v rfl (by
         intro k; intro _nm ρ σm hJ hoff hdep
         have e60 : look 82 ρ 60 = (I first_3) := hdep 1 rfl rfl 60 rfl
         have e61 : look 82 ρ 61 = (I s2.2) := hdep 2 rfl rfl 61 rfl
         exact dp_v (v := (I (w64 (first_3 + s2.2)))) (wanted_none _ rfl _) (rv_add (a := first_3) (b := s2.2) e60 e61) rfl hJ)) ?_
       refine all_cons (obs_v rfl (by
         intro k; intro _nm ρ σm hJ hoff hdep
         have e0 : look 82 ρ 0 = (Sl adata_0 s2.1 cdata_0) := look_off (hoff 0 rfl) rfl
         exact dp_v (v := (Sl adata_0 s2.1 cdata_0)) (wanted_none _ rfl _) (rv_move e0) rfl hJ)) ?_
       refine all_cons (obs_v rfl (by
         intro k; intro _nm ρ σm hJ hoff hdep
         have e3 : look 82 ρ 3 = (I first_3) := look_off (hoff 3 rfl) rfl
         exact dp_v (v := (I first_3)) (wanted_none _ rfl _) (rv_move e3) rfl hJ)) ?_
       refine all_cons (obs_v rfl (by
         intro k; intro _nm ρ σm hJ hoff hdep
         have e11 : look 82 ρ 11 = (I o31) := look_off (hoff 11 rfl) rfl
         exact dp_v (v := (I o31)) (wanted_none _ rfl _) (rv_move e11) rfl hJ)) ?_
       refine all_cons (obs_v rfl (by
         intro k; intro _nm ρ σm hJ hoff hdep
         have e64 : look 82 ρ 64 = (I first_3) := hdep 5 rfl rfl 64 rfl
         have e65 : look 82 ρ 65 = (I o31) := hdep 6 rfl rfl 65 rfl
         exact dp_v (v := (I (w64 (first_3 + o31)))) (wanted_none _ rfl _) (rv_add (a := first_3) (b := o31) e64 e65) rfl hJ)) ?_
       refine all_cons (obs_v rfl (by
         intro k; intro _nm ρ σm hJ hoff hdep
         have e0 : look 82 ρ 0 = (Sl adata_0 s2.1 cdata_0) := look_off (hoff 0 rfl) rfl
         exact dp_v (v := (Sl adata_0 s2.1 cdata_0)) (wanted_none _ rfl _) (rv_move e0) rfl hJ)) ?_
       refine all_cons (obs_v rfl (by
         intro k; intro _nm ρ σm hJ hoff hdep
         have e3 : look 82 ρ 3 = (I first_3) := look_off (hoff 3 rfl) rfl
         exact dp_v (v := (I first_3)) (wanted_none _ rfl _) (rv_move e3) rfl hJ)) ?_
       refine all_cons (obs_v rfl (by
         intro k; intro _nm ρ σm hJ hoff hdep
         have e11 : look 82 ρ 11 = (I o31) := look_off (hoff 11 rfl) rfl
         exact dp_v (v := (I o31)) (wanted_none _ rfl _) (rv_move e11) rfl hJ)) ?_
       refine all_cons (obs_v rfl (by
         intro k; intro _nm ρ σm hJ hoff hdep
         have e68 : look 82 ρ 68 = (I first_3) := hdep 9 rfl rfl 68 rfl
         have e69 : look 82 ρ 69 = (I o31) := hdep 10 rfl rfl 69 rfl
         exact dp_v (v := (I (w64 (first_3 + o31)))) (wanted_none _ rfl _) (rv_add (a := first_3) (b := o31) e68 e69) rfl hJ)) ?_
       refine all_cons (obs_v rfl (by
         intro k; intro _nm ρ σm hJ hoff hdep
         have e67 : look 82 ρ 67 = (Sl adata_0 s2.1 cdata_0) := hdep 8 rfl rfl 67 rfl
         have e70 : look 82 ρ 70 = (I (w64 (first_3 + o31))) := hdep 11 rfl rfl 70 rfl
         exact dp_v (v := (pt b58 o59)) (wanted_none _ rfl _) (rv_ix Try.underlying27 ti33 e67 e70 hi57) rfl hJ)) ?_
       refine all_cons (by
         refine ⟨?_, ?_⟩
         ·intro _nm ρ σm hJ hoff hdep
          have e71 : look 82 ρ 71 = (pt b58 o59) := hdep 12 rfl rfl 71 rfl
          obtain ⟨H, m⟩ := id hJ
          obtain ⟨_, ⟨_, _, rfl, rfl, rfl⟩, hl60, hc61⟩ := ((H.own 0 rfl).at hx56 hi57).cells
          exact dp_v (v := (.agg #[(I x55.1), (I x55.2)])) (wanted_none _ rfl _) (rv_load Try.underlying33 rfl ti33 e71 hl60 hc61) rfl hJ
         trivial) ?_
       refine all_cons (obs_v rfl (by
         intro k; intro _nm ρ σm hJ hoff hdep
         have e0 : look 82 ρ 0 = (Sl adata_0 s2.1 cdata_0) := look_off (hoff 0 rfl) rfl
         exact dp_v (v := (Sl adata_0 s2.1 cdata_0)) (wanted_none _ rfl _) (rv_move e0) rfl hJ)) ?_
       refine all_cons (obs_v rfl (by
         intro k; intro _nm ρ σm hJ hoff hdep
         have e3 : look 82 ρ 3 = (I first_3) := look_off (hoff 3 rfl) rfl
         exact dp_v (v := (I first_3)) (wanted_none _ rfl _) (rv_move e3) rfl hJ)) ?_
       refine all_cons (obs_v rfl (by
         intro k; intro _nm ρ σm hJ hoff hdep
         have e10 : look 82 ρ 10 = (I s2.2) := look_off (hoff 10 rfl) rfl
         exact dp_v (v := (I s2.2)) (wanted_none _ rfl _) (rv_move e10) rfl hJ)) ?_
       refine all_cons (obs_v rfl (by
         intro k; intro _nm ρ σm hJ hoff hdep
         have e74 : look 82 ρ 74 = (I first_3) := hdep 15 rfl rfl 74 rfl
         have e75 : look 82 ρ 75 = (I s2.2) := hdep 16 rfl rfl 75 rfl
         exact dp_v (v := (I (w64 (first_3 + s2.2)))) (wanted_none _ rfl _) (rv_add (a := first_3) (b := s2.2) e74 e75) rfl hJ)) ?_
       refine all_cons (obs_v rfl (by
         intro k; intro _nm ρ σm hJ hoff hdep
         have e73 : look 82 ρ 73 = (Sl adata_0 s2.1 cdata_0) := hdep 14 rfl rfl 73 rfl
         have e76 : look 82 ρ 76 = (I (w64 (first_3 + s2.2))) := hdep 17 rfl rfl 76 rfl
         exact dp_v (v := (pt b65 o66)) (wanted_none _ rfl _) (rv_ix Try.underlying27 ti33 e73 e76 hi64) rfl hJ)) ?_
       refine all_cons (by
         refine ⟨?_, ?_⟩
         ·intro _nm ρ σm hJ hoff hdep
          have e77 : look 82 ρ 77 = (pt b65 o66) := hdep 18 rfl rfl 77 rfl
          obtain ⟨H, m⟩ := id hJ
          obtain ⟨_, ⟨_, _, rfl, rfl, rfl⟩, hl67, hc68⟩ := ((H.own 0 rfl).at hx63 hi64).cells
          exact dp_v (v := (.agg #[(I x62.1), (I x62.2)])) (wanted_none _ rfl _) (rv_load Try.underlying33 rfl ti33 e77 hl67 hc68) rfl hJ
         trivial) ?_
       refine all_cons (obs_v rfl (by
         intro k; intro _nm ρ σm hJ hoff hdep
         have e59 : look 82 ρ 59 = (Sl adata_0 s2.1 cdata_0) := hdep 0 rfl rfl 59 rfl
         have e62 : look 82 ρ 62 = (I (w64 (first_3 + s2.2))) := hdep 3 rfl rfl 62 rfl
         exact dp_v (v := (pt b72 o73)) (wanted_none _ rfl _) (rv_ix Try.underlying27 ti33 e59 e62 hi71) rfl hJ)) ?_
       refine all_cons (by
         refine ⟨?_, ?_⟩
         ·intro _nm ρ σm hJ hoff hdep
          have e79 : look 82 ρ 79 = (pt b72 o73) := hdep 20 rfl rfl 79 rfl
          have e72 : look 82 ρ 72 = (.agg #[(I x55.1), (I x55.2)]) := hdep 13 rfl rfl 72 rfl
          obtain ⟨H, m⟩ := id hJ
          refine dp_exS (wanted_none _ rfl _) rfl (ex_store_own (e' := (x55.1, x55.2)) (vs := [(I x55.1), (I x55.2)]) (k := 0) H (i := 0) rfl ti33 hx70 hi71 e79 rfl e72 rfl rfl (Nat.le_of_ble_eq_true rfl) (by simp [plain]) (by rintro _ ⟨_, _, rfl, rfl, rfl⟩; exact ⟨[(I x55.1)], [(I x55.2)], rfl, rfl, rfl⟩)) ?_
          rintro σq ⟨H2, m2⟩
          exact ⟨_, (), rfl, ⟨H2.sel' [0] rfl rfl, m.comp m2⟩, stab [0, 1, 2, 3, 4, 5, 6, 7, 8, 9, 10, 11, 12, 13, 14, 15, 16, 17, 18, 19, 20] (by kernel_rfl) ⟨rfl, rfl, rfl, rfl, rfl, rfl, rfl, rfl, rfl, rfl, rfl, rfl, rfl, rfl, rfl, rfl, rfl, rfl, rfl, rfl, rfl, trivial⟩⟩
         trivial) ?_
       exact all_nil
      ·intro _nm ρ σ74 hJ hoff hrel
       have e0 : look 82 ρ 0 = (Sl adata_0 s2.1 cdata_0) := look_off (hoff 0 rfl) rfl
       have e2 : look 82 ρ 2 = (I hi_2) := look_off (hoff 2 rfl) rfl
       have e3 : look 82 ρ 3 = (I first_3) := look_off (hoff 3 rfl) rfl
       have e4 : look 82 ρ 4 = (.func (.func 89) #[] #[]) := look_off (hoff 4 rfl) rfl
       have e11 : look 82 ρ 11 = (I o31) := look_off (hoff 11 rfl) rfl
       have e63 : look 82 ρ 63 = (Sl adata_0 s2.1 cdata_0) := hrel 4 rfl 63 rfl
       have e66 : look 82 ρ 66 = (I (w64 (first_3 + o31))) := hrel 7 rfl 66 rfl
       have e78 : look 82 ρ 78 = (.agg #[(I x62.1), (I x62.2)]) := hrel 19 rfl 78 rfl
       obtain ⟨H, -⟩ := (show Hp S0 σ0 σ74 [Ch.own 0 0 (Sl adata_0 s2.1 cdata_0) (s2.1.set (w64 (first_3 + s2.2)).toNat (x55.1, x55.2))] ∧ Md (fun i => (cov []) i ∨ (fun b => blk (Sl adata_0 s2.1 cdata_0) = some b) i) σ53 σ74 from hJ)
       clear hJ Hs
       rw [fr_lookL (L := [(0, (Sl adata_0 s2.1 cdata_0)), (2, (I hi_2)), (3, (I first_3)), (4, (.func (.func 89) #[] #[])), (11, (I o31)), (63, (Sl adata_0 s2.1 cdata_0)), (66, (I (w64 (first_3 + o31)))), (78, (.agg #[(I x62.1), (I x62.2)]))]) ⟨e0, e2, e3, e4, e11, e63, e66, e78, trivial⟩]
       clear hoff hrel e0 e2 e3 e4 e11 e63 e66 e78
       have hsl : (Sl adata_0 s2.1 cdata_0) = (Sl adata_0 (s2.1.set (w64 (first_3 + s2.2)).toNat (x55.1, x55.2)) cdata_0) := sl_len (by simp)
       rw [hsl]; rw [hsl] at H; clear hsl
       obtain ⟨x75, hx76, h'⟩ := bind_some h
       clear h
       have h := h'; clear h'
       obtain ⟨b78, o79, hi77, -⟩ := (H.own 0 rfl).ix hx76
       refine st (v := (pt b78 o79)) (rv_ix Try.underlying27 ti33 rfl rfl hi77) ?_
       refine st_exS (ex_store_own (e' := (x62.1, x62.2)) (vs := [(I x62.1), (I x62.2)]) (k := 0) H (i := 0) rfl ti33 hx76 hi77 rfl rfl rfl rfl rfl (Nat.le_of_ble_eq_true rfl) (by simp [plain]) (by rintro _ ⟨_, _, rfl, rfl, rfl⟩; exact ⟨[(I x62.1)], [(I x62.2)], rfl, rfl, rfl⟩)) (wanted_none _ rfl _) ?_
       rintro σ80 ⟨H, -⟩
       have hsl : (Sl adata_0 (s2.1.set (w64 (first_3 + s2.2)).toNat (x55.1, x55.2)) cdata_0) = (Sl adata_0 ((s2.1.set (w64 (first_3 + s2.2)).toNat (x55.1, x55.2)).set (w64 (first_3 + o31)).toNat (x62.1, x62.2)) cdata_0) := sl_len List.length_set.symm
       rw [hsl]; rw [hsl] at H; clear hsl
       refine w_end ?_
       refine q_then ?_
       refine rg ?_
       refine st (v := (I o31)) (rv_move rfl) ?_
       refine st (v := (I o31)) (rv_assign rfl) ?_
       refine w_end ?_
       refine q_blk ?_
       refine q_then ?_
       obtain rfl := Option.some.inj h
       exact ⟨_, rfl, _, σ80, fr_join ⟨rfl, rfl, rfl, rfl, rfl, trivial⟩, rfl, H.sel' [0] rfl rfl, (List.length_set.trans (List.length_set.trans hn4))⟩
 ·clear hj
  have h := h'
  clear h' H
  rintro e a w (⟨t81, rfl, rfl, ρ, σ82, rfl, rfl, H, hn83⟩ | ⟨t84, rfl, rfl, ρ, σ85, rfl, rfl, H, hn86⟩)
  ·replace h := selim_l h
   obtain rfl := Option.some.inj h
   exact fin_end (v := (.tuple #[])) (results_ok Try.results152 res_nil rfl) ⟨rfl, rfl, hn83⟩ (H.sel' [0] rfl rfl)
  ·replace h := selim_r h
   obtain rfl := Option.some.inj h
   exact fin_ret (v := (.tuple #[])) (results_ok Try.results152 res_nil rfl) ⟨rfl, rfl, hn86⟩ (H.sel' [0] rfl rfl)

theorem c_slices_heapSortCmpFunc_impl_Hit__impl_compareHits {data_0 : List (Int × Int)} {a_1 : Int} {b_2 : Int} {adata_0 : Option Addr} {cdata_0 : Nat} {r : (List (Int × Int))} (h : M.slices_heapSortCmpFunc_impl_Hit__impl_compareHits data_0 a_1 b_2 = some r) :
    Cal2 Try.prog 135 [(Sl adata_0 data_0 cdata_0), (I a_1), (I b_2), (.func (.func 89) #[] #[])] [Ch.own 0 0 (Sl adata_0 data_0 cdata_0) data_0] (fun n0 v L => v = (.tuple #[]) ∧ L = [Ch.own 0 0 (Sl adata_0 r cdata_0) r] ∧ r.length = data_0.length) := by
 refine cal2 (n := 60) Try.func135 rfl rfl rfl rfl ?_
 intro S0 σ0 n0 hn0 H
 unfold M.slices_heapSortCmpFunc_impl_Hit__impl_compareHits at h
 refine c_seq ?_
 refine rg ?_
 refine st (v := (I a_1)) (rv_move rfl) ?_
 refine st (v := (I a_1)) (rv_assign rfl) ?_
 refine w_end ?_
 refine q_then ?_
 refine c_seq ?_
 refine rg ?_
 refine st (v := (I 0)) (rv_assign rfl) ?_
 refine w_end ?_
 refine q_then ?_
 refine c_seq ?_
 refine rg ?_
 refine st (v := (I b_2)) (rv_move rfl) ?_
 refine st (v := (I a_1)) (rv_move rfl) ?_
 refine st (v := (I (w64 (b_2 - a_1)))) (rv_sub (a := b_2) (b := a_1) rfl rfl) ?_
 refine st (v := (I (w64 (b_2 - a_1)))) (rv_assign rfl) ?_
 refine w_end ?_
 refine q_then ?_
 refine c_seq ?_
 refine c_seq ?_
 refine rg ?_
 refine st (v := (I (w64 (b_2 - a_1)))) (rv_move rfl) ?_
 refine st (v := (I (w64 ((w64 (b_2 - a_1)) - 1)))) (rv_sub (a := (w64 (b_2 - a_1))) (b := 1) rfl rfl) ?_
 refine st (v := (I (w64 ((w64 ((w64 (b_2 - a_1)) - 1)).tdiv 2)))) (rv_quo (a := (w64 ((w64 (b_2 - a_1)) - 1))) (b := 2) rfl rfl (by decide)) ?_
 refine st (v := (I (w64 ((w64 ((w64 (b_2 - a_1)) - 1)).tdiv 2)))) (rv_assign rfl) ?_
 refine w_end ?_
 refine q_then ?_
 obtain ⟨o1, hj, h'⟩ := bind_some h
 clear h
 refine c_cut (fun e a w => e = .normal ∧ ∃ (ρ : Nat → Value) (σ : St), a = fr 60 (updL ρ [(0, (Sl adata_0 o1 cdata_0)), (3, (.func (.func 89) #[] #[])), (8, (I a_1)), (9, (I 0)), (10, (I (w64 (b_2 - a_1))))]) ∧ w = σ.w ∧ Hp S0 σ0 σ [Ch.own 0 0 (Sl adata_0 o1 cdata_0) o1] ∧ o1.length = data_0.length) ?_ ?_
 ·clear h'
  rename _ = some o1 => h
  refine c_blk ?_
  refine wp_loopM _ h (fun s2 a w => ∃ (ρ : Nat → Value) (σ : St), a = fr 60 (updL ρ [(0, (Sl adata_0 s2.1 cdata_0)), (3, (.func (.func 89) #[] #[])), (8, (I a_1)), (9, (I 0)), (10, (I (w64 (b_2 - a_1)))), (11, (I s2.2))]) ∧ w = σ.w ∧ Hp S0 σ0 σ [Ch.own 0 0 (Sl adata_0 s2.1 cdata_0) s2.1] ∧ s2.1.length = data_0.length) ⟨_, σ0, fr_join ⟨rfl, rfl, rfl, rfl, rfl, rfl, trivial⟩, rfl, H.sel' [0] rfl rfl, rfl⟩ ?_
  clear h H
  rintro s2 a w o ⟨ρ, σ3, rfl, rfl, H, hn4⟩ h hres
  refine c_seq ?_
  refine c_seq ?_
  refine rg ?_
  refine st (v := (I s2.2)) (rv_move rfl) ?_
  refine st (v := (B (decide (0 ≤ s2.2)))) (rv_geq (a := s2.2) (b := 0) rfl rfl) ?_
  refine w_end ?_
  refine q_then ?_
  refine cd_cond (decide (0 ≤ s2.2)) rfl (fun hb5 => ?_) (fun hb5 => ?_)
  ·replace h := bif_t hb5 h
   refine c_skip ?_
   refine q_then ?_
   refine c_seq ?_
   refine c_blk ?_
   refine rg ?_
   refine st (v := (Sl adata_0 s2.1 cdata_0)) (rv_move rfl) ?_
   refine st (v := (I s2.2)) (rv_move rfl) ?_
   refine st (v := (I (w64 (b_2 - a_1)))) (rv_move rfl) ?_
   refine st (v := (I a_1)) (rv_move rfl) ?_
   refine st (v := (.func (.func 89) #[] #[])) (rv_move rfl) ?_
   obtain ⟨r6, hx7, h'⟩ := bind_some h
   clear h
   have h := h'; clear h'
   have hc8 := c_slices_siftDownCmpFunc_impl_Hit__impl_compareHits (adata_0 := adata_0) (cdata_0 := cdata_0) hx7
   refine st_call (cx_call hc8 (ent_f hc8.fn rfl) hn0 (show Hp S0 σ0 _ ([Ch.own 0 0 (Sl adata_0 s2.1 cdata_0) s2.1] ++ []) from (H.sel' [0] rfl rfl))) (wanted_none _ rfl _) ?_
   rintro _ σ10 ⟨_, ⟨rfl, rfl, hn9⟩, H, -⟩
   replace H : Hp S0 σ0 σ10 [Ch.own 0 0 (Sl adata_0 r6 cdata_0) r6] := H
   have hsl : (Sl adata_0 s2.1 cdata_0) = (Sl adata_0 r6 cdata_0) := sl_len hn9.symm
   try rw [hsl]
   try rw [hsl] at H
   clear hsl
   refine w_end ?_
   refine q_blk ?_
   refine q_then ?_
   refine rg ?_
   refine st (v := (I s2.2)) (rv_move rfl) ?_
   refine st (v := (I (w64 (s2.2 - 1)))) (rv_sub (a := s2.2) (b := 1) rfl rfl) ?_
   refine st (v := (I (w64 (s2.2 - 1)))) (rv_assign rfl) ?_
   refine w_end ?_
   refine q_then ?_
   obtain rfl := Option.some.inj h
   exact ⟨_, rfl, _, σ10, fr_join ⟨rfl, rfl, rfl, rfl, rfl, rfl, trivial⟩, rfl, H.sel' [0] rfl rfl, (hn9.trans hn4)⟩
  ·replace h := bif_f hb5 h
   refine c_exit ?_
   refine q_then_x ?_
   refine q_then_x ?_
   refine q_blk_hit ?_
   obtain rfl := Option.some.inj h
   obtain rfl := hres _ rfl
   exact ⟨rfl, _, σ3, fr_join ⟨rfl, rfl, rfl, rfl, rfl, trivial⟩, rfl, H.sel' [0] rfl rfl, hn4⟩
 ·clear hj
  have h := h'
  clear h' H
  rintro e a w ⟨rfl, ρ, σ11, rfl, rfl, H, hn12⟩
  refine q_then ?_
  refine c_seq ?_
  refine rg ?_
  refine st (v := (I (w64 (b_2 - a_1)))) (rv_move rfl) ?_
  refine st (v := (I (w64 ((w64 (b_2 - a_1)) - 1)))) (rv_sub (a := (w64 (b_2 - a_1))) (b := 1) rfl rfl) ?_
  refine st (v := (I (w64 ((w64 (b_2 - a_1)) - 1)))) (rv_assign rfl) ?_
  refine w_end ?_
  refine q_then ?_
  obtain ⟨o13, hj, h'⟩ := bind_some h
  clear h
  refine c_cut (fun e a w => e = .normal ∧ ∃ (ρ : Nat → Value) (σ : St), a = fr 60 (updL ρ [(0, (Sl adata_0 o13 cdata_0))]) ∧ w = σ.w ∧ Hp S0 σ0 σ [Ch.own 0 0 (Sl adata_0 o13 cdata_0) o13] ∧ o13.length = o1.length) ?_ ?_
  ·clear h'
   rename _ = some o13 => h
   refine c_blk ?_
   refine wp_loopM _ h (fun s14 a w => ∃ (ρ : Nat → Value) (σ : St), a = fr 60 (updL ρ [(0, (Sl adata_0 s14.1 cdata_0)), (3, (.func (.func 89) #[] #[])), (8, (I a_1)), (9, (I 0)), (12, (I s14.2))]) ∧ w = σ.w ∧ Hp S0 σ0 σ [Ch.own 0 0 (Sl adata_0 s14.1 cdata_0) s14.1] ∧ s14.1.length = o1.length) ⟨_, σ11, fr_join ⟨rfl, rfl, rfl, rfl, rfl, trivial⟩, rfl, H.sel' [0] rfl rfl, rfl⟩ ?_
   clear h H
   rintro s14 a w o ⟨ρ, σ15, rfl, rfl, H, hn16⟩ h hres
   refine c_seq ?_
   refine c_seq ?_
   refine rg ?_
   refine st (v := (I s14.2)) (rv_move rfl) ?_
   refine st (v := (B (decide (0 ≤ s14.2)))) (rv_geq (a := s14.2) (b := 0) rfl rfl) ?_
   refine w_end ?_
   refine q_then ?_
   refine cd_cond (decide (0 ≤ s14.2)) rfl (fun hb17 => ?_) (fun hb17 => ?_)
   ·replace h := bif_t hb17 h
    refine c_skip ?_
    refine q_then ?_
    refine c_seq ?_
    refine c_blk ?_
    refine c_seq ?_
    obtain ⟨x18, hx19, h'⟩ := bind_some h
    clear h
    have h := h'; clear h'
    obtain ⟨b21, o22, hi20, -⟩ := (H.own 0 rfl).ix hx19
    obtain ⟨_, ⟨_, _, rfl, rfl, rfl⟩, hl23, hc24⟩ := ((H.own 0 rfl).at hx19 hi20).cells
    obtain ⟨x25, hx26, h'⟩ := bind_some h
    clear h
    have h := h'; clear h'
    obtain ⟨b28, o29, hi27, -⟩ := (H.own 0 rfl).ix hx26
    obtain ⟨_, ⟨_, _, rfl, rfl, rfl⟩, hl30, hc31⟩ := ((H.own 0 rfl).at hx26 hi27).cells
    obtain ⟨x32, hx33, h'⟩ := bind_some h
    clear h
    have h := h'; clear h'
    obtain ⟨b35, o36, hi34, -⟩ := (H.own 0 rfl).ix hx33
    have Hs := H
    refine rg2 (σ := σ15) (Nm := Unit) 18 [17] [[false], [true]] [[(0, 0)], [(0, 0)], [(0, 0), (1, 1)], [(0, 0), (1, 1)], [(0, 0), (1, 1)], [(0, 0), (1, 1)], [(0, 0)], [(0, 0)], [(0, 0)], [(0, 0)], [(0, 0)], [(0, 0)], [(0, 0)], [(0, 0)], [(0, 0)], [(0, 0)], [(0, 0)], [(0, 1)]] 1 [fun (_nm : Unit) => fun σm => Hp S0 σ0 σm [Ch.own 0 0 (Sl adata_0 s14.1 cdata_0) s14.1] ∧ Md (cov []) σ15 σm, fun (_nm : Unit) => fun σm => Hp S0 σ0 σm [Ch.own 0 0 (Sl adata_0 s14.1 cdata_0) (s14.1.set a_1.toNat (x18.1, x18.2))] ∧ Md (fun i => (cov []) i ∨ (fun b => blk (Sl adata_0 s14.1 cdata_0) = some b) i) σ15 σm] [fun (_nm : Unit) => (Sl adata_0 s14.1 cdata_0), fun (_nm : Unit) => (I a_1), fun (_nm : Unit) => (Sl adata_0 s14.1 cdata_0), fun (_nm : Unit) => (I a_1), fun (_nm : Unit) => (I s14.2), fun (_nm : Unit) => (I (w64 (a_1 + s14.2))), fun (_nm : Unit) => (Sl adata_0 s14.1 cdata_0), fun (_nm : Unit) => (I a_1), fun (_nm : Unit) => (I s14.2), fun (_nm : Unit) => (I (w64 (a_1 + s14.2))), fun (_nm : Unit) => (pt b21 o22), fun (_nm : Unit) => (.agg #[(I x18.1), (I x18.2)]), fun (_nm : Unit) => (Sl adata_0 s14.1 cdata_0), fun (_nm : Unit) => (I a_1), fun (_nm : Unit) => (pt b28 o29), fun (_nm : Unit) => (.agg #[(I x25.1), (I x25.2)]), fun (_nm : Unit) => (pt b35 o36), fun (_nm : Unit) => undef] () (by kernel_rfl) (by kernel_rfl) ?_ ?_ ?_
    ·intro σm m0
     exact ⟨H.grow (m0.mono fun _ h => h.elim), m0⟩
    ·refine all_cons (obs_v rfl (by
       intro k; intro _nm ρ σm hJ hoff hdep
       have e0 : look 60 ρ 0 = (Sl adata_0 s14.1 cdata_0) := look_off (hoff 0 rfl) rfl
       exact dp_v (v := (Sl adata_0 s14.1 cdata_0)) (wanted_none _ rfl _) (rv_move e0) rfl hJ)) ?_
     refine all_cons (obs_v rfl (by
       intro k; intro _nm ρ σm hJ hoff hdep
       have e8 : look 60 ρ 8 = (I a_1) := look_off (hoff 8 rfl) rfl
       exact dp_v (v := (I a_1)) (wanted_none _ rfl _) (rv_move e8) rfl hJ)) ?_
     refine all_cons (obs_v rfl (by
       intro k; intro _nm ρ σm hJ hoff hdep
       have e0 : look 60 ρ 0 = (Sl adata_0 s14.1 cdata_0) := look_off (hoff 0 rfl) rfl
       exact dp_v (v := (Sl adata_0 s14.1 cdata_0)) (wanted_none _ rfl _) (rv_move e0) rfl hJ)) ?_
     refine all_cons (obs_v rfl (by
       intro k; intro _nm ρ σm hJ hoff hdep
       have e8 : look 60 ρ 8 = (I a_1) := look_off (hoff 8 rfl) rfl
       exact dp_v (v := (I a_1)) (wanted_none _ rfl _) (rv_move e8) rfl hJ)) ?_
     refine all_cons (obs_v rfl (by
       intro k; intro _nm ρ σm hJ hoff hdep
       have e12 : look 60 ρ 12 = (I s14.2) := look_off (hoff 12 rfl) rfl
       exact dp_v (v := (I s14.2)) (wanted_none _ rfl _) (rv_move e12) rfl hJ)) ?_
     refine all_cons (obs_v rfl (by
       intro k; intro _nm ρ σm hJ hoff hdep
       have e39 : look 60 ρ 39 = (I a_1) := hdep 3 rfl rfl 39 rfl
       have e40 : look 60 ρ 40 = (I s14.2) := hdep 4 rfl rfl 40 rfl
       exact dp_v (v := (I (w64 (a_1 + s14.2)))) (wanted_none _ rfl _) (rv_add (a := a_1) (b := s14.2) e39 e40) rfl hJ)) ?_
     refine all_cons (obs_v rfl (by
       intro k; intro _nm ρ σm hJ hoff hdep
       have e0 : look 60 ρ 0 = (Sl adata_0 s14.1 cdata_0) := look_off (hoff 0 rfl) rfl
       exact dp_v (v := (Sl adata_0 s14.1 cdata_0)) (wanted_none _ rfl _) (rv_move e0) rfl hJ)) ?_
     refine all_cons (obs_v rfl (by
       intro k; intro _nm ρ σm hJ hoff hdep
       have e8 : look 60 ρ 8 = (I a_1) := look_off (hoff 8 rfl) rfl
       exact dp_v (v := (I a_1)) (wanted_none _ rfl _) (rv_move e8) rfl hJ)) ?_
     refine all_cons (obs_v rfl (by
       intro k; intro _nm ρ σm hJ hoff hdep
       have e12 : look 60 ρ 12 = (I s14.2) := look_off (hoff 12 rfl) rfl
       exact dp_v (v := (I s14.2)) (wanted_none _ rfl _) (rv_move e12) rfl hJ)) ?_
     refine all_cons (obs_v rfl (by
       intro k; intro _nm ρ σm hJ hoff hdep
       have e43 : look 60 ρ 43 = (I a_1) := hdep 7 rfl rfl 43 rfl
       have e44 : look 60 ρ 44 = (I s14.2) := hdep 8 rfl rfl 44 rfl
       exact dp_v (v := (I (w64 (a_1 + s14.2)))) (wanted_none _ rfl _) (rv_add (a := a_1) (b := s14.2) e43 e44) rfl hJ)) ?_
     refine all_cons (obs_v rfl (by
       intro k; intro _nm ρ σm hJ hoff hdep
       have e42 : look 60 ρ 42 = (Sl adata_0 s14.1 cdata_0) := hdep 6 rfl rfl 42 rfl
       have e45 : look 60 ρ 45 = (I (w64 (a_1 + s14.2))) := hdep 9 rfl rfl 45 rfl
       exact dp_v (v := (pt b21 o22)) (wanted_none _ rfl _) (rv_ix Try.underlying27 ti33 e42 e45 hi20) rfl hJ)) ?_
     refine all_cons (by
       refine ⟨?_, ?_⟩
       ·intro _nm ρ σm hJ hoff hdep
        have e46 : look 60 ρ 46 = (pt b21 o22) := hdep 10 rfl rfl 46 rfl
        obtain ⟨H, m⟩ := id hJ
        obtain ⟨_, ⟨_, _, rfl, rfl, rfl⟩, hl23, hc24⟩ := ((H.own 0 rfl).at hx19 hi20).cells
        exact dp_v (v := (.agg #[(I x18.1), (I x18.2)])) (wanted_none _ rfl _) (rv_load Try.underlying33 rfl ti33 e46 hl23 hc24) rfl hJ
       trivial) ?_
     refine all_cons (obs_v rfl (by
       intro k; intro _nm ρ σm hJ hoff hdep
       have e0 : look 60 ρ 0 = (Sl adata_0 s14.1 cdata_0) := look_off (hoff 0 rfl) rfl
       exact dp_v (v := (Sl adata_0 s14.1 cdata_0)) (wanted_none _ rfl _) (rv_move e0) rfl hJ)) ?_
     refine all_cons (obs_v rfl (by
       intro k; intro _nm ρ σm hJ hoff hdep
       have e8 : look 60 ρ 8 = (I a_1) := look_off (hoff 8 rfl) rfl
       exact dp_v (v := (I a_1)) (wanted_none _ rfl _) (rv_move e8) rfl hJ)) ?_
     refine all_cons (obs_v rfl (by
       intro k; intro _nm ρ σm hJ hoff hdep
       have e48 : look 60 ρ 48 = (Sl adata_0 s14.1 cdata_0) := hdep 12 rfl rfl 48 rfl
       have e49 : look 60 ρ 49 = (I a_1) := hdep 13 rfl rfl 49 rfl
       exact dp_v (v := (pt b28 o29)) (wanted_none _ rfl _) (rv_ix Try.underlying27 ti33 e48 e49 hi27) rfl hJ)) ?_
     refine all_cons (by
       refine ⟨?_, ?_⟩
       ·intro _nm ρ σm hJ hoff hdep
        have e50 : look 60 ρ 50 = (pt b28 o29) := hdep 14 rfl rfl 50 rfl
        obtain ⟨H, m⟩ := id hJ
        obtain ⟨_, ⟨_, _, rfl, rfl, rfl⟩, hl30, hc31⟩ := ((H.own 0 rfl).at hx26 hi27).cells
        exact dp_v (v := (.agg #[(I x25.1), (I x25.2)])) (wanted_none _ rfl _) (rv_load Try.underlying33 rfl ti33 e50 hl30 hc31) rfl hJ
       trivial) ?_
     refine all_cons (obs_v rfl (by
       intro k; intro _nm ρ σm hJ hoff hdep
       have e36 : look 60 ρ 36 = (Sl adata_0 s14.1 cdata_0) := hdep 0 rfl rfl 36 rfl
       have e37 : look 60 ρ 37 = (I a_1) := hdep 1 rfl rfl 37 rfl
       exact dp_v (v := (pt b35 o36)) (wanted_none _ rfl _) (rv_ix Try.underlying27 ti33 e36 e37 hi34) rfl hJ)) ?_
     refine all_cons (by
       refine ⟨?_, ?_⟩
       ·intro _nm ρ σm hJ hoff hdep
        have e52 : look 60 ρ 52 = (pt b35 o36) := hdep 16 rfl rfl 52 rfl
        have e47 : look 60 ρ 47 = (.agg #[(I x18.1), (I x18.2)]) := hdep 11 rfl rfl 47 rfl
        obtain ⟨H, m⟩ := id hJ
        refine dp_exS (wanted_none _ rfl _) rfl (ex_store_own (e' := (x18.1, x18.2)) (vs := [(I x18.1), (I x18.2)]) (k := 0) H (i := 0) rfl ti33 hx33 hi34 e52 rfl e47 rfl rfl (Nat.le_of_ble_eq_true rfl) (by simp [plain]) (by rintro _ ⟨_, _, rfl, rfl, rfl⟩; exact ⟨[(I x18.1)], [(I x18.2)], rfl, rfl, rfl⟩)) ?_
        rintro σq ⟨H2, m2⟩
        exact ⟨_, (), rfl, ⟨H2.sel' [0] rfl rfl, m.comp m2⟩, stab [0, 1, 2, 3, 4, 5, 6, 7, 8, 9, 10, 11, 12, 13, 14, 15, 16] (by kernel_rfl) ⟨rfl, rfl, rfl, rfl, rfl, rfl, rfl, rfl, rfl, rfl, rfl, rfl, rfl, rfl, rfl, rfl, rfl, trivial⟩⟩
       trivial) ?_
     exact all_nil
    ·intro _nm ρ σ37 hJ hoff hrel
     have e0 : look 60 ρ 0 = (Sl adata_0 s14.1 cdata_0) := look_off (hoff 0 rfl) rfl
     have e3 : look 60 ρ 3 = (.func (.func 89) #[] #[]) := look_off (hoff 3 rfl) rfl
     have e8 : look 60 ρ 8 = (I a_1) := look_off (hoff 8 rfl) rfl
     have e9 : look 60 ρ 9 = (I 0) := look_off (hoff 9 rfl) rfl
     have e12 : look 60 ρ 12 = (I s14.2) := look_off (hoff 12 rfl) rfl
     have e38 : look 60 ρ 38 = (Sl adata_0 s14.1 cdata_0) := hrel 2 rfl 38 rfl
     have e41 : look 60 ρ 41 = (I (w64 (a_1 + s14.2))) := hrel 5 rfl 41 rfl
     have e51 : look 60 ρ 51 = (.agg #[(I x25.1), (I x25.2)]) := hrel 15 rfl 51 rfl
     obtain ⟨H, -⟩ := (show Hp S0 σ0 σ37 [Ch.own 0 0 (Sl adata_0 s14.1 cdata_0) (s14.1.set a_1.toNat (x18.1, x18.2))] ∧ Md (fun i => (cov []) i ∨ (fun b => blk (Sl adata_0 s14.1 cdata_0) = some b) i) σ15 σ37 from hJ)
     clear hJ Hs
     rw [fr_lookL (L := [(0, (Sl adata_0 s14.1 cdata_0)), (3, (.func (.func 89) #[] #[])), (8, (I a_1)), (9, (I 0)), (12, (I s14.2)), (38, (Sl adata_0 s14.1 cdata_0)), (41, (I (w64 (a_1 + s14.2)))), (51, (.agg #[(I x25.1), (I x25.2)]))]) ⟨e0, e3, e8, e9, e12, e38, e41, e51, trivial⟩]
     clear hoff hrel e0 e3 e8 e9 e12 e38 e41 e51
     have hsl : (Sl adata_0 s14.1 cdata_0) = (Sl adata_0 (s14.1.set a_1.toNat (x18.1, x18.2)) cdata_0) := sl_len (by simp)
     rw [hsl]; rw [hsl] at H; clear hsl
     obtain ⟨x38, hx39, h'⟩ := bind_some h
     clear h
     have h := h'; clear h'
     obtain ⟨b41, o42, hi40, -⟩ := (H.own 0 rfl).ix hx39
     refine st (v := (pt b41 o42)) (rv_ix Try.underlying27 ti33 rfl rfl hi40) ?_
     refine st_exS (ex_store_own (e' := (x25.1, x25.2)) (vs := [(I x25.1), (I x25.2)]) (k := 0) H (i := 0) rfl ti33 hx39 hi40 rfl rfl rfl rfl rfl (Nat.le_of_ble_eq_true rfl) (by simp [plain]) (by rintro _ ⟨_, _, rfl, rfl, rfl⟩; exact ⟨[(I x25.1)], [(I x25.2)], rfl, rfl, rfl⟩)) (wanted_none _ rfl _) ?_
     rintro σ43 ⟨H, -⟩
     have hsl : (Sl adata_0 (s14.1.set a_1.toNat (x18.1, x18.2)) cdata_0) = (Sl adata_0 ((s14.1.set a_1.toNat (x18.1, x18.2)).set (w64 (a_1 + s14.2)).toNat (x25.1, x25.2)) cdata_0) := sl_len List.length_set.symm
     rw [hsl]; rw [hsl] at H; clear hsl
     refine w_end ?_
     refine q_then ?_
     refine rg ?_
     refine st (v := (Sl adata_0 ((s14.1.set a_1.toNat (x18.1, x18.2)).set (w64 (a_1 + s14.2)).toNat (x25.1, x25.2)) cdata_0)) (rv_move rfl) ?_
     refine st (v := (I 0)) (rv_move rfl) ?_
     refine st (v := (I s14.2)) (rv_move rfl) ?_
     refine st (v := (I a_1)) (rv_move rfl) ?_
     refine st (v := (.func (.func 89) #[] #[])) (rv_move rfl) ?_
     obtain ⟨r44, hx45, h'⟩ := bind_some h
     clear h
     have h := h'; clear h'
     have hc46 := c_slices_siftDownCmpFunc_impl_Hit__impl_compareHits (adata_0 := adata_0) (cdata_0 := cdata_0) hx45
     refine st_call (cx_call hc46 (ent_f hc46.fn rfl) hn0 (show Hp S0 σ0 _ ([Ch.own 0 0 (Sl adata_0 ((s14.1.set a_1.toNat (x18.1, x18.2)).set (w64 (a_1 + s14.2)).toNat (x25.1, x25.2)) cdata_0) ((s14.1.set a_1.toNat (x18.1, x18.2)).set (w64 (a_1 + s14.2)).toNat (x25.1, x25.2))] ++ []) from (H.sel' [0] rfl rfl))) (wanted_none _ rfl _) ?_
     rintro _ σ48 ⟨_, ⟨rfl, rfl, hn47⟩, H, -⟩
     replace H : Hp S0 σ0 σ48 [Ch.own 0 0 (Sl adata_0 r44 cdata_0) r44] := H
     have hsl : (Sl adata_0 ((s14.1.set a_1.toNat (x18.1, x18.2)).set (w64 (a_1 + s14.2)).toNat (x25.1, x25.2)) cdata_0) = (Sl adata_0 r44 cdata_0) := sl_len hn47.symm
     try rw [hsl]
     try rw [hsl] at H
     clear hsl
     refine w_end ?_
     refine q_blk ?_
     refine q_then ?_
     refine rg ?_
     refine st (v := (I s14.2)) (rv_move rfl) ?_
     refine st (v := (I (w64 (s14.2 - 1)))) (rv_sub (a := s14.2) (b := 1) rfl rfl) ?_
     refine st (v := (I (w64 (s14.2 - 1)))) (rv_assign rfl) ?_
     refine w_end ?_
     refine q_then ?_
     obtain rfl := Option.some.inj h
     exact ⟨_, rfl, _, σ48, fr_join ⟨rfl, rfl, rfl, rfl, rfl, trivial⟩, rfl, H.sel' [0] rfl rfl, ((hn47.trans (List.length_set.trans (List.length_set.trans (hn16.trans hn12)))).trans hn12.symm)⟩
   ·replace h := bif_f hb17 h
    refine c_exit ?_
    refine q_then_x ?_
    refine q_then_x ?_
    refine q_blk_hit ?_
    obtain rfl := Option.some.inj h
    obtain rfl := hres _ rfl
    exact ⟨rfl, _, σ15, fr_join ⟨rfl, trivial⟩, rfl, H.sel' [0] rfl rfl, ((hn16.trans hn12).trans hn12.symm)⟩
  ·clear hj
   have h := h'
   clear h' H
   rintro e a w ⟨rfl, ρ, σ49, rfl, rfl, H, hn50⟩
   obtain rfl := Option.some.inj h
   exact fin_end (v := (.tuple #[])) (results_ok Try.results135 res_nil rfl) ⟨rfl, rfl, (hn50.trans hn12)⟩ (H.sel' [0] rfl rfl)

theorem c_slices_breakPatternsCmpFunc_impl_Hit__impl_compareHits {data_0 : List (Int × Int)} {a_1 : Int} {b_2 : Int} {adata_0 : Option Addr} {cdata_0 : Nat} {r : (List (Int × Int))} (h : M.slices_breakPatternsCmpFunc_impl_Hit__impl_compareHits data_0 a_1 b_2 = some r) :
    Cal2 Try.prog 136 [(Sl adata_0 data_0 cdata_0), (I a_1), (I b_2), (.func (.func 89) #[] #[])] [Ch.own 0 0 (Sl adata_0 data_0 cdata_0) data_0] (fun n0 v L => v = (.tuple #[]) ∧ L = [Ch.own 0 0 (Sl adata_0 r cdata_0) r] ∧ r.length = data_0.length) := by
 refine cal2 (n := 67) Try.func136 rfl rfl rfl rfl ?_
 intro S0 σ0 n0 hn0 H
 unfold M.slices_breakPatternsCmpFunc_impl_Hit__impl_compareHits at h
 refine c_seq ?_
 refine rg ?_
 refine st (v := (I b_2)) (rv_move rfl) ?_
 refine st (v := (I a_1)) (rv_move rfl) ?_
 refine st (v := (I (w64 (b_2 - a_1)))) (rv_sub (a := b_2) (b := a_1) rfl rfl) ?_
 refine st (v := (I (w64 (b_2 - a_1)))) (rv_assign rfl) ?_
 refine w_end ?_
 refine q_then ?_
 refine c_seq ?_
 refine rg ?_
 refine st (v := (I (w64 (b_2 - a_1)))) (rv_move rfl) ?_
 refine st (v := (B (decide (8 ≤ (w64 (b_2 - a_1)))))) (rv_geq (a := (w64 (b_2 - a_1))) (b := 8) rfl rfl) ?_
 refine w_end ?_
 refine q_then ?_
 refine cd_cond (decide (8 ≤ (w64 (b_2 - a_1)))) rfl (fun hb1 => ?_) (fun hb1 => ?_)
 ·replace h := bif_t hb1 h
  refine c_seq ?_
  refine rg ?_
  refine st (v := (I (w64 (b_2 - a_1)))) (rv_move rfl) ?_
  refine st (v := (.int .u64 (wk .u64 (w64 (b_2 - a_1))))) (rvk_conv (k := .i64) (k' := .u64) (a := (w64 (b_2 - a_1))) Try.underlying3 Try.underlying170 rfl) ?_
  refine st_ex (ex_alloc (cs := [(.int .u64 0)]) H hn0 ti170 rfl) (wanted_none _ rfl _) ?_
  rintro _ σ3 ⟨b2, rfl, H, -⟩
  refine st_exS (ex_store_box (k := 0) (cs := [(.int .u64 0)]) (vs := [(.int .u64 (wk .u64 (w64 (b_2 - a_1))))]) (cs' := [(.int .u64 (wk .u64 (w64 (b_2 - a_1))))]) H (i := 0) rfl ti170 rfl rfl rfl rfl rfl (Nat.le_of_ble_eq_true rfl) (by simp [plain]) rfl) (wanted_none _ rfl _) ?_
  rintro σ4 ⟨H, -⟩
  refine w_end ?_
  refine q_then ?_
  refine c_seq ?_
  refine rg ?_
  refine st (v := (I (w64 (b_2 - a_1)))) (rv_move rfl) ?_
  obtain ⟨r5, hx6, h'⟩ := bind_some h
  clear h
  have h := h'; clear h'
  have hc7 := c_slices_nextPowerOfTwo hx6
  refine st_call (cx_call hc7 (ent_f hc7.fn rfl) hn0 (show Hp S0 σ0 _ ([] ++ [Ch.bx n0 b2 0 [(.int .u64 (wk .u64 (w64 (b_2 - a_1))))] [] [], Ch.own 0 0 (Sl adata_0 data_0 cdata_0) data_0]) from (H.sel' [0, 1] rfl rfl))) (wanted_none _ rfl _) ?_
  rintro _ σ8 ⟨_, ⟨rfl, rfl⟩, H, -⟩
  replace H : Hp S0 σ0 σ8 [Ch.bx n0 b2 0 [(.int .u64 (wk .u64 (w64 (b_2 - a_1))))] [] [], Ch.own 0 0 (Sl adata_0 data_0 cdata_0) data_0] := H
  refine st (v := (.int .u64 r5)) (rv_assign rfl) ?_
  refine w_end ?_
  refine q_then ?_
  refine c_seq ?_
  refine rg ?_
  refine st (v := (I a_1)) (rv_move rfl) ?_
  refine st (v := (I (w64 (b_2 - a_1)))) (rv_move rfl) ?_
  refine st (v := (I (w64 ((w64 (b_2 - a_1)).tdiv 4)))) (rv_quo (a := (w64 (b_2 - a_1))) (b := 4) rfl rfl (by decide)) ?_
  refine st (v := (I (w64 ((w64 ((w64 (b_2 - a_1)).tdiv 4)) * 2)))) (rv_mul (a := (w64 ((w64 (b_2 - a_1)).tdiv 4))) (b := 2) rfl rfl) ?_
  refine st (v := (I (w64 (a_1 + (w64 ((w64 ((w64 (b_2 - a_1)).tdiv 4)) * 2)))))) (rv_add (a := a_1) (b := (w64 ((w64 ((w64 (b_2 - a_1)).tdiv 4)) * 2))) rfl rfl) ?_
  refine st (v := (I (w64 ((w64 (a_1 + (w64 ((w64 ((w64 (b_2 - a_1)).tdiv 4)) * 2)))) - 1)))) (rv_sub (a := (w64 (a_1 + (w64 ((w64 ((w64 (b_2 - a_1)).tdiv 4)) * 2))))) (b := 1) rfl rfl) ?_
  refine st (v := (I (w64 ((w64 (a_1 + (w64 ((w64 ((w64 (b_2 - a_1)).tdiv 4)) * 2)))) - 1)))) (rv_assign rfl) ?_
  refine w_end ?_
  refine q_then ?_
  obtain ⟨o9, hj, h'⟩ := bind_some h
  clear h
  refine c_cut (fun e a w => e = .normal ∧ ∃ (ρ : Nat → Value) (σ : St), a = fr 67 (updL ρ [(0, (Sl adata_0 o9 cdata_0))]) ∧ w = σ.w ∧ Hp S0 σ0 σ [Ch.own 0 0 (Sl adata_0 o9 cdata_0) o9] ∧ o9.length = data_0.length) ?_ ?_
  ·clear h'
   rename _ = some o9 => h
   refine c_blk ?_
   refine wp_loopM _ h (fun s10 a w => ∃ (ρ : Nat → Value) (σ : St), a = fr 67 (updL ρ [(0, (Sl adata_0 s10.1 cdata_0)), (1, (I a_1)), (8, (I (w64 (b_2 - a_1)))), (9, (pt b2 0)), (10, (.int .u64 r5)), (11, (I s10.2.2))]) ∧ w = σ.w ∧ Hp S0 σ0 σ [Ch.bx n0 b2 0 [(.int .u64 s10.2.1)] [] [], Ch.own 0 0 (Sl adata_0 s10.1 cdata_0) s10.1] ∧ s10.1.length = data_0.length) ⟨_, σ8, fr_join ⟨rfl, rfl, rfl, rfl, rfl, rfl, trivial⟩, rfl, H.sel' [0, 1] rfl rfl, rfl⟩ ?_
   clear h H
   rintro s10 a w o ⟨ρ, σ11, rfl, rfl, H, hn12⟩ h hres
   refine c_seq ?_
   refine c_seq ?_
   refine rg ?_
   refine st (v := (I s10.2.2)) (rv_move rfl) ?_
   refine st (v := (I a_1)) (rv_move rfl) ?_
   refine st (v := (I (w64 (b_2 - a_1)))) (rv_move rfl) ?_
   refine st (v := (I (w64 ((w64 (b_2 - a_1)).tdiv 4)))) (rv_quo (a := (w64 (b_2 - a_1))) (b := 4) rfl rfl (by decide)) ?_
   refine st (v := (I (w64 ((w64 ((w64 (b_2 - a_1)).tdiv 4)) * 2)))) (rv_mul (a := (w64 ((w64 (b_2 - a_1)).tdiv 4))) (b := 2) rfl rfl) ?_
   refine st (v := (I (w64 (a_1 + (w64 ((w64 ((w64 (b_2 - a_1)).tdiv 4)) * 2)))))) (rv_add (a := a_1) (b := (w64 ((w64 ((w64 (b_2 - a_1)).tdiv 4)) * 2))) rfl rfl) ?_
   refine st (v := (I (w64 ((w64 (a_1 + (w64 ((w64 ((w64 (b_2 - a_1)).tdiv 4)) * 2)))) + 1)))) (rv_add (a := (w64 (a_1 + (w64 ((w64 ((w64 (b_2 - a_1)).tdiv 4)) * 2))))) (b := 1) rfl rfl) ?_
   refine st (v := (B (decide (s10.2.2 ≤ (w64 ((w64 (a_1 + (w64 ((w64 ((w64 (b_2 - a_1)).tdiv 4)) * 2)))) + 1)))))) (rv_leq (a := s10.2.2) (b := (w64 ((w64 (a_1 + (w64 ((w64 ((w64 (b_2 - a_1)).tdiv 4)) * 2)))) + 1))) rfl rfl) ?_
   refine w_end ?_
   refine q_then ?_
   refine cd_cond (decide (s10.2.2 ≤ (w64 ((w64 (a_1 + (w64 ((w64 ((w64 (b_2 - a_1)).tdiv 4)) * 2)))) + 1)))) rfl (fun hb13 => ?_) (fun hb13 => ?_)
   ·replace h := bif_t hb13 h
    refine c_skip ?_
    refine q_then ?_
    refine c_seq ?_
    refine c_blk ?_
    refine c_seq ?_
    refine rg ?_
    obtain ⟨r14, hx15, h'⟩ := bind_some h
    clear h
    have h := h'; clear h'
    have hc16 := c_slices_xorshift_Next (lor_0 := n0) (br_0 := b2) (or_0 := 0) (prer_0 := []) (sufr_0 := []) hx15
    refine st_call (cx_call hc16 (ent_f hc16.fn rfl) hn0 (show Hp S0 σ0 _ ([Ch.bx n0 b2 0 [(.int .u64 s10.2.1)] [] []] ++ [Ch.own 0 0 (Sl adata_0 s10.1 cdata_0) s10.1]) from (H.sel' [0, 1] rfl rfl))) (wanted_none _ rfl _) ?_
    rintro _ σ17 ⟨_, ⟨rfl, rfl⟩, H, -⟩
    replace H : Hp S0 σ0 σ17 [Ch.bx n0 b2 0 [(.int .u64 r14.2)] [] [], Ch.own 0 0 (Sl adata_0 s10.1 cdata_0) s10.1] := H
    refine st (v := (.int .u64 r5)) (rv_move rfl) ?_
    refine st (v := (.int .u64 (wk .u64 (r5 - 1)))) (rvk_sub (k := .u64) (a := r5) (b := 1) rfl rfl) ?_
    refine st (v := (.int .u64 (gandk .u64 r14.1 (wk .u64 (r5 - 1))))) (rvk_and (k := .u64) (a := r14.1) (b := (wk .u64 (r5 - 1))) rfl rfl) ?_
    refine st (v := (I (wk .i64 (gandk .u64 r14.1 (wk .u64 (r5 - 1)))))) (rvk_conv (k := .u64) (k' := .i64) (a := (gandk .u64 r14.1 (wk .u64 (r5 - 1)))) Try.underlying143 Try.underlying3 rfl) ?_
    refine st (v := (I (wk .i64 (gandk .u64 r14.1 (wk .u64 (r5 - 1)))))) (rv_assign rfl) ?_
    refine w_end ?_
    refine q_then ?_
    refine c_seq ?_
    refine c_seq ?_
    refine rg ?_
    refine st (v := (I (wk .i64 (gandk .u64 r14.1 (wk .u64 (r5 - 1)))))) (rv_move rfl) ?_
    refine st (v := (I (w64 (b_2 - a_1)))) (rv_move rfl) ?_
    refine st (v := (B (decide ((w64 (b_2 - a_1)) ≤ (wk .i64 (gandk .u64 r14.1 (wk .u64 (r5 - 1)))))))) (rv_geq (a := (wk .i64 (gandk .u64 r14.1 (wk .u64 (r5 - 1))))) (b := (w64 (b_2 - a_1))) rfl rfl) ?_
    refine w_end ?_
    refine q_then ?_
    obtain ⟨o18, hj, h'⟩ := bind_some h
    clear h
    refine c_cut (fun e a w => e = .normal ∧ ∃ (ρ : Nat → Value) (σ : St), a = fr 67 (updL ρ [(0, (Sl adata_0 s10.1 cdata_0)), (1, (I a_1)), (8, (I (w64 (b_2 - a_1)))), (9, (pt b2 0)), (10, (.int .u64 r5)), (11, (I s10.2.2)), (12, (I o18))]) ∧ w = σ.w ∧ Hp S0 σ0 σ [Ch.own 0 0 (Sl adata_0 s10.1 cdata_0) s10.1, Ch.bx n0 b2 0 [(.int .u64 r14.2)] [] []]) ?_ ?_
    ·clear h'
     rename _ = some o18 => h
     refine cd_cond (decide ((w64 (b_2 - a_1)) ≤ (wk .i64 (gandk .u64 r14.1 (wk .u64 (r5 - 1)))))) rfl (fun hb19 => ?_) (fun hb19 => ?_)
     ·replace h := bif_t hb19 h
      refine rg ?_
      refine st (v := (I (wk .i64 (gandk .u64 r14.1 (wk .u64 (r5 - 1)))))) (rv_move rfl) ?_
      refine st (v := (I (w64 (b_2 - a_1)))) (rv_move rfl) ?_
      refine st (v := (I (w64 ((wk .i64 (gandk .u64 r14.1 (wk .u64 (r5 - 1)))) - (w64 (b_2 - a_1)))))) (rv_sub (a := (wk .i64 (gandk .u64 r14.1 (wk .u64 (r5 - 1))))) (b := (w64 (b_2 - a_1))) rfl rfl) ?_
      refine st (v := (I (w64 ((wk .i64 (gandk .u64 r14.1 (wk .u64 (r5 - 1)))) - (w64 (b_2 - a_1)))))) (rv_assign rfl) ?_
      refine w_end ?_
      obtain rfl := Option.some.inj h
      exact ⟨rfl, _, σ17, fr_join ⟨rfl, rfl, rfl, rfl, rfl, rfl, rfl, trivial⟩, rfl, H.sel' [1, 0] rfl rfl⟩
     ·replace h := bif_f hb19 h
      refine c_skip ?_
      obtain rfl := Option.some.inj h
      exact ⟨rfl, _, σ17, fr_join ⟨rfl, rfl, rfl, rfl, rfl, rfl, rfl, trivial⟩, rfl, H.sel' [1, 0] rfl rfl⟩
    ·clear hj
     have h := h'
     clear h' H
     rintro e a w ⟨rfl, ρ, σ20, rfl, rfl, H⟩
     refine q_then ?_
     obtain ⟨x21, hx22, h'⟩ := bind_some h
     clear h
     have h := h'; clear h'
     obtain ⟨b24, o25, hi23, -⟩ := (H.own 0 rfl).ix hx22
     obtain ⟨_, ⟨_, _, rfl, rfl, rfl⟩, hl26, hc27⟩ := ((H.own 0 rfl).at hx22 hi23).cells
     obtain ⟨x28, hx29, h'⟩ := bind_some h
     clear h
     have h := h'; clear h'
     obtain ⟨b31, o32, hi30, -⟩ := (H.own 0 rfl).ix hx29
     obtain ⟨_, ⟨_, _, rfl, rfl, rfl⟩, hl33, hc34⟩ := ((H.own 0 rfl).at hx29 hi30).cells
     obtain ⟨x35, hx36, h'⟩ := bind_some h
     clear h
     have h := h'; clear h'
     obtain ⟨b38, o39, hi37, -⟩ := (H.own 0 rfl).ix hx36
     have Hs := H
     refine rg2 (σ := σ20) (Nm := Unit) 18 [17] [[false], [true]] [[(0, 0)], [(0, 0)], [(0, 0), (1, 1)], [(0, 0), (1, 1)], [(0, 0), (1, 1)], [(0, 0), (1, 1)], [(0, 0)], [(0, 0)], [(0, 0)], [(0, 0)], [(0, 0)], [(0, 0)], [(0, 0)], [(0, 0)], [(0, 0)], [(0, 0)], [(0, 0)], [(0, 1)]] 1 [fun (_nm : Unit) => fun σm => Hp S0 σ0 σm [Ch.own 0 0 (Sl adata_0 s10.1 cdata_0) s10.1, Ch.bx n0 b2 0 [(.int .u64 r14.2)] [] []] ∧ Md (cov []) σ20 σm, fun (_nm : Unit) => fun σm => Hp S0 σ0 σm [Ch.own 0 0 (Sl adata_0 s10.1 cdata_0) (s10.1.set s10.2.2.toNat (x21.1, x21.2)), Ch.bx n0 b2 0 [(.int .u64 r14.2)] [] []] ∧ Md (fun i => (cov []) i ∨ (fun b => blk (Sl adata_0 s10.1 cdata_0) = some b) i) σ20 σm] [fun (_nm : Unit) => (Sl adata_0 s10.1 cdata_0), fun (_nm : Unit) => (I s10.2.2), fun (_nm : Unit) => (Sl adata_0 s10.1 cdata_0), fun (_nm : Unit) => (I a_1), fun (_nm : Unit) => (I o18), fun (_nm : Unit) => (I (w64 (a_1 + o18))), fun (_nm : Unit) => (Sl adata_0 s10.1 cdata_0), fun (_nm : Unit) => (I a_1), fun (_nm : Unit) => (I o18), fun (_nm : Unit) => (I (w64 (a_1 + o18))), fun (_nm : Unit) => (pt b24 o25), fun (_nm : Unit) => (.agg #[(I x21.1), (I x21.2)]), fun (_nm : Unit) => (Sl adata_0 s10.1 cdata_0), fun (_nm : Unit) => (I s10.2.2), fun (_nm : Unit) => (pt b31 o32), fun (_nm : Unit) => (.agg #[(I x28.1), (I x28.2)]), fun (_nm : Unit) => (pt b38 o39), fun (_nm : Unit) => undef] () (by kernel_rfl) (by kernel_rfl) ?_ ?_ ?_
     ·intro σm m0
      exact ⟨H.grow (m0.mono fun _ h => h.elim), m0⟩
     ·refine all_cons (obs_v rfl (by
        intro k; intro _nm ρ σm hJ hoff hdep
        have e0 : look 67 ρ 0 = (Sl adata_0 s10.1 cdata_0) := look_off (hoff 0 rfl) rfl
        exact dp_v (v := (Sl adata_0 s10.1 cdata_0)) (wanted_none _ rfl _) (rv_move e0) rfl hJ)) ?_
      refine all_cons (obs_v rfl (by
        intro k; intro _nm ρ σm hJ hoff hdep
        have e11 : look 67 ρ 11 = (I s10.2.2) := look_off (hoff 11 rfl) rfl
        exact dp_v (v := (I s10.2.2)) (wanted_none _ rfl _) (rv_move e11) rfl hJ)) ?_
      refine all_cons (obs_v rfl (by
        intro k; intro _nm ρ σm hJ hoff hdep
        have e0 : look 67 ρ 0 = (Sl adata_0 s10.1 cdata_0) := look_off (hoff 0 rfl) rfl
        exact dp_v (v := (Sl adata_0 s10.1 cdata_0)) (wanted_none _ rfl _) (rv_move e0) rfl hJ)) ?_
      refine all_cons (obs_v rfl (by
        intro k; intro _nm ρ σm hJ hoff hdep
        have e1 : look 67 ρ 1 = (I a_1) := look_off (hoff 1 rfl) rfl
        exact dp_v (v := (I a_1)) (wanted_none _ rfl _) (rv_move e1) rfl hJ)) ?_
      refine all_cons (obs_v rfl (by
        intro k; intro _nm ρ σm hJ hoff hdep
        have e12 : look 67 ρ 12 = (I o18) := look_off (hoff 12 rfl) rfl
        exact dp_v (v := (I o18)) (wanted_none _ rfl _) (rv_move e12) rfl hJ)) ?_
      refine all_cons (obs_v rfl (by
        intro k; intro _nm ρ σm hJ hoff hdep
        have e52 : look 67 ρ 52 = (I a_1) := hdep 3 rfl rfl 52 rfl
        have e53 : look 67 ρ 53 = (I o18) := hdep 4 rfl rfl 53 rfl
        exact dp_v (v := (I (w64 (a_1 + o18)))) (wanted_none _ rfl _) (rv_add (a := a_1) (b := o18) e52 e53) rfl hJ)) ?_
      refine all_cons (obs_v rfl (by
        intro k; intro _nm ρ σm hJ hoff hdep
        have e0 : look 67 ρ 0 = (Sl adata_0 s10.1 cdata_0) := look_off (hoff 0 rfl) rfl
        exact dp_v (v := (Sl adata_0 s10.1 cdata_0)) (wanted_none _ rfl _) (rv_move e0) rfl hJ)) ?_
      refine all_cons (obs_v rfl (by
        intro k; intro _nm ρ σm hJ hoff hdep
        have e1 : look 67 ρ 1 = (I a_1) := look_off (hoff 1 rfl) rfl
        exact dp_v (v := (I a_1)) (wanted_none _ rfl _) (rv_move e1) rfl hJ)) ?_
      refine all_cons (obs_v rfl (by
        intro k; intro _nm ρ σm hJ hoff hdep
        have e12 : look 67 ρ 12 = (I o18) := look_off (hoff 12 rfl) rfl
        exact dp_v (v := (I o18)) (wanted_none _ rfl _) (rv_move e12) rfl hJ)) ?_
      refine all_cons (obs_v rfl (by
        intro k; intro _nm ρ σm hJ hoff hdep
        have e56 : look 67 ρ 56 = (I a_1) := hdep 7 rfl rfl 56 rfl
        have e57 : look 67 ρ 57 = (I o18) := hdep 8 rfl rfl 57 rfl
        exact dp_v (v := (I (w64 (a_1 + o18)))) (wanted_none _ rfl _) (rv_add (a := a_1) (b := o18) e56 e57) rfl hJ)) ?_
      refine all_cons (obs_v rfl (by
        intro k; intro _nm ρ σm hJ hoff hdep
        have e55 : look 67 ρ 55 = (Sl adata_0 s10.1 cdata_0) := hdep 6 rfl rfl 55 rfl
        have e58 : look 67 ρ 58 = (I (w64 (a_1 + o18))) := hdep 9 rfl rfl 58 rfl
        exact dp_v (v := (pt b24 o25)) (wanted_none _ rfl _) (rv_ix Try.underlying27 ti33 e55 e58 hi23) rfl hJ)) ?_
      refine all_cons (by
        refine ⟨?_, ?_⟩
        ·intro _nm ρ σm hJ hoff hdep
         have e59 : look 67 ρ 59 = (pt b24 o25) := hdep 10 rfl rfl 59 rfl
         obtain ⟨H, m⟩ := id hJ
         obtain ⟨_, ⟨_, _, rfl, rfl, rfl⟩, hl26, hc27⟩ := ((H.own 0 rfl).at hx22 hi23).cells
         exact dp_v (v := (.agg #[(I x21.1), (I x21.2)])) (wanted_none _ rfl _) (rv_load Try.underlying33 rfl ti33 e59 hl26 hc27) rfl hJ
        trivial) ?_
      refine all_cons (obs_v rfl (by
        intro k; intro _nm ρ σm hJ hoff hdep
        have e0 : look 67 ρ 0 = (Sl adata_0 s10.1 cdata_0) := look_off (hoff 0 rfl) rfl
        exact dp_v (v := (Sl adata_0 s10.1 cdata_0)) (wanted_none _ rfl _) (rv_move e0) rfl hJ)) ?_
      refine all_cons (obs_v rfl (by
        intro k; intro _nm ρ σm hJ hoff hdep
        have e11 : look 67 ρ 11 = (I s10.2.2) := look_off (hoff 11 rfl) rfl
        exact dp_v (v := (I s10.2.2)) (wanted_none _ rfl _) (rv_move e11) rfl hJ)) ?_
      refine all_cons (obs_v rfl (by
        intro k; intro _nm ρ σm hJ hoff hdep
        have e61 : look 67 ρ 61 = (Sl adata_0 s10.1 cdata_0) := hdep 12 rfl rfl 61 rfl
        have e62 : look 67 ρ 62 = (I s10.2.2) := hdep 13 rfl rfl 62 rfl
        exact dp_v (v := (pt b31 o32)) (wanted_none _ rfl _) (rv_ix Try.underlying27 ti33 e61 e62 hi30) rfl hJ)) ?_
      refine all_cons (by
        refine ⟨?_, ?_⟩
        ·intro _nm ρ σm hJ hoff hdep
         have e63 : look 67 ρ 63 = (pt b31 o32) := hdep 14 rfl rfl 63 rfl
         obtain ⟨H, m⟩ := id hJ
         obtain ⟨_, ⟨_, _, rfl, rfl, rfl⟩, hl33, hc34⟩ := ((H.own 0 rfl).at hx29 hi30).cells
         exact dp_v (v := (.agg #[(I x28.1), (I x28.2)])) (wanted_none _ rfl _) (rv_load Try.underlying33 rfl ti33 e63 hl33 hc34) rfl hJ
        trivial) ?_
      refine all_cons (obs_v rfl (by
        intro k; intro _nm ρ σm hJ hoff hdep
        have e49 : look 67 ρ 49 = (Sl adata_0 s10.1 cdata_0) := hdep 0 rfl rfl 49 rfl
        have e50 : look 67 ρ 50 = (I s10.2.2) := hdep 1 rfl rfl 50 rfl
        exact dp_v (v := (pt b38 o39)) (wanted_none _ rfl _) (rv_ix Try.underlying27 ti33 e49 e50 hi37) rfl hJ)) ?_
      refine all_cons (by
        refine ⟨?_, ?_⟩
        ·intro _nm ρ σm hJ hoff hdep
         have e65 : look 67 ρ 65 = (pt b38 o39) := hdep 16 rfl rfl 65 rfl
         have e60 : look 67 ρ 60 = (.agg #[(I x21.1), (I x21.2)]) := hdep 11 rfl rfl 60 rfl
         obtain ⟨H, m⟩ := id hJ
         refine dp_exS (wanted_none _ rfl _) rfl (ex_store_own (e' := (x21.1, x21.2)) (vs := [(I x21.1), (I x21.2)]) (k := 0) H (i := 0) rfl ti33 hx36 hi37 e65 rfl e60 rfl rfl (Nat.le_of_ble_eq_true rfl) (by simp [plain]) (by rintro _ ⟨_, _, rfl, rfl, rfl⟩; exact ⟨[(I x21.1)], [(I x21.2)], rfl, rfl, rfl⟩)) ?_
         rintro σq ⟨H2, m2⟩
         exact ⟨_, (), rfl, ⟨H2.sel' [0, 1] rfl rfl, m.comp m2⟩, stab [0, 1, 2, 3, 4, 5, 6, 7, 8, 9, 10, 11, 12, 13, 14, 15, 16] (by kernel_rfl) ⟨rfl, rfl, rfl, rfl, rfl, rfl, rfl, rfl, rfl, rfl, rfl, rfl, rfl, rfl, rfl, rfl, rfl, trivial⟩⟩
        trivial) ?_
      exact all_nil
     ·intro _nm ρ σ40 hJ hoff hrel
      have e0 : look 67 ρ 0 = (Sl adata_0 s10.1 cdata_0) := look_off (hoff 0 rfl) rfl
      have e1 : look 67 ρ 1 = (I a_1) := look_off (hoff 1 rfl) rfl
      have e8 : look 67 ρ 8 = (I (w64 (b_2 - a_1))) := look_off (hoff 8 rfl) rfl
      have e9 : look 67 ρ 9 = (pt b2 0) := look_off (hoff 9 rfl) rfl
      have e10 : look 67 ρ 10 = (.int .u64 r5) := look_off (hoff 10 rfl) rfl
      have e11 : look 67 ρ 11 = (I s10.2.2) := look_off (hoff 11 rfl) rfl
      have e51 : look 67 ρ 51 = (Sl adata_0 s10.1 cdata_0) := hrel 2 rfl 51 rfl
      have e54 : look 67 ρ 54 = (I (w64 (a_1 + o18))) := hrel 5 rfl 54 rfl
      have e64 : look 67 ρ 64 = (.agg #[(I x28.1), (I x28.2)]) := hrel 15 rfl 64 rfl
      obtain ⟨H, -⟩ := (show Hp S0 σ0 σ40 [Ch.own 0 0 (Sl adata_0 s10.1 cdata_0) (s10.1.set s10.2.2.toNat (x21.1, x21.2)), Ch.bx n0 b2 0 [(.int .u64 r14.2)] [] []] ∧ Md (fun i => (cov []) i ∨ (fun b => blk (Sl adata_0 s10.1 cdata_0) = some b) i) σ20 σ40 from hJ)
      clear hJ Hs
      rw [fr_lookL (L := [(0, (Sl adata_0 s10.1 cdata_0)), (1, (I a_1)), (8, (I (w64 (b_2 - a_1)))), (9, (pt b2 0)), (10, (.int .u64 r5)), (11, (I s10.2.2)), (51, (Sl adata_0 s10.1 cdata_0)), (54, (I (w64 (a_1 + o18)))), (64, (.agg #[(I x28.1), (I x28.2)]))]) ⟨e0, e1, e8, e9, e10, e11, e51, e54, e64, trivial⟩]
      clear hoff hrel e0 e1 e8 e9 e10 e11 e51 e54 e64
      have hsl : (Sl adata_0 s10.1 cdata_0) = (Sl adata_0 (s10.1.set s10.2.2.toNat (x21.1, x21.2)) cdata_0) := sl_len (by simp)
      rw [hsl]; rw [hsl] at H; clear hsl
      obtain ⟨x41, hx42, h'⟩ := bind_some h
      clear h
      have h := h'; clear h'
      obtain ⟨b44, o45, hi43, -⟩ := (H.own 0 rfl).ix hx42
      refine st (v := (pt b44 o45)) (rv_ix Try.underlying27 ti33 rfl rfl hi43) ?_
      refine st_exS (ex_store_own (e' := (x28.1, x28.2)) (vs := [(I x28.1), (I x28.2)]) (k := 0) H (i := 0) rfl ti33 hx42 hi43 rfl rfl rfl rfl rfl (Nat.le_of_ble_eq_true rfl) (by simp [plain]) (by rintro _ ⟨_, _, rfl, rfl, rfl⟩; exact ⟨[(I x28.1)], [(I x28.2)], rfl, rfl, rfl⟩)) (wanted_none _ rfl _) ?_
      rintro σ46 ⟨H, -⟩
      have hsl : (Sl adata_0 (s10.1.set s10.2.2.toNat (x21.1, x21.2)) cdata_0) = (Sl adata_0 ((s10.1.set s10.2.2.toNat (x21.1, x21.2)).set (w64 (a_1 + o18)).toNat (x28.1, x28.2)) cdata_0) := sl_len List.length_set.symm
      rw [hsl]; rw [hsl] at H; clear hsl
      refine w_end ?_
      refine q_blk ?_
      refine q_then ?_
      refine rg ?_
      refine st (v := (I s10.2.2)) (rv_move rfl) ?_
      refine st (v := (I (w64 (s10.2.2 + 1)))) (rv_add (a := s10.2.2) (b := 1) rfl rfl) ?_
      refine st (v := (I (w64 (s10.2.2 + 1)))) (rv_assign rfl) ?_
      refine w_end ?_
      refine q_then ?_
      obtain rfl := Option.some.inj h
      exact ⟨_, rfl, _, σ46, fr_join ⟨rfl, rfl, rfl, rfl, rfl, rfl, trivial⟩, rfl, H.sel' [1, 0] rfl rfl, (List.length_set.trans (List.length_set.trans hn12))⟩
   ·replace h := bif_f hb13 h
    refine c_exit ?_
    refine q_then_x ?_
    refine q_then_x ?_
    refine q_blk_hit ?_
    obtain rfl := Option.some.inj h
    obtain rfl := hres _ rfl
    exact ⟨rfl, _, σ11, fr_join ⟨rfl, trivial⟩, rfl, H.sel' [1] rfl rfl, hn12⟩
  ·clear hj
   have h := h'
   clear h' H
   rintro e a w ⟨rfl, ρ, σ47, rfl, rfl, H, hn48⟩
   obtain rfl := Option.some.inj h
   exact fin_end (v := (.tuple #[])) (results_ok Try.results136 res_nil rfl) ⟨rfl, rfl, hn48⟩ (H.sel' [0] rfl rfl)
 ·replace h := bif_f hb1 h
  refine c_skip ?_
  obtain rfl := Option.some.inj h
  exact fin_end (v := (.tuple #[])) (results_ok Try.results136 res_nil rfl) ⟨rfl, rfl, rfl⟩ (H.sel' [0] rfl rfl)

theorem c_slices_order2CmpFunc_impl_Hit__impl_compareHits {data_0 : List (Int × Int)} {a_1 : Int} {b_2 : Int} {swaps_3 : Int} {adata_0 : Option Addr} {cdata_0 : Nat} {loswaps_3 bswaps_3 oswaps_3 : Nat} {preswaps_3 sufswaps_3 : List Value} {r : Int × Int × Int} (h : M.slices_order2CmpFunc_impl_Hit__impl_compareHits data_0 a_1 b_2 swaps_3 = some r) :
    Cal2 Try.prog 160 [(Sl adata_0 data_0 cdata_0), (I a_1), (I b_2), (pt bswaps_3 oswaps_3), (.func (.func 89) #[] #[])] [Ch.ro 0 (Sl adata_0 data_0 cdata_0) data_0, Ch.bx loswaps_3 bswaps_3 oswaps_3 [(I swaps_3)] preswaps_3 sufswaps_3] (fun n0 v L => v = (.tuple #[(I r.1), (I r.2.1)]) ∧ L = [Ch.bx loswaps_3 bswaps_3 oswaps_3 [(I r.2.2)] preswaps_3 sufswaps_3]) := by
 refine cal2 (n := 32) Try.func160 rfl rfl rfl rfl ?_
 intro S0 σ0 n0 hn0 H
 unfold M.slices_order2CmpFunc_impl_Hit__impl_compareHits at h
 refine c_seq ?_
 refine rg ?_
 refine st (v := (I 0)) (rv_assign rfl) ?_
 refine st (v := (I 0)) (rv_assign rfl) ?_
 refine w_end ?_
 refine q_then ?_
 refine c_seq ?_
 refine c_seq ?_
 refine rgP (σ := σ0) 9 (by kernel_rfl) (by kernel_rfl) (by kernel_rfl) ?_
 refine sq (v := (.func (.func 89) #[] #[])) (rv_move rfl) ?_
 refine sq (v := (Sl adata_0 data_0 cdata_0)) (rv_move rfl) ?_
 refine sq (v := (I b_2)) (rv_move rfl) ?_
 obtain ⟨x1, hx2, h'⟩ := bind_some h
 clear h
 have h := h'; clear h'
 obtain ⟨b4, o5, hi3, -⟩ := (H.ro 0 rfl).ix hx2
 refine sq (v := (pt b4 o5)) (rv_ix Try.underlying27 ti33 rfl rfl hi3) ?_
 obtain ⟨_, ⟨_, _, rfl, rfl, rfl⟩, hl6, hc7⟩ := ((H.ro 0 rfl).at hx2 hi3).cells
 refine sq (v := (.agg #[(I x1.1), (I x1.2)])) (rv_load Try.underlying33 rfl ti33 rfl hl6 hc7) ?_
 refine sq (v := (Sl adata_0 data_0 cdata_0)) (rv_move rfl) ?_
 refine sq (v := (I a_1)) (rv_move rfl) ?_
 obtain ⟨x8, hx9, h'⟩ := bind_some h
 clear h
 have h := h'; clear h'
 obtain ⟨b11, o12, hi10, -⟩ := (H.ro 0 rfl).ix hx9
 refine sq (v := (pt b11 o12)) (rv_ix Try.underlying27 ti33 rfl rfl hi10) ?_
 obtain ⟨_, ⟨_, _, rfl, rfl, rfl⟩, hl13, hc14⟩ := ((H.ro 0 rfl).at hx9 hi10).cells
 refine sq (v := (.agg #[(I x8.1), (I x8.2)])) (rv_load Try.underlying33 rfl ti33 rfl hl13 hc14) ?_
 refine sq_end ?_
 intro σ15 hm16
 replace H := H.grow (hm16.mono fun _ h => h); clear hm16
 obtain ⟨r17, hx18, h'⟩ := bind_some h
 clear h
 have h := h'; clear h'
 have hc19 := c_impl_compareHits hx18
 refine st_call (cx_call hc19 (ent_v (cap := []) hc19.fn rfl rfl) hn0 (show Hp S0 σ0 _ ([] ++ [Ch.ro 0 (Sl adata_0 data_0 cdata_0) data_0, Ch.bx loswaps_3 bswaps_3 oswaps_3 [(I swaps_3)] preswaps_3 sufswaps_3]) from (H.sel' [0, 1] rfl rfl))) (wanted_none _ rfl _) ?_
 rintro _ σ20 ⟨_, ⟨rfl, rfl⟩, H, -⟩
 replace H : Hp S0 σ0 σ20 [Ch.ro 0 (Sl adata_0 data_0 cdata_0) data_0, Ch.bx loswaps_3 bswaps_3 oswaps_3 [(I swaps_3)] preswaps_3 sufswaps_3] := H
 refine st (v := (B (decide (r17 < 0)))) (rv_lss (a := r17) (b := 0) rfl rfl) ?_
 refine w_end ?_
 refine q_then ?_
 refine cd_cond (decide (r17 < 0)) rfl (fun hb21 => ?_) (fun hb21 => ?_)
 ·replace h := bif_t hb21 h
  refine c_seq ?_
  refine rg ?_
  refine st (v := (pt bswaps_3 oswaps_3)) (rv_move rfl) ?_
  refine st (v := (pt bswaps_3 oswaps_3)) (rv_nilCheck rfl) ?_
  have hc22 := H.cell (u := (I swaps_3)) (o' := oswaps_3) 1 0 rfl rfl rfl
  refine st (v := (I swaps_3)) (rv_load1 Try.underlying3 rfl rfl hc22) ?_
  refine st (v := (I (w64 (swaps_3 + 1)))) (rv_add (a := swaps_3) (b := 1) rfl rfl) ?_
  refine st (v := (pt bswaps_3 oswaps_3)) (rv_nilCheck rfl) ?_
  refine st_exS (ex_store_box (k := 0) (cs := [(I swaps_3)]) (vs := [(I (w64 (swaps_3 + 1)))]) (cs' := [(I (w64 (swaps_3 + 1)))]) H (i := 1) rfl ti3 rfl rfl rfl rfl rfl (Nat.le_of_ble_eq_true rfl) (by simp [plain]) rfl) (wanted_none _ rfl _) ?_
  rintro σ23 ⟨H, -⟩
  refine w_end ?_
  refine q_then ?_
  refine c_seq ?_
  refine rg ?_
  refine st (v := (I b_2)) (rv_move rfl) ?_
  refine st (v := (I a_1)) (rv_move rfl) ?_
  refine st (v := (I b_2)) (rv_assign rfl) ?_
  refine st (v := (I a_1)) (rv_assign rfl) ?_
  refine w_end ?_
  refine q_then ?_
  refine c_ret ?_
  refine q_then_r ?_
  obtain rfl := Option.some.inj h
  exact fin_ret (v := (.tuple #[(I b_2), (I a_1)])) (results_ok Try.results160 (res_tmp (v := (I b_2)) rfl (res_tmp (v := (I a_1)) rfl res_nil)) rfl) ⟨rfl, rfl⟩ (H.sel' [0] rfl rfl)
 ·replace h := bif_f hb21 h
  refine c_skip ?_
  refine q_then ?_
  refine c_seq ?_
  refine rg ?_
  refine st (v := (I a_1)) (rv_move rfl) ?_
  refine st (v := (I b_2)) (rv_move rfl) ?_
  refine st (v := (I a_1)) (rv_assign rfl) ?_
  refine st (v := (I b_2)) (rv_assign rfl) ?_
  refine w_end ?_
  refine q_then ?_
  refine c_ret ?_
  obtain rfl := Option.some.inj h
  exact fin_ret (v := (.tuple #[(I a_1), (I b_2)])) (results_ok Try.results160 (res_tmp (v := (I a_1)) rfl (res_tmp (v := (I b_2)) rfl res_nil)) rfl) ⟨rfl, rfl⟩ (H.sel' [1] rfl rfl)

theorem c_slices_medianCmpFunc_impl_Hit__impl_compareHits {data_0 : List (Int × Int)} {a_1 : Int} {b_2 : Int} {c_3 : Int} {swaps_4 : Int} {adata_0 : Option Addr} {cdata_0 : Nat} {loswaps_4 bswaps_4 oswaps_4 : Nat} {preswaps_4 sufswaps_4 : List Value} {r : Int × Int} (h : M.slices_medianCmpFunc_impl_Hit__impl_compareHits data_0 a_1 b_2 c_3 swaps_4 = some r) :
    Cal2 Try.prog 156 [(Sl adata_0 data_0 cdata_0), (I a_1), (I b_2), (I c_3), (pt bswaps_4 oswaps_4), (.func (.func 89) #[] #[])] [Ch.ro 0 (Sl adata_0 data_0 cdata_0) data_0, Ch.bx loswaps_4 bswaps_4 oswaps_4 [(I swaps_4)] preswaps_4 sufswaps_4] (fun n0 v L => v = (I r.1) ∧ L = [Ch.bx loswaps_4 bswaps_4 oswaps_4 [(I r.2)] preswaps_4 sufswaps_4]) := by
 refine cal2 (n := 41) Try.func156 rfl rfl rfl rfl ?_
 intro S0 σ0 n0 hn0 H
 unfold M.slices_medianCmpFunc_impl_Hit__impl_compareHits at h
 refine c_seq ?_
 refine rg ?_
 refine st (v := (I 0)) (rv_assign rfl) ?_
 refine w_end ?_
 refine q_then ?_
 refine c_seq ?_
 refine rg ?_
 refine st (v := (Sl adata_0 data_0 cdata_0)) (rv_move rfl) ?_
 refine st (v := (I a_1)) (rv_move rfl) ?_
 refine st (v := (I b_2)) (rv_move rfl) ?_
 refine st (v := (pt bswaps_4 oswaps_4)) (rv_move rfl) ?_
 refine st (v := (.func (.func 89) #[] #[])) (rv_move rfl) ?_
 obtain ⟨r1, hx2, h'⟩ := bind_some h
 clear h
 have h := h'; clear h'
 have hc3 := c_slices_order2CmpFunc_impl_Hit__impl_compareHits (adata_0 := adata_0) (cdata_0 := cdata_0) (loswaps_3 := loswaps_4) (bswaps_3 := bswaps_4) (oswaps_3 := oswaps_4) (preswaps_3 := preswaps_4) (sufswaps_3 := sufswaps_4) hx2
 refine st_call (cx_call hc3 (ent_f hc3.fn rfl) hn0 (show Hp S0 σ0 _ ([Ch.ro 0 (Sl adata_0 data_0 cdata_0) data_0, Ch.bx loswaps_4 bswaps_4 oswaps_4 [(I swaps_4)] preswaps_4 sufswaps_4] ++ [Ch.ro 0 (Sl adata_0 data_0 cdata_0) data_0]) from (H.sel' [0, 1, 0] rfl rfl))) (wanted_none _ rfl _) ?_
 rintro _ σ4 ⟨_, ⟨rfl, rfl⟩, H, -⟩
 replace H : Hp S0 σ0 σ4 [Ch.bx loswaps_4 bswaps_4 oswaps_4 [(I r1.2.2)] preswaps_4 sufswaps_4, Ch.ro 0 (Sl adata_0 data_0 cdata_0) data_0] := H
 refine st (v := (.tuple #[(I r1.1), (I r1.2.1)])) (rv_move rfl) ?_
 refine st (v := (I r1.1)) (rv_extract rfl rfl) ?_
 refine st (v := (I r1.2.1)) (rv_extract rfl rfl) ?_
 refine st (v := (I r1.1)) (rv_assign rfl) ?_
 refine st (v := (I r1.2.1)) (rv_assign rfl) ?_
 refine w_end ?_
 refine q_then ?_
 refine c_seq ?_
 refine rg ?_
 refine st (v := (Sl adata_0 data_0 cdata_0)) (rv_move rfl) ?_
 refine st (v := (I r1.2.1)) (rv_move rfl) ?_
 refine st (v := (I c_3)) (rv_move rfl) ?_
 refine st (v := (pt bswaps_4 oswaps_4)) (rv_move rfl) ?_
 refine st (v := (.func (.func 89) #[] #[])) (rv_move rfl) ?_
 obtain ⟨r5, hx6, h'⟩ := bind_some h
 clear h
 have h := h'; clear h'
 have hc7 := c_slices_order2CmpFunc_impl_Hit__impl_compareHits (adata_0 := adata_0) (cdata_0 := cdata_0) (loswaps_3 := loswaps_4) (bswaps_3 := bswaps_4) (oswaps_3 := oswaps_4) (preswaps_3 := preswaps_4) (sufswaps_3 := sufswaps_4) hx6
 refine st_call (cx_call hc7 (ent_f hc7.fn rfl) hn0 (show Hp S0 σ0 _ ([Ch.ro 0 (Sl adata_0 data_0 cdata_0) data_0, Ch.bx loswaps_4 bswaps_4 oswaps_4 [(I r1.2.2)] preswaps_4 sufswaps_4] ++ [Ch.ro 0 (Sl adata_0 data_0 cdata_0) data_0]) from (H.sel' [1, 0, 1] rfl rfl))) (wanted_none _ rfl _) ?_
 rintro _ σ8 ⟨_, ⟨rfl, rfl⟩, H, -⟩
 replace H : Hp S0 σ0 σ8 [Ch.bx loswaps_4 bswaps_4 oswaps_4 [(I r5.2.2)] preswaps_4 sufswaps_4, Ch.ro 0 (Sl adata_0 data_0 cdata_0) data_0] := H
 refine st (v := (.tuple #[(I r5.1), (I r5.2.1)])) (rv_move rfl) ?_
 refine st (v := (I r5.1)) (rv_extract rfl rfl) ?_
 refine st (v := (I r5.2.1)) (rv_extract rfl rfl) ?_
 refine st (v := (I r5.1)) (rv_assign rfl) ?_
 refine st (v := (I r5.2.1)) (rv_assign rfl) ?_
 refine w_end ?_
 refine q_then ?_
 refine c_seq ?_
 refine rg ?_
 refine st (v := (Sl adata_0 data_0 cdata_0)) (rv_move rfl) ?_
 refine st (v := (I r1.1)) (rv_move rfl) ?_
 refine st (v := (I r5.1)) (rv_move rfl) ?_
 refine st (v := (pt bswaps_4 oswaps_4)) (rv_move rfl) ?_
 refine st (v := (.func (.func 89) #[] #[])) (rv_move rfl) ?_
 obtain ⟨r9, hx10, h'⟩ := bind_some h
 clear h
 have h := h'; clear h'
 have hc11 := c_slices_order2CmpFunc_impl_Hit__impl_compareHits (adata_0 := adata_0) (cdata_0 := cdata_0) (loswaps_3 := loswaps_4) (bswaps_3 := bswaps_4) (oswaps_3 := oswaps_4) (preswaps_3 := preswaps_4) (sufswaps_3 := sufswaps_4) hx10
 refine st_call (cx_call hc11 (ent_f hc11.fn rfl) hn0 (show Hp S0 σ0 _ ([Ch.ro 0 (Sl adata_0 data_0 cdata_0) data_0, Ch.bx loswaps_4 bswaps_4 oswaps_4 [(I r5.2.2)] preswaps_4 sufswaps_4] ++ [Ch.ro 0 (Sl adata_0 data_0 cdata_0) data_0]) from (H.sel' [1, 0, 1] rfl rfl))) (wanted_none _ rfl _) ?_
 rintro _ σ12 ⟨_, ⟨rfl, rfl⟩, H, -⟩
 replace H : Hp S0 σ0 σ12 [Ch.bx loswaps_4 bswaps_4 oswaps_4 [(I r9.2.2)] preswaps_4 sufswaps_4, Ch.ro 0 (Sl adata_0 data_0 cdata_0) data_0] := H
 refine st (v := (.tuple #[(I r9.1), (I r9.2.1)])) (rv_move rfl) ?_
 refine st (v := (I r9.1)) (rv_extract rfl rfl) ?_
 refine st (v := (I r9.2.1)) (rv_extract rfl rfl) ?_
 refine st (v := (I r9.1)) (rv_assign rfl) ?_
 refine st (v := (I r9.2.1)) (rv_assign rfl) ?_
 refine w_end ?_
 refine q_then ?_
 refine c_seq ?_
 refine rg ?_
 refine st (v := (I r9.2.1)) (rv_move rfl) ?_
 refine st (v := (I r9.2.1)) (rv_assign rfl) ?_
 refine w_end ?_
 refine q_then ?_
 refine c_ret ?_
 obtain rfl := Option.some.inj h
 exact fin_ret (v := (I r9.2.1)) (results_ok Try.results156 (res_tmp (v := (I r9.2.1)) rfl res_nil) rfl) ⟨rfl, rfl⟩ (H.sel' [0] rfl rfl)

theorem c_slices_medianAdjacentCmpFunc_impl_Hit__impl_compareHits {data_0 : List (Int × Int)} {a_1 : Int} {swaps_2 : Int} {adata_0 : Option Addr} {cdata_0 : Nat} {loswaps_2 bswaps_2 oswaps_2 : Nat} {preswaps_2 sufswaps_2 : List Value} {r : Int × Int} (h : M.slices_medianAdjacentCmpFunc_impl_Hit__impl_compareHits data_0 a_1 swaps_2 = some r) :
    Cal2 Try.prog 155 [(Sl adata_0 data_0 cdata_0), (I a_1), (pt bswaps_2 oswaps_2), (.func (.func 89) #[] #[])] [Ch.ro 0 (Sl adata_0 data_0 cdata_0) data_0, Ch.bx loswaps_2 bswaps_2 oswaps_2 [(I swaps_2)] preswaps_2 sufswaps_2] (fun n0 v L => v = (I r.1) ∧ L = [Ch.bx loswaps_2 bswaps_2 oswaps_2 [(I r.2)] preswaps_2 sufswaps_2]) := by
 refine cal2 (n := 18) Try.func155 rfl rfl rfl rfl ?_
 intro S0 σ0 n0 hn0 H
 unfold M.slices_medianAdjacentCmpFunc_impl_Hit__impl_compareHits at h
 refine c_seq ?_
 refine rg ?_
 refine st (v := (I 0)) (rv_assign rfl) ?_
 refine w_end ?_
 refine q_then ?_
 refine c_seq ?_
 refine rg ?_
 refine st (v := (Sl adata_0 data_0 cdata_0)) (rv_move rfl) ?_
 refine st (v := (I a_1)) (rv_move rfl) ?_
 refine st (v := (I (w64 (a_1 - 1)))) (rv_sub (a := a_1) (b := 1) rfl rfl) ?_
 refine st (v := (I a_1)) (rv_move rfl) ?_
 refine st (v := (I a_1)) (rv_move rfl) ?_
 refine st (v := (I (w64 (a_1 + 1)))) (rv_add (a := a_1) (b := 1) rfl rfl) ?_
 refine st (v := (pt bswaps_2 oswaps_2)) (rv_move rfl) ?_
 refine st (v := (.func (.func 89) #[] #[])) (rv_move rfl) ?_
 obtain ⟨r1, hx2, h'⟩ := bind_some h
 clear h
 have h := h'; clear h'
 have hc3 := c_slices_medianCmpFunc_impl_Hit__impl_compareHits (adata_0 := adata_0) (cdata_0 := cdata_0) (loswaps_4 := loswaps_2) (bswaps_4 := bswaps_2) (oswaps_4 := oswaps_2) (preswaps_4 := preswaps_2) (sufswaps_4 := sufswaps_2) hx2
 refine st_call (cx_call hc3 (ent_f hc3.fn rfl) hn0 (show Hp S0 σ0 _ ([Ch.ro 0 (Sl adata_0 data_0 cdata_0) data_0, Ch.bx loswaps_2 bswaps_2 oswaps_2 [(I swaps_2)] preswaps_2 sufswaps_2] ++ [Ch.ro 0 (Sl adata_0 data_0 cdata_0) data_0]) from (H.sel' [0, 1, 0] rfl rfl))) (wanted_none _ rfl _) ?_
 rintro _ σ4 ⟨_, ⟨rfl, rfl⟩, H, -⟩
 replace H : Hp S0 σ0 σ4 [Ch.bx loswaps_2 bswaps_2 oswaps_2 [(I r1.2)] preswaps_2 sufswaps_2, Ch.ro 0 (Sl adata_0 data_0 cdata_0) data_0] := H
 refine st (v := (I r1.1)) (rv_assign rfl) ?_
 refine w_end ?_
 refine q_then ?_
 refine c_ret ?_
 obtain rfl := Option.some.inj h
 exact fin_ret (v := (I r1.1)) (results_ok Try.results155 (res_tmp (v := (I r1.1)) rfl res_nil) rfl) ⟨rfl, rfl⟩ (H.sel' [0] rfl rfl)

theorem c_slices_choosePivotCmpFunc_impl_Hit__impl_compareHits {data_0 : List (Int × Int)} {a_1 : Int} {b_2 : Int} {adata_0 : Option Addr} {cdata_0 : Nat} {r : Int × Int} (h : M.slices_choosePivotCmpFunc_impl_Hit__impl_compareHits data_0 a_1 b_2 = some r) :
    Cal2 Try.prog 137 [(Sl adata_0 data_0 cdata_0), (I a_1), (I b_2), (.func (.func 89) #[] #[])] [Ch.ro 0 (Sl adata_0 data_0 cdata_0) data_0] (fun n0 v L => v = (.tuple #[(I r.1), (I r.2)]) ∧ L = []) := by
 refine cal2 (n := 63) Try.func137 rfl rfl rfl rfl ?_
 intro S0 σ0 n0 hn0 H
 unfold M.slices_choosePivotCmpFunc_impl_Hit__impl_compareHits at h
 refine c_seq ?_
 refine rg ?_
 refine st (v := (I 0)) (rv_assign rfl) ?_
 refine st (v := (I 0)) (rv_assign rfl) ?_
 refine w_end ?_
 refine q_then ?_
 refine c_seq ?_
 refine rg ?_
 refine st (v := (I b_2)) (rv_move rfl) ?_
 refine st (v := (I a_1)) (rv_move rfl) ?_
 refine st (v := (I (w64 (b_2 - a_1)))) (rv_sub (a := b_2) (b := a_1) rfl rfl) ?_
 refine st (v := (I (w64 (b_2 - a_1)))) (rv_assign rfl) ?_
 refine w_end ?_
 refine q_then ?_
 refine c_seq ?_
 refine rg ?_
 refine st_ex (ex_alloc (cs := [(I 0)]) H hn0 ti3 rfl) (wanted_none _ rfl _) ?_
 rintro _ σ2 ⟨b1, rfl, H, -⟩
 refine w_end ?_
 refine q_then ?_
 refine c_seq ?_
 refine rg ?_
 refine st (v := (I a_1)) (rv_move rfl) ?_
 refine st (v := (I (w64 (b_2 - a_1)))) (rv_move rfl) ?_
 refine st (v := (I (w64 ((w64 (b_2 - a_1)).tdiv 4)))) (rv_quo (a := (w64 (b_2 - a_1))) (b := 4) rfl rfl (by decide)) ?_
 refine st (v := (I (w64 ((w64 ((w64 (b_2 - a_1)).tdiv 4)) * 1)))) (rv_mul (a := (w64 ((w64 (b_2 - a_1)).tdiv 4))) (b := 1) rfl rfl) ?_
 refine st (v := (I (w64 (a_1 + (w64 ((w64 ((w64 (b_2 - a_1)).tdiv 4)) * 1)))))) (rv_add (a := a_1) (b := (w64 ((w64 ((w64 (b_2 - a_1)).tdiv 4)) * 1))) rfl rfl) ?_
 refine st (v := (I (w64 (a_1 + (w64 ((w64 ((w64 (b_2 - a_1)).tdiv 4)) * 1)))))) (rv_assign rfl) ?_
 refine w_end ?_
 refine q_then ?_
 refine c_seq ?_
 refine rg ?_
 refine st (v := (I a_1)) (rv_move rfl) ?_
 refine st (v := (I (w64 (b_2 - a_1)))) (rv_move rfl) ?_
 refine st (v := (I (w64 ((w64 (b_2 - a_1)).tdiv 4)))) (rv_quo (a := (w64 (b_2 - a_1))) (b := 4) rfl rfl (by decide)) ?_
 refine st (v := (I (w64 ((w64 ((w64 (b_2 - a_1)).tdiv 4)) * 2)))) (rv_mul (a := (w64 ((w64 (b_2 - a_1)).tdiv 4))) (b := 2) rfl rfl) ?_
 refine st (v := (I (w64 (a_1 + (w64 ((w64 ((w64 (b_2 - a_1)).tdiv 4)) * 2)))))) (rv_add (a := a_1) (b := (w64 ((w64 ((w64 (b_2 - a_1)).tdiv 4)) * 2))) rfl rfl) ?_
 refine st (v := (I (w64 (a_1 + (w64 ((w64 ((w64 (b_2 - a_1)).tdiv 4)) * 2)))))) (rv_assign rfl) ?_
 refine w_end ?_
 refine q_then ?_
 refine c_seq ?_
 refine rg ?_
 refine st (v := (I a_1)) (rv_move rfl) ?_
 refine st (v := (I (w64 (b_2 - a_1)))) (rv_move rfl) ?_
 refine st (v := (I (w64 ((w64 (b_2 - a_1)).tdiv 4)))) (rv_quo (a := (w64 (b_2 - a_1))) (b := 4) rfl rfl (by decide)) ?_
 refine st (v := (I (w64 ((w64 ((w64 (b_2 - a_1)).tdiv 4)) * 3)))) (rv_mul (a := (w64 ((w64 (b_2 - a_1)).tdiv 4))) (b := 3) rfl rfl) ?_
 refine st (v := (I (w64 (a_1 + (w64 ((w64 ((w64 (b_2 - a_1)).tdiv 4)) * 3)))))) (rv_add (a := a_1) (b := (w64 ((w64 ((w64 (b_2 - a_1)).tdiv 4)) * 3))) rfl rfl) ?_
 refine st (v := (I (w64 (a_1 + (w64 ((w64 ((w64 (b_2 - a_1)).tdiv 4)) * 3)))))) (rv_assign rfl) ?_
 refine w_end ?_
 refine q_then ?_
 refine c_seq ?_
 refine c_seq ?_
 refine rg ?_
 refine st (v := (I (w64 (b_2 - a_1)))) (rv_move rfl) ?_
 refine st (v := (B (decide (8 ≤ (w64 (b_2 - a_1)))))) (rv_geq (a := (w64 (b_2 - a_1))) (b := 8) rfl rfl) ?_
 refine w_end ?_
 refine q_then ?_
 obtain ⟨o3, hj, h'⟩ := bind_some h
 clear h
 refine c_cut (fun e a w => e = .normal ∧ ∃ (ρ : Nat → Value) (σ : St), a = fr 63 (updL ρ [(11, (pt b1 0)), (13, (I o3.2))]) ∧ w = σ.w ∧ Hp S0 σ0 σ [Ch.bx n0 b1 0 [(I o3.1)] [] []]) ?_ ?_
 ·clear h'
  rename _ = some o3 => h
  refine cd_cond (decide (8 ≤ (w64 (b_2 - a_1)))) rfl (fun hb4 => ?_) (fun hb4 => ?_)
  ·replace h := bif_t hb4 h
   refine c_seq ?_
   refine c_seq ?_
   refine rg ?_
   refine st (v := (I (w64 (b_2 - a_1)))) (rv_move rfl) ?_
   refine st (v := (B (decide (50 ≤ (w64 (b_2 - a_1)))))) (rv_geq (a := (w64 (b_2 - a_1))) (b := 50) rfl rfl) ?_
   refine w_end ?_
   refine q_then ?_
   obtain ⟨o5, hj, h'⟩ := bind_some h
   clear h
   refine c_cut (fun e a w => e = .normal ∧ ∃ (ρ : Nat → Value) (σ : St), a = fr 63 (updL ρ [(0, (Sl adata_0 data_0 cdata_0)), (3, (.func (.func 89) #[] #[])), (11, (pt b1 0)), (12, (I o5.2.1)), (13, (I o5.2.2.1)), (14, (I o5.2.2.2))]) ∧ w = σ.w ∧ Hp S0 σ0 σ [Ch.bx n0 b1 0 [(I o5.1)] [] [], Ch.ro 0 (Sl adata_0 data_0 cdata_0) data_0]) ?_ ?_
   ·clear h'
    rename _ = some o5 => h
    refine cd_cond (decide (50 ≤ (w64 (b_2 - a_1)))) rfl (fun hb6 => ?_) (fun hb6 => ?_)
    ·replace h := bif_t hb6 h
     refine c_seq ?_
     refine rg ?_
     refine st (v := (Sl adata_0 data_0 cdata_0)) (rv_move rfl) ?_
     refine st (v := (I (w64 (a_1 + (w64 ((w64 ((w64 (b_2 - a_1)).tdiv 4)) * 1)))))) (rv_move rfl) ?_
     refine st (v := (.func (.func 89) #[] #[])) (rv_move rfl) ?_
     obtain ⟨r7, hx8, h'⟩ := bind_some h
     clear h
     have h := h'; clear h'
     have hc9 := c_slices_medianAdjacentCmpFunc_impl_Hit__impl_compareHits (adata_0 := adata_0) (cdata_0 := cdata_0) (loswaps_2 := n0) (bswaps_2 := b1) (oswaps_2 := 0) (preswaps_2 := []) (sufswaps_2 := []) hx8
     refine st_call (cx_call hc9 (ent_f hc9.fn rfl) hn0 (show Hp S0 σ0 _ ([Ch.ro 0 (Sl adata_0 data_0 cdata_0) data_0, Ch.bx n0 b1 0 [(I 0)] [] []] ++ [Ch.ro 0 (Sl adata_0 data_0 cdata_0) data_0]) from (H.sel' [1, 0, 1] rfl rfl))) (wanted_none _ rfl _) ?_
     rintro _ σ10 ⟨_, ⟨rfl, rfl⟩, H, -⟩
     replace H : Hp S0 σ0 σ10 [Ch.bx n0 b1 0 [(I r7.2)] [] [], Ch.ro 0 (Sl adata_0 data_0 cdata_0) data_0] := H
     refine st (v := (I r7.1)) (rv_assign rfl) ?_
     refine w_end ?_
     refine q_then ?_
     refine c_seq ?_
     refine rg ?_
     refine st (v := (Sl adata_0 data_0 cdata_0)) (rv_move rfl) ?_
     refine st (v := (I (w64 (a_1 + (w64 ((w64 ((w64 (b_2 - a_1)).tdiv 4)) * 2)))))) (rv_move rfl) ?_
     refine st (v := (.func (.func 89) #[] #[])) (rv_move rfl) ?_
     obtain ⟨r11, hx12, h'⟩ := bind_some h
     clear h
     have h := h'; clear h'
     have hc13 := c_slices_medianAdjacentCmpFunc_impl_Hit__impl_compareHits (adata_0 := adata_0) (cdata_0 := cdata_0) (loswaps_2 := n0) (bswaps_2 := b1) (oswaps_2 := 0) (preswaps_2 := []) (sufswaps_2 := []) hx12
     refine st_call (cx_call hc13 (ent_f hc13.fn rfl) hn0 (show Hp S0 σ0 _ ([Ch.ro 0 (Sl adata_0 data_0 cdata_0) data_0, Ch.bx n0 b1 0 [(I r7.2)] [] []] ++ [Ch.ro 0 (Sl adata_0 data_0 cdata_0) data_0]) from (H.sel' [1, 0, 1] rfl rfl))) (wanted_none _ rfl _) ?_
     rintro _ σ14 ⟨_, ⟨rfl, rfl⟩, H, -⟩
     replace H : Hp S0 σ0 σ14 [Ch.bx n0 b1 0 [(I r11.2)] [] [], Ch.ro 0 (Sl adata_0 data_0 cdata_0) data_0] := H
     refine st (v := (I r11.1)) (rv_assign rfl) ?_
     refine w_end ?_
     refine q_then ?_
     refine rg ?_
     refine st (v := (Sl adata_0 data_0 cdata_0)) (rv_move rfl) ?_
     refine st (v := (I (w64 (a_1 + (w64 ((w64 ((w64 (b_2 - a_1)).tdiv 4)) * 3)))))) (rv_move rfl) ?_
     refine st (v := (.func (.func 89) #[] #[])) (rv_move rfl) ?_
     obtain ⟨r15, hx16, h'⟩ := bind_some h
     clear h
     have h := h'; clear h'
     have hc17 := c_slices_medianAdjacentCmpFunc_impl_Hit__impl_compareHits (adata_0 := adata_0) (cdata_0 := cdata_0) (loswaps_2 := n0) (bswaps_2 := b1) (oswaps_2 := 0) (preswaps_2 := []) (sufswaps_2 := []) hx16
     refine st_call (cx_call hc17 (ent_f hc17.fn rfl) hn0 (show Hp S0 σ0 _ ([Ch.ro 0 (Sl adata_0 data_0 cdata_0) data_0, Ch.bx n0 b1 0 [(I r11.2)] [] []] ++ [Ch.ro 0 (Sl adata_0 data_0 cdata_0) data_0]) from (H.sel' [1, 0, 1] rfl rfl))) (wanted_none _ rfl _) ?_
     rintro _ σ18 ⟨_, ⟨rfl, rfl⟩, H, -⟩
     replace H : Hp S0 σ0 σ18 [Ch.bx n0 b1 0 [(I r15.2)] [] [], Ch.ro 0 (Sl adata_0 data_0 cdata_0) data_0] := H
     refine st (v := (I r15.1)) (rv_assign rfl) ?_
     refine w_end ?_
     obtain rfl := Option.some.inj h
     exact ⟨rfl, _, σ18, fr_join ⟨rfl, rfl, rfl, rfl, rfl, rfl, trivial⟩, rfl, H.sel' [0, 1] rfl rfl⟩
    ·replace h := bif_f hb6 h
     refine c_skip ?_
     obtain rfl := Option.some.inj h
     exact ⟨rfl, _, σ2, fr_join ⟨rfl, rfl, rfl, rfl, rfl, rfl, trivial⟩, rfl, H.sel' [0, 1] rfl rfl⟩
   ·clear hj
    have h := h'
    clear h' H
    rintro e a w ⟨rfl, ρ, σ19, rfl, rfl, H⟩
    refine q_then ?_
    refine rg ?_
    refine st (v := (Sl adata_0 data_0 cdata_0)) (rv_move rfl) ?_
    refine st (v := (I o5.2.1)) (rv_move rfl) ?_
    refine st (v := (I o5.2.2.1)) (rv_move rfl) ?_
    refine st (v := (I o5.2.2.2)) (rv_move rfl) ?_
    refine st (v := (.func (.func 89) #[] #[])) (rv_move rfl) ?_
    obtain ⟨r20, hx21, h'⟩ := bind_some h
    clear h
    have h := h'; clear h'
    have hc22 := c_slices_medianCmpFunc_impl_Hit__impl_compareHits (adata_0 := adata_0) (cdata_0 := cdata_0) (loswaps_4 := n0) (bswaps_4 := b1) (oswaps_4 := 0) (preswaps_4 := []) (sufswaps_4 := []) hx21
    refine st_call (cx_call hc22 (ent_f hc22.fn rfl) hn0 (show Hp S0 σ0 _ ([Ch.ro 0 (Sl adata_0 data_0 cdata_0) data_0, Ch.bx n0 b1 0 [(I o5.1)] [] []] ++ [Ch.ro 0 (Sl adata_0 data_0 cdata_0) data_0]) from (H.sel' [1, 0, 1] rfl rfl))) (wanted_none _ rfl _) ?_
    rintro _ σ23 ⟨_, ⟨rfl, rfl⟩, H, -⟩
    replace H : Hp S0 σ0 σ23 [Ch.bx n0 b1 0 [(I r20.2)] [] [], Ch.ro 0 (Sl adata_0 data_0 cdata_0) data_0] := H
    refine st (v := (I r20.1)) (rv_assign rfl) ?_
    refine w_end ?_
    obtain rfl := Option.some.inj h
    exact ⟨rfl, _, σ23, fr_join ⟨rfl, rfl, trivial⟩, rfl, H.sel' [0] rfl rfl⟩
  ·replace h := bif_f hb4 h
   refine c_skip ?_
   obtain rfl := Option.some.inj h
   exact ⟨rfl, _, σ2, fr_join ⟨rfl, rfl, trivial⟩, rfl, H.sel' [0] rfl rfl⟩
 ·clear hj
  have h := h'
  clear h' H
  rintro e a w ⟨rfl, ρ, σ24, rfl, rfl, H⟩
  refine q_then ?_
  refine c_seq ?_
  refine rg ?_
  have hc25 := H.cell (u := (I o3.1)) (o' := 0) 0 0 rfl rfl rfl
  refine st (v := (I o3.1)) (rv_load1 Try.underlying3 rfl rfl hc25) ?_
  refine w_end ?_
  refine q_then ?_
  refine c_blk ?_
  refine c_seq ?_
  refine rg ?_
  refine st (v := (B (o3.1 == 0))) (rv_eql (a := o3.1) (b := 0) rfl rfl) ?_
  refine st (v := (B (o3.1 == 0))) (rv_assign rfl) ?_
  refine w_end ?_
  refine q_then ?_
  refine cd_cond (o3.1 == 0) rfl (fun hb26 => ?_) (fun hb26 => ?_)
  ·replace h := bif_t hb26 h
   refine c_seq ?_
   refine rg ?_
   refine st (v := (I o3.2)) (rv_move rfl) ?_
   refine st (v := (I o3.2)) (rv_assign rfl) ?_
   refine st (v := (I 1)) (rv_assign rfl) ?_
   refine w_end ?_
   refine q_then ?_
   refine c_ret ?_
   refine q_blk_r ?_
   obtain rfl := Option.some.inj h
   exact fin_ret (v := (.tuple #[(I o3.2), (I 1)])) (results_ok Try.results137 (res_tmp (v := (I o3.2)) rfl (res_tmp (v := (I 1)) rfl res_nil)) rfl) ⟨rfl, rfl⟩ (H.sel' [] rfl rfl)
  ·replace h := bif_f hb26 h
   refine c_seq ?_
   refine rg ?_
   refine st (v := (B (o3.1 == 12))) (rv_eql (a := o3.1) (b := 12) rfl rfl) ?_
   refine st (v := (B (o3.1 == 12))) (rv_assign rfl) ?_
   refine w_end ?_
   refine q_then ?_
   refine cd_cond (o3.1 == 12) rfl (fun hb27 => ?_) (fun hb27 => ?_)
   ·replace h := bif_t hb27 h
    refine c_seq ?_
    refine rg ?_
    refine st (v := (I o3.2)) (rv_move rfl) ?_
    refine st (v := (I o3.2)) (rv_assign rfl) ?_
    refine st (v := (I 2)) (rv_assign rfl) ?_
    refine w_end ?_
    refine q_then ?_
    refine c_ret ?_
    refine q_blk_r ?_
    obtain rfl := Option.some.inj h
    exact fin_ret (v := (.tuple #[(I o3.2), (I 2)])) (results_ok Try.results137 (res_tmp (v := (I o3.2)) rfl (res_tmp (v := (I 2)) rfl res_nil)) rfl) ⟨rfl, rfl⟩ (H.sel' [] rfl rfl)
   ·replace h := bif_f hb27 h
    refine c_seq ?_
    refine rg ?_
    refine st (v := (I o3.2)) (rv_move rfl) ?_
    refine st (v := (I o3.2)) (rv_assign rfl) ?_
    refine st (v := (I 0)) (rv_assign rfl) ?_
    refine w_end ?_
    refine q_then ?_
    refine c_ret ?_
    refine q_blk_r ?_
    obtain rfl := Option.some.inj h
    exact fin_ret (v := (.tuple #[(I o3.2), (I 0)])) (results_ok Try.results137 (res_tmp (v := (I o3.2)) rfl (res_tmp (v := (I 0)) rfl res_nil)) rfl) ⟨rfl, rfl⟩ (H.sel' [] rfl rfl)

theorem c_slices_reverseRangeCmpFunc_impl_Hit__impl_compareHits {data_0 : List (Int × Int)} {a_1 : Int} {b_2 : Int} {adata_0 : Option Addr} {cdata_0 : Nat} {r : (List (Int × Int))} (h : M.slices_reverseRangeCmpFunc_impl_Hit__impl_compareHits data_0 a_1 b_2 = some r) :
    Cal2 Try.prog 138 [(Sl adata_0 data_0 cdata_0), (I a_1), (I b_2), (.func (.func 89) #[] #[])] [Ch.own 0 0 (Sl adata_0 data_0 cdata_0) data_0] (fun n0 v L => v = (.tuple #[]) ∧ L = [Ch.own 0 0 (Sl adata_0 r cdata_0) r] ∧ r.length = data_0.length) := by
 refine cal2 (n := 34) Try.func138 rfl rfl rfl rfl ?_
 intro S0 σ0 n0 hn0 H
 unfold M.slices_reverseRangeCmpFunc_impl_Hit__impl_compareHits at h
 refine c_seq ?_
 refine rg ?_
 refine st (v := (I a_1)) (rv_move rfl) ?_
 refine st (v := (I a_1)) (rv_assign rfl) ?_
 refine w_end ?_
 refine q_then ?_
 refine c_seq ?_
 refine rg ?_
 refine st (v := (I b_2)) (rv_move rfl) ?_
 refine st (v := (I (w64 (b_2 - 1)))) (rv_sub (a := b_2) (b := 1) rfl rfl) ?_
 refine st (v := (I (w64 (b_2 - 1)))) (rv_assign rfl) ?_
 refine w_end ?_
 refine q_then ?_
 obtain ⟨o1, hj, h'⟩ := bind_some h
 clear h
 refine c_cut (fun e a w => e = .normal ∧ ∃ (ρ : Nat → Value) (σ : St), a = fr 34 (updL ρ [(0, (Sl adata_0 o1 cdata_0))]) ∧ w = σ.w ∧ Hp S0 σ0 σ [Ch.own 0 0 (Sl adata_0 o1 cdata_0) o1] ∧ o1.length = data_0.length) ?_ ?_
 ·clear h'
  rename _ = some o1 => h
  refine c_blk ?_
  refine wp_loopM _ h (fun s2 a w => ∃ (ρ : Nat → Value) (σ : St), a = fr 34 (updL ρ [(0, (Sl adata_0 s2.1 cdata_0)), (8, (I s2.2.1)), (9, (I s2.2.2))]) ∧ w = σ.w ∧ Hp S0 σ0 σ [Ch.own 0 0 (Sl adata_0 s2.1 cdata_0) s2.1] ∧ s2.1.length = data_0.length) ⟨_, σ0, fr_join ⟨rfl, rfl, rfl, trivial⟩, rfl, H.sel' [0] rfl rfl, rfl⟩ ?_
  clear h H
  rintro s2 a w o ⟨ρ, σ3, rfl, rfl, H, hn4⟩ h hres
  refine c_seq ?_
  refine c_seq ?_
  refine rg ?_
  refine st (v := (I s2.2.1)) (rv_move rfl) ?_
  refine st (v := (I s2.2.2)) (rv_move rfl) ?_
  refine st (v := (B (decide (s2.2.1 < s2.2.2)))) (rv_lss (a := s2.2.1) (b := s2.2.2) rfl rfl) ?_
  refine w_end ?_
  refine q_then ?_
  refine cd_cond (decide (s2.2.1 < s2.2.2)) rfl (fun hb5 => ?_) (fun hb5 => ?_)
  ·replace h := bif_t hb5 h
   refine c_skip ?_
   refine q_then ?_
   refine c_blk ?_
   refine c_seq ?_
   obtain ⟨x6, hx7, h'⟩ := bind_some h
   clear h
   have h := h'; clear h'
   obtain ⟨b9, o10, hi8, -⟩ := (H.own 0 rfl).ix hx7
   obtain ⟨_, ⟨_, _, rfl, rfl, rfl⟩, hl11, hc12⟩ := ((H.own 0 rfl).at hx7 hi8).cells
   obtain ⟨x13, hx14, h'⟩ := bind_some h
   clear h
   have h := h'; clear h'
   obtain ⟨b16, o17, hi15, -⟩ := (H.own 0 rfl).ix hx14
   obtain ⟨_, ⟨_, _, rfl, rfl, rfl⟩, hl18, hc19⟩ := ((H.own 0 rfl).at hx14 hi15).cells
   obtain ⟨x20, hx21, h'⟩ := bind_some h
   clear h
   have h := h'; clear h'
   obtain ⟨b23, o24, hi22, -⟩ := (H.own 0 rfl).ix hx21
   have Hs := H
   refine rg2 (σ := σ3) (Nm := Unit) 14 [13] [[false], [true]] [[(0, 0)], [(0, 0)], [(0, 0), (1, 1)], [(0, 0), (1, 1)], [(0, 0)], [(0, 0)], [(0, 0)], [(0, 0)], [(0, 0)], [(0, 0)], [(0, 0)], [(0, 0)], [(0, 0)], [(0, 1)]] 1 [fun (_nm : Unit) => fun σm => Hp S0 σ0 σm [Ch.own 0 0 (Sl adata_0 s2.1 cdata_0) s2.1] ∧ Md (cov []) σ3 σm, fun (_nm : Unit) => fun σm => Hp S0 σ0 σm [Ch.own 0 0 (Sl adata_0 s2.1 cdata_0) (s2.1.set s2.2.1.toNat (x6.1, x6.2))] ∧ Md (fun i => (cov []) i ∨ (fun b => blk (Sl adata_0 s2.1 cdata_0) = some b) i) σ3 σm] [fun (_nm : Unit) => (Sl adata_0 s2.1 cdata_0), fun (_nm : Unit) => (I s2.2.1), fun (_nm : Unit) => (Sl adata_0 s2.1 cdata_0), fun (_nm : Unit) => (I s2.2.2), fun (_nm : Unit) => (Sl adata_0 s2.1 cdata_0), fun (_nm : Unit) => (I s2.2.2), fun (_nm : Unit) => (pt b9 o10), fun (_nm : Unit) => (.agg #[(I x6.1), (I x6.2)]), fun (_nm : Unit) => (Sl adata_0 s2.1 cdata_0), fun (_nm : Unit) => (I s2.2.1), fun (_nm : Unit) => (pt b16 o17), fun (_nm : Unit) => (.agg #[(I x13.1), (I x13.2)]), fun (_nm : Unit) => (pt b23 o24), fun (_nm : Unit) => undef] () (by kernel_rfl) (by kernel_rfl) ?_ ?_ ?_
   ·intro σm m0
    exact ⟨H.grow (m0.mono fun _ h => h.elim), m0⟩
   ·refine all_cons (obs_v rfl (by
      intro k; intro _nm ρ σm hJ hoff hdep
      have e0 : look 34 ρ 0 = (Sl adata_0 s2.1 cdata_0) := look_off (hoff 0 rfl) rfl
      exact dp_v (v := (Sl adata_0 s2.1 cdata_0)) (wanted_none _ rfl _) (rv_move e0) rfl hJ)) ?_
    refine all_cons (obs_v rfl (by
      intro k; intro _nm ρ σm hJ hoff hdep
      have e8 : look 34 ρ 8 = (I s2.2.1) := look_off (hoff 8 rfl) rfl
      exact dp_v (v := (I s2.2.1)) (wanted_none _ rfl _) (rv_move e8) rfl hJ)) ?_
    refine all_cons (obs_v rfl (by
      intro k; intro _nm ρ σm hJ hoff hdep
      have e0 : look 34 ρ 0 = (Sl adata_0 s2.1 cdata_0) := look_off (hoff 0 rfl) rfl
      exact dp_v (v := (Sl adata_0 s2.1 cdata_0)) (wanted_none _ rfl _) (rv_move e0) rfl hJ)) ?_
    refine all_cons (obs_v rfl (by
      intro k; intro _nm ρ σm hJ hoff hdep
      have e9 : look 34 ρ 9 = (I s2.2.2) := look_off (hoff 9 rfl) rfl
      exact dp_v (v := (I s2.2.2)) (wanted_none _ rfl _) (rv_move e9) rfl hJ)) ?_
    refine all_cons (obs_v rfl (by
      intro k; intro _nm ρ σm hJ hoff hdep
      have e0 : look 34 ρ 0 = (Sl adata_0 s2.1 cdata_0) := look_off (hoff 0 rfl) rfl
      exact dp_v (v := (Sl adata_0 s2.1 cdata_0)) (wanted_none _ rfl _) (rv_move e0) rfl hJ)) ?_
    refine all_cons (obs_v rfl (by
      intro k; intro _nm ρ σm hJ hoff hdep
      have e9 : look 34 ρ 9 = (I s2.2.2) := look_off (hoff 9 rfl) rfl
      exact dp_v (v := (I s2.2.2)) (wanted_none _ rfl _) (rv_move e9) rfl hJ)) ?_
    refine all_cons (obs_v rfl (by
      intro k; intro _nm ρ σm hJ hoff hdep
      have e20 : look 34 ρ 20 = (Sl adata_0 s2.1 cdata_0) := hdep 4 rfl rfl 20 rfl
      have e21 : look 34 ρ 21 = (I s2.2.2) := hdep 5 rfl rfl 21 rfl
      exact dp_v (v := (pt b9 o10)) (wanted_none _ rfl _) (rv_ix Try.underlying27 ti33 e20 e21 hi8) rfl hJ)) ?_
    refine all_cons (by
      refine ⟨?_, ?_⟩
      ·intro _nm ρ σm hJ hoff hdep
       have e22 : look 34 ρ 22 = (pt b9 o10) := hdep 6 rfl rfl 22 rfl
       obtain ⟨H, m⟩ := id hJ
       obtain ⟨_, ⟨_, _, rfl, rfl, rfl⟩, hl11, hc12⟩ := ((H.own 0 rfl).at hx7 hi8).cells
       exact dp_v (v := (.agg #[(I x6.1), (I x6.2)])) (wanted_none _ rfl _) (rv_load Try.underlying33 rfl ti33 e22 hl11 hc12) rfl hJ
      trivial) ?_
    refine all_cons (obs_v rfl (by
      intro k; intro _nm ρ σm hJ hoff hdep
      have e0 : look 34 ρ 0 = (Sl adata_0 s2.1 cdata_0) := look_off (hoff 0 rfl) rfl
      exact dp_v (v := (Sl adata_0 s2.1 cdata_0)) (wanted_none _ rfl _) (rv_move e0) rfl hJ)) ?_
    refine all_cons (obs_v rfl (by
      intro k; intro _nm ρ σm hJ hoff hdep
      have e8 : look 34 ρ 8 = (I s2.2.1) := look_off (hoff 8 rfl) rfl
      exact dp_v (v := (I s2.2.1)) (wanted_none _ rfl _) (rv_move e8) rfl hJ)) ?_
    refine all_cons (obs_v rfl (by
      intro k; intro _nm ρ σm hJ hoff hdep
      have e24 : look 34 ρ 24 = (Sl adata_0 s2.1 cdata_0) := hdep 8 rfl rfl 24 rfl
      have e25 : look 34 ρ 25 = (I s2.2.1) := hdep 9 rfl rfl 25 rfl
      exact dp_v (v := (pt b16 o17)) (wanted_none _ rfl _) (rv_ix Try.underlying27 ti33 e24 e25 hi15) rfl hJ)) ?_
    refine all_cons (by
      refine ⟨?_, ?_⟩
      ·intro _nm ρ σm hJ hoff hdep
       have e26 : look 34 ρ 26 = (pt b16 o17) := hdep 10 rfl rfl 26 rfl
       obtain ⟨H, m⟩ := id hJ
       obtain ⟨_, ⟨_, _, rfl, rfl, rfl⟩, hl18, hc19⟩ := ((H.own 0 rfl).at hx14 hi15).cells
       exact dp_v (v := (.agg #[(I x13.1), (I x13.2)])) (wanted_none _ rfl _) (rv_load Try.underlying33 rfl ti33 e26 hl18 hc19) rfl hJ
      trivial) ?_
    refine all_cons (obs_v rfl (by
      intro k; intro _nm ρ σm hJ hoff hdep
      have e16 : look 34 ρ 16 = (Sl adata_0 s2.1 cdata_0) := hdep 0 rfl rfl 16 rfl
      have e17 : look 34 ρ 17 = (I s2.2.1) := hdep 1 rfl rfl 17 rfl
      exact dp_v (v := (pt b23 o24)) (wanted_none _ rfl _) (rv_ix Try.underlying27 ti33 e16 e17 hi22) rfl hJ)) ?_
    refine all_cons (by
      refine ⟨?_, ?_⟩
      ·intro _nm ρ σm hJ hoff hdep
       have e28 : look 34 ρ 28 = (pt b23 o24) := hdep 12 rfl rfl 28 rfl
       have e23 : look 34 ρ 23 = (.agg #[(I x6.1), (I x6.2)]) := hdep 7 rfl rfl 23 rfl
       obtain ⟨H, m⟩ := id hJ
       refine dp_exS (wanted_none _ rfl _) rfl (ex_store_own (e' := (x6.1, x6.2)) (vs := [(I x6.1), (I x6.2)]) (k := 0) H (i := 0) rfl ti33 hx21 hi22 e28 rfl e23 rfl rfl (Nat.le_of_ble_eq_true rfl) (by simp [plain]) (by rintro _ ⟨_, _, rfl, rfl, rfl⟩; exact ⟨[(I x6.1)], [(I x6.2)], rfl, rfl, rfl⟩)) ?_
       rintro σq ⟨H2, m2⟩
       exact ⟨_, (), rfl, ⟨H2.sel' [0] rfl rfl, m.comp m2⟩, stab [0, 1, 2, 3, 4, 5, 6, 7, 8, 9, 10, 11, 12] (by kernel_rfl) ⟨rfl, rfl, rfl, rfl, rfl, rfl, rfl, rfl, rfl, rfl, rfl, rfl, rfl, trivial⟩⟩
      trivial) ?_
    exact all_nil
   ·intro _nm ρ σ25 hJ hoff hrel
    have e0 : look 34 ρ 0 = (Sl adata_0 s2.1 cdata_0) := look_off (hoff 0 rfl) rfl
    have e8 : look 34 ρ 8 = (I s2.2.1) := look_off (hoff 8 rfl) rfl
    have e9 : look 34 ρ 9 = (I s2.2.2) := look_off (hoff 9 rfl) rfl
    have e18 : look 34 ρ 18 = (Sl adata_0 s2.1 cdata_0) := hrel 2 rfl 18 rfl
    have e19 : look 34 ρ 19 = (I s2.2.2) := hrel 3 rfl 19 rfl
    have e27 : look 34 ρ 27 = (.agg #[(I x13.1), (I x13.2)]) := hrel 11 rfl 27 rfl
    obtain ⟨H, -⟩ := (show Hp S0 σ0 σ25 [Ch.own 0 0 (Sl adata_0 s2.1 cdata_0) (s2.1.set s2.2.1.toNat (x6.1, x6.2))] ∧ Md (fun i => (cov []) i ∨ (fun b => blk (Sl adata_0 s2.1 cdata_0) = some b) i) σ3 σ25 from hJ)
    clear hJ Hs
    rw [fr_lookL (L := [(0, (Sl adata_0 s2.1 cdata_0)), (8, (I s2.2.1)), (9, (I s2.2.2)), (18, (Sl adata_0 s2.1 cdata_0)), (19, (I s2.2.2)), (27, (.agg #[(I x13.1), (I x13.2)]))]) ⟨e0, e8, e9, e18, e19, e27, trivial⟩]
    clear hoff hrel e0 e8 e9 e18 e19 e27
    have hsl : (Sl adata_0 s2.1 cdata_0) = (Sl adata_0 (s2.1.set s2.2.1.toNat (x6.1, x6.2)) cdata_0) := sl_len (by simp)
    rw [hsl]; rw [hsl] at H; clear hsl
    obtain ⟨x26, hx27, h'⟩ := bind_some h
    clear h
    have h := h'; clear h'
    obtain ⟨b29, o30, hi28, -⟩ := (H.own 0 rfl).ix hx27
    refine st (v := (pt b29 o30)) (rv_ix Try.underlying27 ti33 rfl rfl hi28) ?_
    refine st_exS (ex_store_own (e' := (x13.1, x13.2)) (vs := [(I x13.1), (I x13.2)]) (k := 0) H (i := 0) rfl ti33 hx27 hi28 rfl rfl rfl rfl rfl (Nat.le_of_ble_eq_true rfl) (by simp [plain]) (by rintro _ ⟨_, _, rfl, rfl, rfl⟩; exact ⟨[(I x13.1)], [(I x13.2)], rfl, rfl, rfl⟩)) (wanted_none _ rfl _) ?_
    rintro σ31 ⟨H, -⟩
    have hsl : (Sl adata_0 (s2.1.set s2.2.1.toNat (x6.1, x6.2)) cdata_0) = (Sl adata_0 ((s2.1.set s2.2.1.toNat (x6.1, x6.2)).set s2.2.2.toNat (x13.1, x13.2)) cdata_0) := sl_len List.length_set.symm
    rw [hsl]; rw [hsl] at H; clear hsl
    refine w_end ?_
    refine q_then ?_
    refine c_seq ?_
    refine rg ?_
    refine st (v := (I s2.2.1)) (rv_move rfl) ?_
    refine st (v := (I (w64 (s2.2.1 + 1)))) (rv_add (a := s2.2.1) (b := 1) rfl rfl) ?_
    refine st (v := (I (w64 (s2.2.1 + 1)))) (rv_assign rfl) ?_
    refine w_end ?_
    refine q_then ?_
    refine rg ?_
    refine st (v := (I s2.2.2)) (rv_move rfl) ?_
    refine st (v := (I (w64 (s2.2.2 - 1)))) (rv_sub (a := s2.2.2) (b := 1) rfl rfl) ?_
    refine st (v := (I (w64 (s2.2.2 - 1)))) (rv_assign rfl) ?_
    refine w_end ?_
    refine q_blk ?_
    refine q_then ?_
    obtain rfl := Option.some.inj h
    exact ⟨_, rfl, _, σ31, fr_join ⟨rfl, rfl, rfl, trivial⟩, rfl, H.sel' [0] rfl rfl, (List.length_set.trans (List.length_set.trans hn4))⟩
  ·replace h := bif_f hb5 h
   refine c_exit ?_
   refine q_then_x ?_
   refine q_then_x ?_
   refine q_blk_hit ?_
   obtain rfl := Option.some.inj h
   obtain rfl := hres _ rfl
   exact ⟨rfl, _, σ3, fr_join ⟨rfl, trivial⟩, rfl, H.sel' [0] rfl rfl, hn4⟩
 ·clear hj
  have h := h'
  clear h' H
  rintro e a w ⟨rfl, ρ, σ32, rfl, rfl, H, hn33⟩
  obtain rfl := Option.some.inj h
  exact fin_end (v := (.tuple #[])) (results_ok Try.results138 res_nil rfl) ⟨rfl, rfl, hn33⟩ (H.sel' [0] rfl rfl)

end Go.Vs
