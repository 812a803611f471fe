/- The functions compute what their models say. -/
import Derived.Test.YtflpjndobffkjaaKExactIsTreeOfC1
set_option linter.unusedVariables false
set_option linter.unusedSimpArgs false
set_option maxRecDepth 20000
namespace Go.Vs
open Go Go.Proofs
attribute [local irreducible] Code.wp Code.wpIn wpList wpListIn wpQuiet Calls CallsIn

theorem c_slices_siftDownCmpFunc_impl_Item__impl_sortByDistance_1 {Cl : List (Int × (List Int) × Int)} {De : Int} {Dg : Int} {Dh : Int} {Di : Int} {Dj : List Int} {Cp : Option Addr} {Cq : Nat} {Dk Dm Dn : Nat} {Do Dq : List Value} {Dr : Option Addr} {Ds : Nat} {Dt Du Dv : Nat} {Dw Dx : List Value} {r : (List (Int × (List Int) × Int))} (h : M.slices_siftDownCmpFunc_impl_Item__impl_sortByDistance_1 Cl De Dg Dh Di Dj = some r) :
    Cal2 Try.prog 124 [(Sl Cp Cl Cq), (I De), (I Dg), (I Dh), (.func (.func 88) #[] #[(pt Dm Dn), (pt Du Dv)])] [Ch.own 0 0 (Sl Cp Cl Cq) Cl, Ch.bx Dk Dm Dn [(I Di)] Do Dq, Ch.bx Dt Du Dv [(Sl Dr Dj Ds)] Dw Dx, Ch.ro 0 (Sl Dr Dj Ds) Dj] (fun n0 v L => v = (.tuple #[]) ∧ L = [Ch.own 0 0 (Sl Cp r Cq) r, Ch.bx Dk Dm Dn [(I Di)] Do Dq, Ch.bx Dt Du Dv [(Sl Dr Dj Ds)] Dw Dx] ∧ r.length = Cl.length) := by
 refine cal2 (n := 82) Try.func124 rfl rfl rfl rfl ?_
 intro S0 σ0 n0 hn0 H
 unfold M.slices_siftDownCmpFunc_impl_Item__impl_sortByDistance_1 at h
 refine c_seq (rg (st (v := (I De)) (rv_move rfl) (st (v := (I De)) (rv_assign rfl) (w_end (q_then ?_)))))
 obtain ⟨o1, hj, h'⟩ := bind_some h
 clear h
 refine c_cut (fun e a w => (∃ t, o1 = (.inl t) ∧ e = .normal ∧ ∃ (ρ : Nat → Value) (σ : St), a = fr 82 (updL ρ [(0, (Sl Cp t Cq)), (4, (.func (.func 88) #[] #[(pt Dm Dn), (pt Du Dv)]))]) ∧ w = σ.w ∧ Hp S0 σ0 σ [Ch.own 0 0 (Sl Cp t Cq) t, Ch.bx Dk Dm Dn [(I Di)] Do Dq, Ch.ro 0 (Sl Dr Dj Ds) Dj, Ch.bx Dt Du Dv [(Sl Dr Dj Ds)] Dw Dx] ∧ t.length = Cl.length) ∨ (∃ t, o1 = (.inr t) ∧ e = .ret ∧ ∃ (ρ : Nat → Value) (σ : St), a = fr 82 (updL ρ [(0, (Sl Cp t Cq)), (4, (.func (.func 88) #[] #[(pt Dm Dn), (pt Du Dv)]))]) ∧ w = σ.w ∧ Hp S0 σ0 σ [Ch.own 0 0 (Sl Cp t Cq) t, Ch.bx Dk Dm Dn [(I Di)] Do Dq, Ch.ro 0 (Sl Dr Dj Ds) Dj, Ch.bx Dt Du Dv [(Sl Dr Dj Ds)] Dw Dx] ∧ t.length = Cl.length)) ?_ ?_
 ·clear h'
  rename _ = some o1 => h
  refine c_blk (wp_loopM _ h (fun s2 a w => ∃ (ρ : Nat → Value) (σ : St), a = fr 82 (updL ρ [(0, (Sl Cp s2.1 Cq)), (2, (I Dg)), (3, (I Dh)), (4, (.func (.func 88) #[] #[(pt Dm Dn), (pt Du Dv)])), (10, (I s2.2))]) ∧ w = σ.w ∧ Hp S0 σ0 σ [Ch.own 0 0 (Sl Cp s2.1 Cq) s2.1, Ch.bx Dk Dm Dn [(I Di)] Do Dq, Ch.ro 0 (Sl Dr Dj Ds) Dj, Ch.bx Dt Du Dv [(Sl Dr Dj Ds)] Dw Dx] ∧ s2.1.length = Cl.length) ⟨_, σ0, fr_join ⟨rfl, rfl, rfl, rfl, rfl, trivial⟩, rfl, H.sel' [0, 1, 3, 2] rfl rfl, rfl⟩ ?_)
  clear h H
  rintro s2 a w o ⟨ρ, σ3, rfl, rfl, H, hn4⟩ h hres
  refine c_blk (c_seq (rg (st (v := (I s2.2)) (rv_move rfl) (st (v := (I (w64 (2 * s2.2)))) (rv_mul (a := 2) (b := s2.2) rfl rfl) (st (v := (I (w64 ((w64 (2 * s2.2)) + 1)))) (rv_add (a := (w64 (2 * s2.2))) (b := 1) rfl rfl) (st (v := (I (w64 ((w64 (2 * s2.2)) + 1)))) (rv_assign rfl) (w_end (q_then (c_seq (c_seq (rg ?_)))))))))))
  refine st (v := (I (w64 ((w64 (2 * s2.2)) + 1)))) (rv_move rfl) (st (v := (I Dg)) (rv_move rfl) (st (v := (B (decide (Dg ≤ (w64 ((w64 (2 * s2.2)) + 1)))))) (rv_geq (a := (w64 ((w64 (2 * s2.2)) + 1))) (b := Dg) rfl rfl) (w_end (q_then ?_))))
  refine cd_cond (decide (Dg ≤ (w64 ((w64 (2 * s2.2)) + 1)))) rfl (fun hb5 => ?_) (fun hb5 => ?_)
  ·replace h := bif_t hb5 h
   refine c_exit (q_then_x ?_)
   refine q_blk_x (by decide) ?_
   refine q_then_x (q_blk_hit ?_)
   obtain rfl := Option.some.inj h
   obtain rfl := hres _ rfl
   exact .inl ⟨_, rfl, rfl, _, σ3, fr_join ⟨rfl, rfl, trivial⟩, rfl, H.sel' [0, 1, 2, 3] rfl rfl, hn4⟩
  ·replace h := bif_f hb5 h
   refine c_skip (q_then (c_seq (c_seq ?_)))
   obtain ⟨o6, hj, h'⟩ := bind_some h
   clear h
   refine c_cut (fun e a w => e = .normal ∧ ∃ (ρ : Nat → Value) (σ : St), a = fr 82 (updL ρ [(0, (Sl Cp s2.1 Cq)), (2, (I Dg)), (3, (I Dh)), (4, (.func (.func 88) #[] #[(pt Dm Dn), (pt Du Dv)])), (10, (I s2.2)), (11, (I (w64 ((w64 (2 * s2.2)) + 1)))), (40, (B o6))]) ∧ w = σ.w ∧ Hp S0 σ0 σ [Ch.own 0 0 (Sl Cp s2.1 Cq) s2.1, Ch.bx Dk Dm Dn [(I Di)] Do Dq, Ch.ro 0 (Sl Dr Dj Ds) Dj, Ch.bx Dt Du Dv [(Sl Dr Dj Ds)] Dw Dx]) ?_ ?_
   ·clear h'
    rename _ = some o6 => h
    refine rgP (σ := σ3) 19 (by kernel_rfl) (by kernel_rfl) (by kernel_rfl) ?_
    refine sq (v := (I (w64 ((w64 (2 * s2.2)) + 1)))) (rv_move rfl) (sq (v := (I (w64 ((w64 ((w64 (2 * s2.2)) + 1)) + 1)))) (rv_add (a := (w64 ((w64 (2 * s2.2)) + 1))) (b := 1) rfl rfl) (sq (v := (I Dg)) (rv_move rfl) (sq (v := (B (decide ((w64 ((w64 ((w64 (2 * s2.2)) + 1)) + 1)) < Dg)))) (rv_lss (a := (w64 ((w64 ((w64 (2 * s2.2)) + 1)) + 1))) (b := Dg) rfl rfl) (sq (v := (B (decide ((w64 ((w64 ((w64 (2 * s2.2)) + 1)) + 1)) < Dg)))) (rv_move rfl) ?_))))
    rcases Bool.eq_false_or_eq_true (decide ((w64 ((w64 ((w64 (2 * s2.2)) + 1)) + 1)) < Dg)) with hb7 | hb7
    ·replace h := bif_t hb7 h
     refine sq_g (v := (.func (.func 88) #[] #[(pt Dm Dn), (pt Du Dv)])) (congrArg some hb7) (rv_move rfl) (sq_g (v := (Sl Cp s2.1 Cq)) (congrArg some hb7) (rv_move rfl) (sq_g (v := (I Dh)) (congrArg some hb7) (rv_move rfl) (sq_g (v := (I (w64 ((w64 (2 * s2.2)) + 1)))) (congrArg some hb7) (rv_move rfl) (sq_g (v := (I (w64 (Dh + (w64 ((w64 (2 * s2.2)) + 1)))))) (congrArg some hb7) (rv_add (a := Dh) (b := (w64 ((w64 (2 * s2.2)) + 1))) rfl rfl) ?_))))
     obtain ⟨x8, hx9, h'⟩ := bind_some h
     clear h
     have h := h'; clear h'
     obtain ⟨b11, o12, hi10, -⟩ := (H.own 0 rfl).ix hx9
     refine sq_g (v := (pt b11 o12)) (congrArg some hb7) (rv_ix Try.underlying23 ti34 rfl rfl hi10) ?_
     obtain ⟨_, ⟨_, _, rfl, rfl, ⟨_, _, rfl, ⟨_, rfl, hR17⟩, rfl⟩⟩, hl13, hc14⟩ := ((H.own 0 rfl).at hx9 hi10).cells
     obtain ⟨a15, c16, rfl⟩ := hR17.isSl
     replace H := H.add (d := Ch.ro 0 (Sl a15 x8.2.1 c16) x8.2.1) hR17 (fun _ h => h)
     clear hR17
     refine sq_g (v := (.agg #[(I x8.1), (Sl a15 x8.2.1 c16), (I x8.2.2)])) (congrArg some hb7) (rv_load Try.underlying34 rfl ti34 rfl hl13 hc14) (sq_g (v := (Sl Cp s2.1 Cq)) (congrArg some hb7) (rv_move rfl) (sq_g (v := (I Dh)) (congrArg some hb7) (rv_move rfl) (sq_g (v := (I (w64 ((w64 (2 * s2.2)) + 1)))) (congrArg some hb7) (rv_move rfl) (sq_g (v := (I (w64 (Dh + (w64 ((w64 (2 * s2.2)) + 1)))))) (congrArg some hb7) (rv_add (a := Dh) (b := (w64 ((w64 (2 * s2.2)) + 1))) rfl rfl) (sq_g (v := (I (w64 ((w64 (Dh + (w64 ((w64 (2 * s2.2)) + 1)))) + 1)))) (congrArg some hb7) (rv_add (a := (w64 (Dh + (w64 ((w64 (2 * s2.2)) + 1))))) (b := 1) rfl rfl) ?_)))))
     obtain ⟨x18, hx19, h'⟩ := bind_some h
     clear h
     have h := h'; clear h'
     obtain ⟨b21, o22, hi20, -⟩ := (H.own 1 rfl).ix hx19
     refine sq_g (v := (pt b21 o22)) (congrArg some hb7) (rv_ix Try.underlying23 ti34 rfl rfl hi20) ?_
     obtain ⟨_, ⟨_, _, rfl, rfl, ⟨_, _, rfl, ⟨_, rfl, hR27⟩, rfl⟩⟩, hl23, hc24⟩ := ((H.own 1 rfl).at hx19 hi20).cells
     obtain ⟨a25, c26, rfl⟩ := hR27.isSl
     replace H := H.add (d := Ch.ro 0 (Sl a25 x18.2.1 c26) x18.2.1) hR27 (fun _ h => h)
     clear hR27
     refine sq_g (v := (.agg #[(I x18.1), (Sl a25 x18.2.1 c26), (I x18.2.2)])) (congrArg some hb7) (rv_load Try.underlying34 rfl ti34 rfl hl23 hc24) (sq_end ?_)
     intro σ28 hm29
     replace H := H.grow (hm29.mono fun _ h => h); clear hm29
     obtain ⟨r30, hx31, h'⟩ := bind_some h
     clear h
     have h := h'; clear h'
     have hc32 := c_impl_sortByDistance_1__p3__p24 (Ag := a15) (Ah := c16) (Bv := a25) (Bw := c26) (By := Dk) (Bz := Dm) (Ca := Dn) (Cb := Do) (Cc := Dq) (Cf := Dt) (Cg := Du) (Ci := Dv) (Cj := Dw) (Ck := Dx) (Cd := Dr) (Ce := Ds) hx31
     refine st_call (cx_call hc32 (ent_v (cap := [(pt Dm Dn), (pt Du Dv)]) hc32.fn rfl rfl) hn0 (H.sel' [1, 0, 3, 5, 4, 0, 1, 2, 4] rfl rfl : Hp S0 σ0 _ ([_, _, _, _, _] ++ _))) (wanted_yes rfl (by exact (congrArg some hb7))) ?_
     rintro _ σ33 ⟨_, ⟨rfl, rfl⟩, H, -⟩
     replace H : Hp _ _ _ [_, _, _, _, _, _] := H
     refine st_g (v := (B (decide (r30 < 0)))) (congrArg some hb7) (rv_lss (a := r30) (b := 0) rfl rfl) (st (v := (B (decide (r30 < 0)))) (rv_pick_t (congrArg B hb7) rfl) (w_end ?_))
     obtain rfl := Option.some.inj h
     exact ⟨rfl, _, σ33, fr_join ⟨rfl, rfl, rfl, rfl, rfl, rfl, rfl, trivial⟩, rfl, H.sel' [4, 0, 5, 1] rfl rfl⟩
    ·replace h := bif_f hb7 h
     refine sq_skip (congrArg some hb7) (sq_skip (congrArg some hb7) (sq_skip (congrArg some hb7) (sq_skip (congrArg some hb7) (sq_skip (congrArg some hb7) (sq_skip (congrArg some hb7) (sq_skip (congrArg some hb7) (sq_skip (congrArg some hb7) (sq_skip (congrArg some hb7) (sq_skip (congrArg some hb7) (sq_skip (congrArg some hb7) (sq_skip (congrArg some hb7) ?_)))))))))))
     refine sq_skip (congrArg some hb7) (sq_skip (congrArg some hb7) (sq_end ?_))
     intro σ34 hm35
     replace H := H.grow (hm35.mono fun _ h => h); clear hm35
     refine st_skip (congrArg some hb7) (st_skip (congrArg some hb7) (st (v := (B false)) (rv_pick_f (congrArg B hb7) rfl) (w_end ?_)))
     obtain rfl := Option.some.inj h
     exact ⟨rfl, _, σ34, fr_join ⟨rfl, rfl, rfl, rfl, rfl, rfl, rfl, trivial⟩, rfl, H.sel' [0, 1, 2, 3] rfl rfl⟩
   ·clear hj
    have h := h'
    clear h' H
    rintro e a w ⟨rfl, ρ, σ36, rfl, rfl, H⟩
    refine q_then ?_
    obtain ⟨o37, hj, h'⟩ := bind_some h
    clear h
    refine c_cut (fun e a w => e = .normal ∧ ∃ (ρ : Nat → Value) (σ : St), a = fr 82 (updL ρ [(0, (Sl Cp s2.1 Cq)), (2, (I Dg)), (3, (I Dh)), (4, (.func (.func 88) #[] #[(pt Dm Dn), (pt Du Dv)])), (10, (I s2.2)), (11, (I o37))]) ∧ w = σ.w ∧ Hp S0 σ0 σ [Ch.own 0 0 (Sl Cp s2.1 Cq) s2.1, Ch.bx Dk Dm Dn [(I Di)] Do Dq, Ch.ro 0 (Sl Dr Dj Ds) Dj, Ch.bx Dt Du Dv [(Sl Dr Dj Ds)] Dw Dx]) ?_ ?_
    ·clear h'
     rename _ = some o37 => h
     refine cd_cond o6 rfl (fun hb38 => ?_) (fun hb38 => ?_)
     ·replace h := bif_t hb38 h
      refine rg (st (v := (I (w64 ((w64 (2 * s2.2)) + 1)))) (rv_move rfl) (st (v := (I (w64 ((w64 ((w64 (2 * s2.2)) + 1)) + 1)))) (rv_add (a := (w64 ((w64 (2 * s2.2)) + 1))) (b := 1) rfl rfl) (st (v := (I (w64 ((w64 ((w64 (2 * s2.2)) + 1)) + 1)))) (rv_assign rfl) (w_end ?_))))
      obtain rfl := Option.some.inj h
      exact ⟨rfl, _, σ36, fr_join ⟨rfl, rfl, rfl, rfl, rfl, rfl, trivial⟩, rfl, H.sel' [0, 1, 2, 3] rfl rfl⟩
     ·replace h := bif_f hb38 h
      refine c_skip ?_
      obtain rfl := Option.some.inj h
      exact ⟨rfl, _, σ36, fr_join ⟨rfl, rfl, rfl, rfl, rfl, rfl, trivial⟩, rfl, H.sel' [0, 1, 2, 3] rfl rfl⟩
    ·clear hj
     have h := h'
     clear h' H
     rintro e a w ⟨rfl, ρ, σ39, rfl, rfl, H⟩
     refine q_then (c_seq (c_seq ?_))
     refine rgP (σ := σ39) 13 (by kernel_rfl) (by kernel_rfl) (by kernel_rfl) ?_
     refine sq (v := (.func (.func 88) #[] #[(pt Dm Dn), (pt Du Dv)])) (rv_move rfl) (sq (v := (Sl Cp s2.1 Cq)) (rv_move rfl) (sq (v := (I Dh)) (rv_move rfl) (sq (v := (I s2.2)) (rv_move rfl) (sq (v := (I (w64 (Dh + s2.2)))) (rv_add (a := Dh) (b := s2.2) rfl rfl) ?_))))
     obtain ⟨x40, hx41, h'⟩ := bind_some h
     clear h
     have h := h'; clear h'
     obtain ⟨b43, o44, hi42, -⟩ := (H.own 0 rfl).ix hx41
     refine sq (v := (pt b43 o44)) (rv_ix Try.underlying23 ti34 rfl rfl hi42) ?_
     obtain ⟨_, ⟨_, _, rfl, rfl, ⟨_, _, rfl, ⟨_, rfl, hR49⟩, rfl⟩⟩, hl45, hc46⟩ := ((H.own 0 rfl).at hx41 hi42).cells
     obtain ⟨a47, c48, rfl⟩ := hR49.isSl
     replace H := H.add (d := Ch.ro 0 (Sl a47 x40.2.1 c48) x40.2.1) hR49 (fun _ h => h)
     clear hR49
     refine sq (v := (.agg #[(I x40.1), (Sl a47 x40.2.1 c48), (I x40.2.2)])) (rv_load Try.underlying34 rfl ti34 rfl hl45 hc46) (sq (v := (Sl Cp s2.1 Cq)) (rv_move rfl) (sq (v := (I Dh)) (rv_move rfl) (sq (v := (I o37)) (rv_move rfl) (sq (v := (I (w64 (Dh + o37)))) (rv_add (a := Dh) (b := o37) rfl rfl) ?_))))
     obtain ⟨x50, hx51, h'⟩ := bind_some h
     clear h
     have h := h'; clear h'
     obtain ⟨b53, o54, hi52, -⟩ := (H.own 1 rfl).ix hx51
     refine sq (v := (pt b53 o54)) (rv_ix Try.underlying23 ti34 rfl rfl hi52) ?_
     obtain ⟨_, ⟨_, _, rfl, rfl, ⟨_, _, rfl, ⟨_, rfl, hR59⟩, rfl⟩⟩, hl55, hc56⟩ := ((H.own 1 rfl).at hx51 hi52).cells
     obtain ⟨a57, c58, rfl⟩ := hR59.isSl
     replace H := H.add (d := Ch.ro 0 (Sl a57 x50.2.1 c58) x50.2.1) hR59 (fun _ h => h)
     clear hR59
     refine sq (v := (.agg #[(I x50.1), (Sl a57 x50.2.1 c58), (I x50.2.2)])) (rv_load Try.underlying34 rfl ti34 rfl hl55 hc56) (sq_end ?_)
     intro σ60 hm61
     replace H := H.grow (hm61.mono fun _ h => h); clear hm61
     obtain ⟨r62, hx63, h'⟩ := bind_some h
     clear h
     have h := h'; clear h'
     have hc64 := c_impl_sortByDistance_1__p3__p24 (Ag := a47) (Ah := c48) (Bv := a57) (Bw := c58) (By := Dk) (Bz := Dm) (Ca := Dn) (Cb := Do) (Cc := Dq) (Cf := Dt) (Cg := Du) (Ci := Dv) (Cj := Dw) (Ck := Dx) (Cd := Dr) (Ce := Ds) hx63
     refine st_call (cx_call hc64 (ent_v (cap := [(pt Dm Dn), (pt Du Dv)]) hc64.fn rfl rfl) hn0 (H.sel' [1, 0, 3, 5, 4, 0, 1, 2, 4] rfl rfl : Hp S0 σ0 _ ([_, _, _, _, _] ++ _))) wn ?_
     rintro _ σ65 ⟨_, ⟨rfl, rfl⟩, H, -⟩
     replace H : Hp _ _ _ [_, _, _, _, _, _] := H
     refine st (v := (B (decide (r62 < 0)))) (rv_lss (a := r62) (b := 0) rfl rfl) (st (v := (B (!(decide (r62 < 0))))) (rv_not rfl) (w_end (q_then ?_)))
     refine cd_cond (!(decide (r62 < 0))) rfl (fun hb66 => ?_) (fun hb66 => ?_)
     ·replace h := bif_t hb66 h
      refine c_ret (q_then_r (q_blk_r (q_then_r (q_blk_r ?_))))
      obtain rfl := Option.some.inj h
      obtain rfl := hres _ rfl
      exact .inr (⟨_, rfl, rfl, _, σ65, fr_join ⟨rfl, rfl, trivial⟩, rfl, H.sel' [4, 0, 5, 1] rfl rfl, hn4⟩)
     ·replace h := bif_f hb66 h
      refine c_skip (q_then (c_seq ?_))
      obtain ⟨x67, hx68, h'⟩ := bind_some h
      clear h
      have h := h'; clear h'
      obtain ⟨b70, o71, hi69, -⟩ := (H.own 4 rfl).ix hx68
      obtain ⟨_, ⟨_, _, rfl, rfl, ⟨_, _, rfl, ⟨_, rfl, hR76⟩, rfl⟩⟩, hl72, hc73⟩ := ((H.own 4 rfl).at hx68 hi69).cells
      obtain ⟨a74, c75, rfl⟩ := hR76.isSl
      replace H := H.add (d := Ch.ro 0 (Sl a74 x67.2.1 c75) x67.2.1) hR76 (fun _ h => h)
      clear hR76
      obtain ⟨x77, hx78, h'⟩ := bind_some h
      clear h
      have h := h'; clear h'
      obtain ⟨b80, o81, hi79, -⟩ := (H.own 5 rfl).ix hx78
      obtain ⟨_, ⟨_, _, rfl, rfl, ⟨_, _, rfl, ⟨_, rfl, hR86⟩, rfl⟩⟩, hl82, hc83⟩ := ((H.own 5 rfl).at hx78 hi79).cells
      obtain ⟨a84, c85, rfl⟩ := hR86.isSl
      replace H := H.add (d := Ch.ro 0 (Sl a84 x77.2.1 c85) x77.2.1) hR86 (fun _ h => h)
      clear hR86
      obtain ⟨x87, hx88, h'⟩ := bind_some h
      clear h
      have h := h'; clear h'
      obtain ⟨b90, o91, hi89, -⟩ := (H.own 6 rfl).ix hx88
      have Hs := H
      refine rg2 (σ := σ65) (Nm := Unit) 22 [21] [[false], [true]] [[(0, 0)], [(0, 0)], [(0, 0)], [(0, 0)], [(0, 0), (1, 1)], [(0, 0), (1, 1)], [(0, 0), (1, 1)], [(0, 0), (1, 1)], [(0, 0)], [(0, 0)], [(0, 0)], [(0, 0)], [(0, 0)], [(0, 0)], [(0, 0)], [(0, 0)], [(0, 0)], [(0, 0)], [(0, 0)], [(0, 0)], [(0, 0)], [(0, 1)]] 1 [fun _ => fun σm => Hp S0 σ0 σm [Ch.ro 0 (Sl a84 x77.2.1 c85) x77.2.1, Ch.ro 0 (Sl a74 x67.2.1 c75) x67.2.1, Ch.bx Dk Dm Dn [(I Di)] Do Dq, Ch.bx Dt Du Dv [(Sl Dr Dj Ds)] Dw Dx, Ch.ro 0 (Sl a57 x50.2.1 c58) x50.2.1, Ch.ro 0 (Sl a47 x40.2.1 c48) x40.2.1, Ch.own 0 0 (Sl Cp s2.1 Cq) s2.1, Ch.ro 0 (Sl Dr Dj Ds) Dj] ∧ Md (cov []) σ65 σm, fun _ => fun σm => Hp S0 σ0 σm [Ch.own 0 0 (Sl Cp s2.1 Cq) (s2.1.set (w64 (Dh + s2.2)).toNat (x67.1, x67.2.1, x67.2.2)), Ch.ro 0 (Sl a84 x77.2.1 c85) x77.2.1, Ch.ro 0 (Sl a74 x67.2.1 c75) x67.2.1, Ch.bx Dk Dm Dn [(I Di)] Do Dq, Ch.bx Dt Du Dv [(Sl Dr Dj Ds)] Dw Dx, Ch.ro 0 (Sl a57 x50.2.1 c58) x50.2.1, Ch.ro 0 (Sl a47 x40.2.1 c48) x40.2.1, Ch.ro 0 (Sl Dr Dj Ds) Dj] ∧ Md (fun i => (cov []) i ∨ (fun b => blk (Sl Cp s2.1 Cq) = some b) i) σ65 σm] [fun _ => (Sl Cp s2.1 Cq), fun _ => (I Dh), fun _ => (I s2.2), fun _ => (I (w64 (Dh + s2.2))), fun _ => (Sl Cp s2.1 Cq), fun _ => (I Dh), fun _ => (I o37), fun _ => (I (w64 (Dh + o37))), fun _ => (Sl Cp s2.1 Cq), fun _ => (I Dh), fun _ => (I o37), fun _ => (I (w64 (Dh + o37))), fun _ => (pt b70 o71), fun _ => (.agg #[(I x67.1), (Sl a74 x67.2.1 c75), (I x67.2.2)]), fun _ => (Sl Cp s2.1 Cq), fun _ => (I Dh), fun _ => (I s2.2), fun _ => (I (w64 (Dh + s2.2))), fun _ => (pt b80 o81), fun _ => (.agg #[(I x77.1), (Sl a84 x77.2.1 c85), (I x77.2.2)]), fun _ => (pt b90 o91), fun _ => undef] () (by kernel_rfl) (by kernel_rfl) ?_ ?_ ?_
      ·intro σm m0
       exact ⟨H.grow (m0.mono fun _ h => h.elim), m0⟩
      ·refine ac rfl (by
         intro k _nm ρ σm hJ hoff hdep
         have e0 := look_off (N := 82) (hoff 0 rfl) rfl
         exact dp_v (v := (Sl Cp s2.1 Cq)) wn (rv_move e0) rfl hJ) ?_
       refine ac rfl (by
         intro k _nm ρ σm hJ hoff hdep
         have e3 := look_off (N := 82) (hoff 3 rfl) rfl
         exact dp_v (v := (I Dh)) wn (rv_move e3) rfl hJ) ?_
       refine ac rfl (by
         intro k _nm ρ σm hJ hoff hdep
         have e10 := look_off (N := 82) (hoff 10 rfl) rfl
         exact dp_v (v := (I s2.2)) wn (rv_move e10) rfl hJ) ?_
       refine ac rfl (by
         intro k _nm ρ σm hJ hoff hdep
         have e60 := hdep 1 rfl rfl 60 rfl
         have e61 := hdep 2 rfl rfl 61 rfl
         exact dp_v (v := (I (w64 (Dh + s2.2)))) wn (rv_add (a := Dh) (b := s2.2) e60 e61) rfl hJ) ?_
       refine ac rfl (by
         intro k _nm ρ σm hJ hoff hdep
         have e0 := look_off (N := 82) (hoff 0 rfl) rfl
         exact dp_v (v := (Sl Cp s2.1 Cq)) wn (rv_move e0) rfl hJ) ?_
       refine ac rfl (by
         intro k _nm ρ σm hJ hoff hdep
         have e3 := look_off (N := 82) (hoff 3 rfl) rfl
         exact dp_v (v := (I Dh)) wn (rv_move e3) rfl hJ) ?_
       refine ac rfl (by
         intro k _nm ρ σm hJ hoff hdep
         have e11 := look_off (N := 82) (hoff 11 rfl) rfl
         exact dp_v (v := (I o37)) wn (rv_move e11) rfl hJ) ?_
       refine ac rfl (by
         intro k _nm ρ σm hJ hoff hdep
         have e64 := hdep 5 rfl rfl 64 rfl
         have e65 := hdep 6 rfl rfl 65 rfl
         exact dp_v (v := (I (w64 (Dh + o37)))) wn (rv_add (a := Dh) (b := o37) e64 e65) rfl hJ) ?_
       refine ac rfl (by
         intro k _nm ρ σm hJ hoff hdep
         have e0 := look_off (N := 82) (hoff 0 rfl) rfl
         exact dp_v (v := (Sl Cp s2.1 Cq)) wn (rv_move e0) rfl hJ) ?_
       refine ac rfl (by
         intro k _nm ρ σm hJ hoff hdep
         have e3 := look_off (N := 82) (hoff 3 rfl) rfl
         exact dp_v (v := (I Dh)) wn (rv_move e3) rfl hJ) ?_
       refine ac rfl (by
         intro k _nm ρ σm hJ hoff hdep
         have e11 := look_off (N := 82) (hoff 11 rfl) rfl
         exact dp_v (v := (I o37)) wn (rv_move e11) rfl hJ) ?_
       refine ac rfl (by
         intro k _nm ρ σm hJ hoff hdep
         have e68 := hdep 9 rfl rfl 68 rfl
         have e69 := hdep 10 rfl rfl 69 rfl
         exact dp_v (v := (I (w64 (Dh + o37)))) wn (rv_add (a := Dh) (b := o37) e68 e69) rfl hJ) ?_
       refine ac rfl (by
         intro k _nm ρ σm hJ hoff hdep
         have e67 := hdep 8 rfl rfl 67 rfl
         have e70 := hdep 11 rfl rfl 70 rfl
         exact dp_v (v := (pt b70 o71)) wn (rv_ix Try.underlying23 ti34 e67 e70 hi69) rfl hJ) ?_
       refine all_cons (by
         refine ⟨?_, ?_⟩
         ·intro _nm ρ σm hJ hoff hdep
          have e71 := hdep 12 rfl rfl 71 rfl
          obtain ⟨H, m⟩ := id hJ
          replace hc73 := fun j hj => m.hcell (hc73 j hj) nocov
          exact dp_v (v := (.agg #[(I x67.1), (Sl a74 x67.2.1 c75), (I x67.2.2)])) wn (rv_load Try.underlying34 rfl ti34 e71 hl72 hc73) rfl hJ
         trivial) ?_
       refine ac rfl (by
         intro k _nm ρ σm hJ hoff hdep
         have e0 := look_off (N := 82) (hoff 0 rfl) rfl
         exact dp_v (v := (Sl Cp s2.1 Cq)) wn (rv_move e0) rfl hJ) ?_
       refine ac rfl (by
         intro k _nm ρ σm hJ hoff hdep
         have e3 := look_off (N := 82) (hoff 3 rfl) rfl
         exact dp_v (v := (I Dh)) wn (rv_move e3) rfl hJ) ?_
       refine ac rfl (by
         intro k _nm ρ σm hJ hoff hdep
         have e10 := look_off (N := 82) (hoff 10 rfl) rfl
         exact dp_v (v := (I s2.2)) wn (rv_move e10) rfl hJ) ?_
       refine ac rfl (by
         intro k _nm ρ σm hJ hoff hdep
         have e74 := hdep 15 rfl rfl 74 rfl
         have e75 := hdep 16 rfl rfl 75 rfl
         exact dp_v (v := (I (w64 (Dh + s2.2)))) wn (rv_add (a := Dh) (b := s2.2) e74 e75) rfl hJ) ?_
       refine ac rfl (by
         intro k _nm ρ σm hJ hoff hdep
         have e73 := hdep 14 rfl rfl 73 rfl
         have e76 := hdep 17 rfl rfl 76 rfl
         exact dp_v (v := (pt b80 o81)) wn (rv_ix Try.underlying23 ti34 e73 e76 hi79) rfl hJ) ?_
       refine all_cons (by
         refine ⟨?_, ?_⟩
         ·intro _nm ρ σm hJ hoff hdep
          have e77 := hdep 18 rfl rfl 77 rfl
          obtain ⟨H, m⟩ := id hJ
          replace hc83 := fun j hj => m.hcell (hc83 j hj) nocov
          exact dp_v (v := (.agg #[(I x77.1), (Sl a84 x77.2.1 c85), (I x77.2.2)])) wn (rv_load Try.underlying34 rfl ti34 e77 hl82 hc83) rfl hJ
         trivial) ?_
       refine ac rfl (by
         intro k _nm ρ σm hJ hoff hdep
         have e59 := hdep 0 rfl rfl 59 rfl
         have e62 := hdep 3 rfl rfl 62 rfl
         exact dp_v (v := (pt b90 o91)) wn (rv_ix Try.underlying23 ti34 e59 e62 hi89) rfl hJ) ?_
       refine all_cons (by
         refine ⟨?_, ?_⟩
         ·intro _nm ρ σm hJ hoff hdep
          have e79 := hdep 20 rfl rfl 79 rfl
          have e72 := hdep 13 rfl rfl 72 rfl
          obtain ⟨H, m⟩ := id hJ
          refine dp_exS wn rfl (ex_store_own (e' := (x67.1, x67.2.1, x67.2.2)) (vs := [(I x67.1), (Sl a74 x67.2.1 c75), (I x67.2.2)]) (k := 0) H (i := 6) rfl ti34 hx88 hi89 e79 rfl e72 rfl rfl (Nat.le_of_ble_eq_true rfl) (by simp [plain]) (by rintro _ ⟨_, _, rfl, rfl, ⟨_, _, rfl, ⟨_, rfl, hR94⟩, rfl⟩⟩; exact ⟨[(I x67.1)], [(Sl a74 x67.2.1 c75), (I x67.2.2)], rfl, rfl, ⟨[(Sl a74 x67.2.1 c75)], [(I x67.2.2)], rfl, ⟨_, rfl, (H.ro 1 rfl)⟩, rfl⟩⟩)) ?_
          rintro σq ⟨H2, m2⟩
          exact ⟨_, (), rfl, ⟨H2.sel' [0, 1, 2, 3, 4, 5, 6, 7] rfl rfl, m.comp m2⟩, stab [0, 1, 2, 3, 4, 5, 6, 7, 8, 9, 10, 11, 12, 13, 14, 15, 16, 17, 18, 19, 20] (by kernel_rfl) ⟨rfl, rfl, rfl, rfl, rfl, rfl, rfl, rfl, rfl, rfl, rfl, rfl, rfl, rfl, rfl, rfl, rfl, rfl, rfl, rfl, rfl, trivial⟩⟩
         trivial) ?_
       exact all_nil
      ·intro _nm ρ σ95 hJ hoff hrel
       have e0 := look_off (N := 82) (hoff 0 rfl) rfl
       have e2 := look_off (N := 82) (hoff 2 rfl) rfl
       have e3 := look_off (N := 82) (hoff 3 rfl) rfl
       have e4 := look_off (N := 82) (hoff 4 rfl) rfl
       have e11 := look_off (N := 82) (hoff 11 rfl) rfl
       have e63 := hrel 4 rfl 63 rfl
       have e66 := hrel 7 rfl 66 rfl
       have e78 := hrel 19 rfl 78 rfl
       obtain ⟨H, -⟩ := (show Hp S0 σ0 σ95 [Ch.own 0 0 (Sl Cp s2.1 Cq) (s2.1.set (w64 (Dh + s2.2)).toNat (x67.1, x67.2.1, x67.2.2)), Ch.ro 0 (Sl a84 x77.2.1 c85) x77.2.1, Ch.ro 0 (Sl a74 x67.2.1 c75) x67.2.1, Ch.bx Dk Dm Dn [(I Di)] Do Dq, Ch.bx Dt Du Dv [(Sl Dr Dj Ds)] Dw Dx, Ch.ro 0 (Sl a57 x50.2.1 c58) x50.2.1, Ch.ro 0 (Sl a47 x40.2.1 c48) x40.2.1, Ch.ro 0 (Sl Dr Dj Ds) Dj] ∧ Md (fun i => (cov []) i ∨ (fun b => blk (Sl Cp s2.1 Cq) = some b) i) σ65 σ95 from hJ)
       clear hJ Hs
       rw [fr_lookL (L := [(0, (Sl Cp s2.1 Cq)), (2, (I Dg)), (3, (I Dh)), (4, (.func (.func 88) #[] #[(pt Dm Dn), (pt Du Dv)])), (11, (I o37)), (63, (Sl Cp s2.1 Cq)), (66, (I (w64 (Dh + o37)))), (78, (.agg #[(I x77.1), (Sl a84 x77.2.1 c85), (I x77.2.2)]))]) ⟨e0, e2, e3, e4, e11, e63, e66, e78, trivial⟩]
       clear hoff hrel e0 e2 e3 e4 e11 e63 e66 e78
       have hsl : (Sl Cp s2.1 Cq) = (Sl Cp (s2.1.set (w64 (Dh + s2.2)).toNat (x67.1, x67.2.1, x67.2.2)) Cq) := sl_len (by simp)
       rw [hsl]; rw [hsl] at H; clear hsl
       obtain ⟨x96, hx97, h'⟩ := bind_some h
       clear h
       have h := h'; clear h'
       obtain ⟨b99, o100, hi98, -⟩ := (H.own 0 rfl).ix hx97
       refine st (v := (pt b99 o100)) (rv_ix Try.underlying23 ti34 rfl rfl hi98) ?_
       refine st_exS (ex_store_own (e' := (x77.1, x77.2.1, x77.2.2)) (vs := [(I x77.1), (Sl a84 x77.2.1 c85), (I x77.2.2)]) (k := 0) H (i := 0) rfl ti34 hx97 hi98 rfl rfl rfl rfl rfl (Nat.le_of_ble_eq_true rfl) (by simp [plain]) (by rintro _ ⟨_, _, rfl, rfl, ⟨_, _, rfl, ⟨_, rfl, hR103⟩, rfl⟩⟩; exact ⟨[(I x77.1)], [(Sl a84 x77.2.1 c85), (I x77.2.2)], rfl, rfl, ⟨[(Sl a84 x77.2.1 c85)], [(I x77.2.2)], rfl, ⟨_, rfl, (H.ro 1 rfl)⟩, rfl⟩⟩)) wn ?_
       rintro σ104 ⟨H, -⟩
       have hsl : (Sl Cp (s2.1.set (w64 (Dh + s2.2)).toNat (x67.1, x67.2.1, x67.2.2)) Cq) = (Sl Cp ((s2.1.set (w64 (Dh + s2.2)).toNat (x67.1, x67.2.1, x67.2.2)).set (w64 (Dh + o37)).toNat (x77.1, x77.2.1, x77.2.2)) Cq) := sl_len List.length_set.symm
       rw [hsl]; rw [hsl] at H; clear hsl
       replace H : Hp S0 σ0 σ104 [Ch.own 0 0 (Sl Cp ((s2.1.set (w64 (Dh + s2.2)).toNat (x67.1, x67.2.1, x67.2.2)).set (w64 (Dh + o37)).toNat (x77.1, x77.2.1, x77.2.2)) Cq) ((s2.1.set (w64 (Dh + s2.2)).toNat (x67.1, x67.2.1, x67.2.2)).set (w64 (Dh + o37)).toNat (x77.1, x77.2.1, x77.2.2)), Ch.bx Dk Dm Dn [(I Di)] Do Dq, Ch.bx Dt Du Dv [(Sl Dr Dj Ds)] Dw Dx, Ch.ro 0 (Sl Dr Dj Ds) Dj] := H.sel' [0, 3, 4, 7] rfl rfl
       refine w_end (q_then (rg (st (v := (I o37)) (rv_move rfl) (st (v := (I o37)) (rv_assign rfl) (w_end (q_blk (q_then ?_)))))))
       obtain rfl := Option.some.inj h
       exact ⟨_, rfl, _, σ104, fr_join ⟨rfl, rfl, rfl, rfl, rfl, trivial⟩, rfl, H.sel' [0, 1, 3, 2] rfl rfl, (List.length_set.trans (List.length_set.trans hn4))⟩
 ·clear hj
  have h := h'
  clear h' H
  rintro e a w (⟨t105, rfl, rfl, ρ, σ106, rfl, rfl, H, hn107⟩ | ⟨t108, rfl, rfl, ρ, σ109, rfl, rfl, H, hn110⟩)
  ·replace h := selim_l h
   obtain rfl := Option.some.inj h
   exact fin_end (v := (.tuple #[])) (results_ok Try.results124 res_nil rfl) ⟨rfl, rfl, hn107⟩ (H.sel' [0, 1, 3] rfl rfl)
  ·replace h := selim_r h
   obtain rfl := Option.some.inj h
   exact fin_ret (v := (.tuple #[])) (results_ok Try.results124 res_nil rfl) ⟨rfl, rfl, hn110⟩ (H.sel' [0, 1, 3] rfl rfl)

theorem c_slices_heapSortCmpFunc_impl_Item__impl_sortByDistance_1 {Cl : List (Int × (List Int) × Int)} {Av : Int} {Aw : Int} {Cm : Int} {Cn : List Int} {Cp : Option Addr} {Cq : Nat} {Cr Cs Ct : Nat} {Cu Cv : List Value} {Cw : Option Addr} {Cy : Nat} {Cz Da Db : Nat} {Dc Dd : List Value} {r : (List (Int × (List Int) × Int))} (h : M.slices_heapSortCmpFunc_impl_Item__impl_sortByDistance_1 Cl Av Aw Cm Cn = some r) :
    Cal2 Try.prog 113 [(Sl Cp Cl Cq), (I Av), (I Aw), (.func (.func 88) #[] #[(pt Cs Ct), (pt Da Db)])] [Ch.own 0 0 (Sl Cp Cl Cq) Cl, Ch.bx Cr Cs Ct [(I Cm)] Cu Cv, Ch.bx Cz Da Db [(Sl Cw Cn Cy)] Dc Dd, Ch.ro 0 (Sl Cw Cn Cy) Cn] (fun n0 v L => v = (.tuple #[]) ∧ L = [Ch.own 0 0 (Sl Cp r Cq) r, Ch.bx Cr Cs Ct [(I Cm)] Cu Cv, Ch.bx Cz Da Db [(Sl Cw Cn Cy)] Dc Dd] ∧ r.length = Cl.length) := by
 refine cal2 (n := 60) Try.func113 rfl rfl rfl rfl ?_
 intro S0 σ0 n0 hn0 H
 unfold M.slices_heapSortCmpFunc_impl_Item__impl_sortByDistance_1 at h
 refine c_seq (rg (st (v := (I Av)) (rv_move rfl) (st (v := (I Av)) (rv_assign rfl) (w_end (q_then (c_seq (rg (st (v := (I 0)) (rv_assign rfl) (w_end (q_then (c_seq ?_)))))))))))
 refine rg (st (v := (I Aw)) (rv_move rfl) (st (v := (I Av)) (rv_move rfl) (st (v := (I (w64 (Aw - Av)))) (rv_sub (a := Aw) (b := Av) rfl rfl) (st (v := (I (w64 (Aw - Av)))) (rv_assign rfl) (w_end (q_then (c_seq (c_seq (rg (st (v := (I (w64 (Aw - Av)))) (rv_move rfl) (st (v := (I (w64 ((w64 (Aw - Av)) - 1)))) (rv_sub (a := (w64 (Aw - Av))) (b := 1) rfl rfl) ?_)))))))))))
 refine st (v := (I (w64 ((w64 ((w64 (Aw - Av)) - 1)).tdiv 2)))) (rv_quo (a := (w64 ((w64 (Aw - Av)) - 1))) (b := 2) rfl rfl (by decide)) ?_
 refine st (v := (I (w64 ((w64 ((w64 (Aw - Av)) - 1)).tdiv 2)))) (rv_assign rfl) (w_end (q_then ?_))
 obtain ⟨o1, hj, h'⟩ := bind_some h
 clear h
 refine c_cut (fun e a w => e = .normal ∧ ∃ (ρ : Nat → Value) (σ : St), a = fr 60 (updL ρ [(0, (Sl Cp o1 Cq)), (3, (.func (.func 88) #[] #[(pt Cs Ct), (pt Da Db)])), (8, (I Av)), (9, (I 0)), (10, (I (w64 (Aw - Av))))]) ∧ w = σ.w ∧ Hp S0 σ0 σ [Ch.own 0 0 (Sl Cp o1 Cq) o1, Ch.bx Cr Cs Ct [(I Cm)] Cu Cv, Ch.ro 0 (Sl Cw Cn Cy) Cn, Ch.bx Cz Da Db [(Sl Cw Cn Cy)] Dc Dd] ∧ o1.length = Cl.length) ?_ ?_
 ·clear h'
  rename _ = some o1 => h
  refine c_blk (wp_loopM _ h (fun s2 a w => ∃ (ρ : Nat → Value) (σ : St), a = fr 60 (updL ρ [(0, (Sl Cp s2.1 Cq)), (3, (.func (.func 88) #[] #[(pt Cs Ct), (pt Da Db)])), (8, (I Av)), (9, (I 0)), (10, (I (w64 (Aw - Av)))), (11, (I s2.2))]) ∧ w = σ.w ∧ Hp S0 σ0 σ [Ch.own 0 0 (Sl Cp s2.1 Cq) s2.1, Ch.bx Cr Cs Ct [(I Cm)] Cu Cv, Ch.ro 0 (Sl Cw Cn Cy) Cn, Ch.bx Cz Da Db [(Sl Cw Cn Cy)] Dc Dd] ∧ s2.1.length = Cl.length) ⟨_, σ0, fr_join ⟨rfl, rfl, rfl, rfl, rfl, rfl, trivial⟩, rfl, H.sel' [0, 1, 3, 2] rfl rfl, rfl⟩ ?_)
  clear h H
  rintro s2 a w o ⟨ρ, σ3, rfl, rfl, H, hn4⟩ h hres
  refine c_seq (c_seq (rg (st (v := (I s2.2)) (rv_move rfl) (st (v := (B (decide (0 ≤ s2.2)))) (rv_geq (a := s2.2) (b := 0) rfl rfl) (w_end (q_then ?_))))))
  refine cd_cond (decide (0 ≤ s2.2)) rfl (fun hb5 => ?_) (fun hb5 => ?_)
  ·replace h := bif_t hb5 h
   refine c_skip (q_then (c_seq (c_blk (rg (st (v := (Sl Cp s2.1 Cq)) (rv_move rfl) (st (v := (I s2.2)) (rv_move rfl) (st (v := (I (w64 (Aw - Av)))) (rv_move rfl) (st (v := (I Av)) (rv_move rfl) (st (v := (.func (.func 88) #[] #[(pt Cs Ct), (pt Da Db)])) (rv_move rfl) ?_)))))))))
   obtain ⟨r6, hx7, h'⟩ := bind_some h
   clear h
   have h := h'; clear h'
   have hc8 := c_slices_siftDownCmpFunc_impl_Item__impl_sortByDistance_1 (Cp := Cp) (Cq := Cq) (Dk := Cr) (Dm := Cs) (Dn := Ct) (Do := Cu) (Dq := Cv) (Dt := Cz) (Du := Da) (Dv := Db) (Dw := Dc) (Dx := Dd) (Dr := Cw) (Ds := Cy) hx7
   refine st_call (cx_call hc8 (ent_f hc8.fn rfl) hn0 (H.sel' [0, 1, 3, 2, 2] rfl rfl : Hp S0 σ0 _ ([_, _, _, _] ++ _))) wn ?_
   rintro _ σ10 ⟨_, ⟨rfl, rfl, hn9⟩, H, -⟩
   replace H : Hp _ _ _ [_, _, _, _] := H
   have hsl : (Sl Cp s2.1 Cq) = (Sl Cp r6 Cq) := sl_len hn9.symm
   try rw [hsl]
   try rw [hsl] at H
   clear hsl
   refine w_end (q_blk (q_then (rg (st (v := (I s2.2)) (rv_move rfl) (st (v := (I (w64 (s2.2 - 1)))) (rv_sub (a := s2.2) (b := 1) rfl rfl) (st (v := (I (w64 (s2.2 - 1)))) (rv_assign rfl) (w_end (q_then ?_))))))))
   obtain rfl := Option.some.inj h
   exact ⟨_, rfl, _, σ10, fr_join ⟨rfl, rfl, rfl, rfl, rfl, rfl, trivial⟩, rfl, H.sel' [0, 1, 3, 2] rfl rfl, (hn9.trans hn4)⟩
  ·replace h := bif_f hb5 h
   refine c_exit (q_then_x (q_then_x (q_blk_hit ?_)))
   obtain rfl := Option.some.inj h
   obtain rfl := hres _ rfl
   exact ⟨rfl, _, σ3, fr_join ⟨rfl, rfl, rfl, rfl, rfl, trivial⟩, rfl, H.sel' [0, 1, 2, 3] rfl rfl, hn4⟩
 ·clear hj
  have h := h'
  clear h' H
  rintro e a w ⟨rfl, ρ, σ11, rfl, rfl, H, hn12⟩
  refine q_then (c_seq (rg (st (v := (I (w64 (Aw - Av)))) (rv_move rfl) (st (v := (I (w64 ((w64 (Aw - Av)) - 1)))) (rv_sub (a := (w64 (Aw - Av))) (b := 1) rfl rfl) (st (v := (I (w64 ((w64 (Aw - Av)) - 1)))) (rv_assign rfl) (w_end (q_then ?_)))))))
  obtain ⟨o13, hj, h'⟩ := bind_some h
  clear h
  refine c_cut (fun e a w => e = .normal ∧ ∃ (ρ : Nat → Value) (σ : St), a = fr 60 (updL ρ [(0, (Sl Cp o13 Cq)), (3, (.func (.func 88) #[] #[(pt Cs Ct), (pt Da Db)]))]) ∧ w = σ.w ∧ Hp S0 σ0 σ [Ch.own 0 0 (Sl Cp o13 Cq) o13, Ch.bx Cr Cs Ct [(I Cm)] Cu Cv, Ch.ro 0 (Sl Cw Cn Cy) Cn, Ch.bx Cz Da Db [(Sl Cw Cn Cy)] Dc Dd] ∧ o13.length = o1.length) ?_ ?_
  ·clear h'
   rename _ = some o13 => h
   refine c_blk (wp_loopM _ h (fun s14 a w => ∃ (ρ : Nat → Value) (σ : St), a = fr 60 (updL ρ [(0, (Sl Cp s14.1 Cq)), (3, (.func (.func 88) #[] #[(pt Cs Ct), (pt Da Db)])), (8, (I Av)), (9, (I 0)), (12, (I s14.2))]) ∧ w = σ.w ∧ Hp S0 σ0 σ [Ch.own 0 0 (Sl Cp s14.1 Cq) s14.1, Ch.bx Cr Cs Ct [(I Cm)] Cu Cv, Ch.ro 0 (Sl Cw Cn Cy) Cn, Ch.bx Cz Da Db [(Sl Cw Cn Cy)] Dc Dd] ∧ s14.1.length = o1.length) ⟨_, σ11, fr_join ⟨rfl, rfl, rfl, rfl, rfl, trivial⟩, rfl, H.sel' [0, 1, 2, 3] rfl rfl, rfl⟩ ?_)
   clear h H
   rintro s14 a w o ⟨ρ, σ15, rfl, rfl, H, hn16⟩ h hres
   refine c_seq (c_seq (rg (st (v := (I s14.2)) (rv_move rfl) (st (v := (B (decide (0 ≤ s14.2)))) (rv_geq (a := s14.2) (b := 0) rfl rfl) (w_end (q_then ?_))))))
   refine cd_cond (decide (0 ≤ s14.2)) rfl (fun hb17 => ?_) (fun hb17 => ?_)
   ·replace h := bif_t hb17 h
    refine c_skip (q_then (c_seq (c_blk (c_seq ?_))))
    obtain ⟨x18, hx19, h'⟩ := bind_some h
    clear h
    have h := h'; clear h'
    obtain ⟨b21, o22, hi20, -⟩ := (H.own 0 rfl).ix hx19
    obtain ⟨_, ⟨_, _, rfl, rfl, ⟨_, _, rfl, ⟨_, rfl, hR27⟩, rfl⟩⟩, hl23, hc24⟩ := ((H.own 0 rfl).at hx19 hi20).cells
    obtain ⟨a25, c26, rfl⟩ := hR27.isSl
    replace H := H.add (d := Ch.ro 0 (Sl a25 x18.2.1 c26) x18.2.1) hR27 (fun _ h => h)
    clear hR27
    obtain ⟨x28, hx29, h'⟩ := bind_some h
    clear h
    have h := h'; clear h'
    obtain ⟨b31, o32, hi30, -⟩ := (H.own 1 rfl).ix hx29
    obtain ⟨_, ⟨_, _, rfl, rfl, ⟨_, _, rfl, ⟨_, rfl, hR37⟩, rfl⟩⟩, hl33, hc34⟩ := ((H.own 1 rfl).at hx29 hi30).cells
    obtain ⟨a35, c36, rfl⟩ := hR37.isSl
    replace H := H.add (d := Ch.ro 0 (Sl a35 x28.2.1 c36) x28.2.1) hR37 (fun _ h => h)
    clear hR37
    obtain ⟨x38, hx39, h'⟩ := bind_some h
    clear h
    have h := h'; clear h'
    obtain ⟨b41, o42, hi40, -⟩ := (H.own 2 rfl).ix hx39
    have Hs := H
    refine rg2 (σ := σ15) (Nm := Unit) 18 [17] [[false], [true]] [[(0, 0)], [(0, 0)], [(0, 0), (1, 1)], [(0, 0), (1, 1)], [(0, 0), (1, 1)], [(0, 0), (1, 1)], [(0, 0)], [(0, 0)], [(0, 0)], [(0, 0)], [(0, 0)], [(0, 0)], [(0, 0)], [(0, 0)], [(0, 0)], [(0, 0)], [(0, 0)], [(0, 1)]] 1 [fun _ => fun σm => Hp S0 σ0 σm [Ch.ro 0 (Sl a35 x28.2.1 c36) x28.2.1, Ch.ro 0 (Sl a25 x18.2.1 c26) x18.2.1, Ch.own 0 0 (Sl Cp s14.1 Cq) s14.1, Ch.bx Cr Cs Ct [(I Cm)] Cu Cv, Ch.ro 0 (Sl Cw Cn Cy) Cn, Ch.bx Cz Da Db [(Sl Cw Cn Cy)] Dc Dd] ∧ Md (cov []) σ15 σm, fun _ => fun σm => Hp S0 σ0 σm [Ch.own 0 0 (Sl Cp s14.1 Cq) (s14.1.set Av.toNat (x18.1, x18.2.1, x18.2.2)), Ch.ro 0 (Sl a35 x28.2.1 c36) x28.2.1, Ch.ro 0 (Sl a25 x18.2.1 c26) x18.2.1, Ch.bx Cr Cs Ct [(I Cm)] Cu Cv, Ch.ro 0 (Sl Cw Cn Cy) Cn, Ch.bx Cz Da Db [(Sl Cw Cn Cy)] Dc Dd] ∧ Md (fun i => (cov []) i ∨ (fun b => blk (Sl Cp s14.1 Cq) = some b) i) σ15 σm] [fun _ => (Sl Cp s14.1 Cq), fun _ => (I Av), fun _ => (Sl Cp s14.1 Cq), fun _ => (I Av), fun _ => (I s14.2), fun _ => (I (w64 (Av + s14.2))), fun _ => (Sl Cp s14.1 Cq), fun _ => (I Av), fun _ => (I s14.2), fun _ => (I (w64 (Av + s14.2))), fun _ => (pt b21 o22), fun _ => (.agg #[(I x18.1), (Sl a25 x18.2.1 c26), (I x18.2.2)]), fun _ => (Sl Cp s14.1 Cq), fun _ => (I Av), fun _ => (pt b31 o32), fun _ => (.agg #[(I x28.1), (Sl a35 x28.2.1 c36), (I x28.2.2)]), fun _ => (pt b41 o42), fun _ => undef] () (by kernel_rfl) (by kernel_rfl) ?_ ?_ ?_
    ·intro σm m0
     exact ⟨H.grow (m0.mono fun _ h => h.elim), m0⟩
    ·refine ac rfl (by
       intro k _nm ρ σm hJ hoff hdep
       have e0 := look_off (N := 60) (hoff 0 rfl) rfl
       exact dp_v (v := (Sl Cp s14.1 Cq)) wn (rv_move e0) rfl hJ) ?_
     refine ac rfl (by
       intro k _nm ρ σm hJ hoff hdep
       have e8 := look_off (N := 60) (hoff 8 rfl) rfl
       exact dp_v (v := (I Av)) wn (rv_move e8) rfl hJ) ?_
     refine ac rfl (by
       intro k _nm ρ σm hJ hoff hdep
       have e0 := look_off (N := 60) (hoff 0 rfl) rfl
       exact dp_v (v := (Sl Cp s14.1 Cq)) wn (rv_move e0) rfl hJ) ?_
     refine ac rfl (by
       intro k _nm ρ σm hJ hoff hdep
       have e8 := look_off (N := 60) (hoff 8 rfl) rfl
       exact dp_v (v := (I Av)) wn (rv_move e8) rfl hJ) ?_
     refine ac rfl (by
       intro k _nm ρ σm hJ hoff hdep
       have e12 := look_off (N := 60) (hoff 12 rfl) rfl
       exact dp_v (v := (I s14.2)) wn (rv_move e12) rfl hJ) ?_
     refine ac rfl (by
       intro k _nm ρ σm hJ hoff hdep
       have e39 := hdep 3 rfl rfl 39 rfl
       have e40 := hdep 4 rfl rfl 40 rfl
       exact dp_v (v := (I (w64 (Av + s14.2)))) wn (rv_add (a := Av) (b := s14.2) e39 e40) rfl hJ) ?_
     refine ac rfl (by
       intro k _nm ρ σm hJ hoff hdep
       have e0 := look_off (N := 60) (hoff 0 rfl) rfl
       exact dp_v (v := (Sl Cp s14.1 Cq)) wn (rv_move e0) rfl hJ) ?_
     refine ac rfl (by
       intro k _nm ρ σm hJ hoff hdep
       have e8 := look_off (N := 60) (hoff 8 rfl) rfl
       exact dp_v (v := (I Av)) wn (rv_move e8) rfl hJ) ?_
     refine ac rfl (by
       intro k _nm ρ σm hJ hoff hdep
       have e12 := look_off (N := 60) (hoff 12 rfl) rfl
       exact dp_v (v := (I s14.2)) wn (rv_move e12) rfl hJ) ?_
     refine ac rfl (by
       intro k _nm ρ σm hJ hoff hdep
       have e43 := hdep 7 rfl rfl 43 rfl
       have e44 := hdep 8 rfl rfl 44 rfl
       exact dp_v (v := (I (w64 (Av + s14.2)))) wn (rv_add (a := Av) (b := s14.2) e43 e44) rfl hJ) ?_
     refine ac rfl (by
       intro k _nm ρ σm hJ hoff hdep
       have e42 := hdep 6 rfl rfl 42 rfl
       have e45 := hdep 9 rfl rfl 45 rfl
       exact dp_v (v := (pt b21 o22)) wn (rv_ix Try.underlying23 ti34 e42 e45 hi20) rfl hJ) ?_
     refine all_cons (by
       refine ⟨?_, ?_⟩
       ·intro _nm ρ σm hJ hoff hdep
        have e46 := hdep 10 rfl rfl 46 rfl
        obtain ⟨H, m⟩ := id hJ
        replace hc24 := fun j hj => m.hcell (hc24 j hj) nocov
        exact dp_v (v := (.agg #[(I x18.1), (Sl a25 x18.2.1 c26), (I x18.2.2)])) wn (rv_load Try.underlying34 rfl ti34 e46 hl23 hc24) rfl hJ
       trivial) ?_
     refine ac rfl (by
       intro k _nm ρ σm hJ hoff hdep
       have e0 := look_off (N := 60) (hoff 0 rfl) rfl
       exact dp_v (v := (Sl Cp s14.1 Cq)) wn (rv_move e0) rfl hJ) ?_
     refine ac rfl (by
       intro k _nm ρ σm hJ hoff hdep
       have e8 := look_off (N := 60) (hoff 8 rfl) rfl
       exact dp_v (v := (I Av)) wn (rv_move e8) rfl hJ) ?_
     refine ac rfl (by
       intro k _nm ρ σm hJ hoff hdep
       have e48 := hdep 12 rfl rfl 48 rfl
       have e49 := hdep 13 rfl rfl 49 rfl
       exact dp_v (v := (pt b31 o32)) wn (rv_ix Try.underlying23 ti34 e48 e49 hi30) rfl hJ) ?_
     refine all_cons (by
       refine ⟨?_, ?_⟩
       ·intro _nm ρ σm hJ hoff hdep
        have e50 := hdep 14 rfl rfl 50 rfl
        obtain ⟨H, m⟩ := id hJ
        replace hc34 := fun j hj => m.hcell (hc34 j hj) nocov
        exact dp_v (v := (.agg #[(I x28.1), (Sl a35 x28.2.1 c36), (I x28.2.2)])) wn (rv_load Try.underlying34 rfl ti34 e50 hl33 hc34) rfl hJ
       trivial) ?_
     refine ac rfl (by
       intro k _nm ρ σm hJ hoff hdep
       have e36 := hdep 0 rfl rfl 36 rfl
       have e37 := hdep 1 rfl rfl 37 rfl
       exact dp_v (v := (pt b41 o42)) wn (rv_ix Try.underlying23 ti34 e36 e37 hi40) rfl hJ) ?_
     refine all_cons (by
       refine ⟨?_, ?_⟩
       ·intro _nm ρ σm hJ hoff hdep
        have e52 := hdep 16 rfl rfl 52 rfl
        have e47 := hdep 11 rfl rfl 47 rfl
        obtain ⟨H, m⟩ := id hJ
        refine dp_exS wn rfl (ex_store_own (e' := (x18.1, x18.2.1, x18.2.2)) (vs := [(I x18.1), (Sl a25 x18.2.1 c26), (I x18.2.2)]) (k := 0) H (i := 2) rfl ti34 hx39 hi40 e52 rfl e47 rfl rfl (Nat.le_of_ble_eq_true rfl) (by simp [plain]) (by rintro _ ⟨_, _, rfl, rfl, ⟨_, _, rfl, ⟨_, rfl, hR45⟩, rfl⟩⟩; exact ⟨[(I x18.1)], [(Sl a25 x18.2.1 c26), (I x18.2.2)], rfl, rfl, ⟨[(Sl a25 x18.2.1 c26)], [(I x18.2.2)], rfl, ⟨_, rfl, (H.ro 1 rfl)⟩, rfl⟩⟩)) ?_
        rintro σq ⟨H2, m2⟩
        exact ⟨_, (), rfl, ⟨H2.sel' [0, 1, 2, 3, 4, 5] rfl rfl, m.comp m2⟩, stab [0, 1, 2, 3, 4, 5, 6, 7, 8, 9, 10, 11, 12, 13, 14, 15, 16] (by kernel_rfl) ⟨rfl, rfl, rfl, rfl, rfl, rfl, rfl, rfl, rfl, rfl, rfl, rfl, rfl, rfl, rfl, rfl, rfl, trivial⟩⟩
       trivial) ?_
     exact all_nil
    ·intro _nm ρ σ46 hJ hoff hrel
     have e0 := look_off (N := 60) (hoff 0 rfl) rfl
     have e3 := look_off (N := 60) (hoff 3 rfl) rfl
     have e8 := look_off (N := 60) (hoff 8 rfl) rfl
     have e9 := look_off (N := 60) (hoff 9 rfl) rfl
     have e12 := look_off (N := 60) (hoff 12 rfl) rfl
     have e38 := hrel 2 rfl 38 rfl
     have e41 := hrel 5 rfl 41 rfl
     have e51 := hrel 15 rfl 51 rfl
     obtain ⟨H, -⟩ := (show Hp S0 σ0 σ46 [Ch.own 0 0 (Sl Cp s14.1 Cq) (s14.1.set Av.toNat (x18.1, x18.2.1, x18.2.2)), Ch.ro 0 (Sl a35 x28.2.1 c36) x28.2.1, Ch.ro 0 (Sl a25 x18.2.1 c26) x18.2.1, Ch.bx Cr Cs Ct [(I Cm)] Cu Cv, Ch.ro 0 (Sl Cw Cn Cy) Cn, Ch.bx Cz Da Db [(Sl Cw Cn Cy)] Dc Dd] ∧ Md (fun i => (cov []) i ∨ (fun b => blk (Sl Cp s14.1 Cq) = some b) i) σ15 σ46 from hJ)
     clear hJ Hs
     rw [fr_lookL (L := [(0, (Sl Cp s14.1 Cq)), (3, (.func (.func 88) #[] #[(pt Cs Ct), (pt Da Db)])), (8, (I Av)), (9, (I 0)), (12, (I s14.2)), (38, (Sl Cp s14.1 Cq)), (41, (I (w64 (Av + s14.2)))), (51, (.agg #[(I x28.1), (Sl a35 x28.2.1 c36), (I x28.2.2)]))]) ⟨e0, e3, e8, e9, e12, e38, e41, e51, trivial⟩]
     clear hoff hrel e0 e3 e8 e9 e12 e38 e41 e51
     have hsl : (Sl Cp s14.1 Cq) = (Sl Cp (s14.1.set Av.toNat (x18.1, x18.2.1, x18.2.2)) Cq) := sl_len (by simp)
     rw [hsl]; rw [hsl] at H; clear hsl
     obtain ⟨x47, hx48, h'⟩ := bind_some h
     clear h
     have h := h'; clear h'
     obtain ⟨b50, o51, hi49, -⟩ := (H.own 0 rfl).ix hx48
     refine st (v := (pt b50 o51)) (rv_ix Try.underlying23 ti34 rfl rfl hi49) ?_
     refine st_exS (ex_store_own (e' := (x28.1, x28.2.1, x28.2.2)) (vs := [(I x28.1), (Sl a35 x28.2.1 c36), (I x28.2.2)]) (k := 0) H (i := 0) rfl ti34 hx48 hi49 rfl rfl rfl rfl rfl (Nat.le_of_ble_eq_true rfl) (by simp [plain]) (by rintro _ ⟨_, _, rfl, rfl, ⟨_, _, rfl, ⟨_, rfl, hR54⟩, rfl⟩⟩; exact ⟨[(I x28.1)], [(Sl a35 x28.2.1 c36), (I x28.2.2)], rfl, rfl, ⟨[(Sl a35 x28.2.1 c36)], [(I x28.2.2)], rfl, ⟨_, rfl, (H.ro 1 rfl)⟩, rfl⟩⟩)) wn ?_
     rintro σ55 ⟨H, -⟩
     have hsl : (Sl Cp (s14.1.set Av.toNat (x18.1, x18.2.1, x18.2.2)) Cq) = (Sl Cp ((s14.1.set Av.toNat (x18.1, x18.2.1, x18.2.2)).set (w64 (Av + s14.2)).toNat (x28.1, x28.2.1, x28.2.2)) Cq) := sl_len List.length_set.symm
     rw [hsl]; rw [hsl] at H; clear hsl
     refine w_end (q_then (rg (st (v := (Sl Cp ((s14.1.set Av.toNat (x18.1, x18.2.1, x18.2.2)).set (w64 (Av + s14.2)).toNat (x28.1, x28.2.1, x28.2.2)) Cq)) (rv_move rfl) (st (v := (I 0)) (rv_move rfl) (st (v := (I s14.2)) (rv_move rfl) (st (v := (I Av)) (rv_move rfl) (st (v := (.func (.func 88) #[] #[(pt Cs Ct), (pt Da Db)])) (rv_move rfl) ?_)))))))
     obtain ⟨r56, hx57, h'⟩ := bind_some h
     clear h
     have h := h'; clear h'
     have hc58 := c_slices_siftDownCmpFunc_impl_Item__impl_sortByDistance_1 (Cp := Cp) (Cq := Cq) (Dk := Cr) (Dm := Cs) (Dn := Ct) (Do := Cu) (Dq := Cv) (Dt := Cz) (Du := Da) (Dv := Db) (Dw := Dc) (Dx := Dd) (Dr := Cw) (Ds := Cy) hx57
     refine st_call (cx_call hc58 (ent_f hc58.fn rfl) hn0 (H.sel' [0, 3, 5, 4, 1, 2, 4] rfl rfl : Hp S0 σ0 _ ([_, _, _, _] ++ _))) wn ?_
     rintro _ σ60 ⟨_, ⟨rfl, rfl, hn59⟩, H, -⟩
     replace H : Hp _ _ _ [_, _, _, _, _, _] := H
     have hsl : (Sl Cp ((s14.1.set Av.toNat (x18.1, x18.2.1, x18.2.2)).set (w64 (Av + s14.2)).toNat (x28.1, x28.2.1, x28.2.2)) Cq) = (Sl Cp r56 Cq) := sl_len hn59.symm
     try rw [hsl]
     try rw [hsl] at H
     clear hsl
     refine w_end (q_blk (q_then (rg (st (v := (I s14.2)) (rv_move rfl) (st (v := (I (w64 (s14.2 - 1)))) (rv_sub (a := s14.2) (b := 1) rfl rfl) (st (v := (I (w64 (s14.2 - 1)))) (rv_assign rfl) (w_end (q_then ?_))))))))
     obtain rfl := Option.some.inj h
     exact ⟨_, rfl, _, σ60, fr_join ⟨rfl, rfl, rfl, rfl, rfl, trivial⟩, rfl, H.sel' [0, 1, 5, 2] rfl rfl, ((hn59.trans (List.length_set.trans (List.length_set.trans (hn16.trans hn12)))).trans hn12.symm)⟩
   ·replace h := bif_f hb17 h
    refine c_exit (q_then_x (q_then_x (q_blk_hit ?_)))
    obtain rfl := Option.some.inj h
    obtain rfl := hres _ rfl
    exact ⟨rfl, _, σ15, fr_join ⟨rfl, rfl, trivial⟩, rfl, H.sel' [0, 1, 2, 3] rfl rfl, ((hn16.trans hn12).trans hn12.symm)⟩
  ·clear hj
   have h := h'
   clear h' H
   rintro e a w ⟨rfl, ρ, σ61, rfl, rfl, H, hn62⟩
   obtain rfl := Option.some.inj h
   exact fin_end (v := (.tuple #[])) (results_ok Try.results113 res_nil rfl) ⟨rfl, rfl, (hn62.trans hn12)⟩ (H.sel' [0, 1, 3] rfl rfl)

theorem c_slices_breakPatternsCmpFunc_impl_Item__impl_sortByDistance_1 {Cl : List (Int × (List Int) × Int)} {Av : Int} {Aw : Int} {Cm : Int} {Cn : List Int} {Cp : Option Addr} {Cq : Nat} {Cr Cs Ct : Nat} {Cu Cv : List Value} {Cw : Option Addr} {Cy : Nat} {Cz Da Db : Nat} {Dc Dd : List Value} {r : (List (Int × (List Int) × Int))} (h : M.slices_breakPatternsCmpFunc_impl_Item__impl_sortByDistance_1 Cl Av Aw Cm Cn = some r) :
    Cal2 Try.prog 114 [(Sl Cp Cl Cq), (I Av), (I Aw), (.func (.func 88) #[] #[(pt Cs Ct), (pt Da Db)])] [Ch.own 0 0 (Sl Cp Cl Cq) Cl, Ch.bx Cr Cs Ct [(I Cm)] Cu Cv, Ch.bx Cz Da Db [(Sl Cw Cn Cy)] Dc Dd, Ch.ro 0 (Sl Cw Cn Cy) Cn] (fun n0 v L => v = (.tuple #[]) ∧ L = [Ch.own 0 0 (Sl Cp r Cq) r, Ch.bx Cr Cs Ct [(I Cm)] Cu Cv, Ch.bx Cz Da Db [(Sl Cw Cn Cy)] Dc Dd] ∧ r.length = Cl.length) := by
 refine cal2 (n := 67) Try.func114 rfl rfl rfl rfl ?_
 intro S0 σ0 n0 hn0 H
 unfold M.slices_breakPatternsCmpFunc_impl_Item__impl_sortByDistance_1 at h
 refine c_seq (rg (st (v := (I Aw)) (rv_move rfl) (st (v := (I Av)) (rv_move rfl) (st (v := (I (w64 (Aw - Av)))) (rv_sub (a := Aw) (b := Av) rfl rfl) (st (v := (I (w64 (Aw - Av)))) (rv_assign rfl) (w_end (q_then (c_seq (rg (st (v := (I (w64 (Aw - Av)))) (rv_move rfl) (st (v := (B (decide (8 ≤ (w64 (Aw - Av)))))) (rv_geq (a := (w64 (Aw - Av))) (b := 8) rfl rfl) ?_)))))))))))
 refine w_end (q_then ?_)
 refine cd_cond (decide (8 ≤ (w64 (Aw - Av)))) rfl (fun hb1 => ?_) (fun hb1 => ?_)
 ·replace h := bif_t hb1 h
  refine c_seq (rg (st (v := (I (w64 (Aw - Av)))) (rv_move rfl) (st (v := (.int .u64 (wk .u64 (w64 (Aw - Av))))) (rvk_conv (k := .i64) (k' := .u64) (a := (w64 (Aw - Av))) Try.underlying3 Try.underlying157 rfl) (st_ex (ex_alloc (cs := [(.int .u64 0)]) H hn0 ti157 rfl) wn ?_))))
  rintro _ σ3 ⟨b2, rfl, H, -⟩
  refine st_exS (ex_store_box (k := 0) (cs := [(.int .u64 0)]) (vs := [(.int .u64 (wk .u64 (w64 (Aw - Av))))]) (cs' := [(.int .u64 (wk .u64 (w64 (Aw - Av))))]) H (i := 0) rfl ti157 rfl rfl rfl rfl rfl (Nat.le_of_ble_eq_true rfl) (by simp [plain]) rfl) wn ?_
  rintro σ4 ⟨H, -⟩
  refine w_end (q_then (c_seq (rg (st (v := (I (w64 (Aw - Av)))) (rv_move rfl) ?_))))
  obtain ⟨r5, hx6, h'⟩ := bind_some h
  clear h
  have h := h'; clear h'
  have hc7 := c_slices_nextPowerOfTwo hx6
  refine st_call (cx_call hc7 (ent_f hc7.fn rfl) hn0 (H.sel' [0, 1, 2, 3, 4] rfl rfl : Hp S0 σ0 _ ([] ++ _))) wn ?_
  rintro _ σ8 ⟨_, ⟨rfl, rfl⟩, H, -⟩
  replace H : Hp _ _ _ [_, _, _, _, _] := H
  refine st (v := (.int .u64 r5)) (rv_assign rfl) (w_end (q_then (c_seq (rg (st (v := (I Av)) (rv_move rfl) (st (v := (I (w64 (Aw - Av)))) (rv_move rfl) ?_))))))
  refine st (v := (I (w64 ((w64 (Aw - Av)).tdiv 4)))) (rv_quo (a := (w64 (Aw - Av))) (b := 4) rfl rfl (by decide)) ?_
  refine st (v := (I (w64 ((w64 ((w64 (Aw - Av)).tdiv 4)) * 2)))) (rv_mul (a := (w64 ((w64 (Aw - Av)).tdiv 4))) (b := 2) rfl rfl) (st (v := (I (w64 (Av + (w64 ((w64 ((w64 (Aw - Av)).tdiv 4)) * 2)))))) (rv_add (a := Av) (b := (w64 ((w64 ((w64 (Aw - Av)).tdiv 4)) * 2))) rfl rfl) (st (v := (I (w64 ((w64 (Av + (w64 ((w64 ((w64 (Aw - Av)).tdiv 4)) * 2)))) - 1)))) (rv_sub (a := (w64 (Av + (w64 ((w64 ((w64 (Aw - Av)).tdiv 4)) * 2))))) (b := 1) rfl rfl) (st (v := (I (w64 ((w64 (Av + (w64 ((w64 ((w64 (Aw - Av)).tdiv 4)) * 2)))) - 1)))) (rv_assign rfl) (w_end (q_then ?_)))))
  obtain ⟨o9, hj, h'⟩ := bind_some h
  clear h
  refine c_cut (fun e a w => e = .normal ∧ ∃ (ρ : Nat → Value) (σ : St), a = fr 67 (updL ρ [(0, (Sl Cp o9 Cq)), (3, (.func (.func 88) #[] #[(pt Cs Ct), (pt Da Db)]))]) ∧ w = σ.w ∧ Hp S0 σ0 σ [Ch.own 0 0 (Sl Cp o9 Cq) o9, Ch.bx Cr Cs Ct [(I Cm)] Cu Cv, Ch.ro 0 (Sl Cw Cn Cy) Cn, Ch.bx Cz Da Db [(Sl Cw Cn Cy)] Dc Dd] ∧ o9.length = Cl.length) ?_ ?_
  ·clear h'
   rename _ = some o9 => h
   refine c_blk (wp_loopM _ h (fun s10 a w => ∃ (ρ : Nat → Value) (σ : St), a = fr 67 (updL ρ [(0, (Sl Cp s10.1 Cq)), (1, (I Av)), (3, (.func (.func 88) #[] #[(pt Cs Ct), (pt Da Db)])), (8, (I (w64 (Aw - Av)))), (9, (pt b2 0)), (10, (.int .u64 r5)), (11, (I s10.2.2))]) ∧ w = σ.w ∧ Hp S0 σ0 σ [Ch.bx n0 b2 0 [(.int .u64 s10.2.1)] [] [], Ch.own 0 0 (Sl Cp s10.1 Cq) s10.1, Ch.bx Cr Cs Ct [(I Cm)] Cu Cv, Ch.ro 0 (Sl Cw Cn Cy) Cn, Ch.bx Cz Da Db [(Sl Cw Cn Cy)] Dc Dd] ∧ s10.1.length = Cl.length) ⟨_, σ8, fr_join ⟨rfl, rfl, rfl, rfl, rfl, rfl, rfl, trivial⟩, rfl, H.sel' [0, 1, 2, 4, 3] rfl rfl, rfl⟩ ?_)
   clear h H
   rintro s10 a w o ⟨ρ, σ11, rfl, rfl, H, hn12⟩ h hres
   refine c_seq (c_seq (rg (st (v := (I s10.2.2)) (rv_move rfl) (st (v := (I Av)) (rv_move rfl) (st (v := (I (w64 (Aw - Av)))) (rv_move rfl) ?_)))))
   refine st (v := (I (w64 ((w64 (Aw - Av)).tdiv 4)))) (rv_quo (a := (w64 (Aw - Av))) (b := 4) rfl rfl (by decide)) ?_
   refine st (v := (I (w64 ((w64 ((w64 (Aw - Av)).tdiv 4)) * 2)))) (rv_mul (a := (w64 ((w64 (Aw - Av)).tdiv 4))) (b := 2) rfl rfl) (st (v := (I (w64 (Av + (w64 ((w64 ((w64 (Aw - Av)).tdiv 4)) * 2)))))) (rv_add (a := Av) (b := (w64 ((w64 ((w64 (Aw - Av)).tdiv 4)) * 2))) rfl rfl) (st (v := (I (w64 ((w64 (Av + (w64 ((w64 ((w64 (Aw - Av)).tdiv 4)) * 2)))) + 1)))) (rv_add (a := (w64 (Av + (w64 ((w64 ((w64 (Aw - Av)).tdiv 4)) * 2))))) (b := 1) rfl rfl) (st (v := (B (decide (s10.2.2 ≤ (w64 ((w64 (Av + (w64 ((w64 ((w64 (Aw - Av)).tdiv 4)) * 2)))) + 1)))))) (rv_leq (a := s10.2.2) (b := (w64 ((w64 (Av + (w64 ((w64 ((w64 (Aw - Av)).tdiv 4)) * 2)))) + 1))) rfl rfl) (w_end (q_then ?_)))))
   refine cd_cond (decide (s10.2.2 ≤ (w64 ((w64 (Av + (w64 ((w64 ((w64 (Aw - Av)).tdiv 4)) * 2)))) + 1)))) rfl (fun hb13 => ?_) (fun hb13 => ?_)
   ·replace h := bif_t hb13 h
    refine c_skip (q_then (c_seq (c_blk (c_seq (rg ?_)))))
    obtain ⟨r14, hx15, h'⟩ := bind_some h
    clear h
    have h := h'; clear h'
    have hc16 := c_slices_xorshift_Next (Bg := n0) (Bh := b2) (Bi := 0) (Bj := []) (Bk := []) hx15
    refine st_call (cx_call hc16 (ent_f hc16.fn rfl) hn0 (H.sel' [0, 1, 2, 3, 4] rfl rfl : Hp S0 σ0 _ ([_] ++ _))) wn ?_
    rintro _ σ17 ⟨_, ⟨rfl, rfl⟩, H, -⟩
    replace H : Hp _ _ _ [_, _, _, _, _] := H
    refine st (v := (.int .u64 r5)) (rv_move rfl) (st (v := (.int .u64 (wk .u64 (r5 - 1)))) (rvk_sub (k := .u64) (a := r5) (b := 1) rfl rfl) (st (v := (.int .u64 (gandk .u64 r14.1 (wk .u64 (r5 - 1))))) (rvk_and (k := .u64) (a := r14.1) (b := (wk .u64 (r5 - 1))) rfl rfl) (st (v := (I (wk .i64 (gandk .u64 r14.1 (wk .u64 (r5 - 1)))))) (rvk_conv (k := .u64) (k' := .i64) (a := (gandk .u64 r14.1 (wk .u64 (r5 - 1)))) Try.underlying132 Try.underlying3 rfl) (st (v := (I (wk .i64 (gandk .u64 r14.1 (wk .u64 (r5 - 1)))))) (rv_assign rfl) (w_end (q_then (c_seq (c_seq (rg (st (v := (I (wk .i64 (gandk .u64 r14.1 (wk .u64 (r5 - 1)))))) (rv_move rfl) (st (v := (I (w64 (Aw - Av)))) (rv_move rfl) ?_)))))))))))
    refine st (v := (B (decide ((w64 (Aw - Av)) ≤ (wk .i64 (gandk .u64 r14.1 (wk .u64 (r5 - 1)))))))) (rv_geq (a := (wk .i64 (gandk .u64 r14.1 (wk .u64 (r5 - 1))))) (b := (w64 (Aw - Av))) rfl rfl) (w_end (q_then ?_))
    obtain ⟨o18, hj, h'⟩ := bind_some h
    clear h
    refine c_cut (fun e a w => e = .normal ∧ ∃ (ρ : Nat → Value) (σ : St), a = fr 67 (updL ρ [(0, (Sl Cp s10.1 Cq)), (1, (I Av)), (3, (.func (.func 88) #[] #[(pt Cs Ct), (pt Da Db)])), (8, (I (w64 (Aw - Av)))), (9, (pt b2 0)), (10, (.int .u64 r5)), (11, (I s10.2.2)), (12, (I o18))]) ∧ w = σ.w ∧ Hp S0 σ0 σ [Ch.own 0 0 (Sl Cp s10.1 Cq) s10.1, Ch.bx Cr Cs Ct [(I Cm)] Cu Cv, Ch.ro 0 (Sl Cw Cn Cy) Cn, Ch.bx Cz Da Db [(Sl Cw Cn Cy)] Dc Dd, Ch.bx n0 b2 0 [(.int .u64 r14.2)] [] []]) ?_ ?_
    ·clear h'
     rename _ = some o18 => h
     refine cd_cond (decide ((w64 (Aw - Av)) ≤ (wk .i64 (gandk .u64 r14.1 (wk .u64 (r5 - 1)))))) rfl (fun hb19 => ?_) (fun hb19 => ?_)
     ·replace h := bif_t hb19 h
      refine rg (st (v := (I (wk .i64 (gandk .u64 r14.1 (wk .u64 (r5 - 1)))))) (rv_move rfl) (st (v := (I (w64 (Aw - Av)))) (rv_move rfl) (st (v := (I (w64 ((wk .i64 (gandk .u64 r14.1 (wk .u64 (r5 - 1)))) - (w64 (Aw - Av)))))) (rv_sub (a := (wk .i64 (gandk .u64 r14.1 (wk .u64 (r5 - 1))))) (b := (w64 (Aw - Av))) rfl rfl) (st (v := (I (w64 ((wk .i64 (gandk .u64 r14.1 (wk .u64 (r5 - 1)))) - (w64 (Aw - Av)))))) (rv_assign rfl) (w_end ?_)))))
      obtain rfl := Option.some.inj h
      exact ⟨rfl, _, σ17, fr_join ⟨rfl, rfl, rfl, rfl, rfl, rfl, rfl, rfl, trivial⟩, rfl, H.sel' [1, 2, 3, 4, 0] rfl rfl⟩
     ·replace h := bif_f hb19 h
      refine c_skip ?_
      obtain rfl := Option.some.inj h
      exact ⟨rfl, _, σ17, fr_join ⟨rfl, rfl, rfl, rfl, rfl, rfl, rfl, rfl, trivial⟩, rfl, H.sel' [1, 2, 3, 4, 0] rfl rfl⟩
    ·clear hj
     have h := h'
     clear h' H
     rintro e a w ⟨rfl, ρ, σ20, rfl, rfl, H⟩
     refine q_then ?_
     obtain ⟨x21, hx22, h'⟩ := bind_some h
     clear h
     have h := h'; clear h'
     obtain ⟨b24, o25, hi23, -⟩ := (H.own 0 rfl).ix hx22
     obtain ⟨_, ⟨_, _, rfl, rfl, ⟨_, _, rfl, ⟨_, rfl, hR30⟩, rfl⟩⟩, hl26, hc27⟩ := ((H.own 0 rfl).at hx22 hi23).cells
     obtain ⟨a28, c29, rfl⟩ := hR30.isSl
     replace H := H.add (d := Ch.ro 0 (Sl a28 x21.2.1 c29) x21.2.1) hR30 (fun _ h => h)
     clear hR30
     obtain ⟨x31, hx32, h'⟩ := bind_some h
     clear h
     have h := h'; clear h'
     obtain ⟨b34, o35, hi33, -⟩ := (H.own 1 rfl).ix hx32
     obtain ⟨_, ⟨_, _, rfl, rfl, ⟨_, _, rfl, ⟨_, rfl, hR40⟩, rfl⟩⟩, hl36, hc37⟩ := ((H.own 1 rfl).at hx32 hi33).cells
     obtain ⟨a38, c39, rfl⟩ := hR40.isSl
     replace H := H.add (d := Ch.ro 0 (Sl a38 x31.2.1 c39) x31.2.1) hR40 (fun _ h => h)
     clear hR40
     obtain ⟨x41, hx42, h'⟩ := bind_some h
     clear h
     have h := h'; clear h'
     obtain ⟨b44, o45, hi43, -⟩ := (H.own 2 rfl).ix hx42
     have Hs := H
     refine rg2 (σ := σ20) (Nm := Unit) 18 [17] [[false], [true]] [[(0, 0)], [(0, 0)], [(0, 0), (1, 1)], [(0, 0), (1, 1)], [(0, 0), (1, 1)], [(0, 0), (1, 1)], [(0, 0)], [(0, 0)], [(0, 0)], [(0, 0)], [(0, 0)], [(0, 0)], [(0, 0)], [(0, 0)], [(0, 0)], [(0, 0)], [(0, 0)], [(0, 1)]] 1 [fun _ => fun σm => Hp S0 σ0 σm [Ch.ro 0 (Sl a38 x31.2.1 c39) x31.2.1, Ch.ro 0 (Sl a28 x21.2.1 c29) x21.2.1, Ch.own 0 0 (Sl Cp s10.1 Cq) s10.1, Ch.bx Cr Cs Ct [(I Cm)] Cu Cv, Ch.ro 0 (Sl Cw Cn Cy) Cn, Ch.bx Cz Da Db [(Sl Cw Cn Cy)] Dc Dd, Ch.bx n0 b2 0 [(.int .u64 r14.2)] [] []] ∧ Md (cov []) σ20 σm, fun _ => fun σm => Hp S0 σ0 σm [Ch.own 0 0 (Sl Cp s10.1 Cq) (s10.1.set s10.2.2.toNat (x21.1, x21.2.1, x21.2.2)), Ch.ro 0 (Sl a38 x31.2.1 c39) x31.2.1, Ch.ro 0 (Sl a28 x21.2.1 c29) x21.2.1, Ch.bx Cr Cs Ct [(I Cm)] Cu Cv, Ch.ro 0 (Sl Cw Cn Cy) Cn, Ch.bx Cz Da Db [(Sl Cw Cn Cy)] Dc Dd, Ch.bx n0 b2 0 [(.int .u64 r14.2)] [] []] ∧ Md (fun i => (cov []) i ∨ (fun b => blk (Sl Cp s10.1 Cq) = some b) i) σ20 σm] [fun _ => (Sl Cp s10.1 Cq), fun _ => (I s10.2.2), fun _ => (Sl Cp s10.1 Cq), fun _ => (I Av), fun _ => (I o18), fun _ => (I (w64 (Av + o18))), fun _ => (Sl Cp s10.1 Cq), fun _ => (I Av), fun _ => (I o18), fun _ => (I (w64 (Av + o18))), fun _ => (pt b24 o25), fun _ => (.agg #[(I x21.1), (Sl a28 x21.2.1 c29), (I x21.2.2)]), fun _ => (Sl Cp s10.1 Cq), fun _ => (I s10.2.2), fun _ => (pt b34 o35), fun _ => (.agg #[(I x31.1), (Sl a38 x31.2.1 c39), (I x31.2.2)]), fun _ => (pt b44 o45), fun _ => undef] () (by kernel_rfl) (by kernel_rfl) ?_ ?_ ?_
     ·intro σm m0
      exact ⟨H.grow (m0.mono fun _ h => h.elim), m0⟩
     ·refine ac rfl (by
        intro k _nm ρ σm hJ hoff hdep
        have e0 := look_off (N := 67) (hoff 0 rfl) rfl
        exact dp_v (v := (Sl Cp s10.1 Cq)) wn (rv_move e0) rfl hJ) ?_
      refine ac rfl (by
        intro k _nm ρ σm hJ hoff hdep
        have e11 := look_off (N := 67) (hoff 11 rfl) rfl
        exact dp_v (v := (I s10.2.2)) wn (rv_move e11) rfl hJ) ?_
      refine ac rfl (by
        intro k _nm ρ σm hJ hoff hdep
        have e0 := look_off (N := 67) (hoff 0 rfl) rfl
        exact dp_v (v := (Sl Cp s10.1 Cq)) wn (rv_move e0) rfl hJ) ?_
      refine ac rfl (by
        intro k _nm ρ σm hJ hoff hdep
        have e1 := look_off (N := 67) (hoff 1 rfl) rfl
        exact dp_v (v := (I Av)) wn (rv_move e1) rfl hJ) ?_
      refine ac rfl (by
        intro k _nm ρ σm hJ hoff hdep
        have e12 := look_off (N := 67) (hoff 12 rfl) rfl
        exact dp_v (v := (I o18)) wn (rv_move e12) rfl hJ) ?_
      refine ac rfl (by
        intro k _nm ρ σm hJ hoff hdep
        have e52 := hdep 3 rfl rfl 52 rfl
        have e53 := hdep 4 rfl rfl 53 rfl
        exact dp_v (v := (I (w64 (Av + o18)))) wn (rv_add (a := Av) (b := o18) e52 e53) rfl hJ) ?_
      refine ac rfl (by
        intro k _nm ρ σm hJ hoff hdep
        have e0 := look_off (N := 67) (hoff 0 rfl) rfl
        exact dp_v (v := (Sl Cp s10.1 Cq)) wn (rv_move e0) rfl hJ) ?_
      refine ac rfl (by
        intro k _nm ρ σm hJ hoff hdep
        have e1 := look_off (N := 67) (hoff 1 rfl) rfl
        exact dp_v (v := (I Av)) wn (rv_move e1) rfl hJ) ?_
      refine ac rfl (by
        intro k _nm ρ σm hJ hoff hdep
        have e12 := look_off (N := 67) (hoff 12 rfl) rfl
        exact dp_v (v := (I o18)) wn (rv_move e12) rfl hJ) ?_
      refine ac rfl (by
        intro k _nm ρ σm hJ hoff hdep
        have e56 := hdep 7 rfl rfl 56 rfl
        have e57 := hdep 8 rfl rfl 57 rfl
        exact dp_v (v := (I (w64 (Av + o18)))) wn (rv_add (a := Av) (b := o18) e56 e57) rfl hJ) ?_
      refine ac rfl (by
        intro k _nm ρ σm hJ hoff hdep
        have e55 := hdep 6 rfl rfl 55 rfl
        have e58 := hdep 9 rfl rfl 58 rfl
        exact dp_v (v := (pt b24 o25)) wn (rv_ix Try.underlying23 ti34 e55 e58 hi23) rfl hJ) ?_
      refine all_cons (by
        refine ⟨?_, ?_⟩
        ·intro _nm ρ σm hJ hoff hdep
         have e59 := hdep 10 rfl rfl 59 rfl
         obtain ⟨H, m⟩ := id hJ
         replace hc27 := fun j hj => m.hcell (hc27 j hj) nocov
         exact dp_v (v := (.agg #[(I x21.1), (Sl a28 x21.2.1 c29), (I x21.2.2)])) wn (rv_load Try.underlying34 rfl ti34 e59 hl26 hc27) rfl hJ
        trivial) ?_
      refine ac rfl (by
        intro k _nm ρ σm hJ hoff hdep
        have e0 := look_off (N := 67) (hoff 0 rfl) rfl
        exact dp_v (v := (Sl Cp s10.1 Cq)) wn (rv_move e0) rfl hJ) ?_
      refine ac rfl (by
        intro k _nm ρ σm hJ hoff hdep
        have e11 := look_off (N := 67) (hoff 11 rfl) rfl
        exact dp_v (v := (I s10.2.2)) wn (rv_move e11) rfl hJ) ?_
      refine ac rfl (by
        intro k _nm ρ σm hJ hoff hdep
        have e61 := hdep 12 rfl rfl 61 rfl
        have e62 := hdep 13 rfl rfl 62 rfl
        exact dp_v (v := (pt b34 o35)) wn (rv_ix Try.underlying23 ti34 e61 e62 hi33) rfl hJ) ?_
      refine all_cons (by
        refine ⟨?_, ?_⟩
        ·intro _nm ρ σm hJ hoff hdep
         have e63 := hdep 14 rfl rfl 63 rfl
         obtain ⟨H, m⟩ := id hJ
         replace hc37 := fun j hj => m.hcell (hc37 j hj) nocov
         exact dp_v (v := (.agg #[(I x31.1), (Sl a38 x31.2.1 c39), (I x31.2.2)])) wn (rv_load Try.underlying34 rfl ti34 e63 hl36 hc37) rfl hJ
        trivial) ?_
      refine ac rfl (by
        intro k _nm ρ σm hJ hoff hdep
        have e49 := hdep 0 rfl rfl 49 rfl
        have e50 := hdep 1 rfl rfl 50 rfl
        exact dp_v (v := (pt b44 o45)) wn (rv_ix Try.underlying23 ti34 e49 e50 hi43) rfl hJ) ?_
      refine all_cons (by
        refine ⟨?_, ?_⟩
        ·intro _nm ρ σm hJ hoff hdep
         have e65 := hdep 16 rfl rfl 65 rfl
         have e60 := hdep 11 rfl rfl 60 rfl
         obtain ⟨H, m⟩ := id hJ
         refine dp_exS wn rfl (ex_store_own (e' := (x21.1, x21.2.1, x21.2.2)) (vs := [(I x21.1), (Sl a28 x21.2.1 c29), (I x21.2.2)]) (k := 0) H (i := 2) rfl ti34 hx42 hi43 e65 rfl e60 rfl rfl (Nat.le_of_ble_eq_true rfl) (by simp [plain]) (by rintro _ ⟨_, _, rfl, rfl, ⟨_, _, rfl, ⟨_, rfl, hR48⟩, rfl⟩⟩; exact ⟨[(I x21.1)], [(Sl a28 x21.2.1 c29), (I x21.2.2)], rfl, rfl, ⟨[(Sl a28 x21.2.1 c29)], [(I x21.2.2)], rfl, ⟨_, rfl, (H.ro 1 rfl)⟩, rfl⟩⟩)) ?_
         rintro σq ⟨H2, m2⟩
         exact ⟨_, (), rfl, ⟨H2.sel' [0, 1, 2, 3, 4, 5, 6] rfl rfl, m.comp m2⟩, stab [0, 1, 2, 3, 4, 5, 6, 7, 8, 9, 10, 11, 12, 13, 14, 15, 16] (by kernel_rfl) ⟨rfl, rfl, rfl, rfl, rfl, rfl, rfl, rfl, rfl, rfl, rfl, rfl, rfl, rfl, rfl, rfl, rfl, trivial⟩⟩
        trivial) ?_
      exact all_nil
     ·intro _nm ρ σ49 hJ hoff hrel
      have e0 := look_off (N := 67) (hoff 0 rfl) rfl
      have e1 := look_off (N := 67) (hoff 1 rfl) rfl
      have e3 := look_off (N := 67) (hoff 3 rfl) rfl
      have e8 := look_off (N := 67) (hoff 8 rfl) rfl
      have e9 := look_off (N := 67) (hoff 9 rfl) rfl
      have e10 := look_off (N := 67) (hoff 10 rfl) rfl
      have e11 := look_off (N := 67) (hoff 11 rfl) rfl
      have e51 := hrel 2 rfl 51 rfl
      have e54 := hrel 5 rfl 54 rfl
      have e64 := hrel 15 rfl 64 rfl
      obtain ⟨H, -⟩ := (show Hp S0 σ0 σ49 [Ch.own 0 0 (Sl Cp s10.1 Cq) (s10.1.set s10.2.2.toNat (x21.1, x21.2.1, x21.2.2)), Ch.ro 0 (Sl a38 x31.2.1 c39) x31.2.1, Ch.ro 0 (Sl a28 x21.2.1 c29) x21.2.1, Ch.bx Cr Cs Ct [(I Cm)] Cu Cv, Ch.ro 0 (Sl Cw Cn Cy) Cn, Ch.bx Cz Da Db [(Sl Cw Cn Cy)] Dc Dd, Ch.bx n0 b2 0 [(.int .u64 r14.2)] [] []] ∧ Md (fun i => (cov []) i ∨ (fun b => blk (Sl Cp s10.1 Cq) = some b) i) σ20 σ49 from hJ)
      clear hJ Hs
      rw [fr_lookL (L := [(0, (Sl Cp s10.1 Cq)), (1, (I Av)), (3, (.func (.func 88) #[] #[(pt Cs Ct), (pt Da Db)])), (8, (I (w64 (Aw - Av)))), (9, (pt b2 0)), (10, (.int .u64 r5)), (11, (I s10.2.2)), (51, (Sl Cp s10.1 Cq)), (54, (I (w64 (Av + o18)))), (64, (.agg #[(I x31.1), (Sl a38 x31.2.1 c39), (I x31.2.2)]))]) ⟨e0, e1, e3, e8, e9, e10, e11, e51, e54, e64, trivial⟩]
      clear hoff hrel e0 e1 e3 e8 e9 e10 e11 e51 e54 e64
      have hsl : (Sl Cp s10.1 Cq) = (Sl Cp (s10.1.set s10.2.2.toNat (x21.1, x21.2.1, x21.2.2)) Cq) := sl_len (by simp)
      rw [hsl]; rw [hsl] at H; clear hsl
      obtain ⟨x50, hx51, h'⟩ := bind_some h
      clear h
      have h := h'; clear h'
      obtain ⟨b53, o54, hi52, -⟩ := (H.own 0 rfl).ix hx51
      refine st (v := (pt b53 o54)) (rv_ix Try.underlying23 ti34 rfl rfl hi52) ?_
      refine st_exS (ex_store_own (e' := (x31.1, x31.2.1, x31.2.2)) (vs := [(I x31.1), (Sl a38 x31.2.1 c39), (I x31.2.2)]) (k := 0) H (i := 0) rfl ti34 hx51 hi52 rfl rfl rfl rfl rfl (Nat.le_of_ble_eq_true rfl) (by simp [plain]) (by rintro _ ⟨_, _, rfl, rfl, ⟨_, _, rfl, ⟨_, rfl, hR57⟩, rfl⟩⟩; exact ⟨[(I x31.1)], [(Sl a38 x31.2.1 c39), (I x31.2.2)], rfl, rfl, ⟨[(Sl a38 x31.2.1 c39)], [(I x31.2.2)], rfl, ⟨_, rfl, (H.ro 1 rfl)⟩, rfl⟩⟩)) wn ?_
      rintro σ58 ⟨H, -⟩
      have hsl : (Sl Cp (s10.1.set s10.2.2.toNat (x21.1, x21.2.1, x21.2.2)) Cq) = (Sl Cp ((s10.1.set s10.2.2.toNat (x21.1, x21.2.1, x21.2.2)).set (w64 (Av + o18)).toNat (x31.1, x31.2.1, x31.2.2)) Cq) := sl_len List.length_set.symm
      rw [hsl]; rw [hsl] at H; clear hsl
      refine w_end (q_blk (q_then (rg (st (v := (I s10.2.2)) (rv_move rfl) (st (v := (I (w64 (s10.2.2 + 1)))) (rv_add (a := s10.2.2) (b := 1) rfl rfl) (st (v := (I (w64 (s10.2.2 + 1)))) (rv_assign rfl) (w_end (q_then ?_))))))))
      obtain rfl := Option.some.inj h
      exact ⟨_, rfl, _, σ58, fr_join ⟨rfl, rfl, rfl, rfl, rfl, rfl, rfl, trivial⟩, rfl, H.sel' [6, 0, 3, 4, 5] rfl rfl, (List.length_set.trans (List.length_set.trans hn12))⟩
   ·replace h := bif_f hb13 h
    refine c_exit (q_then_x (q_then_x (q_blk_hit ?_)))
    obtain rfl := Option.some.inj h
    obtain rfl := hres _ rfl
    exact ⟨rfl, _, σ11, fr_join ⟨rfl, rfl, trivial⟩, rfl, H.sel' [1, 2, 3, 4] rfl rfl, hn12⟩
  ·clear hj
   have h := h'
   clear h' H
   rintro e a w ⟨rfl, ρ, σ59, rfl, rfl, H, hn60⟩
   obtain rfl := Option.some.inj h
   exact fin_end (v := (.tuple #[])) (results_ok Try.results114 res_nil rfl) ⟨rfl, rfl, hn60⟩ (H.sel' [0, 1, 3] rfl rfl)
 ·replace h := bif_f hb1 h
  refine c_skip ?_
  obtain rfl := Option.some.inj h
  exact fin_end (v := (.tuple #[])) (results_ok Try.results114 res_nil rfl) ⟨rfl, rfl, rfl⟩ (H.sel' [0, 1, 2] rfl rfl)

theorem c_slices_order2CmpFunc_impl_Item__impl_sortByDistance_1 {Cl : List (Int × (List Int) × Int)} {Av : Int} {Aw : Int} {Dy : Int} {Di : Int} {Dj : List Int} {Cp : Option Addr} {Cq : Nat} {Dz Ea Eb : Nat} {Ec Ed : List Value} {Dk Dm Dn : Nat} {Do Dq : List Value} {Dr : Option Addr} {Ds : Nat} {Dt Du Dv : Nat} {Dw Dx : List Value} {r : Int × Int × Int} (h : M.slices_order2CmpFunc_impl_Item__impl_sortByDistance_1 Cl Av Aw Dy Di Dj = some r) :
    Cal2 Try.prog 129 [(Sl Cp Cl Cq), (I Av), (I Aw), (pt Ea Eb), (.func (.func 88) #[] #[(pt Dm Dn), (pt Du Dv)])] [Ch.ro 0 (Sl Cp Cl Cq) Cl, Ch.bx Dz Ea Eb [(I Dy)] Ec Ed, Ch.bx Dk Dm Dn [(I Di)] Do Dq, Ch.bx Dt Du Dv [(Sl Dr Dj Ds)] Dw Dx, Ch.ro 0 (Sl Dr Dj Ds) Dj] (fun n0 v L => v = (.tuple #[(I r.1), (I r.2.1)]) ∧ L = [Ch.bx Dz Ea Eb [(I r.2.2)] Ec Ed, Ch.bx Dk Dm Dn [(I Di)] Do Dq, Ch.bx Dt Du Dv [(Sl Dr Dj Ds)] Dw Dx]) := by
 refine cal2 (n := 32) Try.func129 rfl rfl rfl rfl ?_
 intro S0 σ0 n0 hn0 H
 unfold M.slices_order2CmpFunc_impl_Item__impl_sortByDistance_1 at h
 refine c_seq (rg (st (v := (I 0)) (rv_assign rfl) (st (v := (I 0)) (rv_assign rfl) (w_end (q_then (c_seq (c_seq ?_)))))))
 refine rgP (σ := σ0) 9 (by kernel_rfl) (by kernel_rfl) (by kernel_rfl) ?_
 refine sq (v := (.func (.func 88) #[] #[(pt Dm Dn), (pt Du Dv)])) (rv_move rfl) (sq (v := (Sl Cp Cl Cq)) (rv_move rfl) (sq (v := (I Aw)) (rv_move rfl) ?_))
 obtain ⟨x1, hx2, h'⟩ := bind_some h
 clear h
 have h := h'; clear h'
 obtain ⟨b4, o5, hi3, -⟩ := (H.ro 0 rfl).ix hx2
 refine sq (v := (pt b4 o5)) (rv_ix Try.underlying23 ti34 rfl rfl hi3) ?_
 obtain ⟨_, ⟨_, _, rfl, rfl, ⟨_, _, rfl, ⟨_, rfl, hR10⟩, rfl⟩⟩, hl6, hc7⟩ := ((H.ro 0 rfl).at hx2 hi3).cells
 obtain ⟨a8, c9, rfl⟩ := hR10.isSl
 replace H := H.add (d := Ch.ro 0 (Sl a8 x1.2.1 c9) x1.2.1) hR10 (fun _ h => h)
 clear hR10
 refine sq (v := (.agg #[(I x1.1), (Sl a8 x1.2.1 c9), (I x1.2.2)])) (rv_load Try.underlying34 rfl ti34 rfl hl6 hc7) (sq (v := (Sl Cp Cl Cq)) (rv_move rfl) (sq (v := (I Av)) (rv_move rfl) ?_))
 obtain ⟨x11, hx12, h'⟩ := bind_some h
 clear h
 have h := h'; clear h'
 obtain ⟨b14, o15, hi13, -⟩ := (H.ro 1 rfl).ix hx12
 refine sq (v := (pt b14 o15)) (rv_ix Try.underlying23 ti34 rfl rfl hi13) ?_
 obtain ⟨_, ⟨_, _, rfl, rfl, ⟨_, _, rfl, ⟨_, rfl, hR20⟩, rfl⟩⟩, hl16, hc17⟩ := ((H.ro 1 rfl).at hx12 hi13).cells
 obtain ⟨a18, c19, rfl⟩ := hR20.isSl
 replace H := H.add (d := Ch.ro 0 (Sl a18 x11.2.1 c19) x11.2.1) hR20 (fun _ h => h)
 clear hR20
 refine sq (v := (.agg #[(I x11.1), (Sl a18 x11.2.1 c19), (I x11.2.2)])) (rv_load Try.underlying34 rfl ti34 rfl hl16 hc17) (sq_end ?_)
 intro σ21 hm22
 replace H := H.grow (hm22.mono fun _ h => h); clear hm22
 obtain ⟨r23, hx24, h'⟩ := bind_some h
 clear h
 have h := h'; clear h'
 have hc25 := c_impl_sortByDistance_1__p3__p24 (Ag := a8) (Ah := c9) (Bv := a18) (Bw := c19) (By := Dk) (Bz := Dm) (Ca := Dn) (Cb := Do) (Cc := Dq) (Cf := Dt) (Cg := Du) (Ci := Dv) (Cj := Dw) (Ck := Dx) (Cd := Dr) (Ce := Ds) hx24
 refine st_call (cx_call hc25 (ent_v (cap := [(pt Dm Dn), (pt Du Dv)]) hc25.fn rfl rfl) hn0 (H.sel' [1, 0, 4, 5, 6, 0, 1, 2, 3, 6] rfl rfl : Hp S0 σ0 _ ([_, _, _, _, _] ++ _))) wn ?_
 rintro _ σ26 ⟨_, ⟨rfl, rfl⟩, H, -⟩
 replace H : Hp _ _ _ [_, _, _, _, _, _, _] := H
 refine st (v := (B (decide (r23 < 0)))) (rv_lss (a := r23) (b := 0) rfl rfl) (w_end (q_then ?_))
 refine cd_cond (decide (r23 < 0)) rfl (fun hb27 => ?_) (fun hb27 => ?_)
 ·replace h := bif_t hb27 h
  refine c_seq (rg (st (v := (pt Ea Eb)) (rv_move rfl) (st (v := (pt Ea Eb)) (rv_nilCheck rfl) ?_)))
  have hc28 := H.cell (u := (I Dy)) (o' := Eb) 5 0 rfl rfl rfl
  refine st (v := (I Dy)) (rv_load1 Try.underlying3 rfl rfl hc28) (st (v := (I (w64 (Dy + 1)))) (rv_add (a := Dy) (b := 1) rfl rfl) (st (v := (pt Ea Eb)) (rv_nilCheck rfl) ?_))
  refine st_exS (ex_store_box (k := 0) (cs := [(I Dy)]) (vs := [(I (w64 (Dy + 1)))]) (cs' := [(I (w64 (Dy + 1)))]) H (i := 5) rfl ti3 rfl rfl rfl rfl rfl (Nat.le_of_ble_eq_true rfl) (by simp [plain]) rfl) wn ?_
  rintro σ29 ⟨H, -⟩
  refine w_end (q_then (c_seq (rg (st (v := (I Aw)) (rv_move rfl) (st (v := (I Av)) (rv_move rfl) (st (v := (I Aw)) (rv_assign rfl) (st (v := (I Av)) (rv_assign rfl) (w_end (q_then (c_ret (q_then_r ?_)))))))))))
  obtain rfl := Option.some.inj h
  exact fin_ret (v := (.tuple #[(I Aw), (I Av)])) (results_ok Try.results129 (res_tmp (v := (I Aw)) rfl (res_tmp (v := (I Av)) rfl res_nil)) rfl) ⟨rfl, rfl⟩ (H.sel' [0, 1, 2] rfl rfl)
 ·replace h := bif_f hb27 h
  refine c_skip (q_then (c_seq (rg (st (v := (I Av)) (rv_move rfl) (st (v := (I Aw)) (rv_move rfl) (st (v := (I Av)) (rv_assign rfl) (st (v := (I Aw)) (rv_assign rfl) (w_end (q_then (c_ret ?_))))))))))
  obtain rfl := Option.some.inj h
  exact fin_ret (v := (.tuple #[(I Av), (I Aw)])) (results_ok Try.results129 (res_tmp (v := (I Av)) rfl (res_tmp (v := (I Aw)) rfl res_nil)) rfl) ⟨rfl, rfl⟩ (H.sel' [5, 0, 1] rfl rfl)

theorem c_slices_medianCmpFunc_impl_Item__impl_sortByDistance_1 {Cl : List (Int × (List Int) × Int)} {Av : Int} {Aw : Int} {Ee : Int} {Ef : Int} {Eg : Int} {Eh : List Int} {Cp : Option Addr} {Cq : Nat} {Ei Ej Ek : Nat} {El Em : List Value} {En Eo Ep : Nat} {Er Es : List Value} {Et : Option Addr} {Eu : Nat} {Ev Ew Ey : Nat} {Ez Fa : List Value} {r : Int × Int} (h : M.slices_medianCmpFunc_impl_Item__impl_sortByDistance_1 Cl Av Aw Ee Ef Eg Eh = some r) :
    Cal2 Try.prog 128 [(Sl Cp Cl Cq), (I Av), (I Aw), (I Ee), (pt Ej Ek), (.func (.func 88) #[] #[(pt Eo Ep), (pt Ew Ey)])] [Ch.ro 0 (Sl Cp Cl Cq) Cl, Ch.bx Ei Ej Ek [(I Ef)] El Em, Ch.bx En Eo Ep [(I Eg)] Er Es, Ch.bx Ev Ew Ey [(Sl Et Eh Eu)] Ez Fa, Ch.ro 0 (Sl Et Eh Eu) Eh] (fun n0 v L => v = (I r.1) ∧ L = [Ch.bx Ei Ej Ek [(I r.2)] El Em, Ch.bx En Eo Ep [(I Eg)] Er Es, Ch.bx Ev Ew Ey [(Sl Et Eh Eu)] Ez Fa]) := by
 refine cal2 (n := 41) Try.func128 rfl rfl rfl rfl ?_
 intro S0 σ0 n0 hn0 H
 unfold M.slices_medianCmpFunc_impl_Item__impl_sortByDistance_1 at h
 refine c_seq (rg (st (v := (I 0)) (rv_assign rfl) (w_end (q_then (c_seq (rg (st (v := (Sl Cp Cl Cq)) (rv_move rfl) (st (v := (I Av)) (rv_move rfl) (st (v := (I Aw)) (rv_move rfl) (st (v := (pt Ej Ek)) (rv_move rfl) (st (v := (.func (.func 88) #[] #[(pt Eo Ep), (pt Ew Ey)])) (rv_move rfl) ?_)))))))))))
 obtain ⟨r1, hx2, h'⟩ := bind_some h
 clear h
 have h := h'; clear h'
 have hc3 := c_slices_order2CmpFunc_impl_Item__impl_sortByDistance_1 (Cp := Cp) (Cq := Cq) (Dz := Ei) (Ea := Ej) (Eb := Ek) (Ec := El) (Ed := Em) (Dk := En) (Dm := Eo) (Dn := Ep) (Do := Er) (Dq := Es) (Dt := Ev) (Du := Ew) (Dv := Ey) (Dw := Ez) (Dx := Fa) (Dr := Et) (Ds := Eu) hx2
 refine st_call (cx_call hc3 (ent_f hc3.fn rfl) hn0 (H.sel' [0, 1, 2, 3, 4, 0, 4] rfl rfl : Hp S0 σ0 _ ([_, _, _, _, _] ++ _))) wn ?_
 rintro _ σ4 ⟨_, ⟨rfl, rfl⟩, H, -⟩
 replace H : Hp _ _ _ [_, _, _, _, _] := H
 refine st (v := (.tuple #[(I r1.1), (I r1.2.1)])) (rv_move rfl) (st (v := (I r1.1)) (rv_extract rfl rfl) (st (v := (I r1.2.1)) (rv_extract rfl rfl) (st (v := (I r1.1)) (rv_assign rfl) (st (v := (I r1.2.1)) (rv_assign rfl) (w_end (q_then (c_seq (rg (st (v := (Sl Cp Cl Cq)) (rv_move rfl) (st (v := (I r1.2.1)) (rv_move rfl) (st (v := (I Ee)) (rv_move rfl) ?_)))))))))))
 refine st (v := (pt Ej Ek)) (rv_move rfl) (st (v := (.func (.func 88) #[] #[(pt Eo Ep), (pt Ew Ey)])) (rv_move rfl) ?_)
 obtain ⟨r5, hx6, h'⟩ := bind_some h
 clear h
 have h := h'; clear h'
 have hc7 := c_slices_order2CmpFunc_impl_Item__impl_sortByDistance_1 (Cp := Cp) (Cq := Cq) (Dz := Ei) (Ea := Ej) (Eb := Ek) (Ec := El) (Ed := Em) (Dk := En) (Dm := Eo) (Dn := Ep) (Do := Er) (Dq := Es) (Dt := Ev) (Du := Ew) (Dv := Ey) (Dw := Ez) (Dx := Fa) (Dr := Et) (Ds := Eu) hx6
 refine st_call (cx_call hc7 (ent_f hc7.fn rfl) hn0 (H.sel' [3, 0, 1, 2, 4, 3, 4] rfl rfl : Hp S0 σ0 _ ([_, _, _, _, _] ++ _))) wn ?_
 rintro _ σ8 ⟨_, ⟨rfl, rfl⟩, H, -⟩
 replace H : Hp _ _ _ [_, _, _, _, _] := H
 refine st (v := (.tuple #[(I r5.1), (I r5.2.1)])) (rv_move rfl) (st (v := (I r5.1)) (rv_extract rfl rfl) (st (v := (I r5.2.1)) (rv_extract rfl rfl) (st (v := (I r5.1)) (rv_assign rfl) (st (v := (I r5.2.1)) (rv_assign rfl) (w_end (q_then (c_seq (rg (st (v := (Sl Cp Cl Cq)) (rv_move rfl) (st (v := (I r1.1)) (rv_move rfl) (st (v := (I r5.1)) (rv_move rfl) ?_)))))))))))
 refine st (v := (pt Ej Ek)) (rv_move rfl) (st (v := (.func (.func 88) #[] #[(pt Eo Ep), (pt Ew Ey)])) (rv_move rfl) ?_)
 obtain ⟨r9, hx10, h'⟩ := bind_some h
 clear h
 have h := h'; clear h'
 have hc11 := c_slices_order2CmpFunc_impl_Item__impl_sortByDistance_1 (Cp := Cp) (Cq := Cq) (Dz := Ei) (Ea := Ej) (Eb := Ek) (Ec := El) (Ed := Em) (Dk := En) (Dm := Eo) (Dn := Ep) (Do := Er) (Dq := Es) (Dt := Ev) (Du := Ew) (Dv := Ey) (Dw := Ez) (Dx := Fa) (Dr := Et) (Ds := Eu) hx10
 refine st_call (cx_call hc11 (ent_f hc11.fn rfl) hn0 (H.sel' [3, 0, 1, 2, 4, 3, 4] rfl rfl : Hp S0 σ0 _ ([_, _, _, _, _] ++ _))) wn ?_
 rintro _ σ12 ⟨_, ⟨rfl, rfl⟩, H, -⟩
 replace H : Hp _ _ _ [_, _, _, _, _] := H
 refine st (v := (.tuple #[(I r9.1), (I r9.2.1)])) (rv_move rfl) (st (v := (I r9.1)) (rv_extract rfl rfl) (st (v := (I r9.2.1)) (rv_extract rfl rfl) (st (v := (I r9.1)) (rv_assign rfl) (st (v := (I r9.2.1)) (rv_assign rfl) (w_end (q_then (c_seq (rg (st (v := (I r9.2.1)) (rv_move rfl) (st (v := (I r9.2.1)) (rv_assign rfl) (w_end ?_)))))))))))
 refine q_then (c_ret ?_)
 obtain rfl := Option.some.inj h
 exact fin_ret (v := (I r9.2.1)) (results_ok Try.results128 (res_tmp (v := (I r9.2.1)) rfl res_nil) rfl) ⟨rfl, rfl⟩ (H.sel' [0, 1, 2] rfl rfl)

theorem c_slices_medianAdjacentCmpFunc_impl_Item__impl_sortByDistance_1 {Cl : List (Int × (List Int) × Int)} {Av : Int} {Fb : Int} {Cm : Int} {Cn : List Int} {Cp : Option Addr} {Cq : Nat} {Fc Fd Fe : Nat} {Ff Fg : List Value} {Cr Cs Ct : Nat} {Cu Cv : List Value} {Cw : Option Addr} {Cy : Nat} {Cz Da Db : Nat} {Dc Dd : List Value} {r : Int × Int} (h : M.slices_medianAdjacentCmpFunc_impl_Item__impl_sortByDistance_1 Cl Av Fb Cm Cn = some r) :
    Cal2 Try.prog 127 [(Sl Cp Cl Cq), (I Av), (pt Fd Fe), (.func (.func 88) #[] #[(pt Cs Ct), (pt Da Db)])] [Ch.ro 0 (Sl Cp Cl Cq) Cl, Ch.bx Fc Fd Fe [(I Fb)] Ff Fg, Ch.bx Cr Cs Ct [(I Cm)] Cu Cv, Ch.bx Cz Da Db [(Sl Cw Cn Cy)] Dc Dd, Ch.ro 0 (Sl Cw Cn Cy) Cn] (fun n0 v L => v = (I r.1) ∧ L = [Ch.bx Fc Fd Fe [(I r.2)] Ff Fg, Ch.bx Cr Cs Ct [(I Cm)] Cu Cv, Ch.bx Cz Da Db [(Sl Cw Cn Cy)] Dc Dd]) := by
 refine cal2 (n := 18) Try.func127 rfl rfl rfl rfl ?_
 intro S0 σ0 n0 hn0 H
 unfold M.slices_medianAdjacentCmpFunc_impl_Item__impl_sortByDistance_1 at h
 refine c_seq (rg (st (v := (I 0)) (rv_assign rfl) (w_end (q_then (c_seq (rg (st (v := (Sl Cp Cl Cq)) (rv_move rfl) (st (v := (I Av)) (rv_move rfl) (st (v := (I (w64 (Av - 1)))) (rv_sub (a := Av) (b := 1) rfl rfl) (st (v := (I Av)) (rv_move rfl) (st (v := (I Av)) (rv_move rfl) ?_)))))))))))
 refine st (v := (I (w64 (Av + 1)))) (rv_add (a := Av) (b := 1) rfl rfl) (st (v := (pt Fd Fe)) (rv_move rfl) (st (v := (.func (.func 88) #[] #[(pt Cs Ct), (pt Da Db)])) (rv_move rfl) ?_))
 obtain ⟨r1, hx2, h'⟩ := bind_some h
 clear h
 have h := h'; clear h'
 have hc3 := c_slices_medianCmpFunc_impl_Item__impl_sortByDistance_1 (Cp := Cp) (Cq := Cq) (Ei := Fc) (Ej := Fd) (Ek := Fe) (El := Ff) (Em := Fg) (En := Cr) (Eo := Cs) (Ep := Ct) (Er := Cu) (Es := Cv) (Ev := Cz) (Ew := Da) (Ey := Db) (Ez := Dc) (Fa := Dd) (Et := Cw) (Eu := Cy) hx2
 refine st_call (cx_call hc3 (ent_f hc3.fn rfl) hn0 (H.sel' [0, 1, 2, 3, 4, 0, 4] rfl rfl : Hp S0 σ0 _ ([_, _, _, _, _] ++ _))) wn ?_
 rintro _ σ4 ⟨_, ⟨rfl, rfl⟩, H, -⟩
 replace H : Hp _ _ _ [_, _, _, _, _] := H
 refine st (v := (I r1.1)) (rv_assign rfl) (w_end (q_then (c_ret ?_)))
 obtain rfl := Option.some.inj h
 exact fin_ret (v := (I r1.1)) (results_ok Try.results127 (res_tmp (v := (I r1.1)) rfl res_nil) rfl) ⟨rfl, rfl⟩ (H.sel' [0, 1, 2] rfl rfl)

theorem c_slices_choosePivotCmpFunc_impl_Item__impl_sortByDistance_1 {Cl : List (Int × (List Int) × Int)} {Av : Int} {Aw : Int} {Cm : Int} {Cn : List Int} {Cp : Option Addr} {Cq : Nat} {Cr Cs Ct : Nat} {Cu Cv : List Value} {Cw : Option Addr} {Cy : Nat} {Cz Da Db : Nat} {Dc Dd : List Value} {r : Int × Int} (h : M.slices_choosePivotCmpFunc_impl_Item__impl_sortByDistance_1 Cl Av Aw Cm Cn = some r) :
    Cal2 Try.prog 115 [(Sl Cp Cl Cq), (I Av), (I Aw), (.func (.func 88) #[] #[(pt Cs Ct), (pt Da Db)])] [Ch.ro 0 (Sl Cp Cl Cq) Cl, Ch.bx Cr Cs Ct [(I Cm)] Cu Cv, Ch.bx Cz Da Db [(Sl Cw Cn Cy)] Dc Dd, Ch.ro 0 (Sl Cw Cn Cy) Cn] (fun n0 v L => v = (.tuple #[(I r.1), (I r.2)]) ∧ L = [Ch.bx Cr Cs Ct [(I Cm)] Cu Cv, Ch.bx Cz Da Db [(Sl Cw Cn Cy)] Dc Dd]) := by
 refine cal2 (n := 63) Try.func115 rfl rfl rfl rfl ?_
 intro S0 σ0 n0 hn0 H
 unfold M.slices_choosePivotCmpFunc_impl_Item__impl_sortByDistance_1 at h
 refine c_seq (rg (st (v := (I 0)) (rv_assign rfl) (st (v := (I 0)) (rv_assign rfl) (w_end (q_then (c_seq (rg (st (v := (I Aw)) (rv_move rfl) (st (v := (I Av)) (rv_move rfl) (st (v := (I (w64 (Aw - Av)))) (rv_sub (a := Aw) (b := Av) rfl rfl) (st (v := (I (w64 (Aw - Av)))) (rv_assign rfl) ?_)))))))))))
 refine w_end (q_then (c_seq (rg (st_ex (ex_alloc (cs := [(I 0)]) H hn0 ti3 rfl) wn ?_))))
 rintro _ σ2 ⟨b1, rfl, H, -⟩
 refine w_end (q_then (c_seq (rg (st (v := (I Av)) (rv_move rfl) (st (v := (I (w64 (Aw - Av)))) (rv_move rfl) ?_)))))
 refine st (v := (I (w64 ((w64 (Aw - Av)).tdiv 4)))) (rv_quo (a := (w64 (Aw - Av))) (b := 4) rfl rfl (by decide)) ?_
 refine st (v := (I (w64 ((w64 ((w64 (Aw - Av)).tdiv 4)) * 1)))) (rv_mul (a := (w64 ((w64 (Aw - Av)).tdiv 4))) (b := 1) rfl rfl) (st (v := (I (w64 (Av + (w64 ((w64 ((w64 (Aw - Av)).tdiv 4)) * 1)))))) (rv_add (a := Av) (b := (w64 ((w64 ((w64 (Aw - Av)).tdiv 4)) * 1))) rfl rfl) (st (v := (I (w64 (Av + (w64 ((w64 ((w64 (Aw - Av)).tdiv 4)) * 1)))))) (rv_assign rfl) (w_end (q_then (c_seq (rg (st (v := (I Av)) (rv_move rfl) (st (v := (I (w64 (Aw - Av)))) (rv_move rfl) ?_))))))))
 refine st (v := (I (w64 ((w64 (Aw - Av)).tdiv 4)))) (rv_quo (a := (w64 (Aw - Av))) (b := 4) rfl rfl (by decide)) ?_
 refine st (v := (I (w64 ((w64 ((w64 (Aw - Av)).tdiv 4)) * 2)))) (rv_mul (a := (w64 ((w64 (Aw - Av)).tdiv 4))) (b := 2) rfl rfl) (st (v := (I (w64 (Av + (w64 ((w64 ((w64 (Aw - Av)).tdiv 4)) * 2)))))) (rv_add (a := Av) (b := (w64 ((w64 ((w64 (Aw - Av)).tdiv 4)) * 2))) rfl rfl) (st (v := (I (w64 (Av + (w64 ((w64 ((w64 (Aw - Av)).tdiv 4)) * 2)))))) (rv_assign rfl) (w_end (q_then (c_seq (rg (st (v := (I Av)) (rv_move rfl) (st (v := (I (w64 (Aw - Av)))) (rv_move rfl) ?_))))))))
 refine st (v := (I (w64 ((w64 (Aw - Av)).tdiv 4)))) (rv_quo (a := (w64 (Aw - Av))) (b := 4) rfl rfl (by decide)) ?_
 refine st (v := (I (w64 ((w64 ((w64 (Aw - Av)).tdiv 4)) * 3)))) (rv_mul (a := (w64 ((w64 (Aw - Av)).tdiv 4))) (b := 3) rfl rfl) (st (v := (I (w64 (Av + (w64 ((w64 ((w64 (Aw - Av)).tdiv 4)) * 3)))))) (rv_add (a := Av) (b := (w64 ((w64 ((w64 (Aw - Av)).tdiv 4)) * 3))) rfl rfl) (st (v := (I (w64 (Av + (w64 ((w64 ((w64 (Aw - Av)).tdiv 4)) * 3)))))) (rv_assign rfl) (w_end (q_then (c_seq (c_seq (rg (st (v := (I (w64 (Aw - Av)))) (rv_move rfl) (st (v := (B (decide (8 ≤ (w64 (Aw - Av)))))) (rv_geq (a := (w64 (Aw - Av))) (b := 8) rfl rfl) (w_end (q_then ?_)))))))))))
 obtain ⟨o3, hj, h'⟩ := bind_some h
 clear h
 refine c_cut (fun e a w => e = .normal ∧ ∃ (ρ : Nat → Value) (σ : St), a = fr 63 (updL ρ [(3, (.func (.func 88) #[] #[(pt Cs Ct), (pt Da Db)])), (11, (pt b1 0)), (13, (I o3.2))]) ∧ w = σ.w ∧ Hp S0 σ0 σ [Ch.bx n0 b1 0 [(I o3.1)] [] [], Ch.bx Cr Cs Ct [(I Cm)] Cu Cv, Ch.ro 0 (Sl Cw Cn Cy) Cn, Ch.bx Cz Da Db [(Sl Cw Cn Cy)] Dc Dd]) ?_ ?_
 ·clear h'
  rename _ = some o3 => h
  refine cd_cond (decide (8 ≤ (w64 (Aw - Av)))) rfl (fun hb4 => ?_) (fun hb4 => ?_)
  ·replace h := bif_t hb4 h
   refine c_seq (c_seq (rg (st (v := (I (w64 (Aw - Av)))) (rv_move rfl) (st (v := (B (decide (50 ≤ (w64 (Aw - Av)))))) (rv_geq (a := (w64 (Aw - Av))) (b := 50) rfl rfl) (w_end (q_then ?_))))))
   obtain ⟨o5, hj, h'⟩ := bind_some h
   clear h
   refine c_cut (fun e a w => e = .normal ∧ ∃ (ρ : Nat → Value) (σ : St), a = fr 63 (updL ρ [(0, (Sl Cp Cl Cq)), (3, (.func (.func 88) #[] #[(pt Cs Ct), (pt Da Db)])), (11, (pt b1 0)), (12, (I o5.2.1)), (13, (I o5.2.2.1)), (14, (I o5.2.2.2))]) ∧ w = σ.w ∧ Hp S0 σ0 σ [Ch.bx n0 b1 0 [(I o5.1)] [] [], Ch.ro 0 (Sl Cp Cl Cq) Cl, Ch.bx Cr Cs Ct [(I Cm)] Cu Cv, Ch.ro 0 (Sl Cw Cn Cy) Cn, Ch.bx Cz Da Db [(Sl Cw Cn Cy)] Dc Dd]) ?_ ?_
   ·clear h'
    rename _ = some o5 => h
    refine cd_cond (decide (50 ≤ (w64 (Aw - Av)))) rfl (fun hb6 => ?_) (fun hb6 => ?_)
    ·replace h := bif_t hb6 h
     refine c_seq (rg (st (v := (Sl Cp Cl Cq)) (rv_move rfl) (st (v := (I (w64 (Av + (w64 ((w64 ((w64 (Aw - Av)).tdiv 4)) * 1)))))) (rv_move rfl) (st (v := (.func (.func 88) #[] #[(pt Cs Ct), (pt Da Db)])) (rv_move rfl) ?_))))
     obtain ⟨r7, hx8, h'⟩ := bind_some h
     clear h
     have h := h'; clear h'
     have hc9 := c_slices_medianAdjacentCmpFunc_impl_Item__impl_sortByDistance_1 (Cp := Cp) (Cq := Cq) (Fc := n0) (Fd := b1) (Fe := 0) (Ff := []) (Fg := []) (Cr := Cr) (Cs := Cs) (Ct := Ct) (Cu := Cu) (Cv := Cv) (Cz := Cz) (Da := Da) (Db := Db) (Dc := Dc) (Dd := Dd) (Cw := Cw) (Cy := Cy) hx8
     refine st_call (cx_call hc9 (ent_f hc9.fn rfl) hn0 (H.sel' [1, 0, 2, 3, 4, 1, 4] rfl rfl : Hp S0 σ0 _ ([_, _, _, _, _] ++ _))) wn ?_
     rintro _ σ10 ⟨_, ⟨rfl, rfl⟩, H, -⟩
     replace H : Hp _ _ _ [_, _, _, _, _] := H
     refine st (v := (I r7.1)) (rv_assign rfl) (w_end (q_then (c_seq (rg (st (v := (Sl Cp Cl Cq)) (rv_move rfl) (st (v := (I (w64 (Av + (w64 ((w64 ((w64 (Aw - Av)).tdiv 4)) * 2)))))) (rv_move rfl) (st (v := (.func (.func 88) #[] #[(pt Cs Ct), (pt Da Db)])) (rv_move rfl) ?_)))))))
     obtain ⟨r11, hx12, h'⟩ := bind_some h
     clear h
     have h := h'; clear h'
     have hc13 := c_slices_medianAdjacentCmpFunc_impl_Item__impl_sortByDistance_1 (Cp := Cp) (Cq := Cq) (Fc := n0) (Fd := b1) (Fe := 0) (Ff := []) (Fg := []) (Cr := Cr) (Cs := Cs) (Ct := Ct) (Cu := Cu) (Cv := Cv) (Cz := Cz) (Da := Da) (Db := Db) (Dc := Dc) (Dd := Dd) (Cw := Cw) (Cy := Cy) hx12
     refine st_call (cx_call hc13 (ent_f hc13.fn rfl) hn0 (H.sel' [3, 0, 1, 2, 4, 3, 4] rfl rfl : Hp S0 σ0 _ ([_, _, _, _, _] ++ _))) wn ?_
     rintro _ σ14 ⟨_, ⟨rfl, rfl⟩, H, -⟩
     replace H : Hp _ _ _ [_, _, _, _, _] := H
     refine st (v := (I r11.1)) (rv_assign rfl) (w_end (q_then (rg (st (v := (Sl Cp Cl Cq)) (rv_move rfl) (st (v := (I (w64 (Av + (w64 ((w64 ((w64 (Aw - Av)).tdiv 4)) * 3)))))) (rv_move rfl) (st (v := (.func (.func 88) #[] #[(pt Cs Ct), (pt Da Db)])) (rv_move rfl) ?_))))))
     obtain ⟨r15, hx16, h'⟩ := bind_some h
     clear h
     have h := h'; clear h'
     have hc17 := c_slices_medianAdjacentCmpFunc_impl_Item__impl_sortByDistance_1 (Cp := Cp) (Cq := Cq) (Fc := n0) (Fd := b1) (Fe := 0) (Ff := []) (Fg := []) (Cr := Cr) (Cs := Cs) (Ct := Ct) (Cu := Cu) (Cv := Cv) (Cz := Cz) (Da := Da) (Db := Db) (Dc := Dc) (Dd := Dd) (Cw := Cw) (Cy := Cy) hx16
     refine st_call (cx_call hc17 (ent_f hc17.fn rfl) hn0 (H.sel' [3, 0, 1, 2, 4, 3, 4] rfl rfl : Hp S0 σ0 _ ([_, _, _, _, _] ++ _))) wn ?_
     rintro _ σ18 ⟨_, ⟨rfl, rfl⟩, H, -⟩
     replace H : Hp _ _ _ [_, _, _, _, _] := H
     refine st (v := (I r15.1)) (rv_assign rfl) (w_end ?_)
     obtain rfl := Option.some.inj h
     exact ⟨rfl, _, σ18, fr_join ⟨rfl, rfl, rfl, rfl, rfl, rfl, trivial⟩, rfl, H.sel' [0, 3, 1, 4, 2] rfl rfl⟩
    ·replace h := bif_f hb6 h
     refine c_skip ?_
     obtain rfl := Option.some.inj h
     exact ⟨rfl, _, σ2, fr_join ⟨rfl, rfl, rfl, rfl, rfl, rfl, trivial⟩, rfl, H.sel' [0, 1, 2, 4, 3] rfl rfl⟩
   ·clear hj
    have h := h'
    clear h' H
    rintro e a w ⟨rfl, ρ, σ19, rfl, rfl, H⟩
    refine q_then (rg (st (v := (Sl Cp Cl Cq)) (rv_move rfl) (st (v := (I o5.2.1)) (rv_move rfl) (st (v := (I o5.2.2.1)) (rv_move rfl) (st (v := (I o5.2.2.2)) (rv_move rfl) (st (v := (.func (.func 88) #[] #[(pt Cs Ct), (pt Da Db)])) (rv_move rfl) ?_))))))
    obtain ⟨r20, hx21, h'⟩ := bind_some h
    clear h
    have h := h'; clear h'
    have hc22 := c_slices_medianCmpFunc_impl_Item__impl_sortByDistance_1 (Cp := Cp) (Cq := Cq) (Ei := n0) (Ej := b1) (Ek := 0) (El := []) (Em := []) (En := Cr) (Eo := Cs) (Ep := Ct) (Er := Cu) (Es := Cv) (Ev := Cz) (Ew := Da) (Ey := Db) (Ez := Dc) (Fa := Dd) (Et := Cw) (Eu := Cy) hx21
    refine st_call (cx_call hc22 (ent_f hc22.fn rfl) hn0 (H.sel' [1, 0, 2, 4, 3, 1, 3] rfl rfl : Hp S0 σ0 _ ([_, _, _, _, _] ++ _))) wn ?_
    rintro _ σ23 ⟨_, ⟨rfl, rfl⟩, H, -⟩
    replace H : Hp _ _ _ [_, _, _, _, _] := H
    refine st (v := (I r20.1)) (rv_assign rfl) (w_end ?_)
    obtain rfl := Option.some.inj h
    exact ⟨rfl, _, σ23, fr_join ⟨rfl, rfl, rfl, trivial⟩, rfl, H.sel' [0, 1, 4, 2] rfl rfl⟩
  ·replace h := bif_f hb4 h
   refine c_skip ?_
   obtain rfl := Option.some.inj h
   exact ⟨rfl, _, σ2, fr_join ⟨rfl, rfl, rfl, trivial⟩, rfl, H.sel' [0, 2, 4, 3] rfl rfl⟩
 ·clear hj
  have h := h'
  clear h' H
  rintro e a w ⟨rfl, ρ, σ24, rfl, rfl, H⟩
  refine q_then (c_seq (rg ?_))
  have hc25 := H.cell (u := (I o3.1)) (o' := 0) 0 0 rfl rfl rfl
  refine st (v := (I o3.1)) (rv_load1 Try.underlying3 rfl rfl hc25) (w_end (q_then (c_blk (c_seq (rg (st (v := (B (o3.1 == 0))) (rv_eql (a := o3.1) (b := 0) rfl rfl) (st (v := (B (o3.1 == 0))) (rv_assign rfl) (w_end (q_then ?_)))))))))
  refine cd_cond (o3.1 == 0) rfl (fun hb26 => ?_) (fun hb26 => ?_)
  ·replace h := bif_t hb26 h
   refine c_seq (rg (st (v := (I o3.2)) (rv_move rfl) (st (v := (I o3.2)) (rv_assign rfl) (st (v := (I 1)) (rv_assign rfl) (w_end (q_then (c_ret (q_blk_r ?_))))))))
   obtain rfl := Option.some.inj h
   exact fin_ret (v := (.tuple #[(I o3.2), (I 1)])) (results_ok Try.results115 (res_tmp (v := (I o3.2)) rfl (res_tmp (v := (I 1)) rfl res_nil)) rfl) ⟨rfl, rfl⟩ (H.sel' [1, 3] rfl rfl)
  ·replace h := bif_f hb26 h
   refine c_seq (rg (st (v := (B (o3.1 == 12))) (rv_eql (a := o3.1) (b := 12) rfl rfl) (st (v := (B (o3.1 == 12))) (rv_assign rfl) (w_end (q_then ?_)))))
   refine cd_cond (o3.1 == 12) rfl (fun hb27 => ?_) (fun hb27 => ?_)
   ·replace h := bif_t hb27 h
    refine c_seq (rg (st (v := (I o3.2)) (rv_move rfl) (st (v := (I o3.2)) (rv_assign rfl) (st (v := (I 2)) (rv_assign rfl) (w_end (q_then (c_ret (q_blk_r ?_))))))))
    obtain rfl := Option.some.inj h
    exact fin_ret (v := (.tuple #[(I o3.2), (I 2)])) (results_ok Try.results115 (res_tmp (v := (I o3.2)) rfl (res_tmp (v := (I 2)) rfl res_nil)) rfl) ⟨rfl, rfl⟩ (H.sel' [1, 3] rfl rfl)
   ·replace h := bif_f hb27 h
    refine c_seq (rg (st (v := (I o3.2)) (rv_move rfl) (st (v := (I o3.2)) (rv_assign rfl) (st (v := (I 0)) (rv_assign rfl) (w_end (q_then (c_ret (q_blk_r ?_))))))))
    obtain rfl := Option.some.inj h
    exact fin_ret (v := (.tuple #[(I o3.2), (I 0)])) (results_ok Try.results115 (res_tmp (v := (I o3.2)) rfl (res_tmp (v := (I 0)) rfl res_nil)) rfl) ⟨rfl, rfl⟩ (H.sel' [1, 3] rfl rfl)

theorem c_slices_reverseRangeCmpFunc_impl_Item__impl_sortByDistance_1 {Cl : List (Int × (List Int) × Int)} {Av : Int} {Aw : Int} {Cm : Int} {Cn : List Int} {Cp : Option Addr} {Cq : Nat} {Cr Cs Ct : Nat} {Cu Cv : List Value} {Cw : Option Addr} {Cy : Nat} {Cz Da Db : Nat} {Dc Dd : List Value} {r : (List (Int × (List Int) × Int))} (h : M.slices_reverseRangeCmpFunc_impl_Item__impl_sortByDistance_1 Cl Av Aw Cm Cn = some r) :
    Cal2 Try.prog 116 [(Sl Cp Cl Cq), (I Av), (I Aw), (.func (.func 88) #[] #[(pt Cs Ct), (pt Da Db)])] [Ch.own 0 0 (Sl Cp Cl Cq) Cl, Ch.bx Cr Cs Ct [(I Cm)] Cu Cv, Ch.bx Cz Da Db [(Sl Cw Cn Cy)] Dc Dd, Ch.ro 0 (Sl Cw Cn Cy) Cn] (fun n0 v L => v = (.tuple #[]) ∧ L = [Ch.own 0 0 (Sl Cp r Cq) r, Ch.bx Cr Cs Ct [(I Cm)] Cu Cv, Ch.bx Cz Da Db [(Sl Cw Cn Cy)] Dc Dd] ∧ r.length = Cl.length) := by
 refine cal2 (n := 34) Try.func116 rfl rfl rfl rfl ?_
 intro S0 σ0 n0 hn0 H
 unfold M.slices_reverseRangeCmpFunc_impl_Item__impl_sortByDistance_1 at h
 refine c_seq (rg (st (v := (I Av)) (rv_move rfl) (st (v := (I Av)) (rv_assign rfl) (w_end (q_then (c_seq (rg (st (v := (I Aw)) (rv_move rfl) (st (v := (I (w64 (Aw - 1)))) (rv_sub (a := Aw) (b := 1) rfl rfl) (st (v := (I (w64 (Aw - 1)))) (rv_assign rfl) (w_end ?_)))))))))))
 refine q_then ?_
 obtain ⟨o1, hj, h'⟩ := bind_some h
 clear h
 refine c_cut (fun e a w => e = .normal ∧ ∃ (ρ : Nat → Value) (σ : St), a = fr 34 (updL ρ [(0, (Sl Cp o1 Cq)), (3, (.func (.func 88) #[] #[(pt Cs Ct), (pt Da Db)]))]) ∧ w = σ.w ∧ Hp S0 σ0 σ [Ch.own 0 0 (Sl Cp o1 Cq) o1, Ch.bx Cr Cs Ct [(I Cm)] Cu Cv, Ch.ro 0 (Sl Cw Cn Cy) Cn, Ch.bx Cz Da Db [(Sl Cw Cn Cy)] Dc Dd] ∧ o1.length = Cl.length) ?_ ?_
 ·clear h'
  rename _ = some o1 => h
  refine c_blk (wp_loopM _ h (fun s2 a w => ∃ (ρ : Nat → Value) (σ : St), a = fr 34 (updL ρ [(0, (Sl Cp s2.1 Cq)), (3, (.func (.func 88) #[] #[(pt Cs Ct), (pt Da Db)])), (8, (I s2.2.1)), (9, (I s2.2.2))]) ∧ w = σ.w ∧ Hp S0 σ0 σ [Ch.own 0 0 (Sl Cp s2.1 Cq) s2.1, Ch.bx Cr Cs Ct [(I Cm)] Cu Cv, Ch.ro 0 (Sl Cw Cn Cy) Cn, Ch.bx Cz Da Db [(Sl Cw Cn Cy)] Dc Dd] ∧ s2.1.length = Cl.length) ⟨_, σ0, fr_join ⟨rfl, rfl, rfl, rfl, trivial⟩, rfl, H.sel' [0, 1, 3, 2] rfl rfl, rfl⟩ ?_)
  clear h H
  rintro s2 a w o ⟨ρ, σ3, rfl, rfl, H, hn4⟩ h hres
  refine c_seq (c_seq (rg (st (v := (I s2.2.1)) (rv_move rfl) (st (v := (I s2.2.2)) (rv_move rfl) (st (v := (B (decide (s2.2.1 < s2.2.2)))) (rv_lss (a := s2.2.1) (b := s2.2.2) rfl rfl) (w_end (q_then ?_)))))))
  refine cd_cond (decide (s2.2.1 < s2.2.2)) rfl (fun hb5 => ?_) (fun hb5 => ?_)
  ·replace h := bif_t hb5 h
   refine c_skip (q_then (c_blk (c_seq ?_)))
   obtain ⟨x6, hx7, h'⟩ := bind_some h
   clear h
   have h := h'; clear h'
   obtain ⟨b9, o10, hi8, -⟩ := (H.own 0 rfl).ix hx7
   obtain ⟨_, ⟨_, _, rfl, rfl, ⟨_, _, rfl, ⟨_, rfl, hR15⟩, rfl⟩⟩, hl11, hc12⟩ := ((H.own 0 rfl).at hx7 hi8).cells
   obtain ⟨a13, c14, rfl⟩ := hR15.isSl
   replace H := H.add (d := Ch.ro 0 (Sl a13 x6.2.1 c14) x6.2.1) hR15 (fun _ h => h)
   clear hR15
   obtain ⟨x16, hx17, h'⟩ := bind_some h
   clear h
   have h := h'; clear h'
   obtain ⟨b19, o20, hi18, -⟩ := (H.own 1 rfl).ix hx17
   obtain ⟨_, ⟨_, _, rfl, rfl, ⟨_, _, rfl, ⟨_, rfl, hR25⟩, rfl⟩⟩, hl21, hc22⟩ := ((H.own 1 rfl).at hx17 hi18).cells
   obtain ⟨a23, c24, rfl⟩ := hR25.isSl
   replace H := H.add (d := Ch.ro 0 (Sl a23 x16.2.1 c24) x16.2.1) hR25 (fun _ h => h)
   clear hR25
   obtain ⟨x26, hx27, h'⟩ := bind_some h
   clear h
   have h := h'; clear h'
   obtain ⟨b29, o30, hi28, -⟩ := (H.own 2 rfl).ix hx27
   have Hs := H
   refine rg2 (σ := σ3) (Nm := Unit) 14 [13] [[false], [true]] [[(0, 0)], [(0, 0)], [(0, 0), (1, 1)], [(0, 0), (1, 1)], [(0, 0)], [(0, 0)], [(0, 0)], [(0, 0)], [(0, 0)], [(0, 0)], [(0, 0)], [(0, 0)], [(0, 0)], [(0, 1)]] 1 [fun _ => fun σm => Hp S0 σ0 σm [Ch.ro 0 (Sl a23 x16.2.1 c24) x16.2.1, Ch.ro 0 (Sl a13 x6.2.1 c14) x6.2.1, Ch.own 0 0 (Sl Cp s2.1 Cq) s2.1, Ch.bx Cr Cs Ct [(I Cm)] Cu Cv, Ch.ro 0 (Sl Cw Cn Cy) Cn, Ch.bx Cz Da Db [(Sl Cw Cn Cy)] Dc Dd] ∧ Md (cov []) σ3 σm, fun _ => fun σm => Hp S0 σ0 σm [Ch.own 0 0 (Sl Cp s2.1 Cq) (s2.1.set s2.2.1.toNat (x6.1, x6.2.1, x6.2.2)), Ch.ro 0 (Sl a23 x16.2.1 c24) x16.2.1, Ch.ro 0 (Sl a13 x6.2.1 c14) x6.2.1, Ch.bx Cr Cs Ct [(I Cm)] Cu Cv, Ch.ro 0 (Sl Cw Cn Cy) Cn, Ch.bx Cz Da Db [(Sl Cw Cn Cy)] Dc Dd] ∧ Md (fun i => (cov []) i ∨ (fun b => blk (Sl Cp s2.1 Cq) = some b) i) σ3 σm] [fun _ => (Sl Cp s2.1 Cq), fun _ => (I s2.2.1), fun _ => (Sl Cp s2.1 Cq), fun _ => (I s2.2.2), fun _ => (Sl Cp s2.1 Cq), fun _ => (I s2.2.2), fun _ => (pt b9 o10), fun _ => (.agg #[(I x6.1), (Sl a13 x6.2.1 c14), (I x6.2.2)]), fun _ => (Sl Cp s2.1 Cq), fun _ => (I s2.2.1), fun _ => (pt b19 o20), fun _ => (.agg #[(I x16.1), (Sl a23 x16.2.1 c24), (I x16.2.2)]), fun _ => (pt b29 o30), fun _ => undef] () (by kernel_rfl) (by kernel_rfl) ?_ ?_ ?_
   ·intro σm m0
    exact ⟨H.grow (m0.mono fun _ h => h.elim), m0⟩
   ·refine ac rfl (by
      intro k _nm ρ σm hJ hoff hdep
      have e0 := look_off (N := 34) (hoff 0 rfl) rfl
      exact dp_v (v := (Sl Cp s2.1 Cq)) wn (rv_move e0) rfl hJ) ?_
    refine ac rfl (by
      intro k _nm ρ σm hJ hoff hdep
      have e8 := look_off (N := 34) (hoff 8 rfl) rfl
      exact dp_v (v := (I s2.2.1)) wn (rv_move e8) rfl hJ) ?_
    refine ac rfl (by
      intro k _nm ρ σm hJ hoff hdep
      have e0 := look_off (N := 34) (hoff 0 rfl) rfl
      exact dp_v (v := (Sl Cp s2.1 Cq)) wn (rv_move e0) rfl hJ) ?_
    refine ac rfl (by
      intro k _nm ρ σm hJ hoff hdep
      have e9 := look_off (N := 34) (hoff 9 rfl) rfl
      exact dp_v (v := (I s2.2.2)) wn (rv_move e9) rfl hJ) ?_
    refine ac rfl (by
      intro k _nm ρ σm hJ hoff hdep
      have e0 := look_off (N := 34) (hoff 0 rfl) rfl
      exact dp_v (v := (Sl Cp s2.1 Cq)) wn (rv_move e0) rfl hJ) ?_
    refine ac rfl (by
      intro k _nm ρ σm hJ hoff hdep
      have e9 := look_off (N := 34) (hoff 9 rfl) rfl
      exact dp_v (v := (I s2.2.2)) wn (rv_move e9) rfl hJ) ?_
    refine ac rfl (by
      intro k _nm ρ σm hJ hoff hdep
      have e20 := hdep 4 rfl rfl 20 rfl
      have e21 := hdep 5 rfl rfl 21 rfl
      exact dp_v (v := (pt b9 o10)) wn (rv_ix Try.underlying23 ti34 e20 e21 hi8) rfl hJ) ?_
    refine all_cons (by
      refine ⟨?_, ?_⟩
      ·intro _nm ρ σm hJ hoff hdep
       have e22 := hdep 6 rfl rfl 22 rfl
       obtain ⟨H, m⟩ := id hJ
       replace hc12 := fun j hj => m.hcell (hc12 j hj) nocov
       exact dp_v (v := (.agg #[(I x6.1), (Sl a13 x6.2.1 c14), (I x6.2.2)])) wn (rv_load Try.underlying34 rfl ti34 e22 hl11 hc12) rfl hJ
      trivial) ?_
    refine ac rfl (by
      intro k _nm ρ σm hJ hoff hdep
      have e0 := look_off (N := 34) (hoff 0 rfl) rfl
      exact dp_v (v := (Sl Cp s2.1 Cq)) wn (rv_move e0) rfl hJ) ?_
    refine ac rfl (by
      intro k _nm ρ σm hJ hoff hdep
      have e8 := look_off (N := 34) (hoff 8 rfl) rfl
      exact dp_v (v := (I s2.2.1)) wn (rv_move e8) rfl hJ) ?_
    refine ac rfl (by
      intro k _nm ρ σm hJ hoff hdep
      have e24 := hdep 8 rfl rfl 24 rfl
      have e25 := hdep 9 rfl rfl 25 rfl
      exact dp_v (v := (pt b19 o20)) wn (rv_ix Try.underlying23 ti34 e24 e25 hi18) rfl hJ) ?_
    refine all_cons (by
      refine ⟨?_, ?_⟩
      ·intro _nm ρ σm hJ hoff hdep
       have e26 := hdep 10 rfl rfl 26 rfl
       obtain ⟨H, m⟩ := id hJ
       replace hc22 := fun j hj => m.hcell (hc22 j hj) nocov
       exact dp_v (v := (.agg #[(I x16.1), (Sl a23 x16.2.1 c24), (I x16.2.2)])) wn (rv_load Try.underlying34 rfl ti34 e26 hl21 hc22) rfl hJ
      trivial) ?_
    refine ac rfl (by
      intro k _nm ρ σm hJ hoff hdep
      have e16 := hdep 0 rfl rfl 16 rfl
      have e17 := hdep 1 rfl rfl 17 rfl
      exact dp_v (v := (pt b29 o30)) wn (rv_ix Try.underlying23 ti34 e16 e17 hi28) rfl hJ) ?_
    refine all_cons (by
      refine ⟨?_, ?_⟩
      ·intro _nm ρ σm hJ hoff hdep
       have e28 := hdep 12 rfl rfl 28 rfl
       have e23 := hdep 7 rfl rfl 23 rfl
       obtain ⟨H, m⟩ := id hJ
       refine dp_exS wn rfl (ex_store_own (e' := (x6.1, x6.2.1, x6.2.2)) (vs := [(I x6.1), (Sl a13 x6.2.1 c14), (I x6.2.2)]) (k := 0) H (i := 2) rfl ti34 hx27 hi28 e28 rfl e23 rfl rfl (Nat.le_of_ble_eq_true rfl) (by simp [plain]) (by rintro _ ⟨_, _, rfl, rfl, ⟨_, _, rfl, ⟨_, rfl, hR33⟩, rfl⟩⟩; exact ⟨[(I x6.1)], [(Sl a13 x6.2.1 c14), (I x6.2.2)], rfl, rfl, ⟨[(Sl a13 x6.2.1 c14)], [(I x6.2.2)], rfl, ⟨_, rfl, (H.ro 1 rfl)⟩, rfl⟩⟩)) ?_
       rintro σq ⟨H2, m2⟩
       exact ⟨_, (), rfl, ⟨H2.sel' [0, 1, 2, 3, 4, 5] rfl rfl, m.comp m2⟩, stab [0, 1, 2, 3, 4, 5, 6, 7, 8, 9, 10, 11, 12] (by kernel_rfl) ⟨rfl, rfl, rfl, rfl, rfl, rfl, rfl, rfl, rfl, rfl, rfl, rfl, rfl, trivial⟩⟩
      trivial) ?_
    exact all_nil
   ·intro _nm ρ σ34 hJ hoff hrel
    have e0 := look_off (N := 34) (hoff 0 rfl) rfl
    have e3 := look_off (N := 34) (hoff 3 rfl) rfl
    have e8 := look_off (N := 34) (hoff 8 rfl) rfl
    have e9 := look_off (N := 34) (hoff 9 rfl) rfl
    have e18 := hrel 2 rfl 18 rfl
    have e19 := hrel 3 rfl 19 rfl
    have e27 := hrel 11 rfl 27 rfl
    obtain ⟨H, -⟩ := (show Hp S0 σ0 σ34 [Ch.own 0 0 (Sl Cp s2.1 Cq) (s2.1.set s2.2.1.toNat (x6.1, x6.2.1, x6.2.2)), Ch.ro 0 (Sl a23 x16.2.1 c24) x16.2.1, Ch.ro 0 (Sl a13 x6.2.1 c14) x6.2.1, Ch.bx Cr Cs Ct [(I Cm)] Cu Cv, Ch.ro 0 (Sl Cw Cn Cy) Cn, Ch.bx Cz Da Db [(Sl Cw Cn Cy)] Dc Dd] ∧ Md (fun i => (cov []) i ∨ (fun b => blk (Sl Cp s2.1 Cq) = some b) i) σ3 σ34 from hJ)
    clear hJ Hs
    rw [fr_lookL (L := [(0, (Sl Cp s2.1 Cq)), (3, (.func (.func 88) #[] #[(pt Cs Ct), (pt Da Db)])), (8, (I s2.2.1)), (9, (I s2.2.2)), (18, (Sl Cp s2.1 Cq)), (19, (I s2.2.2)), (27, (.agg #[(I x16.1), (Sl a23 x16.2.1 c24), (I x16.2.2)]))]) ⟨e0, e3, e8, e9, e18, e19, e27, trivial⟩]
    clear hoff hrel e0 e3 e8 e9 e18 e19 e27
    have hsl : (Sl Cp s2.1 Cq) = (Sl Cp (s2.1.set s2.2.1.toNat (x6.1, x6.2.1, x6.2.2)) Cq) := sl_len (by simp)
    rw [hsl]; rw [hsl] at H; clear hsl
    obtain ⟨x35, hx36, h'⟩ := bind_some h
    clear h
    have h := h'; clear h'
    obtain ⟨b38, o39, hi37, -⟩ := (H.own 0 rfl).ix hx36
    refine st (v := (pt b38 o39)) (rv_ix Try.underlying23 ti34 rfl rfl hi37) ?_
    refine st_exS (ex_store_own (e' := (x16.1, x16.2.1, x16.2.2)) (vs := [(I x16.1), (Sl a23 x16.2.1 c24), (I x16.2.2)]) (k := 0) H (i := 0) rfl ti34 hx36 hi37 rfl rfl rfl rfl rfl (Nat.le_of_ble_eq_true rfl) (by simp [plain]) (by rintro _ ⟨_, _, rfl, rfl, ⟨_, _, rfl, ⟨_, rfl, hR42⟩, rfl⟩⟩; exact ⟨[(I x16.1)], [(Sl a23 x16.2.1 c24), (I x16.2.2)], rfl, rfl, ⟨[(Sl a23 x16.2.1 c24)], [(I x16.2.2)], rfl, ⟨_, rfl, (H.ro 1 rfl)⟩, rfl⟩⟩)) wn ?_
    rintro σ43 ⟨H, -⟩
    have hsl : (Sl Cp (s2.1.set s2.2.1.toNat (x6.1, x6.2.1, x6.2.2)) Cq) = (Sl Cp ((s2.1.set s2.2.1.toNat (x6.1, x6.2.1, x6.2.2)).set s2.2.2.toNat (x16.1, x16.2.1, x16.2.2)) Cq) := sl_len List.length_set.symm
    rw [hsl]; rw [hsl] at H; clear hsl
    refine w_end (q_then (c_seq (rg (st (v := (I s2.2.1)) (rv_move rfl) (st (v := (I (w64 (s2.2.1 + 1)))) (rv_add (a := s2.2.1) (b := 1) rfl rfl) (st (v := (I (w64 (s2.2.1 + 1)))) (rv_assign rfl) (w_end (q_then (rg (st (v := (I s2.2.2)) (rv_move rfl) (st (v := (I (w64 (s2.2.2 - 1)))) (rv_sub (a := s2.2.2) (b := 1) rfl rfl) ?_)))))))))))
    refine st (v := (I (w64 (s2.2.2 - 1)))) (rv_assign rfl) (w_end (q_blk (q_then ?_)))
    obtain rfl := Option.some.inj h
    exact ⟨_, rfl, _, σ43, fr_join ⟨rfl, rfl, rfl, rfl, trivial⟩, rfl, H.sel' [0, 3, 4, 5] rfl rfl, (List.length_set.trans (List.length_set.trans hn4))⟩
  ·replace h := bif_f hb5 h
   refine c_exit (q_then_x (q_then_x (q_blk_hit ?_)))
   obtain rfl := Option.some.inj h
   obtain rfl := hres _ rfl
   exact ⟨rfl, _, σ3, fr_join ⟨rfl, rfl, trivial⟩, rfl, H.sel' [0, 1, 2, 3] rfl rfl, hn4⟩
 ·clear hj
  have h := h'
  clear h' H
  rintro e a w ⟨rfl, ρ, σ44, rfl, rfl, H, hn45⟩
  obtain rfl := Option.some.inj h
  exact fin_end (v := (.tuple #[])) (results_ok Try.results116 res_nil rfl) ⟨rfl, rfl, hn45⟩ (H.sel' [0, 1, 3] rfl rfl)

end Go.Vs
