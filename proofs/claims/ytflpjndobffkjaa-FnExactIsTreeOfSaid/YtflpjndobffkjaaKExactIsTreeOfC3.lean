/- The functions compute what their models say. -/
import Derived.Test.YtflpjndobffkjaaKExactIsTreeOfC2
set_option linter.unusedVariables false
set_option linter.unusedSimpArgs false
set_option maxRecDepth 20000
namespace Go.Vs
open Go Go.Proofs
attribute [local irreducible] Code.wp Code.wpIn wpList wpListIn wpQuiet Calls CallsIn

theorem c_slices_partialInsertionSortCmpFunc_impl_Item__impl_sortByDistance_1 {Cl : List (Int × (List Int) × Int)} {Av : Int} {Aw : Int} {Cm : Int} {Cn : List Int} {Cp : Option Addr} {Cq : Nat} {Cr Cs Ct : Nat} {Cu Cv : List Value} {Cw : Option Addr} {Cy : Nat} {Cz Da Db : Nat} {Dc Dd : List Value} {r : Bool × (List (Int × (List Int) × Int))} (h : M.slices_partialInsertionSortCmpFunc_impl_Item__impl_sortByDistance_1 Cl Av Aw Cm Cn = some r) :
    Cal2 Try.prog 117 [(Sl Cp Cl Cq), (I Av), (I Aw), (.func (.func 88) #[] #[(pt Cs Ct), (pt Da Db)])] [Ch.own 0 0 (Sl Cp Cl Cq) Cl, Ch.bx Cr Cs Ct [(I Cm)] Cu Cv, Ch.bx Cz Da Db [(Sl Cw Cn Cy)] Dc Dd, Ch.ro 0 (Sl Cw Cn Cy) Cn] (fun n0 v L => v = (B r.1) ∧ L = [Ch.own 0 0 (Sl Cp r.2 Cq) r.2, Ch.bx Cr Cs Ct [(I Cm)] Cu Cv, Ch.bx Cz Da Db [(Sl Cw Cn Cy)] Dc Dd] ∧ r.2.length = Cl.length) := by
 refine cal2 (n := 141) Try.func117 rfl rfl rfl rfl ?_
 intro S0 σ0 n0 hn0 H
 unfold M.slices_partialInsertionSortCmpFunc_impl_Item__impl_sortByDistance_1 at h
 refine c_seq (rg (st (v := (B false)) (rv_assign rfl) (w_end (q_then (c_seq (rg (st (v := (I Av)) (rv_move rfl) (st (v := (I (w64 (Av + 1)))) (rv_add (a := Av) (b := 1) rfl rfl) (st (v := (I (w64 (Av + 1)))) (rv_assign rfl) (w_end (q_then ?_)))))))))))
 refine c_seq (c_seq (rg (st (v := (I 0)) (rv_assign rfl) (w_end (q_then ?_)))))
 obtain ⟨o1, hj, h'⟩ := bind_some h
 clear h
 refine c_cut (fun e a w => (∃ t, o1 = (.inl t) ∧ e = .normal ∧ ∃ (ρ : Nat → Value) (σ : St), a = fr 141 (updL ρ [(0, (Sl Cp t Cq)), (3, (.func (.func 88) #[] #[(pt Cs Ct), (pt Da Db)]))]) ∧ w = σ.w ∧ Hp S0 σ0 σ [Ch.own 0 0 (Sl Cp t Cq) t, Ch.bx Cr Cs Ct [(I Cm)] Cu Cv, Ch.ro 0 (Sl Cw Cn Cy) Cn, Ch.bx Cz Da Db [(Sl Cw Cn Cy)] Dc Dd] ∧ t.length = Cl.length) ∨ (∃ t, o1 = (.inr t) ∧ e = .ret ∧ ∃ (ρ : Nat → Value) (σ : St), a = fr 141 (updL ρ [(0, (Sl Cp t.1 Cq)), (3, (.func (.func 88) #[] #[(pt Cs Ct), (pt Da Db)])), (8, (B t.2))]) ∧ w = σ.w ∧ Hp S0 σ0 σ [Ch.own 0 0 (Sl Cp t.1 Cq) t.1, Ch.bx Cr Cs Ct [(I Cm)] Cu Cv, Ch.ro 0 (Sl Cw Cn Cy) Cn, Ch.bx Cz Da Db [(Sl Cw Cn Cy)] Dc Dd] ∧ t.1.length = Cl.length)) ?_ ?_
 ·clear h'
  rename _ = some o1 => h
  refine c_blk (wp_loopM _ h (fun s2 a w => ∃ (ρ : Nat → Value) (σ : St), a = fr 141 (updL ρ [(0, (Sl Cp s2.1 Cq)), (1, (I Av)), (2, (I Aw)), (3, (.func (.func 88) #[] #[(pt Cs Ct), (pt Da Db)])), (9, (I s2.2.1)), (10, (I s2.2.2))]) ∧ w = σ.w ∧ Hp S0 σ0 σ [Ch.own 0 0 (Sl Cp s2.1 Cq) s2.1, Ch.bx Cr Cs Ct [(I Cm)] Cu Cv, Ch.ro 0 (Sl Cw Cn Cy) Cn, Ch.bx Cz Da Db [(Sl Cw Cn Cy)] Dc Dd] ∧ s2.1.length = Cl.length) ⟨_, σ0, fr_join ⟨rfl, rfl, rfl, rfl, rfl, rfl, trivial⟩, rfl, H.sel' [0, 1, 3, 2] rfl rfl, rfl⟩ ?_)
  clear h H
  rintro s2 a w o ⟨ρ, σ3, rfl, rfl, H, hn4⟩ h hres
  refine c_seq (c_seq (rg (st (v := (I s2.2.2)) (rv_move rfl) (st (v := (B (decide (s2.2.2 < 5)))) (rv_lss (a := s2.2.2) (b := 5) rfl rfl) (w_end (q_then ?_))))))
  refine cd_cond (decide (s2.2.2 < 5)) rfl (fun hb5 => ?_) (fun hb5 => ?_)
  ·replace h := bif_t hb5 h
   refine c_skip (q_then (c_seq ?_))
   obtain ⟨o6, hj, h'⟩ := bind_some h
   clear h
   refine c_cut (fun e a w => (∃ t, o6 = (.inl t) ∧ e = .normal ∧ ∃ (ρ : Nat → Value) (σ : St), a = fr 141 (updL ρ [(0, (Sl Cp t.1 Cq)), (1, (I Av)), (2, (I Aw)), (3, (.func (.func 88) #[] #[(pt Cs Ct), (pt Da Db)])), (9, (I t.2)), (10, (I s2.2.2))]) ∧ w = σ.w ∧ Hp S0 σ0 σ [Ch.own 0 0 (Sl Cp t.1 Cq) t.1, Ch.bx Cr Cs Ct [(I Cm)] Cu Cv, Ch.ro 0 (Sl Cw Cn Cy) Cn, Ch.bx Cz Da Db [(Sl Cw Cn Cy)] Dc Dd] ∧ t.1.length = s2.1.length) ∨ (∃ t, o6 = (.inr t) ∧ e = .ret ∧ ∃ (ρ : Nat → Value) (σ : St), a = fr 141 (updL ρ [(0, (Sl Cp t.1 Cq)), (3, (.func (.func 88) #[] #[(pt Cs Ct), (pt Da Db)])), (8, (B t.2))]) ∧ w = σ.w ∧ Hp S0 σ0 σ [Ch.own 0 0 (Sl Cp t.1 Cq) t.1, Ch.bx Cr Cs Ct [(I Cm)] Cu Cv, Ch.ro 0 (Sl Cw Cn Cy) Cn, Ch.bx Cz Da Db [(Sl Cw Cn Cy)] Dc Dd] ∧ t.1.length = s2.1.length)) ?_ ?_
   ·clear h'
    rename _ = some o6 => h
    refine c_blk (c_seq ?_)
    obtain ⟨o7, hj, h'⟩ := bind_some h
    clear h
    refine c_cut (fun e a w => e = .normal ∧ ∃ (ρ : Nat → Value) (σ : St), a = fr 141 (updL ρ [(0, (Sl Cp s2.1 Cq)), (1, (I Av)), (2, (I Aw)), (3, (.func (.func 88) #[] #[(pt Cs Ct), (pt Da Db)])), (9, (I o7)), (10, (I s2.2.2))]) ∧ w = σ.w ∧ Hp S0 σ0 σ [Ch.own 0 0 (Sl Cp s2.1 Cq) s2.1, Ch.bx Cr Cs Ct [(I Cm)] Cu Cv, Ch.ro 0 (Sl Cw Cn Cy) Cn, Ch.bx Cz Da Db [(Sl Cw Cn Cy)] Dc Dd]) ?_ ?_
    ·clear h'
     rename _ = some o7 => h
     refine c_blk (wp_loopM _ h (fun s8 a w => ∃ (ρ : Nat → Value) (σ : St), a = fr 141 (updL ρ [(0, (Sl Cp s2.1 Cq)), (1, (I Av)), (2, (I Aw)), (3, (.func (.func 88) #[] #[(pt Cs Ct), (pt Da Db)])), (9, (I s8)), (10, (I s2.2.2))]) ∧ w = σ.w ∧ Hp S0 σ0 σ [Ch.own 0 0 (Sl Cp s2.1 Cq) s2.1, Ch.bx Cr Cs Ct [(I Cm)] Cu Cv, Ch.ro 0 (Sl Cw Cn Cy) Cn, Ch.bx Cz Da Db [(Sl Cw Cn Cy)] Dc Dd]) ⟨_, σ3, fr_join ⟨rfl, rfl, rfl, rfl, rfl, rfl, trivial⟩, rfl, H.sel' [0, 1, 2, 3] rfl rfl⟩ ?_)
     clear h H
     rintro s8 a w o ⟨ρ, σ9, rfl, rfl, H⟩ h hres
     refine c_seq (c_seq ?_)
     obtain ⟨o10, hj, h'⟩ := bind_some h
     clear h
     refine c_cut (fun e a w => e = .normal ∧ ∃ (ρ : Nat → Value) (σ : St), a = fr 141 (updL ρ [(0, (Sl Cp s2.1 Cq)), (1, (I Av)), (2, (I Aw)), (3, (.func (.func 88) #[] #[(pt Cs Ct), (pt Da Db)])), (9, (I s8)), (10, (I s2.2.2)), (36, (B o10))]) ∧ w = σ.w ∧ Hp S0 σ0 σ [Ch.own 0 0 (Sl Cp s2.1 Cq) s2.1, Ch.bx Cr Cs Ct [(I Cm)] Cu Cv, Ch.ro 0 (Sl Cw Cn Cy) Cn, Ch.bx Cz Da Db [(Sl Cw Cn Cy)] Dc Dd]) ?_ ?_
     ·clear h'
      rename _ = some o10 => h
      refine rgP (σ := σ9) 14 (by kernel_rfl) (by kernel_rfl) (by kernel_rfl) ?_
      refine sq (v := (I s8)) (rv_move rfl) (sq (v := (I Aw)) (rv_move rfl) (sq (v := (B (decide (s8 < Aw)))) (rv_lss (a := s8) (b := Aw) rfl rfl) (sq (v := (B (decide (s8 < Aw)))) (rv_move rfl) ?_)))
      rcases Bool.eq_false_or_eq_true (decide (s8 < Aw)) with hb11 | hb11
      ·replace h := bif_t hb11 h
       refine sq_g (v := (.func (.func 88) #[] #[(pt Cs Ct), (pt Da Db)])) (congrArg some hb11) (rv_move rfl) (sq_g (v := (Sl Cp s2.1 Cq)) (congrArg some hb11) (rv_move rfl) (sq_g (v := (I s8)) (congrArg some hb11) (rv_move rfl) ?_))
       obtain ⟨x12, hx13, h'⟩ := bind_some h
       clear h
       have h := h'; clear h'
       obtain ⟨b15, o16, hi14, -⟩ := (H.own 0 rfl).ix hx13
       refine sq_g (v := (pt b15 o16)) (congrArg some hb11) (rv_ix Try.underlying23 ti34 rfl rfl hi14) ?_
       obtain ⟨_, ⟨_, _, rfl, rfl, ⟨_, _, rfl, ⟨_, rfl, hR21⟩, rfl⟩⟩, hl17, hc18⟩ := ((H.own 0 rfl).at hx13 hi14).cells
       obtain ⟨a19, c20, rfl⟩ := hR21.isSl
       replace H := H.add (d := Ch.ro 0 (Sl a19 x12.2.1 c20) x12.2.1) hR21 (fun _ h => h)
       clear hR21
       refine sq_g (v := (.agg #[(I x12.1), (Sl a19 x12.2.1 c20), (I x12.2.2)])) (congrArg some hb11) (rv_load Try.underlying34 rfl ti34 rfl hl17 hc18) (sq_g (v := (Sl Cp s2.1 Cq)) (congrArg some hb11) (rv_move rfl) (sq_g (v := (I s8)) (congrArg some hb11) (rv_move rfl) (sq_g (v := (I (w64 (s8 - 1)))) (congrArg some hb11) (rv_sub (a := s8) (b := 1) rfl rfl) ?_)))
       obtain ⟨x22, hx23, h'⟩ := bind_some h
       clear h
       have h := h'; clear h'
       obtain ⟨b25, o26, hi24, -⟩ := (H.own 1 rfl).ix hx23
       refine sq_g (v := (pt b25 o26)) (congrArg some hb11) (rv_ix Try.underlying23 ti34 rfl rfl hi24) ?_
       obtain ⟨_, ⟨_, _, rfl, rfl, ⟨_, _, rfl, ⟨_, rfl, hR31⟩, rfl⟩⟩, hl27, hc28⟩ := ((H.own 1 rfl).at hx23 hi24).cells
       obtain ⟨a29, c30, rfl⟩ := hR31.isSl
       replace H := H.add (d := Ch.ro 0 (Sl a29 x22.2.1 c30) x22.2.1) hR31 (fun _ h => h)
       clear hR31
       refine sq_g (v := (.agg #[(I x22.1), (Sl a29 x22.2.1 c30), (I x22.2.2)])) (congrArg some hb11) (rv_load Try.underlying34 rfl ti34 rfl hl27 hc28) (sq_end ?_)
       intro σ32 hm33
       replace H := H.grow (hm33.mono fun _ h => h); clear hm33
       obtain ⟨r34, hx35, h'⟩ := bind_some h
       clear h
       have h := h'; clear h'
       have hc36 := c_impl_sortByDistance_1__p3__p24 (Ag := a19) (Ah := c20) (Bv := a29) (Bw := c30) (By := Cr) (Bz := Cs) (Ca := Ct) (Cb := Cu) (Cc := Cv) (Cf := Cz) (Cg := Da) (Ci := Db) (Cj := Dc) (Ck := Dd) (Cd := Cw) (Ce := Cy) hx35
       refine st_call (cx_call hc36 (ent_v (cap := [(pt Cs Ct), (pt Da Db)]) hc36.fn rfl rfl) hn0 (H.sel' [1, 0, 3, 5, 4, 0, 1, 2, 4] rfl rfl : Hp S0 σ0 _ ([_, _, _, _, _] ++ _))) (wanted_yes rfl (by exact (congrArg some hb11))) ?_
       rintro _ σ37 ⟨_, ⟨rfl, rfl⟩, H, -⟩
       replace H : Hp _ _ _ [_, _, _, _, _, _] := H
       refine st_g (v := (B (decide (r34 < 0)))) (congrArg some hb11) (rv_lss (a := r34) (b := 0) rfl rfl) (st_g (v := (B (!(decide (r34 < 0))))) (congrArg some hb11) (rv_not rfl) (st (v := (B (!(decide (r34 < 0))))) (rv_pick_t (congrArg B hb11) rfl) (w_end ?_)))
       obtain rfl := Option.some.inj h
       exact ⟨rfl, _, σ37, fr_join ⟨rfl, rfl, rfl, rfl, rfl, rfl, rfl, trivial⟩, rfl, H.sel' [4, 0, 5, 1] rfl rfl⟩
      ·replace h := bif_f hb11 h
       refine sq_skip (congrArg some hb11) (sq_skip (congrArg some hb11) (sq_skip (congrArg some hb11) (sq_skip (congrArg some hb11) (sq_skip (congrArg some hb11) (sq_skip (congrArg some hb11) (sq_skip (congrArg some hb11) (sq_skip (congrArg some hb11) (sq_skip (congrArg some hb11) (sq_skip (congrArg some hb11) (sq_end ?_))))))))))
       intro σ38 hm39
       replace H := H.grow (hm39.mono fun _ h => h); clear hm39
       refine st_skip (congrArg some hb11) (st_skip (congrArg some hb11) (st_skip (congrArg some hb11) (st (v := (B false)) (rv_pick_f (congrArg B hb11) rfl) (w_end ?_))))
       obtain rfl := Option.some.inj h
       exact ⟨rfl, _, σ38, fr_join ⟨rfl, rfl, rfl, rfl, rfl, rfl, rfl, trivial⟩, rfl, H.sel' [0, 1, 2, 3] rfl rfl⟩
     ·clear hj
      have h := h'
      clear h' H
      rintro e a w ⟨rfl, ρ, σ40, rfl, rfl, H⟩
      refine q_then ?_
      refine cd_cond o10 rfl (fun hb41 => ?_) (fun hb41 => ?_)
      ·replace h := bif_t hb41 h
       refine c_skip (q_then (c_blk (rg (st (v := (I s8)) (rv_move rfl) (st (v := (I (w64 (s8 + 1)))) (rv_add (a := s8) (b := 1) rfl rfl) (st (v := (I (w64 (s8 + 1)))) (rv_assign rfl) (w_end (q_blk (q_then ?_)))))))))
       obtain rfl := Option.some.inj h
       exact ⟨_, rfl, _, σ40, fr_join ⟨rfl, rfl, rfl, rfl, rfl, rfl, trivial⟩, rfl, H.sel' [0, 1, 2, 3] rfl rfl⟩
      ·replace h := bif_f hb41 h
       refine c_exit (q_then_x (q_then_x (q_blk_hit ?_)))
       obtain rfl := Option.some.inj h
       obtain rfl := hres _ rfl
       exact ⟨rfl, _, σ40, fr_join ⟨rfl, rfl, rfl, rfl, rfl, rfl, trivial⟩, rfl, H.sel' [0, 1, 2, 3] rfl rfl⟩
    ·clear hj
     have h := h'
     clear h' H
     rintro e a w ⟨rfl, ρ, σ42, rfl, rfl, H⟩
     refine q_then (c_seq (c_seq (rg (st (v := (I o7)) (rv_move rfl) (st (v := (I Aw)) (rv_move rfl) (st (v := (B (o7 == Aw))) (rv_eql (a := o7) (b := Aw) rfl rfl) (w_end (q_then ?_))))))))
     refine cd_cond (o7 == Aw) rfl (fun hb43 => ?_) (fun hb43 => ?_)
     ·replace h := bif_t hb43 h
      refine c_seq (rg (st (v := (B true)) (rv_assign rfl) (w_end (q_then (c_ret (q_then_r (q_blk_r ?_)))))))
      obtain rfl := Option.some.inj h
      exact .inr (⟨_, rfl, rfl, _, σ42, fr_join ⟨rfl, rfl, rfl, trivial⟩, rfl, H.sel' [0, 1, 2, 3] rfl rfl, rfl⟩)
     ·replace h := bif_f hb43 h
      refine c_skip (q_then (c_seq (c_seq (rg (st (v := (I Aw)) (rv_move rfl) (st (v := (I Av)) (rv_move rfl) (st (v := (I (w64 (Aw - Av)))) (rv_sub (a := Aw) (b := Av) rfl rfl) (st (v := (B (decide ((w64 (Aw - Av)) < 50)))) (rv_lss (a := (w64 (Aw - Av))) (b := 50) rfl rfl) (w_end (q_then ?_))))))))))
      refine cd_cond (decide ((w64 (Aw - Av)) < 50)) rfl (fun hb44 => ?_) (fun hb44 => ?_)
      ·replace h := bif_t hb44 h
       refine c_seq (rg (st (v := (B false)) (rv_assign rfl) (w_end (q_then (c_ret (q_then_r (q_blk_r ?_)))))))
       obtain rfl := Option.some.inj h
       exact .inr (⟨_, rfl, rfl, _, σ42, fr_join ⟨rfl, rfl, rfl, trivial⟩, rfl, H.sel' [0, 1, 2, 3] rfl rfl, rfl⟩)
      ·replace h := bif_f hb44 h
       refine c_skip (q_then (c_seq ?_))
       obtain ⟨x45, hx46, h'⟩ := bind_some h
       clear h
       have h := h'; clear h'
       obtain ⟨b48, o49, hi47, -⟩ := (H.own 0 rfl).ix hx46
       obtain ⟨_, ⟨_, _, rfl, rfl, ⟨_, _, rfl, ⟨_, rfl, hR54⟩, rfl⟩⟩, hl50, hc51⟩ := ((H.own 0 rfl).at hx46 hi47).cells
       obtain ⟨a52, c53, rfl⟩ := hR54.isSl
       replace H := H.add (d := Ch.ro 0 (Sl a52 x45.2.1 c53) x45.2.1) hR54 (fun _ h => h)
       clear hR54
       obtain ⟨x55, hx56, h'⟩ := bind_some h
       clear h
       have h := h'; clear h'
       obtain ⟨b58, o59, hi57, -⟩ := (H.own 1 rfl).ix hx56
       obtain ⟨_, ⟨_, _, rfl, rfl, ⟨_, _, rfl, ⟨_, rfl, hR64⟩, rfl⟩⟩, hl60, hc61⟩ := ((H.own 1 rfl).at hx56 hi57).cells
       obtain ⟨a62, c63, rfl⟩ := hR64.isSl
       replace H := H.add (d := Ch.ro 0 (Sl a62 x55.2.1 c63) x55.2.1) hR64 (fun _ h => h)
       clear hR64
       obtain ⟨x65, hx66, h'⟩ := bind_some h
       clear h
       have h := h'; clear h'
       obtain ⟨b68, o69, hi67, -⟩ := (H.own 2 rfl).ix hx66
       have Hs := H
       refine rg2 (σ := σ42) (Nm := Unit) 16 [15] [[false], [true]] [[(0, 0)], [(0, 0)], [(0, 0), (1, 1)], [(0, 0), (1, 1)], [(0, 0), (1, 1)], [(0, 0)], [(0, 0)], [(0, 0)], [(0, 0)], [(0, 0)], [(0, 0)], [(0, 0)], [(0, 0)], [(0, 0)], [(0, 0)], [(0, 1)]] 1 [fun _ => fun σm => Hp S0 σ0 σm [Ch.ro 0 (Sl a62 x55.2.1 c63) x55.2.1, Ch.ro 0 (Sl a52 x45.2.1 c53) x45.2.1, Ch.own 0 0 (Sl Cp s2.1 Cq) s2.1, Ch.bx Cr Cs Ct [(I Cm)] Cu Cv, Ch.ro 0 (Sl Cw Cn Cy) Cn, Ch.bx Cz Da Db [(Sl Cw Cn Cy)] Dc Dd] ∧ Md (cov []) σ42 σm, fun _ => fun σm => Hp S0 σ0 σm [Ch.own 0 0 (Sl Cp s2.1 Cq) (s2.1.set o7.toNat (x45.1, x45.2.1, x45.2.2)), Ch.ro 0 (Sl a62 x55.2.1 c63) x55.2.1, Ch.ro 0 (Sl a52 x45.2.1 c53) x45.2.1, Ch.bx Cr Cs Ct [(I Cm)] Cu Cv, Ch.ro 0 (Sl Cw Cn Cy) Cn, Ch.bx Cz Da Db [(Sl Cw Cn Cy)] Dc Dd] ∧ Md (fun i => (cov []) i ∨ (fun b => blk (Sl Cp s2.1 Cq) = some b) i) σ42 σm] [fun _ => (Sl Cp s2.1 Cq), fun _ => (I o7), fun _ => (Sl Cp s2.1 Cq), fun _ => (I o7), fun _ => (I (w64 (o7 - 1))), fun _ => (Sl Cp s2.1 Cq), fun _ => (I o7), fun _ => (I (w64 (o7 - 1))), fun _ => (pt b48 o49), fun _ => (.agg #[(I x45.1), (Sl a52 x45.2.1 c53), (I x45.2.2)]), fun _ => (Sl Cp s2.1 Cq), fun _ => (I o7), fun _ => (pt b58 o59), fun _ => (.agg #[(I x55.1), (Sl a62 x55.2.1 c63), (I x55.2.2)]), fun _ => (pt b68 o69), fun _ => undef] () (by kernel_rfl) (by kernel_rfl) ?_ ?_ ?_
       ·intro σm m0
        exact ⟨H.grow (m0.mono fun _ h => h.elim), m0⟩
       ·refine ac rfl (by
          intro k _nm ρ σm hJ hoff hdep
          have e0 := look_off (N := 141) (hoff 0 rfl) rfl
          exact dp_v (v := (Sl Cp s2.1 Cq)) wn (rv_move e0) rfl hJ) ?_
        refine ac rfl (by
          intro k _nm ρ σm hJ hoff hdep
          have e9 := look_off (N := 141) (hoff 9 rfl) rfl
          exact dp_v (v := (I o7)) wn (rv_move e9) rfl hJ) ?_
        refine ac rfl (by
          intro k _nm ρ σm hJ hoff hdep
          have e0 := look_off (N := 141) (hoff 0 rfl) rfl
          exact dp_v (v := (Sl Cp s2.1 Cq)) wn (rv_move e0) rfl hJ) ?_
        refine ac rfl (by
          intro k _nm ρ σm hJ hoff hdep
          have e9 := look_off (N := 141) (hoff 9 rfl) rfl
          exact dp_v (v := (I o7)) wn (rv_move e9) rfl hJ) ?_
        refine ac rfl (by
          intro k _nm ρ σm hJ hoff hdep
          have e49 := hdep 3 rfl rfl 49 rfl
          exact dp_v (v := (I (w64 (o7 - 1)))) wn (rv_sub (a := o7) (b := 1) e49 rfl) rfl hJ) ?_
        refine ac rfl (by
          intro k _nm ρ σm hJ hoff hdep
          have e0 := look_off (N := 141) (hoff 0 rfl) rfl
          exact dp_v (v := (Sl Cp s2.1 Cq)) wn (rv_move e0) rfl hJ) ?_
        refine ac rfl (by
          intro k _nm ρ σm hJ hoff hdep
          have e9 := look_off (N := 141) (hoff 9 rfl) rfl
          exact dp_v (v := (I o7)) wn (rv_move e9) rfl hJ) ?_
        refine ac rfl (by
          intro k _nm ρ σm hJ hoff hdep
          have e52 := hdep 6 rfl rfl 52 rfl
          exact dp_v (v := (I (w64 (o7 - 1)))) wn (rv_sub (a := o7) (b := 1) e52 rfl) rfl hJ) ?_
        refine ac rfl (by
          intro k _nm ρ σm hJ hoff hdep
          have e51 := hdep 5 rfl rfl 51 rfl
          have e53 := hdep 7 rfl rfl 53 rfl
          exact dp_v (v := (pt b48 o49)) wn (rv_ix Try.underlying23 ti34 e51 e53 hi47) rfl hJ) ?_
        refine all_cons (by
          refine ⟨?_, ?_⟩
          ·intro _nm ρ σm hJ hoff hdep
           have e54 := hdep 8 rfl rfl 54 rfl
           obtain ⟨H, m⟩ := id hJ
           replace hc51 := fun j hj => m.hcell (hc51 j hj) nocov
           exact dp_v (v := (.agg #[(I x45.1), (Sl a52 x45.2.1 c53), (I x45.2.2)])) wn (rv_load Try.underlying34 rfl ti34 e54 hl50 hc51) rfl hJ
          trivial) ?_
        refine ac rfl (by
          intro k _nm ρ σm hJ hoff hdep
          have e0 := look_off (N := 141) (hoff 0 rfl) rfl
          exact dp_v (v := (Sl Cp s2.1 Cq)) wn (rv_move e0) rfl hJ) ?_
        refine ac rfl (by
          intro k _nm ρ σm hJ hoff hdep
          have e9 := look_off (N := 141) (hoff 9 rfl) rfl
          exact dp_v (v := (I o7)) wn (rv_move e9) rfl hJ) ?_
        refine ac rfl (by
          intro k _nm ρ σm hJ hoff hdep
          have e56 := hdep 10 rfl rfl 56 rfl
          have e57 := hdep 11 rfl rfl 57 rfl
          exact dp_v (v := (pt b58 o59)) wn (rv_ix Try.underlying23 ti34 e56 e57 hi57) rfl hJ) ?_
        refine all_cons (by
          refine ⟨?_, ?_⟩
          ·intro _nm ρ σm hJ hoff hdep
           have e58 := hdep 12 rfl rfl 58 rfl
           obtain ⟨H, m⟩ := id hJ
           replace hc61 := fun j hj => m.hcell (hc61 j hj) nocov
           exact dp_v (v := (.agg #[(I x55.1), (Sl a62 x55.2.1 c63), (I x55.2.2)])) wn (rv_load Try.underlying34 rfl ti34 e58 hl60 hc61) rfl hJ
          trivial) ?_
        refine ac rfl (by
          intro k _nm ρ σm hJ hoff hdep
          have e46 := hdep 0 rfl rfl 46 rfl
          have e47 := hdep 1 rfl rfl 47 rfl
          exact dp_v (v := (pt b68 o69)) wn (rv_ix Try.underlying23 ti34 e46 e47 hi67) rfl hJ) ?_
        refine all_cons (by
          refine ⟨?_, ?_⟩
          ·intro _nm ρ σm hJ hoff hdep
           have e60 := hdep 14 rfl rfl 60 rfl
           have e55 := hdep 9 rfl rfl 55 rfl
           obtain ⟨H, m⟩ := id hJ
           refine dp_exS wn rfl (ex_store_own (e' := (x45.1, x45.2.1, x45.2.2)) (vs := [(I x45.1), (Sl a52 x45.2.1 c53), (I x45.2.2)]) (k := 0) H (i := 2) rfl ti34 hx66 hi67 e60 rfl e55 rfl rfl (Nat.le_of_ble_eq_true rfl) (by simp [plain]) (by rintro _ ⟨_, _, rfl, rfl, ⟨_, _, rfl, ⟨_, rfl, hR72⟩, rfl⟩⟩; exact ⟨[(I x45.1)], [(Sl a52 x45.2.1 c53), (I x45.2.2)], rfl, rfl, ⟨[(Sl a52 x45.2.1 c53)], [(I x45.2.2)], rfl, ⟨_, rfl, (H.ro 1 rfl)⟩, rfl⟩⟩)) ?_
           rintro σq ⟨H2, m2⟩
           exact ⟨_, (), rfl, ⟨H2.sel' [0, 1, 2, 3, 4, 5] rfl rfl, m.comp m2⟩, stab [0, 1, 2, 3, 4, 5, 6, 7, 8, 9, 10, 11, 12, 13, 14] (by kernel_rfl) ⟨rfl, rfl, rfl, rfl, rfl, rfl, rfl, rfl, rfl, rfl, rfl, rfl, rfl, rfl, rfl, trivial⟩⟩
          trivial) ?_
        exact all_nil
       ·intro _nm ρ σ73 hJ hoff hrel
        have e0 := look_off (N := 141) (hoff 0 rfl) rfl
        have e1 := look_off (N := 141) (hoff 1 rfl) rfl
        have e2 := look_off (N := 141) (hoff 2 rfl) rfl
        have e3 := look_off (N := 141) (hoff 3 rfl) rfl
        have e9 := look_off (N := 141) (hoff 9 rfl) rfl
        have e10 := look_off (N := 141) (hoff 10 rfl) rfl
        have e48 := hrel 2 rfl 48 rfl
        have e50 := hrel 4 rfl 50 rfl
        have e59 := hrel 13 rfl 59 rfl
        obtain ⟨H, -⟩ := (show Hp S0 σ0 σ73 [Ch.own 0 0 (Sl Cp s2.1 Cq) (s2.1.set o7.toNat (x45.1, x45.2.1, x45.2.2)), Ch.ro 0 (Sl a62 x55.2.1 c63) x55.2.1, Ch.ro 0 (Sl a52 x45.2.1 c53) x45.2.1, Ch.bx Cr Cs Ct [(I Cm)] Cu Cv, Ch.ro 0 (Sl Cw Cn Cy) Cn, Ch.bx Cz Da Db [(Sl Cw Cn Cy)] Dc Dd] ∧ Md (fun i => (cov []) i ∨ (fun b => blk (Sl Cp s2.1 Cq) = some b) i) σ42 σ73 from hJ)
        clear hJ Hs
        rw [fr_lookL (L := [(0, (Sl Cp s2.1 Cq)), (1, (I Av)), (2, (I Aw)), (3, (.func (.func 88) #[] #[(pt Cs Ct), (pt Da Db)])), (9, (I o7)), (10, (I s2.2.2)), (48, (Sl Cp s2.1 Cq)), (50, (I (w64 (o7 - 1)))), (59, (.agg #[(I x55.1), (Sl a62 x55.2.1 c63), (I x55.2.2)]))]) ⟨e0, e1, e2, e3, e9, e10, e48, e50, e59, trivial⟩]
        clear hoff hrel e0 e1 e2 e3 e9 e10 e48 e50 e59
        have hsl : (Sl Cp s2.1 Cq) = (Sl Cp (s2.1.set o7.toNat (x45.1, x45.2.1, x45.2.2)) Cq) := sl_len (by simp)
        rw [hsl]; rw [hsl] at H; clear hsl
        obtain ⟨x74, hx75, h'⟩ := bind_some h
        clear h
        have h := h'; clear h'
        obtain ⟨b77, o78, hi76, -⟩ := (H.own 0 rfl).ix hx75
        refine st (v := (pt b77 o78)) (rv_ix Try.underlying23 ti34 rfl rfl hi76) ?_
        refine st_exS (ex_store_own (e' := (x55.1, x55.2.1, x55.2.2)) (vs := [(I x55.1), (Sl a62 x55.2.1 c63), (I x55.2.2)]) (k := 0) H (i := 0) rfl ti34 hx75 hi76 rfl rfl rfl rfl rfl (Nat.le_of_ble_eq_true rfl) (by simp [plain]) (by rintro _ ⟨_, _, rfl, rfl, ⟨_, _, rfl, ⟨_, rfl, hR81⟩, rfl⟩⟩; exact ⟨[(I x55.1)], [(Sl a62 x55.2.1 c63), (I x55.2.2)], rfl, rfl, ⟨[(Sl a62 x55.2.1 c63)], [(I x55.2.2)], rfl, ⟨_, rfl, (H.ro 1 rfl)⟩, rfl⟩⟩)) wn ?_
        rintro σ82 ⟨H, -⟩
        have hsl : (Sl Cp (s2.1.set o7.toNat (x45.1, x45.2.1, x45.2.2)) Cq) = (Sl Cp ((s2.1.set o7.toNat (x45.1, x45.2.1, x45.2.2)).set (w64 (o7 - 1)).toNat (x55.1, x55.2.1, x55.2.2)) Cq) := sl_len List.length_set.symm
        rw [hsl]; rw [hsl] at H; clear hsl
        refine w_end (q_then (c_seq (c_seq (rg (st (v := (I o7)) (rv_move rfl) (st (v := (I Av)) (rv_move rfl) (st (v := (I (w64 (o7 - Av)))) (rv_sub (a := o7) (b := Av) rfl rfl) (st (v := (B (decide (2 ≤ (w64 (o7 - Av)))))) (rv_geq (a := (w64 (o7 - Av))) (b := 2) rfl rfl) (w_end (q_then ?_))))))))))
        obtain ⟨o83, hj, h'⟩ := bind_some h
        clear h
        refine c_cut (fun e a w => e = .normal ∧ ∃ (ρ : Nat → Value) (σ : St), a = fr 141 (updL ρ [(0, (Sl Cp o83 Cq)), (1, (I Av)), (2, (I Aw)), (3, (.func (.func 88) #[] #[(pt Cs Ct), (pt Da Db)])), (9, (I o7)), (10, (I s2.2.2))]) ∧ w = σ.w ∧ Hp S0 σ0 σ [Ch.own 0 0 (Sl Cp o83 Cq) o83, Ch.bx Cr Cs Ct [(I Cm)] Cu Cv, Ch.ro 0 (Sl Cw Cn Cy) Cn, Ch.bx Cz Da Db [(Sl Cw Cn Cy)] Dc Dd] ∧ o83.length = ((s2.1.set o7.toNat (x45.1, x45.2.1, x45.2.2)).set (w64 (o7 - 1)).toNat (x55.1, x55.2.1, x55.2.2)).length) ?_ ?_
        ·clear h'
         rename _ = some o83 => h
         refine cd_cond (decide (2 ≤ (w64 (o7 - Av)))) rfl (fun hb84 => ?_) (fun hb84 => ?_)
         ·replace h := bif_t hb84 h
          refine c_seq (rg (st (v := (I o7)) (rv_move rfl) (st (v := (I (w64 (o7 - 1)))) (rv_sub (a := o7) (b := 1) rfl rfl) (st (v := (I (w64 (o7 - 1)))) (rv_assign rfl) (w_end (q_then ?_))))))
          obtain ⟨o85, hj, h'⟩ := bind_some h
          clear h
          refine c_cut (fun e a w => e = .normal ∧ ∃ (ρ : Nat → Value) (σ : St), a = fr 141 (updL ρ [(0, (Sl Cp o85 Cq)), (1, (I Av)), (2, (I Aw)), (3, (.func (.func 88) #[] #[(pt Cs Ct), (pt Da Db)])), (9, (I o7)), (10, (I s2.2.2))]) ∧ w = σ.w ∧ Hp S0 σ0 σ [Ch.own 0 0 (Sl Cp o85 Cq) o85, Ch.bx Cr Cs Ct [(I Cm)] Cu Cv, Ch.ro 0 (Sl Cw Cn Cy) Cn, Ch.bx Cz Da Db [(Sl Cw Cn Cy)] Dc Dd] ∧ o85.length = ((s2.1.set o7.toNat (x45.1, x45.2.1, x45.2.2)).set (w64 (o7 - 1)).toNat (x55.1, x55.2.1, x55.2.2)).length) ?_ ?_
          ·clear h'
           rename _ = some o85 => h
           refine c_blk (wp_loopM _ h (fun s86 a w => ∃ (ρ : Nat → Value) (σ : St), a = fr 141 (updL ρ [(0, (Sl Cp s86.1 Cq)), (1, (I Av)), (2, (I Aw)), (3, (.func (.func 88) #[] #[(pt Cs Ct), (pt Da Db)])), (9, (I o7)), (10, (I s2.2.2)), (11, (I s86.2))]) ∧ w = σ.w ∧ Hp S0 σ0 σ [Ch.own 0 0 (Sl Cp s86.1 Cq) s86.1, Ch.bx Cr Cs Ct [(I Cm)] Cu Cv, Ch.ro 0 (Sl Cw Cn Cy) Cn, Ch.bx Cz Da Db [(Sl Cw Cn Cy)] Dc Dd] ∧ s86.1.length = ((s2.1.set o7.toNat (x45.1, x45.2.1, x45.2.2)).set (w64 (o7 - 1)).toNat (x55.1, x55.2.1, x55.2.2)).length) ⟨_, σ82, fr_join ⟨rfl, rfl, rfl, rfl, rfl, rfl, rfl, trivial⟩, rfl, H.sel' [0, 3, 4, 5] rfl rfl, rfl⟩ ?_)
           clear h H
           rintro s86 a w o ⟨ρ, σ87, rfl, rfl, H, hn88⟩ h hres
           refine c_seq (c_seq (rg (st (v := (I s86.2)) (rv_move rfl) (st (v := (B (decide (1 ≤ s86.2)))) (rv_geq (a := s86.2) (b := 1) rfl rfl) (w_end (q_then ?_))))))
           refine cd_cond (decide (1 ≤ s86.2)) rfl (fun hb89 => ?_) (fun hb89 => ?_)
           ·replace h := bif_t hb89 h
            refine c_skip (q_then (c_seq (c_blk (c_seq (c_seq ?_)))))
            refine rgP (σ := σ87) 10 (by kernel_rfl) (by kernel_rfl) (by kernel_rfl) ?_
            refine sq (v := (.func (.func 88) #[] #[(pt Cs Ct), (pt Da Db)])) (rv_move rfl) (sq (v := (Sl Cp s86.1 Cq)) (rv_move rfl) (sq (v := (I s86.2)) (rv_move rfl) ?_))
            obtain ⟨x90, hx91, h'⟩ := bind_some h
            clear h
            have h := h'; clear h'
            obtain ⟨b93, o94, hi92, -⟩ := (H.own 0 rfl).ix hx91
            refine sq (v := (pt b93 o94)) (rv_ix Try.underlying23 ti34 rfl rfl hi92) ?_
            obtain ⟨_, ⟨_, _, rfl, rfl, ⟨_, _, rfl, ⟨_, rfl, hR99⟩, rfl⟩⟩, hl95, hc96⟩ := ((H.own 0 rfl).at hx91 hi92).cells
            obtain ⟨a97, c98, rfl⟩ := hR99.isSl
            replace H := H.add (d := Ch.ro 0 (Sl a97 x90.2.1 c98) x90.2.1) hR99 (fun _ h => h)
            clear hR99
            refine sq (v := (.agg #[(I x90.1), (Sl a97 x90.2.1 c98), (I x90.2.2)])) (rv_load Try.underlying34 rfl ti34 rfl hl95 hc96) (sq (v := (Sl Cp s86.1 Cq)) (rv_move rfl) (sq (v := (I s86.2)) (rv_move rfl) (sq (v := (I (w64 (s86.2 - 1)))) (rv_sub (a := s86.2) (b := 1) rfl rfl) ?_)))
            obtain ⟨x100, hx101, h'⟩ := bind_some h
            clear h
            have h := h'; clear h'
            obtain ⟨b103, o104, hi102, -⟩ := (H.own 1 rfl).ix hx101
            refine sq (v := (pt b103 o104)) (rv_ix Try.underlying23 ti34 rfl rfl hi102) ?_
            obtain ⟨_, ⟨_, _, rfl, rfl, ⟨_, _, rfl, ⟨_, rfl, hR109⟩, rfl⟩⟩, hl105, hc106⟩ := ((H.own 1 rfl).at hx101 hi102).cells
            obtain ⟨a107, c108, rfl⟩ := hR109.isSl
            replace H := H.add (d := Ch.ro 0 (Sl a107 x100.2.1 c108) x100.2.1) hR109 (fun _ h => h)
            clear hR109
            refine sq (v := (.agg #[(I x100.1), (Sl a107 x100.2.1 c108), (I x100.2.2)])) (rv_load Try.underlying34 rfl ti34 rfl hl105 hc106) (sq_end ?_)
            intro σ110 hm111
            replace H := H.grow (hm111.mono fun _ h => h); clear hm111
            obtain ⟨r112, hx113, h'⟩ := bind_some h
            clear h
            have h := h'; clear h'
            have hc114 := c_impl_sortByDistance_1__p3__p24 (Ag := a97) (Ah := c98) (Bv := a107) (Bw := c108) (By := Cr) (Bz := Cs) (Ca := Ct) (Cb := Cu) (Cc := Cv) (Cf := Cz) (Cg := Da) (Ci := Db) (Cj := Dc) (Ck := Dd) (Cd := Cw) (Ce := Cy) hx113
            refine st_call (cx_call hc114 (ent_v (cap := [(pt Cs Ct), (pt Da Db)]) hc114.fn rfl rfl) hn0 (H.sel' [1, 0, 3, 5, 4, 0, 1, 2, 4] rfl rfl : Hp S0 σ0 _ ([_, _, _, _, _] ++ _))) wn ?_
            rintro _ σ115 ⟨_, ⟨rfl, rfl⟩, H, -⟩
            replace H : Hp _ _ _ [_, _, _, _, _, _] := H
            refine st (v := (B (decide (r112 < 0)))) (rv_lss (a := r112) (b := 0) rfl rfl) (st (v := (B (!(decide (r112 < 0))))) (rv_not rfl) (w_end (q_then ?_)))
            refine cd_cond (!(decide (r112 < 0))) rfl (fun hb116 => ?_) (fun hb116 => ?_)
            ·replace h := bif_t hb116 h
             refine c_exit (q_then_x ?_)
             refine q_blk_x (by decide) ?_
             refine q_then_x (q_then_x (q_blk_hit ?_))
             obtain rfl := Option.some.inj h
             obtain rfl := hres _ rfl
             exact ⟨rfl, _, σ115, fr_join ⟨rfl, rfl, rfl, rfl, rfl, rfl, trivial⟩, rfl, H.sel' [4, 0, 5, 1] rfl rfl, ((hn88.trans (List.length_set.trans (List.length_set.trans hn4))).trans (List.length_set.trans (List.length_set.trans hn4)).symm)⟩
            ·replace h := bif_f hb116 h
             refine c_skip (q_then ?_)
             obtain ⟨x117, hx118, h'⟩ := bind_some h
             clear h
             have h := h'; clear h'
             obtain ⟨b120, o121, hi119, -⟩ := (H.own 4 rfl).ix hx118
             obtain ⟨_, ⟨_, _, rfl, rfl, ⟨_, _, rfl, ⟨_, rfl, hR126⟩, rfl⟩⟩, hl122, hc123⟩ := ((H.own 4 rfl).at hx118 hi119).cells
             obtain ⟨a124, c125, rfl⟩ := hR126.isSl
             replace H := H.add (d := Ch.ro 0 (Sl a124 x117.2.1 c125) x117.2.1) hR126 (fun _ h => h)
             clear hR126
             obtain ⟨x127, hx128, h'⟩ := bind_some h
             clear h
             have h := h'; clear h'
             obtain ⟨b130, o131, hi129, -⟩ := (H.own 5 rfl).ix hx128
             obtain ⟨_, ⟨_, _, rfl, rfl, ⟨_, _, rfl, ⟨_, rfl, hR136⟩, rfl⟩⟩, hl132, hc133⟩ := ((H.own 5 rfl).at hx128 hi129).cells
             obtain ⟨a134, c135, rfl⟩ := hR136.isSl
             replace H := H.add (d := Ch.ro 0 (Sl a134 x127.2.1 c135) x127.2.1) hR136 (fun _ h => h)
             clear hR136
             obtain ⟨x137, hx138, h'⟩ := bind_some h
             clear h
             have h := h'; clear h'
             obtain ⟨b140, o141, hi139, -⟩ := (H.own 6 rfl).ix hx138
             have Hs := H
             refine rg2 (σ := σ115) (Nm := Unit) 16 [15] [[false], [true]] [[(0, 0)], [(0, 0)], [(0, 0), (1, 1)], [(0, 0), (1, 1)], [(0, 0), (1, 1)], [(0, 0)], [(0, 0)], [(0, 0)], [(0, 0)], [(0, 0)], [(0, 0)], [(0, 0)], [(0, 0)], [(0, 0)], [(0, 0)], [(0, 1)]] 1 [fun _ => fun σm => Hp S0 σ0 σm [Ch.ro 0 (Sl a134 x127.2.1 c135) x127.2.1, Ch.ro 0 (Sl a124 x117.2.1 c125) x117.2.1, Ch.bx Cr Cs Ct [(I Cm)] Cu Cv, Ch.bx Cz Da Db [(Sl Cw Cn Cy)] Dc Dd, Ch.ro 0 (Sl a107 x100.2.1 c108) x100.2.1, Ch.ro 0 (Sl a97 x90.2.1 c98) x90.2.1, Ch.own 0 0 (Sl Cp s86.1 Cq) s86.1, Ch.ro 0 (Sl Cw Cn Cy) Cn] ∧ Md (cov []) σ115 σm, fun _ => fun σm => Hp S0 σ0 σm [Ch.own 0 0 (Sl Cp s86.1 Cq) (s86.1.set s86.2.toNat (x117.1, x117.2.1, x117.2.2)), Ch.ro 0 (Sl a134 x127.2.1 c135) x127.2.1, Ch.ro 0 (Sl a124 x117.2.1 c125) x117.2.1, Ch.bx Cr Cs Ct [(I Cm)] Cu Cv, Ch.bx Cz Da Db [(Sl Cw Cn Cy)] Dc Dd, Ch.ro 0 (Sl a107 x100.2.1 c108) x100.2.1, Ch.ro 0 (Sl a97 x90.2.1 c98) x90.2.1, Ch.ro 0 (Sl Cw Cn Cy) Cn] ∧ Md (fun i => (cov []) i ∨ (fun b => blk (Sl Cp s86.1 Cq) = some b) i) σ115 σm] [fun _ => (Sl Cp s86.1 Cq), fun _ => (I s86.2), fun _ => (Sl Cp s86.1 Cq), fun _ => (I s86.2), fun _ => (I (w64 (s86.2 - 1))), fun _ => (Sl Cp s86.1 Cq), fun _ => (I s86.2), fun _ => (I (w64 (s86.2 - 1))), fun _ => (pt b120 o121), fun _ => (.agg #[(I x117.1), (Sl a124 x117.2.1 c125), (I x117.2.2)]), fun _ => (Sl Cp s86.1 Cq), fun _ => (I s86.2), fun _ => (pt b130 o131), fun _ => (.agg #[(I x127.1), (Sl a134 x127.2.1 c135), (I x127.2.2)]), fun _ => (pt b140 o141), fun _ => undef] () (by kernel_rfl) (by kernel_rfl) ?_ ?_ ?_
             ·intro σm m0
              exact ⟨H.grow (m0.mono fun _ h => h.elim), m0⟩
             ·refine ac rfl (by
                intro k _nm ρ σm hJ hoff hdep
                have e0 := look_off (N := 141) (hoff 0 rfl) rfl
                exact dp_v (v := (Sl Cp s86.1 Cq)) wn (rv_move e0) rfl hJ) ?_
              refine ac rfl (by
                intro k _nm ρ σm hJ hoff hdep
                have e11 := look_off (N := 141) (hoff 11 rfl) rfl
                exact dp_v (v := (I s86.2)) wn (rv_move e11) rfl hJ) ?_
              refine ac rfl (by
                intro k _nm ρ σm hJ hoff hdep
                have e0 := look_off (N := 141) (hoff 0 rfl) rfl
                exact dp_v (v := (Sl Cp s86.1 Cq)) wn (rv_move e0) rfl hJ) ?_
              refine ac rfl (by
                intro k _nm ρ σm hJ hoff hdep
                have e11 := look_off (N := 141) (hoff 11 rfl) rfl
                exact dp_v (v := (I s86.2)) wn (rv_move e11) rfl hJ) ?_
              refine ac rfl (by
                intro k _nm ρ σm hJ hoff hdep
                have e88 := hdep 3 rfl rfl 88 rfl
                exact dp_v (v := (I (w64 (s86.2 - 1)))) wn (rv_sub (a := s86.2) (b := 1) e88 rfl) rfl hJ) ?_
              refine ac rfl (by
                intro k _nm ρ σm hJ hoff hdep
                have e0 := look_off (N := 141) (hoff 0 rfl) rfl
                exact dp_v (v := (Sl Cp s86.1 Cq)) wn (rv_move e0) rfl hJ) ?_
              refine ac rfl (by
                intro k _nm ρ σm hJ hoff hdep
                have e11 := look_off (N := 141) (hoff 11 rfl) rfl
                exact dp_v (v := (I s86.2)) wn (rv_move e11) rfl hJ) ?_
              refine ac rfl (by
                intro k _nm ρ σm hJ hoff hdep
                have e91 := hdep 6 rfl rfl 91 rfl
                exact dp_v (v := (I (w64 (s86.2 - 1)))) wn (rv_sub (a := s86.2) (b := 1) e91 rfl) rfl hJ) ?_
              refine ac rfl (by
                intro k _nm ρ σm hJ hoff hdep
                have e90 := hdep 5 rfl rfl 90 rfl
                have e92 := hdep 7 rfl rfl 92 rfl
                exact dp_v (v := (pt b120 o121)) wn (rv_ix Try.underlying23 ti34 e90 e92 hi119) rfl hJ) ?_
              refine all_cons (by
                refine ⟨?_, ?_⟩
                ·intro _nm ρ σm hJ hoff hdep
                 have e93 := hdep 8 rfl rfl 93 rfl
                 obtain ⟨H, m⟩ := id hJ
                 replace hc123 := fun j hj => m.hcell (hc123 j hj) nocov
                 exact dp_v (v := (.agg #[(I x117.1), (Sl a124 x117.2.1 c125), (I x117.2.2)])) wn (rv_load Try.underlying34 rfl ti34 e93 hl122 hc123) rfl hJ
                trivial) ?_
              refine ac rfl (by
                intro k _nm ρ σm hJ hoff hdep
                have e0 := look_off (N := 141) (hoff 0 rfl) rfl
                exact dp_v (v := (Sl Cp s86.1 Cq)) wn (rv_move e0) rfl hJ) ?_
              refine ac rfl (by
                intro k _nm ρ σm hJ hoff hdep
                have e11 := look_off (N := 141) (hoff 11 rfl) rfl
                exact dp_v (v := (I s86.2)) wn (rv_move e11) rfl hJ) ?_
              refine ac rfl (by
                intro k _nm ρ σm hJ hoff hdep
                have e95 := hdep 10 rfl rfl 95 rfl
                have e96 := hdep 11 rfl rfl 96 rfl
                exact dp_v (v := (pt b130 o131)) wn (rv_ix Try.underlying23 ti34 e95 e96 hi129) rfl hJ) ?_
              refine all_cons (by
                refine ⟨?_, ?_⟩
                ·intro _nm ρ σm hJ hoff hdep
                 have e97 := hdep 12 rfl rfl 97 rfl
                 obtain ⟨H, m⟩ := id hJ
                 replace hc133 := fun j hj => m.hcell (hc133 j hj) nocov
                 exact dp_v (v := (.agg #[(I x127.1), (Sl a134 x127.2.1 c135), (I x127.2.2)])) wn (rv_load Try.underlying34 rfl ti34 e97 hl132 hc133) rfl hJ
                trivial) ?_
              refine ac rfl (by
                intro k _nm ρ σm hJ hoff hdep
                have e85 := hdep 0 rfl rfl 85 rfl
                have e86 := hdep 1 rfl rfl 86 rfl
                exact dp_v (v := (pt b140 o141)) wn (rv_ix Try.underlying23 ti34 e85 e86 hi139) rfl hJ) ?_
              refine all_cons (by
                refine ⟨?_, ?_⟩
                ·intro _nm ρ σm hJ hoff hdep
                 have e99 := hdep 14 rfl rfl 99 rfl
                 have e94 := hdep 9 rfl rfl 94 rfl
                 obtain ⟨H, m⟩ := id hJ
                 refine dp_exS wn rfl (ex_store_own (e' := (x117.1, x117.2.1, x117.2.2)) (vs := [(I x117.1), (Sl a124 x117.2.1 c125), (I x117.2.2)]) (k := 0) H (i := 6) rfl ti34 hx138 hi139 e99 rfl e94 rfl rfl (Nat.le_of_ble_eq_true rfl) (by simp [plain]) (by rintro _ ⟨_, _, rfl, rfl, ⟨_, _, rfl, ⟨_, rfl, hR144⟩, rfl⟩⟩; exact ⟨[(I x117.1)], [(Sl a124 x117.2.1 c125), (I x117.2.2)], rfl, rfl, ⟨[(Sl a124 x117.2.1 c125)], [(I x117.2.2)], rfl, ⟨_, rfl, (H.ro 1 rfl)⟩, rfl⟩⟩)) ?_
                 rintro σq ⟨H2, m2⟩
                 exact ⟨_, (), rfl, ⟨H2.sel' [0, 1, 2, 3, 4, 5, 6, 7] rfl rfl, m.comp m2⟩, stab [0, 1, 2, 3, 4, 5, 6, 7, 8, 9, 10, 11, 12, 13, 14] (by kernel_rfl) ⟨rfl, rfl, rfl, rfl, rfl, rfl, rfl, rfl, rfl, rfl, rfl, rfl, rfl, rfl, rfl, trivial⟩⟩
                trivial) ?_
              exact all_nil
             ·intro _nm ρ σ145 hJ hoff hrel
              have e0 := look_off (N := 141) (hoff 0 rfl) rfl
              have e1 := look_off (N := 141) (hoff 1 rfl) rfl
              have e2 := look_off (N := 141) (hoff 2 rfl) rfl
              have e3 := look_off (N := 141) (hoff 3 rfl) rfl
              have e9 := look_off (N := 141) (hoff 9 rfl) rfl
              have e10 := look_off (N := 141) (hoff 10 rfl) rfl
              have e11 := look_off (N := 141) (hoff 11 rfl) rfl
              have e87 := hrel 2 rfl 87 rfl
              have e89 := hrel 4 rfl 89 rfl
              have e98 := hrel 13 rfl 98 rfl
              obtain ⟨H, -⟩ := (show Hp S0 σ0 σ145 [Ch.own 0 0 (Sl Cp s86.1 Cq) (s86.1.set s86.2.toNat (x117.1, x117.2.1, x117.2.2)), Ch.ro 0 (Sl a134 x127.2.1 c135) x127.2.1, Ch.ro 0 (Sl a124 x117.2.1 c125) x117.2.1, Ch.bx Cr Cs Ct [(I Cm)] Cu Cv, Ch.bx Cz Da Db [(Sl Cw Cn Cy)] Dc Dd, Ch.ro 0 (Sl a107 x100.2.1 c108) x100.2.1, Ch.ro 0 (Sl a97 x90.2.1 c98) x90.2.1, Ch.ro 0 (Sl Cw Cn Cy) Cn] ∧ Md (fun i => (cov []) i ∨ (fun b => blk (Sl Cp s86.1 Cq) = some b) i) σ115 σ145 from hJ)
              clear hJ Hs
              rw [fr_lookL (L := [(0, (Sl Cp s86.1 Cq)), (1, (I Av)), (2, (I Aw)), (3, (.func (.func 88) #[] #[(pt Cs Ct), (pt Da Db)])), (9, (I o7)), (10, (I s2.2.2)), (11, (I s86.2)), (87, (Sl Cp s86.1 Cq)), (89, (I (w64 (s86.2 - 1)))), (98, (.agg #[(I x127.1), (Sl a134 x127.2.1 c135), (I x127.2.2)]))]) ⟨e0, e1, e2, e3, e9, e10, e11, e87, e89, e98, trivial⟩]
              clear hoff hrel e0 e1 e2 e3 e9 e10 e11 e87 e89 e98
              have hsl : (Sl Cp s86.1 Cq) = (Sl Cp (s86.1.set s86.2.toNat (x117.1, x117.2.1, x117.2.2)) Cq) := sl_len (by simp)
              rw [hsl]; rw [hsl] at H; clear hsl
              obtain ⟨x146, hx147, h'⟩ := bind_some h
              clear h
              have h := h'; clear h'
              obtain ⟨b149, o150, hi148, -⟩ := (H.own 0 rfl).ix hx147
              refine st (v := (pt b149 o150)) (rv_ix Try.underlying23 ti34 rfl rfl hi148) ?_
              refine st_exS (ex_store_own (e' := (x127.1, x127.2.1, x127.2.2)) (vs := [(I x127.1), (Sl a134 x127.2.1 c135), (I x127.2.2)]) (k := 0) H (i := 0) rfl ti34 hx147 hi148 rfl rfl rfl rfl rfl (Nat.le_of_ble_eq_true rfl) (by simp [plain]) (by rintro _ ⟨_, _, rfl, rfl, ⟨_, _, rfl, ⟨_, rfl, hR153⟩, rfl⟩⟩; exact ⟨[(I x127.1)], [(Sl a134 x127.2.1 c135), (I x127.2.2)], rfl, rfl, ⟨[(Sl a134 x127.2.1 c135)], [(I x127.2.2)], rfl, ⟨_, rfl, (H.ro 1 rfl)⟩, rfl⟩⟩)) wn ?_
              rintro σ154 ⟨H, -⟩
              have hsl : (Sl Cp (s86.1.set s86.2.toNat (x117.1, x117.2.1, x117.2.2)) Cq) = (Sl Cp ((s86.1.set s86.2.toNat (x117.1, x117.2.1, x117.2.2)).set (w64 (s86.2 - 1)).toNat (x127.1, x127.2.1, x127.2.2)) Cq) := sl_len List.length_set.symm
              rw [hsl]; rw [hsl] at H; clear hsl
              replace H : Hp S0 σ0 σ154 [Ch.own 0 0 (Sl Cp ((s86.1.set s86.2.toNat (x117.1, x117.2.1, x117.2.2)).set (w64 (s86.2 - 1)).toNat (x127.1, x127.2.1, x127.2.2)) Cq) ((s86.1.set s86.2.toNat (x117.1, x117.2.1, x117.2.2)).set (w64 (s86.2 - 1)).toNat (x127.1, x127.2.1, x127.2.2)), Ch.bx Cr Cs Ct [(I Cm)] Cu Cv, Ch.bx Cz Da Db [(Sl Cw Cn Cy)] Dc Dd, Ch.ro 0 (Sl Cw Cn Cy) Cn] := H.sel' [0, 3, 4, 7] rfl rfl
              refine w_end (q_blk (q_then (rg (st (v := (I s86.2)) (rv_move rfl) (st (v := (I (w64 (s86.2 - 1)))) (rv_sub (a := s86.2) (b := 1) rfl rfl) (st (v := (I (w64 (s86.2 - 1)))) (rv_assign rfl) (w_end (q_then ?_))))))))
              obtain rfl := Option.some.inj h
              exact ⟨_, rfl, _, σ154, fr_join ⟨rfl, rfl, rfl, rfl, rfl, rfl, rfl, trivial⟩, rfl, H.sel' [0, 1, 3, 2] rfl rfl, ((List.length_set.trans (List.length_set.trans (hn88.trans (List.length_set.trans (List.length_set.trans hn4))))).trans (List.length_set.trans (List.length_set.trans hn4)).symm)⟩
           ·replace h := bif_f hb89 h
            refine c_exit (q_then_x (q_then_x (q_blk_hit ?_)))
            obtain rfl := Option.some.inj h
            obtain rfl := hres _ rfl
            exact ⟨rfl, _, σ87, fr_join ⟨rfl, rfl, rfl, rfl, rfl, rfl, trivial⟩, rfl, H.sel' [0, 1, 2, 3] rfl rfl, ((hn88.trans (List.length_set.trans (List.length_set.trans hn4))).trans (List.length_set.trans (List.length_set.trans hn4)).symm)⟩
          ·clear hj
           have h := h'
           clear h' H
           rintro e a w ⟨rfl, ρ, σ155, rfl, rfl, H, hn156⟩
           obtain rfl := Option.some.inj h
           exact ⟨rfl, _, σ155, fr_join ⟨rfl, rfl, rfl, rfl, rfl, rfl, trivial⟩, rfl, H.sel' [0, 1, 2, 3] rfl rfl, ((hn156.trans (List.length_set.trans (List.length_set.trans hn4))).trans (List.length_set.trans (List.length_set.trans hn4)).symm)⟩
         ·replace h := bif_f hb84 h
          refine c_skip ?_
          obtain rfl := Option.some.inj h
          exact ⟨rfl, _, σ82, fr_join ⟨rfl, rfl, rfl, rfl, rfl, rfl, trivial⟩, rfl, H.sel' [0, 3, 4, 5] rfl rfl, rfl⟩
        ·clear hj
         have h := h'
         clear h' H
         rintro e a w ⟨rfl, ρ, σ157, rfl, rfl, H, hn158⟩
         refine q_then (c_seq (rg (st (v := (I Aw)) (rv_move rfl) (st (v := (I o7)) (rv_move rfl) (st (v := (I (w64 (Aw - o7)))) (rv_sub (a := Aw) (b := o7) rfl rfl) (st (v := (B (decide (2 ≤ (w64 (Aw - o7)))))) (rv_geq (a := (w64 (Aw - o7))) (b := 2) rfl rfl) (w_end (q_then ?_))))))))
         refine cd_cond (decide (2 ≤ (w64 (Aw - o7)))) rfl (fun hb159 => ?_) (fun hb159 => ?_)
         ·replace h := bif_t hb159 h
          refine c_seq (rg (st (v := (I o7)) (rv_move rfl) (st (v := (I (w64 (o7 + 1)))) (rv_add (a := o7) (b := 1) rfl rfl) (st (v := (I (w64 (o7 + 1)))) (rv_assign rfl) (w_end (q_then ?_))))))
          obtain ⟨o160, hj, h'⟩ := bind_some h
          clear h
          refine c_cut (fun e a w => e = .normal ∧ ∃ (ρ : Nat → Value) (σ : St), a = fr 141 (updL ρ [(0, (Sl Cp o160 Cq)), (1, (I Av)), (2, (I Aw)), (3, (.func (.func 88) #[] #[(pt Cs Ct), (pt Da Db)])), (9, (I o7)), (10, (I s2.2.2))]) ∧ w = σ.w ∧ Hp S0 σ0 σ [Ch.own 0 0 (Sl Cp o160 Cq) o160, Ch.bx Cr Cs Ct [(I Cm)] Cu Cv, Ch.ro 0 (Sl Cw Cn Cy) Cn, Ch.bx Cz Da Db [(Sl Cw Cn Cy)] Dc Dd] ∧ o160.length = o83.length) ?_ ?_
          ·clear h'
           rename _ = some o160 => h
           refine c_blk (wp_loopM _ h (fun s161 a w => ∃ (ρ : Nat → Value) (σ : St), a = fr 141 (updL ρ [(0, (Sl Cp s161.1 Cq)), (1, (I Av)), (2, (I Aw)), (3, (.func (.func 88) #[] #[(pt Cs Ct), (pt Da Db)])), (9, (I o7)), (10, (I s2.2.2)), (12, (I s161.2))]) ∧ w = σ.w ∧ Hp S0 σ0 σ [Ch.own 0 0 (Sl Cp s161.1 Cq) s161.1, Ch.bx Cr Cs Ct [(I Cm)] Cu Cv, Ch.ro 0 (Sl Cw Cn Cy) Cn, Ch.bx Cz Da Db [(Sl Cw Cn Cy)] Dc Dd] ∧ s161.1.length = o83.length) ⟨_, σ157, fr_join ⟨rfl, rfl, rfl, rfl, rfl, rfl, rfl, trivial⟩, rfl, H.sel' [0, 1, 2, 3] rfl rfl, rfl⟩ ?_)
           clear h H
           rintro s161 a w o ⟨ρ, σ162, rfl, rfl, H, hn163⟩ h hres
           refine c_seq (c_seq (rg (st (v := (I s161.2)) (rv_move rfl) (st (v := (I Aw)) (rv_move rfl) (st (v := (B (decide (s161.2 < Aw)))) (rv_lss (a := s161.2) (b := Aw) rfl rfl) (w_end (q_then ?_)))))))
           refine cd_cond (decide (s161.2 < Aw)) rfl (fun hb164 => ?_) (fun hb164 => ?_)
           ·replace h := bif_t hb164 h
            refine c_skip (q_then (c_seq (c_blk (c_seq (c_seq ?_)))))
            refine rgP (σ := σ162) 10 (by kernel_rfl) (by kernel_rfl) (by kernel_rfl) ?_
            refine sq (v := (.func (.func 88) #[] #[(pt Cs Ct), (pt Da Db)])) (rv_move rfl) (sq (v := (Sl Cp s161.1 Cq)) (rv_move rfl) (sq (v := (I s161.2)) (rv_move rfl) ?_))
            obtain ⟨x165, hx166, h'⟩ := bind_some h
            clear h
            have h := h'; clear h'
            obtain ⟨b168, o169, hi167, -⟩ := (H.own 0 rfl).ix hx166
            refine sq (v := (pt b168 o169)) (rv_ix Try.underlying23 ti34 rfl rfl hi167) ?_
            obtain ⟨_, ⟨_, _, rfl, rfl, ⟨_, _, rfl, ⟨_, rfl, hR174⟩, rfl⟩⟩, hl170, hc171⟩ := ((H.own 0 rfl).at hx166 hi167).cells
            obtain ⟨a172, c173, rfl⟩ := hR174.isSl
            replace H := H.add (d := Ch.ro 0 (Sl a172 x165.2.1 c173) x165.2.1) hR174 (fun _ h => h)
            clear hR174
            refine sq (v := (.agg #[(I x165.1), (Sl a172 x165.2.1 c173), (I x165.2.2)])) (rv_load Try.underlying34 rfl ti34 rfl hl170 hc171) (sq (v := (Sl Cp s161.1 Cq)) (rv_move rfl) (sq (v := (I s161.2)) (rv_move rfl) (sq (v := (I (w64 (s161.2 - 1)))) (rv_sub (a := s161.2) (b := 1) rfl rfl) ?_)))
            obtain ⟨x175, hx176, h'⟩ := bind_some h
            clear h
            have h := h'; clear h'
            obtain ⟨b178, o179, hi177, -⟩ := (H.own 1 rfl).ix hx176
            refine sq (v := (pt b178 o179)) (rv_ix Try.underlying23 ti34 rfl rfl hi177) ?_
            obtain ⟨_, ⟨_, _, rfl, rfl, ⟨_, _, rfl, ⟨_, rfl, hR184⟩, rfl⟩⟩, hl180, hc181⟩ := ((H.own 1 rfl).at hx176 hi177).cells
            obtain ⟨a182, c183, rfl⟩ := hR184.isSl
            replace H := H.add (d := Ch.ro 0 (Sl a182 x175.2.1 c183) x175.2.1) hR184 (fun _ h => h)
            clear hR184
            refine sq (v := (.agg #[(I x175.1), (Sl a182 x175.2.1 c183), (I x175.2.2)])) (rv_load Try.underlying34 rfl ti34 rfl hl180 hc181) (sq_end ?_)
            intro σ185 hm186
            replace H := H.grow (hm186.mono fun _ h => h); clear hm186
            obtain ⟨r187, hx188, h'⟩ := bind_some h
            clear h
            have h := h'; clear h'
            have hc189 := c_impl_sortByDistance_1__p3__p24 (Ag := a172) (Ah := c173) (Bv := a182) (Bw := c183) (By := Cr) (Bz := Cs) (Ca := Ct) (Cb := Cu) (Cc := Cv) (Cf := Cz) (Cg := Da) (Ci := Db) (Cj := Dc) (Ck := Dd) (Cd := Cw) (Ce := Cy) hx188
            refine st_call (cx_call hc189 (ent_v (cap := [(pt Cs Ct), (pt Da Db)]) hc189.fn rfl rfl) hn0 (H.sel' [1, 0, 3, 5, 4, 0, 1, 2, 4] rfl rfl : Hp S0 σ0 _ ([_, _, _, _, _] ++ _))) wn ?_
            rintro _ σ190 ⟨_, ⟨rfl, rfl⟩, H, -⟩
            replace H : Hp _ _ _ [_, _, _, _, _, _] := H
            refine st (v := (B (decide (r187 < 0)))) (rv_lss (a := r187) (b := 0) rfl rfl) (st (v := (B (!(decide (r187 < 0))))) (rv_not rfl) (w_end (q_then ?_)))
            refine cd_cond (!(decide (r187 < 0))) rfl (fun hb191 => ?_) (fun hb191 => ?_)
            ·replace h := bif_t hb191 h
             refine c_exit (q_then_x ?_)
             refine q_blk_x (by decide) ?_
             refine q_then_x (q_then_x (q_blk_hit ?_))
             obtain rfl := Option.some.inj h
             obtain rfl := hres _ rfl
             exact ⟨rfl, _, σ190, fr_join ⟨rfl, rfl, rfl, rfl, rfl, rfl, trivial⟩, rfl, H.sel' [4, 0, 5, 1] rfl rfl, ((hn163.trans (hn158.trans (List.length_set.trans (List.length_set.trans hn4)))).trans (hn158.trans (List.length_set.trans (List.length_set.trans hn4))).symm)⟩
            ·replace h := bif_f hb191 h
             refine c_skip (q_then ?_)
             obtain ⟨x192, hx193, h'⟩ := bind_some h
             clear h
             have h := h'; clear h'
             obtain ⟨b195, o196, hi194, -⟩ := (H.own 4 rfl).ix hx193
             obtain ⟨_, ⟨_, _, rfl, rfl, ⟨_, _, rfl, ⟨_, rfl, hR201⟩, rfl⟩⟩, hl197, hc198⟩ := ((H.own 4 rfl).at hx193 hi194).cells
             obtain ⟨a199, c200, rfl⟩ := hR201.isSl
             replace H := H.add (d := Ch.ro 0 (Sl a199 x192.2.1 c200) x192.2.1) hR201 (fun _ h => h)
             clear hR201
             obtain ⟨x202, hx203, h'⟩ := bind_some h
             clear h
             have h := h'; clear h'
             obtain ⟨b205, o206, hi204, -⟩ := (H.own 5 rfl).ix hx203
             obtain ⟨_, ⟨_, _, rfl, rfl, ⟨_, _, rfl, ⟨_, rfl, hR211⟩, rfl⟩⟩, hl207, hc208⟩ := ((H.own 5 rfl).at hx203 hi204).cells
             obtain ⟨a209, c210, rfl⟩ := hR211.isSl
             replace H := H.add (d := Ch.ro 0 (Sl a209 x202.2.1 c210) x202.2.1) hR211 (fun _ h => h)
             clear hR211
             obtain ⟨x212, hx213, h'⟩ := bind_some h
             clear h
             have h := h'; clear h'
             obtain ⟨b215, o216, hi214, -⟩ := (H.own 6 rfl).ix hx213
             have Hs := H
             refine rg2 (σ := σ190) (Nm := Unit) 16 [15] [[false], [true]] [[(0, 0)], [(0, 0)], [(0, 0), (1, 1)], [(0, 0), (1, 1)], [(0, 0), (1, 1)], [(0, 0)], [(0, 0)], [(0, 0)], [(0, 0)], [(0, 0)], [(0, 0)], [(0, 0)], [(0, 0)], [(0, 0)], [(0, 0)], [(0, 1)]] 1 [fun _ => fun σm => Hp S0 σ0 σm [Ch.ro 0 (Sl a209 x202.2.1 c210) x202.2.1, Ch.ro 0 (Sl a199 x192.2.1 c200) x192.2.1, Ch.bx Cr Cs Ct [(I Cm)] Cu Cv, Ch.bx Cz Da Db [(Sl Cw Cn Cy)] Dc Dd, Ch.ro 0 (Sl a182 x175.2.1 c183) x175.2.1, Ch.ro 0 (Sl a172 x165.2.1 c173) x165.2.1, Ch.own 0 0 (Sl Cp s161.1 Cq) s161.1, Ch.ro 0 (Sl Cw Cn Cy) Cn] ∧ Md (cov []) σ190 σm, fun _ => fun σm => Hp S0 σ0 σm [Ch.own 0 0 (Sl Cp s161.1 Cq) (s161.1.set s161.2.toNat (x192.1, x192.2.1, x192.2.2)), Ch.ro 0 (Sl a209 x202.2.1 c210) x202.2.1, Ch.ro 0 (Sl a199 x192.2.1 c200) x192.2.1, Ch.bx Cr Cs Ct [(I Cm)] Cu Cv, Ch.bx Cz Da Db [(Sl Cw Cn Cy)] Dc Dd, Ch.ro 0 (Sl a182 x175.2.1 c183) x175.2.1, Ch.ro 0 (Sl a172 x165.2.1 c173) x165.2.1, Ch.ro 0 (Sl Cw Cn Cy) Cn] ∧ Md (fun i => (cov []) i ∨ (fun b => blk (Sl Cp s161.1 Cq) = some b) i) σ190 σm] [fun _ => (Sl Cp s161.1 Cq), fun _ => (I s161.2), fun _ => (Sl Cp s161.1 Cq), fun _ => (I s161.2), fun _ => (I (w64 (s161.2 - 1))), fun _ => (Sl Cp s161.1 Cq), fun _ => (I s161.2), fun _ => (I (w64 (s161.2 - 1))), fun _ => (pt b195 o196), fun _ => (.agg #[(I x192.1), (Sl a199 x192.2.1 c200), (I x192.2.2)]), fun _ => (Sl Cp s161.1 Cq), fun _ => (I s161.2), fun _ => (pt b205 o206), fun _ => (.agg #[(I x202.1), (Sl a209 x202.2.1 c210), (I x202.2.2)]), fun _ => (pt b215 o216), fun _ => undef] () (by kernel_rfl) (by kernel_rfl) ?_ ?_ ?_
             ·intro σm m0
              exact ⟨H.grow (m0.mono fun _ h => h.elim), m0⟩
             ·refine ac rfl (by
                intro k _nm ρ σm hJ hoff hdep
                have e0 := look_off (N := 141) (hoff 0 rfl) rfl
                exact dp_v (v := (Sl Cp s161.1 Cq)) wn (rv_move e0) rfl hJ) ?_
              refine ac rfl (by
                intro k _nm ρ σm hJ hoff hdep
                have e12 := look_off (N := 141) (hoff 12 rfl) rfl
                exact dp_v (v := (I s161.2)) wn (rv_move e12) rfl hJ) ?_
              refine ac rfl (by
                intro k _nm ρ σm hJ hoff hdep
                have e0 := look_off (N := 141) (hoff 0 rfl) rfl
                exact dp_v (v := (Sl Cp s161.1 Cq)) wn (rv_move e0) rfl hJ) ?_
              refine ac rfl (by
                intro k _nm ρ σm hJ hoff hdep
                have e12 := look_off (N := 141) (hoff 12 rfl) rfl
                exact dp_v (v := (I s161.2)) wn (rv_move e12) rfl hJ) ?_
              refine ac rfl (by
                intro k _nm ρ σm hJ hoff hdep
                have e128 := hdep 3 rfl rfl 128 rfl
                exact dp_v (v := (I (w64 (s161.2 - 1)))) wn (rv_sub (a := s161.2) (b := 1) e128 rfl) rfl hJ) ?_
              refine ac rfl (by
                intro k _nm ρ σm hJ hoff hdep
                have e0 := look_off (N := 141) (hoff 0 rfl) rfl
                exact dp_v (v := (Sl Cp s161.1 Cq)) wn (rv_move e0) rfl hJ) ?_
              refine ac rfl (by
                intro k _nm ρ σm hJ hoff hdep
                have e12 := look_off (N := 141) (hoff 12 rfl) rfl
                exact dp_v (v := (I s161.2)) wn (rv_move e12) rfl hJ) ?_
              refine ac rfl (by
                intro k _nm ρ σm hJ hoff hdep
                have e131 := hdep 6 rfl rfl 131 rfl
                exact dp_v (v := (I (w64 (s161.2 - 1)))) wn (rv_sub (a := s161.2) (b := 1) e131 rfl) rfl hJ) ?_
              refine ac rfl (by
                intro k _nm ρ σm hJ hoff hdep
                have e130 := hdep 5 rfl rfl 130 rfl
                have e132 := hdep 7 rfl rfl 132 rfl
                exact dp_v (v := (pt b195 o196)) wn (rv_ix Try.underlying23 ti34 e130 e132 hi194) rfl hJ) ?_
              refine all_cons (by
                refine ⟨?_, ?_⟩
                ·intro _nm ρ σm hJ hoff hdep
                 have e133 := hdep 8 rfl rfl 133 rfl
                 obtain ⟨H, m⟩ := id hJ
                 replace hc198 := fun j hj => m.hcell (hc198 j hj) nocov
                 exact dp_v (v := (.agg #[(I x192.1), (Sl a199 x192.2.1 c200), (I x192.2.2)])) wn (rv_load Try.underlying34 rfl ti34 e133 hl197 hc198) rfl hJ
                trivial) ?_
              refine ac rfl (by
                intro k _nm ρ σm hJ hoff hdep
                have e0 := look_off (N := 141) (hoff 0 rfl) rfl
                exact dp_v (v := (Sl Cp s161.1 Cq)) wn (rv_move e0) rfl hJ) ?_
              refine ac rfl (by
                intro k _nm ρ σm hJ hoff hdep
                have e12 := look_off (N := 141) (hoff 12 rfl) rfl
                exact dp_v (v := (I s161.2)) wn (rv_move e12) rfl hJ) ?_
              refine ac rfl (by
                intro k _nm ρ σm hJ hoff hdep
                have e135 := hdep 10 rfl rfl 135 rfl
                have e136 := hdep 11 rfl rfl 136 rfl
                exact dp_v (v := (pt b205 o206)) wn (rv_ix Try.underlying23 ti34 e135 e136 hi204) rfl hJ) ?_
              refine all_cons (by
                refine ⟨?_, ?_⟩
                ·intro _nm ρ σm hJ hoff hdep
                 have e137 := hdep 12 rfl rfl 137 rfl
                 obtain ⟨H, m⟩ := id hJ
                 replace hc208 := fun j hj => m.hcell (hc208 j hj) nocov
                 exact dp_v (v := (.agg #[(I x202.1), (Sl a209 x202.2.1 c210), (I x202.2.2)])) wn (rv_load Try.underlying34 rfl ti34 e137 hl207 hc208) rfl hJ
                trivial) ?_
              refine ac rfl (by
                intro k _nm ρ σm hJ hoff hdep
                have e125 := hdep 0 rfl rfl 125 rfl
                have e126 := hdep 1 rfl rfl 126 rfl
                exact dp_v (v := (pt b215 o216)) wn (rv_ix Try.underlying23 ti34 e125 e126 hi214) rfl hJ) ?_
              refine all_cons (by
                refine ⟨?_, ?_⟩
                ·intro _nm ρ σm hJ hoff hdep
                 have e139 := hdep 14 rfl rfl 139 rfl
                 have e134 := hdep 9 rfl rfl 134 rfl
                 obtain ⟨H, m⟩ := id hJ
                 refine dp_exS wn rfl (ex_store_own (e' := (x192.1, x192.2.1, x192.2.2)) (vs := [(I x192.1), (Sl a199 x192.2.1 c200), (I x192.2.2)]) (k := 0) H (i := 6) rfl ti34 hx213 hi214 e139 rfl e134 rfl rfl (Nat.le_of_ble_eq_true rfl) (by simp [plain]) (by rintro _ ⟨_, _, rfl, rfl, ⟨_, _, rfl, ⟨_, rfl, hR219⟩, rfl⟩⟩; exact ⟨[(I x192.1)], [(Sl a199 x192.2.1 c200), (I x192.2.2)], rfl, rfl, ⟨[(Sl a199 x192.2.1 c200)], [(I x192.2.2)], rfl, ⟨_, rfl, (H.ro 1 rfl)⟩, rfl⟩⟩)) ?_
                 rintro σq ⟨H2, m2⟩
                 exact ⟨_, (), rfl, ⟨H2.sel' [0, 1, 2, 3, 4, 5, 6, 7] rfl rfl, m.comp m2⟩, stab [0, 1, 2, 3, 4, 5, 6, 7, 8, 9, 10, 11, 12, 13, 14] (by kernel_rfl) ⟨rfl, rfl, rfl, rfl, rfl, rfl, rfl, rfl, rfl, rfl, rfl, rfl, rfl, rfl, rfl, trivial⟩⟩
                trivial) ?_
              exact all_nil
             ·intro _nm ρ σ220 hJ hoff hrel
              have e0 := look_off (N := 141) (hoff 0 rfl) rfl
              have e1 := look_off (N := 141) (hoff 1 rfl) rfl
              have e2 := look_off (N := 141) (hoff 2 rfl) rfl
              have e3 := look_off (N := 141) (hoff 3 rfl) rfl
              have e9 := look_off (N := 141) (hoff 9 rfl) rfl
              have e10 := look_off (N := 141) (hoff 10 rfl) rfl
              have e12 := look_off (N := 141) (hoff 12 rfl) rfl
              have e127 := hrel 2 rfl 127 rfl
              have e129 := hrel 4 rfl 129 rfl
              have e138 := hrel 13 rfl 138 rfl
              obtain ⟨H, -⟩ := (show Hp S0 σ0 σ220 [Ch.own 0 0 (Sl Cp s161.1 Cq) (s161.1.set s161.2.toNat (x192.1, x192.2.1, x192.2.2)), Ch.ro 0 (Sl a209 x202.2.1 c210) x202.2.1, Ch.ro 0 (Sl a199 x192.2.1 c200) x192.2.1, Ch.bx Cr Cs Ct [(I Cm)] Cu Cv, Ch.bx Cz Da Db [(Sl Cw Cn Cy)] Dc Dd, Ch.ro 0 (Sl a182 x175.2.1 c183) x175.2.1, Ch.ro 0 (Sl a172 x165.2.1 c173) x165.2.1, Ch.ro 0 (Sl Cw Cn Cy) Cn] ∧ Md (fun i => (cov []) i ∨ (fun b => blk (Sl Cp s161.1 Cq) = some b) i) σ190 σ220 from hJ)
              clear hJ Hs
              rw [fr_lookL (L := [(0, (Sl Cp s161.1 Cq)), (1, (I Av)), (2, (I Aw)), (3, (.func (.func 88) #[] #[(pt Cs Ct), (pt Da Db)])), (9, (I o7)), (10, (I s2.2.2)), (12, (I s161.2)), (127, (Sl Cp s161.1 Cq)), (129, (I (w64 (s161.2 - 1)))), (138, (.agg #[(I x202.1), (Sl a209 x202.2.1 c210), (I x202.2.2)]))]) ⟨e0, e1, e2, e3, e9, e10, e12, e127, e129, e138, trivial⟩]
              clear hoff hrel e0 e1 e2 e3 e9 e10 e12 e127 e129 e138
              have hsl : (Sl Cp s161.1 Cq) = (Sl Cp (s161.1.set s161.2.toNat (x192.1, x192.2.1, x192.2.2)) Cq) := sl_len (by simp)
              rw [hsl]; rw [hsl] at H; clear hsl
              obtain ⟨x221, hx222, h'⟩ := bind_some h
              clear h
              have h := h'; clear h'
              obtain ⟨b224, o225, hi223, -⟩ := (H.own 0 rfl).ix hx222
              refine st (v := (pt b224 o225)) (rv_ix Try.underlying23 ti34 rfl rfl hi223) ?_
              refine st_exS (ex_store_own (e' := (x202.1, x202.2.1, x202.2.2)) (vs := [(I x202.1), (Sl a209 x202.2.1 c210), (I x202.2.2)]) (k := 0) H (i := 0) rfl ti34 hx222 hi223 rfl rfl rfl rfl rfl (Nat.le_of_ble_eq_true rfl) (by simp [plain]) (by rintro _ ⟨_, _, rfl, rfl, ⟨_, _, rfl, ⟨_, rfl, hR228⟩, rfl⟩⟩; exact ⟨[(I x202.1)], [(Sl a209 x202.2.1 c210), (I x202.2.2)], rfl, rfl, ⟨[(Sl a209 x202.2.1 c210)], [(I x202.2.2)], rfl, ⟨_, rfl, (H.ro 1 rfl)⟩, rfl⟩⟩)) wn ?_
              rintro σ229 ⟨H, -⟩
              have hsl : (Sl Cp (s161.1.set s161.2.toNat (x192.1, x192.2.1, x192.2.2)) Cq) = (Sl Cp ((s161.1.set s161.2.toNat (x192.1, x192.2.1, x192.2.2)).set (w64 (s161.2 - 1)).toNat (x202.1, x202.2.1, x202.2.2)) Cq) := sl_len List.length_set.symm
              rw [hsl]; rw [hsl] at H; clear hsl
              replace H : Hp S0 σ0 σ229 [Ch.own 0 0 (Sl Cp ((s161.1.set s161.2.toNat (x192.1, x192.2.1, x192.2.2)).set (w64 (s161.2 - 1)).toNat (x202.1, x202.2.1, x202.2.2)) Cq) ((s161.1.set s161.2.toNat (x192.1, x192.2.1, x192.2.2)).set (w64 (s161.2 - 1)).toNat (x202.1, x202.2.1, x202.2.2)), Ch.bx Cr Cs Ct [(I Cm)] Cu Cv, Ch.bx Cz Da Db [(Sl Cw Cn Cy)] Dc Dd, Ch.ro 0 (Sl Cw Cn Cy) Cn] := H.sel' [0, 3, 4, 7] rfl rfl
              refine w_end (q_blk (q_then (rg (st (v := (I s161.2)) (rv_move rfl) (st (v := (I (w64 (s161.2 + 1)))) (rv_add (a := s161.2) (b := 1) rfl rfl) (st (v := (I (w64 (s161.2 + 1)))) (rv_assign rfl) (w_end (q_then ?_))))))))
              obtain rfl := Option.some.inj h
              exact ⟨_, rfl, _, σ229, fr_join ⟨rfl, rfl, rfl, rfl, rfl, rfl, rfl, trivial⟩, rfl, H.sel' [0, 1, 3, 2] rfl rfl, ((List.length_set.trans (List.length_set.trans (hn163.trans (hn158.trans (List.length_set.trans (List.length_set.trans hn4)))))).trans (hn158.trans (List.length_set.trans (List.length_set.trans hn4))).symm)⟩
           ·replace h := bif_f hb164 h
            refine c_exit (q_then_x (q_then_x (q_blk_hit ?_)))
            obtain rfl := Option.some.inj h
            obtain rfl := hres _ rfl
            exact ⟨rfl, _, σ162, fr_join ⟨rfl, rfl, rfl, rfl, rfl, rfl, trivial⟩, rfl, H.sel' [0, 1, 2, 3] rfl rfl, ((hn163.trans (hn158.trans (List.length_set.trans (List.length_set.trans hn4)))).trans (hn158.trans (List.length_set.trans (List.length_set.trans hn4))).symm)⟩
          ·clear hj
           have h := h'
           clear h' H
           rintro e a w ⟨rfl, ρ, σ230, rfl, rfl, H, hn231⟩
           refine q_blk ?_
           obtain rfl := Option.some.inj h
           exact .inl ⟨_, rfl, rfl, _, σ230, fr_join ⟨rfl, rfl, rfl, rfl, rfl, rfl, trivial⟩, rfl, H.sel' [0, 1, 2, 3] rfl rfl, ((hn231.trans (hn158.trans (List.length_set.trans (List.length_set.trans hn4)))).trans hn4.symm)⟩
         ·replace h := bif_f hb159 h
          refine c_skip (q_blk ?_)
          obtain rfl := Option.some.inj h
          exact .inl ⟨_, rfl, rfl, _, σ157, fr_join ⟨rfl, rfl, rfl, rfl, rfl, rfl, trivial⟩, rfl, H.sel' [0, 1, 2, 3] rfl rfl, ((hn158.trans (List.length_set.trans (List.length_set.trans hn4))).trans hn4.symm)⟩
   ·clear hj
    have h := h'
    clear h' H
    rintro e a w (⟨t232, rfl, rfl, ρ, σ233, rfl, rfl, H, hn234⟩ | ⟨t235, rfl, rfl, ρ, σ236, rfl, rfl, H, hn237⟩)
    ·replace h := selim_l h
     refine q_then (rg (st (v := (I s2.2.2)) (rv_move rfl) (st (v := (I (w64 (s2.2.2 + 1)))) (rv_add (a := s2.2.2) (b := 1) rfl rfl) (st (v := (I (w64 (s2.2.2 + 1)))) (rv_assign rfl) (w_end (q_then ?_))))))
     obtain rfl := Option.some.inj h
     exact ⟨_, rfl, _, σ233, fr_join ⟨rfl, rfl, rfl, rfl, rfl, rfl, trivial⟩, rfl, H.sel' [0, 1, 2, 3] rfl rfl, (hn234.trans hn4)⟩
    ·replace h := selim_r h
     refine q_then_r (q_then_r (q_blk_r ?_))
     obtain rfl := Option.some.inj h
     obtain rfl := hres _ rfl
     exact .inr (⟨_, rfl, rfl, _, σ236, fr_join ⟨rfl, rfl, rfl, trivial⟩, rfl, H.sel' [0, 1, 2, 3] rfl rfl, (hn237.trans hn4)⟩)
  ·replace h := bif_f hb5 h
   refine c_exit (q_then_x (q_then_x (q_blk_hit ?_)))
   obtain rfl := Option.some.inj h
   obtain rfl := hres _ rfl
   exact .inl ⟨_, rfl, rfl, _, σ3, fr_join ⟨rfl, rfl, trivial⟩, rfl, H.sel' [0, 1, 2, 3] rfl rfl, hn4⟩
 ·clear hj
  have h := h'
  clear h' H
  rintro e a w (⟨t238, rfl, rfl, ρ, σ239, rfl, rfl, H, hn240⟩ | ⟨t241, rfl, rfl, ρ, σ242, rfl, rfl, H, hn243⟩)
  ·replace h := selim_l h
   refine q_then (c_seq (rg (st (v := (B false)) (rv_assign rfl) (w_end (q_then (c_ret ?_))))))
   obtain rfl := Option.some.inj h
   exact fin_ret (v := (B false)) (results_ok Try.results117 (res_tmp (v := (B false)) rfl res_nil) rfl) ⟨rfl, rfl, hn240⟩ (H.sel' [0, 1, 3] rfl rfl)
  ·replace h := selim_r h
   refine q_then_r ?_
   obtain rfl := Option.some.inj h
   exact fin_ret (v := (B t241.2)) (results_ok Try.results117 (res_tmp (v := (B t241.2)) rfl res_nil) rfl) ⟨rfl, rfl, hn243⟩ (H.sel' [0, 1, 3] rfl rfl)

theorem c_slices_partitionEqualCmpFunc_impl_Item__impl_sortByDistance_1 {Cl : List (Int × (List Int) × Int)} {Av : Int} {Aw : Int} {Fh : Int} {Di : Int} {Dj : List Int} {Cp : Option Addr} {Cq : Nat} {Dk Dm Dn : Nat} {Do Dq : List Value} {Dr : Option Addr} {Ds : Nat} {Dt Du Dv : Nat} {Dw Dx : List Value} {r : Int × (List (Int × (List Int) × Int))} (h : M.slices_partitionEqualCmpFunc_impl_Item__impl_sortByDistance_1 Cl Av Aw Fh Di Dj = some r) :
    Cal2 Try.prog 118 [(Sl Cp Cl Cq), (I Av), (I Aw), (I Fh), (.func (.func 88) #[] #[(pt Dm Dn), (pt Du Dv)])] [Ch.own 0 0 (Sl Cp Cl Cq) Cl, Ch.bx Dk Dm Dn [(I Di)] Do Dq, Ch.bx Dt Du Dv [(Sl Dr Dj Ds)] Dw Dx, Ch.ro 0 (Sl Dr Dj Ds) Dj] (fun n0 v L => v = (I r.1) ∧ L = [Ch.own 0 0 (Sl Cp r.2 Cq) r.2, Ch.bx Dk Dm Dn [(I Di)] Do Dq, Ch.bx Dt Du Dv [(Sl Dr Dj Ds)] Dw Dx] ∧ r.2.length = Cl.length) := by
 refine cal2 (n := 90) Try.func118 rfl rfl rfl rfl ?_
 intro S0 σ0 n0 hn0 H
 unfold M.slices_partitionEqualCmpFunc_impl_Item__impl_sortByDistance_1 at h
 refine c_seq (rg (st (v := (I 0)) (rv_assign rfl) (w_end (q_then (c_seq ?_)))))
 obtain ⟨x1, hx2, h'⟩ := bind_some h
 clear h
 have h := h'; clear h'
 obtain ⟨b4, o5, hi3, -⟩ := (H.own 0 rfl).ix hx2
 obtain ⟨_, ⟨_, _, rfl, rfl, ⟨_, _, rfl, ⟨_, rfl, hR10⟩, rfl⟩⟩, hl6, hc7⟩ := ((H.own 0 rfl).at hx2 hi3).cells
 obtain ⟨a8, c9, rfl⟩ := hR10.isSl
 replace H := H.add (d := Ch.ro 0 (Sl a8 x1.2.1 c9) x1.2.1) hR10 (fun _ h => h)
 clear hR10
 obtain ⟨x11, hx12, h'⟩ := bind_some h
 clear h
 have h := h'; clear h'
 obtain ⟨b14, o15, hi13, -⟩ := (H.own 1 rfl).ix hx12
 obtain ⟨_, ⟨_, _, rfl, rfl, ⟨_, _, rfl, ⟨_, rfl, hR20⟩, rfl⟩⟩, hl16, hc17⟩ := ((H.own 1 rfl).at hx12 hi13).cells
 obtain ⟨a18, c19, rfl⟩ := hR20.isSl
 replace H := H.add (d := Ch.ro 0 (Sl a18 x11.2.1 c19) x11.2.1) hR20 (fun _ h => h)
 clear hR20
 obtain ⟨x21, hx22, h'⟩ := bind_some h
 clear h
 have h := h'; clear h'
 obtain ⟨b24, o25, hi23, -⟩ := (H.own 2 rfl).ix hx22
 have Hs := H
 refine rg2 (σ := σ0) (Nm := Unit) 14 [13] [[false], [true]] [[(0, 0)], [(0, 0)], [(0, 0), (1, 1)], [(0, 0), (1, 1)], [(0, 0)], [(0, 0)], [(0, 0)], [(0, 0)], [(0, 0)], [(0, 0)], [(0, 0)], [(0, 0)], [(0, 0)], [(0, 1)]] 1 [fun _ => fun σm => Hp S0 σ0 σm [Ch.ro 0 (Sl a18 x11.2.1 c19) x11.2.1, Ch.ro 0 (Sl a8 x1.2.1 c9) x1.2.1, Ch.own 0 0 (Sl Cp Cl Cq) Cl, Ch.bx Dk Dm Dn [(I Di)] Do Dq, Ch.bx Dt Du Dv [(Sl Dr Dj Ds)] Dw Dx, Ch.ro 0 (Sl Dr Dj Ds) Dj] ∧ Md (cov []) σ0 σm, fun _ => fun σm => Hp S0 σ0 σm [Ch.own 0 0 (Sl Cp Cl Cq) (Cl.set Av.toNat (x1.1, x1.2.1, x1.2.2)), Ch.ro 0 (Sl a18 x11.2.1 c19) x11.2.1, Ch.ro 0 (Sl a8 x1.2.1 c9) x1.2.1, Ch.bx Dk Dm Dn [(I Di)] Do Dq, Ch.bx Dt Du Dv [(Sl Dr Dj Ds)] Dw Dx, Ch.ro 0 (Sl Dr Dj Ds) Dj] ∧ Md (fun i => (cov []) i ∨ (fun b => blk (Sl Cp Cl Cq) = some b) i) σ0 σm] [fun _ => (Sl Cp Cl Cq), fun _ => (I Av), fun _ => (Sl Cp Cl Cq), fun _ => (I Fh), fun _ => (Sl Cp Cl Cq), fun _ => (I Fh), fun _ => (pt b4 o5), fun _ => (.agg #[(I x1.1), (Sl a8 x1.2.1 c9), (I x1.2.2)]), fun _ => (Sl Cp Cl Cq), fun _ => (I Av), fun _ => (pt b14 o15), fun _ => (.agg #[(I x11.1), (Sl a18 x11.2.1 c19), (I x11.2.2)]), fun _ => (pt b24 o25), fun _ => undef] () (by kernel_rfl) (by kernel_rfl) ?_ ?_ ?_
 ·intro σm m0
  exact ⟨H.grow (m0.mono fun _ h => h.elim), m0⟩
 ·refine ac rfl (by
    intro k _nm ρ σm hJ hoff hdep
    have e0 := look_off (N := 90) (hoff 0 rfl) rfl
    exact dp_v (v := (Sl Cp Cl Cq)) wn (rv_move e0) rfl hJ) ?_
  refine ac rfl (by
    intro k _nm ρ σm hJ hoff hdep
    have e1 := look_off (N := 90) (hoff 1 rfl) rfl
    exact dp_v (v := (I Av)) wn (rv_move e1) rfl hJ) ?_
  refine ac rfl (by
    intro k _nm ρ σm hJ hoff hdep
    have e0 := look_off (N := 90) (hoff 0 rfl) rfl
    exact dp_v (v := (Sl Cp Cl Cq)) wn (rv_move e0) rfl hJ) ?_
  refine ac rfl (by
    intro k _nm ρ σm hJ hoff hdep
    have e3 := look_off (N := 90) (hoff 3 rfl) rfl
    exact dp_v (v := (I Fh)) wn (rv_move e3) rfl hJ) ?_
  refine ac rfl (by
    intro k _nm ρ σm hJ hoff hdep
    have e0 := look_off (N := 90) (hoff 0 rfl) rfl
    exact dp_v (v := (Sl Cp Cl Cq)) wn (rv_move e0) rfl hJ) ?_
  refine ac rfl (by
    intro k _nm ρ σm hJ hoff hdep
    have e3 := look_off (N := 90) (hoff 3 rfl) rfl
    exact dp_v (v := (I Fh)) wn (rv_move e3) rfl hJ) ?_
  refine ac rfl (by
    intro k _nm ρ σm hJ hoff hdep
    have e17 := hdep 4 rfl rfl 17 rfl
    have e18 := hdep 5 rfl rfl 18 rfl
    exact dp_v (v := (pt b4 o5)) wn (rv_ix Try.underlying23 ti34 e17 e18 hi3) rfl hJ) ?_
  refine all_cons (by
    refine ⟨?_, ?_⟩
    ·intro _nm ρ σm hJ hoff hdep
     have e19 := hdep 6 rfl rfl 19 rfl
     obtain ⟨H, m⟩ := id hJ
     replace hc7 := fun j hj => m.hcell (hc7 j hj) nocov
     exact dp_v (v := (.agg #[(I x1.1), (Sl a8 x1.2.1 c9), (I x1.2.2)])) wn (rv_load Try.underlying34 rfl ti34 e19 hl6 hc7) rfl hJ
    trivial) ?_
  refine ac rfl (by
    intro k _nm ρ σm hJ hoff hdep
    have e0 := look_off (N := 90) (hoff 0 rfl) rfl
    exact dp_v (v := (Sl Cp Cl Cq)) wn (rv_move e0) rfl hJ) ?_
  refine ac rfl (by
    intro k _nm ρ σm hJ hoff hdep
    have e1 := look_off (N := 90) (hoff 1 rfl) rfl
    exact dp_v (v := (I Av)) wn (rv_move e1) rfl hJ) ?_
  refine ac rfl (by
    intro k _nm ρ σm hJ hoff hdep
    have e21 := hdep 8 rfl rfl 21 rfl
    have e22 := hdep 9 rfl rfl 22 rfl
    exact dp_v (v := (pt b14 o15)) wn (rv_ix Try.underlying23 ti34 e21 e22 hi13) rfl hJ) ?_
  refine all_cons (by
    refine ⟨?_, ?_⟩
    ·intro _nm ρ σm hJ hoff hdep
     have e23 := hdep 10 rfl rfl 23 rfl
     obtain ⟨H, m⟩ := id hJ
     replace hc17 := fun j hj => m.hcell (hc17 j hj) nocov
     exact dp_v (v := (.agg #[(I x11.1), (Sl a18 x11.2.1 c19), (I x11.2.2)])) wn (rv_load Try.underlying34 rfl ti34 e23 hl16 hc17) rfl hJ
    trivial) ?_
  refine ac rfl (by
    intro k _nm ρ σm hJ hoff hdep
    have e13 := hdep 0 rfl rfl 13 rfl
    have e14 := hdep 1 rfl rfl 14 rfl
    exact dp_v (v := (pt b24 o25)) wn (rv_ix Try.underlying23 ti34 e13 e14 hi23) rfl hJ) ?_
  refine all_cons (by
    refine ⟨?_, ?_⟩
    ·intro _nm ρ σm hJ hoff hdep
     have e25 := hdep 12 rfl rfl 25 rfl
     have e20 := hdep 7 rfl rfl 20 rfl
     obtain ⟨H, m⟩ := id hJ
     refine dp_exS wn rfl (ex_store_own (e' := (x1.1, x1.2.1, x1.2.2)) (vs := [(I x1.1), (Sl a8 x1.2.1 c9), (I x1.2.2)]) (k := 0) H (i := 2) rfl ti34 hx22 hi23 e25 rfl e20 rfl rfl (Nat.le_of_ble_eq_true rfl) (by simp [plain]) (by rintro _ ⟨_, _, rfl, rfl, ⟨_, _, rfl, ⟨_, rfl, hR28⟩, rfl⟩⟩; exact ⟨[(I x1.1)], [(Sl a8 x1.2.1 c9), (I x1.2.2)], rfl, rfl, ⟨[(Sl a8 x1.2.1 c9)], [(I x1.2.2)], rfl, ⟨_, rfl, (H.ro 1 rfl)⟩, rfl⟩⟩)) ?_
     rintro σq ⟨H2, m2⟩
     exact ⟨_, (), rfl, ⟨H2.sel' [0, 1, 2, 3, 4, 5] rfl rfl, m.comp m2⟩, stab [0, 1, 2, 3, 4, 5, 6, 7, 8, 9, 10, 11, 12] (by kernel_rfl) ⟨rfl, rfl, rfl, rfl, rfl, rfl, rfl, rfl, rfl, rfl, rfl, rfl, rfl, trivial⟩⟩
    trivial) ?_
  exact all_nil
 ·intro _nm ρ σ29 hJ hoff hrel
  have e0 := look_off (N := 90) (hoff 0 rfl) rfl
  have e1 := look_off (N := 90) (hoff 1 rfl) rfl
  have e2 := look_off (N := 90) (hoff 2 rfl) rfl
  have e4 := look_off (N := 90) (hoff 4 rfl) rfl
  have e15 := hrel 2 rfl 15 rfl
  have e16 := hrel 3 rfl 16 rfl
  have e24 := hrel 11 rfl 24 rfl
  obtain ⟨H, -⟩ := (show Hp S0 σ0 σ29 [Ch.own 0 0 (Sl Cp Cl Cq) (Cl.set Av.toNat (x1.1, x1.2.1, x1.2.2)), Ch.ro 0 (Sl a18 x11.2.1 c19) x11.2.1, Ch.ro 0 (Sl a8 x1.2.1 c9) x1.2.1, Ch.bx Dk Dm Dn [(I Di)] Do Dq, Ch.bx Dt Du Dv [(Sl Dr Dj Ds)] Dw Dx, Ch.ro 0 (Sl Dr Dj Ds) Dj] ∧ Md (fun i => (cov []) i ∨ (fun b => blk (Sl Cp Cl Cq) = some b) i) σ0 σ29 from hJ)
  clear hJ Hs
  rw [fr_lookL (L := [(0, (Sl Cp Cl Cq)), (1, (I Av)), (2, (I Aw)), (4, (.func (.func 88) #[] #[(pt Dm Dn), (pt Du Dv)])), (15, (Sl Cp Cl Cq)), (16, (I Fh)), (24, (.agg #[(I x11.1), (Sl a18 x11.2.1 c19), (I x11.2.2)]))]) ⟨e0, e1, e2, e4, e15, e16, e24, trivial⟩]
  clear hoff hrel e0 e1 e2 e4 e15 e16 e24
  have hsl : (Sl Cp Cl Cq) = (Sl Cp (Cl.set Av.toNat (x1.1, x1.2.1, x1.2.2)) Cq) := sl_len (by simp)
  rw [hsl]; rw [hsl] at H; clear hsl
  obtain ⟨x30, hx31, h'⟩ := bind_some h
  clear h
  have h := h'; clear h'
  obtain ⟨b33, o34, hi32, -⟩ := (H.own 0 rfl).ix hx31
  refine st (v := (pt b33 o34)) (rv_ix Try.underlying23 ti34 rfl rfl hi32) ?_
  refine st_exS (ex_store_own (e' := (x11.1, x11.2.1, x11.2.2)) (vs := [(I x11.1), (Sl a18 x11.2.1 c19), (I x11.2.2)]) (k := 0) H (i := 0) rfl ti34 hx31 hi32 rfl rfl rfl rfl rfl (Nat.le_of_ble_eq_true rfl) (by simp [plain]) (by rintro _ ⟨_, _, rfl, rfl, ⟨_, _, rfl, ⟨_, rfl, hR37⟩, rfl⟩⟩; exact ⟨[(I x11.1)], [(Sl a18 x11.2.1 c19), (I x11.2.2)], rfl, rfl, ⟨[(Sl a18 x11.2.1 c19)], [(I x11.2.2)], rfl, ⟨_, rfl, (H.ro 1 rfl)⟩, rfl⟩⟩)) wn ?_
  rintro σ38 ⟨H, -⟩
  have hsl : (Sl Cp (Cl.set Av.toNat (x1.1, x1.2.1, x1.2.2)) Cq) = (Sl Cp ((Cl.set Av.toNat (x1.1, x1.2.1, x1.2.2)).set Fh.toNat (x11.1, x11.2.1, x11.2.2)) Cq) := sl_len List.length_set.symm
  rw [hsl]; rw [hsl] at H; clear hsl
  refine w_end (q_then (c_seq (rg (st (v := (I Av)) (rv_move rfl) (st (v := (I (w64 (Av + 1)))) (rv_add (a := Av) (b := 1) rfl rfl) (st (v := (I Aw)) (rv_move rfl) (st (v := (I (w64 (Aw - 1)))) (rv_sub (a := Aw) (b := 1) rfl rfl) (st (v := (I (w64 (Av + 1)))) (rv_assign rfl) (st (v := (I (w64 (Aw - 1)))) (rv_assign rfl) (w_end (q_then ?_)))))))))))
  refine c_seq ?_
  obtain ⟨o39, hj, h'⟩ := bind_some h
  clear h
  refine c_cut (fun e a w => e = .normal ∧ ∃ (ρ : Nat → Value) (σ : St), a = fr 90 (updL ρ [(0, (Sl Cp o39.1 Cq)), (4, (.func (.func 88) #[] #[(pt Dm Dn), (pt Du Dv)])), (11, (I o39.2))]) ∧ w = σ.w ∧ Hp S0 σ0 σ [Ch.own 0 0 (Sl Cp o39.1 Cq) o39.1, Ch.bx Dk Dm Dn [(I Di)] Do Dq, Ch.ro 0 (Sl Dr Dj Ds) Dj, Ch.bx Dt Du Dv [(Sl Dr Dj Ds)] Dw Dx] ∧ o39.1.length = ((Cl.set Av.toNat (x1.1, x1.2.1, x1.2.2)).set Fh.toNat (x11.1, x11.2.1, x11.2.2)).length) ?_ ?_
  ·clear h'
   rename _ = some o39 => h
   refine c_blk (wp_loopM _ h (fun s40 a w => ∃ (ρ : Nat → Value) (σ : St), a = fr 90 (updL ρ [(0, (Sl Cp s40.1 Cq)), (1, (I Av)), (4, (.func (.func 88) #[] #[(pt Dm Dn), (pt Du Dv)])), (11, (I s40.2.1)), (12, (I s40.2.2))]) ∧ w = σ.w ∧ Hp S0 σ0 σ [Ch.own 0 0 (Sl Cp s40.1 Cq) s40.1, Ch.bx Dk Dm Dn [(I Di)] Do Dq, Ch.ro 0 (Sl Dr Dj Ds) Dj, Ch.bx Dt Du Dv [(Sl Dr Dj Ds)] Dw Dx] ∧ s40.1.length = ((Cl.set Av.toNat (x1.1, x1.2.1, x1.2.2)).set Fh.toNat (x11.1, x11.2.1, x11.2.2)).length) ⟨_, σ38, fr_join ⟨rfl, rfl, rfl, rfl, rfl, trivial⟩, rfl, H.sel' [0, 3, 5, 4] rfl rfl, rfl⟩ ?_)
   clear h H
   rintro s40 a w o ⟨ρ, σ41, rfl, rfl, H, hn42⟩ h hres
   refine c_blk (c_seq ?_)
   obtain ⟨o43, hj, h'⟩ := bind_some h
   clear h
   refine c_cut (fun e a w => e = .normal ∧ ∃ (ρ : Nat → Value) (σ : St), a = fr 90 (updL ρ [(0, (Sl Cp s40.1 Cq)), (1, (I Av)), (4, (.func (.func 88) #[] #[(pt Dm Dn), (pt Du Dv)])), (11, (I o43)), (12, (I s40.2.2))]) ∧ w = σ.w ∧ Hp S0 σ0 σ [Ch.own 0 0 (Sl Cp s40.1 Cq) s40.1, Ch.bx Dk Dm Dn [(I Di)] Do Dq, Ch.ro 0 (Sl Dr Dj Ds) Dj, Ch.bx Dt Du Dv [(Sl Dr Dj Ds)] Dw Dx]) ?_ ?_
   ·clear h'
    rename _ = some o43 => h
    refine c_blk (wp_loopM _ h (fun s44 a w => ∃ (ρ : Nat → Value) (σ : St), a = fr 90 (updL ρ [(0, (Sl Cp s40.1 Cq)), (1, (I Av)), (4, (.func (.func 88) #[] #[(pt Dm Dn), (pt Du Dv)])), (11, (I s44)), (12, (I s40.2.2))]) ∧ w = σ.w ∧ Hp S0 σ0 σ [Ch.own 0 0 (Sl Cp s40.1 Cq) s40.1, Ch.bx Dk Dm Dn [(I Di)] Do Dq, Ch.ro 0 (Sl Dr Dj Ds) Dj, Ch.bx Dt Du Dv [(Sl Dr Dj Ds)] Dw Dx]) ⟨_, σ41, fr_join ⟨rfl, rfl, rfl, rfl, rfl, trivial⟩, rfl, H.sel' [0, 1, 2, 3] rfl rfl⟩ ?_)
    clear h H
    rintro s44 a w o ⟨ρ, σ45, rfl, rfl, H⟩ h hres
    refine c_seq (c_seq ?_)
    obtain ⟨o46, hj, h'⟩ := bind_some h
    clear h
    refine c_cut (fun e a w => e = .normal ∧ ∃ (ρ : Nat → Value) (σ : St), a = fr 90 (updL ρ [(0, (Sl Cp s40.1 Cq)), (1, (I Av)), (4, (.func (.func 88) #[] #[(pt Dm Dn), (pt Du Dv)])), (11, (I s44)), (12, (I s40.2.2)), (47, (B o46))]) ∧ w = σ.w ∧ Hp S0 σ0 σ [Ch.own 0 0 (Sl Cp s40.1 Cq) s40.1, Ch.bx Dk Dm Dn [(I Di)] Do Dq, Ch.ro 0 (Sl Dr Dj Ds) Dj, Ch.bx Dt Du Dv [(Sl Dr Dj Ds)] Dw Dx]) ?_ ?_
    ·clear h'
     rename _ = some o46 => h
     refine rgP (σ := σ45) 13 (by kernel_rfl) (by kernel_rfl) (by kernel_rfl) ?_
     refine sq (v := (I s44)) (rv_move rfl) (sq (v := (I s40.2.2)) (rv_move rfl) (sq (v := (B (decide (s44 ≤ s40.2.2)))) (rv_leq (a := s44) (b := s40.2.2) rfl rfl) (sq (v := (B (decide (s44 ≤ s40.2.2)))) (rv_move rfl) ?_)))
     rcases Bool.eq_false_or_eq_true (decide (s44 ≤ s40.2.2)) with hb47 | hb47
     ·replace h := bif_t hb47 h
      refine sq_g (v := (.func (.func 88) #[] #[(pt Dm Dn), (pt Du Dv)])) (congrArg some hb47) (rv_move rfl) (sq_g (v := (Sl Cp s40.1 Cq)) (congrArg some hb47) (rv_move rfl) (sq_g (v := (I Av)) (congrArg some hb47) (rv_move rfl) ?_))
      obtain ⟨x48, hx49, h'⟩ := bind_some h
      clear h
      have h := h'; clear h'
      obtain ⟨b51, o52, hi50, -⟩ := (H.own 0 rfl).ix hx49
      refine sq_g (v := (pt b51 o52)) (congrArg some hb47) (rv_ix Try.underlying23 ti34 rfl rfl hi50) ?_
      obtain ⟨_, ⟨_, _, rfl, rfl, ⟨_, _, rfl, ⟨_, rfl, hR57⟩, rfl⟩⟩, hl53, hc54⟩ := ((H.own 0 rfl).at hx49 hi50).cells
      obtain ⟨a55, c56, rfl⟩ := hR57.isSl
      replace H := H.add (d := Ch.ro 0 (Sl a55 x48.2.1 c56) x48.2.1) hR57 (fun _ h => h)
      clear hR57
      refine sq_g (v := (.agg #[(I x48.1), (Sl a55 x48.2.1 c56), (I x48.2.2)])) (congrArg some hb47) (rv_load Try.underlying34 rfl ti34 rfl hl53 hc54) (sq_g (v := (Sl Cp s40.1 Cq)) (congrArg some hb47) (rv_move rfl) (sq_g (v := (I s44)) (congrArg some hb47) (rv_move rfl) ?_))
      obtain ⟨x58, hx59, h'⟩ := bind_some h
      clear h
      have h := h'; clear h'
      obtain ⟨b61, o62, hi60, -⟩ := (H.own 1 rfl).ix hx59
      refine sq_g (v := (pt b61 o62)) (congrArg some hb47) (rv_ix Try.underlying23 ti34 rfl rfl hi60) ?_
      obtain ⟨_, ⟨_, _, rfl, rfl, ⟨_, _, rfl, ⟨_, rfl, hR67⟩, rfl⟩⟩, hl63, hc64⟩ := ((H.own 1 rfl).at hx59 hi60).cells
      obtain ⟨a65, c66, rfl⟩ := hR67.isSl
      replace H := H.add (d := Ch.ro 0 (Sl a65 x58.2.1 c66) x58.2.1) hR67 (fun _ h => h)
      clear hR67
      refine sq_g (v := (.agg #[(I x58.1), (Sl a65 x58.2.1 c66), (I x58.2.2)])) (congrArg some hb47) (rv_load Try.underlying34 rfl ti34 rfl hl63 hc64) (sq_end ?_)
      intro σ68 hm69
      replace H := H.grow (hm69.mono fun _ h => h); clear hm69
      obtain ⟨r70, hx71, h'⟩ := bind_some h
      clear h
      have h := h'; clear h'
      have hc72 := c_impl_sortByDistance_1__p3__p24 (Ag := a55) (Ah := c56) (Bv := a65) (Bw := c66) (By := Dk) (Bz := Dm) (Ca := Dn) (Cb := Do) (Cc := Dq) (Cf := Dt) (Cg := Du) (Ci := Dv) (Cj := Dw) (Ck := Dx) (Cd := Dr) (Ce := Ds) hx71
      refine st_call (cx_call hc72 (ent_v (cap := [(pt Dm Dn), (pt Du Dv)]) hc72.fn rfl rfl) hn0 (H.sel' [1, 0, 3, 5, 4, 0, 1, 2, 4] rfl rfl : Hp S0 σ0 _ ([_, _, _, _, _] ++ _))) (wanted_yes rfl (by exact (congrArg some hb47))) ?_
      rintro _ σ73 ⟨_, ⟨rfl, rfl⟩, H, -⟩
      replace H : Hp _ _ _ [_, _, _, _, _, _] := H
      refine st_g (v := (B (decide (r70 < 0)))) (congrArg some hb47) (rv_lss (a := r70) (b := 0) rfl rfl) (st_g (v := (B (!(decide (r70 < 0))))) (congrArg some hb47) (rv_not rfl) (st (v := (B (!(decide (r70 < 0))))) (rv_pick_t (congrArg B hb47) rfl) (w_end ?_)))
      obtain rfl := Option.some.inj h
      exact ⟨rfl, _, σ73, fr_join ⟨rfl, rfl, rfl, rfl, rfl, rfl, trivial⟩, rfl, H.sel' [4, 0, 5, 1] rfl rfl⟩
     ·replace h := bif_f hb47 h
      refine sq_skip (congrArg some hb47) (sq_skip (congrArg some hb47) (sq_skip (congrArg some hb47) (sq_skip (congrArg some hb47) (sq_skip (congrArg some hb47) (sq_skip (congrArg some hb47) (sq_skip (congrArg some hb47) (sq_skip (congrArg some hb47) (sq_skip (congrArg some hb47) (sq_end ?_)))))))))
      intro σ74 hm75
      replace H := H.grow (hm75.mono fun _ h => h); clear hm75
      refine st_skip (congrArg some hb47) (st_skip (congrArg some hb47) (st_skip (congrArg some hb47) (st (v := (B false)) (rv_pick_f (congrArg B hb47) rfl) (w_end ?_))))
      obtain rfl := Option.some.inj h
      exact ⟨rfl, _, σ74, fr_join ⟨rfl, rfl, rfl, rfl, rfl, rfl, trivial⟩, rfl, H.sel' [0, 1, 2, 3] rfl rfl⟩
    ·clear hj
     have h := h'
     clear h' H
     rintro e a w ⟨rfl, ρ, σ76, rfl, rfl, H⟩
     refine q_then ?_
     refine cd_cond o46 rfl (fun hb77 => ?_) (fun hb77 => ?_)
     ·replace h := bif_t hb77 h
      refine c_skip (q_then (c_blk (rg (st (v := (I s44)) (rv_move rfl) (st (v := (I (w64 (s44 + 1)))) (rv_add (a := s44) (b := 1) rfl rfl) (st (v := (I (w64 (s44 + 1)))) (rv_assign rfl) (w_end (q_blk (q_then ?_)))))))))
      obtain rfl := Option.some.inj h
      exact ⟨_, rfl, _, σ76, fr_join ⟨rfl, rfl, rfl, rfl, rfl, trivial⟩, rfl, H.sel' [0, 1, 2, 3] rfl rfl⟩
     ·replace h := bif_f hb77 h
      refine c_exit (q_then_x (q_then_x (q_blk_hit ?_)))
      obtain rfl := Option.some.inj h
      obtain rfl := hres _ rfl
      exact ⟨rfl, _, σ76, fr_join ⟨rfl, rfl, rfl, rfl, rfl, trivial⟩, rfl, H.sel' [0, 1, 2, 3] rfl rfl⟩
   ·clear hj
    have h := h'
    clear h' H
    rintro e a w ⟨rfl, ρ, σ78, rfl, rfl, H⟩
    refine q_then (c_seq ?_)
    obtain ⟨o79, hj, h'⟩ := bind_some h
    clear h
    refine c_cut (fun e a w => e = .normal ∧ ∃ (ρ : Nat → Value) (σ : St), a = fr 90 (updL ρ [(0, (Sl Cp s40.1 Cq)), (1, (I Av)), (4, (.func (.func 88) #[] #[(pt Dm Dn), (pt Du Dv)])), (11, (I o43)), (12, (I o79))]) ∧ w = σ.w ∧ Hp S0 σ0 σ [Ch.own 0 0 (Sl Cp s40.1 Cq) s40.1, Ch.bx Dk Dm Dn [(I Di)] Do Dq, Ch.ro 0 (Sl Dr Dj Ds) Dj, Ch.bx Dt Du Dv [(Sl Dr Dj Ds)] Dw Dx]) ?_ ?_
    ·clear h'
     rename _ = some o79 => h
     refine c_blk (wp_loopM _ h (fun s80 a w => ∃ (ρ : Nat → Value) (σ : St), a = fr 90 (updL ρ [(0, (Sl Cp s40.1 Cq)), (1, (I Av)), (4, (.func (.func 88) #[] #[(pt Dm Dn), (pt Du Dv)])), (11, (I o43)), (12, (I s80))]) ∧ w = σ.w ∧ Hp S0 σ0 σ [Ch.own 0 0 (Sl Cp s40.1 Cq) s40.1, Ch.bx Dk Dm Dn [(I Di)] Do Dq, Ch.ro 0 (Sl Dr Dj Ds) Dj, Ch.bx Dt Du Dv [(Sl Dr Dj Ds)] Dw Dx]) ⟨_, σ78, fr_join ⟨rfl, rfl, rfl, rfl, rfl, trivial⟩, rfl, H.sel' [0, 1, 2, 3] rfl rfl⟩ ?_)
     clear h H
     rintro s80 a w o ⟨ρ, σ81, rfl, rfl, H⟩ h hres
     refine c_seq (c_seq ?_)
     obtain ⟨o82, hj, h'⟩ := bind_some h
     clear h
     refine c_cut (fun e a w => e = .normal ∧ ∃ (ρ : Nat → Value) (σ : St), a = fr 90 (updL ρ [(0, (Sl Cp s40.1 Cq)), (1, (I Av)), (4, (.func (.func 88) #[] #[(pt Dm Dn), (pt Du Dv)])), (11, (I o43)), (12, (I s80)), (65, (B o82))]) ∧ w = σ.w ∧ Hp S0 σ0 σ [Ch.own 0 0 (Sl Cp s40.1 Cq) s40.1, Ch.bx Dk Dm Dn [(I Di)] Do Dq, Ch.ro 0 (Sl Dr Dj Ds) Dj, Ch.bx Dt Du Dv [(Sl Dr Dj Ds)] Dw Dx]) ?_ ?_
     ·clear h'
      rename _ = some o82 => h
      refine rgP (σ := σ81) 13 (by kernel_rfl) (by kernel_rfl) (by kernel_rfl) ?_
      refine sq (v := (I o43)) (rv_move rfl) (sq (v := (I s80)) (rv_move rfl) (sq (v := (B (decide (o43 ≤ s80)))) (rv_leq (a := o43) (b := s80) rfl rfl) (sq (v := (B (decide (o43 ≤ s80)))) (rv_move rfl) ?_)))
      rcases Bool.eq_false_or_eq_true (decide (o43 ≤ s80)) with hb83 | hb83
      ·replace h := bif_t hb83 h
       refine sq_g (v := (.func (.func 88) #[] #[(pt Dm Dn), (pt Du Dv)])) (congrArg some hb83) (rv_move rfl) (sq_g (v := (Sl Cp s40.1 Cq)) (congrArg some hb83) (rv_move rfl) (sq_g (v := (I Av)) (congrArg some hb83) (rv_move rfl) ?_))
       obtain ⟨x84, hx85, h'⟩ := bind_some h
       clear h
       have h := h'; clear h'
       obtain ⟨b87, o88, hi86, -⟩ := (H.own 0 rfl).ix hx85
       refine sq_g (v := (pt b87 o88)) (congrArg some hb83) (rv_ix Try.underlying23 ti34 rfl rfl hi86) ?_
       obtain ⟨_, ⟨_, _, rfl, rfl, ⟨_, _, rfl, ⟨_, rfl, hR93⟩, rfl⟩⟩, hl89, hc90⟩ := ((H.own 0 rfl).at hx85 hi86).cells
       obtain ⟨a91, c92, rfl⟩ := hR93.isSl
       replace H := H.add (d := Ch.ro 0 (Sl a91 x84.2.1 c92) x84.2.1) hR93 (fun _ h => h)
       clear hR93
       refine sq_g (v := (.agg #[(I x84.1), (Sl a91 x84.2.1 c92), (I x84.2.2)])) (congrArg some hb83) (rv_load Try.underlying34 rfl ti34 rfl hl89 hc90) (sq_g (v := (Sl Cp s40.1 Cq)) (congrArg some hb83) (rv_move rfl) (sq_g (v := (I s80)) (congrArg some hb83) (rv_move rfl) ?_))
       obtain ⟨x94, hx95, h'⟩ := bind_some h
       clear h
       have h := h'; clear h'
       obtain ⟨b97, o98, hi96, -⟩ := (H.own 1 rfl).ix hx95
       refine sq_g (v := (pt b97 o98)) (congrArg some hb83) (rv_ix Try.underlying23 ti34 rfl rfl hi96) ?_
       obtain ⟨_, ⟨_, _, rfl, rfl, ⟨_, _, rfl, ⟨_, rfl, hR103⟩, rfl⟩⟩, hl99, hc100⟩ := ((H.own 1 rfl).at hx95 hi96).cells
       obtain ⟨a101, c102, rfl⟩ := hR103.isSl
       replace H := H.add (d := Ch.ro 0 (Sl a101 x94.2.1 c102) x94.2.1) hR103 (fun _ h => h)
       clear hR103
       refine sq_g (v := (.agg #[(I x94.1), (Sl a101 x94.2.1 c102), (I x94.2.2)])) (congrArg some hb83) (rv_load Try.underlying34 rfl ti34 rfl hl99 hc100) (sq_end ?_)
       intro σ104 hm105
       replace H := H.grow (hm105.mono fun _ h => h); clear hm105
       obtain ⟨r106, hx107, h'⟩ := bind_some h
       clear h
       have h := h'; clear h'
       have hc108 := c_impl_sortByDistance_1__p3__p24 (Ag := a91) (Ah := c92) (Bv := a101) (Bw := c102) (By := Dk) (Bz := Dm) (Ca := Dn) (Cb := Do) (Cc := Dq) (Cf := Dt) (Cg := Du) (Ci := Dv) (Cj := Dw) (Ck := Dx) (Cd := Dr) (Ce := Ds) hx107
       refine st_call (cx_call hc108 (ent_v (cap := [(pt Dm Dn), (pt Du Dv)]) hc108.fn rfl rfl) hn0 (H.sel' [1, 0, 3, 5, 4, 0, 1, 2, 4] rfl rfl : Hp S0 σ0 _ ([_, _, _, _, _] ++ _))) (wanted_yes rfl (by exact (congrArg some hb83))) ?_
       rintro _ σ109 ⟨_, ⟨rfl, rfl⟩, H, -⟩
       replace H : Hp _ _ _ [_, _, _, _, _, _] := H
       refine st_g (v := (B (decide (r106 < 0)))) (congrArg some hb83) (rv_lss (a := r106) (b := 0) rfl rfl) (st (v := (B (decide (r106 < 0)))) (rv_pick_t (congrArg B hb83) rfl) (w_end ?_))
       obtain rfl := Option.some.inj h
       exact ⟨rfl, _, σ109, fr_join ⟨rfl, rfl, rfl, rfl, rfl, rfl, trivial⟩, rfl, H.sel' [4, 0, 5, 1] rfl rfl⟩
      ·replace h := bif_f hb83 h
       refine sq_skip (congrArg some hb83) (sq_skip (congrArg some hb83) (sq_skip (congrArg some hb83) (sq_skip (congrArg some hb83) (sq_skip (congrArg some hb83) (sq_skip (congrArg some hb83) (sq_skip (congrArg some hb83) (sq_skip (congrArg some hb83) (sq_skip (congrArg some hb83) (sq_end ?_)))))))))
       intro σ110 hm111
       replace H := H.grow (hm111.mono fun _ h => h); clear hm111
       refine st_skip (congrArg some hb83) (st_skip (congrArg some hb83) (st (v := (B false)) (rv_pick_f (congrArg B hb83) rfl) (w_end ?_)))
       obtain rfl := Option.some.inj h
       exact ⟨rfl, _, σ110, fr_join ⟨rfl, rfl, rfl, rfl, rfl, rfl, trivial⟩, rfl, H.sel' [0, 1, 2, 3] rfl rfl⟩
     ·clear hj
      have h := h'
      clear h' H
      rintro e a w ⟨rfl, ρ, σ112, rfl, rfl, H⟩
      refine q_then ?_
      refine cd_cond o82 rfl (fun hb113 => ?_) (fun hb113 => ?_)
      ·replace h := bif_t hb113 h
       refine c_skip (q_then (c_blk (rg (st (v := (I s80)) (rv_move rfl) (st (v := (I (w64 (s80 - 1)))) (rv_sub (a := s80) (b := 1) rfl rfl) (st (v := (I (w64 (s80 - 1)))) (rv_assign rfl) (w_end (q_blk (q_then ?_)))))))))
       obtain rfl := Option.some.inj h
       exact ⟨_, rfl, _, σ112, fr_join ⟨rfl, rfl, rfl, rfl, rfl, trivial⟩, rfl, H.sel' [0, 1, 2, 3] rfl rfl⟩
      ·replace h := bif_f hb113 h
       refine c_exit (q_then_x (q_then_x (q_blk_hit ?_)))
       obtain rfl := Option.some.inj h
       obtain rfl := hres _ rfl
       exact ⟨rfl, _, σ112, fr_join ⟨rfl, rfl, rfl, rfl, rfl, trivial⟩, rfl, H.sel' [0, 1, 2, 3] rfl rfl⟩
    ·clear hj
     have h := h'
     clear h' H
     rintro e a w ⟨rfl, ρ, σ114, rfl, rfl, H⟩
     refine q_then (c_seq (c_seq (rg (st (v := (I o43)) (rv_move rfl) (st (v := (I o79)) (rv_move rfl) (st (v := (B (decide (o79 < o43)))) (rv_gtr (a := o43) (b := o79) rfl rfl) (w_end (q_then ?_))))))))
     refine cd_cond (decide (o79 < o43)) rfl (fun hb115 => ?_) (fun hb115 => ?_)
     ·replace h := bif_t hb115 h
      refine c_exit (q_then_x ?_)
      refine q_blk_x (by decide) ?_
      refine q_then_x (q_blk_hit ?_)
      obtain rfl := Option.some.inj h
      obtain rfl := hres _ rfl
      exact ⟨rfl, _, σ114, fr_join ⟨rfl, rfl, rfl, trivial⟩, rfl, H.sel' [0, 1, 2, 3] rfl rfl, ((hn42.trans (List.length_set.trans List.length_set)).trans (List.length_set.trans List.length_set).symm)⟩
     ·replace h := bif_f hb115 h
      refine c_skip (q_then (c_seq ?_))
      obtain ⟨x116, hx117, h'⟩ := bind_some h
      clear h
      have h := h'; clear h'
      obtain ⟨b119, o120, hi118, -⟩ := (H.own 0 rfl).ix hx117
      obtain ⟨_, ⟨_, _, rfl, rfl, ⟨_, _, rfl, ⟨_, rfl, hR125⟩, rfl⟩⟩, hl121, hc122⟩ := ((H.own 0 rfl).at hx117 hi118).cells
      obtain ⟨a123, c124, rfl⟩ := hR125.isSl
      replace H := H.add (d := Ch.ro 0 (Sl a123 x116.2.1 c124) x116.2.1) hR125 (fun _ h => h)
      clear hR125
      obtain ⟨x126, hx127, h'⟩ := bind_some h
      clear h
      have h := h'; clear h'
      obtain ⟨b129, o130, hi128, -⟩ := (H.own 1 rfl).ix hx127
      obtain ⟨_, ⟨_, _, rfl, rfl, ⟨_, _, rfl, ⟨_, rfl, hR135⟩, rfl⟩⟩, hl131, hc132⟩ := ((H.own 1 rfl).at hx127 hi128).cells
      obtain ⟨a133, c134, rfl⟩ := hR135.isSl
      replace H := H.add (d := Ch.ro 0 (Sl a133 x126.2.1 c134) x126.2.1) hR135 (fun _ h => h)
      clear hR135
      obtain ⟨x136, hx137, h'⟩ := bind_some h
      clear h
      have h := h'; clear h'
      obtain ⟨b139, o140, hi138, -⟩ := (H.own 2 rfl).ix hx137
      have Hs := H
      refine rg2 (σ := σ114) (Nm := Unit) 14 [13] [[false], [true]] [[(0, 0)], [(0, 0)], [(0, 0), (1, 1)], [(0, 0), (1, 1)], [(0, 0)], [(0, 0)], [(0, 0)], [(0, 0)], [(0, 0)], [(0, 0)], [(0, 0)], [(0, 0)], [(0, 0)], [(0, 1)]] 1 [fun _ => fun σm => Hp S0 σ0 σm [Ch.ro 0 (Sl a133 x126.2.1 c134) x126.2.1, Ch.ro 0 (Sl a123 x116.2.1 c124) x116.2.1, Ch.own 0 0 (Sl Cp s40.1 Cq) s40.1, Ch.bx Dk Dm Dn [(I Di)] Do Dq, Ch.ro 0 (Sl Dr Dj Ds) Dj, Ch.bx Dt Du Dv [(Sl Dr Dj Ds)] Dw Dx] ∧ Md (cov []) σ114 σm, fun _ => fun σm => Hp S0 σ0 σm [Ch.own 0 0 (Sl Cp s40.1 Cq) (s40.1.set o43.toNat (x116.1, x116.2.1, x116.2.2)), Ch.ro 0 (Sl a133 x126.2.1 c134) x126.2.1, Ch.ro 0 (Sl a123 x116.2.1 c124) x116.2.1, Ch.bx Dk Dm Dn [(I Di)] Do Dq, Ch.ro 0 (Sl Dr Dj Ds) Dj, Ch.bx Dt Du Dv [(Sl Dr Dj Ds)] Dw Dx] ∧ Md (fun i => (cov []) i ∨ (fun b => blk (Sl Cp s40.1 Cq) = some b) i) σ114 σm] [fun _ => (Sl Cp s40.1 Cq), fun _ => (I o43), fun _ => (Sl Cp s40.1 Cq), fun _ => (I o79), fun _ => (Sl Cp s40.1 Cq), fun _ => (I o79), fun _ => (pt b119 o120), fun _ => (.agg #[(I x116.1), (Sl a123 x116.2.1 c124), (I x116.2.2)]), fun _ => (Sl Cp s40.1 Cq), fun _ => (I o43), fun _ => (pt b129 o130), fun _ => (.agg #[(I x126.1), (Sl a133 x126.2.1 c134), (I x126.2.2)]), fun _ => (pt b139 o140), fun _ => undef] () (by kernel_rfl) (by kernel_rfl) ?_ ?_ ?_
      ·intro σm m0
       exact ⟨H.grow (m0.mono fun _ h => h.elim), m0⟩
      ·refine ac rfl (by
         intro k _nm ρ σm hJ hoff hdep
         have e0 := look_off (N := 90) (hoff 0 rfl) rfl
         exact dp_v (v := (Sl Cp s40.1 Cq)) wn (rv_move e0) rfl hJ) ?_
       refine ac rfl (by
         intro k _nm ρ σm hJ hoff hdep
         have e11 := look_off (N := 90) (hoff 11 rfl) rfl
         exact dp_v (v := (I o43)) wn (rv_move e11) rfl hJ) ?_
       refine ac rfl (by
         intro k _nm ρ σm hJ hoff hdep
         have e0 := look_off (N := 90) (hoff 0 rfl) rfl
         exact dp_v (v := (Sl Cp s40.1 Cq)) wn (rv_move e0) rfl hJ) ?_
       refine ac rfl (by
         intro k _nm ρ σm hJ hoff hdep
         have e12 := look_off (N := 90) (hoff 12 rfl) rfl
         exact dp_v (v := (I o79)) wn (rv_move e12) rfl hJ) ?_
       refine ac rfl (by
         intro k _nm ρ σm hJ hoff hdep
         have e0 := look_off (N := 90) (hoff 0 rfl) rfl
         exact dp_v (v := (Sl Cp s40.1 Cq)) wn (rv_move e0) rfl hJ) ?_
       refine ac rfl (by
         intro k _nm ρ σm hJ hoff hdep
         have e12 := look_off (N := 90) (hoff 12 rfl) rfl
         exact dp_v (v := (I o79)) wn (rv_move e12) rfl hJ) ?_
       refine ac rfl (by
         intro k _nm ρ σm hJ hoff hdep
         have e75 := hdep 4 rfl rfl 75 rfl
         have e76 := hdep 5 rfl rfl 76 rfl
         exact dp_v (v := (pt b119 o120)) wn (rv_ix Try.underlying23 ti34 e75 e76 hi118) rfl hJ) ?_
       refine all_cons (by
         refine ⟨?_, ?_⟩
         ·intro _nm ρ σm hJ hoff hdep
          have e77 := hdep 6 rfl rfl 77 rfl
          obtain ⟨H, m⟩ := id hJ
          replace hc122 := fun j hj => m.hcell (hc122 j hj) nocov
          exact dp_v (v := (.agg #[(I x116.1), (Sl a123 x116.2.1 c124), (I x116.2.2)])) wn (rv_load Try.underlying34 rfl ti34 e77 hl121 hc122) rfl hJ
         trivial) ?_
       refine ac rfl (by
         intro k _nm ρ σm hJ hoff hdep
         have e0 := look_off (N := 90) (hoff 0 rfl) rfl
         exact dp_v (v := (Sl Cp s40.1 Cq)) wn (rv_move e0) rfl hJ) ?_
       refine ac rfl (by
         intro k _nm ρ σm hJ hoff hdep
         have e11 := look_off (N := 90) (hoff 11 rfl) rfl
         exact dp_v (v := (I o43)) wn (rv_move e11) rfl hJ) ?_
       refine ac rfl (by
         intro k _nm ρ σm hJ hoff hdep
         have e79 := hdep 8 rfl rfl 79 rfl
         have e80 := hdep 9 rfl rfl 80 rfl
         exact dp_v (v := (pt b129 o130)) wn (rv_ix Try.underlying23 ti34 e79 e80 hi128) rfl hJ) ?_
       refine all_cons (by
         refine ⟨?_, ?_⟩
         ·intro _nm ρ σm hJ hoff hdep
          have e81 := hdep 10 rfl rfl 81 rfl
          obtain ⟨H, m⟩ := id hJ
          replace hc132 := fun j hj => m.hcell (hc132 j hj) nocov
          exact dp_v (v := (.agg #[(I x126.1), (Sl a133 x126.2.1 c134), (I x126.2.2)])) wn (rv_load Try.underlying34 rfl ti34 e81 hl131 hc132) rfl hJ
         trivial) ?_
       refine ac rfl (by
         intro k _nm ρ σm hJ hoff hdep
         have e71 := hdep 0 rfl rfl 71 rfl
         have e72 := hdep 1 rfl rfl 72 rfl
         exact dp_v (v := (pt b139 o140)) wn (rv_ix Try.underlying23 ti34 e71 e72 hi138) rfl hJ) ?_
       refine all_cons (by
         refine ⟨?_, ?_⟩
         ·intro _nm ρ σm hJ hoff hdep
          have e83 := hdep 12 rfl rfl 83 rfl
          have e78 := hdep 7 rfl rfl 78 rfl
          obtain ⟨H, m⟩ := id hJ
          refine dp_exS wn rfl (ex_store_own (e' := (x116.1, x116.2.1, x116.2.2)) (vs := [(I x116.1), (Sl a123 x116.2.1 c124), (I x116.2.2)]) (k := 0) H (i := 2) rfl ti34 hx137 hi138 e83 rfl e78 rfl rfl (Nat.le_of_ble_eq_true rfl) (by simp [plain]) (by rintro _ ⟨_, _, rfl, rfl, ⟨_, _, rfl, ⟨_, rfl, hR143⟩, rfl⟩⟩; exact ⟨[(I x116.1)], [(Sl a123 x116.2.1 c124), (I x116.2.2)], rfl, rfl, ⟨[(Sl a123 x116.2.1 c124)], [(I x116.2.2)], rfl, ⟨_, rfl, (H.ro 1 rfl)⟩, rfl⟩⟩)) ?_
          rintro σq ⟨H2, m2⟩
          exact ⟨_, (), rfl, ⟨H2.sel' [0, 1, 2, 3, 4, 5] rfl rfl, m.comp m2⟩, stab [0, 1, 2, 3, 4, 5, 6, 7, 8, 9, 10, 11, 12] (by kernel_rfl) ⟨rfl, rfl, rfl, rfl, rfl, rfl, rfl, rfl, rfl, rfl, rfl, rfl, rfl, trivial⟩⟩
         trivial) ?_
       exact all_nil
      ·intro _nm ρ σ144 hJ hoff hrel
       have e0 := look_off (N := 90) (hoff 0 rfl) rfl
       have e1 := look_off (N := 90) (hoff 1 rfl) rfl
       have e4 := look_off (N := 90) (hoff 4 rfl) rfl
       have e11 := look_off (N := 90) (hoff 11 rfl) rfl
       have e12 := look_off (N := 90) (hoff 12 rfl) rfl
       have e73 := hrel 2 rfl 73 rfl
       have e74 := hrel 3 rfl 74 rfl
       have e82 := hrel 11 rfl 82 rfl
       obtain ⟨H, -⟩ := (show Hp S0 σ0 σ144 [Ch.own 0 0 (Sl Cp s40.1 Cq) (s40.1.set o43.toNat (x116.1, x116.2.1, x116.2.2)), Ch.ro 0 (Sl a133 x126.2.1 c134) x126.2.1, Ch.ro 0 (Sl a123 x116.2.1 c124) x116.2.1, Ch.bx Dk Dm Dn [(I Di)] Do Dq, Ch.ro 0 (Sl Dr Dj Ds) Dj, Ch.bx Dt Du Dv [(Sl Dr Dj Ds)] Dw Dx] ∧ Md (fun i => (cov []) i ∨ (fun b => blk (Sl Cp s40.1 Cq) = some b) i) σ114 σ144 from hJ)
       clear hJ Hs
       rw [fr_lookL (L := [(0, (Sl Cp s40.1 Cq)), (1, (I Av)), (4, (.func (.func 88) #[] #[(pt Dm Dn), (pt Du Dv)])), (11, (I o43)), (12, (I o79)), (73, (Sl Cp s40.1 Cq)), (74, (I o79)), (82, (.agg #[(I x126.1), (Sl a133 x126.2.1 c134), (I x126.2.2)]))]) ⟨e0, e1, e4, e11, e12, e73, e74, e82, trivial⟩]
       clear hoff hrel e0 e1 e4 e11 e12 e73 e74 e82
       have hsl : (Sl Cp s40.1 Cq) = (Sl Cp (s40.1.set o43.toNat (x116.1, x116.2.1, x116.2.2)) Cq) := sl_len (by simp)
       rw [hsl]; rw [hsl] at H; clear hsl
       obtain ⟨x145, hx146, h'⟩ := bind_some h
       clear h
       have h := h'; clear h'
       obtain ⟨b148, o149, hi147, -⟩ := (H.own 0 rfl).ix hx146
       refine st (v := (pt b148 o149)) (rv_ix Try.underlying23 ti34 rfl rfl hi147) ?_
       refine st_exS (ex_store_own (e' := (x126.1, x126.2.1, x126.2.2)) (vs := [(I x126.1), (Sl a133 x126.2.1 c134), (I x126.2.2)]) (k := 0) H (i := 0) rfl ti34 hx146 hi147 rfl rfl rfl rfl rfl (Nat.le_of_ble_eq_true rfl) (by simp [plain]) (by rintro _ ⟨_, _, rfl, rfl, ⟨_, _, rfl, ⟨_, rfl, hR152⟩, rfl⟩⟩; exact ⟨[(I x126.1)], [(Sl a133 x126.2.1 c134), (I x126.2.2)], rfl, rfl, ⟨[(Sl a133 x126.2.1 c134)], [(I x126.2.2)], rfl, ⟨_, rfl, (H.ro 1 rfl)⟩, rfl⟩⟩)) wn ?_
       rintro σ153 ⟨H, -⟩
       have hsl : (Sl Cp (s40.1.set o43.toNat (x116.1, x116.2.1, x116.2.2)) Cq) = (Sl Cp ((s40.1.set o43.toNat (x116.1, x116.2.1, x116.2.2)).set o79.toNat (x126.1, x126.2.1, x126.2.2)) Cq) := sl_len List.length_set.symm
       rw [hsl]; rw [hsl] at H; clear hsl
       refine w_end (q_then (c_seq (rg (st (v := (I o43)) (rv_move rfl) (st (v := (I (w64 (o43 + 1)))) (rv_add (a := o43) (b := 1) rfl rfl) (st (v := (I (w64 (o43 + 1)))) (rv_assign rfl) (w_end (q_then (rg (st (v := (I o79)) (rv_move rfl) (st (v := (I (w64 (o79 - 1)))) (rv_sub (a := o79) (b := 1) rfl rfl) ?_)))))))))))
       refine st (v := (I (w64 (o79 - 1)))) (rv_assign rfl) (w_end (q_blk (q_then ?_)))
       obtain rfl := Option.some.inj h
       exact ⟨_, rfl, _, σ153, fr_join ⟨rfl, rfl, rfl, rfl, rfl, trivial⟩, rfl, H.sel' [0, 3, 4, 5] rfl rfl, ((List.length_set.trans (List.length_set.trans (hn42.trans (List.length_set.trans List.length_set)))).trans (List.length_set.trans List.length_set).symm)⟩
  ·clear hj
   have h := h'
   clear h' H
   rintro e a w ⟨rfl, ρ, σ154, rfl, rfl, H, hn155⟩
   refine q_then (c_seq (rg (st (v := (I o39.2)) (rv_move rfl) (st (v := (I o39.2)) (rv_assign rfl) (w_end (q_then (c_ret ?_)))))))
   obtain rfl := Option.some.inj h
   exact fin_ret (v := (I o39.2)) (results_ok Try.results118 (res_tmp (v := (I o39.2)) rfl res_nil) rfl) ⟨rfl, rfl, (hn155.trans (List.length_set.trans List.length_set))⟩ (H.sel' [0, 1, 3] rfl rfl)

end Go.Vs
