/- The functions compute what their models say. -/
import Derived.Test.YtefojfippfoppaaGreatKProbeNearestMoreC3
set_option linter.unusedVariables false
set_option linter.unusedSimpArgs false
set_option maxRecDepth 20000
namespace Go.Vs
open Go Go.Proofs
attribute [local irreducible] Code.wp Code.wpIn wpList wpListIn wpQuiet Calls CallsIn

theorem c_slices_partialInsertionSortCmpFunc_impl_Hit__impl_compareHits {Cy : List (Int × Int)} {Cz : Int} {Da : Int} {Db : Option Addr} {Dc : Nat} {r : Bool × (List (Int × Int))} (h : M.slices_partialInsertionSortCmpFunc_impl_Hit__impl_compareHits Cy Cz Da = some r) :
    Cal2 Tryz.prog 143 [(Sl Db Cy Dc), (I Cz), (I Da), (.func (.func 72) #[] #[])] [Ch.own 0 0 (Sl Db Cy Dc) Cy] (fun n0 v L => v = (B r.1) ∧ L = [Ch.own 0 0 (Sl Db r.2 Dc) r.2] ∧ r.2.length = Cy.length) := by
 refine cal2 (n := 141) Tryz.func143 rfl rfl rfl rfl ?_
 intro S0 σ0 n0 hn0 H
 unfold M.slices_partialInsertionSortCmpFunc_impl_Hit__impl_compareHits at h
 refine c_seq (rg (sa (B false) rfl (w_end (q_then (c_seq (rg (sm (I Cz) rfl (st (v := (I (w64 (Cz + 1)))) (rv_add (a := Cz) (b := 1) rfl rfl) (sa (I (w64 (Cz + 1))) rfl (w_end (q_then ?_)))))))))))
 refine c_seq (c_seq (rg (sa (I 0) rfl (w_end (q_then ?_)))))
 obtain ⟨o1, hj, h'⟩ := bind_some h
 clear h
 refine c_cut (fun e a w => (∃ t, o1 = (.inl t) ∧ e = .normal ∧ ∃ (ρ : Nat → Value) (σ : St), a = fr 141 (updL ρ [(0, (Sl Db t Dc))]) ∧ w = σ.w ∧ Hp S0 σ0 σ [Ch.own 0 0 (Sl Db t Dc) t] ∧ t.length = Cy.length) ∨ (∃ t, o1 = (.inr t) ∧ e = .ret ∧ ∃ (ρ : Nat → Value) (σ : St), a = fr 141 (updL ρ [(0, (Sl Db t.1 Dc)), (8, (B t.2))]) ∧ w = σ.w ∧ Hp S0 σ0 σ [Ch.own 0 0 (Sl Db t.1 Dc) t.1] ∧ t.1.length = Cy.length)) ?_ ?_
 ·clear h'
  rename _ = some o1 => h
  refine c_blk (wp_loopM _ h (fun s2 a w => ∃ (ρ : Nat → Value) (σ : St), a = fr 141 (updL ρ [(0, (Sl Db s2.1 Dc)), (1, (I Cz)), (2, (I Da)), (3, (.func (.func 72) #[] #[])), (9, (I s2.2.1)), (10, (I s2.2.2))]) ∧ w = σ.w ∧ Hp S0 σ0 σ [Ch.own 0 0 (Sl Db s2.1 Dc) s2.1] ∧ s2.1.length = Cy.length) ⟨_, σ0, fr_join ⟨rfl, rfl, rfl, rfl, rfl, rfl, trivial⟩, rfl, H.sel' [0] rfl rfl, rfl⟩ ?_)
  clear h H
  rintro s2 a w o ⟨ρ, σ3, rfl, rfl, H, hn4⟩ h hres
  refine c_seq (c_seq (rg (sm (I s2.2.2) rfl (st (v := (B (decide (s2.2.2 < 5)))) (rv_lss (a := s2.2.2) (b := 5) rfl rfl) (w_end (q_then ?_))))))
  refine cd_cond (decide (s2.2.2 < 5)) rfl (fun hb5 => ?_) (fun hb5 => ?_)
  ·replace h := bif_t hb5 h
   refine c_skip (q_then (c_seq ?_))
   obtain ⟨o6, hj, h'⟩ := bind_some h
   clear h
   refine c_cut (fun e a w => (∃ t, o6 = (.inl t) ∧ e = .normal ∧ ∃ (ρ : Nat → Value) (σ : St), a = fr 141 (updL ρ [(0, (Sl Db t.1 Dc)), (1, (I Cz)), (2, (I Da)), (3, (.func (.func 72) #[] #[])), (9, (I t.2)), (10, (I s2.2.2))]) ∧ w = σ.w ∧ Hp S0 σ0 σ [Ch.own 0 0 (Sl Db t.1 Dc) t.1] ∧ t.1.length = s2.1.length) ∨ (∃ t, o6 = (.inr t) ∧ e = .ret ∧ ∃ (ρ : Nat → Value) (σ : St), a = fr 141 (updL ρ [(0, (Sl Db t.1 Dc)), (8, (B t.2))]) ∧ w = σ.w ∧ Hp S0 σ0 σ [Ch.own 0 0 (Sl Db t.1 Dc) t.1] ∧ t.1.length = s2.1.length)) ?_ ?_
   ·clear h'
    rename _ = some o6 => h
    refine c_blk (c_seq ?_)
    obtain ⟨o7, hj, h'⟩ := bind_some h
    clear h
    refine c_cut (fun e a w => e = .normal ∧ ∃ (ρ : Nat → Value) (σ : St), a = fr 141 (updL ρ [(0, (Sl Db s2.1 Dc)), (1, (I Cz)), (2, (I Da)), (3, (.func (.func 72) #[] #[])), (9, (I o7)), (10, (I s2.2.2))]) ∧ w = σ.w ∧ Hp S0 σ0 σ [Ch.own 0 0 (Sl Db s2.1 Dc) s2.1]) ?_ ?_
    ·clear h'
     rename _ = some o7 => h
     refine c_blk (wp_loopM _ h (fun s8 a w => ∃ (ρ : Nat → Value) (σ : St), a = fr 141 (updL ρ [(0, (Sl Db s2.1 Dc)), (1, (I Cz)), (2, (I Da)), (3, (.func (.func 72) #[] #[])), (9, (I s8)), (10, (I s2.2.2))]) ∧ w = σ.w ∧ Hp S0 σ0 σ [Ch.own 0 0 (Sl Db s2.1 Dc) s2.1]) ⟨_, σ3, fr_join ⟨rfl, rfl, rfl, rfl, rfl, rfl, trivial⟩, rfl, H.sel' [0] rfl rfl⟩ ?_)
     clear h H
     rintro s8 a w o ⟨ρ, σ9, rfl, rfl, H⟩ h hres
     refine c_seq (c_seq ?_)
     obtain ⟨o10, hj, h'⟩ := bind_some h
     clear h
     refine c_cut (fun e a w => e = .normal ∧ ∃ (ρ : Nat → Value) (σ : St), a = fr 141 (updL ρ [(0, (Sl Db s2.1 Dc)), (1, (I Cz)), (2, (I Da)), (3, (.func (.func 72) #[] #[])), (9, (I s8)), (10, (I s2.2.2)), (36, (B o10))]) ∧ w = σ.w ∧ Hp S0 σ0 σ [Ch.own 0 0 (Sl Db s2.1 Dc) s2.1]) ?_ ?_
     ·clear h'
      rename _ = some o10 => h
      refine rgP (σ := σ9) 14 (by kernel_rfl) (by kernel_rfl) (by kernel_rfl) ?_
      refine sq (v := (I s8)) (rv_move rfl) (sq (v := (I Da)) (rv_move rfl) (sq (v := (B (decide (s8 < Da)))) (rv_lss (a := s8) (b := Da) rfl rfl) (sq (v := (B (decide (s8 < Da)))) (rv_move rfl) ?_)))
      rcases Bool.eq_false_or_eq_true (decide (s8 < Da)) with hb11 | hb11
      ·replace h := bif_t hb11 h
       refine sq_g (v := (.func (.func 72) #[] #[])) (congrArg some hb11) (rv_move rfl) (sq_g (v := (Sl Db s2.1 Dc)) (congrArg some hb11) (rv_move rfl) (sq_g (v := (I s8)) (congrArg some hb11) (rv_move rfl) ?_))
       revert h; refine br fun x12 hx13 h => ?_
       obtain ⟨b15, o16, hi14, -⟩ := (H.own 0 rfl).ix hx13
       refine sq_g (v := (pt b15 o16)) (congrArg some hb11) (rv_ix Tryz.underlying27 ti38 rfl rfl hi14) ?_
       obtain ⟨_, ⟨_, _, rfl, rfl, rfl⟩, hl17, hc18⟩ := ((H.own 0 rfl).at hx13 hi14).cells
       refine sq_g (v := (.agg #[(I x12.1), (I x12.2)])) (congrArg some hb11) (rv_load Tryz.underlying38 rfl ti38 rfl hl17 hc18) (sq_g (v := (Sl Db s2.1 Dc)) (congrArg some hb11) (rv_move rfl) (sq_g (v := (I s8)) (congrArg some hb11) (rv_move rfl) (sq_g (v := (I (w64 (s8 - 1)))) (congrArg some hb11) (rv_sub (a := s8) (b := 1) rfl rfl) ?_)))
       revert h; refine br fun x19 hx20 h => ?_
       obtain ⟨b22, o23, hi21, -⟩ := (H.own 0 rfl).ix hx20
       refine sq_g (v := (pt b22 o23)) (congrArg some hb11) (rv_ix Tryz.underlying27 ti38 rfl rfl hi21) ?_
       obtain ⟨_, ⟨_, _, rfl, rfl, rfl⟩, hl24, hc25⟩ := ((H.own 0 rfl).at hx20 hi21).cells
       refine sq_g (v := (.agg #[(I x19.1), (I x19.2)])) (congrArg some hb11) (rv_load Tryz.underlying38 rfl ti38 rfl hl24 hc25) (sq_end ?_)
       intro σ26 hm27
       replace H := H.grow (hm27.mono fun _ h => h); clear hm27
       revert h; refine br fun r28 hx29 h => ?_
       have hc30 := c_impl_compareHits hx29
       refine st_call (cx_call hc30 (ent_v (cap := []) hc30.fn rfl rfl) hn0 (H.sel' [0] rfl rfl : Hp S0 σ0 _ ([] ++ _))) (wanted_yes rfl (by exact (congrArg some hb11))) ?_
       rintro _ σ31 ⟨_, ⟨rfl, rfl⟩, H, -⟩
       replace H : Hp _ _ _ [_] := H
       refine st_g (v := (B (decide (r28 < 0)))) (congrArg some hb11) (rv_lss (a := r28) (b := 0) rfl rfl) (st_g (v := (B (!(decide (r28 < 0))))) (congrArg some hb11) (rv_not rfl) (st (v := (B (!(decide (r28 < 0))))) (rv_pick_t (congrArg B hb11) rfl) (w_end ?_)))
       obtain rfl := sj h
       exact ⟨rfl, _, σ31, fr_join ⟨rfl, rfl, rfl, rfl, rfl, rfl, rfl, trivial⟩, rfl, H.sel' [0] rfl rfl⟩
      ·replace h := bif_f hb11 h
       refine sq_skip (congrArg some hb11) (sq_skip (congrArg some hb11) (sq_skip (congrArg some hb11) (sq_skip (congrArg some hb11) (sq_skip (congrArg some hb11) (sq_skip (congrArg some hb11) (sq_skip (congrArg some hb11) (sq_skip (congrArg some hb11) (sq_skip (congrArg some hb11) (sq_skip (congrArg some hb11) (sq_end ?_))))))))))
       intro σ32 hm33
       replace H := H.grow (hm33.mono fun _ h => h); clear hm33
       refine st_skip (congrArg some hb11) (st_skip (congrArg some hb11) (st_skip (congrArg some hb11) (st (v := (B false)) (rv_pick_f (congrArg B hb11) rfl) (w_end ?_))))
       obtain rfl := sj h
       exact ⟨rfl, _, σ32, fr_join ⟨rfl, rfl, rfl, rfl, rfl, rfl, rfl, trivial⟩, rfl, H.sel' [0] rfl rfl⟩
     ·clear hj
      have h := h'
      clear h' H
      rintro e a w ⟨rfl, ρ, σ34, rfl, rfl, H⟩
      refine q_then ?_
      refine cd_cond o10 rfl (fun hb35 => ?_) (fun hb35 => ?_)
      ·replace h := bif_t hb35 h
       refine c_skip (q_then (c_blk (rg (sm (I s8) rfl (st (v := (I (w64 (s8 + 1)))) (rv_add (a := s8) (b := 1) rfl rfl) (sa (I (w64 (s8 + 1))) rfl (w_end (q_blk (q_then ?_)))))))))
       obtain rfl := sj h
       exact ⟨_, rfl, _, σ34, fr_join ⟨rfl, rfl, rfl, rfl, rfl, rfl, trivial⟩, rfl, H.sel' [0] rfl rfl⟩
      ·replace h := bif_f hb35 h
       refine c_exit (q_then_x (q_then_x (q_blk_hit ?_)))
       obtain rfl := sj h
       obtain rfl := hres _ rfl
       exact ⟨rfl, _, σ34, fr_join ⟨rfl, rfl, rfl, rfl, rfl, rfl, trivial⟩, rfl, H.sel' [0] rfl rfl⟩
    ·clear hj
     have h := h'
     clear h' H
     rintro e a w ⟨rfl, ρ, σ36, rfl, rfl, H⟩
     refine q_then (c_seq (c_seq (rg (sm (I o7) rfl (sm (I Da) rfl (st (v := (B (o7 == Da))) (rv_eql (a := o7) (b := Da) rfl rfl) (w_end (q_then ?_))))))))
     refine cd_cond (o7 == Da) rfl (fun hb37 => ?_) (fun hb37 => ?_)
     ·replace h := bif_t hb37 h
      refine c_seq (rg (sa (B true) rfl (w_end (q_then (c_ret (q_then_r (q_blk_r ?_)))))))
      obtain rfl := sj h
      exact .inr (⟨_, rfl, rfl, _, σ36, fr_join ⟨rfl, rfl, trivial⟩, rfl, H.sel' [0] rfl rfl, rfl⟩)
     ·replace h := bif_f hb37 h
      refine c_skip (q_then (c_seq (c_seq (rg (sm (I Da) rfl (sm (I Cz) rfl (st (v := (I (w64 (Da - Cz)))) (rv_sub (a := Da) (b := Cz) rfl rfl) (st (v := (B (decide ((w64 (Da - Cz)) < 50)))) (rv_lss (a := (w64 (Da - Cz))) (b := 50) rfl rfl) (w_end (q_then ?_))))))))))
      refine cd_cond (decide ((w64 (Da - Cz)) < 50)) rfl (fun hb38 => ?_) (fun hb38 => ?_)
      ·replace h := bif_t hb38 h
       refine c_seq (rg (sa (B false) rfl (w_end (q_then (c_ret (q_then_r (q_blk_r ?_)))))))
       obtain rfl := sj h
       exact .inr (⟨_, rfl, rfl, _, σ36, fr_join ⟨rfl, rfl, trivial⟩, rfl, H.sel' [0] rfl rfl, rfl⟩)
      ·replace h := bif_f hb38 h
       refine c_skip (q_then (c_seq ?_))
       revert h; refine br fun x39 hx40 h => ?_
       obtain ⟨b42, o43, hi41, -⟩ := (H.own 0 rfl).ix hx40
       obtain ⟨_, ⟨_, _, rfl, rfl, rfl⟩, hl44, hc45⟩ := ((H.own 0 rfl).at hx40 hi41).cells
       revert h; refine br fun x46 hx47 h => ?_
       obtain ⟨b49, o50, hi48, -⟩ := (H.own 0 rfl).ix hx47
       obtain ⟨_, ⟨_, _, rfl, rfl, rfl⟩, hl51, hc52⟩ := ((H.own 0 rfl).at hx47 hi48).cells
       revert h; refine br fun x53 hx54 h => ?_
       obtain ⟨b56, o57, hi55, -⟩ := (H.own 0 rfl).ix hx54
       have Hs := H
       refine rg2 (σ := σ36) (Nm := Unit) 16 [15] [[false], [true]] [[(0, 0)], [(0, 0)], [(0, 0), (1, 1)], [(0, 0), (1, 1)], [(0, 0), (1, 1)], [(0, 0)], [(0, 0)], [(0, 0)], [(0, 0)], [(0, 0)], [(0, 0)], [(0, 0)], [(0, 0)], [(0, 0)], [(0, 0)], [(0, 1)]] 1 [fun _ => fun σm => Hp S0 σ0 σm [Ch.own 0 0 (Sl Db s2.1 Dc) s2.1] ∧ Md (cov []) σ36 σm, fun _ => fun σm => Hp S0 σ0 σm [Ch.own 0 0 (Sl Db s2.1 Dc) (s2.1.set o7.toNat (x39.1, x39.2))] ∧ Md (fun i => (cov []) i ∨ (fun b => blk (Sl Db s2.1 Dc) = some b) i) σ36 σm] [fun _ => (Sl Db s2.1 Dc), fun _ => (I o7), fun _ => (Sl Db s2.1 Dc), fun _ => (I o7), fun _ => (I (w64 (o7 - 1))), fun _ => (Sl Db s2.1 Dc), fun _ => (I o7), fun _ => (I (w64 (o7 - 1))), fun _ => (pt b42 o43), fun _ => (.agg #[(I x39.1), (I x39.2)]), fun _ => (Sl Db s2.1 Dc), fun _ => (I o7), fun _ => (pt b49 o50), fun _ => (.agg #[(I x46.1), (I x46.2)]), fun _ => (pt b56 o57), fun _ => undef] () (by kernel_rfl) (by kernel_rfl) ?_ ?_ ?_
       ·intro σm m0
        exact ⟨H.grow (m0.mono fun _ h => h.elim), m0⟩
       ·refine ac rfl (by
          intro k _nm ρ σm hJ hoff hdep
          have e0 := look_off (N := 141) (hoff 0 rfl) rfl
          exact dp_v (v := (Sl Db s2.1 Dc)) wn (rv_move e0) rfl hJ) ?_
        refine ac rfl (by
          intro k _nm ρ σm hJ hoff hdep
          have e9 := look_off (N := 141) (hoff 9 rfl) rfl
          exact dp_v (v := (I o7)) wn (rv_move e9) rfl hJ) ?_
        refine ac rfl (by
          intro k _nm ρ σm hJ hoff hdep
          have e0 := look_off (N := 141) (hoff 0 rfl) rfl
          exact dp_v (v := (Sl Db s2.1 Dc)) wn (rv_move e0) rfl hJ) ?_
        refine ac rfl (by
          intro k _nm ρ σm hJ hoff hdep
          have e9 := look_off (N := 141) (hoff 9 rfl) rfl
          exact dp_v (v := (I o7)) wn (rv_move e9) rfl hJ) ?_
        refine ac rfl (by
          intro k _nm ρ σm hJ hoff hdep
          have e49 := hdep 3 rfl rfl 49 rfl
          exact dp_v (v := (I (w64 (o7 - 1)))) wn (rv_sub (a := o7) (b := 1) e49 rfl) rfl hJ) ?_
        refine ac rfl (by
          intro k _nm ρ σm hJ hoff hdep
          have e0 := look_off (N := 141) (hoff 0 rfl) rfl
          exact dp_v (v := (Sl Db s2.1 Dc)) wn (rv_move e0) rfl hJ) ?_
        refine ac rfl (by
          intro k _nm ρ σm hJ hoff hdep
          have e9 := look_off (N := 141) (hoff 9 rfl) rfl
          exact dp_v (v := (I o7)) wn (rv_move e9) rfl hJ) ?_
        refine ac rfl (by
          intro k _nm ρ σm hJ hoff hdep
          have e52 := hdep 6 rfl rfl 52 rfl
          exact dp_v (v := (I (w64 (o7 - 1)))) wn (rv_sub (a := o7) (b := 1) e52 rfl) rfl hJ) ?_
        refine ac rfl (by
          intro k _nm ρ σm hJ hoff hdep
          have e51 := hdep 5 rfl rfl 51 rfl
          have e53 := hdep 7 rfl rfl 53 rfl
          exact dp_v (v := (pt b42 o43)) wn (rv_ix Tryz.underlying27 ti38 e51 e53 hi41) rfl hJ) ?_
        refine all_cons (by
          refine ⟨?_, ?_⟩
          ·intro _nm ρ σm hJ hoff hdep
           have e54 := hdep 8 rfl rfl 54 rfl
           obtain ⟨H, m⟩ := id hJ
           obtain ⟨_, ⟨_, _, rfl, rfl, rfl⟩, hl44, hc45⟩ := ((H.own 0 rfl).at hx40 hi41).cells
           exact dp_v (v := (.agg #[(I x39.1), (I x39.2)])) wn (rv_load Tryz.underlying38 rfl ti38 e54 hl44 hc45) rfl hJ
          trivial) ?_
        refine ac rfl (by
          intro k _nm ρ σm hJ hoff hdep
          have e0 := look_off (N := 141) (hoff 0 rfl) rfl
          exact dp_v (v := (Sl Db s2.1 Dc)) wn (rv_move e0) rfl hJ) ?_
        refine ac rfl (by
          intro k _nm ρ σm hJ hoff hdep
          have e9 := look_off (N := 141) (hoff 9 rfl) rfl
          exact dp_v (v := (I o7)) wn (rv_move e9) rfl hJ) ?_
        refine ac rfl (by
          intro k _nm ρ σm hJ hoff hdep
          have e56 := hdep 10 rfl rfl 56 rfl
          have e57 := hdep 11 rfl rfl 57 rfl
          exact dp_v (v := (pt b49 o50)) wn (rv_ix Tryz.underlying27 ti38 e56 e57 hi48) rfl hJ) ?_
        refine all_cons (by
          refine ⟨?_, ?_⟩
          ·intro _nm ρ σm hJ hoff hdep
           have e58 := hdep 12 rfl rfl 58 rfl
           obtain ⟨H, m⟩ := id hJ
           obtain ⟨_, ⟨_, _, rfl, rfl, rfl⟩, hl51, hc52⟩ := ((H.own 0 rfl).at hx47 hi48).cells
           exact dp_v (v := (.agg #[(I x46.1), (I x46.2)])) wn (rv_load Tryz.underlying38 rfl ti38 e58 hl51 hc52) rfl hJ
          trivial) ?_
        refine ac rfl (by
          intro k _nm ρ σm hJ hoff hdep
          have e46 := hdep 0 rfl rfl 46 rfl
          have e47 := hdep 1 rfl rfl 47 rfl
          exact dp_v (v := (pt b56 o57)) wn (rv_ix Tryz.underlying27 ti38 e46 e47 hi55) rfl hJ) ?_
        refine all_cons (by
          refine ⟨?_, ?_⟩
          ·intro _nm ρ σm hJ hoff hdep
           have e60 := hdep 14 rfl rfl 60 rfl
           have e55 := hdep 9 rfl rfl 55 rfl
           obtain ⟨H, m⟩ := id hJ
           refine dp_exS wn rfl (ex_store_own (e' := (x39.1, x39.2)) (vs := [(I x39.1), (I x39.2)]) (k := 0) H (i := 0) rfl ti38 hx54 hi55 e60 rfl e55 rfl rfl (Nat.le_of_ble_eq_true rfl) (by simp [plain]) (by rintro _ ⟨_, _, rfl, rfl, rfl⟩; exact ⟨[(I x39.1)], [(I x39.2)], rfl, rfl, rfl⟩)) ?_
           rintro σq ⟨H2, m2⟩
           exact ⟨_, (), rfl, ⟨H2.sel' [0] rfl rfl, m.comp m2⟩, stab [0, 1, 2, 3, 4, 5, 6, 7, 8, 9, 10, 11, 12, 13, 14] (by kernel_rfl) ⟨rfl, rfl, rfl, rfl, rfl, rfl, rfl, rfl, rfl, rfl, rfl, rfl, rfl, rfl, rfl, trivial⟩⟩
          trivial) ?_
        exact all_nil
       ·intro _nm ρ σ58 hJ hoff hrel
        have e0 := look_off (N := 141) (hoff 0 rfl) rfl
        have e1 := look_off (N := 141) (hoff 1 rfl) rfl
        have e2 := look_off (N := 141) (hoff 2 rfl) rfl
        have e3 := look_off (N := 141) (hoff 3 rfl) rfl
        have e9 := look_off (N := 141) (hoff 9 rfl) rfl
        have e10 := look_off (N := 141) (hoff 10 rfl) rfl
        have e48 := hrel 2 rfl 48 rfl
        have e50 := hrel 4 rfl 50 rfl
        have e59 := hrel 13 rfl 59 rfl
        obtain ⟨H, -⟩ := (show Hp S0 σ0 σ58 [Ch.own 0 0 (Sl Db s2.1 Dc) (s2.1.set o7.toNat (x39.1, x39.2))] ∧ Md (fun i => (cov []) i ∨ (fun b => blk (Sl Db s2.1 Dc) = some b) i) σ36 σ58 from hJ)
        clear hJ Hs
        rw [fr_lookL (L := [(0, (Sl Db s2.1 Dc)), (1, (I Cz)), (2, (I Da)), (3, (.func (.func 72) #[] #[])), (9, (I o7)), (10, (I s2.2.2)), (48, (Sl Db s2.1 Dc)), (50, (I (w64 (o7 - 1)))), (59, (.agg #[(I x46.1), (I x46.2)]))]) ⟨e0, e1, e2, e3, e9, e10, e48, e50, e59, trivial⟩]
        clear hoff hrel e0 e1 e2 e3 e9 e10 e48 e50 e59
        have hsl : (Sl Db s2.1 Dc) = (Sl Db (s2.1.set o7.toNat (x39.1, x39.2)) Dc) := sl_len (by simp)
        rw [hsl]; rw [hsl] at H; clear hsl
        revert h; refine br fun x59 hx60 h => ?_
        obtain ⟨b62, o63, hi61, -⟩ := (H.own 0 rfl).ix hx60
        refine st (v := (pt b62 o63)) (rv_ix Tryz.underlying27 ti38 rfl rfl hi61) ?_
        refine st_exS (ex_store_own (e' := (x46.1, x46.2)) (vs := [(I x46.1), (I x46.2)]) (k := 0) H (i := 0) rfl ti38 hx60 hi61 rfl rfl rfl rfl rfl (Nat.le_of_ble_eq_true rfl) (by simp [plain]) (by rintro _ ⟨_, _, rfl, rfl, rfl⟩; exact ⟨[(I x46.1)], [(I x46.2)], rfl, rfl, rfl⟩)) wn ?_
        rintro σ64 ⟨H, -⟩
        have hsl : (Sl Db (s2.1.set o7.toNat (x39.1, x39.2)) Dc) = (Sl Db ((s2.1.set o7.toNat (x39.1, x39.2)).set (w64 (o7 - 1)).toNat (x46.1, x46.2)) Dc) := sl_len List.length_set.symm
        rw [hsl]; rw [hsl] at H; clear hsl
        refine w_end (q_then (c_seq (c_seq (rg (sm (I o7) rfl (sm (I Cz) rfl (st (v := (I (w64 (o7 - Cz)))) (rv_sub (a := o7) (b := Cz) rfl rfl) (st (v := (B (decide (2 ≤ (w64 (o7 - Cz)))))) (rv_geq (a := (w64 (o7 - Cz))) (b := 2) rfl rfl) (w_end (q_then ?_))))))))))
        obtain ⟨o65, hj, h'⟩ := bind_some h
        clear h
        refine c_cut (fun e a w => e = .normal ∧ ∃ (ρ : Nat → Value) (σ : St), a = fr 141 (updL ρ [(0, (Sl Db o65 Dc)), (1, (I Cz)), (2, (I Da)), (3, (.func (.func 72) #[] #[])), (9, (I o7)), (10, (I s2.2.2))]) ∧ w = σ.w ∧ Hp S0 σ0 σ [Ch.own 0 0 (Sl Db o65 Dc) o65] ∧ o65.length = ((s2.1.set o7.toNat (x39.1, x39.2)).set (w64 (o7 - 1)).toNat (x46.1, x46.2)).length) ?_ ?_
        ·clear h'
         rename _ = some o65 => h
         refine cd_cond (decide (2 ≤ (w64 (o7 - Cz)))) rfl (fun hb66 => ?_) (fun hb66 => ?_)
         ·replace h := bif_t hb66 h
          refine c_seq (rg (sm (I o7) rfl (st (v := (I (w64 (o7 - 1)))) (rv_sub (a := o7) (b := 1) rfl rfl) (sa (I (w64 (o7 - 1))) rfl (w_end (q_then ?_))))))
          obtain ⟨o67, hj, h'⟩ := bind_some h
          clear h
          refine c_cut (fun e a w => e = .normal ∧ ∃ (ρ : Nat → Value) (σ : St), a = fr 141 (updL ρ [(0, (Sl Db o67 Dc)), (1, (I Cz)), (2, (I Da)), (3, (.func (.func 72) #[] #[])), (9, (I o7)), (10, (I s2.2.2))]) ∧ w = σ.w ∧ Hp S0 σ0 σ [Ch.own 0 0 (Sl Db o67 Dc) o67] ∧ o67.length = ((s2.1.set o7.toNat (x39.1, x39.2)).set (w64 (o7 - 1)).toNat (x46.1, x46.2)).length) ?_ ?_
          ·clear h'
           rename _ = some o67 => h
           refine c_blk (wp_loopM _ h (fun s68 a w => ∃ (ρ : Nat → Value) (σ : St), a = fr 141 (updL ρ [(0, (Sl Db s68.1 Dc)), (1, (I Cz)), (2, (I Da)), (3, (.func (.func 72) #[] #[])), (9, (I o7)), (10, (I s2.2.2)), (11, (I s68.2))]) ∧ w = σ.w ∧ Hp S0 σ0 σ [Ch.own 0 0 (Sl Db s68.1 Dc) s68.1] ∧ s68.1.length = ((s2.1.set o7.toNat (x39.1, x39.2)).set (w64 (o7 - 1)).toNat (x46.1, x46.2)).length) ⟨_, σ64, fr_join ⟨rfl, rfl, rfl, rfl, rfl, rfl, rfl, trivial⟩, rfl, H.sel' [0] rfl rfl, rfl⟩ ?_)
           clear h H
           rintro s68 a w o ⟨ρ, σ69, rfl, rfl, H, hn70⟩ h hres
           refine c_seq (c_seq (rg (sm (I s68.2) rfl (st (v := (B (decide (1 ≤ s68.2)))) (rv_geq (a := s68.2) (b := 1) rfl rfl) (w_end (q_then ?_))))))
           refine cd_cond (decide (1 ≤ s68.2)) rfl (fun hb71 => ?_) (fun hb71 => ?_)
           ·replace h := bif_t hb71 h
            refine c_skip (q_then (c_seq (c_blk (c_seq (c_seq ?_)))))
            refine rgP (σ := σ69) 10 (by kernel_rfl) (by kernel_rfl) (by kernel_rfl) ?_
            refine sq (v := (.func (.func 72) #[] #[])) (rv_move rfl) (sq (v := (Sl Db s68.1 Dc)) (rv_move rfl) (sq (v := (I s68.2)) (rv_move rfl) ?_))
            revert h; refine br fun x72 hx73 h => ?_
            obtain ⟨b75, o76, hi74, -⟩ := (H.own 0 rfl).ix hx73
            refine sq (v := (pt b75 o76)) (rv_ix Tryz.underlying27 ti38 rfl rfl hi74) ?_
            obtain ⟨_, ⟨_, _, rfl, rfl, rfl⟩, hl77, hc78⟩ := ((H.own 0 rfl).at hx73 hi74).cells
            refine sq (v := (.agg #[(I x72.1), (I x72.2)])) (rv_load Tryz.underlying38 rfl ti38 rfl hl77 hc78) (sq (v := (Sl Db s68.1 Dc)) (rv_move rfl) (sq (v := (I s68.2)) (rv_move rfl) (sq (v := (I (w64 (s68.2 - 1)))) (rv_sub (a := s68.2) (b := 1) rfl rfl) ?_)))
            revert h; refine br fun x79 hx80 h => ?_
            obtain ⟨b82, o83, hi81, -⟩ := (H.own 0 rfl).ix hx80
            refine sq (v := (pt b82 o83)) (rv_ix Tryz.underlying27 ti38 rfl rfl hi81) ?_
            obtain ⟨_, ⟨_, _, rfl, rfl, rfl⟩, hl84, hc85⟩ := ((H.own 0 rfl).at hx80 hi81).cells
            refine sq (v := (.agg #[(I x79.1), (I x79.2)])) (rv_load Tryz.underlying38 rfl ti38 rfl hl84 hc85) (sq_end ?_)
            intro σ86 hm87
            replace H := H.grow (hm87.mono fun _ h => h); clear hm87
            revert h; refine br fun r88 hx89 h => ?_
            have hc90 := c_impl_compareHits hx89
            refine st_call (cx_call hc90 (ent_v (cap := []) hc90.fn rfl rfl) hn0 (H.sel' [0] rfl rfl : Hp S0 σ0 _ ([] ++ _))) wn ?_
            rintro _ σ91 ⟨_, ⟨rfl, rfl⟩, H, -⟩
            replace H : Hp _ _ _ [_] := H
            refine st (v := (B (decide (r88 < 0)))) (rv_lss (a := r88) (b := 0) rfl rfl) (st (v := (B (!(decide (r88 < 0))))) (rv_not rfl) (w_end (q_then ?_)))
            refine cd_cond (!(decide (r88 < 0))) rfl (fun hb92 => ?_) (fun hb92 => ?_)
            ·replace h := bif_t hb92 h
             refine c_exit (q_then_x ?_)
             refine q_blk_x (by decide) ?_
             refine q_then_x (q_then_x (q_blk_hit ?_))
             obtain rfl := sj h
             obtain rfl := hres _ rfl
             exact ⟨rfl, _, σ91, fr_join ⟨rfl, rfl, rfl, rfl, rfl, rfl, trivial⟩, rfl, H.sel' [0] rfl rfl, ((hn70.trans (List.length_set.trans (List.length_set.trans hn4))).trans (List.length_set.trans (List.length_set.trans hn4)).symm)⟩
            ·replace h := bif_f hb92 h
             refine c_skip (q_then ?_)
             revert h; refine br fun x93 hx94 h => ?_
             obtain ⟨b96, o97, hi95, -⟩ := (H.own 0 rfl).ix hx94
             obtain ⟨_, ⟨_, _, rfl, rfl, rfl⟩, hl98, hc99⟩ := ((H.own 0 rfl).at hx94 hi95).cells
             revert h; refine br fun x100 hx101 h => ?_
             obtain ⟨b103, o104, hi102, -⟩ := (H.own 0 rfl).ix hx101
             obtain ⟨_, ⟨_, _, rfl, rfl, rfl⟩, hl105, hc106⟩ := ((H.own 0 rfl).at hx101 hi102).cells
             revert h; refine br fun x107 hx108 h => ?_
             obtain ⟨b110, o111, hi109, -⟩ := (H.own 0 rfl).ix hx108
             have Hs := H
             refine rg2 (σ := σ91) (Nm := Unit) 16 [15] [[false], [true]] [[(0, 0)], [(0, 0)], [(0, 0), (1, 1)], [(0, 0), (1, 1)], [(0, 0), (1, 1)], [(0, 0)], [(0, 0)], [(0, 0)], [(0, 0)], [(0, 0)], [(0, 0)], [(0, 0)], [(0, 0)], [(0, 0)], [(0, 0)], [(0, 1)]] 1 [fun _ => fun σm => Hp S0 σ0 σm [Ch.own 0 0 (Sl Db s68.1 Dc) s68.1] ∧ Md (cov []) σ91 σm, fun _ => fun σm => Hp S0 σ0 σm [Ch.own 0 0 (Sl Db s68.1 Dc) (s68.1.set s68.2.toNat (x93.1, x93.2))] ∧ Md (fun i => (cov []) i ∨ (fun b => blk (Sl Db s68.1 Dc) = some b) i) σ91 σm] [fun _ => (Sl Db s68.1 Dc), fun _ => (I s68.2), fun _ => (Sl Db s68.1 Dc), fun _ => (I s68.2), fun _ => (I (w64 (s68.2 - 1))), fun _ => (Sl Db s68.1 Dc), fun _ => (I s68.2), fun _ => (I (w64 (s68.2 - 1))), fun _ => (pt b96 o97), fun _ => (.agg #[(I x93.1), (I x93.2)]), fun _ => (Sl Db s68.1 Dc), fun _ => (I s68.2), fun _ => (pt b103 o104), fun _ => (.agg #[(I x100.1), (I x100.2)]), fun _ => (pt b110 o111), fun _ => undef] () (by kernel_rfl) (by kernel_rfl) ?_ ?_ ?_
             ·intro σm m0
              exact ⟨H.grow (m0.mono fun _ h => h.elim), m0⟩
             ·refine ac rfl (by
                intro k _nm ρ σm hJ hoff hdep
                have e0 := look_off (N := 141) (hoff 0 rfl) rfl
                exact dp_v (v := (Sl Db s68.1 Dc)) wn (rv_move e0) rfl hJ) ?_
              refine ac rfl (by
                intro k _nm ρ σm hJ hoff hdep
                have e11 := look_off (N := 141) (hoff 11 rfl) rfl
                exact dp_v (v := (I s68.2)) wn (rv_move e11) rfl hJ) ?_
              refine ac rfl (by
                intro k _nm ρ σm hJ hoff hdep
                have e0 := look_off (N := 141) (hoff 0 rfl) rfl
                exact dp_v (v := (Sl Db s68.1 Dc)) wn (rv_move e0) rfl hJ) ?_
              refine ac rfl (by
                intro k _nm ρ σm hJ hoff hdep
                have e11 := look_off (N := 141) (hoff 11 rfl) rfl
                exact dp_v (v := (I s68.2)) wn (rv_move e11) rfl hJ) ?_
              refine ac rfl (by
                intro k _nm ρ σm hJ hoff hdep
                have e88 := hdep 3 rfl rfl 88 rfl
                exact dp_v (v := (I (w64 (s68.2 - 1)))) wn (rv_sub (a := s68.2) (b := 1) e88 rfl) rfl hJ) ?_
              refine ac rfl (by
                intro k _nm ρ σm hJ hoff hdep
                have e0 := look_off (N := 141) (hoff 0 rfl) rfl
                exact dp_v (v := (Sl Db s68.1 Dc)) wn (rv_move e0) rfl hJ) ?_
              refine ac rfl (by
                intro k _nm ρ σm hJ hoff hdep
                have e11 := look_off (N := 141) (hoff 11 rfl) rfl
                exact dp_v (v := (I s68.2)) wn (rv_move e11) rfl hJ) ?_
              refine ac rfl (by
                intro k _nm ρ σm hJ hoff hdep
                have e91 := hdep 6 rfl rfl 91 rfl
                exact dp_v (v := (I (w64 (s68.2 - 1)))) wn (rv_sub (a := s68.2) (b := 1) e91 rfl) rfl hJ) ?_
              refine ac rfl (by
                intro k _nm ρ σm hJ hoff hdep
                have e90 := hdep 5 rfl rfl 90 rfl
                have e92 := hdep 7 rfl rfl 92 rfl
                exact dp_v (v := (pt b96 o97)) wn (rv_ix Tryz.underlying27 ti38 e90 e92 hi95) rfl hJ) ?_
              refine all_cons (by
                refine ⟨?_, ?_⟩
                ·intro _nm ρ σm hJ hoff hdep
                 have e93 := hdep 8 rfl rfl 93 rfl
                 obtain ⟨H, m⟩ := id hJ
                 obtain ⟨_, ⟨_, _, rfl, rfl, rfl⟩, hl98, hc99⟩ := ((H.own 0 rfl).at hx94 hi95).cells
                 exact dp_v (v := (.agg #[(I x93.1), (I x93.2)])) wn (rv_load Tryz.underlying38 rfl ti38 e93 hl98 hc99) rfl hJ
                trivial) ?_
              refine ac rfl (by
                intro k _nm ρ σm hJ hoff hdep
                have e0 := look_off (N := 141) (hoff 0 rfl) rfl
                exact dp_v (v := (Sl Db s68.1 Dc)) wn (rv_move e0) rfl hJ) ?_
              refine ac rfl (by
                intro k _nm ρ σm hJ hoff hdep
                have e11 := look_off (N := 141) (hoff 11 rfl) rfl
                exact dp_v (v := (I s68.2)) wn (rv_move e11) rfl hJ) ?_
              refine ac rfl (by
                intro k _nm ρ σm hJ hoff hdep
                have e95 := hdep 10 rfl rfl 95 rfl
                have e96 := hdep 11 rfl rfl 96 rfl
                exact dp_v (v := (pt b103 o104)) wn (rv_ix Tryz.underlying27 ti38 e95 e96 hi102) rfl hJ) ?_
              refine all_cons (by
                refine ⟨?_, ?_⟩
                ·intro _nm ρ σm hJ hoff hdep
                 have e97 := hdep 12 rfl rfl 97 rfl
                 obtain ⟨H, m⟩ := id hJ
                 obtain ⟨_, ⟨_, _, rfl, rfl, rfl⟩, hl105, hc106⟩ := ((H.own 0 rfl).at hx101 hi102).cells
                 exact dp_v (v := (.agg #[(I x100.1), (I x100.2)])) wn (rv_load Tryz.underlying38 rfl ti38 e97 hl105 hc106) rfl hJ
                trivial) ?_
              refine ac rfl (by
                intro k _nm ρ σm hJ hoff hdep
                have e85 := hdep 0 rfl rfl 85 rfl
                have e86 := hdep 1 rfl rfl 86 rfl
                exact dp_v (v := (pt b110 o111)) wn (rv_ix Tryz.underlying27 ti38 e85 e86 hi109) rfl hJ) ?_
              refine all_cons (by
                refine ⟨?_, ?_⟩
                ·intro _nm ρ σm hJ hoff hdep
                 have e99 := hdep 14 rfl rfl 99 rfl
                 have e94 := hdep 9 rfl rfl 94 rfl
                 obtain ⟨H, m⟩ := id hJ
                 refine dp_exS wn rfl (ex_store_own (e' := (x93.1, x93.2)) (vs := [(I x93.1), (I x93.2)]) (k := 0) H (i := 0) rfl ti38 hx108 hi109 e99 rfl e94 rfl rfl (Nat.le_of_ble_eq_true rfl) (by simp [plain]) (by rintro _ ⟨_, _, rfl, rfl, rfl⟩; exact ⟨[(I x93.1)], [(I x93.2)], rfl, rfl, rfl⟩)) ?_
                 rintro σq ⟨H2, m2⟩
                 exact ⟨_, (), rfl, ⟨H2.sel' [0] rfl rfl, m.comp m2⟩, stab [0, 1, 2, 3, 4, 5, 6, 7, 8, 9, 10, 11, 12, 13, 14] (by kernel_rfl) ⟨rfl, rfl, rfl, rfl, rfl, rfl, rfl, rfl, rfl, rfl, rfl, rfl, rfl, rfl, rfl, trivial⟩⟩
                trivial) ?_
              exact all_nil
             ·intro _nm ρ σ112 hJ hoff hrel
              have e0 := look_off (N := 141) (hoff 0 rfl) rfl
              have e1 := look_off (N := 141) (hoff 1 rfl) rfl
              have e2 := look_off (N := 141) (hoff 2 rfl) rfl
              have e3 := look_off (N := 141) (hoff 3 rfl) rfl
              have e9 := look_off (N := 141) (hoff 9 rfl) rfl
              have e10 := look_off (N := 141) (hoff 10 rfl) rfl
              have e11 := look_off (N := 141) (hoff 11 rfl) rfl
              have e87 := hrel 2 rfl 87 rfl
              have e89 := hrel 4 rfl 89 rfl
              have e98 := hrel 13 rfl 98 rfl
              obtain ⟨H, -⟩ := (show Hp S0 σ0 σ112 [Ch.own 0 0 (Sl Db s68.1 Dc) (s68.1.set s68.2.toNat (x93.1, x93.2))] ∧ Md (fun i => (cov []) i ∨ (fun b => blk (Sl Db s68.1 Dc) = some b) i) σ91 σ112 from hJ)
              clear hJ Hs
              rw [fr_lookL (L := [(0, (Sl Db s68.1 Dc)), (1, (I Cz)), (2, (I Da)), (3, (.func (.func 72) #[] #[])), (9, (I o7)), (10, (I s2.2.2)), (11, (I s68.2)), (87, (Sl Db s68.1 Dc)), (89, (I (w64 (s68.2 - 1)))), (98, (.agg #[(I x100.1), (I x100.2)]))]) ⟨e0, e1, e2, e3, e9, e10, e11, e87, e89, e98, trivial⟩]
              clear hoff hrel e0 e1 e2 e3 e9 e10 e11 e87 e89 e98
              have hsl : (Sl Db s68.1 Dc) = (Sl Db (s68.1.set s68.2.toNat (x93.1, x93.2)) Dc) := sl_len (by simp)
              rw [hsl]; rw [hsl] at H; clear hsl
              revert h; refine br fun x113 hx114 h => ?_
              obtain ⟨b116, o117, hi115, -⟩ := (H.own 0 rfl).ix hx114
              refine st (v := (pt b116 o117)) (rv_ix Tryz.underlying27 ti38 rfl rfl hi115) ?_
              refine st_exS (ex_store_own (e' := (x100.1, x100.2)) (vs := [(I x100.1), (I x100.2)]) (k := 0) H (i := 0) rfl ti38 hx114 hi115 rfl rfl rfl rfl rfl (Nat.le_of_ble_eq_true rfl) (by simp [plain]) (by rintro _ ⟨_, _, rfl, rfl, rfl⟩; exact ⟨[(I x100.1)], [(I x100.2)], rfl, rfl, rfl⟩)) wn ?_
              rintro σ118 ⟨H, -⟩
              have hsl : (Sl Db (s68.1.set s68.2.toNat (x93.1, x93.2)) Dc) = (Sl Db ((s68.1.set s68.2.toNat (x93.1, x93.2)).set (w64 (s68.2 - 1)).toNat (x100.1, x100.2)) Dc) := sl_len List.length_set.symm
              rw [hsl]; rw [hsl] at H; clear hsl
              refine w_end (q_blk (q_then (rg (sm (I s68.2) rfl (st (v := (I (w64 (s68.2 - 1)))) (rv_sub (a := s68.2) (b := 1) rfl rfl) (sa (I (w64 (s68.2 - 1))) rfl (w_end (q_then ?_))))))))
              obtain rfl := sj h
              exact ⟨_, rfl, _, σ118, fr_join ⟨rfl, rfl, rfl, rfl, rfl, rfl, rfl, trivial⟩, rfl, H.sel' [0] rfl rfl, ((List.length_set.trans (List.length_set.trans (hn70.trans (List.length_set.trans (List.length_set.trans hn4))))).trans (List.length_set.trans (List.length_set.trans hn4)).symm)⟩
           ·replace h := bif_f hb71 h
            refine c_exit (q_then_x (q_then_x (q_blk_hit ?_)))
            obtain rfl := sj h
            obtain rfl := hres _ rfl
            exact ⟨rfl, _, σ69, fr_join ⟨rfl, rfl, rfl, rfl, rfl, rfl, trivial⟩, rfl, H.sel' [0] rfl rfl, ((hn70.trans (List.length_set.trans (List.length_set.trans hn4))).trans (List.length_set.trans (List.length_set.trans hn4)).symm)⟩
          ·clear hj
           have h := h'
           clear h' H
           rintro e a w ⟨rfl, ρ, σ119, rfl, rfl, H, hn120⟩
           obtain rfl := sj h
           exact ⟨rfl, _, σ119, fr_join ⟨rfl, rfl, rfl, rfl, rfl, rfl, trivial⟩, rfl, H.sel' [0] rfl rfl, ((hn120.trans (List.length_set.trans (List.length_set.trans hn4))).trans (List.length_set.trans (List.length_set.trans hn4)).symm)⟩
         ·replace h := bif_f hb66 h
          refine c_skip ?_
          obtain rfl := sj h
          exact ⟨rfl, _, σ64, fr_join ⟨rfl, rfl, rfl, rfl, rfl, rfl, trivial⟩, rfl, H.sel' [0] rfl rfl, rfl⟩
        ·clear hj
         have h := h'
         clear h' H
         rintro e a w ⟨rfl, ρ, σ121, rfl, rfl, H, hn122⟩
         refine q_then (c_seq (rg (sm (I Da) rfl (sm (I o7) rfl (st (v := (I (w64 (Da - o7)))) (rv_sub (a := Da) (b := o7) rfl rfl) (st (v := (B (decide (2 ≤ (w64 (Da - o7)))))) (rv_geq (a := (w64 (Da - o7))) (b := 2) rfl rfl) (w_end (q_then ?_))))))))
         refine cd_cond (decide (2 ≤ (w64 (Da - o7)))) rfl (fun hb123 => ?_) (fun hb123 => ?_)
         ·replace h := bif_t hb123 h
          refine c_seq (rg (sm (I o7) rfl (st (v := (I (w64 (o7 + 1)))) (rv_add (a := o7) (b := 1) rfl rfl) (sa (I (w64 (o7 + 1))) rfl (w_end (q_then ?_))))))
          obtain ⟨o124, hj, h'⟩ := bind_some h
          clear h
          refine c_cut (fun e a w => e = .normal ∧ ∃ (ρ : Nat → Value) (σ : St), a = fr 141 (updL ρ [(0, (Sl Db o124 Dc)), (1, (I Cz)), (2, (I Da)), (3, (.func (.func 72) #[] #[])), (9, (I o7)), (10, (I s2.2.2))]) ∧ w = σ.w ∧ Hp S0 σ0 σ [Ch.own 0 0 (Sl Db o124 Dc) o124] ∧ o124.length = o65.length) ?_ ?_
          ·clear h'
           rename _ = some o124 => h
           refine c_blk (wp_loopM _ h (fun s125 a w => ∃ (ρ : Nat → Value) (σ : St), a = fr 141 (updL ρ [(0, (Sl Db s125.1 Dc)), (1, (I Cz)), (2, (I Da)), (3, (.func (.func 72) #[] #[])), (9, (I o7)), (10, (I s2.2.2)), (12, (I s125.2))]) ∧ w = σ.w ∧ Hp S0 σ0 σ [Ch.own 0 0 (Sl Db s125.1 Dc) s125.1] ∧ s125.1.length = o65.length) ⟨_, σ121, fr_join ⟨rfl, rfl, rfl, rfl, rfl, rfl, rfl, trivial⟩, rfl, H.sel' [0] rfl rfl, rfl⟩ ?_)
           clear h H
           rintro s125 a w o ⟨ρ, σ126, rfl, rfl, H, hn127⟩ h hres
           refine c_seq (c_seq (rg (sm (I s125.2) rfl (sm (I Da) rfl (st (v := (B (decide (s125.2 < Da)))) (rv_lss (a := s125.2) (b := Da) rfl rfl) (w_end (q_then ?_)))))))
           refine cd_cond (decide (s125.2 < Da)) rfl (fun hb128 => ?_) (fun hb128 => ?_)
           ·replace h := bif_t hb128 h
            refine c_skip (q_then (c_seq (c_blk (c_seq (c_seq ?_)))))
            refine rgP (σ := σ126) 10 (by kernel_rfl) (by kernel_rfl) (by kernel_rfl) ?_
            refine sq (v := (.func (.func 72) #[] #[])) (rv_move rfl) (sq (v := (Sl Db s125.1 Dc)) (rv_move rfl) (sq (v := (I s125.2)) (rv_move rfl) ?_))
            revert h; refine br fun x129 hx130 h => ?_
            obtain ⟨b132, o133, hi131, -⟩ := (H.own 0 rfl).ix hx130
            refine sq (v := (pt b132 o133)) (rv_ix Tryz.underlying27 ti38 rfl rfl hi131) ?_
            obtain ⟨_, ⟨_, _, rfl, rfl, rfl⟩, hl134, hc135⟩ := ((H.own 0 rfl).at hx130 hi131).cells
            refine sq (v := (.agg #[(I x129.1), (I x129.2)])) (rv_load Tryz.underlying38 rfl ti38 rfl hl134 hc135) (sq (v := (Sl Db s125.1 Dc)) (rv_move rfl) (sq (v := (I s125.2)) (rv_move rfl) (sq (v := (I (w64 (s125.2 - 1)))) (rv_sub (a := s125.2) (b := 1) rfl rfl) ?_)))
            revert h; refine br fun x136 hx137 h => ?_
            obtain ⟨b139, o140, hi138, -⟩ := (H.own 0 rfl).ix hx137
            refine sq (v := (pt b139 o140)) (rv_ix Tryz.underlying27 ti38 rfl rfl hi138) ?_
            obtain ⟨_, ⟨_, _, rfl, rfl, rfl⟩, hl141, hc142⟩ := ((H.own 0 rfl).at hx137 hi138).cells
            refine sq (v := (.agg #[(I x136.1), (I x136.2)])) (rv_load Tryz.underlying38 rfl ti38 rfl hl141 hc142) (sq_end ?_)
            intro σ143 hm144
            replace H := H.grow (hm144.mono fun _ h => h); clear hm144
            revert h; refine br fun r145 hx146 h => ?_
            have hc147 := c_impl_compareHits hx146
            refine st_call (cx_call hc147 (ent_v (cap := []) hc147.fn rfl rfl) hn0 (H.sel' [0] rfl rfl : Hp S0 σ0 _ ([] ++ _))) wn ?_
            rintro _ σ148 ⟨_, ⟨rfl, rfl⟩, H, -⟩
            replace H : Hp _ _ _ [_] := H
            refine st (v := (B (decide (r145 < 0)))) (rv_lss (a := r145) (b := 0) rfl rfl) (st (v := (B (!(decide (r145 < 0))))) (rv_not rfl) (w_end (q_then ?_)))
            refine cd_cond (!(decide (r145 < 0))) rfl (fun hb149 => ?_) (fun hb149 => ?_)
            ·replace h := bif_t hb149 h
             refine c_exit (q_then_x ?_)
             refine q_blk_x (by decide) ?_
             refine q_then_x (q_then_x (q_blk_hit ?_))
             obtain rfl := sj h
             obtain rfl := hres _ rfl
             exact ⟨rfl, _, σ148, fr_join ⟨rfl, rfl, rfl, rfl, rfl, rfl, trivial⟩, rfl, H.sel' [0] rfl rfl, ((hn127.trans (hn122.trans (List.length_set.trans (List.length_set.trans hn4)))).trans (hn122.trans (List.length_set.trans (List.length_set.trans hn4))).symm)⟩
            ·replace h := bif_f hb149 h
             refine c_skip (q_then ?_)
             revert h; refine br fun x150 hx151 h => ?_
             obtain ⟨b153, o154, hi152, -⟩ := (H.own 0 rfl).ix hx151
             obtain ⟨_, ⟨_, _, rfl, rfl, rfl⟩, hl155, hc156⟩ := ((H.own 0 rfl).at hx151 hi152).cells
             revert h; refine br fun x157 hx158 h => ?_
             obtain ⟨b160, o161, hi159, -⟩ := (H.own 0 rfl).ix hx158
             obtain ⟨_, ⟨_, _, rfl, rfl, rfl⟩, hl162, hc163⟩ := ((H.own 0 rfl).at hx158 hi159).cells
             revert h; refine br fun x164 hx165 h => ?_
             obtain ⟨b167, o168, hi166, -⟩ := (H.own 0 rfl).ix hx165
             have Hs := H
             refine rg2 (σ := σ148) (Nm := Unit) 16 [15] [[false], [true]] [[(0, 0)], [(0, 0)], [(0, 0), (1, 1)], [(0, 0), (1, 1)], [(0, 0), (1, 1)], [(0, 0)], [(0, 0)], [(0, 0)], [(0, 0)], [(0, 0)], [(0, 0)], [(0, 0)], [(0, 0)], [(0, 0)], [(0, 0)], [(0, 1)]] 1 [fun _ => fun σm => Hp S0 σ0 σm [Ch.own 0 0 (Sl Db s125.1 Dc) s125.1] ∧ Md (cov []) σ148 σm, fun _ => fun σm => Hp S0 σ0 σm [Ch.own 0 0 (Sl Db s125.1 Dc) (s125.1.set s125.2.toNat (x150.1, x150.2))] ∧ Md (fun i => (cov []) i ∨ (fun b => blk (Sl Db s125.1 Dc) = some b) i) σ148 σm] [fun _ => (Sl Db s125.1 Dc), fun _ => (I s125.2), fun _ => (Sl Db s125.1 Dc), fun _ => (I s125.2), fun _ => (I (w64 (s125.2 - 1))), fun _ => (Sl Db s125.1 Dc), fun _ => (I s125.2), fun _ => (I (w64 (s125.2 - 1))), fun _ => (pt b153 o154), fun _ => (.agg #[(I x150.1), (I x150.2)]), fun _ => (Sl Db s125.1 Dc), fun _ => (I s125.2), fun _ => (pt b160 o161), fun _ => (.agg #[(I x157.1), (I x157.2)]), fun _ => (pt b167 o168), fun _ => undef] () (by kernel_rfl) (by kernel_rfl) ?_ ?_ ?_
             ·intro σm m0
              exact ⟨H.grow (m0.mono fun _ h => h.elim), m0⟩
             ·refine ac rfl (by
                intro k _nm ρ σm hJ hoff hdep
                have e0 := look_off (N := 141) (hoff 0 rfl) rfl
                exact dp_v (v := (Sl Db s125.1 Dc)) wn (rv_move e0) rfl hJ) ?_
              refine ac rfl (by
                intro k _nm ρ σm hJ hoff hdep
                have e12 := look_off (N := 141) (hoff 12 rfl) rfl
                exact dp_v (v := (I s125.2)) wn (rv_move e12) rfl hJ) ?_
              refine ac rfl (by
                intro k _nm ρ σm hJ hoff hdep
                have e0 := look_off (N := 141) (hoff 0 rfl) rfl
                exact dp_v (v := (Sl Db s125.1 Dc)) wn (rv_move e0) rfl hJ) ?_
              refine ac rfl (by
                intro k _nm ρ σm hJ hoff hdep
                have e12 := look_off (N := 141) (hoff 12 rfl) rfl
                exact dp_v (v := (I s125.2)) wn (rv_move e12) rfl hJ) ?_
              refine ac rfl (by
                intro k _nm ρ σm hJ hoff hdep
                have e128 := hdep 3 rfl rfl 128 rfl
                exact dp_v (v := (I (w64 (s125.2 - 1)))) wn (rv_sub (a := s125.2) (b := 1) e128 rfl) rfl hJ) ?_
              refine ac rfl (by
                intro k _nm ρ σm hJ hoff hdep
                have e0 := look_off (N := 141) (hoff 0 rfl) rfl
                exact dp_v (v := (Sl Db s125.1 Dc)) wn (rv_move e0) rfl hJ) ?_
              refine ac rfl (by
                intro k _nm ρ σm hJ hoff hdep
                have e12 := look_off (N := 141) (hoff 12 rfl) rfl
                exact dp_v (v := (I s125.2)) wn (rv_move e12) rfl hJ) ?_
              refine ac rfl (by
                intro k _nm ρ σm hJ hoff hdep
                have e131 := hdep 6 rfl rfl 131 rfl
                exact dp_v (v := (I (w64 (s125.2 - 1)))) wn (rv_sub (a := s125.2) (b := 1) e131 rfl) rfl hJ) ?_
              refine ac rfl (by
                intro k _nm ρ σm hJ hoff hdep
                have e130 := hdep 5 rfl rfl 130 rfl
                have e132 := hdep 7 rfl rfl 132 rfl
                exact dp_v (v := (pt b153 o154)) wn (rv_ix Tryz.underlying27 ti38 e130 e132 hi152) rfl hJ) ?_
              refine all_cons (by
                refine ⟨?_, ?_⟩
                ·intro _nm ρ σm hJ hoff hdep
                 have e133 := hdep 8 rfl rfl 133 rfl
                 obtain ⟨H, m⟩ := id hJ
                 obtain ⟨_, ⟨_, _, rfl, rfl, rfl⟩, hl155, hc156⟩ := ((H.own 0 rfl).at hx151 hi152).cells
                 exact dp_v (v := (.agg #[(I x150.1), (I x150.2)])) wn (rv_load Tryz.underlying38 rfl ti38 e133 hl155 hc156) rfl hJ
                trivial) ?_
              refine ac rfl (by
                intro k _nm ρ σm hJ hoff hdep
                have e0 := look_off (N := 141) (hoff 0 rfl) rfl
                exact dp_v (v := (Sl Db s125.1 Dc)) wn (rv_move e0) rfl hJ) ?_
              refine ac rfl (by
                intro k _nm ρ σm hJ hoff hdep
                have e12 := look_off (N := 141) (hoff 12 rfl) rfl
                exact dp_v (v := (I s125.2)) wn (rv_move e12) rfl hJ) ?_
              refine ac rfl (by
                intro k _nm ρ σm hJ hoff hdep
                have e135 := hdep 10 rfl rfl 135 rfl
                have e136 := hdep 11 rfl rfl 136 rfl
                exact dp_v (v := (pt b160 o161)) wn (rv_ix Tryz.underlying27 ti38 e135 e136 hi159) rfl hJ) ?_
              refine all_cons (by
                refine ⟨?_, ?_⟩
                ·intro _nm ρ σm hJ hoff hdep
                 have e137 := hdep 12 rfl rfl 137 rfl
                 obtain ⟨H, m⟩ := id hJ
                 obtain ⟨_, ⟨_, _, rfl, rfl, rfl⟩, hl162, hc163⟩ := ((H.own 0 rfl).at hx158 hi159).cells
                 exact dp_v (v := (.agg #[(I x157.1), (I x157.2)])) wn (rv_load Tryz.underlying38 rfl ti38 e137 hl162 hc163) rfl hJ
                trivial) ?_
              refine ac rfl (by
                intro k _nm ρ σm hJ hoff hdep
                have e125 := hdep 0 rfl rfl 125 rfl
                have e126 := hdep 1 rfl rfl 126 rfl
                exact dp_v (v := (pt b167 o168)) wn (rv_ix Tryz.underlying27 ti38 e125 e126 hi166) rfl hJ) ?_
              refine all_cons (by
                refine ⟨?_, ?_⟩
                ·intro _nm ρ σm hJ hoff hdep
                 have e139 := hdep 14 rfl rfl 139 rfl
                 have e134 := hdep 9 rfl rfl 134 rfl
                 obtain ⟨H, m⟩ := id hJ
                 refine dp_exS wn rfl (ex_store_own (e' := (x150.1, x150.2)) (vs := [(I x150.1), (I x150.2)]) (k := 0) H (i := 0) rfl ti38 hx165 hi166 e139 rfl e134 rfl rfl (Nat.le_of_ble_eq_true rfl) (by simp [plain]) (by rintro _ ⟨_, _, rfl, rfl, rfl⟩; exact ⟨[(I x150.1)], [(I x150.2)], rfl, rfl, rfl⟩)) ?_
                 rintro σq ⟨H2, m2⟩
                 exact ⟨_, (), rfl, ⟨H2.sel' [0] rfl rfl, m.comp m2⟩, stab [0, 1, 2, 3, 4, 5, 6, 7, 8, 9, 10, 11, 12, 13, 14] (by kernel_rfl) ⟨rfl, rfl, rfl, rfl, rfl, rfl, rfl, rfl, rfl, rfl, rfl, rfl, rfl, rfl, rfl, trivial⟩⟩
                trivial) ?_
              exact all_nil
             ·intro _nm ρ σ169 hJ hoff hrel
              have e0 := look_off (N := 141) (hoff 0 rfl) rfl
              have e1 := look_off (N := 141) (hoff 1 rfl) rfl
              have e2 := look_off (N := 141) (hoff 2 rfl) rfl
              have e3 := look_off (N := 141) (hoff 3 rfl) rfl
              have e9 := look_off (N := 141) (hoff 9 rfl) rfl
              have e10 := look_off (N := 141) (hoff 10 rfl) rfl
              have e12 := look_off (N := 141) (hoff 12 rfl) rfl
              have e127 := hrel 2 rfl 127 rfl
              have e129 := hrel 4 rfl 129 rfl
              have e138 := hrel 13 rfl 138 rfl
              obtain ⟨H, -⟩ := (show Hp S0 σ0 σ169 [Ch.own 0 0 (Sl Db s125.1 Dc) (s125.1.set s125.2.toNat (x150.1, x150.2))] ∧ Md (fun i => (cov []) i ∨ (fun b => blk (Sl Db s125.1 Dc) = some b) i) σ148 σ169 from hJ)
              clear hJ Hs
              rw [fr_lookL (L := [(0, (Sl Db s125.1 Dc)), (1, (I Cz)), (2, (I Da)), (3, (.func (.func 72) #[] #[])), (9, (I o7)), (10, (I s2.2.2)), (12, (I s125.2)), (127, (Sl Db s125.1 Dc)), (129, (I (w64 (s125.2 - 1)))), (138, (.agg #[(I x157.1), (I x157.2)]))]) ⟨e0, e1, e2, e3, e9, e10, e12, e127, e129, e138, trivial⟩]
              clear hoff hrel e0 e1 e2 e3 e9 e10 e12 e127 e129 e138
              have hsl : (Sl Db s125.1 Dc) = (Sl Db (s125.1.set s125.2.toNat (x150.1, x150.2)) Dc) := sl_len (by simp)
              rw [hsl]; rw [hsl] at H; clear hsl
              revert h; refine br fun x170 hx171 h => ?_
              obtain ⟨b173, o174, hi172, -⟩ := (H.own 0 rfl).ix hx171
              refine st (v := (pt b173 o174)) (rv_ix Tryz.underlying27 ti38 rfl rfl hi172) ?_
              refine st_exS (ex_store_own (e' := (x157.1, x157.2)) (vs := [(I x157.1), (I x157.2)]) (k := 0) H (i := 0) rfl ti38 hx171 hi172 rfl rfl rfl rfl rfl (Nat.le_of_ble_eq_true rfl) (by simp [plain]) (by rintro _ ⟨_, _, rfl, rfl, rfl⟩; exact ⟨[(I x157.1)], [(I x157.2)], rfl, rfl, rfl⟩)) wn ?_
              rintro σ175 ⟨H, -⟩
              have hsl : (Sl Db (s125.1.set s125.2.toNat (x150.1, x150.2)) Dc) = (Sl Db ((s125.1.set s125.2.toNat (x150.1, x150.2)).set (w64 (s125.2 - 1)).toNat (x157.1, x157.2)) Dc) := sl_len List.length_set.symm
              rw [hsl]; rw [hsl] at H; clear hsl
              refine w_end (q_blk (q_then (rg (sm (I s125.2) rfl (st (v := (I (w64 (s125.2 + 1)))) (rv_add (a := s125.2) (b := 1) rfl rfl) (sa (I (w64 (s125.2 + 1))) rfl (w_end (q_then ?_))))))))
              obtain rfl := sj h
              exact ⟨_, rfl, _, σ175, fr_join ⟨rfl, rfl, rfl, rfl, rfl, rfl, rfl, trivial⟩, rfl, H.sel' [0] rfl rfl, ((List.length_set.trans (List.length_set.trans (hn127.trans (hn122.trans (List.length_set.trans (List.length_set.trans hn4)))))).trans (hn122.trans (List.length_set.trans (List.length_set.trans hn4))).symm)⟩
           ·replace h := bif_f hb128 h
            refine c_exit (q_then_x (q_then_x (q_blk_hit ?_)))
            obtain rfl := sj h
            obtain rfl := hres _ rfl
            exact ⟨rfl, _, σ126, fr_join ⟨rfl, rfl, rfl, rfl, rfl, rfl, trivial⟩, rfl, H.sel' [0] rfl rfl, ((hn127.trans (hn122.trans (List.length_set.trans (List.length_set.trans hn4)))).trans (hn122.trans (List.length_set.trans (List.length_set.trans hn4))).symm)⟩
          ·clear hj
           have h := h'
           clear h' H
           rintro e a w ⟨rfl, ρ, σ176, rfl, rfl, H, hn177⟩
           refine q_blk ?_
           obtain rfl := sj h
           exact .inl ⟨_, rfl, rfl, _, σ176, fr_join ⟨rfl, rfl, rfl, rfl, rfl, rfl, trivial⟩, rfl, H.sel' [0] rfl rfl, ((hn177.trans (hn122.trans (List.length_set.trans (List.length_set.trans hn4)))).trans hn4.symm)⟩
         ·replace h := bif_f hb123 h
          refine c_skip (q_blk ?_)
          obtain rfl := sj h
          exact .inl ⟨_, rfl, rfl, _, σ121, fr_join ⟨rfl, rfl, rfl, rfl, rfl, rfl, trivial⟩, rfl, H.sel' [0] rfl rfl, ((hn122.trans (List.length_set.trans (List.length_set.trans hn4))).trans hn4.symm)⟩
   ·clear hj
    have h := h'
    clear h' H
    rintro e a w (⟨t178, rfl, rfl, ρ, σ179, rfl, rfl, H, hn180⟩ | ⟨t181, rfl, rfl, ρ, σ182, rfl, rfl, H, hn183⟩)
    ·replace h := selim_l h
     refine q_then (rg (sm (I s2.2.2) rfl (st (v := (I (w64 (s2.2.2 + 1)))) (rv_add (a := s2.2.2) (b := 1) rfl rfl) (sa (I (w64 (s2.2.2 + 1))) rfl (w_end (q_then ?_))))))
     obtain rfl := sj h
     exact ⟨_, rfl, _, σ179, fr_join ⟨rfl, rfl, rfl, rfl, rfl, rfl, trivial⟩, rfl, H.sel' [0] rfl rfl, (hn180.trans hn4)⟩
    ·replace h := selim_r h
     refine q_then_r (q_then_r (q_blk_r ?_))
     obtain rfl := sj h
     obtain rfl := hres _ rfl
     exact .inr (⟨_, rfl, rfl, _, σ182, fr_join ⟨rfl, rfl, trivial⟩, rfl, H.sel' [0] rfl rfl, (hn183.trans hn4)⟩)
  ·replace h := bif_f hb5 h
   refine c_exit (q_then_x (q_then_x (q_blk_hit ?_)))
   obtain rfl := sj h
   obtain rfl := hres _ rfl
   exact .inl ⟨_, rfl, rfl, _, σ3, fr_join ⟨rfl, trivial⟩, rfl, H.sel' [0] rfl rfl, hn4⟩
 ·clear hj
  have h := h'
  clear h' H
  rintro e a w (⟨t184, rfl, rfl, ρ, σ185, rfl, rfl, H, hn186⟩ | ⟨t187, rfl, rfl, ρ, σ188, rfl, rfl, H, hn189⟩)
  ·replace h := selim_l h
   refine q_then (c_seq (rg (sa (B false) rfl (w_end (q_then (c_ret ?_))))))
   obtain rfl := sj h
   exact fin_ret (v := (B false)) (results_ok Tryz.results143 (res_tmp (v := (B false)) rfl res_nil) rfl) ⟨rfl, rfl, hn186⟩ (H.sel' [0] rfl rfl)
  ·replace h := selim_r h
   refine q_then_r ?_
   obtain rfl := sj h
   exact fin_ret (v := (B t187.2)) (results_ok Tryz.results143 (res_tmp (v := (B t187.2)) rfl res_nil) rfl) ⟨rfl, rfl, hn189⟩ (H.sel' [0] rfl rfl)

theorem c_slices_partitionEqualCmpFunc_impl_Hit__impl_compareHits {Cy : List (Int × Int)} {Cz : Int} {Da : Int} {Ec : Int} {Db : Option Addr} {Dc : Nat} {r : Int × (List (Int × Int))} (h : M.slices_partitionEqualCmpFunc_impl_Hit__impl_compareHits Cy Cz Da Ec = some r) :
    Cal2 Tryz.prog 144 [(Sl Db Cy Dc), (I Cz), (I Da), (I Ec), (.func (.func 72) #[] #[])] [Ch.own 0 0 (Sl Db Cy Dc) Cy] (fun n0 v L => v = (I r.1) ∧ L = [Ch.own 0 0 (Sl Db r.2 Dc) r.2] ∧ r.2.length = Cy.length) := by
 refine cal2 (n := 90) Tryz.func144 rfl rfl rfl rfl ?_
 intro S0 σ0 n0 hn0 H
 unfold M.slices_partitionEqualCmpFunc_impl_Hit__impl_compareHits at h
 refine c_seq (rg (sa (I 0) rfl (w_end (q_then (c_seq ?_)))))
 revert h; refine br fun x1 hx2 h => ?_
 obtain ⟨b4, o5, hi3, -⟩ := (H.own 0 rfl).ix hx2
 obtain ⟨_, ⟨_, _, rfl, rfl, rfl⟩, hl6, hc7⟩ := ((H.own 0 rfl).at hx2 hi3).cells
 revert h; refine br fun x8 hx9 h => ?_
 obtain ⟨b11, o12, hi10, -⟩ := (H.own 0 rfl).ix hx9
 obtain ⟨_, ⟨_, _, rfl, rfl, rfl⟩, hl13, hc14⟩ := ((H.own 0 rfl).at hx9 hi10).cells
 revert h; refine br fun x15 hx16 h => ?_
 obtain ⟨b18, o19, hi17, -⟩ := (H.own 0 rfl).ix hx16
 have Hs := H
 refine rg2 (σ := σ0) (Nm := Unit) 14 [13] [[false], [true]] [[(0, 0)], [(0, 0)], [(0, 0), (1, 1)], [(0, 0), (1, 1)], [(0, 0)], [(0, 0)], [(0, 0)], [(0, 0)], [(0, 0)], [(0, 0)], [(0, 0)], [(0, 0)], [(0, 0)], [(0, 1)]] 1 [fun _ => fun σm => Hp S0 σ0 σm [Ch.own 0 0 (Sl Db Cy Dc) Cy] ∧ Md (cov []) σ0 σm, fun _ => fun σm => Hp S0 σ0 σm [Ch.own 0 0 (Sl Db Cy Dc) (Cy.set Cz.toNat (x1.1, x1.2))] ∧ Md (fun i => (cov []) i ∨ (fun b => blk (Sl Db Cy Dc) = some b) i) σ0 σm] [fun _ => (Sl Db Cy Dc), fun _ => (I Cz), fun _ => (Sl Db Cy Dc), fun _ => (I Ec), fun _ => (Sl Db Cy Dc), fun _ => (I Ec), fun _ => (pt b4 o5), fun _ => (.agg #[(I x1.1), (I x1.2)]), fun _ => (Sl Db Cy Dc), fun _ => (I Cz), fun _ => (pt b11 o12), fun _ => (.agg #[(I x8.1), (I x8.2)]), fun _ => (pt b18 o19), fun _ => undef] () (by kernel_rfl) (by kernel_rfl) ?_ ?_ ?_
 ·intro σm m0
  exact ⟨H.grow (m0.mono fun _ h => h.elim), m0⟩
 ·refine ac rfl (by
    intro k _nm ρ σm hJ hoff hdep
    have e0 := look_off (N := 90) (hoff 0 rfl) rfl
    exact dp_v (v := (Sl Db Cy Dc)) wn (rv_move e0) rfl hJ) ?_
  refine ac rfl (by
    intro k _nm ρ σm hJ hoff hdep
    have e1 := look_off (N := 90) (hoff 1 rfl) rfl
    exact dp_v (v := (I Cz)) wn (rv_move e1) rfl hJ) ?_
  refine ac rfl (by
    intro k _nm ρ σm hJ hoff hdep
    have e0 := look_off (N := 90) (hoff 0 rfl) rfl
    exact dp_v (v := (Sl Db Cy Dc)) wn (rv_move e0) rfl hJ) ?_
  refine ac rfl (by
    intro k _nm ρ σm hJ hoff hdep
    have e3 := look_off (N := 90) (hoff 3 rfl) rfl
    exact dp_v (v := (I Ec)) wn (rv_move e3) rfl hJ) ?_
  refine ac rfl (by
    intro k _nm ρ σm hJ hoff hdep
    have e0 := look_off (N := 90) (hoff 0 rfl) rfl
    exact dp_v (v := (Sl Db Cy Dc)) wn (rv_move e0) rfl hJ) ?_
  refine ac rfl (by
    intro k _nm ρ σm hJ hoff hdep
    have e3 := look_off (N := 90) (hoff 3 rfl) rfl
    exact dp_v (v := (I Ec)) wn (rv_move e3) rfl hJ) ?_
  refine ac rfl (by
    intro k _nm ρ σm hJ hoff hdep
    have e17 := hdep 4 rfl rfl 17 rfl
    have e18 := hdep 5 rfl rfl 18 rfl
    exact dp_v (v := (pt b4 o5)) wn (rv_ix Tryz.underlying27 ti38 e17 e18 hi3) rfl hJ) ?_
  refine all_cons (by
    refine ⟨?_, ?_⟩
    ·intro _nm ρ σm hJ hoff hdep
     have e19 := hdep 6 rfl rfl 19 rfl
     obtain ⟨H, m⟩ := id hJ
     obtain ⟨_, ⟨_, _, rfl, rfl, rfl⟩, hl6, hc7⟩ := ((H.own 0 rfl).at hx2 hi3).cells
     exact dp_v (v := (.agg #[(I x1.1), (I x1.2)])) wn (rv_load Tryz.underlying38 rfl ti38 e19 hl6 hc7) rfl hJ
    trivial) ?_
  refine ac rfl (by
    intro k _nm ρ σm hJ hoff hdep
    have e0 := look_off (N := 90) (hoff 0 rfl) rfl
    exact dp_v (v := (Sl Db Cy Dc)) wn (rv_move e0) rfl hJ) ?_
  refine ac rfl (by
    intro k _nm ρ σm hJ hoff hdep
    have e1 := look_off (N := 90) (hoff 1 rfl) rfl
    exact dp_v (v := (I Cz)) wn (rv_move e1) rfl hJ) ?_
  refine ac rfl (by
    intro k _nm ρ σm hJ hoff hdep
    have e21 := hdep 8 rfl rfl 21 rfl
    have e22 := hdep 9 rfl rfl 22 rfl
    exact dp_v (v := (pt b11 o12)) wn (rv_ix Tryz.underlying27 ti38 e21 e22 hi10) rfl hJ) ?_
  refine all_cons (by
    refine ⟨?_, ?_⟩
    ·intro _nm ρ σm hJ hoff hdep
     have e23 := hdep 10 rfl rfl 23 rfl
     obtain ⟨H, m⟩ := id hJ
     obtain ⟨_, ⟨_, _, rfl, rfl, rfl⟩, hl13, hc14⟩ := ((H.own 0 rfl).at hx9 hi10).cells
     exact dp_v (v := (.agg #[(I x8.1), (I x8.2)])) wn (rv_load Tryz.underlying38 rfl ti38 e23 hl13 hc14) rfl hJ
    trivial) ?_
  refine ac rfl (by
    intro k _nm ρ σm hJ hoff hdep
    have e13 := hdep 0 rfl rfl 13 rfl
    have e14 := hdep 1 rfl rfl 14 rfl
    exact dp_v (v := (pt b18 o19)) wn (rv_ix Tryz.underlying27 ti38 e13 e14 hi17) rfl hJ) ?_
  refine all_cons (by
    refine ⟨?_, ?_⟩
    ·intro _nm ρ σm hJ hoff hdep
     have e25 := hdep 12 rfl rfl 25 rfl
     have e20 := hdep 7 rfl rfl 20 rfl
     obtain ⟨H, m⟩ := id hJ
     refine dp_exS wn rfl (ex_store_own (e' := (x1.1, x1.2)) (vs := [(I x1.1), (I x1.2)]) (k := 0) H (i := 0) rfl ti38 hx16 hi17 e25 rfl e20 rfl rfl (Nat.le_of_ble_eq_true rfl) (by simp [plain]) (by rintro _ ⟨_, _, rfl, rfl, rfl⟩; exact ⟨[(I x1.1)], [(I x1.2)], rfl, rfl, rfl⟩)) ?_
     rintro σq ⟨H2, m2⟩
     exact ⟨_, (), rfl, ⟨H2.sel' [0] rfl rfl, m.comp m2⟩, stab [0, 1, 2, 3, 4, 5, 6, 7, 8, 9, 10, 11, 12] (by kernel_rfl) ⟨rfl, rfl, rfl, rfl, rfl, rfl, rfl, rfl, rfl, rfl, rfl, rfl, rfl, trivial⟩⟩
    trivial) ?_
  exact all_nil
 ·intro _nm ρ σ20 hJ hoff hrel
  have e0 := look_off (N := 90) (hoff 0 rfl) rfl
  have e1 := look_off (N := 90) (hoff 1 rfl) rfl
  have e2 := look_off (N := 90) (hoff 2 rfl) rfl
  have e4 := look_off (N := 90) (hoff 4 rfl) rfl
  have e15 := hrel 2 rfl 15 rfl
  have e16 := hrel 3 rfl 16 rfl
  have e24 := hrel 11 rfl 24 rfl
  obtain ⟨H, -⟩ := (show Hp S0 σ0 σ20 [Ch.own 0 0 (Sl Db Cy Dc) (Cy.set Cz.toNat (x1.1, x1.2))] ∧ Md (fun i => (cov []) i ∨ (fun b => blk (Sl Db Cy Dc) = some b) i) σ0 σ20 from hJ)
  clear hJ Hs
  rw [fr_lookL (L := [(0, (Sl Db Cy Dc)), (1, (I Cz)), (2, (I Da)), (4, (.func (.func 72) #[] #[])), (15, (Sl Db Cy Dc)), (16, (I Ec)), (24, (.agg #[(I x8.1), (I x8.2)]))]) ⟨e0, e1, e2, e4, e15, e16, e24, trivial⟩]
  clear hoff hrel e0 e1 e2 e4 e15 e16 e24
  have hsl : (Sl Db Cy Dc) = (Sl Db (Cy.set Cz.toNat (x1.1, x1.2)) Dc) := sl_len (by simp)
  rw [hsl]; rw [hsl] at H; clear hsl
  revert h; refine br fun x21 hx22 h => ?_
  obtain ⟨b24, o25, hi23, -⟩ := (H.own 0 rfl).ix hx22
  refine st (v := (pt b24 o25)) (rv_ix Tryz.underlying27 ti38 rfl rfl hi23) ?_
  refine st_exS (ex_store_own (e' := (x8.1, x8.2)) (vs := [(I x8.1), (I x8.2)]) (k := 0) H (i := 0) rfl ti38 hx22 hi23 rfl rfl rfl rfl rfl (Nat.le_of_ble_eq_true rfl) (by simp [plain]) (by rintro _ ⟨_, _, rfl, rfl, rfl⟩; exact ⟨[(I x8.1)], [(I x8.2)], rfl, rfl, rfl⟩)) wn ?_
  rintro σ26 ⟨H, -⟩
  have hsl : (Sl Db (Cy.set Cz.toNat (x1.1, x1.2)) Dc) = (Sl Db ((Cy.set Cz.toNat (x1.1, x1.2)).set Ec.toNat (x8.1, x8.2)) Dc) := sl_len List.length_set.symm
  rw [hsl]; rw [hsl] at H; clear hsl
  refine w_end (q_then (c_seq (rg (sm (I Cz) rfl (st (v := (I (w64 (Cz + 1)))) (rv_add (a := Cz) (b := 1) rfl rfl) (sm (I Da) rfl (st (v := (I (w64 (Da - 1)))) (rv_sub (a := Da) (b := 1) rfl rfl) (sa (I (w64 (Cz + 1))) rfl (sa (I (w64 (Da - 1))) rfl (w_end (q_then ?_)))))))))))
  refine c_seq ?_
  obtain ⟨o27, hj, h'⟩ := bind_some h
  clear h
  refine c_cut (fun e a w => e = .normal ∧ ∃ (ρ : Nat → Value) (σ : St), a = fr 90 (updL ρ [(0, (Sl Db o27.1 Dc)), (11, (I o27.2))]) ∧ w = σ.w ∧ Hp S0 σ0 σ [Ch.own 0 0 (Sl Db o27.1 Dc) o27.1] ∧ o27.1.length = ((Cy.set Cz.toNat (x1.1, x1.2)).set Ec.toNat (x8.1, x8.2)).length) ?_ ?_
  ·clear h'
   rename _ = some o27 => h
   refine c_blk (wp_loopM _ h (fun s28 a w => ∃ (ρ : Nat → Value) (σ : St), a = fr 90 (updL ρ [(0, (Sl Db s28.1 Dc)), (1, (I Cz)), (4, (.func (.func 72) #[] #[])), (11, (I s28.2.1)), (12, (I s28.2.2))]) ∧ w = σ.w ∧ Hp S0 σ0 σ [Ch.own 0 0 (Sl Db s28.1 Dc) s28.1] ∧ s28.1.length = ((Cy.set Cz.toNat (x1.1, x1.2)).set Ec.toNat (x8.1, x8.2)).length) ⟨_, σ26, fr_join ⟨rfl, rfl, rfl, rfl, rfl, trivial⟩, rfl, H.sel' [0] rfl rfl, rfl⟩ ?_)
   clear h H
   rintro s28 a w o ⟨ρ, σ29, rfl, rfl, H, hn30⟩ h hres
   refine c_blk (c_seq ?_)
   obtain ⟨o31, hj, h'⟩ := bind_some h
   clear h
   refine c_cut (fun e a w => e = .normal ∧ ∃ (ρ : Nat → Value) (σ : St), a = fr 90 (updL ρ [(0, (Sl Db s28.1 Dc)), (1, (I Cz)), (4, (.func (.func 72) #[] #[])), (11, (I o31)), (12, (I s28.2.2))]) ∧ w = σ.w ∧ Hp S0 σ0 σ [Ch.own 0 0 (Sl Db s28.1 Dc) s28.1]) ?_ ?_
   ·clear h'
    rename _ = some o31 => h
    refine c_blk (wp_loopM _ h (fun s32 a w => ∃ (ρ : Nat → Value) (σ : St), a = fr 90 (updL ρ [(0, (Sl Db s28.1 Dc)), (1, (I Cz)), (4, (.func (.func 72) #[] #[])), (11, (I s32)), (12, (I s28.2.2))]) ∧ w = σ.w ∧ Hp S0 σ0 σ [Ch.own 0 0 (Sl Db s28.1 Dc) s28.1]) ⟨_, σ29, fr_join ⟨rfl, rfl, rfl, rfl, rfl, trivial⟩, rfl, H.sel' [0] rfl rfl⟩ ?_)
    clear h H
    rintro s32 a w o ⟨ρ, σ33, rfl, rfl, H⟩ h hres
    refine c_seq (c_seq ?_)
    obtain ⟨o34, hj, h'⟩ := bind_some h
    clear h
    refine c_cut (fun e a w => e = .normal ∧ ∃ (ρ : Nat → Value) (σ : St), a = fr 90 (updL ρ [(0, (Sl Db s28.1 Dc)), (1, (I Cz)), (4, (.func (.func 72) #[] #[])), (11, (I s32)), (12, (I s28.2.2)), (47, (B o34))]) ∧ w = σ.w ∧ Hp S0 σ0 σ [Ch.own 0 0 (Sl Db s28.1 Dc) s28.1]) ?_ ?_
    ·clear h'
     rename _ = some o34 => h
     refine rgP (σ := σ33) 13 (by kernel_rfl) (by kernel_rfl) (by kernel_rfl) ?_
     refine sq (v := (I s32)) (rv_move rfl) (sq (v := (I s28.2.2)) (rv_move rfl) (sq (v := (B (decide (s32 ≤ s28.2.2)))) (rv_leq (a := s32) (b := s28.2.2) rfl rfl) (sq (v := (B (decide (s32 ≤ s28.2.2)))) (rv_move rfl) ?_)))
     rcases Bool.eq_false_or_eq_true (decide (s32 ≤ s28.2.2)) with hb35 | hb35
     ·replace h := bif_t hb35 h
      refine sq_g (v := (.func (.func 72) #[] #[])) (congrArg some hb35) (rv_move rfl) (sq_g (v := (Sl Db s28.1 Dc)) (congrArg some hb35) (rv_move rfl) (sq_g (v := (I Cz)) (congrArg some hb35) (rv_move rfl) ?_))
      revert h; refine br fun x36 hx37 h => ?_
      obtain ⟨b39, o40, hi38, -⟩ := (H.own 0 rfl).ix hx37
      refine sq_g (v := (pt b39 o40)) (congrArg some hb35) (rv_ix Tryz.underlying27 ti38 rfl rfl hi38) ?_
      obtain ⟨_, ⟨_, _, rfl, rfl, rfl⟩, hl41, hc42⟩ := ((H.own 0 rfl).at hx37 hi38).cells
      refine sq_g (v := (.agg #[(I x36.1), (I x36.2)])) (congrArg some hb35) (rv_load Tryz.underlying38 rfl ti38 rfl hl41 hc42) (sq_g (v := (Sl Db s28.1 Dc)) (congrArg some hb35) (rv_move rfl) (sq_g (v := (I s32)) (congrArg some hb35) (rv_move rfl) ?_))
      revert h; refine br fun x43 hx44 h => ?_
      obtain ⟨b46, o47, hi45, -⟩ := (H.own 0 rfl).ix hx44
      refine sq_g (v := (pt b46 o47)) (congrArg some hb35) (rv_ix Tryz.underlying27 ti38 rfl rfl hi45) ?_
      obtain ⟨_, ⟨_, _, rfl, rfl, rfl⟩, hl48, hc49⟩ := ((H.own 0 rfl).at hx44 hi45).cells
      refine sq_g (v := (.agg #[(I x43.1), (I x43.2)])) (congrArg some hb35) (rv_load Tryz.underlying38 rfl ti38 rfl hl48 hc49) (sq_end ?_)
      intro σ50 hm51
      replace H := H.grow (hm51.mono fun _ h => h); clear hm51
      revert h; refine br fun r52 hx53 h => ?_
      have hc54 := c_impl_compareHits hx53
      refine st_call (cx_call hc54 (ent_v (cap := []) hc54.fn rfl rfl) hn0 (H.sel' [0] rfl rfl : Hp S0 σ0 _ ([] ++ _))) (wanted_yes rfl (by exact (congrArg some hb35))) ?_
      rintro _ σ55 ⟨_, ⟨rfl, rfl⟩, H, -⟩
      replace H : Hp _ _ _ [_] := H
      refine st_g (v := (B (decide (r52 < 0)))) (congrArg some hb35) (rv_lss (a := r52) (b := 0) rfl rfl) (st_g (v := (B (!(decide (r52 < 0))))) (congrArg some hb35) (rv_not rfl) (st (v := (B (!(decide (r52 < 0))))) (rv_pick_t (congrArg B hb35) rfl) (w_end ?_)))
      obtain rfl := sj h
      exact ⟨rfl, _, σ55, fr_join ⟨rfl, rfl, rfl, rfl, rfl, rfl, trivial⟩, rfl, H.sel' [0] rfl rfl⟩
     ·replace h := bif_f hb35 h
      refine sq_skip (congrArg some hb35) (sq_skip (congrArg some hb35) (sq_skip (congrArg some hb35) (sq_skip (congrArg some hb35) (sq_skip (congrArg some hb35) (sq_skip (congrArg some hb35) (sq_skip (congrArg some hb35) (sq_skip (congrArg some hb35) (sq_skip (congrArg some hb35) (sq_end ?_)))))))))
      intro σ56 hm57
      replace H := H.grow (hm57.mono fun _ h => h); clear hm57
      refine st_skip (congrArg some hb35) (st_skip (congrArg some hb35) (st_skip (congrArg some hb35) (st (v := (B false)) (rv_pick_f (congrArg B hb35) rfl) (w_end ?_))))
      obtain rfl := sj h
      exact ⟨rfl, _, σ56, fr_join ⟨rfl, rfl, rfl, rfl, rfl, rfl, trivial⟩, rfl, H.sel' [0] rfl rfl⟩
    ·clear hj
     have h := h'
     clear h' H
     rintro e a w ⟨rfl, ρ, σ58, rfl, rfl, H⟩
     refine q_then ?_
     refine cd_cond o34 rfl (fun hb59 => ?_) (fun hb59 => ?_)
     ·replace h := bif_t hb59 h
      refine c_skip (q_then (c_blk (rg (sm (I s32) rfl (st (v := (I (w64 (s32 + 1)))) (rv_add (a := s32) (b := 1) rfl rfl) (sa (I (w64 (s32 + 1))) rfl (w_end (q_blk (q_then ?_)))))))))
      obtain rfl := sj h
      exact ⟨_, rfl, _, σ58, fr_join ⟨rfl, rfl, rfl, rfl, rfl, trivial⟩, rfl, H.sel' [0] rfl rfl⟩
     ·replace h := bif_f hb59 h
      refine c_exit (q_then_x (q_then_x (q_blk_hit ?_)))
      obtain rfl := sj h
      obtain rfl := hres _ rfl
      exact ⟨rfl, _, σ58, fr_join ⟨rfl, rfl, rfl, rfl, rfl, trivial⟩, rfl, H.sel' [0] rfl rfl⟩
   ·clear hj
    have h := h'
    clear h' H
    rintro e a w ⟨rfl, ρ, σ60, rfl, rfl, H⟩
    refine q_then (c_seq ?_)
    obtain ⟨o61, hj, h'⟩ := bind_some h
    clear h
    refine c_cut (fun e a w => e = .normal ∧ ∃ (ρ : Nat → Value) (σ : St), a = fr 90 (updL ρ [(0, (Sl Db s28.1 Dc)), (1, (I Cz)), (4, (.func (.func 72) #[] #[])), (11, (I o31)), (12, (I o61))]) ∧ w = σ.w ∧ Hp S0 σ0 σ [Ch.own 0 0 (Sl Db s28.1 Dc) s28.1]) ?_ ?_
    ·clear h'
     rename _ = some o61 => h
     refine c_blk (wp_loopM _ h (fun s62 a w => ∃ (ρ : Nat → Value) (σ : St), a = fr 90 (updL ρ [(0, (Sl Db s28.1 Dc)), (1, (I Cz)), (4, (.func (.func 72) #[] #[])), (11, (I o31)), (12, (I s62))]) ∧ w = σ.w ∧ Hp S0 σ0 σ [Ch.own 0 0 (Sl Db s28.1 Dc) s28.1]) ⟨_, σ60, fr_join ⟨rfl, rfl, rfl, rfl, rfl, trivial⟩, rfl, H.sel' [0] rfl rfl⟩ ?_)
     clear h H
     rintro s62 a w o ⟨ρ, σ63, rfl, rfl, H⟩ h hres
     refine c_seq (c_seq ?_)
     obtain ⟨o64, hj, h'⟩ := bind_some h
     clear h
     refine c_cut (fun e a w => e = .normal ∧ ∃ (ρ : Nat → Value) (σ : St), a = fr 90 (updL ρ [(0, (Sl Db s28.1 Dc)), (1, (I Cz)), (4, (.func (.func 72) #[] #[])), (11, (I o31)), (12, (I s62)), (65, (B o64))]) ∧ w = σ.w ∧ Hp S0 σ0 σ [Ch.own 0 0 (Sl Db s28.1 Dc) s28.1]) ?_ ?_
     ·clear h'
      rename _ = some o64 => h
      refine rgP (σ := σ63) 13 (by kernel_rfl) (by kernel_rfl) (by kernel_rfl) ?_
      refine sq (v := (I o31)) (rv_move rfl) (sq (v := (I s62)) (rv_move rfl) (sq (v := (B (decide (o31 ≤ s62)))) (rv_leq (a := o31) (b := s62) rfl rfl) (sq (v := (B (decide (o31 ≤ s62)))) (rv_move rfl) ?_)))
      rcases Bool.eq_false_or_eq_true (decide (o31 ≤ s62)) with hb65 | hb65
      ·replace h := bif_t hb65 h
       refine sq_g (v := (.func (.func 72) #[] #[])) (congrArg some hb65) (rv_move rfl) (sq_g (v := (Sl Db s28.1 Dc)) (congrArg some hb65) (rv_move rfl) (sq_g (v := (I Cz)) (congrArg some hb65) (rv_move rfl) ?_))
       revert h; refine br fun x66 hx67 h => ?_
       obtain ⟨b69, o70, hi68, -⟩ := (H.own 0 rfl).ix hx67
       refine sq_g (v := (pt b69 o70)) (congrArg some hb65) (rv_ix Tryz.underlying27 ti38 rfl rfl hi68) ?_
       obtain ⟨_, ⟨_, _, rfl, rfl, rfl⟩, hl71, hc72⟩ := ((H.own 0 rfl).at hx67 hi68).cells
       refine sq_g (v := (.agg #[(I x66.1), (I x66.2)])) (congrArg some hb65) (rv_load Tryz.underlying38 rfl ti38 rfl hl71 hc72) (sq_g (v := (Sl Db s28.1 Dc)) (congrArg some hb65) (rv_move rfl) (sq_g (v := (I s62)) (congrArg some hb65) (rv_move rfl) ?_))
       revert h; refine br fun x73 hx74 h => ?_
       obtain ⟨b76, o77, hi75, -⟩ := (H.own 0 rfl).ix hx74
       refine sq_g (v := (pt b76 o77)) (congrArg some hb65) (rv_ix Tryz.underlying27 ti38 rfl rfl hi75) ?_
       obtain ⟨_, ⟨_, _, rfl, rfl, rfl⟩, hl78, hc79⟩ := ((H.own 0 rfl).at hx74 hi75).cells
       refine sq_g (v := (.agg #[(I x73.1), (I x73.2)])) (congrArg some hb65) (rv_load Tryz.underlying38 rfl ti38 rfl hl78 hc79) (sq_end ?_)
       intro σ80 hm81
       replace H := H.grow (hm81.mono fun _ h => h); clear hm81
       revert h; refine br fun r82 hx83 h => ?_
       have hc84 := c_impl_compareHits hx83
       refine st_call (cx_call hc84 (ent_v (cap := []) hc84.fn rfl rfl) hn0 (H.sel' [0] rfl rfl : Hp S0 σ0 _ ([] ++ _))) (wanted_yes rfl (by exact (congrArg some hb65))) ?_
       rintro _ σ85 ⟨_, ⟨rfl, rfl⟩, H, -⟩
       replace H : Hp _ _ _ [_] := H
       refine st_g (v := (B (decide (r82 < 0)))) (congrArg some hb65) (rv_lss (a := r82) (b := 0) rfl rfl) (st (v := (B (decide (r82 < 0)))) (rv_pick_t (congrArg B hb65) rfl) (w_end ?_))
       obtain rfl := sj h
       exact ⟨rfl, _, σ85, fr_join ⟨rfl, rfl, rfl, rfl, rfl, rfl, trivial⟩, rfl, H.sel' [0] rfl rfl⟩
      ·replace h := bif_f hb65 h
       refine sq_skip (congrArg some hb65) (sq_skip (congrArg some hb65) (sq_skip (congrArg some hb65) (sq_skip (congrArg some hb65) (sq_skip (congrArg some hb65) (sq_skip (congrArg some hb65) (sq_skip (congrArg some hb65) (sq_skip (congrArg some hb65) (sq_skip (congrArg some hb65) (sq_end ?_)))))))))
       intro σ86 hm87
       replace H := H.grow (hm87.mono fun _ h => h); clear hm87
       refine st_skip (congrArg some hb65) (st_skip (congrArg some hb65) (st (v := (B false)) (rv_pick_f (congrArg B hb65) rfl) (w_end ?_)))
       obtain rfl := sj h
       exact ⟨rfl, _, σ86, fr_join ⟨rfl, rfl, rfl, rfl, rfl, rfl, trivial⟩, rfl, H.sel' [0] rfl rfl⟩
     ·clear hj
      have h := h'
      clear h' H
      rintro e a w ⟨rfl, ρ, σ88, rfl, rfl, H⟩
      refine q_then ?_
      refine cd_cond o64 rfl (fun hb89 => ?_) (fun hb89 => ?_)
      ·replace h := bif_t hb89 h
       refine c_skip (q_then (c_blk (rg (sm (I s62) rfl (st (v := (I (w64 (s62 - 1)))) (rv_sub (a := s62) (b := 1) rfl rfl) (sa (I (w64 (s62 - 1))) rfl (w_end (q_blk (q_then ?_)))))))))
       obtain rfl := sj h
       exact ⟨_, rfl, _, σ88, fr_join ⟨rfl, rfl, rfl, rfl, rfl, trivial⟩, rfl, H.sel' [0] rfl rfl⟩
      ·replace h := bif_f hb89 h
       refine c_exit (q_then_x (q_then_x (q_blk_hit ?_)))
       obtain rfl := sj h
       obtain rfl := hres _ rfl
       exact ⟨rfl, _, σ88, fr_join ⟨rfl, rfl, rfl, rfl, rfl, trivial⟩, rfl, H.sel' [0] rfl rfl⟩
    ·clear hj
     have h := h'
     clear h' H
     rintro e a w ⟨rfl, ρ, σ90, rfl, rfl, H⟩
     refine q_then (c_seq (c_seq (rg (sm (I o31) rfl (sm (I o61) rfl (st (v := (B (decide (o61 < o31)))) (rv_gtr (a := o31) (b := o61) rfl rfl) (w_end (q_then ?_))))))))
     refine cd_cond (decide (o61 < o31)) rfl (fun hb91 => ?_) (fun hb91 => ?_)
     ·replace h := bif_t hb91 h
      refine c_exit (q_then_x ?_)
      refine q_blk_x (by decide) ?_
      refine q_then_x (q_blk_hit ?_)
      obtain rfl := sj h
      obtain rfl := hres _ rfl
      exact ⟨rfl, _, σ90, fr_join ⟨rfl, rfl, trivial⟩, rfl, H.sel' [0] rfl rfl, ((hn30.trans (List.length_set.trans List.length_set)).trans (List.length_set.trans List.length_set).symm)⟩
     ·replace h := bif_f hb91 h
      refine c_skip (q_then (c_seq ?_))
      revert h; refine br fun x92 hx93 h => ?_
      obtain ⟨b95, o96, hi94, -⟩ := (H.own 0 rfl).ix hx93
      obtain ⟨_, ⟨_, _, rfl, rfl, rfl⟩, hl97, hc98⟩ := ((H.own 0 rfl).at hx93 hi94).cells
      revert h; refine br fun x99 hx100 h => ?_
      obtain ⟨b102, o103, hi101, -⟩ := (H.own 0 rfl).ix hx100
      obtain ⟨_, ⟨_, _, rfl, rfl, rfl⟩, hl104, hc105⟩ := ((H.own 0 rfl).at hx100 hi101).cells
      revert h; refine br fun x106 hx107 h => ?_
      obtain ⟨b109, o110, hi108, -⟩ := (H.own 0 rfl).ix hx107
      have Hs := H
      refine rg2 (σ := σ90) (Nm := Unit) 14 [13] [[false], [true]] [[(0, 0)], [(0, 0)], [(0, 0), (1, 1)], [(0, 0), (1, 1)], [(0, 0)], [(0, 0)], [(0, 0)], [(0, 0)], [(0, 0)], [(0, 0)], [(0, 0)], [(0, 0)], [(0, 0)], [(0, 1)]] 1 [fun _ => fun σm => Hp S0 σ0 σm [Ch.own 0 0 (Sl Db s28.1 Dc) s28.1] ∧ Md (cov []) σ90 σm, fun _ => fun σm => Hp S0 σ0 σm [Ch.own 0 0 (Sl Db s28.1 Dc) (s28.1.set o31.toNat (x92.1, x92.2))] ∧ Md (fun i => (cov []) i ∨ (fun b => blk (Sl Db s28.1 Dc) = some b) i) σ90 σm] [fun _ => (Sl Db s28.1 Dc), fun _ => (I o31), fun _ => (Sl Db s28.1 Dc), fun _ => (I o61), fun _ => (Sl Db s28.1 Dc), fun _ => (I o61), fun _ => (pt b95 o96), fun _ => (.agg #[(I x92.1), (I x92.2)]), fun _ => (Sl Db s28.1 Dc), fun _ => (I o31), fun _ => (pt b102 o103), fun _ => (.agg #[(I x99.1), (I x99.2)]), fun _ => (pt b109 o110), fun _ => undef] () (by kernel_rfl) (by kernel_rfl) ?_ ?_ ?_
      ·intro σm m0
       exact ⟨H.grow (m0.mono fun _ h => h.elim), m0⟩
      ·refine ac rfl (by
         intro k _nm ρ σm hJ hoff hdep
         have e0 := look_off (N := 90) (hoff 0 rfl) rfl
         exact dp_v (v := (Sl Db s28.1 Dc)) wn (rv_move e0) rfl hJ) ?_
       refine ac rfl (by
         intro k _nm ρ σm hJ hoff hdep
         have e11 := look_off (N := 90) (hoff 11 rfl) rfl
         exact dp_v (v := (I o31)) wn (rv_move e11) rfl hJ) ?_
       refine ac rfl (by
         intro k _nm ρ σm hJ hoff hdep
         have e0 := look_off (N := 90) (hoff 0 rfl) rfl
         exact dp_v (v := (Sl Db s28.1 Dc)) wn (rv_move e0) rfl hJ) ?_
       refine ac rfl (by
         intro k _nm ρ σm hJ hoff hdep
         have e12 := look_off (N := 90) (hoff 12 rfl) rfl
         exact dp_v (v := (I o61)) wn (rv_move e12) rfl hJ) ?_
       refine ac rfl (by
         intro k _nm ρ σm hJ hoff hdep
         have e0 := look_off (N := 90) (hoff 0 rfl) rfl
         exact dp_v (v := (Sl Db s28.1 Dc)) wn (rv_move e0) rfl hJ) ?_
       refine ac rfl (by
         intro k _nm ρ σm hJ hoff hdep
         have e12 := look_off (N := 90) (hoff 12 rfl) rfl
         exact dp_v (v := (I o61)) wn (rv_move e12) rfl hJ) ?_
       refine ac rfl (by
         intro k _nm ρ σm hJ hoff hdep
         have e75 := hdep 4 rfl rfl 75 rfl
         have e76 := hdep 5 rfl rfl 76 rfl
         exact dp_v (v := (pt b95 o96)) wn (rv_ix Tryz.underlying27 ti38 e75 e76 hi94) rfl hJ) ?_
       refine all_cons (by
         refine ⟨?_, ?_⟩
         ·intro _nm ρ σm hJ hoff hdep
          have e77 := hdep 6 rfl rfl 77 rfl
          obtain ⟨H, m⟩ := id hJ
          obtain ⟨_, ⟨_, _, rfl, rfl, rfl⟩, hl97, hc98⟩ := ((H.own 0 rfl).at hx93 hi94).cells
          exact dp_v (v := (.agg #[(I x92.1), (I x92.2)])) wn (rv_load Tryz.underlying38 rfl ti38 e77 hl97 hc98) rfl hJ
         trivial) ?_
       refine ac rfl (by
         intro k _nm ρ σm hJ hoff hdep
         have e0 := look_off (N := 90) (hoff 0 rfl) rfl
         exact dp_v (v := (Sl Db s28.1 Dc)) wn (rv_move e0) rfl hJ) ?_
       refine ac rfl (by
         intro k _nm ρ σm hJ hoff hdep
         have e11 := look_off (N := 90) (hoff 11 rfl) rfl
         exact dp_v (v := (I o31)) wn (rv_move e11) rfl hJ) ?_
       refine ac rfl (by
         intro k _nm ρ σm hJ hoff hdep
         have e79 := hdep 8 rfl rfl 79 rfl
         have e80 := hdep 9 rfl rfl 80 rfl
         exact dp_v (v := (pt b102 o103)) wn (rv_ix Tryz.underlying27 ti38 e79 e80 hi101) rfl hJ) ?_
       refine all_cons (by
         refine ⟨?_, ?_⟩
         ·intro _nm ρ σm hJ hoff hdep
          have e81 := hdep 10 rfl rfl 81 rfl
          obtain ⟨H, m⟩ := id hJ
          obtain ⟨_, ⟨_, _, rfl, rfl, rfl⟩, hl104, hc105⟩ := ((H.own 0 rfl).at hx100 hi101).cells
          exact dp_v (v := (.agg #[(I x99.1), (I x99.2)])) wn (rv_load Tryz.underlying38 rfl ti38 e81 hl104 hc105) rfl hJ
         trivial) ?_
       refine ac rfl (by
         intro k _nm ρ σm hJ hoff hdep
         have e71 := hdep 0 rfl rfl 71 rfl
         have e72 := hdep 1 rfl rfl 72 rfl
         exact dp_v (v := (pt b109 o110)) wn (rv_ix Tryz.underlying27 ti38 e71 e72 hi108) rfl hJ) ?_
       refine all_cons (by
         refine ⟨?_, ?_⟩
         ·intro _nm ρ σm hJ hoff hdep
          have e83 := hdep 12 rfl rfl 83 rfl
          have e78 := hdep 7 rfl rfl 78 rfl
          obtain ⟨H, m⟩ := id hJ
          refine dp_exS wn rfl (ex_store_own (e' := (x92.1, x92.2)) (vs := [(I x92.1), (I x92.2)]) (k := 0) H (i := 0) rfl ti38 hx107 hi108 e83 rfl e78 rfl rfl (Nat.le_of_ble_eq_true rfl) (by simp [plain]) (by rintro _ ⟨_, _, rfl, rfl, rfl⟩; exact ⟨[(I x92.1)], [(I x92.2)], rfl, rfl, rfl⟩)) ?_
          rintro σq ⟨H2, m2⟩
          exact ⟨_, (), rfl, ⟨H2.sel' [0] rfl rfl, m.comp m2⟩, stab [0, 1, 2, 3, 4, 5, 6, 7, 8, 9, 10, 11, 12] (by kernel_rfl) ⟨rfl, rfl, rfl, rfl, rfl, rfl, rfl, rfl, rfl, rfl, rfl, rfl, rfl, trivial⟩⟩
         trivial) ?_
       exact all_nil
      ·intro _nm ρ σ111 hJ hoff hrel
       have e0 := look_off (N := 90) (hoff 0 rfl) rfl
       have e1 := look_off (N := 90) (hoff 1 rfl) rfl
       have e4 := look_off (N := 90) (hoff 4 rfl) rfl
       have e11 := look_off (N := 90) (hoff 11 rfl) rfl
       have e12 := look_off (N := 90) (hoff 12 rfl) rfl
       have e73 := hrel 2 rfl 73 rfl
       have e74 := hrel 3 rfl 74 rfl
       have e82 := hrel 11 rfl 82 rfl
       obtain ⟨H, -⟩ := (show Hp S0 σ0 σ111 [Ch.own 0 0 (Sl Db s28.1 Dc) (s28.1.set o31.toNat (x92.1, x92.2))] ∧ Md (fun i => (cov []) i ∨ (fun b => blk (Sl Db s28.1 Dc) = some b) i) σ90 σ111 from hJ)
       clear hJ Hs
       rw [fr_lookL (L := [(0, (Sl Db s28.1 Dc)), (1, (I Cz)), (4, (.func (.func 72) #[] #[])), (11, (I o31)), (12, (I o61)), (73, (Sl Db s28.1 Dc)), (74, (I o61)), (82, (.agg #[(I x99.1), (I x99.2)]))]) ⟨e0, e1, e4, e11, e12, e73, e74, e82, trivial⟩]
       clear hoff hrel e0 e1 e4 e11 e12 e73 e74 e82
       have hsl : (Sl Db s28.1 Dc) = (Sl Db (s28.1.set o31.toNat (x92.1, x92.2)) Dc) := sl_len (by simp)
       rw [hsl]; rw [hsl] at H; clear hsl
       revert h; refine br fun x112 hx113 h => ?_
       obtain ⟨b115, o116, hi114, -⟩ := (H.own 0 rfl).ix hx113
       refine st (v := (pt b115 o116)) (rv_ix Tryz.underlying27 ti38 rfl rfl hi114) ?_
       refine st_exS (ex_store_own (e' := (x99.1, x99.2)) (vs := [(I x99.1), (I x99.2)]) (k := 0) H (i := 0) rfl ti38 hx113 hi114 rfl rfl rfl rfl rfl (Nat.le_of_ble_eq_true rfl) (by simp [plain]) (by rintro _ ⟨_, _, rfl, rfl, rfl⟩; exact ⟨[(I x99.1)], [(I x99.2)], rfl, rfl, rfl⟩)) wn ?_
       rintro σ117 ⟨H, -⟩
       have hsl : (Sl Db (s28.1.set o31.toNat (x92.1, x92.2)) Dc) = (Sl Db ((s28.1.set o31.toNat (x92.1, x92.2)).set o61.toNat (x99.1, x99.2)) Dc) := sl_len List.length_set.symm
       rw [hsl]; rw [hsl] at H; clear hsl
       refine w_end (q_then (c_seq (rg (sm (I o31) rfl (st (v := (I (w64 (o31 + 1)))) (rv_add (a := o31) (b := 1) rfl rfl) (sa (I (w64 (o31 + 1))) rfl (w_end (q_then (rg (sm (I o61) rfl (st (v := (I (w64 (o61 - 1)))) (rv_sub (a := o61) (b := 1) rfl rfl) ?_)))))))))))
       refine sa (I (w64 (o61 - 1))) rfl (w_end (q_blk (q_then ?_)))
       obtain rfl := sj h
       exact ⟨_, rfl, _, σ117, fr_join ⟨rfl, rfl, rfl, rfl, rfl, trivial⟩, rfl, H.sel' [0] rfl rfl, ((List.length_set.trans (List.length_set.trans (hn30.trans (List.length_set.trans List.length_set)))).trans (List.length_set.trans List.length_set).symm)⟩
  ·clear hj
   have h := h'
   clear h' H
   rintro e a w ⟨rfl, ρ, σ118, rfl, rfl, H, hn119⟩
   refine q_then (c_seq (rg (sm (I o27.2) rfl (sa (I o27.2) rfl (w_end (q_then (c_ret ?_)))))))
   obtain rfl := sj h
   exact fin_ret (v := (I o27.2)) (results_ok Tryz.results144 (res_tmp (v := (I o27.2)) rfl res_nil) rfl) ⟨rfl, rfl, (hn119.trans (List.length_set.trans List.length_set))⟩ (H.sel' [0] rfl rfl)

end Go.Vs
