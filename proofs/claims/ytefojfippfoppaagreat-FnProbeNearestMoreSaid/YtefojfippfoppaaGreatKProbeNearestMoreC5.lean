/- The functions compute what their models say. -/
import Derived.Test.YtefojfippfoppaaGreatKProbeNearestMoreC4
set_option linter.unusedVariables false
set_option linter.unusedSimpArgs false
set_option maxRecDepth 20000
namespace Go.Vs
open Go Go.Proofs
attribute [local irreducible] Code.wp Code.wpIn wpList wpListIn wpQuiet Calls CallsIn

theorem c_slices_partitionCmpFunc_impl_Hit__impl_compareHits {Cy : List (Int × Int)} {Cz : Int} {Da : Int} {Ec : Int} {Db : Option Addr} {Dc : Nat} {r : Int × Bool × (List (Int × Int))} (h : M.slices_partitionCmpFunc_impl_Hit__impl_compareHits Cy Cz Da Ec = some r) :
    Cal2 Tryz.prog 145 [(Sl Db Cy Dc), (I Cz), (I Da), (I Ec), (.func (.func 72) #[] #[])] [Ch.own 0 0 (Sl Db Cy Dc) Cy] (fun n0 v L => v = (.tuple #[(I r.1), (B r.2.1)]) ∧ L = [Ch.own 0 0 (Sl Db r.2.2 Dc) r.2.2] ∧ r.2.2.length = Cy.length) := by
 refine cal2 (n := 178) Tryz.func145 rfl rfl rfl rfl ?_
 intro S0 σ0 n0 hn0 H
 unfold M.slices_partitionCmpFunc_impl_Hit__impl_compareHits at h
 refine c_seq (rg (sa (I 0) rfl (sa (B false) rfl (w_end (q_then (c_seq ?_))))))
 revert h; refine br fun x1 hx2 h => ?_
 obtain ⟨b4, o5, hi3, -⟩ := (H.own 0 rfl).ix hx2
 obtain ⟨_, ⟨_, _, rfl, rfl, rfl⟩, hl6, hc7⟩ := ((H.own 0 rfl).at hx2 hi3).cells
 revert h; refine br fun x8 hx9 h => ?_
 obtain ⟨b11, o12, hi10, -⟩ := (H.own 0 rfl).ix hx9
 obtain ⟨_, ⟨_, _, rfl, rfl, rfl⟩, hl13, hc14⟩ := ((H.own 0 rfl).at hx9 hi10).cells
 revert h; refine br fun x15 hx16 h => ?_
 obtain ⟨b18, o19, hi17, -⟩ := (H.own 0 rfl).ix hx16
 have Hs := H
 refine rg2 (σ := σ0) (Nm := Unit) 14 [13] [[false], [true]] [[(0, 0)], [(0, 0)], [(0, 0), (1, 1)], [(0, 0), (1, 1)], [(0, 0)], [(0, 0)], [(0, 0)], [(0, 0)], [(0, 0)], [(0, 0)], [(0, 0)], [(0, 0)], [(0, 0)], [(0, 1)]] 1 [fun _ => fun σm => Hp S0 σ0 σm [Ch.own 0 0 (Sl Db Cy Dc) Cy] ∧ Md (cov []) σ0 σm, fun _ => fun σm => Hp S0 σ0 σm [Ch.own 0 0 (Sl Db Cy Dc) (Cy.set Cz.toNat (x1.1, x1.2))] ∧ Md (fun i => (cov []) i ∨ (fun b => blk (Sl Db Cy Dc) = some b) i) σ0 σm] [fun _ => (Sl Db Cy Dc), fun _ => (I Cz), fun _ => (Sl Db Cy Dc), fun _ => (I Ec), fun _ => (Sl Db Cy Dc), fun _ => (I Ec), fun _ => (pt b4 o5), fun _ => (.agg #[(I x1.1), (I x1.2)]), fun _ => (Sl Db Cy Dc), fun _ => (I Cz), fun _ => (pt b11 o12), fun _ => (.agg #[(I x8.1), (I x8.2)]), fun _ => (pt b18 o19), fun _ => undef] () (by kernel_rfl) (by kernel_rfl) ?_ ?_ ?_
 ·intro σm m0
  exact ⟨H.grow (m0.mono fun _ h => h.elim), m0⟩
 ·refine ac rfl (by
    intro k _nm ρ σm hJ hoff hdep
    have e0 := look_off (N := 178) (hoff 0 rfl) rfl
    exact dp_v (v := (Sl Db Cy Dc)) wn (rv_move e0) rfl hJ) ?_
  refine ac rfl (by
    intro k _nm ρ σm hJ hoff hdep
    have e1 := look_off (N := 178) (hoff 1 rfl) rfl
    exact dp_v (v := (I Cz)) wn (rv_move e1) rfl hJ) ?_
  refine ac rfl (by
    intro k _nm ρ σm hJ hoff hdep
    have e0 := look_off (N := 178) (hoff 0 rfl) rfl
    exact dp_v (v := (Sl Db Cy Dc)) wn (rv_move e0) rfl hJ) ?_
  refine ac rfl (by
    intro k _nm ρ σm hJ hoff hdep
    have e3 := look_off (N := 178) (hoff 3 rfl) rfl
    exact dp_v (v := (I Ec)) wn (rv_move e3) rfl hJ) ?_
  refine ac rfl (by
    intro k _nm ρ σm hJ hoff hdep
    have e0 := look_off (N := 178) (hoff 0 rfl) rfl
    exact dp_v (v := (Sl Db Cy Dc)) wn (rv_move e0) rfl hJ) ?_
  refine ac rfl (by
    intro k _nm ρ σm hJ hoff hdep
    have e3 := look_off (N := 178) (hoff 3 rfl) rfl
    exact dp_v (v := (I Ec)) wn (rv_move e3) rfl hJ) ?_
  refine ac rfl (by
    intro k _nm ρ σm hJ hoff hdep
    have e18 := hdep 4 rfl rfl 18 rfl
    have e19 := hdep 5 rfl rfl 19 rfl
    exact dp_v (v := (pt b4 o5)) wn (rv_ix Tryz.underlying27 ti38 e18 e19 hi3) rfl hJ) ?_
  refine all_cons (by
    refine ⟨?_, ?_⟩
    ·intro _nm ρ σm hJ hoff hdep
     have e20 := hdep 6 rfl rfl 20 rfl
     obtain ⟨H, m⟩ := id hJ
     obtain ⟨_, ⟨_, _, rfl, rfl, rfl⟩, hl6, hc7⟩ := ((H.own 0 rfl).at hx2 hi3).cells
     exact dp_v (v := (.agg #[(I x1.1), (I x1.2)])) wn (rv_load Tryz.underlying38 rfl ti38 e20 hl6 hc7) rfl hJ
    trivial) ?_
  refine ac rfl (by
    intro k _nm ρ σm hJ hoff hdep
    have e0 := look_off (N := 178) (hoff 0 rfl) rfl
    exact dp_v (v := (Sl Db Cy Dc)) wn (rv_move e0) rfl hJ) ?_
  refine ac rfl (by
    intro k _nm ρ σm hJ hoff hdep
    have e1 := look_off (N := 178) (hoff 1 rfl) rfl
    exact dp_v (v := (I Cz)) wn (rv_move e1) rfl hJ) ?_
  refine ac rfl (by
    intro k _nm ρ σm hJ hoff hdep
    have e22 := hdep 8 rfl rfl 22 rfl
    have e23 := hdep 9 rfl rfl 23 rfl
    exact dp_v (v := (pt b11 o12)) wn (rv_ix Tryz.underlying27 ti38 e22 e23 hi10) rfl hJ) ?_
  refine all_cons (by
    refine ⟨?_, ?_⟩
    ·intro _nm ρ σm hJ hoff hdep
     have e24 := hdep 10 rfl rfl 24 rfl
     obtain ⟨H, m⟩ := id hJ
     obtain ⟨_, ⟨_, _, rfl, rfl, rfl⟩, hl13, hc14⟩ := ((H.own 0 rfl).at hx9 hi10).cells
     exact dp_v (v := (.agg #[(I x8.1), (I x8.2)])) wn (rv_load Tryz.underlying38 rfl ti38 e24 hl13 hc14) rfl hJ
    trivial) ?_
  refine ac rfl (by
    intro k _nm ρ σm hJ hoff hdep
    have e14 := hdep 0 rfl rfl 14 rfl
    have e15 := hdep 1 rfl rfl 15 rfl
    exact dp_v (v := (pt b18 o19)) wn (rv_ix Tryz.underlying27 ti38 e14 e15 hi17) rfl hJ) ?_
  refine all_cons (by
    refine ⟨?_, ?_⟩
    ·intro _nm ρ σm hJ hoff hdep
     have e26 := hdep 12 rfl rfl 26 rfl
     have e21 := hdep 7 rfl rfl 21 rfl
     obtain ⟨H, m⟩ := id hJ
     refine dp_exS wn rfl (ex_store_own (e' := (x1.1, x1.2)) (vs := [(I x1.1), (I x1.2)]) (k := 0) H (i := 0) rfl ti38 hx16 hi17 e26 rfl e21 rfl rfl (Nat.le_of_ble_eq_true rfl) (by simp [plain]) (by rintro _ ⟨_, _, rfl, rfl, rfl⟩; exact ⟨[(I x1.1)], [(I x1.2)], rfl, rfl, rfl⟩)) ?_
     rintro σq ⟨H2, m2⟩
     exact ⟨_, (), rfl, ⟨H2.sel' [0] rfl rfl, m.comp m2⟩, stab [0, 1, 2, 3, 4, 5, 6, 7, 8, 9, 10, 11, 12] (by kernel_rfl) ⟨rfl, rfl, rfl, rfl, rfl, rfl, rfl, rfl, rfl, rfl, rfl, rfl, rfl, trivial⟩⟩
    trivial) ?_
  exact all_nil
 ·intro _nm ρ σ20 hJ hoff hrel
  have e0 := look_off (N := 178) (hoff 0 rfl) rfl
  have e1 := look_off (N := 178) (hoff 1 rfl) rfl
  have e2 := look_off (N := 178) (hoff 2 rfl) rfl
  have e4 := look_off (N := 178) (hoff 4 rfl) rfl
  have e16 := hrel 2 rfl 16 rfl
  have e17 := hrel 3 rfl 17 rfl
  have e25 := hrel 11 rfl 25 rfl
  obtain ⟨H, -⟩ := (show Hp S0 σ0 σ20 [Ch.own 0 0 (Sl Db Cy Dc) (Cy.set Cz.toNat (x1.1, x1.2))] ∧ Md (fun i => (cov []) i ∨ (fun b => blk (Sl Db Cy Dc) = some b) i) σ0 σ20 from hJ)
  clear hJ Hs
  rw [fr_lookL (L := [(0, (Sl Db Cy Dc)), (1, (I Cz)), (2, (I Da)), (4, (.func (.func 72) #[] #[])), (16, (Sl Db Cy Dc)), (17, (I Ec)), (25, (.agg #[(I x8.1), (I x8.2)]))]) ⟨e0, e1, e2, e4, e16, e17, e25, trivial⟩]
  clear hoff hrel e0 e1 e2 e4 e16 e17 e25
  have hsl : (Sl Db Cy Dc) = (Sl Db (Cy.set Cz.toNat (x1.1, x1.2)) Dc) := sl_len (by simp)
  rw [hsl]; rw [hsl] at H; clear hsl
  revert h; refine br fun x21 hx22 h => ?_
  obtain ⟨b24, o25, hi23, -⟩ := (H.own 0 rfl).ix hx22
  refine st (v := (pt b24 o25)) (rv_ix Tryz.underlying27 ti38 rfl rfl hi23) ?_
  refine st_exS (ex_store_own (e' := (x8.1, x8.2)) (vs := [(I x8.1), (I x8.2)]) (k := 0) H (i := 0) rfl ti38 hx22 hi23 rfl rfl rfl rfl rfl (Nat.le_of_ble_eq_true rfl) (by simp [plain]) (by rintro _ ⟨_, _, rfl, rfl, rfl⟩; exact ⟨[(I x8.1)], [(I x8.2)], rfl, rfl, rfl⟩)) wn ?_
  rintro σ26 ⟨H, -⟩
  have hsl : (Sl Db (Cy.set Cz.toNat (x1.1, x1.2)) Dc) = (Sl Db ((Cy.set Cz.toNat (x1.1, x1.2)).set Ec.toNat (x8.1, x8.2)) Dc) := sl_len List.length_set.symm
  rw [hsl]; rw [hsl] at H; clear hsl
  refine w_end (q_then (c_seq (rg (sm (I Cz) rfl (st (v := (I (w64 (Cz + 1)))) (rv_add (a := Cz) (b := 1) rfl rfl) (sm (I Da) rfl (st (v := (I (w64 (Da - 1)))) (rv_sub (a := Da) (b := 1) rfl rfl) (sa (I (w64 (Cz + 1))) rfl (sa (I (w64 (Da - 1))) rfl (w_end (q_then ?_)))))))))))
  refine c_seq ?_
  obtain ⟨o27, hj, h'⟩ := bind_some h
  clear h
  refine c_cut (fun e a w => e = .normal ∧ ∃ (ρ : Nat → Value) (σ : St), a = fr 178 (updL ρ [(0, (Sl Db ((Cy.set Cz.toNat (x1.1, x1.2)).set Ec.toNat (x8.1, x8.2)) Dc)), (1, (I Cz)), (4, (.func (.func 72) #[] #[])), (12, (I o27)), (13, (I (w64 (Da - 1))))]) ∧ w = σ.w ∧ Hp S0 σ0 σ [Ch.own 0 0 (Sl Db ((Cy.set Cz.toNat (x1.1, x1.2)).set Ec.toNat (x8.1, x8.2)) Dc) ((Cy.set Cz.toNat (x1.1, x1.2)).set Ec.toNat (x8.1, x8.2))]) ?_ ?_
  ·clear h'
   rename _ = some o27 => h
   refine c_blk (wp_loopM _ h (fun s28 a w => ∃ (ρ : Nat → Value) (σ : St), a = fr 178 (updL ρ [(0, (Sl Db ((Cy.set Cz.toNat (x1.1, x1.2)).set Ec.toNat (x8.1, x8.2)) Dc)), (1, (I Cz)), (4, (.func (.func 72) #[] #[])), (12, (I s28)), (13, (I (w64 (Da - 1))))]) ∧ w = σ.w ∧ Hp S0 σ0 σ [Ch.own 0 0 (Sl Db ((Cy.set Cz.toNat (x1.1, x1.2)).set Ec.toNat (x8.1, x8.2)) Dc) ((Cy.set Cz.toNat (x1.1, x1.2)).set Ec.toNat (x8.1, x8.2))]) ⟨_, σ26, fr_join ⟨rfl, rfl, rfl, rfl, rfl, trivial⟩, rfl, H.sel' [0] rfl rfl⟩ ?_)
   clear h H
   rintro s28 a w o ⟨ρ, σ29, rfl, rfl, H⟩ h hres
   refine c_seq (c_seq ?_)
   obtain ⟨o30, hj, h'⟩ := bind_some h
   clear h
   refine c_cut (fun e a w => e = .normal ∧ ∃ (ρ : Nat → Value) (σ : St), a = fr 178 (updL ρ [(0, (Sl Db ((Cy.set Cz.toNat (x1.1, x1.2)).set Ec.toNat (x8.1, x8.2)) Dc)), (1, (I Cz)), (4, (.func (.func 72) #[] #[])), (12, (I s28)), (13, (I (w64 (Da - 1)))), (47, (B o30))]) ∧ w = σ.w ∧ Hp S0 σ0 σ [Ch.own 0 0 (Sl Db ((Cy.set Cz.toNat (x1.1, x1.2)).set Ec.toNat (x8.1, x8.2)) Dc) ((Cy.set Cz.toNat (x1.1, x1.2)).set Ec.toNat (x8.1, x8.2))]) ?_ ?_
   ·clear h'
    rename _ = some o30 => h
    refine rgP (σ := σ29) 13 (by kernel_rfl) (by kernel_rfl) (by kernel_rfl) ?_
    refine sq (v := (I s28)) (rv_move rfl) (sq (v := (I (w64 (Da - 1)))) (rv_move rfl) (sq (v := (B (decide (s28 ≤ (w64 (Da - 1)))))) (rv_leq (a := s28) (b := (w64 (Da - 1))) rfl rfl) (sq (v := (B (decide (s28 ≤ (w64 (Da - 1)))))) (rv_move rfl) ?_)))
    rcases Bool.eq_false_or_eq_true (decide (s28 ≤ (w64 (Da - 1)))) with hb31 | hb31
    ·replace h := bif_t hb31 h
     refine sq_g (v := (.func (.func 72) #[] #[])) (congrArg some hb31) (rv_move rfl) (sq_g (v := (Sl Db ((Cy.set Cz.toNat (x1.1, x1.2)).set Ec.toNat (x8.1, x8.2)) Dc)) (congrArg some hb31) (rv_move rfl) (sq_g (v := (I s28)) (congrArg some hb31) (rv_move rfl) ?_))
     revert h; refine br fun x32 hx33 h => ?_
     obtain ⟨b35, o36, hi34, -⟩ := (H.own 0 rfl).ix hx33
     refine sq_g (v := (pt b35 o36)) (congrArg some hb31) (rv_ix Tryz.underlying27 ti38 rfl rfl hi34) ?_
     obtain ⟨_, ⟨_, _, rfl, rfl, rfl⟩, hl37, hc38⟩ := ((H.own 0 rfl).at hx33 hi34).cells
     refine sq_g (v := (.agg #[(I x32.1), (I x32.2)])) (congrArg some hb31) (rv_load Tryz.underlying38 rfl ti38 rfl hl37 hc38) (sq_g (v := (Sl Db ((Cy.set Cz.toNat (x1.1, x1.2)).set Ec.toNat (x8.1, x8.2)) Dc)) (congrArg some hb31) (rv_move rfl) (sq_g (v := (I Cz)) (congrArg some hb31) (rv_move rfl) ?_))
     revert h; refine br fun x39 hx40 h => ?_
     obtain ⟨b42, o43, hi41, -⟩ := (H.own 0 rfl).ix hx40
     refine sq_g (v := (pt b42 o43)) (congrArg some hb31) (rv_ix Tryz.underlying27 ti38 rfl rfl hi41) ?_
     obtain ⟨_, ⟨_, _, rfl, rfl, rfl⟩, hl44, hc45⟩ := ((H.own 0 rfl).at hx40 hi41).cells
     refine sq_g (v := (.agg #[(I x39.1), (I x39.2)])) (congrArg some hb31) (rv_load Tryz.underlying38 rfl ti38 rfl hl44 hc45) (sq_end ?_)
     intro σ46 hm47
     replace H := H.grow (hm47.mono fun _ h => h); clear hm47
     revert h; refine br fun r48 hx49 h => ?_
     have hc50 := c_impl_compareHits hx49
     refine st_call (cx_call hc50 (ent_v (cap := []) hc50.fn rfl rfl) hn0 (H.sel' [0] rfl rfl : Hp S0 σ0 _ ([] ++ _))) (wanted_yes rfl (by exact (congrArg some hb31))) ?_
     rintro _ σ51 ⟨_, ⟨rfl, rfl⟩, H, -⟩
     replace H : Hp _ _ _ [_] := H
     refine st_g (v := (B (decide (r48 < 0)))) (congrArg some hb31) (rv_lss (a := r48) (b := 0) rfl rfl) (st (v := (B (decide (r48 < 0)))) (rv_pick_t (congrArg B hb31) rfl) (w_end ?_))
     obtain rfl := sj h
     exact ⟨rfl, _, σ51, fr_join ⟨rfl, rfl, rfl, rfl, rfl, rfl, trivial⟩, rfl, H.sel' [0] rfl rfl⟩
    ·replace h := bif_f hb31 h
     refine sq_skip (congrArg some hb31) (sq_skip (congrArg some hb31) (sq_skip (congrArg some hb31) (sq_skip (congrArg some hb31) (sq_skip (congrArg some hb31) (sq_skip (congrArg some hb31) (sq_skip (congrArg some hb31) (sq_skip (congrArg some hb31) (sq_skip (congrArg some hb31) (sq_end ?_)))))))))
     intro σ52 hm53
     replace H := H.grow (hm53.mono fun _ h => h); clear hm53
     refine st_skip (congrArg some hb31) (st_skip (congrArg some hb31) (st (v := (B false)) (rv_pick_f (congrArg B hb31) rfl) (w_end ?_)))
     obtain rfl := sj h
     exact ⟨rfl, _, σ52, fr_join ⟨rfl, rfl, rfl, rfl, rfl, rfl, trivial⟩, rfl, H.sel' [0] rfl rfl⟩
   ·clear hj
    have h := h'
    clear h' H
    rintro e a w ⟨rfl, ρ, σ54, rfl, rfl, H⟩
    refine q_then ?_
    refine cd_cond o30 rfl (fun hb55 => ?_) (fun hb55 => ?_)
    ·replace h := bif_t hb55 h
     refine c_skip (q_then (c_blk (rg (sm (I s28) rfl (st (v := (I (w64 (s28 + 1)))) (rv_add (a := s28) (b := 1) rfl rfl) (sa (I (w64 (s28 + 1))) rfl (w_end (q_blk (q_then ?_)))))))))
     obtain rfl := sj h
     exact ⟨_, rfl, _, σ54, fr_join ⟨rfl, rfl, rfl, rfl, rfl, trivial⟩, rfl, H.sel' [0] rfl rfl⟩
    ·replace h := bif_f hb55 h
     refine c_exit (q_then_x (q_then_x (q_blk_hit ?_)))
     obtain rfl := sj h
     obtain rfl := hres _ rfl
     exact ⟨rfl, _, σ54, fr_join ⟨rfl, rfl, rfl, rfl, rfl, trivial⟩, rfl, H.sel' [0] rfl rfl⟩
  ·clear hj
   have h := h'
   clear h' H
   rintro e a w ⟨rfl, ρ, σ56, rfl, rfl, H⟩
   refine q_then (c_seq ?_)
   obtain ⟨o57, hj, h'⟩ := bind_some h
   clear h
   refine c_cut (fun e a w => e = .normal ∧ ∃ (ρ : Nat → Value) (σ : St), a = fr 178 (updL ρ [(0, (Sl Db ((Cy.set Cz.toNat (x1.1, x1.2)).set Ec.toNat (x8.1, x8.2)) Dc)), (1, (I Cz)), (4, (.func (.func 72) #[] #[])), (12, (I o27)), (13, (I o57))]) ∧ w = σ.w ∧ Hp S0 σ0 σ [Ch.own 0 0 (Sl Db ((Cy.set Cz.toNat (x1.1, x1.2)).set Ec.toNat (x8.1, x8.2)) Dc) ((Cy.set Cz.toNat (x1.1, x1.2)).set Ec.toNat (x8.1, x8.2))]) ?_ ?_
   ·clear h'
    rename _ = some o57 => h
    refine c_blk (wp_loopM _ h (fun s58 a w => ∃ (ρ : Nat → Value) (σ : St), a = fr 178 (updL ρ [(0, (Sl Db ((Cy.set Cz.toNat (x1.1, x1.2)).set Ec.toNat (x8.1, x8.2)) Dc)), (1, (I Cz)), (4, (.func (.func 72) #[] #[])), (12, (I o27)), (13, (I s58))]) ∧ w = σ.w ∧ Hp S0 σ0 σ [Ch.own 0 0 (Sl Db ((Cy.set Cz.toNat (x1.1, x1.2)).set Ec.toNat (x8.1, x8.2)) Dc) ((Cy.set Cz.toNat (x1.1, x1.2)).set Ec.toNat (x8.1, x8.2))]) ⟨_, σ56, fr_join ⟨rfl, rfl, rfl, rfl, rfl, trivial⟩, rfl, H.sel' [0] rfl rfl⟩ ?_)
    clear h H
    rintro s58 a w o ⟨ρ, σ59, rfl, rfl, H⟩ h hres
    refine c_seq (c_seq ?_)
    obtain ⟨o60, hj, h'⟩ := bind_some h
    clear h
    refine c_cut (fun e a w => e = .normal ∧ ∃ (ρ : Nat → Value) (σ : St), a = fr 178 (updL ρ [(0, (Sl Db ((Cy.set Cz.toNat (x1.1, x1.2)).set Ec.toNat (x8.1, x8.2)) Dc)), (1, (I Cz)), (4, (.func (.func 72) #[] #[])), (12, (I o27)), (13, (I s58)), (66, (B o60))]) ∧ w = σ.w ∧ Hp S0 σ0 σ [Ch.own 0 0 (Sl Db ((Cy.set Cz.toNat (x1.1, x1.2)).set Ec.toNat (x8.1, x8.2)) Dc) ((Cy.set Cz.toNat (x1.1, x1.2)).set Ec.toNat (x8.1, x8.2))]) ?_ ?_
    ·clear h'
     rename _ = some o60 => h
     refine rgP (σ := σ59) 13 (by kernel_rfl) (by kernel_rfl) (by kernel_rfl) ?_
     refine sq (v := (I o27)) (rv_move rfl) (sq (v := (I s58)) (rv_move rfl) (sq (v := (B (decide (o27 ≤ s58)))) (rv_leq (a := o27) (b := s58) rfl rfl) (sq (v := (B (decide (o27 ≤ s58)))) (rv_move rfl) ?_)))
     rcases Bool.eq_false_or_eq_true (decide (o27 ≤ s58)) with hb61 | hb61
     ·replace h := bif_t hb61 h
      refine sq_g (v := (.func (.func 72) #[] #[])) (congrArg some hb61) (rv_move rfl) (sq_g (v := (Sl Db ((Cy.set Cz.toNat (x1.1, x1.2)).set Ec.toNat (x8.1, x8.2)) Dc)) (congrArg some hb61) (rv_move rfl) (sq_g (v := (I s58)) (congrArg some hb61) (rv_move rfl) ?_))
      revert h; refine br fun x62 hx63 h => ?_
      obtain ⟨b65, o66, hi64, -⟩ := (H.own 0 rfl).ix hx63
      refine sq_g (v := (pt b65 o66)) (congrArg some hb61) (rv_ix Tryz.underlying27 ti38 rfl rfl hi64) ?_
      obtain ⟨_, ⟨_, _, rfl, rfl, rfl⟩, hl67, hc68⟩ := ((H.own 0 rfl).at hx63 hi64).cells
      refine sq_g (v := (.agg #[(I x62.1), (I x62.2)])) (congrArg some hb61) (rv_load Tryz.underlying38 rfl ti38 rfl hl67 hc68) (sq_g (v := (Sl Db ((Cy.set Cz.toNat (x1.1, x1.2)).set Ec.toNat (x8.1, x8.2)) Dc)) (congrArg some hb61) (rv_move rfl) (sq_g (v := (I Cz)) (congrArg some hb61) (rv_move rfl) ?_))
      revert h; refine br fun x69 hx70 h => ?_
      obtain ⟨b72, o73, hi71, -⟩ := (H.own 0 rfl).ix hx70
      refine sq_g (v := (pt b72 o73)) (congrArg some hb61) (rv_ix Tryz.underlying27 ti38 rfl rfl hi71) ?_
      obtain ⟨_, ⟨_, _, rfl, rfl, rfl⟩, hl74, hc75⟩ := ((H.own 0 rfl).at hx70 hi71).cells
      refine sq_g (v := (.agg #[(I x69.1), (I x69.2)])) (congrArg some hb61) (rv_load Tryz.underlying38 rfl ti38 rfl hl74 hc75) (sq_end ?_)
      intro σ76 hm77
      replace H := H.grow (hm77.mono fun _ h => h); clear hm77
      revert h; refine br fun r78 hx79 h => ?_
      have hc80 := c_impl_compareHits hx79
      refine st_call (cx_call hc80 (ent_v (cap := []) hc80.fn rfl rfl) hn0 (H.sel' [0] rfl rfl : Hp S0 σ0 _ ([] ++ _))) (wanted_yes rfl (by exact (congrArg some hb61))) ?_
      rintro _ σ81 ⟨_, ⟨rfl, rfl⟩, H, -⟩
      replace H : Hp _ _ _ [_] := H
      refine st_g (v := (B (decide (r78 < 0)))) (congrArg some hb61) (rv_lss (a := r78) (b := 0) rfl rfl) (st_g (v := (B (!(decide (r78 < 0))))) (congrArg some hb61) (rv_not rfl) (st (v := (B (!(decide (r78 < 0))))) (rv_pick_t (congrArg B hb61) rfl) (w_end ?_)))
      obtain rfl := sj h
      exact ⟨rfl, _, σ81, fr_join ⟨rfl, rfl, rfl, rfl, rfl, rfl, trivial⟩, rfl, H.sel' [0] rfl rfl⟩
     ·replace h := bif_f hb61 h
      refine sq_skip (congrArg some hb61) (sq_skip (congrArg some hb61) (sq_skip (congrArg some hb61) (sq_skip (congrArg some hb61) (sq_skip (congrArg some hb61) (sq_skip (congrArg some hb61) (sq_skip (congrArg some hb61) (sq_skip (congrArg some hb61) (sq_skip (congrArg some hb61) (sq_end ?_)))))))))
      intro σ82 hm83
      replace H := H.grow (hm83.mono fun _ h => h); clear hm83
      refine st_skip (congrArg some hb61) (st_skip (congrArg some hb61) (st_skip (congrArg some hb61) (st (v := (B false)) (rv_pick_f (congrArg B hb61) rfl) (w_end ?_))))
      obtain rfl := sj h
      exact ⟨rfl, _, σ82, fr_join ⟨rfl, rfl, rfl, rfl, rfl, rfl, trivial⟩, rfl, H.sel' [0] rfl rfl⟩
    ·clear hj
     have h := h'
     clear h' H
     rintro e a w ⟨rfl, ρ, σ84, rfl, rfl, H⟩
     refine q_then ?_
     refine cd_cond o60 rfl (fun hb85 => ?_) (fun hb85 => ?_)
     ·replace h := bif_t hb85 h
      refine c_skip (q_then (c_blk (rg (sm (I s58) rfl (st (v := (I (w64 (s58 - 1)))) (rv_sub (a := s58) (b := 1) rfl rfl) (sa (I (w64 (s58 - 1))) rfl (w_end (q_blk (q_then ?_)))))))))
      obtain rfl := sj h
      exact ⟨_, rfl, _, σ84, fr_join ⟨rfl, rfl, rfl, rfl, rfl, trivial⟩, rfl, H.sel' [0] rfl rfl⟩
     ·replace h := bif_f hb85 h
      refine c_exit (q_then_x (q_then_x (q_blk_hit ?_)))
      obtain rfl := sj h
      obtain rfl := hres _ rfl
      exact ⟨rfl, _, σ84, fr_join ⟨rfl, rfl, rfl, rfl, rfl, trivial⟩, rfl, H.sel' [0] rfl rfl⟩
   ·clear hj
    have h := h'
    clear h' H
    rintro e a w ⟨rfl, ρ, σ86, rfl, rfl, H⟩
    refine q_then (c_seq (c_seq (rg (sm (I o27) rfl (sm (I o57) rfl (st (v := (B (decide (o57 < o27)))) (rv_gtr (a := o27) (b := o57) rfl rfl) (w_end (q_then ?_))))))))
    refine cd_cond (decide (o57 < o27)) rfl (fun hb87 => ?_) (fun hb87 => ?_)
    ·replace h := bif_t hb87 h
     refine c_seq ?_
     revert h; refine br fun x88 hx89 h => ?_
     obtain ⟨b91, o92, hi90, -⟩ := (H.own 0 rfl).ix hx89
     obtain ⟨_, ⟨_, _, rfl, rfl, rfl⟩, hl93, hc94⟩ := ((H.own 0 rfl).at hx89 hi90).cells
     revert h; refine br fun x95 hx96 h => ?_
     obtain ⟨b98, o99, hi97, -⟩ := (H.own 0 rfl).ix hx96
     obtain ⟨_, ⟨_, _, rfl, rfl, rfl⟩, hl100, hc101⟩ := ((H.own 0 rfl).at hx96 hi97).cells
     revert h; refine br fun x102 hx103 h => ?_
     obtain ⟨b105, o106, hi104, -⟩ := (H.own 0 rfl).ix hx103
     have Hs := H
     refine rg2 (σ := σ86) (Nm := Unit) 14 [13] [[false], [true]] [[(0, 0)], [(0, 0)], [(0, 0), (1, 1)], [(0, 0), (1, 1)], [(0, 0)], [(0, 0)], [(0, 0)], [(0, 0)], [(0, 0)], [(0, 0)], [(0, 0)], [(0, 0)], [(0, 0)], [(0, 1)]] 1 [fun _ => fun σm => Hp S0 σ0 σm [Ch.own 0 0 (Sl Db ((Cy.set Cz.toNat (x1.1, x1.2)).set Ec.toNat (x8.1, x8.2)) Dc) ((Cy.set Cz.toNat (x1.1, x1.2)).set Ec.toNat (x8.1, x8.2))] ∧ Md (cov []) σ86 σm, fun _ => fun σm => Hp S0 σ0 σm [Ch.own 0 0 (Sl Db ((Cy.set Cz.toNat (x1.1, x1.2)).set Ec.toNat (x8.1, x8.2)) Dc) (((Cy.set Cz.toNat (x1.1, x1.2)).set Ec.toNat (x8.1, x8.2)).set o57.toNat (x88.1, x88.2))] ∧ Md (fun i => (cov []) i ∨ (fun b => blk (Sl Db ((Cy.set Cz.toNat (x1.1, x1.2)).set Ec.toNat (x8.1, x8.2)) Dc) = some b) i) σ86 σm] [fun _ => (Sl Db ((Cy.set Cz.toNat (x1.1, x1.2)).set Ec.toNat (x8.1, x8.2)) Dc), fun _ => (I o57), fun _ => (Sl Db ((Cy.set Cz.toNat (x1.1, x1.2)).set Ec.toNat (x8.1, x8.2)) Dc), fun _ => (I Cz), fun _ => (Sl Db ((Cy.set Cz.toNat (x1.1, x1.2)).set Ec.toNat (x8.1, x8.2)) Dc), fun _ => (I Cz), fun _ => (pt b91 o92), fun _ => (.agg #[(I x88.1), (I x88.2)]), fun _ => (Sl Db ((Cy.set Cz.toNat (x1.1, x1.2)).set Ec.toNat (x8.1, x8.2)) Dc), fun _ => (I o57), fun _ => (pt b98 o99), fun _ => (.agg #[(I x95.1), (I x95.2)]), fun _ => (pt b105 o106), fun _ => undef] () (by kernel_rfl) (by kernel_rfl) ?_ ?_ ?_
     ·intro σm m0
      exact ⟨H.grow (m0.mono fun _ h => h.elim), m0⟩
     ·refine ac rfl (by
        intro k _nm ρ σm hJ hoff hdep
        have e0 := look_off (N := 178) (hoff 0 rfl) rfl
        exact dp_v (v := (Sl Db ((Cy.set Cz.toNat (x1.1, x1.2)).set Ec.toNat (x8.1, x8.2)) Dc)) wn (rv_move e0) rfl hJ) ?_
      refine ac rfl (by
        intro k _nm ρ σm hJ hoff hdep
        have e13 := look_off (N := 178) (hoff 13 rfl) rfl
        exact dp_v (v := (I o57)) wn (rv_move e13) rfl hJ) ?_
      refine ac rfl (by
        intro k _nm ρ σm hJ hoff hdep
        have e0 := look_off (N := 178) (hoff 0 rfl) rfl
        exact dp_v (v := (Sl Db ((Cy.set Cz.toNat (x1.1, x1.2)).set Ec.toNat (x8.1, x8.2)) Dc)) wn (rv_move e0) rfl hJ) ?_
      refine ac rfl (by
        intro k _nm ρ σm hJ hoff hdep
        have e1 := look_off (N := 178) (hoff 1 rfl) rfl
        exact dp_v (v := (I Cz)) wn (rv_move e1) rfl hJ) ?_
      refine ac rfl (by
        intro k _nm ρ σm hJ hoff hdep
        have e0 := look_off (N := 178) (hoff 0 rfl) rfl
        exact dp_v (v := (Sl Db ((Cy.set Cz.toNat (x1.1, x1.2)).set Ec.toNat (x8.1, x8.2)) Dc)) wn (rv_move e0) rfl hJ) ?_
      refine ac rfl (by
        intro k _nm ρ σm hJ hoff hdep
        have e1 := look_off (N := 178) (hoff 1 rfl) rfl
        exact dp_v (v := (I Cz)) wn (rv_move e1) rfl hJ) ?_
      refine ac rfl (by
        intro k _nm ρ σm hJ hoff hdep
        have e76 := hdep 4 rfl rfl 76 rfl
        have e77 := hdep 5 rfl rfl 77 rfl
        exact dp_v (v := (pt b91 o92)) wn (rv_ix Tryz.underlying27 ti38 e76 e77 hi90) rfl hJ) ?_
      refine all_cons (by
        refine ⟨?_, ?_⟩
        ·intro _nm ρ σm hJ hoff hdep
         have e78 := hdep 6 rfl rfl 78 rfl
         obtain ⟨H, m⟩ := id hJ
         obtain ⟨_, ⟨_, _, rfl, rfl, rfl⟩, hl93, hc94⟩ := ((H.own 0 rfl).at hx89 hi90).cells
         exact dp_v (v := (.agg #[(I x88.1), (I x88.2)])) wn (rv_load Tryz.underlying38 rfl ti38 e78 hl93 hc94) rfl hJ
        trivial) ?_
      refine ac rfl (by
        intro k _nm ρ σm hJ hoff hdep
        have e0 := look_off (N := 178) (hoff 0 rfl) rfl
        exact dp_v (v := (Sl Db ((Cy.set Cz.toNat (x1.1, x1.2)).set Ec.toNat (x8.1, x8.2)) Dc)) wn (rv_move e0) rfl hJ) ?_
      refine ac rfl (by
        intro k _nm ρ σm hJ hoff hdep
        have e13 := look_off (N := 178) (hoff 13 rfl) rfl
        exact dp_v (v := (I o57)) wn (rv_move e13) rfl hJ) ?_
      refine ac rfl (by
        intro k _nm ρ σm hJ hoff hdep
        have e80 := hdep 8 rfl rfl 80 rfl
        have e81 := hdep 9 rfl rfl 81 rfl
        exact dp_v (v := (pt b98 o99)) wn (rv_ix Tryz.underlying27 ti38 e80 e81 hi97) rfl hJ) ?_
      refine all_cons (by
        refine ⟨?_, ?_⟩
        ·intro _nm ρ σm hJ hoff hdep
         have e82 := hdep 10 rfl rfl 82 rfl
         obtain ⟨H, m⟩ := id hJ
         obtain ⟨_, ⟨_, _, rfl, rfl, rfl⟩, hl100, hc101⟩ := ((H.own 0 rfl).at hx96 hi97).cells
         exact dp_v (v := (.agg #[(I x95.1), (I x95.2)])) wn (rv_load Tryz.underlying38 rfl ti38 e82 hl100 hc101) rfl hJ
        trivial) ?_
      refine ac rfl (by
        intro k _nm ρ σm hJ hoff hdep
        have e72 := hdep 0 rfl rfl 72 rfl
        have e73 := hdep 1 rfl rfl 73 rfl
        exact dp_v (v := (pt b105 o106)) wn (rv_ix Tryz.underlying27 ti38 e72 e73 hi104) rfl hJ) ?_
      refine all_cons (by
        refine ⟨?_, ?_⟩
        ·intro _nm ρ σm hJ hoff hdep
         have e84 := hdep 12 rfl rfl 84 rfl
         have e79 := hdep 7 rfl rfl 79 rfl
         obtain ⟨H, m⟩ := id hJ
         refine dp_exS wn rfl (ex_store_own (e' := (x88.1, x88.2)) (vs := [(I x88.1), (I x88.2)]) (k := 0) H (i := 0) rfl ti38 hx103 hi104 e84 rfl e79 rfl rfl (Nat.le_of_ble_eq_true rfl) (by simp [plain]) (by rintro _ ⟨_, _, rfl, rfl, rfl⟩; exact ⟨[(I x88.1)], [(I x88.2)], rfl, rfl, rfl⟩)) ?_
         rintro σq ⟨H2, m2⟩
         exact ⟨_, (), rfl, ⟨H2.sel' [0] rfl rfl, m.comp m2⟩, stab [0, 1, 2, 3, 4, 5, 6, 7, 8, 9, 10, 11, 12] (by kernel_rfl) ⟨rfl, rfl, rfl, rfl, rfl, rfl, rfl, rfl, rfl, rfl, rfl, rfl, rfl, trivial⟩⟩
        trivial) ?_
      exact all_nil
     ·intro _nm ρ σ107 hJ hoff hrel
      have e0 := look_off (N := 178) (hoff 0 rfl) rfl
      have e13 := look_off (N := 178) (hoff 13 rfl) rfl
      have e74 := hrel 2 rfl 74 rfl
      have e75 := hrel 3 rfl 75 rfl
      have e83 := hrel 11 rfl 83 rfl
      obtain ⟨H, -⟩ := (show Hp S0 σ0 σ107 [Ch.own 0 0 (Sl Db ((Cy.set Cz.toNat (x1.1, x1.2)).set Ec.toNat (x8.1, x8.2)) Dc) (((Cy.set Cz.toNat (x1.1, x1.2)).set Ec.toNat (x8.1, x8.2)).set o57.toNat (x88.1, x88.2))] ∧ Md (fun i => (cov []) i ∨ (fun b => blk (Sl Db ((Cy.set Cz.toNat (x1.1, x1.2)).set Ec.toNat (x8.1, x8.2)) Dc) = some b) i) σ86 σ107 from hJ)
      clear hJ Hs
      rw [fr_lookL (L := [(0, (Sl Db ((Cy.set Cz.toNat (x1.1, x1.2)).set Ec.toNat (x8.1, x8.2)) Dc)), (13, (I o57)), (74, (Sl Db ((Cy.set Cz.toNat (x1.1, x1.2)).set Ec.toNat (x8.1, x8.2)) Dc)), (75, (I Cz)), (83, (.agg #[(I x95.1), (I x95.2)]))]) ⟨e0, e13, e74, e75, e83, trivial⟩]
      clear hoff hrel e0 e13 e74 e75 e83
      have hsl : (Sl Db ((Cy.set Cz.toNat (x1.1, x1.2)).set Ec.toNat (x8.1, x8.2)) Dc) = (Sl Db (((Cy.set Cz.toNat (x1.1, x1.2)).set Ec.toNat (x8.1, x8.2)).set o57.toNat (x88.1, x88.2)) Dc) := sl_len (by simp)
      rw [hsl]; rw [hsl] at H; clear hsl
      revert h; refine br fun x108 hx109 h => ?_
      obtain ⟨b111, o112, hi110, -⟩ := (H.own 0 rfl).ix hx109
      refine st (v := (pt b111 o112)) (rv_ix Tryz.underlying27 ti38 rfl rfl hi110) ?_
      refine st_exS (ex_store_own (e' := (x95.1, x95.2)) (vs := [(I x95.1), (I x95.2)]) (k := 0) H (i := 0) rfl ti38 hx109 hi110 rfl rfl rfl rfl rfl (Nat.le_of_ble_eq_true rfl) (by simp [plain]) (by rintro _ ⟨_, _, rfl, rfl, rfl⟩; exact ⟨[(I x95.1)], [(I x95.2)], rfl, rfl, rfl⟩)) wn ?_
      rintro σ113 ⟨H, -⟩
      have hsl : (Sl Db (((Cy.set Cz.toNat (x1.1, x1.2)).set Ec.toNat (x8.1, x8.2)).set o57.toNat (x88.1, x88.2)) Dc) = (Sl Db ((((Cy.set Cz.toNat (x1.1, x1.2)).set Ec.toNat (x8.1, x8.2)).set o57.toNat (x88.1, x88.2)).set Cz.toNat (x95.1, x95.2)) Dc) := sl_len List.length_set.symm
      rw [hsl]; rw [hsl] at H; clear hsl
      refine w_end (q_then (c_seq (rg (sm (I o57) rfl (sa (I o57) rfl (sa (B true) rfl (w_end (q_then (c_ret (q_then_r ?_))))))))))
      obtain rfl := sj h
      exact fin_ret (v := (.tuple #[(I o57), (B true)])) (results_ok Tryz.results145 (res_tmp (v := (I o57)) rfl (res_tmp (v := (B true)) rfl res_nil)) rfl) ⟨rfl, rfl, (List.length_set.trans (List.length_set.trans (List.length_set.trans List.length_set)))⟩ (H.sel' [0] rfl rfl)
    ·replace h := bif_f hb87 h
     refine c_skip (q_then (c_seq ?_))
     revert h; refine br fun x114 hx115 h => ?_
     obtain ⟨b117, o118, hi116, -⟩ := (H.own 0 rfl).ix hx115
     obtain ⟨_, ⟨_, _, rfl, rfl, rfl⟩, hl119, hc120⟩ := ((H.own 0 rfl).at hx115 hi116).cells
     revert h; refine br fun x121 hx122 h => ?_
     obtain ⟨b124, o125, hi123, -⟩ := (H.own 0 rfl).ix hx122
     obtain ⟨_, ⟨_, _, rfl, rfl, rfl⟩, hl126, hc127⟩ := ((H.own 0 rfl).at hx122 hi123).cells
     revert h; refine br fun x128 hx129 h => ?_
     obtain ⟨b131, o132, hi130, -⟩ := (H.own 0 rfl).ix hx129
     have Hs := H
     refine rg2 (σ := σ86) (Nm := Unit) 14 [13] [[false], [true]] [[(0, 0)], [(0, 0)], [(0, 0), (1, 1)], [(0, 0), (1, 1)], [(0, 0)], [(0, 0)], [(0, 0)], [(0, 0)], [(0, 0)], [(0, 0)], [(0, 0)], [(0, 0)], [(0, 0)], [(0, 1)]] 1 [fun _ => fun σm => Hp S0 σ0 σm [Ch.own 0 0 (Sl Db ((Cy.set Cz.toNat (x1.1, x1.2)).set Ec.toNat (x8.1, x8.2)) Dc) ((Cy.set Cz.toNat (x1.1, x1.2)).set Ec.toNat (x8.1, x8.2))] ∧ Md (cov []) σ86 σm, fun _ => fun σm => Hp S0 σ0 σm [Ch.own 0 0 (Sl Db ((Cy.set Cz.toNat (x1.1, x1.2)).set Ec.toNat (x8.1, x8.2)) Dc) (((Cy.set Cz.toNat (x1.1, x1.2)).set Ec.toNat (x8.1, x8.2)).set o27.toNat (x114.1, x114.2))] ∧ Md (fun i => (cov []) i ∨ (fun b => blk (Sl Db ((Cy.set Cz.toNat (x1.1, x1.2)).set Ec.toNat (x8.1, x8.2)) Dc) = some b) i) σ86 σm] [fun _ => (Sl Db ((Cy.set Cz.toNat (x1.1, x1.2)).set Ec.toNat (x8.1, x8.2)) Dc), fun _ => (I o27), fun _ => (Sl Db ((Cy.set Cz.toNat (x1.1, x1.2)).set Ec.toNat (x8.1, x8.2)) Dc), fun _ => (I o57), fun _ => (Sl Db ((Cy.set Cz.toNat (x1.1, x1.2)).set Ec.toNat (x8.1, x8.2)) Dc), fun _ => (I o57), fun _ => (pt b117 o118), fun _ => (.agg #[(I x114.1), (I x114.2)]), fun _ => (Sl Db ((Cy.set Cz.toNat (x1.1, x1.2)).set Ec.toNat (x8.1, x8.2)) Dc), fun _ => (I o27), fun _ => (pt b124 o125), fun _ => (.agg #[(I x121.1), (I x121.2)]), fun _ => (pt b131 o132), fun _ => undef] () (by kernel_rfl) (by kernel_rfl) ?_ ?_ ?_
     ·intro σm m0
      exact ⟨H.grow (m0.mono fun _ h => h.elim), m0⟩
     ·refine ac rfl (by
        intro k _nm ρ σm hJ hoff hdep
        have e0 := look_off (N := 178) (hoff 0 rfl) rfl
        exact dp_v (v := (Sl Db ((Cy.set Cz.toNat (x1.1, x1.2)).set Ec.toNat (x8.1, x8.2)) Dc)) wn (rv_move e0) rfl hJ) ?_
      refine ac rfl (by
        intro k _nm ρ σm hJ hoff hdep
        have e12 := look_off (N := 178) (hoff 12 rfl) rfl
        exact dp_v (v := (I o27)) wn (rv_move e12) rfl hJ) ?_
      refine ac rfl (by
        intro k _nm ρ σm hJ hoff hdep
        have e0 := look_off (N := 178) (hoff 0 rfl) rfl
        exact dp_v (v := (Sl Db ((Cy.set Cz.toNat (x1.1, x1.2)).set Ec.toNat (x8.1, x8.2)) Dc)) wn (rv_move e0) rfl hJ) ?_
      refine ac rfl (by
        intro k _nm ρ σm hJ hoff hdep
        have e13 := look_off (N := 178) (hoff 13 rfl) rfl
        exact dp_v (v := (I o57)) wn (rv_move e13) rfl hJ) ?_
      refine ac rfl (by
        intro k _nm ρ σm hJ hoff hdep
        have e0 := look_off (N := 178) (hoff 0 rfl) rfl
        exact dp_v (v := (Sl Db ((Cy.set Cz.toNat (x1.1, x1.2)).set Ec.toNat (x8.1, x8.2)) Dc)) wn (rv_move e0) rfl hJ) ?_
      refine ac rfl (by
        intro k _nm ρ σm hJ hoff hdep
        have e13 := look_off (N := 178) (hoff 13 rfl) rfl
        exact dp_v (v := (I o57)) wn (rv_move e13) rfl hJ) ?_
      refine ac rfl (by
        intro k _nm ρ σm hJ hoff hdep
        have e91 := hdep 4 rfl rfl 91 rfl
        have e92 := hdep 5 rfl rfl 92 rfl
        exact dp_v (v := (pt b117 o118)) wn (rv_ix Tryz.underlying27 ti38 e91 e92 hi116) rfl hJ) ?_
      refine all_cons (by
        refine ⟨?_, ?_⟩
        ·intro _nm ρ σm hJ hoff hdep
         have e93 := hdep 6 rfl rfl 93 rfl
         obtain ⟨H, m⟩ := id hJ
         obtain ⟨_, ⟨_, _, rfl, rfl, rfl⟩, hl119, hc120⟩ := ((H.own 0 rfl).at hx115 hi116).cells
         exact dp_v (v := (.agg #[(I x114.1), (I x114.2)])) wn (rv_load Tryz.underlying38 rfl ti38 e93 hl119 hc120) rfl hJ
        trivial) ?_
      refine ac rfl (by
        intro k _nm ρ σm hJ hoff hdep
        have e0 := look_off (N := 178) (hoff 0 rfl) rfl
        exact dp_v (v := (Sl Db ((Cy.set Cz.toNat (x1.1, x1.2)).set Ec.toNat (x8.1, x8.2)) Dc)) wn (rv_move e0) rfl hJ) ?_
      refine ac rfl (by
        intro k _nm ρ σm hJ hoff hdep
        have e12 := look_off (N := 178) (hoff 12 rfl) rfl
        exact dp_v (v := (I o27)) wn (rv_move e12) rfl hJ) ?_
      refine ac rfl (by
        intro k _nm ρ σm hJ hoff hdep
        have e95 := hdep 8 rfl rfl 95 rfl
        have e96 := hdep 9 rfl rfl 96 rfl
        exact dp_v (v := (pt b124 o125)) wn (rv_ix Tryz.underlying27 ti38 e95 e96 hi123) rfl hJ) ?_
      refine all_cons (by
        refine ⟨?_, ?_⟩
        ·intro _nm ρ σm hJ hoff hdep
         have e97 := hdep 10 rfl rfl 97 rfl
         obtain ⟨H, m⟩ := id hJ
         obtain ⟨_, ⟨_, _, rfl, rfl, rfl⟩, hl126, hc127⟩ := ((H.own 0 rfl).at hx122 hi123).cells
         exact dp_v (v := (.agg #[(I x121.1), (I x121.2)])) wn (rv_load Tryz.underlying38 rfl ti38 e97 hl126 hc127) rfl hJ
        trivial) ?_
      refine ac rfl (by
        intro k _nm ρ σm hJ hoff hdep
        have e87 := hdep 0 rfl rfl 87 rfl
        have e88 := hdep 1 rfl rfl 88 rfl
        exact dp_v (v := (pt b131 o132)) wn (rv_ix Tryz.underlying27 ti38 e87 e88 hi130) rfl hJ) ?_
      refine all_cons (by
        refine ⟨?_, ?_⟩
        ·intro _nm ρ σm hJ hoff hdep
         have e99 := hdep 12 rfl rfl 99 rfl
         have e94 := hdep 7 rfl rfl 94 rfl
         obtain ⟨H, m⟩ := id hJ
         refine dp_exS wn rfl (ex_store_own (e' := (x114.1, x114.2)) (vs := [(I x114.1), (I x114.2)]) (k := 0) H (i := 0) rfl ti38 hx129 hi130 e99 rfl e94 rfl rfl (Nat.le_of_ble_eq_true rfl) (by simp [plain]) (by rintro _ ⟨_, _, rfl, rfl, rfl⟩; exact ⟨[(I x114.1)], [(I x114.2)], rfl, rfl, rfl⟩)) ?_
         rintro σq ⟨H2, m2⟩
         exact ⟨_, (), rfl, ⟨H2.sel' [0] rfl rfl, m.comp m2⟩, stab [0, 1, 2, 3, 4, 5, 6, 7, 8, 9, 10, 11, 12] (by kernel_rfl) ⟨rfl, rfl, rfl, rfl, rfl, rfl, rfl, rfl, rfl, rfl, rfl, rfl, rfl, trivial⟩⟩
        trivial) ?_
      exact all_nil
     ·intro _nm ρ σ133 hJ hoff hrel
      have e0 := look_off (N := 178) (hoff 0 rfl) rfl
      have e1 := look_off (N := 178) (hoff 1 rfl) rfl
      have e4 := look_off (N := 178) (hoff 4 rfl) rfl
      have e12 := look_off (N := 178) (hoff 12 rfl) rfl
      have e13 := look_off (N := 178) (hoff 13 rfl) rfl
      have e89 := hrel 2 rfl 89 rfl
      have e90 := hrel 3 rfl 90 rfl
      have e98 := hrel 11 rfl 98 rfl
      obtain ⟨H, -⟩ := (show Hp S0 σ0 σ133 [Ch.own 0 0 (Sl Db ((Cy.set Cz.toNat (x1.1, x1.2)).set Ec.toNat (x8.1, x8.2)) Dc) (((Cy.set Cz.toNat (x1.1, x1.2)).set Ec.toNat (x8.1, x8.2)).set o27.toNat (x114.1, x114.2))] ∧ Md (fun i => (cov []) i ∨ (fun b => blk (Sl Db ((Cy.set Cz.toNat (x1.1, x1.2)).set Ec.toNat (x8.1, x8.2)) Dc) = some b) i) σ86 σ133 from hJ)
      clear hJ Hs
      rw [fr_lookL (L := [(0, (Sl Db ((Cy.set Cz.toNat (x1.1, x1.2)).set Ec.toNat (x8.1, x8.2)) Dc)), (1, (I Cz)), (4, (.func (.func 72) #[] #[])), (12, (I o27)), (13, (I o57)), (89, (Sl Db ((Cy.set Cz.toNat (x1.1, x1.2)).set Ec.toNat (x8.1, x8.2)) Dc)), (90, (I o57)), (98, (.agg #[(I x121.1), (I x121.2)]))]) ⟨e0, e1, e4, e12, e13, e89, e90, e98, trivial⟩]
      clear hoff hrel e0 e1 e4 e12 e13 e89 e90 e98
      have hsl : (Sl Db ((Cy.set Cz.toNat (x1.1, x1.2)).set Ec.toNat (x8.1, x8.2)) Dc) = (Sl Db (((Cy.set Cz.toNat (x1.1, x1.2)).set Ec.toNat (x8.1, x8.2)).set o27.toNat (x114.1, x114.2)) Dc) := sl_len (by simp)
      rw [hsl]; rw [hsl] at H; clear hsl
      revert h; refine br fun x134 hx135 h => ?_
      obtain ⟨b137, o138, hi136, -⟩ := (H.own 0 rfl).ix hx135
      refine st (v := (pt b137 o138)) (rv_ix Tryz.underlying27 ti38 rfl rfl hi136) ?_
      refine st_exS (ex_store_own (e' := (x121.1, x121.2)) (vs := [(I x121.1), (I x121.2)]) (k := 0) H (i := 0) rfl ti38 hx135 hi136 rfl rfl rfl rfl rfl (Nat.le_of_ble_eq_true rfl) (by simp [plain]) (by rintro _ ⟨_, _, rfl, rfl, rfl⟩; exact ⟨[(I x121.1)], [(I x121.2)], rfl, rfl, rfl⟩)) wn ?_
      rintro σ139 ⟨H, -⟩
      have hsl : (Sl Db (((Cy.set Cz.toNat (x1.1, x1.2)).set Ec.toNat (x8.1, x8.2)).set o27.toNat (x114.1, x114.2)) Dc) = (Sl Db ((((Cy.set Cz.toNat (x1.1, x1.2)).set Ec.toNat (x8.1, x8.2)).set o27.toNat (x114.1, x114.2)).set o57.toNat (x121.1, x121.2)) Dc) := sl_len List.length_set.symm
      rw [hsl]; rw [hsl] at H; clear hsl
      refine w_end (q_then (c_seq (rg (sm (I o27) rfl (st (v := (I (w64 (o27 + 1)))) (rv_add (a := o27) (b := 1) rfl rfl) (sa (I (w64 (o27 + 1))) rfl (w_end (q_then (c_seq (rg (sm (I o57) rfl ?_)))))))))))
      refine st (v := (I (w64 (o57 - 1)))) (rv_sub (a := o57) (b := 1) rfl rfl) (sa (I (w64 (o57 - 1))) rfl (w_end (q_then (c_seq ?_))))
      obtain ⟨o140, hj, h'⟩ := bind_some h
      clear h
      refine c_cut (fun e a w => e = .normal ∧ ∃ (ρ : Nat → Value) (σ : St), a = fr 178 (updL ρ [(0, (Sl Db o140.1 Dc)), (1, (I Cz)), (13, (I o140.2))]) ∧ w = σ.w ∧ Hp S0 σ0 σ [Ch.own 0 0 (Sl Db o140.1 Dc) o140.1] ∧ o140.1.length = ((((Cy.set Cz.toNat (x1.1, x1.2)).set Ec.toNat (x8.1, x8.2)).set o27.toNat (x114.1, x114.2)).set o57.toNat (x121.1, x121.2)).length) ?_ ?_
      ·clear h'
       rename _ = some o140 => h
       refine c_blk (wp_loopM _ h (fun s141 a w => ∃ (ρ : Nat → Value) (σ : St), a = fr 178 (updL ρ [(0, (Sl Db s141.1 Dc)), (1, (I Cz)), (4, (.func (.func 72) #[] #[])), (12, (I s141.2.1)), (13, (I s141.2.2))]) ∧ w = σ.w ∧ Hp S0 σ0 σ [Ch.own 0 0 (Sl Db s141.1 Dc) s141.1] ∧ s141.1.length = ((((Cy.set Cz.toNat (x1.1, x1.2)).set Ec.toNat (x8.1, x8.2)).set o27.toNat (x114.1, x114.2)).set o57.toNat (x121.1, x121.2)).length) ⟨_, σ139, fr_join ⟨rfl, rfl, rfl, rfl, rfl, trivial⟩, rfl, H.sel' [0] rfl rfl, rfl⟩ ?_)
       clear h H
       rintro s141 a w o ⟨ρ, σ142, rfl, rfl, H, hn143⟩ h hres
       refine c_blk (c_seq ?_)
       obtain ⟨o144, hj, h'⟩ := bind_some h
       clear h
       refine c_cut (fun e a w => e = .normal ∧ ∃ (ρ : Nat → Value) (σ : St), a = fr 178 (updL ρ [(0, (Sl Db s141.1 Dc)), (1, (I Cz)), (4, (.func (.func 72) #[] #[])), (12, (I o144)), (13, (I s141.2.2))]) ∧ w = σ.w ∧ Hp S0 σ0 σ [Ch.own 0 0 (Sl Db s141.1 Dc) s141.1]) ?_ ?_
       ·clear h'
        rename _ = some o144 => h
        refine c_blk (wp_loopM _ h (fun s145 a w => ∃ (ρ : Nat → Value) (σ : St), a = fr 178 (updL ρ [(0, (Sl Db s141.1 Dc)), (1, (I Cz)), (4, (.func (.func 72) #[] #[])), (12, (I s145)), (13, (I s141.2.2))]) ∧ w = σ.w ∧ Hp S0 σ0 σ [Ch.own 0 0 (Sl Db s141.1 Dc) s141.1]) ⟨_, σ142, fr_join ⟨rfl, rfl, rfl, rfl, rfl, trivial⟩, rfl, H.sel' [0] rfl rfl⟩ ?_)
        clear h H
        rintro s145 a w o ⟨ρ, σ146, rfl, rfl, H⟩ h hres
        refine c_seq (c_seq ?_)
        obtain ⟨o147, hj, h'⟩ := bind_some h
        clear h
        refine c_cut (fun e a w => e = .normal ∧ ∃ (ρ : Nat → Value) (σ : St), a = fr 178 (updL ρ [(0, (Sl Db s141.1 Dc)), (1, (I Cz)), (4, (.func (.func 72) #[] #[])), (12, (I s145)), (13, (I s141.2.2)), (120, (B o147))]) ∧ w = σ.w ∧ Hp S0 σ0 σ [Ch.own 0 0 (Sl Db s141.1 Dc) s141.1]) ?_ ?_
        ·clear h'
         rename _ = some o147 => h
         refine rgP (σ := σ146) 13 (by kernel_rfl) (by kernel_rfl) (by kernel_rfl) ?_
         refine sq (v := (I s145)) (rv_move rfl) (sq (v := (I s141.2.2)) (rv_move rfl) (sq (v := (B (decide (s145 ≤ s141.2.2)))) (rv_leq (a := s145) (b := s141.2.2) rfl rfl) (sq (v := (B (decide (s145 ≤ s141.2.2)))) (rv_move rfl) ?_)))
         rcases Bool.eq_false_or_eq_true (decide (s145 ≤ s141.2.2)) with hb148 | hb148
         ·replace h := bif_t hb148 h
          refine sq_g (v := (.func (.func 72) #[] #[])) (congrArg some hb148) (rv_move rfl) (sq_g (v := (Sl Db s141.1 Dc)) (congrArg some hb148) (rv_move rfl) (sq_g (v := (I s145)) (congrArg some hb148) (rv_move rfl) ?_))
          revert h; refine br fun x149 hx150 h => ?_
          obtain ⟨b152, o153, hi151, -⟩ := (H.own 0 rfl).ix hx150
          refine sq_g (v := (pt b152 o153)) (congrArg some hb148) (rv_ix Tryz.underlying27 ti38 rfl rfl hi151) ?_
          obtain ⟨_, ⟨_, _, rfl, rfl, rfl⟩, hl154, hc155⟩ := ((H.own 0 rfl).at hx150 hi151).cells
          refine sq_g (v := (.agg #[(I x149.1), (I x149.2)])) (congrArg some hb148) (rv_load Tryz.underlying38 rfl ti38 rfl hl154 hc155) (sq_g (v := (Sl Db s141.1 Dc)) (congrArg some hb148) (rv_move rfl) (sq_g (v := (I Cz)) (congrArg some hb148) (rv_move rfl) ?_))
          revert h; refine br fun x156 hx157 h => ?_
          obtain ⟨b159, o160, hi158, -⟩ := (H.own 0 rfl).ix hx157
          refine sq_g (v := (pt b159 o160)) (congrArg some hb148) (rv_ix Tryz.underlying27 ti38 rfl rfl hi158) ?_
          obtain ⟨_, ⟨_, _, rfl, rfl, rfl⟩, hl161, hc162⟩ := ((H.own 0 rfl).at hx157 hi158).cells
          refine sq_g (v := (.agg #[(I x156.1), (I x156.2)])) (congrArg some hb148) (rv_load Tryz.underlying38 rfl ti38 rfl hl161 hc162) (sq_end ?_)
          intro σ163 hm164
          replace H := H.grow (hm164.mono fun _ h => h); clear hm164
          revert h; refine br fun r165 hx166 h => ?_
          have hc167 := c_impl_compareHits hx166
          refine st_call (cx_call hc167 (ent_v (cap := []) hc167.fn rfl rfl) hn0 (H.sel' [0] rfl rfl : Hp S0 σ0 _ ([] ++ _))) (wanted_yes rfl (by exact (congrArg some hb148))) ?_
          rintro _ σ168 ⟨_, ⟨rfl, rfl⟩, H, -⟩
          replace H : Hp _ _ _ [_] := H
          refine st_g (v := (B (decide (r165 < 0)))) (congrArg some hb148) (rv_lss (a := r165) (b := 0) rfl rfl) (st (v := (B (decide (r165 < 0)))) (rv_pick_t (congrArg B hb148) rfl) (w_end ?_))
          obtain rfl := sj h
          exact ⟨rfl, _, σ168, fr_join ⟨rfl, rfl, rfl, rfl, rfl, rfl, trivial⟩, rfl, H.sel' [0] rfl rfl⟩
         ·replace h := bif_f hb148 h
          refine sq_skip (congrArg some hb148) (sq_skip (congrArg some hb148) (sq_skip (congrArg some hb148) (sq_skip (congrArg some hb148) (sq_skip (congrArg some hb148) (sq_skip (congrArg some hb148) (sq_skip (congrArg some hb148) (sq_skip (congrArg some hb148) (sq_skip (congrArg some hb148) (sq_end ?_)))))))))
          intro σ169 hm170
          replace H := H.grow (hm170.mono fun _ h => h); clear hm170
          refine st_skip (congrArg some hb148) (st_skip (congrArg some hb148) (st (v := (B false)) (rv_pick_f (congrArg B hb148) rfl) (w_end ?_)))
          obtain rfl := sj h
          exact ⟨rfl, _, σ169, fr_join ⟨rfl, rfl, rfl, rfl, rfl, rfl, trivial⟩, rfl, H.sel' [0] rfl rfl⟩
        ·clear hj
         have h := h'
         clear h' H
         rintro e a w ⟨rfl, ρ, σ171, rfl, rfl, H⟩
         refine q_then ?_
         refine cd_cond o147 rfl (fun hb172 => ?_) (fun hb172 => ?_)
         ·replace h := bif_t hb172 h
          refine c_skip (q_then (c_blk (rg (sm (I s145) rfl (st (v := (I (w64 (s145 + 1)))) (rv_add (a := s145) (b := 1) rfl rfl) (sa (I (w64 (s145 + 1))) rfl (w_end (q_blk (q_then ?_)))))))))
          obtain rfl := sj h
          exact ⟨_, rfl, _, σ171, fr_join ⟨rfl, rfl, rfl, rfl, rfl, trivial⟩, rfl, H.sel' [0] rfl rfl⟩
         ·replace h := bif_f hb172 h
          refine c_exit (q_then_x (q_then_x (q_blk_hit ?_)))
          obtain rfl := sj h
          obtain rfl := hres _ rfl
          exact ⟨rfl, _, σ171, fr_join ⟨rfl, rfl, rfl, rfl, rfl, trivial⟩, rfl, H.sel' [0] rfl rfl⟩
       ·clear hj
        have h := h'
        clear h' H
        rintro e a w ⟨rfl, ρ, σ173, rfl, rfl, H⟩
        refine q_then (c_seq ?_)
        obtain ⟨o174, hj, h'⟩ := bind_some h
        clear h
        refine c_cut (fun e a w => e = .normal ∧ ∃ (ρ : Nat → Value) (σ : St), a = fr 178 (updL ρ [(0, (Sl Db s141.1 Dc)), (1, (I Cz)), (4, (.func (.func 72) #[] #[])), (12, (I o144)), (13, (I o174))]) ∧ w = σ.w ∧ Hp S0 σ0 σ [Ch.own 0 0 (Sl Db s141.1 Dc) s141.1]) ?_ ?_
        ·clear h'
         rename _ = some o174 => h
         refine c_blk (wp_loopM _ h (fun s175 a w => ∃ (ρ : Nat → Value) (σ : St), a = fr 178 (updL ρ [(0, (Sl Db s141.1 Dc)), (1, (I Cz)), (4, (.func (.func 72) #[] #[])), (12, (I o144)), (13, (I s175))]) ∧ w = σ.w ∧ Hp S0 σ0 σ [Ch.own 0 0 (Sl Db s141.1 Dc) s141.1]) ⟨_, σ173, fr_join ⟨rfl, rfl, rfl, rfl, rfl, trivial⟩, rfl, H.sel' [0] rfl rfl⟩ ?_)
         clear h H
         rintro s175 a w o ⟨ρ, σ176, rfl, rfl, H⟩ h hres
         refine c_seq (c_seq ?_)
         obtain ⟨o177, hj, h'⟩ := bind_some h
         clear h
         refine c_cut (fun e a w => e = .normal ∧ ∃ (ρ : Nat → Value) (σ : St), a = fr 178 (updL ρ [(0, (Sl Db s141.1 Dc)), (1, (I Cz)), (4, (.func (.func 72) #[] #[])), (12, (I o144)), (13, (I s175)), (139, (B o177))]) ∧ w = σ.w ∧ Hp S0 σ0 σ [Ch.own 0 0 (Sl Db s141.1 Dc) s141.1]) ?_ ?_
         ·clear h'
          rename _ = some o177 => h
          refine rgP (σ := σ176) 13 (by kernel_rfl) (by kernel_rfl) (by kernel_rfl) ?_
          refine sq (v := (I o144)) (rv_move rfl) (sq (v := (I s175)) (rv_move rfl) (sq (v := (B (decide (o144 ≤ s175)))) (rv_leq (a := o144) (b := s175) rfl rfl) (sq (v := (B (decide (o144 ≤ s175)))) (rv_move rfl) ?_)))
          rcases Bool.eq_false_or_eq_true (decide (o144 ≤ s175)) with hb178 | hb178
          ·replace h := bif_t hb178 h
           refine sq_g (v := (.func (.func 72) #[] #[])) (congrArg some hb178) (rv_move rfl) (sq_g (v := (Sl Db s141.1 Dc)) (congrArg some hb178) (rv_move rfl) (sq_g (v := (I s175)) (congrArg some hb178) (rv_move rfl) ?_))
           revert h; refine br fun x179 hx180 h => ?_
           obtain ⟨b182, o183, hi181, -⟩ := (H.own 0 rfl).ix hx180
           refine sq_g (v := (pt b182 o183)) (congrArg some hb178) (rv_ix Tryz.underlying27 ti38 rfl rfl hi181) ?_
           obtain ⟨_, ⟨_, _, rfl, rfl, rfl⟩, hl184, hc185⟩ := ((H.own 0 rfl).at hx180 hi181).cells
           refine sq_g (v := (.agg #[(I x179.1), (I x179.2)])) (congrArg some hb178) (rv_load Tryz.underlying38 rfl ti38 rfl hl184 hc185) (sq_g (v := (Sl Db s141.1 Dc)) (congrArg some hb178) (rv_move rfl) (sq_g (v := (I Cz)) (congrArg some hb178) (rv_move rfl) ?_))
           revert h; refine br fun x186 hx187 h => ?_
           obtain ⟨b189, o190, hi188, -⟩ := (H.own 0 rfl).ix hx187
           refine sq_g (v := (pt b189 o190)) (congrArg some hb178) (rv_ix Tryz.underlying27 ti38 rfl rfl hi188) ?_
           obtain ⟨_, ⟨_, _, rfl, rfl, rfl⟩, hl191, hc192⟩ := ((H.own 0 rfl).at hx187 hi188).cells
           refine sq_g (v := (.agg #[(I x186.1), (I x186.2)])) (congrArg some hb178) (rv_load Tryz.underlying38 rfl ti38 rfl hl191 hc192) (sq_end ?_)
           intro σ193 hm194
           replace H := H.grow (hm194.mono fun _ h => h); clear hm194
           revert h; refine br fun r195 hx196 h => ?_
           have hc197 := c_impl_compareHits hx196
           refine st_call (cx_call hc197 (ent_v (cap := []) hc197.fn rfl rfl) hn0 (H.sel' [0] rfl rfl : Hp S0 σ0 _ ([] ++ _))) (wanted_yes rfl (by exact (congrArg some hb178))) ?_
           rintro _ σ198 ⟨_, ⟨rfl, rfl⟩, H, -⟩
           replace H : Hp _ _ _ [_] := H
           refine st_g (v := (B (decide (r195 < 0)))) (congrArg some hb178) (rv_lss (a := r195) (b := 0) rfl rfl) (st_g (v := (B (!(decide (r195 < 0))))) (congrArg some hb178) (rv_not rfl) (st (v := (B (!(decide (r195 < 0))))) (rv_pick_t (congrArg B hb178) rfl) (w_end ?_)))
           obtain rfl := sj h
           exact ⟨rfl, _, σ198, fr_join ⟨rfl, rfl, rfl, rfl, rfl, rfl, trivial⟩, rfl, H.sel' [0] rfl rfl⟩
          ·replace h := bif_f hb178 h
           refine sq_skip (congrArg some hb178) (sq_skip (congrArg some hb178) (sq_skip (congrArg some hb178) (sq_skip (congrArg some hb178) (sq_skip (congrArg some hb178) (sq_skip (congrArg some hb178) (sq_skip (congrArg some hb178) (sq_skip (congrArg some hb178) (sq_skip (congrArg some hb178) (sq_end ?_)))))))))
           intro σ199 hm200
           replace H := H.grow (hm200.mono fun _ h => h); clear hm200
           refine st_skip (congrArg some hb178) (st_skip (congrArg some hb178) (st_skip (congrArg some hb178) (st (v := (B false)) (rv_pick_f (congrArg B hb178) rfl) (w_end ?_))))
           obtain rfl := sj h
           exact ⟨rfl, _, σ199, fr_join ⟨rfl, rfl, rfl, rfl, rfl, rfl, trivial⟩, rfl, H.sel' [0] rfl rfl⟩
         ·clear hj
          have h := h'
          clear h' H
          rintro e a w ⟨rfl, ρ, σ201, rfl, rfl, H⟩
          refine q_then ?_
          refine cd_cond o177 rfl (fun hb202 => ?_) (fun hb202 => ?_)
          ·replace h := bif_t hb202 h
           refine c_skip (q_then (c_blk (rg (sm (I s175) rfl (st (v := (I (w64 (s175 - 1)))) (rv_sub (a := s175) (b := 1) rfl rfl) (sa (I (w64 (s175 - 1))) rfl (w_end (q_blk (q_then ?_)))))))))
           obtain rfl := sj h
           exact ⟨_, rfl, _, σ201, fr_join ⟨rfl, rfl, rfl, rfl, rfl, trivial⟩, rfl, H.sel' [0] rfl rfl⟩
          ·replace h := bif_f hb202 h
           refine c_exit (q_then_x (q_then_x (q_blk_hit ?_)))
           obtain rfl := sj h
           obtain rfl := hres _ rfl
           exact ⟨rfl, _, σ201, fr_join ⟨rfl, rfl, rfl, rfl, rfl, trivial⟩, rfl, H.sel' [0] rfl rfl⟩
        ·clear hj
         have h := h'
         clear h' H
         rintro e a w ⟨rfl, ρ, σ203, rfl, rfl, H⟩
         refine q_then (c_seq (c_seq (rg (sm (I o144) rfl (sm (I o174) rfl (st (v := (B (decide (o174 < o144)))) (rv_gtr (a := o144) (b := o174) rfl rfl) (w_end (q_then ?_))))))))
         refine cd_cond (decide (o174 < o144)) rfl (fun hb204 => ?_) (fun hb204 => ?_)
         ·replace h := bif_t hb204 h
          refine c_exit (q_then_x ?_)
          refine q_blk_x (by decide) ?_
          refine q_then_x (q_blk_hit ?_)
          obtain rfl := sj h
          obtain rfl := hres _ rfl
          exact ⟨rfl, _, σ203, fr_join ⟨rfl, rfl, rfl, trivial⟩, rfl, H.sel' [0] rfl rfl, ((hn143.trans (List.length_set.trans (List.length_set.trans (List.length_set.trans List.length_set)))).trans (List.length_set.trans (List.length_set.trans (List.length_set.trans List.length_set))).symm)⟩
         ·replace h := bif_f hb204 h
          refine c_skip (q_then (c_seq ?_))
          revert h; refine br fun x205 hx206 h => ?_
          obtain ⟨b208, o209, hi207, -⟩ := (H.own 0 rfl).ix hx206
          obtain ⟨_, ⟨_, _, rfl, rfl, rfl⟩, hl210, hc211⟩ := ((H.own 0 rfl).at hx206 hi207).cells
          revert h; refine br fun x212 hx213 h => ?_
          obtain ⟨b215, o216, hi214, -⟩ := (H.own 0 rfl).ix hx213
          obtain ⟨_, ⟨_, _, rfl, rfl, rfl⟩, hl217, hc218⟩ := ((H.own 0 rfl).at hx213 hi214).cells
          revert h; refine br fun x219 hx220 h => ?_
          obtain ⟨b222, o223, hi221, -⟩ := (H.own 0 rfl).ix hx220
          have Hs := H
          refine rg2 (σ := σ203) (Nm := Unit) 14 [13] [[false], [true]] [[(0, 0)], [(0, 0)], [(0, 0), (1, 1)], [(0, 0), (1, 1)], [(0, 0)], [(0, 0)], [(0, 0)], [(0, 0)], [(0, 0)], [(0, 0)], [(0, 0)], [(0, 0)], [(0, 0)], [(0, 1)]] 1 [fun _ => fun σm => Hp S0 σ0 σm [Ch.own 0 0 (Sl Db s141.1 Dc) s141.1] ∧ Md (cov []) σ203 σm, fun _ => fun σm => Hp S0 σ0 σm [Ch.own 0 0 (Sl Db s141.1 Dc) (s141.1.set o144.toNat (x205.1, x205.2))] ∧ Md (fun i => (cov []) i ∨ (fun b => blk (Sl Db s141.1 Dc) = some b) i) σ203 σm] [fun _ => (Sl Db s141.1 Dc), fun _ => (I o144), fun _ => (Sl Db s141.1 Dc), fun _ => (I o174), fun _ => (Sl Db s141.1 Dc), fun _ => (I o174), fun _ => (pt b208 o209), fun _ => (.agg #[(I x205.1), (I x205.2)]), fun _ => (Sl Db s141.1 Dc), fun _ => (I o144), fun _ => (pt b215 o216), fun _ => (.agg #[(I x212.1), (I x212.2)]), fun _ => (pt b222 o223), fun _ => undef] () (by kernel_rfl) (by kernel_rfl) ?_ ?_ ?_
          ·intro σm m0
           exact ⟨H.grow (m0.mono fun _ h => h.elim), m0⟩
          ·refine ac rfl (by
             intro k _nm ρ σm hJ hoff hdep
             have e0 := look_off (N := 178) (hoff 0 rfl) rfl
             exact dp_v (v := (Sl Db s141.1 Dc)) wn (rv_move e0) rfl hJ) ?_
           refine ac rfl (by
             intro k _nm ρ σm hJ hoff hdep
             have e12 := look_off (N := 178) (hoff 12 rfl) rfl
             exact dp_v (v := (I o144)) wn (rv_move e12) rfl hJ) ?_
           refine ac rfl (by
             intro k _nm ρ σm hJ hoff hdep
             have e0 := look_off (N := 178) (hoff 0 rfl) rfl
             exact dp_v (v := (Sl Db s141.1 Dc)) wn (rv_move e0) rfl hJ) ?_
           refine ac rfl (by
             intro k _nm ρ σm hJ hoff hdep
             have e13 := look_off (N := 178) (hoff 13 rfl) rfl
             exact dp_v (v := (I o174)) wn (rv_move e13) rfl hJ) ?_
           refine ac rfl (by
             intro k _nm ρ σm hJ hoff hdep
             have e0 := look_off (N := 178) (hoff 0 rfl) rfl
             exact dp_v (v := (Sl Db s141.1 Dc)) wn (rv_move e0) rfl hJ) ?_
           refine ac rfl (by
             intro k _nm ρ σm hJ hoff hdep
             have e13 := look_off (N := 178) (hoff 13 rfl) rfl
             exact dp_v (v := (I o174)) wn (rv_move e13) rfl hJ) ?_
           refine ac rfl (by
             intro k _nm ρ σm hJ hoff hdep
             have e149 := hdep 4 rfl rfl 149 rfl
             have e150 := hdep 5 rfl rfl 150 rfl
             exact dp_v (v := (pt b208 o209)) wn (rv_ix Tryz.underlying27 ti38 e149 e150 hi207) rfl hJ) ?_
           refine all_cons (by
             refine ⟨?_, ?_⟩
             ·intro _nm ρ σm hJ hoff hdep
              have e151 := hdep 6 rfl rfl 151 rfl
              obtain ⟨H, m⟩ := id hJ
              obtain ⟨_, ⟨_, _, rfl, rfl, rfl⟩, hl210, hc211⟩ := ((H.own 0 rfl).at hx206 hi207).cells
              exact dp_v (v := (.agg #[(I x205.1), (I x205.2)])) wn (rv_load Tryz.underlying38 rfl ti38 e151 hl210 hc211) rfl hJ
             trivial) ?_
           refine ac rfl (by
             intro k _nm ρ σm hJ hoff hdep
             have e0 := look_off (N := 178) (hoff 0 rfl) rfl
             exact dp_v (v := (Sl Db s141.1 Dc)) wn (rv_move e0) rfl hJ) ?_
           refine ac rfl (by
             intro k _nm ρ σm hJ hoff hdep
             have e12 := look_off (N := 178) (hoff 12 rfl) rfl
             exact dp_v (v := (I o144)) wn (rv_move e12) rfl hJ) ?_
           refine ac rfl (by
             intro k _nm ρ σm hJ hoff hdep
             have e153 := hdep 8 rfl rfl 153 rfl
             have e154 := hdep 9 rfl rfl 154 rfl
             exact dp_v (v := (pt b215 o216)) wn (rv_ix Tryz.underlying27 ti38 e153 e154 hi214) rfl hJ) ?_
           refine all_cons (by
             refine ⟨?_, ?_⟩
             ·intro _nm ρ σm hJ hoff hdep
              have e155 := hdep 10 rfl rfl 155 rfl
              obtain ⟨H, m⟩ := id hJ
              obtain ⟨_, ⟨_, _, rfl, rfl, rfl⟩, hl217, hc218⟩ := ((H.own 0 rfl).at hx213 hi214).cells
              exact dp_v (v := (.agg #[(I x212.1), (I x212.2)])) wn (rv_load Tryz.underlying38 rfl ti38 e155 hl217 hc218) rfl hJ
             trivial) ?_
           refine ac rfl (by
             intro k _nm ρ σm hJ hoff hdep
             have e145 := hdep 0 rfl rfl 145 rfl
             have e146 := hdep 1 rfl rfl 146 rfl
             exact dp_v (v := (pt b222 o223)) wn (rv_ix Tryz.underlying27 ti38 e145 e146 hi221) rfl hJ) ?_
           refine all_cons (by
             refine ⟨?_, ?_⟩
             ·intro _nm ρ σm hJ hoff hdep
              have e157 := hdep 12 rfl rfl 157 rfl
              have e152 := hdep 7 rfl rfl 152 rfl
              obtain ⟨H, m⟩ := id hJ
              refine dp_exS wn rfl (ex_store_own (e' := (x205.1, x205.2)) (vs := [(I x205.1), (I x205.2)]) (k := 0) H (i := 0) rfl ti38 hx220 hi221 e157 rfl e152 rfl rfl (Nat.le_of_ble_eq_true rfl) (by simp [plain]) (by rintro _ ⟨_, _, rfl, rfl, rfl⟩; exact ⟨[(I x205.1)], [(I x205.2)], rfl, rfl, rfl⟩)) ?_
              rintro σq ⟨H2, m2⟩
              exact ⟨_, (), rfl, ⟨H2.sel' [0] rfl rfl, m.comp m2⟩, stab [0, 1, 2, 3, 4, 5, 6, 7, 8, 9, 10, 11, 12] (by kernel_rfl) ⟨rfl, rfl, rfl, rfl, rfl, rfl, rfl, rfl, rfl, rfl, rfl, rfl, rfl, trivial⟩⟩
             trivial) ?_
           exact all_nil
          ·intro _nm ρ σ224 hJ hoff hrel
           have e0 := look_off (N := 178) (hoff 0 rfl) rfl
           have e1 := look_off (N := 178) (hoff 1 rfl) rfl
           have e4 := look_off (N := 178) (hoff 4 rfl) rfl
           have e12 := look_off (N := 178) (hoff 12 rfl) rfl
           have e13 := look_off (N := 178) (hoff 13 rfl) rfl
           have e147 := hrel 2 rfl 147 rfl
           have e148 := hrel 3 rfl 148 rfl
           have e156 := hrel 11 rfl 156 rfl
           obtain ⟨H, -⟩ := (show Hp S0 σ0 σ224 [Ch.own 0 0 (Sl Db s141.1 Dc) (s141.1.set o144.toNat (x205.1, x205.2))] ∧ Md (fun i => (cov []) i ∨ (fun b => blk (Sl Db s141.1 Dc) = some b) i) σ203 σ224 from hJ)
           clear hJ Hs
           rw [fr_lookL (L := [(0, (Sl Db s141.1 Dc)), (1, (I Cz)), (4, (.func (.func 72) #[] #[])), (12, (I o144)), (13, (I o174)), (147, (Sl Db s141.1 Dc)), (148, (I o174)), (156, (.agg #[(I x212.1), (I x212.2)]))]) ⟨e0, e1, e4, e12, e13, e147, e148, e156, trivial⟩]
           clear hoff hrel e0 e1 e4 e12 e13 e147 e148 e156
           have hsl : (Sl Db s141.1 Dc) = (Sl Db (s141.1.set o144.toNat (x205.1, x205.2)) Dc) := sl_len (by simp)
           rw [hsl]; rw [hsl] at H; clear hsl
           revert h; refine br fun x225 hx226 h => ?_
           obtain ⟨b228, o229, hi227, -⟩ := (H.own 0 rfl).ix hx226
           refine st (v := (pt b228 o229)) (rv_ix Tryz.underlying27 ti38 rfl rfl hi227) ?_
           refine st_exS (ex_store_own (e' := (x212.1, x212.2)) (vs := [(I x212.1), (I x212.2)]) (k := 0) H (i := 0) rfl ti38 hx226 hi227 rfl rfl rfl rfl rfl (Nat.le_of_ble_eq_true rfl) (by simp [plain]) (by rintro _ ⟨_, _, rfl, rfl, rfl⟩; exact ⟨[(I x212.1)], [(I x212.2)], rfl, rfl, rfl⟩)) wn ?_
           rintro σ230 ⟨H, -⟩
           have hsl : (Sl Db (s141.1.set o144.toNat (x205.1, x205.2)) Dc) = (Sl Db ((s141.1.set o144.toNat (x205.1, x205.2)).set o174.toNat (x212.1, x212.2)) Dc) := sl_len List.length_set.symm
           rw [hsl]; rw [hsl] at H; clear hsl
           refine w_end (q_then (c_seq (rg (sm (I o144) rfl (st (v := (I (w64 (o144 + 1)))) (rv_add (a := o144) (b := 1) rfl rfl) (sa (I (w64 (o144 + 1))) rfl (w_end (q_then (rg (sm (I o174) rfl (st (v := (I (w64 (o174 - 1)))) (rv_sub (a := o174) (b := 1) rfl rfl) ?_)))))))))))
           refine sa (I (w64 (o174 - 1))) rfl (w_end (q_blk (q_then ?_)))
           obtain rfl := sj h
           exact ⟨_, rfl, _, σ230, fr_join ⟨rfl, rfl, rfl, rfl, rfl, trivial⟩, rfl, H.sel' [0] rfl rfl, ((List.length_set.trans (List.length_set.trans (hn143.trans (List.length_set.trans (List.length_set.trans (List.length_set.trans List.length_set)))))).trans (List.length_set.trans (List.length_set.trans (List.length_set.trans List.length_set))).symm)⟩
      ·clear hj
       have h := h'
       clear h' H
       rintro e a w ⟨rfl, ρ, σ231, rfl, rfl, H, hn232⟩
       refine q_then (c_seq ?_)
       revert h; refine br fun x233 hx234 h => ?_
       obtain ⟨b236, o237, hi235, -⟩ := (H.own 0 rfl).ix hx234
       obtain ⟨_, ⟨_, _, rfl, rfl, rfl⟩, hl238, hc239⟩ := ((H.own 0 rfl).at hx234 hi235).cells
       revert h; refine br fun x240 hx241 h => ?_
       obtain ⟨b243, o244, hi242, -⟩ := (H.own 0 rfl).ix hx241
       obtain ⟨_, ⟨_, _, rfl, rfl, rfl⟩, hl245, hc246⟩ := ((H.own 0 rfl).at hx241 hi242).cells
       revert h; refine br fun x247 hx248 h => ?_
       obtain ⟨b250, o251, hi249, -⟩ := (H.own 0 rfl).ix hx248
       have Hs := H
       refine rg2 (σ := σ231) (Nm := Unit) 14 [13] [[false], [true]] [[(0, 0)], [(0, 0)], [(0, 0), (1, 1)], [(0, 0), (1, 1)], [(0, 0)], [(0, 0)], [(0, 0)], [(0, 0)], [(0, 0)], [(0, 0)], [(0, 0)], [(0, 0)], [(0, 0)], [(0, 1)]] 1 [fun _ => fun σm => Hp S0 σ0 σm [Ch.own 0 0 (Sl Db o140.1 Dc) o140.1] ∧ Md (cov []) σ231 σm, fun _ => fun σm => Hp S0 σ0 σm [Ch.own 0 0 (Sl Db o140.1 Dc) (o140.1.set o140.2.toNat (x233.1, x233.2))] ∧ Md (fun i => (cov []) i ∨ (fun b => blk (Sl Db o140.1 Dc) = some b) i) σ231 σm] [fun _ => (Sl Db o140.1 Dc), fun _ => (I o140.2), fun _ => (Sl Db o140.1 Dc), fun _ => (I Cz), fun _ => (Sl Db o140.1 Dc), fun _ => (I Cz), fun _ => (pt b236 o237), fun _ => (.agg #[(I x233.1), (I x233.2)]), fun _ => (Sl Db o140.1 Dc), fun _ => (I o140.2), fun _ => (pt b243 o244), fun _ => (.agg #[(I x240.1), (I x240.2)]), fun _ => (pt b250 o251), fun _ => undef] () (by kernel_rfl) (by kernel_rfl) ?_ ?_ ?_
       ·intro σm m0
        exact ⟨H.grow (m0.mono fun _ h => h.elim), m0⟩
       ·refine ac rfl (by
          intro k _nm ρ σm hJ hoff hdep
          have e0 := look_off (N := 178) (hoff 0 rfl) rfl
          exact dp_v (v := (Sl Db o140.1 Dc)) wn (rv_move e0) rfl hJ) ?_
        refine ac rfl (by
          intro k _nm ρ σm hJ hoff hdep
          have e13 := look_off (N := 178) (hoff 13 rfl) rfl
          exact dp_v (v := (I o140.2)) wn (rv_move e13) rfl hJ) ?_
        refine ac rfl (by
          intro k _nm ρ σm hJ hoff hdep
          have e0 := look_off (N := 178) (hoff 0 rfl) rfl
          exact dp_v (v := (Sl Db o140.1 Dc)) wn (rv_move e0) rfl hJ) ?_
        refine ac rfl (by
          intro k _nm ρ σm hJ hoff hdep
          have e1 := look_off (N := 178) (hoff 1 rfl) rfl
          exact dp_v (v := (I Cz)) wn (rv_move e1) rfl hJ) ?_
        refine ac rfl (by
          intro k _nm ρ σm hJ hoff hdep
          have e0 := look_off (N := 178) (hoff 0 rfl) rfl
          exact dp_v (v := (Sl Db o140.1 Dc)) wn (rv_move e0) rfl hJ) ?_
        refine ac rfl (by
          intro k _nm ρ σm hJ hoff hdep
          have e1 := look_off (N := 178) (hoff 1 rfl) rfl
          exact dp_v (v := (I Cz)) wn (rv_move e1) rfl hJ) ?_
        refine ac rfl (by
          intro k _nm ρ σm hJ hoff hdep
          have e167 := hdep 4 rfl rfl 167 rfl
          have e168 := hdep 5 rfl rfl 168 rfl
          exact dp_v (v := (pt b236 o237)) wn (rv_ix Tryz.underlying27 ti38 e167 e168 hi235) rfl hJ) ?_
        refine all_cons (by
          refine ⟨?_, ?_⟩
          ·intro _nm ρ σm hJ hoff hdep
           have e169 := hdep 6 rfl rfl 169 rfl
           obtain ⟨H, m⟩ := id hJ
           obtain ⟨_, ⟨_, _, rfl, rfl, rfl⟩, hl238, hc239⟩ := ((H.own 0 rfl).at hx234 hi235).cells
           exact dp_v (v := (.agg #[(I x233.1), (I x233.2)])) wn (rv_load Tryz.underlying38 rfl ti38 e169 hl238 hc239) rfl hJ
          trivial) ?_
        refine ac rfl (by
          intro k _nm ρ σm hJ hoff hdep
          have e0 := look_off (N := 178) (hoff 0 rfl) rfl
          exact dp_v (v := (Sl Db o140.1 Dc)) wn (rv_move e0) rfl hJ) ?_
        refine ac rfl (by
          intro k _nm ρ σm hJ hoff hdep
          have e13 := look_off (N := 178) (hoff 13 rfl) rfl
          exact dp_v (v := (I o140.2)) wn (rv_move e13) rfl hJ) ?_
        refine ac rfl (by
          intro k _nm ρ σm hJ hoff hdep
          have e171 := hdep 8 rfl rfl 171 rfl
          have e172 := hdep 9 rfl rfl 172 rfl
          exact dp_v (v := (pt b243 o244)) wn (rv_ix Tryz.underlying27 ti38 e171 e172 hi242) rfl hJ) ?_
        refine all_cons (by
          refine ⟨?_, ?_⟩
          ·intro _nm ρ σm hJ hoff hdep
           have e173 := hdep 10 rfl rfl 173 rfl
           obtain ⟨H, m⟩ := id hJ
           obtain ⟨_, ⟨_, _, rfl, rfl, rfl⟩, hl245, hc246⟩ := ((H.own 0 rfl).at hx241 hi242).cells
           exact dp_v (v := (.agg #[(I x240.1), (I x240.2)])) wn (rv_load Tryz.underlying38 rfl ti38 e173 hl245 hc246) rfl hJ
          trivial) ?_
        refine ac rfl (by
          intro k _nm ρ σm hJ hoff hdep
          have e163 := hdep 0 rfl rfl 163 rfl
          have e164 := hdep 1 rfl rfl 164 rfl
          exact dp_v (v := (pt b250 o251)) wn (rv_ix Tryz.underlying27 ti38 e163 e164 hi249) rfl hJ) ?_
        refine all_cons (by
          refine ⟨?_, ?_⟩
          ·intro _nm ρ σm hJ hoff hdep
           have e175 := hdep 12 rfl rfl 175 rfl
           have e170 := hdep 7 rfl rfl 170 rfl
           obtain ⟨H, m⟩ := id hJ
           refine dp_exS wn rfl (ex_store_own (e' := (x233.1, x233.2)) (vs := [(I x233.1), (I x233.2)]) (k := 0) H (i := 0) rfl ti38 hx248 hi249 e175 rfl e170 rfl rfl (Nat.le_of_ble_eq_true rfl) (by simp [plain]) (by rintro _ ⟨_, _, rfl, rfl, rfl⟩; exact ⟨[(I x233.1)], [(I x233.2)], rfl, rfl, rfl⟩)) ?_
           rintro σq ⟨H2, m2⟩
           exact ⟨_, (), rfl, ⟨H2.sel' [0] rfl rfl, m.comp m2⟩, stab [0, 1, 2, 3, 4, 5, 6, 7, 8, 9, 10, 11, 12] (by kernel_rfl) ⟨rfl, rfl, rfl, rfl, rfl, rfl, rfl, rfl, rfl, rfl, rfl, rfl, rfl, trivial⟩⟩
          trivial) ?_
        exact all_nil
       ·intro _nm ρ σ252 hJ hoff hrel
        have e0 := look_off (N := 178) (hoff 0 rfl) rfl
        have e13 := look_off (N := 178) (hoff 13 rfl) rfl
        have e165 := hrel 2 rfl 165 rfl
        have e166 := hrel 3 rfl 166 rfl
        have e174 := hrel 11 rfl 174 rfl
        obtain ⟨H, -⟩ := (show Hp S0 σ0 σ252 [Ch.own 0 0 (Sl Db o140.1 Dc) (o140.1.set o140.2.toNat (x233.1, x233.2))] ∧ Md (fun i => (cov []) i ∨ (fun b => blk (Sl Db o140.1 Dc) = some b) i) σ231 σ252 from hJ)
        clear hJ Hs
        rw [fr_lookL (L := [(0, (Sl Db o140.1 Dc)), (13, (I o140.2)), (165, (Sl Db o140.1 Dc)), (166, (I Cz)), (174, (.agg #[(I x240.1), (I x240.2)]))]) ⟨e0, e13, e165, e166, e174, trivial⟩]
        clear hoff hrel e0 e13 e165 e166 e174
        have hsl : (Sl Db o140.1 Dc) = (Sl Db (o140.1.set o140.2.toNat (x233.1, x233.2)) Dc) := sl_len (by simp)
        rw [hsl]; rw [hsl] at H; clear hsl
        revert h; refine br fun x253 hx254 h => ?_
        obtain ⟨b256, o257, hi255, -⟩ := (H.own 0 rfl).ix hx254
        refine st (v := (pt b256 o257)) (rv_ix Tryz.underlying27 ti38 rfl rfl hi255) ?_
        refine st_exS (ex_store_own (e' := (x240.1, x240.2)) (vs := [(I x240.1), (I x240.2)]) (k := 0) H (i := 0) rfl ti38 hx254 hi255 rfl rfl rfl rfl rfl (Nat.le_of_ble_eq_true rfl) (by simp [plain]) (by rintro _ ⟨_, _, rfl, rfl, rfl⟩; exact ⟨[(I x240.1)], [(I x240.2)], rfl, rfl, rfl⟩)) wn ?_
        rintro σ258 ⟨H, -⟩
        have hsl : (Sl Db (o140.1.set o140.2.toNat (x233.1, x233.2)) Dc) = (Sl Db ((o140.1.set o140.2.toNat (x233.1, x233.2)).set Cz.toNat (x240.1, x240.2)) Dc) := sl_len List.length_set.symm
        rw [hsl]; rw [hsl] at H; clear hsl
        refine w_end (q_then (c_seq (rg (sm (I o140.2) rfl (sa (I o140.2) rfl (sa (B false) rfl (w_end (q_then (c_ret ?_)))))))))
        obtain rfl := sj h
        exact fin_ret (v := (.tuple #[(I o140.2), (B false)])) (results_ok Tryz.results145 (res_tmp (v := (I o140.2)) rfl (res_tmp (v := (B false)) rfl res_nil)) rfl) ⟨rfl, rfl, (List.length_set.trans (List.length_set.trans (hn232.trans (List.length_set.trans (List.length_set.trans (List.length_set.trans List.length_set))))))⟩ (H.sel' [0] rfl rfl)

theorem c_slices_pdqsortCmpFunc_impl_Hit__impl_compareHits : ∀ (fuel : Nat) {Cy : List (Int × Int)} {Cz : Int} {Da : Int} {Ed : Int} {Db : Option Addr} {Dc : Nat} {r : (List (Int × Int))} (h : M.slices_pdqsortCmpFunc_impl_Hit__impl_compareHits fuel Cy Cz Da Ed = some r),
    Cal2 Tryz.prog 121 [(Sl Db Cy Dc), (I Cz), (I Da), (I Ed), (.func (.func 72) #[] #[])] [Ch.own 0 0 (Sl Db Cy Dc) Cy] (fun n0 v L => v = (.tuple #[]) ∧ L = [Ch.own 0 0 (Sl Db r Dc) r] ∧ r.length = Cy.length) := by
 intro fuel
 induction fuel with
 | zero => intro _ _ _ _ _ _ r h; cases h
 | succ fuel ih =>
 ·intro Cy Cz Da Ed Db Dc r h
  replace h : M.slices_pdqsortCmpFunc_impl_Hit__impl_compareHits_F (M.slices_pdqsortCmpFunc_impl_Hit__impl_compareHits fuel) Cy Cz Da Ed = some r := h
  refine cal2 (n := 148) Tryz.func121 rfl rfl rfl rfl ?_
  intro S0 σ0 n0 hn0 H
  unfold M.slices_pdqsortCmpFunc_impl_Hit__impl_compareHits_F at h
  refine c_seq (rg (sa (B true) rfl (w_end (q_then (c_seq (rg (sa (B true) rfl (w_end (q_then ?_)))))))))
  obtain ⟨o1, hj, h'⟩ := bind_some h
  clear h
  refine c_cut (fun e a w => e = .ret ∧ ∃ (ρ : Nat → Value) (σ : St), a = fr 148 (updL ρ [(0, (Sl Db o1 Dc))]) ∧ w = σ.w ∧ Hp S0 σ0 σ [Ch.own 0 0 (Sl Db o1 Dc) o1] ∧ o1.length = Cy.length) ?_ ?_
  ·clear h'
   rename _ = some o1 => h
   refine c_blk (wp_loopM _ h (fun s2 a w => ∃ (ρ : Nat → Value) (σ : St), a = fr 148 (updL ρ [(0, (Sl Db s2.1 Dc)), (1, (I s2.2.1)), (2, (I s2.2.2.1)), (3, (I s2.2.2.2.1)), (4, (.func (.func 72) #[] #[])), (10, (B s2.2.2.2.2.1)), (11, (B s2.2.2.2.2.2))]) ∧ w = σ.w ∧ Hp S0 σ0 σ [Ch.own 0 0 (Sl Db s2.1 Dc) s2.1] ∧ s2.1.length = Cy.length) ⟨_, σ0, fr_join ⟨rfl, rfl, rfl, rfl, rfl, rfl, rfl, trivial⟩, rfl, H.sel' [0] rfl rfl, rfl⟩ ?_)
   clear h H
   rintro s2 a w o ⟨ρ, σ3, rfl, rfl, H, hn4⟩ h hres
   refine c_blk (c_seq (rg (sm (I s2.2.2.1) rfl (sm (I s2.2.1) rfl (st (v := (I (w64 (s2.2.2.1 - s2.2.1)))) (rv_sub (a := s2.2.2.1) (b := s2.2.1) rfl rfl) (sa (I (w64 (s2.2.2.1 - s2.2.1))) rfl (w_end (q_then (c_seq (c_seq (rg ?_)))))))))))
   refine sm (I (w64 (s2.2.2.1 - s2.2.1))) rfl (st (v := (B (decide ((w64 (s2.2.2.1 - s2.2.1)) ≤ 12)))) (rv_leq (a := (w64 (s2.2.2.1 - s2.2.1))) (b := 12) rfl rfl) (w_end (q_then ?_)))
   refine cd_cond (decide ((w64 (s2.2.2.1 - s2.2.1)) ≤ 12)) rfl (fun hb5 => ?_) (fun hb5 => ?_)
   ·replace h := bif_t hb5 h
    refine c_seq (rg (sm (Sl Db s2.1 Dc) rfl (sm (I s2.2.1) rfl (sm (I s2.2.2.1) rfl (sm (.func (.func 72) #[] #[]) rfl ?_)))))
    revert h; refine br fun r6 hx7 h => ?_
    have hc8 := c_slices_insertionSortCmpFunc_impl_Hit__impl_compareHits (Db := Db) (Dc := Dc) hx7
    refine st_call (cx_call hc8 (ent_f hc8.fn rfl) hn0 (H.sel' [0] rfl rfl : Hp S0 σ0 _ ([_] ++ _))) wn ?_
    rintro _ σ10 ⟨_, ⟨rfl, rfl, hn9⟩, H, -⟩
    replace H : Hp _ _ _ [_] := H
    have hsl : (Sl Db s2.1 Dc) = (Sl Db r6 Dc) := sl_len hn9.symm
    try rw [hsl]
    try rw [hsl] at H
    clear hsl
    refine w_end (q_then (c_ret (q_then_r (q_blk_r (q_then_r (q_blk_r ?_))))))
    obtain rfl := sj h
    obtain rfl := hres _ rfl
    exact ⟨rfl, _, σ10, fr_join ⟨rfl, trivial⟩, rfl, H.sel' [0] rfl rfl, (hn9.trans hn4)⟩
   ·replace h := bif_f hb5 h
    refine c_skip (q_then (c_seq (c_seq (rg (sm (I s2.2.2.2.1) rfl (st (v := (B (s2.2.2.2.1 == 0))) (rv_eql (a := s2.2.2.2.1) (b := 0) rfl rfl) (w_end (q_then ?_))))))))
    refine cd_cond (s2.2.2.2.1 == 0) rfl (fun hb11 => ?_) (fun hb11 => ?_)
    ·replace h := bif_t hb11 h
     refine c_seq (rg (sm (Sl Db s2.1 Dc) rfl (sm (I s2.2.1) rfl (sm (I s2.2.2.1) rfl (sm (.func (.func 72) #[] #[]) rfl ?_)))))
     revert h; refine br fun r12 hx13 h => ?_
     have hc14 := c_slices_heapSortCmpFunc_impl_Hit__impl_compareHits (Db := Db) (Dc := Dc) hx13
     refine st_call (cx_call hc14 (ent_f hc14.fn rfl) hn0 (H.sel' [0] rfl rfl : Hp S0 σ0 _ ([_] ++ _))) wn ?_
     rintro _ σ16 ⟨_, ⟨rfl, rfl, hn15⟩, H, -⟩
     replace H : Hp _ _ _ [_] := H
     have hsl : (Sl Db s2.1 Dc) = (Sl Db r12 Dc) := sl_len hn15.symm
     try rw [hsl]
     try rw [hsl] at H
     clear hsl
     refine w_end (q_then (c_ret (q_then_r (q_blk_r (q_then_r (q_blk_r ?_))))))
     obtain rfl := sj h
     obtain rfl := hres _ rfl
     exact ⟨rfl, _, σ16, fr_join ⟨rfl, trivial⟩, rfl, H.sel' [0] rfl rfl, (hn15.trans hn4)⟩
    ·replace h := bif_f hb11 h
     refine c_skip (q_then (c_seq (c_seq (rg (sm (B s2.2.2.2.2.1) rfl (st (v := (B (!s2.2.2.2.2.1))) (rv_not rfl) (w_end (q_then ?_))))))))
     obtain ⟨o17, hj, h'⟩ := bind_some h
     clear h
     refine c_cut (fun e a w => e = .normal ∧ ∃ (ρ : Nat → Value) (σ : St), a = fr 148 (updL ρ [(0, (Sl Db o17.1 Dc)), (1, (I s2.2.1)), (2, (I s2.2.2.1)), (3, (I o17.2)), (4, (.func (.func 72) #[] #[])), (10, (B s2.2.2.2.2.1)), (11, (B s2.2.2.2.2.2)), (12, (I (w64 (s2.2.2.1 - s2.2.1))))]) ∧ w = σ.w ∧ Hp S0 σ0 σ [Ch.own 0 0 (Sl Db o17.1 Dc) o17.1] ∧ o17.1.length = s2.1.length) ?_ ?_
     ·clear h'
      rename _ = some o17 => h
      refine cd_cond (!s2.2.2.2.2.1) rfl (fun hb18 => ?_) (fun hb18 => ?_)
      ·replace h := bif_t hb18 h
       refine c_seq (rg (sm (Sl Db s2.1 Dc) rfl (sm (I s2.2.1) rfl (sm (I s2.2.2.1) rfl (sm (.func (.func 72) #[] #[]) rfl ?_)))))
       revert h; refine br fun r19 hx20 h => ?_
       have hc21 := c_slices_breakPatternsCmpFunc_impl_Hit__impl_compareHits (Db := Db) (Dc := Dc) hx20
       refine st_call (cx_call hc21 (ent_f hc21.fn rfl) hn0 (H.sel' [0] rfl rfl : Hp S0 σ0 _ ([_] ++ _))) wn ?_
       rintro _ σ23 ⟨_, ⟨rfl, rfl, hn22⟩, H, -⟩
       replace H : Hp _ _ _ [_] := H
       have hsl : (Sl Db s2.1 Dc) = (Sl Db r19 Dc) := sl_len hn22.symm
       try rw [hsl]
       try rw [hsl] at H
       clear hsl
       refine w_end (q_then (rg (sm (I s2.2.2.2.1) rfl (st (v := (I (w64 (s2.2.2.2.1 - 1)))) (rv_sub (a := s2.2.2.2.1) (b := 1) rfl rfl) (sa (I (w64 (s2.2.2.2.1 - 1))) rfl (w_end ?_))))))
       obtain rfl := sj h
       exact ⟨rfl, _, σ23, fr_join ⟨rfl, rfl, rfl, rfl, rfl, rfl, rfl, rfl, trivial⟩, rfl, H.sel' [0] rfl rfl, ((hn22.trans hn4).trans hn4.symm)⟩
      ·replace h := bif_f hb18 h
       refine c_skip ?_
       obtain rfl := sj h
       exact ⟨rfl, _, σ3, fr_join ⟨rfl, rfl, rfl, rfl, rfl, rfl, rfl, rfl, trivial⟩, rfl, H.sel' [0] rfl rfl, rfl⟩
     ·clear hj
      have h := h'
      clear h' H
      rintro e a w ⟨rfl, ρ, σ24, rfl, rfl, H, hn25⟩
      refine q_then (c_seq (rg (sm (Sl Db o17.1 Dc) rfl (sm (I s2.2.1) rfl (sm (I s2.2.2.1) rfl (sm (.func (.func 72) #[] #[]) rfl ?_))))))
      revert h; refine br fun r26 hx27 h => ?_
      have hc28 := c_slices_choosePivotCmpFunc_impl_Hit__impl_compareHits (Db := Db) (Dc := Dc) hx27
      have hle := Nat.le_trans hn0 H.size
      refine st_call (cx_lend (Loan.lend Loan.nil) hc28 (ent_f hc28.fn rfl) (show Hp S0 σ0 _ ([Ch.own 0 0 (Sl Db o17.1 Dc) o17.1] ++ ([] ++ [])) from (H.sel' [0] rfl rfl)) (by rintro _ _ _ ⟨rfl, rfl⟩; exact trivial)) wn ?_
      rintro _ σ29 ⟨_, ⟨rfl, rfl⟩, H, -, -⟩
      replace H : Hp _ _ _ [_] := H
      clear hle
      replace H : Hp _ _ _ [_] := H
      refine sm (.tuple #[(I r26.1), (I r26.2)]) rfl (st (v := (I r26.1)) (rv_extract rfl rfl) (st (v := (I r26.2)) (rv_extract rfl rfl) (sa (I r26.1) rfl (sa (I r26.2) rfl (w_end (q_then (c_seq (c_seq (rg (sm (I r26.2) rfl (st (v := (B (r26.2 == 2))) (rv_eql (a := r26.2) (b := 2) rfl rfl) ?_)))))))))))
      refine w_end (q_then ?_)
      obtain ⟨o30, hj, h'⟩ := bind_some h
      clear h
      refine c_cut (fun e a w => e = .normal ∧ ∃ (ρ : Nat → Value) (σ : St), a = fr 148 (updL ρ [(0, (Sl Db o30.1 Dc)), (1, (I s2.2.1)), (2, (I s2.2.2.1)), (3, (I o17.2)), (4, (.func (.func 72) #[] #[])), (10, (B s2.2.2.2.2.1)), (11, (B s2.2.2.2.2.2)), (12, (I (w64 (s2.2.2.1 - s2.2.1)))), (13, (I o30.2.1)), (14, (I o30.2.2))]) ∧ w = σ.w ∧ Hp S0 σ0 σ [Ch.own 0 0 (Sl Db o30.1 Dc) o30.1] ∧ o30.1.length = o17.1.length) ?_ ?_
      ·clear h'
       rename _ = some o30 => h
       refine cd_cond (r26.2 == 2) rfl (fun hb31 => ?_) (fun hb31 => ?_)
       ·replace h := bif_t hb31 h
        refine c_seq (rg (sm (Sl Db o17.1 Dc) rfl (sm (I s2.2.1) rfl (sm (I s2.2.2.1) rfl (sm (.func (.func 72) #[] #[]) rfl ?_)))))
        revert h; refine br fun r32 hx33 h => ?_
        have hc34 := c_slices_reverseRangeCmpFunc_impl_Hit__impl_compareHits (Db := Db) (Dc := Dc) hx33
        refine st_call (cx_call hc34 (ent_f hc34.fn rfl) hn0 (H.sel' [0] rfl rfl : Hp S0 σ0 _ ([_] ++ _))) wn ?_
        rintro _ σ36 ⟨_, ⟨rfl, rfl, hn35⟩, H, -⟩
        replace H : Hp _ _ _ [_] := H
        have hsl : (Sl Db o17.1 Dc) = (Sl Db r32 Dc) := sl_len hn35.symm
        try rw [hsl]
        try rw [hsl] at H
        clear hsl
        refine w_end (q_then (c_seq (rg (sm (I s2.2.2.1) rfl (st (v := (I (w64 (s2.2.2.1 - 1)))) (rv_sub (a := s2.2.2.1) (b := 1) rfl rfl) (sm (I r26.1) rfl (sm (I s2.2.1) rfl (st (v := (I (w64 (r26.1 - s2.2.1)))) (rv_sub (a := r26.1) (b := s2.2.1) rfl rfl) (st (v := (I (w64 ((w64 (s2.2.2.1 - 1)) - (w64 (r26.1 - s2.2.1)))))) (rv_sub (a := (w64 (s2.2.2.1 - 1))) (b := (w64 (r26.1 - s2.2.1))) rfl rfl) (sa (I (w64 ((w64 (s2.2.2.1 - 1)) - (w64 (r26.1 - s2.2.1))))) rfl (w_end ?_)))))))))))
        refine q_then (rg (sa (I 1) rfl (w_end ?_)))
        obtain rfl := sj h
        exact ⟨rfl, _, σ36, fr_join ⟨rfl, rfl, rfl, rfl, rfl, rfl, rfl, rfl, rfl, rfl, trivial⟩, rfl, H.sel' [0] rfl rfl, ((hn35.trans (hn25.trans hn4)).trans (hn25.trans hn4).symm)⟩
       ·replace h := bif_f hb31 h
        refine c_skip ?_
        obtain rfl := sj h
        exact ⟨rfl, _, σ29, fr_join ⟨rfl, rfl, rfl, rfl, rfl, rfl, rfl, rfl, rfl, rfl, trivial⟩, rfl, H.sel' [0] rfl rfl, rfl⟩
      ·clear hj
       have h := h'
       clear h' H
       rintro e a w ⟨rfl, ρ, σ37, rfl, rfl, H, hn38⟩
       refine q_then (c_seq (c_seq ?_))
       obtain ⟨o39, hj, h'⟩ := bind_some h
       clear h
       refine c_cut (fun e a w => e = .normal ∧ ∃ (ρ : Nat → Value) (σ : St), a = fr 148 (updL ρ [(0, (Sl Db o30.1 Dc)), (1, (I s2.2.1)), (2, (I s2.2.2.1)), (3, (I o17.2)), (4, (.func (.func 72) #[] #[])), (10, (B s2.2.2.2.2.1)), (11, (B s2.2.2.2.2.2)), (12, (I (w64 (s2.2.2.1 - s2.2.1)))), (13, (I o30.2.1)), (75, (B o39))]) ∧ w = σ.w ∧ Hp S0 σ0 σ [Ch.own 0 0 (Sl Db o30.1 Dc) o30.1]) ?_ ?_
       ·clear h'
        rename _ = some o39 => h
        refine rg (sm (B s2.2.2.2.2.1) rfl (sm (B s2.2.2.2.2.1) rfl ?_))
        rcases Bool.eq_false_or_eq_true s2.2.2.2.2.1 with hb40 | hb40
        ·replace h := bif_t hb40 h
         refine st_g (v := (B s2.2.2.2.2.2)) (congrArg some hb40) (rv_move rfl) (st (v := (B s2.2.2.2.2.2)) (rv_pick_t (congrArg B hb40) rfl) (sm (B s2.2.2.2.2.2) rfl ?_))
         rcases Bool.eq_false_or_eq_true s2.2.2.2.2.2 with hb41 | hb41
         ·replace h := bif_t hb41 h
          refine st_g (v := (I o30.2.2)) (congrArg some hb41) (rv_move rfl) (st_g (v := (B (o30.2.2 == 1))) (congrArg some hb41) (rv_eql (a := o30.2.2) (b := 1) rfl rfl) (st (v := (B (o30.2.2 == 1))) (rv_pick_t (congrArg B hb41) rfl) (w_end ?_)))
          obtain rfl := sj h
          exact ⟨rfl, _, σ37, fr_join ⟨rfl, rfl, rfl, rfl, rfl, rfl, rfl, rfl, rfl, rfl, trivial⟩, rfl, H.sel' [0] rfl rfl⟩
         ·replace h := bif_f hb41 h
          refine st_skip (congrArg some hb41) (st_skip (congrArg some hb41) (st (v := (B false)) (rv_pick_f (congrArg B hb41) rfl) (w_end ?_)))
          obtain rfl := sj h
          exact ⟨rfl, _, σ37, fr_join ⟨rfl, rfl, rfl, rfl, rfl, rfl, rfl, rfl, rfl, rfl, trivial⟩, rfl, H.sel' [0] rfl rfl⟩
        ·replace h := bif_f hb40 h
         refine st_skip (congrArg some hb40) (st (v := (B false)) (rv_pick_f (congrArg B hb40) rfl) (sm (B false) rfl (st_skip rfl (st_skip rfl (st (v := (B false)) (rv_pick_f rfl rfl) (w_end ?_))))))
         obtain rfl := sj h
         exact ⟨rfl, _, σ37, fr_join ⟨rfl, rfl, rfl, rfl, rfl, rfl, rfl, rfl, rfl, rfl, trivial⟩, rfl, H.sel' [0] rfl rfl⟩
       ·clear hj
        have h := h'
        clear h' H
        rintro e a w ⟨rfl, ρ, σ42, rfl, rfl, H⟩
        refine q_then ?_
        obtain ⟨o43, hj, h'⟩ := bind_some h
        clear h
        refine c_cut (fun e a w => (∃ t, o43 = (.inl t) ∧ e = .normal ∧ ∃ (ρ : Nat → Value) (σ : St), a = fr 148 (updL ρ [(0, (Sl Db t Dc)), (1, (I s2.2.1)), (2, (I s2.2.2.1)), (3, (I o17.2)), (4, (.func (.func 72) #[] #[])), (10, (B s2.2.2.2.2.1)), (11, (B s2.2.2.2.2.2)), (12, (I (w64 (s2.2.2.1 - s2.2.1)))), (13, (I o30.2.1))]) ∧ w = σ.w ∧ Hp S0 σ0 σ [Ch.own 0 0 (Sl Db t Dc) t] ∧ t.length = o30.1.length) ∨ (∃ t, o43 = (.inr t) ∧ e = .ret ∧ ∃ (ρ : Nat → Value) (σ : St), a = fr 148 (updL ρ [(0, (Sl Db t Dc))]) ∧ w = σ.w ∧ Hp S0 σ0 σ [Ch.own 0 0 (Sl Db t Dc) t] ∧ t.length = o30.1.length)) ?_ ?_
        ·clear h'
         rename _ = some o43 => h
         refine cd_cond o39 rfl (fun hb44 => ?_) (fun hb44 => ?_)
         ·replace h := bif_t hb44 h
          refine c_seq (rg (sm (Sl Db o30.1 Dc) rfl (sm (I s2.2.1) rfl (sm (I s2.2.2.1) rfl (sm (.func (.func 72) #[] #[]) rfl ?_)))))
          revert h; refine br fun r45 hx46 h => ?_
          have hc47 := c_slices_partialInsertionSortCmpFunc_impl_Hit__impl_compareHits (Db := Db) (Dc := Dc) hx46
          refine st_call (cx_call hc47 (ent_f hc47.fn rfl) hn0 (H.sel' [0] rfl rfl : Hp S0 σ0 _ ([_] ++ _))) wn ?_
          rintro _ σ49 ⟨_, ⟨rfl, rfl, hn48⟩, H, -⟩
          replace H : Hp _ _ _ [_] := H
          have hsl : (Sl Db o30.1 Dc) = (Sl Db r45.2 Dc) := sl_len hn48.symm
          try rw [hsl]
          try rw [hsl] at H
          clear hsl
          refine w_end (q_then ?_)
          refine cd_cond r45.1 rfl (fun hb50 => ?_) (fun hb50 => ?_)
          ·replace h := bif_t hb50 h
           refine c_ret ?_
           obtain rfl := sj h
           exact .inr (⟨_, rfl, rfl, _, σ49, fr_join ⟨rfl, trivial⟩, rfl, H.sel' [0] rfl rfl, ((hn48.trans (hn38.trans (hn25.trans hn4))).trans (hn38.trans (hn25.trans hn4)).symm)⟩)
          ·replace h := bif_f hb50 h
           refine c_skip ?_
           obtain rfl := sj h
           exact .inl ⟨_, rfl, rfl, _, σ49, fr_join ⟨rfl, rfl, rfl, rfl, rfl, rfl, rfl, rfl, rfl, trivial⟩, rfl, H.sel' [0] rfl rfl, ((hn48.trans (hn38.trans (hn25.trans hn4))).trans (hn38.trans (hn25.trans hn4)).symm)⟩
         ·replace h := bif_f hb44 h
          refine c_skip ?_
          obtain rfl := sj h
          exact .inl ⟨_, rfl, rfl, _, σ42, fr_join ⟨rfl, rfl, rfl, rfl, rfl, rfl, rfl, rfl, rfl, trivial⟩, rfl, H.sel' [0] rfl rfl, rfl⟩
        ·clear hj
         have h := h'
         clear h' H
         rintro e a w (⟨t51, rfl, rfl, ρ, σ52, rfl, rfl, H, hn53⟩ | ⟨t101, rfl, rfl, ρ, σ102, rfl, rfl, H, hn103⟩)
         ·replace h := selim_l h
          refine q_then (c_seq (c_seq ?_))
          obtain ⟨o54, hj, h'⟩ := bind_some h
          clear h
          refine c_cut (fun e a w => e = .normal ∧ ∃ (ρ : Nat → Value) (σ : St), a = fr 148 (updL ρ [(0, (Sl Db t51 Dc)), (1, (I s2.2.1)), (2, (I s2.2.2.1)), (3, (I o17.2)), (4, (.func (.func 72) #[] #[])), (10, (B s2.2.2.2.2.1)), (11, (B s2.2.2.2.2.2)), (12, (I (w64 (s2.2.2.1 - s2.2.1)))), (13, (I o30.2.1)), (97, (B o54))]) ∧ w = σ.w ∧ Hp S0 σ0 σ [Ch.own 0 0 (Sl Db t51 Dc) t51]) ?_ ?_
          ·clear h'
           rename _ = some o54 => h
           refine rgP (σ := σ52) 13 (by kernel_rfl) (by kernel_rfl) (by kernel_rfl) ?_
           refine sq (v := (I s2.2.1)) (rv_move rfl) (sq (v := (B (decide (0 < s2.2.1)))) (rv_gtr (a := s2.2.1) (b := 0) rfl rfl) (sq (v := (B (decide (0 < s2.2.1)))) (rv_move rfl) ?_))
           rcases Bool.eq_false_or_eq_true (decide (0 < s2.2.1)) with hb55 | hb55
           ·replace h := bif_t hb55 h
            refine sq_g (v := (.func (.func 72) #[] #[])) (congrArg some hb55) (rv_move rfl) (sq_g (v := (Sl Db t51 Dc)) (congrArg some hb55) (rv_move rfl) (sq_g (v := (I s2.2.1)) (congrArg some hb55) (rv_move rfl) (sq_g (v := (I (w64 (s2.2.1 - 1)))) (congrArg some hb55) (rv_sub (a := s2.2.1) (b := 1) rfl rfl) ?_)))
            revert h; refine br fun x56 hx57 h => ?_
            obtain ⟨b59, o60, hi58, -⟩ := (H.own 0 rfl).ix hx57
            refine sq_g (v := (pt b59 o60)) (congrArg some hb55) (rv_ix Tryz.underlying27 ti38 rfl rfl hi58) ?_
            obtain ⟨_, ⟨_, _, rfl, rfl, rfl⟩, hl61, hc62⟩ := ((H.own 0 rfl).at hx57 hi58).cells
            refine sq_g (v := (.agg #[(I x56.1), (I x56.2)])) (congrArg some hb55) (rv_load Tryz.underlying38 rfl ti38 rfl hl61 hc62) (sq_g (v := (Sl Db t51 Dc)) (congrArg some hb55) (rv_move rfl) (sq_g (v := (I o30.2.1)) (congrArg some hb55) (rv_move rfl) ?_))
            revert h; refine br fun x63 hx64 h => ?_
            obtain ⟨b66, o67, hi65, -⟩ := (H.own 0 rfl).ix hx64
            refine sq_g (v := (pt b66 o67)) (congrArg some hb55) (rv_ix Tryz.underlying27 ti38 rfl rfl hi65) ?_
            obtain ⟨_, ⟨_, _, rfl, rfl, rfl⟩, hl68, hc69⟩ := ((H.own 0 rfl).at hx64 hi65).cells
            refine sq_g (v := (.agg #[(I x63.1), (I x63.2)])) (congrArg some hb55) (rv_load Tryz.underlying38 rfl ti38 rfl hl68 hc69) (sq_end ?_)
            intro σ70 hm71
            replace H := H.grow (hm71.mono fun _ h => h); clear hm71
            revert h; refine br fun r72 hx73 h => ?_
            have hc74 := c_impl_compareHits hx73
            refine st_call (cx_call hc74 (ent_v (cap := []) hc74.fn rfl rfl) hn0 (H.sel' [0] rfl rfl : Hp S0 σ0 _ ([] ++ _))) (wanted_yes rfl (by exact (congrArg some hb55))) ?_
            rintro _ σ75 ⟨_, ⟨rfl, rfl⟩, H, -⟩
            replace H : Hp _ _ _ [_] := H
            refine st_g (v := (B (decide (r72 < 0)))) (congrArg some hb55) (rv_lss (a := r72) (b := 0) rfl rfl) (st_g (v := (B (!(decide (r72 < 0))))) (congrArg some hb55) (rv_not rfl) (st (v := (B (!(decide (r72 < 0))))) (rv_pick_t (congrArg B hb55) rfl) (w_end ?_)))
            obtain rfl := sj h
            exact ⟨rfl, _, σ75, fr_join ⟨rfl, rfl, rfl, rfl, rfl, rfl, rfl, rfl, rfl, rfl, trivial⟩, rfl, H.sel' [0] rfl rfl⟩
           ·replace h := bif_f hb55 h
            refine sq_skip (congrArg some hb55) (sq_skip (congrArg some hb55) (sq_skip (congrArg some hb55) (sq_skip (congrArg some hb55) (sq_skip (congrArg some hb55) (sq_skip (congrArg some hb55) (sq_skip (congrArg some hb55) (sq_skip (congrArg some hb55) (sq_skip (congrArg some hb55) (sq_skip (congrArg some hb55) (sq_end ?_))))))))))
            intro σ76 hm77
            replace H := H.grow (hm77.mono fun _ h => h); clear hm77
            refine st_skip (congrArg some hb55) (st_skip (congrArg some hb55) (st_skip (congrArg some hb55) (st (v := (B false)) (rv_pick_f (congrArg B hb55) rfl) (w_end ?_))))
            obtain rfl := sj h
            exact ⟨rfl, _, σ76, fr_join ⟨rfl, rfl, rfl, rfl, rfl, rfl, rfl, rfl, rfl, rfl, trivial⟩, rfl, H.sel' [0] rfl rfl⟩
          ·clear hj
           have h := h'
           clear h' H
           rintro e a w ⟨rfl, ρ, σ78, rfl, rfl, H⟩
           refine q_then ?_
           refine cd_cond o54 rfl (fun hb79 => ?_) (fun hb79 => ?_)
           ·replace h := bif_t hb79 h
            refine c_seq (rg (sm (Sl Db t51 Dc) rfl (sm (I s2.2.1) rfl (sm (I s2.2.2.1) rfl (sm (I o30.2.1) rfl (sm (.func (.func 72) #[] #[]) rfl ?_))))))
            revert h; refine br fun r80 hx81 h => ?_
            have hc82 := c_slices_partitionEqualCmpFunc_impl_Hit__impl_compareHits (Db := Db) (Dc := Dc) hx81
            refine st_call (cx_call hc82 (ent_f hc82.fn rfl) hn0 (H.sel' [0] rfl rfl : Hp S0 σ0 _ ([_] ++ _))) wn ?_
            rintro _ σ84 ⟨_, ⟨rfl, rfl, hn83⟩, H, -⟩
            replace H : Hp _ _ _ [_] := H
            have hsl : (Sl Db t51 Dc) = (Sl Db r80.2 Dc) := sl_len hn83.symm
            try rw [hsl]
            try rw [hsl] at H
            clear hsl
            refine sa (I r80.1) rfl (w_end (q_then (c_seq (rg (sm (I r80.1) rfl (sa (I r80.1) rfl (w_end (q_then (c_exit (q_then_x (q_blk_hit ?_)))))))))))
            refine q_then ?_
            obtain rfl := sj h
            exact ⟨_, rfl, _, σ84, fr_join ⟨rfl, rfl, rfl, rfl, rfl, rfl, rfl, trivial⟩, rfl, H.sel' [0] rfl rfl, (hn83.trans (hn53.trans (hn38.trans (hn25.trans hn4))))⟩
           ·replace h := bif_f hb79 h
            refine c_skip (q_then (c_seq (rg (sm (Sl Db t51 Dc) rfl (sm (I s2.2.1) rfl (sm (I s2.2.2.1) rfl (sm (I o30.2.1) rfl (sm (.func (.func 72) #[] #[]) rfl ?_))))))))
            revert h; refine br fun r85 hx86 h => ?_
            have hc87 := c_slices_partitionCmpFunc_impl_Hit__impl_compareHits (Db := Db) (Dc := Dc) hx86
            refine st_call (cx_call hc87 (ent_f hc87.fn rfl) hn0 (H.sel' [0] rfl rfl : Hp S0 σ0 _ ([_] ++ _))) wn ?_
            rintro _ σ89 ⟨_, ⟨rfl, rfl, hn88⟩, H, -⟩
            replace H : Hp _ _ _ [_] := H
            have hsl : (Sl Db t51 Dc) = (Sl Db r85.2.2 Dc) := sl_len hn88.symm
            try rw [hsl]
            try rw [hsl] at H
            clear hsl
            refine sm (.tuple #[(I r85.1), (B r85.2.1)]) rfl (st (v := (I r85.1)) (rv_extract rfl rfl) (st (v := (B r85.2.1)) (rv_extract rfl rfl) (sa (I r85.1) rfl (sa (B r85.2.1) rfl (w_end (q_then (c_seq (rg (sm (B r85.2.1) rfl (sa (B r85.2.1) rfl (w_end ?_)))))))))))
            refine q_then (c_seq (rg (sm (I r85.1) rfl (sm (I s2.2.1) rfl (st (v := (I (w64 (r85.1 - s2.2.1)))) (rv_sub (a := r85.1) (b := s2.2.1) rfl rfl) (sm (I s2.2.2.1) rfl (sm (I r85.1) rfl (st (v := (I (w64 (s2.2.2.1 - r85.1)))) (rv_sub (a := s2.2.2.1) (b := r85.1) rfl rfl) (sa (I (w64 (r85.1 - s2.2.1))) rfl (sa (I (w64 (s2.2.2.1 - r85.1))) rfl (w_end ?_)))))))))))
            refine q_then (c_seq (rg (sm (I (w64 (s2.2.2.1 - s2.2.1))) rfl ?_)))
            refine st (v := (I (w64 ((w64 (s2.2.2.1 - s2.2.1)).tdiv 8)))) (rv_quo (a := (w64 (s2.2.2.1 - s2.2.1))) (b := 8) rfl rfl (by decide)) ?_
            refine sa (I (w64 ((w64 (s2.2.2.1 - s2.2.1)).tdiv 8))) rfl (w_end (q_then (c_seq (rg (sm (I (w64 (r85.1 - s2.2.1))) rfl (sm (I (w64 (s2.2.2.1 - r85.1))) rfl (st (v := (B (decide ((w64 (r85.1 - s2.2.1)) < (w64 (s2.2.2.1 - r85.1)))))) (rv_lss (a := (w64 (r85.1 - s2.2.1))) (b := (w64 (s2.2.2.1 - r85.1))) rfl rfl) (w_end (q_then ?_)))))))))
            refine cd_cond (decide ((w64 (r85.1 - s2.2.1)) < (w64 (s2.2.2.1 - r85.1)))) rfl (fun hb90 => ?_) (fun hb90 => ?_)
            ·replace h := bif_t hb90 h
             refine c_seq (rg (sm (I (w64 (r85.1 - s2.2.1))) rfl (sm (I (w64 ((w64 (s2.2.2.1 - s2.2.1)).tdiv 8))) rfl (st (v := (B (decide ((w64 ((w64 (s2.2.2.1 - s2.2.1)).tdiv 8)) ≤ (w64 (r85.1 - s2.2.1)))))) (rv_geq (a := (w64 (r85.1 - s2.2.1))) (b := (w64 ((w64 (s2.2.2.1 - s2.2.1)).tdiv 8))) rfl rfl) (sa (B (decide ((w64 ((w64 (s2.2.2.1 - s2.2.1)).tdiv 8)) ≤ (w64 (r85.1 - s2.2.1))))) rfl (w_end (q_then (c_seq (rg (sm (Sl Db r85.2.2 Dc) rfl (sm (I s2.2.1) rfl ?_)))))))))))
             refine sm (I r85.1) rfl (sm (I o17.2) rfl (sm (.func (.func 72) #[] #[]) rfl ?_))
             revert h; refine br fun r91 hx92 h => ?_
             have hc93 := ih (Db := Db) (Dc := Dc) hx92
             refine st_call (cx_call hc93 (ent_f hc93.fn rfl) hn0 (H.sel' [0] rfl rfl : Hp S0 σ0 _ ([_] ++ _))) wn ?_
             rintro _ σ95 ⟨_, ⟨rfl, rfl, hn94⟩, H, -⟩
             replace H : Hp _ _ _ [_] := H
             have hsl : (Sl Db r85.2.2 Dc) = (Sl Db r91 Dc) := sl_len hn94.symm
             try rw [hsl]
             try rw [hsl] at H
             clear hsl
             refine w_end (q_then (rg (sm (I r85.1) rfl (st (v := (I (w64 (r85.1 + 1)))) (rv_add (a := r85.1) (b := 1) rfl rfl) (sa (I (w64 (r85.1 + 1))) rfl (w_end (q_blk (q_then ?_))))))))
             obtain rfl := sj h
             exact ⟨_, rfl, _, σ95, fr_join ⟨rfl, rfl, rfl, rfl, rfl, rfl, rfl, trivial⟩, rfl, H.sel' [0] rfl rfl, (hn94.trans (hn88.trans (hn53.trans (hn38.trans (hn25.trans hn4)))))⟩
            ·replace h := bif_f hb90 h
             refine c_seq (rg (sm (I (w64 (s2.2.2.1 - r85.1))) rfl (sm (I (w64 ((w64 (s2.2.2.1 - s2.2.1)).tdiv 8))) rfl (st (v := (B (decide ((w64 ((w64 (s2.2.2.1 - s2.2.1)).tdiv 8)) ≤ (w64 (s2.2.2.1 - r85.1)))))) (rv_geq (a := (w64 (s2.2.2.1 - r85.1))) (b := (w64 ((w64 (s2.2.2.1 - s2.2.1)).tdiv 8))) rfl rfl) (sa (B (decide ((w64 ((w64 (s2.2.2.1 - s2.2.1)).tdiv 8)) ≤ (w64 (s2.2.2.1 - r85.1))))) rfl (w_end (q_then (c_seq (rg (sm (Sl Db r85.2.2 Dc) rfl (sm (I r85.1) rfl ?_)))))))))))
             refine st (v := (I (w64 (r85.1 + 1)))) (rv_add (a := r85.1) (b := 1) rfl rfl) (sm (I s2.2.2.1) rfl (sm (I o17.2) rfl (sm (.func (.func 72) #[] #[]) rfl ?_)))
             revert h; refine br fun r96 hx97 h => ?_
             have hc98 := ih (Db := Db) (Dc := Dc) hx97
             refine st_call (cx_call hc98 (ent_f hc98.fn rfl) hn0 (H.sel' [0] rfl rfl : Hp S0 σ0 _ ([_] ++ _))) wn ?_
             rintro _ σ100 ⟨_, ⟨rfl, rfl, hn99⟩, H, -⟩
             replace H : Hp _ _ _ [_] := H
             have hsl : (Sl Db r85.2.2 Dc) = (Sl Db r96 Dc) := sl_len hn99.symm
             try rw [hsl]
             try rw [hsl] at H
             clear hsl
             refine w_end (q_then (rg (sm (I r85.1) rfl (sa (I r85.1) rfl (w_end (q_blk (q_then ?_)))))))
             obtain rfl := sj h
             exact ⟨_, rfl, _, σ100, fr_join ⟨rfl, rfl, rfl, rfl, rfl, rfl, rfl, trivial⟩, rfl, H.sel' [0] rfl rfl, (hn99.trans (hn88.trans (hn53.trans (hn38.trans (hn25.trans hn4)))))⟩
         ·replace h := selim_r h
          refine q_then_r (q_blk_r (q_then_r (q_blk_r ?_)))
          obtain rfl := sj h
          obtain rfl := hres _ rfl
          exact ⟨rfl, _, σ102, fr_join ⟨rfl, trivial⟩, rfl, H.sel' [0] rfl rfl, (hn103.trans (hn38.trans (hn25.trans hn4)))⟩
  ·clear hj
   have h := h'
   clear h' H
   rintro e a w ⟨rfl, ρ, σ104, rfl, rfl, H, hn105⟩
   obtain rfl := sj h
   exact fin_ret (v := (.tuple #[])) (results_ok Tryz.results121 res_nil rfl) ⟨rfl, rfl, hn105⟩ (H.sel' [0] rfl rfl)

theorem c_slices_SortFunc_impl_Hit_impl_Hit__impl_compareHits {Bj : List (Int × Int)} {Ee : Option Addr} {Ef : Nat} {r : (List (Int × Int))} (h : M.slices_SortFunc_impl_Hit_impl_Hit__impl_compareHits Bj = some r) :
    Cal2 Tryz.prog 97 [(Sl Ee Bj Ef), (.func (.func 72) #[] #[])] [Ch.own 0 0 (Sl Ee Bj Ef) Bj] (fun n0 v L => v = (.tuple #[]) ∧ L = [Ch.own 0 0 (Sl Ee r Ef) r] ∧ r.length = Bj.length) := by
 refine cal2 (n := 14) Tryz.func97 rfl rfl rfl rfl ?_
 intro S0 σ0 n0 hn0 H
 unfold M.slices_SortFunc_impl_Hit_impl_Hit__impl_compareHits at h
 refine c_seq (rg (sm (Sl Ee Bj Ef) rfl (st (v := (I (Bj.length : Int))) (rv_len Tryz.underlying27 rfl) (sa (I (Bj.length : Int)) rfl (w_end (q_then (rg (sm (Sl Ee Bj Ef) rfl (sm (I (Bj.length : Int)) rfl (sm (I (Bj.length : Int)) rfl (st (v := (.int .u64 (wk .u64 (Bj.length : Int)))) (rvk_conv (k := .i64) (k' := .u64) (a := (Bj.length : Int)) Tryz.underlying3 Tryz.underlying149 rfl) ?_)))))))))))
 revert h; refine br fun r1 hx2 h => ?_
 have hc3 := c_math_bits_Len hx2
 refine st_call (cx_call hc3 (ent_f hc3.fn rfl) hn0 (H.sel' [0] rfl rfl : Hp S0 σ0 _ ([] ++ _))) wn ?_
 rintro _ σ4 ⟨_, ⟨rfl, rfl⟩, H, -⟩
 replace H : Hp _ _ _ [_] := H
 refine sm (.func (.func 72) #[] #[]) rfl ?_
 revert h; refine br fun r5 hx6 h => ?_
 have hc7 := c_slices_pdqsortCmpFunc_impl_Hit__impl_compareHits 100 (Db := Ee) (Dc := Ef) hx6
 refine st_call (cx_call hc7 (ent_f hc7.fn rfl) hn0 (H.sel' [0] rfl rfl : Hp S0 σ0 _ ([_] ++ _))) wn ?_
 rintro _ σ9 ⟨_, ⟨rfl, rfl, hn8⟩, H, -⟩
 replace H : Hp _ _ _ [_] := H
 have hsl : (Sl Ee Bj Ef) = (Sl Ee r5 Ef) := sl_len hn8.symm
 try rw [hsl]
 try rw [hsl] at H
 clear hsl
 refine w_end ?_
 obtain rfl := sj h
 exact fin_end (v := (.tuple #[])) (results_ok Tryz.results97 res_nil rfl) ⟨rfl, rfl, hn8⟩ (H.sel' [0] rfl rfl)

theorem c_slices_SortedFunc_impl_Hit__slices_Values_impl_hitHeap_impl_Hit_1__impl_compareHits {Cp : List (Int × Int)} {Cq : Option Addr} {Cr : Nat} {Cs Ct Cu : Nat} {Cv Cw : List Value} {r : (List (Int × Int))} (h : M.slices_SortedFunc_impl_Hit__slices_Values_impl_hitHeap_impl_Hit_1__impl_compareHits Cp = some r) :
    Cal2 Tryz.prog 70 [(.func (.func 98) #[] #[(pt Ct Cu)]), (.func (.func 72) #[] #[])] [Ch.bx Cs Ct Cu [(Sl Cq Cp Cr)] Cv Cw, Ch.ro 0 (Sl Cq Cp Cr) Cp] (fun n0 v L => ∃ (az1 : Option Addr), ∃ (cz2 : Nat), v = (Sl az1 r cz2) ∧ L = [Ch.own 0 n0 (Sl az1 r cz2) r, Ch.bx Cs Ct Cu [(Sl Cq Cp Cr)] Cv Cw]) := by
 refine cal2 (n := 12) Tryz.func70 rfl rfl rfl rfl ?_
 intro S0 σ0 n0 hn0 H
 unfold M.slices_SortedFunc_impl_Hit__slices_Values_impl_hitHeap_impl_Hit_1__impl_compareHits at h
 refine c_seq (rg (sa (.slice none 0 0) rfl (w_end (q_then (c_seq (rg (sm (.func (.func 98) #[] #[(pt Ct Cu)]) rfl ?_)))))))
 revert h; refine br fun r1 hx2 h => ?_
 have hc3 := c_slices_Collect_impl_Hit__slices_Values_impl_hitHeap_impl_Hit_1 (Cs := Cs) (Ct := Ct) (Cu := Cu) (Cv := Cv) (Cw := Cw) (Cq := Cq) (Cr := Cr) hx2
 refine st_call (cx_call hc3 (ent_f hc3.fn rfl) hn0 (H.sel' [0, 1, 1] rfl rfl : Hp S0 σ0 _ ([_, _] ++ _))) wn ?_
 rintro _ σ6 ⟨_, ⟨a4, c5, rfl, rfl⟩, H, -⟩
 replace H : Hp _ _ _ [_, _, _] := H
 refine sa (Sl a4 r1 c5) rfl (w_end (q_then (c_seq (rg (sm (Sl a4 r1 c5) rfl (sm (.func (.func 72) #[] #[]) rfl ?_))))))
 replace H := H.ownLow 0 0 0 rfl (Nat.zero_le _) (Nat.zero_le _)
 revert h; refine br fun r7 hx8 h => ?_
 have hc9 := c_slices_SortFunc_impl_Hit_impl_Hit__impl_compareHits (Ee := a4) (Ef := c5) hx8
 refine st_call (cx_call hc9 (ent_f hc9.fn rfl) hn0 (H.sel' [0, 1, 2] rfl rfl : Hp S0 σ0 _ ([_] ++ _))) wn ?_
 rintro _ σ11 ⟨_, ⟨rfl, rfl, hn10⟩, H, -⟩
 replace H : Hp _ _ _ [_, _, _] := H
 have hsl : (Sl a4 r1 c5) = (Sl a4 r7 c5) := sl_len hn10.symm
 try rw [hsl]
 try rw [hsl] at H
 clear hsl
 refine w_end (q_then (c_seq (rg (sm (Sl a4 r7 c5) rfl (sa (Sl a4 r7 c5) rfl (w_end (q_then (c_ret ?_))))))))
 replace H := H.ownSc 0 0 n0 rfl (Nat.le_refl _)
 obtain rfl := sj h
 exact fin_ret (v := (Sl a4 r7 c5)) (results_ok Tryz.results70 (res_tmp (v := (Sl a4 r7 c5)) rfl res_nil) rfl) ⟨a4, c5, rfl, rfl⟩ (H.sel' [0, 1] rfl rfl)

theorem c_impl_nearestHits_inOrder {Bd : Int × (List (Int × Int))} {Eg : Option Addr} {Eh : Nat} {Ei Ej Ek : Nat} {El Em : List Value} {r : (List (Int × Int))} (h : M.impl_nearestHits_inOrder Bd = some r) :
    Cal2 Tryz.prog 35 [(pt Ej Ek)] [Ch.bx Ei Ej Ek [(I Bd.1), (Sl Eg Bd.2 Eh)] El Em, Ch.ro 0 (Sl Eg Bd.2 Eh) Bd.2] (fun n0 v L => ∃ (az1 : Option Addr), ∃ (cz2 : Nat), v = (Sl az1 r cz2) ∧ L = [Ch.own 0 n0 (Sl az1 r cz2) r, Ch.bx Ei Ej Ek [(I Bd.1), (Sl Eg Bd.2 Eh)] El Em]) := by
 refine cal2 (n := 9) Tryz.func35 rfl rfl rfl rfl ?_
 intro S0 σ0 n0 hn0 H
 unfold M.impl_nearestHits_inOrder at h
 refine c_seq (rg (sa (.slice none 0 0) rfl (w_end (q_then (c_seq (rg (sm (pt Ej Ek) rfl (st (v := (pt Ej Ek)) (rv_nilCheck rfl) (st (v := (pt Ej (Ek + 1))) (rv_fieldAddr (off := 1) (ft := 51) Tryz.underlying53 rfl ti51 rfl rfl) ?_)))))))))
 have hc1 := H.cell (u := (Sl Eg Bd.2 Eh)) (o' := (Ek + 1)) 0 1 rfl rfl rfl
 refine st (v := (Sl Eg Bd.2 Eh)) (rv_load1 Tryz.underlying51 rfl rfl hc1) ?_
 revert h; refine br fun r2 hx3 h => ?_
 have hc4 := c_slices_Values_impl_hitHeap_impl_Hit (Bz := Eg) (Ca := Eh) hx3
 refine st_call (cx_call hc4 (ent_f hc4.fn rfl) hn0 (H.sel' [1, 0, 1] rfl rfl : Hp S0 σ0 _ ([_] ++ _))) wn ?_
 rintro _ σ6 ⟨_, ⟨b5, rfl, rfl⟩, H, -⟩
 replace H : Hp _ _ _ [_, _, _] := H
 revert h; refine br fun r7 hx8 h => ?_
 have hc9 := c_slices_SortedFunc_impl_Hit__slices_Values_impl_hitHeap_impl_Hit_1__impl_compareHits (Cs := n0) (Ct := b5) (Cu := 0) (Cv := []) (Cw := []) (Cq := Eg) (Cr := Eh) hx8
 refine st_call (cx_call hc9 (ent_f hc9.fn rfl) hn0 (H.sel' [0, 2, 1, 2] rfl rfl : Hp S0 σ0 _ ([_, _] ++ _))) wn ?_
 rintro _ σ12 ⟨_, ⟨a10, c11, rfl, rfl⟩, H, -⟩
 replace H : Hp _ _ _ [_, _, _, _] := H
 refine sa (Sl a10 r7 c11) rfl (w_end (q_then (c_ret ?_)))
 obtain rfl := sj h
 exact fin_ret (v := (Sl a10 r7 c11)) (results_ok Tryz.results35 (res_tmp (v := (Sl a10 r7 c11)) rfl res_nil) rfl) ⟨a10, c11, rfl, rfl⟩ (H.sel' [0, 2] rfl rfl)

theorem c_impl_distanceOf {Bp : Int} {En : List Int} (Eo : En.length = 4) {r : Int} (h : M.impl_distanceOf Bp En = some r) :
    Cal2 Tryz.prog 94 [(I Bp), (.agg (List.map I En).toArray)] [] (fun n0 v L => v = (I r) ∧ L = []) := by
 refine cal2 (n := 38) Tryz.func94 rfl rfl rfl rfl ?_
 intro S0 σ0 n0 hn0 H
 unfold M.impl_distanceOf at h
 refine c_seq (rg (st_ex (ex_box (cs := (List.map I En)) H hn0 rfl rfl) wn ?_))
 rintro _ σ2 ⟨b1, rfl, H, -⟩
 refine sa (I 0) rfl (w_end (q_then (c_seq (rg (sa (I 0) rfl (w_end (q_then (c_seq (c_seq (rg ?_))))))))))
 have hc3 := H.cells 0 rfl
 refine st (v := (.agg (List.map I En).toArray)) (rv_load (cs := (List.map I En)) Tryz.underlying125 rfl ti125 rfl (by rw [List.length_map]; exact Eo) hc3) ?_
 refine sm (I 0) rfl (w_end (q_then ?_))
 obtain ⟨o4, hj, h'⟩ := bind_some h
 clear h
 refine c_cut (fun e a w => (∃ t, o4 = (.inl t) ∧ e = .normal ∧ ∃ (ρ : Nat → Value) (σ : St), a = fr 38 (updL ρ [(5, (I t))]) ∧ w = σ.w ∧ Hp S0 σ0 σ []) ∨ (∃ t, o4 = (.inr t) ∧ e = .ret ∧ ∃ (ρ : Nat → Value) (σ : St), a = fr 38 (updL ρ [(4, (I t))]) ∧ w = σ.w ∧ Hp S0 σ0 σ [])) ?_ ?_
 ·clear h'
  rename _ = some o4 => h
  refine c_blk (wp_loopM _ h (fun s5 a w => ∃ (ρ : Nat → Value) (σ : St), a = fr 38 (updL ρ [(0, (I Bp)), (5, (I s5.1)), (8, (.agg (List.map I En).toArray)), (9, (I s5.2))]) ∧ w = σ.w ∧ Hp S0 σ0 σ []) ⟨_, σ2, fr_join ⟨rfl, rfl, rfl, rfl, trivial⟩, rfl, H.sel' [] rfl rfl⟩ ?_)
  clear h H
  rintro s5 a w o ⟨ρ, σ6, rfl, rfl, H⟩ h hres
  refine c_seq (rg (st (v := (B (decide (s5.2 < 4)))) (rv_lss (a := s5.2) (b := 4) rfl rfl) (w_end (q_then (c_seq ?_)))))
  refine cd_cond (decide (s5.2 < 4)) rfl (fun hb7 => ?_) (fun hb7 => ?_)
  ·replace h := bif_t hb7 h
   refine c_skip (q_then (c_seq ?_))
   obtain ⟨o8, hj, h'⟩ := bind_some h
   clear h
   refine c_cut (fun e a w => (∃ t, o8 = (.inl t) ∧ e = .normal ∧ ∃ (ρ : Nat → Value) (σ : St), a = fr 38 (updL ρ [(0, (I Bp)), (5, (I t)), (8, (.agg (List.map I En).toArray)), (9, (I s5.2))]) ∧ w = σ.w ∧ Hp S0 σ0 σ []) ∨ (∃ t, o8 = (.inr t) ∧ e = .ret ∧ ∃ (ρ : Nat → Value) (σ : St), a = fr 38 (updL ρ [(4, (I t))]) ∧ w = σ.w ∧ Hp S0 σ0 σ [])) ?_ ?_
   ·clear h'
    rename _ = some o8 => h
    refine c_blk (c_seq (rg ?_))
    revert h; refine br fun x9 hx10 h => ?_
    refine st (v := (I x9)) (rv_idx Tryz.underlying125 ti3 Tryz.underlying3 rfl rfl hx10 Eo) (sa (I x9) rfl (w_end (q_then (c_seq (rg (sm (I Bp) rfl (w_end (q_then (c_blk (c_seq (rg ?_)))))))))))
    refine st (v := (B (Bp == 1))) (rv_eql (a := Bp) (b := 1) rfl rfl) (sa (B (Bp == 1)) rfl (w_end (q_then ?_)))
    refine cd_cond (Bp == 1) rfl (fun hb11 => ?_) (fun hb11 => ?_)
    ·replace h := bif_t hb11 h
     refine rg (sm (I s5.1) rfl (sm (I x9) rfl (st (v := (I (w64 (s5.1 + x9)))) (rv_add (a := s5.1) (b := x9) rfl rfl) (sa (I (w64 (s5.1 + x9))) rfl (w_end (q_blk (q_blk ?_)))))))
     obtain rfl := sj h
     exact .inl ⟨_, rfl, rfl, _, σ6, fr_join ⟨rfl, rfl, rfl, rfl, trivial⟩, rfl, H.sel' [] rfl rfl⟩
    ·replace h := bif_f hb11 h
     refine c_seq (rg (st (v := (B (Bp == 2))) (rv_eql (a := Bp) (b := 2) rfl rfl) (sa (B (Bp == 2)) rfl (w_end (q_then ?_)))))
     refine cd_cond (Bp == 2) rfl (fun hb12 => ?_) (fun hb12 => ?_)
     ·replace h := bif_t hb12 h
      refine rg (sm (I s5.1) rfl (sm (I x9) rfl (st (v := (I (max s5.1 x9))) (rv_max rfl rfl) (sa (I (max s5.1 x9)) rfl (w_end (q_blk (q_blk ?_)))))))
      obtain rfl := sj h
      exact .inl ⟨_, rfl, rfl, _, σ6, fr_join ⟨rfl, rfl, rfl, rfl, trivial⟩, rfl, H.sel' [] rfl rfl⟩
     ·replace h := bif_f hb12 h
      refine c_seq (rg (st (v := (B (Bp == 3))) (rv_eql (a := Bp) (b := 3) rfl rfl) (sa (B (Bp == 3)) rfl (w_end (q_then ?_)))))
      refine cd_cond (Bp == 3) rfl (fun hb13 => ?_) (fun hb13 => ?_)
      ·replace h := bif_t hb13 h
       refine rg (sm (I s5.1) rfl (sm (I x9) rfl (sm (I x9) rfl (st (v := (I (w64 (x9 * x9)))) (rv_mul (a := x9) (b := x9) rfl rfl) (st (v := (I (w64 (s5.1 + (w64 (x9 * x9)))))) (rv_add (a := s5.1) (b := (w64 (x9 * x9))) rfl rfl) (sa (I (w64 (s5.1 + (w64 (x9 * x9))))) rfl (w_end (q_blk (q_blk ?_)))))))))
       obtain rfl := sj h
       exact .inl ⟨_, rfl, rfl, _, σ6, fr_join ⟨rfl, rfl, rfl, rfl, trivial⟩, rfl, H.sel' [] rfl rfl⟩
      ·replace h := bif_f hb13 h
       refine c_seq (rg (st (v := (B (Bp == 4))) (rv_eql (a := Bp) (b := 4) rfl rfl) (sa (B (Bp == 4)) rfl (w_end (q_then ?_)))))
       refine cd_cond (Bp == 4) rfl (fun hb14 => ?_) (fun hb14 => ?_)
       ·replace h := bif_t hb14 h
        refine rg (sm (I s5.1) rfl (sm (I x9) rfl (st (v := (I (min x9 1))) (rv_min rfl rfl) (st (v := (I (w64 (s5.1 + (min x9 1))))) (rv_add (a := s5.1) (b := (min x9 1)) rfl rfl) (sa (I (w64 (s5.1 + (min x9 1)))) rfl (w_end (q_blk (q_blk ?_))))))))
        obtain rfl := sj h
        exact .inl ⟨_, rfl, rfl, _, σ6, fr_join ⟨rfl, rfl, rfl, rfl, trivial⟩, rfl, H.sel' [] rfl rfl⟩
       ·replace h := bif_f hb14 h
        refine c_seq (rg (sa (I (-1)) rfl (w_end (q_then (c_ret (q_blk_r (q_blk_r ?_)))))))
        obtain rfl := sj h
        exact .inr (⟨_, rfl, rfl, _, σ6, fr_join ⟨rfl, trivial⟩, rfl, H.sel' [] rfl rfl⟩)
   ·clear hj
    have h := h'
    clear h' H
    rintro e a w (⟨t15, rfl, rfl, ρ, σ16, rfl, rfl, H⟩ | ⟨t17, rfl, rfl, ρ, σ18, rfl, rfl, H⟩)
    ·replace h := selim_l h
     refine q_then (rg (st (v := (I (w64 (s5.2 + 1)))) (rv_add (a := s5.2) (b := 1) rfl rfl) (sm (I (w64 (s5.2 + 1))) rfl (w_end (q_then ?_)))))
     obtain rfl := sj h
     exact ⟨_, rfl, _, σ16, fr_join ⟨rfl, rfl, rfl, rfl, trivial⟩, rfl, H.sel' [] rfl rfl⟩
    ·replace h := selim_r h
     refine q_then_r (q_then_r (q_blk_r ?_))
     obtain rfl := sj h
     obtain rfl := hres _ rfl
     exact .inr (⟨_, rfl, rfl, _, σ18, fr_join ⟨rfl, trivial⟩, rfl, H.sel' [] rfl rfl⟩)
  ·replace h := bif_f hb7 h
   refine c_exit (q_then_x (q_then_x (q_blk_hit ?_)))
   obtain rfl := sj h
   obtain rfl := hres _ rfl
   exact .inl ⟨_, rfl, rfl, _, σ6, fr_join ⟨rfl, trivial⟩, rfl, H.sel' [] rfl rfl⟩
 ·clear hj
  have h := h'
  clear h' H
  rintro e a w (⟨t19, rfl, rfl, ρ, σ20, rfl, rfl, H⟩ | ⟨t21, rfl, rfl, ρ, σ22, rfl, rfl, H⟩)
  ·replace h := selim_l h
   refine q_then (c_seq (rg (sm (I t19) rfl (sa (I t19) rfl (w_end (q_then (c_ret ?_)))))))
   obtain rfl := sj h
   exact fin_ret (v := (I t19)) (results_ok Tryz.results94 (res_tmp (v := (I t19)) rfl res_nil) rfl) ⟨rfl, rfl⟩ (H.sel' [] rfl rfl)
  ·replace h := selim_r h
   refine q_then_r ?_
   obtain rfl := sj h
   exact fin_ret (v := (I t21)) (results_ok Tryz.results94 (res_tmp (v := (I t21)) rfl res_nil) rfl) ⟨rfl, rfl⟩ (H.sel' [] rfl rfl)

theorem c_impl_gapsOf {Aa : List Int} {Ac : List Int} (Ep : Aa.length = 4) (Er : Ac.length = 4) {r : (List Int)} (h : M.impl_gapsOf Aa Ac = some r) :
    Cal2 Tryz.prog 95 [(.agg (List.map I Aa).toArray), (.agg (List.map I Ac).toArray)] [] (fun n0 v L => v = (.agg (List.map I r).toArray) ∧ L = [] ∧ r.length = 4) := by
 refine cal2 (n := 29) Tryz.func95 rfl rfl rfl rfl ?_
 intro S0 σ0 n0 hn0 H
 unfold M.impl_gapsOf at h
 refine c_seq (rg (st_ex (ex_box (cs := (List.map I Aa)) H hn0 rfl rfl) wn ?_))
 rintro _ σ2 ⟨b1, rfl, H, -⟩
 refine st_ex (ex_box (cs := (List.map I Ac)) H hn0 rfl rfl) wn ?_
 rintro _ σ4 ⟨b3, rfl, H, -⟩
 refine st_ex (ex_alloc (cs := (List.map I (List.replicate 4 0))) H hn0 ti125 rfl) wn ?_
 rintro _ σ6 ⟨b5, rfl, H, -⟩
 refine w_end (q_then (c_seq (rg (st_ex (ex_alloc (cs := (List.map I (List.replicate 4 0))) H hn0 ti125 rfl) wn ?_))))
 rintro _ σ8 ⟨b7, rfl, H, -⟩
 refine w_end (q_then (c_seq (c_seq (rg (sm (I 0) rfl (w_end (q_then ?_)))))))
 obtain ⟨o9, hj, h'⟩ := bind_some h
 clear h
 refine c_cut (fun e a w => e = .normal ∧ ∃ (ρ : Nat → Value) (σ : St), a = fr 29 (updL ρ [(4, (pt b5 0)), (5, (pt b7 0))]) ∧ w = σ.w ∧ Hp S0 σ0 σ [Ch.bx n0 b7 0 (List.map I o9) [] [], Ch.bx n0 b5 0 (List.map I (List.replicate 4 0)) [] []] ∧ o9.length = 4) ?_ ?_
 ·clear h'
  rename _ = some o9 => h
  refine c_blk (wp_loopM _ h (fun s10 a w => ∃ (ρ : Nat → Value) (σ : St), a = fr 29 (updL ρ [(2, (pt b1 0)), (3, (pt b3 0)), (4, (pt b5 0)), (5, (pt b7 0)), (7, (I s10.2))]) ∧ w = σ.w ∧ Hp S0 σ0 σ [Ch.bx n0 b7 0 (List.map I s10.1) [] [], Ch.bx n0 b1 0 (List.map I Aa) [] [], Ch.bx n0 b3 0 (List.map I Ac) [] [], Ch.bx n0 b5 0 (List.map I (List.replicate 4 0)) [] []] ∧ s10.1.length = 4) ⟨_, σ8, fr_join ⟨rfl, rfl, rfl, rfl, rfl, trivial⟩, rfl, H.sel' [0, 3, 2, 1] rfl rfl, rfl⟩ ?_)
  clear h H
  rintro s10 a w o ⟨ρ, σ11, rfl, rfl, H, hl12⟩ h hres
  refine c_seq (rg (st (v := (B (decide (s10.2 < 4)))) (rv_lss (a := s10.2) (b := 4) rfl rfl) (w_end (q_then (c_seq ?_)))))
  refine cd_cond (decide (s10.2 < 4)) rfl (fun hb13 => ?_) (fun hb13 => ?_)
  ·replace h := bif_t hb13 h
   refine c_skip (q_then (c_seq (c_blk (c_seq (rg (sm (I s10.2) rfl (sa (I s10.2) rfl (w_end (q_then ?_)))))))))
   refine rgP (σ := σ11) 16 (by kernel_rfl) (by kernel_rfl) (by kernel_rfl) ?_
   refine sq (v := (I s10.2)) (rv_move rfl) (sq (v := (I s10.2)) (rv_move rfl) ?_)
   revert h; refine br fun x14 hx15 h => ?_
   have hl16 := gidx_lt hx15 Ep
   refine sq (v := (pt b1 (0 + s10.2.toNat * 1))) (rv_indexAddr_array Tryz.underlying125 ti3 rfl rfl hl16.1 hl16.2) ?_
   have hc17 := Hp.arrCell H 1 rfl hx15
   refine sq (v := (I x14)) (rv_load1 Tryz.underlying3 rfl rfl hc17) (sq (v := (I s10.2)) (rv_move rfl) ?_)
   revert h; refine br fun x18 hx19 h => ?_
   have hl20 := gidx_lt hx19 Er
   refine sq (v := (pt b3 (0 + s10.2.toNat * 1))) (rv_indexAddr_array Tryz.underlying125 ti3 rfl rfl hl20.1 hl20.2) ?_
   have hc21 := Hp.arrCell H 2 rfl hx19
   refine sq (v := (I x18)) (rv_load1 Tryz.underlying3 rfl rfl hc21) (sq (v := (I (w64 (x14 - x18)))) (rv_sub (a := x14) (b := x18) rfl rfl) (sq (v := (I s10.2)) (rv_move rfl) ?_))
   revert h; refine br fun x22 hx23 h => ?_
   have hl24 := gidx_lt hx23 Er
   refine sq (v := (pt b3 (0 + s10.2.toNat * 1))) (rv_indexAddr_array Tryz.underlying125 ti3 rfl rfl hl24.1 hl24.2) ?_
   have hc25 := Hp.arrCell H 2 rfl hx23
   refine sq (v := (I x22)) (rv_load1 Tryz.underlying3 rfl rfl hc25) (sq (v := (I s10.2)) (rv_move rfl) ?_)
   revert h; refine br fun x26 hx27 h => ?_
   have hl28 := gidx_lt hx27 Ep
   refine sq (v := (pt b1 (0 + s10.2.toNat * 1))) (rv_indexAddr_array Tryz.underlying125 ti3 rfl rfl hl28.1 hl28.2) ?_
   have hc29 := Hp.arrCell H 1 rfl hx27
   refine sq (v := (I x26)) (rv_load1 Tryz.underlying3 rfl rfl hc29) (sq (v := (I (w64 (x22 - x26)))) (rv_sub (a := x22) (b := x26) rfl rfl) (sq (v := (I (max (w64 (x14 - x18)) (w64 (x22 - x26))))) (rv_max rfl rfl) (sq_end ?_)))
   intro σ30 hm31
   replace H := H.grow (hm31.mono fun _ h => h); clear hm31
   revert h; refine br fun x32 hx33 h => ?_
   have hl34 := gidx_lt hx33 hl12
   refine st (v := (pt b7 (0 + s10.2.toNat * 1))) (rv_indexAddr_array Tryz.underlying125 ti3 rfl rfl hl34.1 hl34.2) ?_
   have hl35 := gidx_lt hx33 hl12
   refine st_exS (ex_store_box (k := s10.2.toNat * 1) (vs := [(I (max (w64 (x14 - x18)) (w64 (x22 - x26))))]) (cs' := (List.map I (s10.1.set s10.2.toNat (max (w64 (x14 - x18)) (w64 (x22 - x26)))))) H (i := 0) rfl ti3 rfl rfl rfl rfl rfl (by rw [List.length_map, hl12]; simp; omega) (by simp [plain]) (arr_set' _ _ _)) wn ?_
   rintro σ36 ⟨H, -⟩
   refine w_end (q_blk (q_then (rg (st (v := (I (w64 (s10.2 + 1)))) (rv_add (a := s10.2) (b := 1) rfl rfl) (sm (I (w64 (s10.2 + 1))) rfl (w_end (q_then ?_)))))))
   obtain rfl := sj h
   exact ⟨_, rfl, _, σ36, fr_join ⟨rfl, rfl, rfl, rfl, rfl, trivial⟩, rfl, H.sel' [0, 1, 2, 3] rfl rfl, (set_len hl12)⟩
  ·replace h := bif_f hb13 h
   refine c_exit (q_then_x (q_then_x (q_blk_hit ?_)))
   obtain rfl := sj h
   obtain rfl := hres _ rfl
   exact ⟨rfl, _, σ11, fr_join ⟨rfl, rfl, trivial⟩, rfl, H.sel' [0, 3] rfl rfl, hl12⟩
 ·clear hj
  have h := h'
  clear h' H
  rintro e a w ⟨rfl, ρ, σ37, rfl, rfl, H, hl38⟩
  refine q_then (c_seq (rg ?_))
  have hc39 := H.cells 0 rfl
  refine st (v := (.agg (List.map I o9).toArray)) (rv_load (cs := (List.map I o9)) Tryz.underlying125 rfl ti125 rfl (by rw [List.length_map]; exact hl38) hc39) ?_
  refine st_exS (ex_store_box (k := 0) (cs := (List.map I (List.replicate 4 0))) (vs := (List.map I o9)) (cs' := (List.map I o9)) H (i := 1) rfl ti125 rfl rfl rfl rfl ((List.length_map _).trans hl38) (arr_fits (k := 4) hl38 rfl) (plain_ints _) (arr_all (k := 4) hl38 rfl)) wn ?_
  rintro σ40 ⟨H, -⟩
  refine w_end (q_then (c_ret ?_))
  obtain rfl := sj h
  exact fin_ret (v := (.agg (List.map I o9).toArray)) (results_ok Tryz.results95 (res_cell rfl (run_cellRes (cs := (List.map I o9)) Tryz.underlying125 rfl ti125 (by rw [List.length_map]; exact hl38) (H.cells 0 rfl)) res_nil) rfl) ⟨rfl, rfl, hl38⟩ (H.sel' [] rfl rfl)

theorem c_impl_Distance {Bp : Int} {Cz : List Int} {Da : List Int} {Es : Option Addr} {Et : Nat} {Eu : Option Addr} {Ev : Nat} {r : Int} (h : M.impl_Distance Bp Cz Da = some r) :
    Cal2 Tryz.prog 69 [(I Bp), (Sl Es Cz Et), (Sl Eu Da Ev)] [Ch.ro 0 (Sl Es Cz Et) Cz, Ch.ro 0 (Sl Eu Da Ev) Da] (fun n0 v L => v = (I r) ∧ L = []) := by
 refine cal2 (n := 24) Tryz.func69 rfl rfl rfl rfl ?_
 intro S0 σ0 n0 hn0 H
 unfold M.impl_Distance at h
 refine c_seq (rg (sa (I 0) rfl (w_end (q_then (c_seq (c_seq ?_))))))
 obtain ⟨o1, hj, h'⟩ := bind_some h
 clear h
 refine c_cut (fun e a w => e = .normal ∧ ∃ (ρ : Nat → Value) (σ : St), a = fr 24 (updL ρ [(0, (I Bp)), (1, (Sl Es Cz Et)), (2, (Sl Eu Da Ev)), (14, (B o1))]) ∧ w = σ.w ∧ Hp S0 σ0 σ [Ch.ro 0 (Sl Es Cz Et) Cz, Ch.ro 0 (Sl Eu Da Ev) Da]) ?_ ?_
 ·clear h'
  rename _ = some o1 => h
  refine rg (sm (Sl Es Cz Et) rfl ?_)
  revert h; refine br fun r2 hx3 h => ?_
  have hc4 := c_impl_ValidVector (Bh := Es) (Bi := Et) hx3
  refine st_call (cx_call hc4 (ent_f hc4.fn rfl) hn0 (H.sel' [0, 0, 1] rfl rfl : Hp S0 σ0 _ ([_] ++ _))) wn ?_
  rintro _ σ5 ⟨_, ⟨rfl, rfl⟩, H, -⟩
  replace H : Hp _ _ _ [_, _] := H
  refine st (v := (B (!r2))) (rv_not rfl) (sm (B (!r2)) rfl ?_)
  rcases Bool.eq_false_or_eq_true (!r2) with hb6 | hb6
  ·replace h := bif_t hb6 h
   refine st_skip (congrArg some hb6) (st_skip (congrArg some hb6) (st_skip (congrArg some hb6) (st (v := (B true)) (rv_pick_t (congrArg B hb6) rfl) (w_end ?_))))
   obtain rfl := sj h
   exact ⟨rfl, _, σ5, fr_join ⟨rfl, rfl, rfl, rfl, trivial⟩, rfl, H.sel' [0, 1] rfl rfl⟩
  ·replace h := bif_f hb6 h
   refine st_g (v := (Sl Eu Da Ev)) (congrArg some hb6) (rv_move rfl) ?_
   revert h; refine br fun r7 hx8 h => ?_
   have hc9 := c_impl_ValidVector (Bh := Eu) (Bi := Ev) hx8
   refine st_call (cx_call hc9 (ent_f hc9.fn rfl) hn0 (H.sel' [1, 0, 1] rfl rfl : Hp S0 σ0 _ ([_] ++ _))) (wanted_yes rfl (by exact (congrArg some hb6))) ?_
   rintro _ σ10 ⟨_, ⟨rfl, rfl⟩, H, -⟩
   replace H : Hp _ _ _ [_, _] := H
   refine st_g (v := (B (!r7))) (congrArg some hb6) (rv_not rfl) (st (v := (B (!r7))) (rv_pick_f (congrArg B hb6) rfl) (w_end ?_))
   obtain rfl := sj h
   exact ⟨rfl, _, σ10, fr_join ⟨rfl, rfl, rfl, rfl, trivial⟩, rfl, H.sel' [0, 1] rfl rfl⟩
 ·clear hj
  have h := h'
  clear h' H
  rintro e a w ⟨rfl, ρ, σ11, rfl, rfl, H⟩
  refine q_then ?_
  refine cd_cond o1 rfl (fun hb12 => ?_) (fun hb12 => ?_)
  ·replace h := bif_t hb12 h
   refine c_seq (rg (sa (I (-1)) rfl (w_end (q_then (c_ret (q_then_r ?_))))))
   obtain rfl := sj h
   exact fin_ret (v := (I (-1))) (results_ok Tryz.results69 (res_tmp (v := (I (-1))) rfl res_nil) rfl) ⟨rfl, rfl⟩ (H.sel' [] rfl rfl)
  ·replace h := bif_f hb12 h
   refine c_skip (q_then (c_seq ?_))
   revert h; refine br fun xs13 hx14 h => ?_
   obtain ⟨hl18, hq19⟩ := garr_some hx14
   clear hx14 hq19
   obtain ⟨b15, o16, rfl, hc17⟩ := (H.ro 0 rfl).arr (Nat.lt_of_lt_of_le (by decide) hl18)
   revert h; refine br fun xs20 hx21 h => ?_
   obtain ⟨hl25, hq26⟩ := garr_some hx21
   clear hx21 hq26
   obtain ⟨b22, o23, rfl, hc24⟩ := (H.ro 1 rfl).arr (Nat.lt_of_lt_of_le (by decide) hl25)
   revert h; refine br fun r27 hx28 h => ?_
   have hc29 := c_impl_gapsOf (by rw [List.length_take]; have := hl18; omega) (by rw [List.length_take]; have := hl25; omega) hx28
   have Hs := H
   refine rg2 (σ := σ11) (Nm := Unit) 8 [7] [[false], [true]] [[(0, 0), (1, 1)], [(0, 0)], [(0, 0)], [(0, 0)], [(0, 0)], [(0, 0)], [(0, 0)], [(0, 1)]] 1 [fun _ => fun σm => Hp S0 σ0 σm [Ch.ro 0 (Sl (some ⟨b15, o16, none⟩) Cz Et) Cz, Ch.ro 0 (Sl (some ⟨b22, o23, none⟩) Da Ev) Da] ∧ Md (cov []) σ11 σm, fun _ => fun σm => Hp S0 σ0 σm [Ch.ro 0 (Sl (some ⟨b15, o16, none⟩) Cz Et) Cz, Ch.ro 0 (Sl (some ⟨b22, o23, none⟩) Da Ev) Da] ∧ Md (cov []) σ11 σm ∧ r27.length = 4] [fun _ => (I Bp), fun _ => (Sl (some ⟨b15, o16, none⟩) Cz Et), fun _ => (.pointer (some ⟨b15, o16, none⟩)), fun _ => (.agg (List.map I (List.take 4 Cz)).toArray), fun _ => (Sl (some ⟨b22, o23, none⟩) Da Ev), fun _ => (.pointer (some ⟨b22, o23, none⟩)), fun _ => (.agg (List.map I (List.take 4 Da)).toArray), fun _ => (.agg (List.map I r27).toArray)] () (by kernel_rfl) (by kernel_rfl) ?_ ?_ ?_
   ·intro σm m0
    exact ⟨H.grow (m0.mono fun _ h => h.elim), m0⟩
   ·refine ac rfl (by
      intro k _nm ρ σm hJ hoff hdep
      have e0 := look_off (N := 24) (hoff 0 rfl) rfl
      exact dp_v (v := (I Bp)) wn (rv_move e0) rfl hJ) ?_
    refine ac rfl (by
      intro k _nm ρ σm hJ hoff hdep
      have e1 := look_off (N := 24) (hoff 1 rfl) rfl
      exact dp_v (v := (Sl (some ⟨b15, o16, none⟩) Cz Et)) wn (rv_move e1) rfl hJ) ?_
    refine ac rfl (by
      intro k _nm ρ σm hJ hoff hdep
      have e16 := hdep 1 rfl rfl 16 rfl
      exact dp_v (v := (.pointer (some ⟨b15, o16, none⟩))) wn (rv_arrPtr Tryz.underlying125 e16 hl18) rfl hJ) ?_
    refine all_cons (by
      refine ⟨?_, ?_⟩
      ·intro _nm ρ σm hJ hoff hdep
       have e17 := hdep 2 rfl rfl 17 rfl
       obtain ⟨H, m⟩ := id hJ
       replace hc17 := (Hs.ro 0 rfl).arr_md hc17 m
       exact dp_v (v := (.agg (List.map I (List.take 4 Cz)).toArray)) wn (rv_load (cs := List.map I (List.take 4 Cz)) Tryz.underlying125 rfl ti125 e17 (by rw [List.length_map, List.length_take]; have := hl18; omega) (arr_take hc17)) rfl hJ
      trivial) ?_
    refine ac rfl (by
      intro k _nm ρ σm hJ hoff hdep
      have e2 := look_off (N := 24) (hoff 2 rfl) rfl
      exact dp_v (v := (Sl (some ⟨b22, o23, none⟩) Da Ev)) wn (rv_move e2) rfl hJ) ?_
    refine ac rfl (by
      intro k _nm ρ σm hJ hoff hdep
      have e19 := hdep 4 rfl rfl 19 rfl
      exact dp_v (v := (.pointer (some ⟨b22, o23, none⟩))) wn (rv_arrPtr Tryz.underlying125 e19 hl25) rfl hJ) ?_
    refine all_cons (by
      refine ⟨?_, ?_⟩
      ·intro _nm ρ σm hJ hoff hdep
       have e20 := hdep 5 rfl rfl 20 rfl
       obtain ⟨H, m⟩ := id hJ
       replace hc24 := (Hs.ro 1 rfl).arr_md hc24 m
       exact dp_v (v := (.agg (List.map I (List.take 4 Da)).toArray)) wn (rv_load (cs := List.map I (List.take 4 Da)) Tryz.underlying125 rfl ti125 e20 (by rw [List.length_map, List.length_take]; have := hl25; omega) (arr_take hc24)) rfl hJ
      trivial) ?_
    refine all_cons (by
      refine ⟨?_, ?_⟩
      ·intro _nm ρ σm hJ hoff hdep
       have e18 : look 24 ρ 18 = (.agg (List.map I (List.take 4 Cz)).toArray) := hdep 3 rfl rfl 18 rfl
       have e21 : look 24 ρ 21 = (.agg (List.map I (List.take 4 Da)).toArray) := hdep 6 rfl rfl 21 rfl
       obtain ⟨H, m⟩ := id hJ
       refine dp_cx wn (cx_call hc29 (ent_f hc29.fn (by show [look 24 ρ 18, look 24 ρ 21] = _; rw [e18, e21])) hn0 (H.sel' [0, 1] rfl rfl : Hp S0 σ0 _ ([] ++ _))) ?_
       rintro _ σq ⟨_, ⟨rfl, rfl, hl30⟩, H2, m2⟩
       exact ⟨_, (), rfl, rfl, ⟨H2.sel' [0, 1] rfl rfl, m.comp0 m2, hl30⟩, stab [0, 1, 2, 3, 4, 5, 6] (by kernel_rfl) ⟨rfl, rfl, rfl, rfl, rfl, rfl, rfl, trivial⟩⟩
      trivial) ?_
    exact all_nil
   ·intro _nm ρ σ31 hJ hoff hrel
    have e15 := hrel 0 rfl 15 rfl
    have e22 := hrel 7 rfl 22 rfl
    obtain ⟨H, -, hl30⟩ := (show Hp S0 σ0 σ31 [Ch.ro 0 (Sl (some ⟨b15, o16, none⟩) Cz Et) Cz, Ch.ro 0 (Sl (some ⟨b22, o23, none⟩) Da Ev) Da] ∧ Md (cov []) σ11 σ31 ∧ r27.length = 4 from hJ)
    clear hJ Hs
    rw [fr_lookL (L := [(15, (I Bp)), (22, (.agg (List.map I r27).toArray))]) ⟨e15, e22, trivial⟩]
    clear hoff hrel e15 e22
    revert h; refine br fun r32 hx33 h => ?_
    have hc34 := c_impl_distanceOf hl30 hx33
    refine st_call (cx_call hc34 (ent_f hc34.fn rfl) hn0 (H.sel' [0, 1] rfl rfl : Hp S0 σ0 _ ([] ++ _))) wn ?_
    rintro _ σ35 ⟨_, ⟨rfl, rfl⟩, H, -⟩
    replace H : Hp _ _ _ [_, _] := H
    refine sa (I r32) rfl (w_end (q_then (c_ret ?_)))
    obtain rfl := sj h
    exact fin_ret (v := (I r32)) (results_ok Tryz.results69 (res_tmp (v := (I r32)) rfl res_nil) rfl) ⟨rfl, rfl⟩ (H.sel' [] rfl rfl)

end Go.Vs
