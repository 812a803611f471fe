/- The functions compute what their models say. -/
import Derived.Test.YtefojfippfoppabGreatKExactProbeNearestC3
set_option linter.unusedVariables false
set_option linter.unusedSimpArgs false
set_option maxRecDepth 20000
namespace Go.Vs
open Go Go.Proofs
attribute [local irreducible] Code.wp Code.wpIn wpList wpListIn wpQuiet Calls CallsIn

theorem c_slices_heapSortCmpFunc_impl_Hit__impl_compareHits {Ek : List (Int × Int)} {Bf : Int} {Bg : Int} {El : Option Addr} {Em : Nat} {r : (List (Int × Int))} (h : M.slices_heapSortCmpFunc_impl_Hit__impl_compareHits Ek Bf Bg = some r) :
    Cal2 Tryz.prog 85 [(Sl El Ek Em), (I Bf), (I Bg), (.func (.func 61) #[] #[])] [Ch.own 0 0 (Sl El Ek Em) Ek] (fun n0 v L => v = (.tuple #[]) ∧ L = [Ch.own 0 0 (Sl El r Em) r] ∧ r.length = Ek.length) := by
 refine cal2 (n := 60) Tryz.func85 rfl rfl rfl rfl ?_
 intro S0 σ0 n0 hn0 H
 unfold M.slices_heapSortCmpFunc_impl_Hit__impl_compareHits at h
 refine c_seq (rg (sm (I Bf) rfl (sa (I Bf) rfl (w_end (q_then (c_seq (rg (sa (I 0) rfl (w_end (q_then (c_seq ?_)))))))))))
 refine rg (sm (I Bg) rfl (sm (I Bf) rfl (st (v := (I (w64 (Bg - Bf)))) (rv_sub (a := Bg) (b := Bf) rfl rfl) (sa (I (w64 (Bg - Bf))) rfl (w_end (q_then (c_seq (c_seq (rg (sm (I (w64 (Bg - Bf))) rfl (st (v := (I (w64 ((w64 (Bg - Bf)) - 1)))) (rv_sub (a := (w64 (Bg - Bf))) (b := 1) rfl rfl) ?_)))))))))))
 refine st (v := (I (w64 ((w64 ((w64 (Bg - Bf)) - 1)).tdiv 2)))) (rv_quo (a := (w64 ((w64 (Bg - Bf)) - 1))) (b := 2) rfl rfl (by decide)) ?_
 refine sa (I (w64 ((w64 ((w64 (Bg - Bf)) - 1)).tdiv 2))) rfl (w_end (q_then ?_))
 obtain ⟨o1, hj, h'⟩ := bind_some h
 clear h
 refine c_cut (fun e a w => e = .normal ∧ ∃ (ρ : Nat → Value) (σ : St), a = fr 60 (updL ρ [(0, (Sl El o1 Em)), (3, (.func (.func 61) #[] #[])), (8, (I Bf)), (9, (I 0)), (10, (I (w64 (Bg - Bf))))]) ∧ w = σ.w ∧ Hp S0 σ0 σ [Ch.own 0 0 (Sl El o1 Em) o1] ∧ o1.length = Ek.length) ?_ ?_
 ·clear h'
  rename _ = some o1 => h
  refine c_blk (wp_loopM _ h (fun s2 a w => ∃ (ρ : Nat → Value) (σ : St), a = fr 60 (updL ρ [(0, (Sl El s2.1 Em)), (3, (.func (.func 61) #[] #[])), (8, (I Bf)), (9, (I 0)), (10, (I (w64 (Bg - Bf)))), (11, (I s2.2))]) ∧ w = σ.w ∧ Hp S0 σ0 σ [Ch.own 0 0 (Sl El s2.1 Em) s2.1] ∧ s2.1.length = Ek.length) ⟨_, σ0, fr_join ⟨rfl, rfl, rfl, rfl, rfl, rfl, trivial⟩, rfl, H.sel' [0] rfl rfl, rfl⟩ ?_)
  clear h H
  rintro s2 a w o ⟨ρ, σ3, rfl, rfl, H, hn4⟩ h hres
  refine c_seq (c_seq (rg (sm (I s2.2) rfl (st (v := (B (decide (0 ≤ s2.2)))) (rv_geq (a := s2.2) (b := 0) rfl rfl) (w_end (q_then ?_))))))
  refine cd_cond (decide (0 ≤ s2.2)) rfl (fun hb5 => ?_) (fun hb5 => ?_)
  ·replace h := bif_t hb5 h
   refine c_skip (q_then (c_seq (c_blk (rg (sm (Sl El s2.1 Em) rfl (sm (I s2.2) rfl (sm (I (w64 (Bg - Bf))) rfl (sm (I Bf) rfl (sm (.func (.func 61) #[] #[]) rfl ?_)))))))))
   revert h; refine br fun r6 hx7 h => ?_
   have hc8 := c_slices_siftDownCmpFunc_impl_Hit__impl_compareHits (El := El) (Em := Em) hx7
   refine st_call (cx_call hc8 (ent_f hc8.fn rfl) hn0 (H.sel' [0] rfl rfl : Hp S0 σ0 _ ([_] ++ _))) wn ?_
   rintro _ σ10 ⟨_, ⟨rfl, rfl, hn9⟩, H, -⟩
   replace H : Hp _ _ _ [_] := H
   have hsl : (Sl El s2.1 Em) = (Sl El r6 Em) := sl_len hn9.symm
   try rw [hsl]
   try rw [hsl] at H
   clear hsl
   refine w_end (q_blk (q_then (rg (sm (I s2.2) rfl (st (v := (I (w64 (s2.2 - 1)))) (rv_sub (a := s2.2) (b := 1) rfl rfl) (sa (I (w64 (s2.2 - 1))) rfl (w_end (q_then ?_))))))))
   obtain rfl := sj h
   exact ⟨_, rfl, _, σ10, fr_join ⟨rfl, rfl, rfl, rfl, rfl, rfl, trivial⟩, rfl, H.sel' [0] rfl rfl, (hn9.trans hn4)⟩
  ·replace h := bif_f hb5 h
   refine c_exit (q_then_x (q_then_x (q_blk_hit ?_)))
   obtain rfl := sj h
   obtain rfl := hres _ rfl
   exact ⟨rfl, _, σ3, fr_join ⟨rfl, rfl, rfl, rfl, rfl, trivial⟩, rfl, H.sel' [0] rfl rfl, hn4⟩
 ·clear hj
  have h := h'
  clear h' H
  rintro e a w ⟨rfl, ρ, σ11, rfl, rfl, H, hn12⟩
  refine q_then (c_seq (rg (sm (I (w64 (Bg - Bf))) rfl (st (v := (I (w64 ((w64 (Bg - Bf)) - 1)))) (rv_sub (a := (w64 (Bg - Bf))) (b := 1) rfl rfl) (sa (I (w64 ((w64 (Bg - Bf)) - 1))) rfl (w_end (q_then ?_)))))))
  obtain ⟨o13, hj, h'⟩ := bind_some h
  clear h
  refine c_cut (fun e a w => e = .normal ∧ ∃ (ρ : Nat → Value) (σ : St), a = fr 60 (updL ρ [(0, (Sl El o13 Em))]) ∧ w = σ.w ∧ Hp S0 σ0 σ [Ch.own 0 0 (Sl El o13 Em) o13] ∧ o13.length = o1.length) ?_ ?_
  ·clear h'
   rename _ = some o13 => h
   refine c_blk (wp_loopM _ h (fun s14 a w => ∃ (ρ : Nat → Value) (σ : St), a = fr 60 (updL ρ [(0, (Sl El s14.1 Em)), (3, (.func (.func 61) #[] #[])), (8, (I Bf)), (9, (I 0)), (12, (I s14.2))]) ∧ w = σ.w ∧ Hp S0 σ0 σ [Ch.own 0 0 (Sl El s14.1 Em) s14.1] ∧ s14.1.length = o1.length) ⟨_, σ11, fr_join ⟨rfl, rfl, rfl, rfl, rfl, trivial⟩, rfl, H.sel' [0] rfl rfl, rfl⟩ ?_)
   clear h H
   rintro s14 a w o ⟨ρ, σ15, rfl, rfl, H, hn16⟩ h hres
   refine c_seq (c_seq (rg (sm (I s14.2) rfl (st (v := (B (decide (0 ≤ s14.2)))) (rv_geq (a := s14.2) (b := 0) rfl rfl) (w_end (q_then ?_))))))
   refine cd_cond (decide (0 ≤ s14.2)) rfl (fun hb17 => ?_) (fun hb17 => ?_)
   ·replace h := bif_t hb17 h
    refine c_skip (q_then (c_seq (c_blk (c_seq ?_))))
    revert h; refine br fun x18 hx19 h => ?_
    obtain ⟨b21, o22, hi20, -⟩ := (H.own 0 rfl).ix hx19
    obtain ⟨_, ⟨_, _, rfl, rfl, rfl⟩, hl23, hc24⟩ := ((H.own 0 rfl).at hx19 hi20).cells
    revert h; refine br fun x25 hx26 h => ?_
    obtain ⟨b28, o29, hi27, -⟩ := (H.own 0 rfl).ix hx26
    obtain ⟨_, ⟨_, _, rfl, rfl, rfl⟩, hl30, hc31⟩ := ((H.own 0 rfl).at hx26 hi27).cells
    revert h; refine br fun x32 hx33 h => ?_
    obtain ⟨b35, o36, hi34, -⟩ := (H.own 0 rfl).ix hx33
    have Hs := H
    refine rg2 (σ := σ15) (Nm := Unit) 18 [17] [[false], [true]] [[(0, 0)], [(0, 0)], [(0, 0), (1, 1)], [(0, 0), (1, 1)], [(0, 0), (1, 1)], [(0, 0), (1, 1)], [(0, 0)], [(0, 0)], [(0, 0)], [(0, 0)], [(0, 0)], [(0, 0)], [(0, 0)], [(0, 0)], [(0, 0)], [(0, 0)], [(0, 0)], [(0, 1)]] 1 [fun _ => fun σm => Hp S0 σ0 σm [Ch.own 0 0 (Sl El s14.1 Em) s14.1] ∧ Md (cov []) σ15 σm, fun _ => fun σm => Hp S0 σ0 σm [Ch.own 0 0 (Sl El s14.1 Em) (s14.1.set Bf.toNat (x18.1, x18.2))] ∧ Md (fun i => (cov []) i ∨ (fun b => blk (Sl El s14.1 Em) = some b) i) σ15 σm] [fun _ => (Sl El s14.1 Em), fun _ => (I Bf), fun _ => (Sl El s14.1 Em), fun _ => (I Bf), fun _ => (I s14.2), fun _ => (I (w64 (Bf + s14.2))), fun _ => (Sl El s14.1 Em), fun _ => (I Bf), fun _ => (I s14.2), fun _ => (I (w64 (Bf + s14.2))), fun _ => (pt b21 o22), fun _ => (.agg #[(I x18.1), (I x18.2)]), fun _ => (Sl El s14.1 Em), fun _ => (I Bf), fun _ => (pt b28 o29), fun _ => (.agg #[(I x25.1), (I x25.2)]), fun _ => (pt b35 o36), fun _ => undef] () (by kernel_rfl) (by kernel_rfl) ?_ ?_ ?_
    ·intro σm m0
     exact ⟨H.grow (m0.mono fun _ h => h.elim), m0⟩
    ·refine ac rfl (by
       intro k _nm ρ σm hJ hoff hdep
       have e0 := look_off (N := 60) (hoff 0 rfl) rfl
       exact dp_v (v := (Sl El s14.1 Em)) wn (rv_move e0) rfl hJ) ?_
     refine ac rfl (by
       intro k _nm ρ σm hJ hoff hdep
       have e8 := look_off (N := 60) (hoff 8 rfl) rfl
       exact dp_v (v := (I Bf)) wn (rv_move e8) rfl hJ) ?_
     refine ac rfl (by
       intro k _nm ρ σm hJ hoff hdep
       have e0 := look_off (N := 60) (hoff 0 rfl) rfl
       exact dp_v (v := (Sl El s14.1 Em)) wn (rv_move e0) rfl hJ) ?_
     refine ac rfl (by
       intro k _nm ρ σm hJ hoff hdep
       have e8 := look_off (N := 60) (hoff 8 rfl) rfl
       exact dp_v (v := (I Bf)) wn (rv_move e8) rfl hJ) ?_
     refine ac rfl (by
       intro k _nm ρ σm hJ hoff hdep
       have e12 := look_off (N := 60) (hoff 12 rfl) rfl
       exact dp_v (v := (I s14.2)) wn (rv_move e12) rfl hJ) ?_
     refine ac rfl (by
       intro k _nm ρ σm hJ hoff hdep
       have e39 := hdep 3 rfl rfl 39 rfl
       have e40 := hdep 4 rfl rfl 40 rfl
       exact dp_v (v := (I (w64 (Bf + s14.2)))) wn (rv_add (a := Bf) (b := s14.2) e39 e40) rfl hJ) ?_
     refine ac rfl (by
       intro k _nm ρ σm hJ hoff hdep
       have e0 := look_off (N := 60) (hoff 0 rfl) rfl
       exact dp_v (v := (Sl El s14.1 Em)) wn (rv_move e0) rfl hJ) ?_
     refine ac rfl (by
       intro k _nm ρ σm hJ hoff hdep
       have e8 := look_off (N := 60) (hoff 8 rfl) rfl
       exact dp_v (v := (I Bf)) wn (rv_move e8) rfl hJ) ?_
     refine ac rfl (by
       intro k _nm ρ σm hJ hoff hdep
       have e12 := look_off (N := 60) (hoff 12 rfl) rfl
       exact dp_v (v := (I s14.2)) wn (rv_move e12) rfl hJ) ?_
     refine ac rfl (by
       intro k _nm ρ σm hJ hoff hdep
       have e43 := hdep 7 rfl rfl 43 rfl
       have e44 := hdep 8 rfl rfl 44 rfl
       exact dp_v (v := (I (w64 (Bf + s14.2)))) wn (rv_add (a := Bf) (b := s14.2) e43 e44) rfl hJ) ?_
     refine ac rfl (by
       intro k _nm ρ σm hJ hoff hdep
       have e42 := hdep 6 rfl rfl 42 rfl
       have e45 := hdep 9 rfl rfl 45 rfl
       exact dp_v (v := (pt b21 o22)) wn (rv_ix Tryz.underlying27 ti58 e42 e45 hi20) rfl hJ) ?_
     refine all_cons (by
       refine ⟨?_, ?_⟩
       ·intro _nm ρ σm hJ hoff hdep
        have e46 := hdep 10 rfl rfl 46 rfl
        obtain ⟨H, m⟩ := id hJ
        obtain ⟨_, ⟨_, _, rfl, rfl, rfl⟩, hl23, hc24⟩ := ((H.own 0 rfl).at hx19 hi20).cells
        exact dp_v (v := (.agg #[(I x18.1), (I x18.2)])) wn (rv_load Tryz.underlying58 rfl ti58 e46 hl23 hc24) rfl hJ
       trivial) ?_
     refine ac rfl (by
       intro k _nm ρ σm hJ hoff hdep
       have e0 := look_off (N := 60) (hoff 0 rfl) rfl
       exact dp_v (v := (Sl El s14.1 Em)) wn (rv_move e0) rfl hJ) ?_
     refine ac rfl (by
       intro k _nm ρ σm hJ hoff hdep
       have e8 := look_off (N := 60) (hoff 8 rfl) rfl
       exact dp_v (v := (I Bf)) wn (rv_move e8) rfl hJ) ?_
     refine ac rfl (by
       intro k _nm ρ σm hJ hoff hdep
       have e48 := hdep 12 rfl rfl 48 rfl
       have e49 := hdep 13 rfl rfl 49 rfl
       exact dp_v (v := (pt b28 o29)) wn (rv_ix Tryz.underlying27 ti58 e48 e49 hi27) rfl hJ) ?_
     refine all_cons (by
       refine ⟨?_, ?_⟩
       ·intro _nm ρ σm hJ hoff hdep
        have e50 := hdep 14 rfl rfl 50 rfl
        obtain ⟨H, m⟩ := id hJ
        obtain ⟨_, ⟨_, _, rfl, rfl, rfl⟩, hl30, hc31⟩ := ((H.own 0 rfl).at hx26 hi27).cells
        exact dp_v (v := (.agg #[(I x25.1), (I x25.2)])) wn (rv_load Tryz.underlying58 rfl ti58 e50 hl30 hc31) rfl hJ
       trivial) ?_
     refine ac rfl (by
       intro k _nm ρ σm hJ hoff hdep
       have e36 := hdep 0 rfl rfl 36 rfl
       have e37 := hdep 1 rfl rfl 37 rfl
       exact dp_v (v := (pt b35 o36)) wn (rv_ix Tryz.underlying27 ti58 e36 e37 hi34) rfl hJ) ?_
     refine all_cons (by
       refine ⟨?_, ?_⟩
       ·intro _nm ρ σm hJ hoff hdep
        have e52 := hdep 16 rfl rfl 52 rfl
        have e47 := hdep 11 rfl rfl 47 rfl
        obtain ⟨H, m⟩ := id hJ
        refine dp_exS wn rfl (ex_store_own (e' := (x18.1, x18.2)) (vs := [(I x18.1), (I x18.2)]) (k := 0) H (i := 0) rfl ti58 hx33 hi34 e52 rfl e47 rfl rfl (Nat.le_of_ble_eq_true rfl) (by simp [plain]) (by rintro _ ⟨_, _, rfl, rfl, rfl⟩; exact ⟨[(I x18.1)], [(I x18.2)], rfl, rfl, rfl⟩)) ?_
        rintro σq ⟨H2, m2⟩
        exact ⟨_, (), rfl, ⟨H2.sel' [0] rfl rfl, m.comp m2⟩, stab [0, 1, 2, 3, 4, 5, 6, 7, 8, 9, 10, 11, 12, 13, 14, 15, 16] (by kernel_rfl) ⟨rfl, rfl, rfl, rfl, rfl, rfl, rfl, rfl, rfl, rfl, rfl, rfl, rfl, rfl, rfl, rfl, rfl, trivial⟩⟩
       trivial) ?_
     exact all_nil
    ·intro _nm ρ σ37 hJ hoff hrel
     have e0 := look_off (N := 60) (hoff 0 rfl) rfl
     have e3 := look_off (N := 60) (hoff 3 rfl) rfl
     have e8 := look_off (N := 60) (hoff 8 rfl) rfl
     have e9 := look_off (N := 60) (hoff 9 rfl) rfl
     have e12 := look_off (N := 60) (hoff 12 rfl) rfl
     have e38 := hrel 2 rfl 38 rfl
     have e41 := hrel 5 rfl 41 rfl
     have e51 := hrel 15 rfl 51 rfl
     obtain ⟨H, -⟩ := (show Hp S0 σ0 σ37 [Ch.own 0 0 (Sl El s14.1 Em) (s14.1.set Bf.toNat (x18.1, x18.2))] ∧ Md (fun i => (cov []) i ∨ (fun b => blk (Sl El s14.1 Em) = some b) i) σ15 σ37 from hJ)
     clear hJ Hs
     rw [fr_lookL (L := [(0, (Sl El s14.1 Em)), (3, (.func (.func 61) #[] #[])), (8, (I Bf)), (9, (I 0)), (12, (I s14.2)), (38, (Sl El s14.1 Em)), (41, (I (w64 (Bf + s14.2)))), (51, (.agg #[(I x25.1), (I x25.2)]))]) ⟨e0, e3, e8, e9, e12, e38, e41, e51, trivial⟩]
     clear hoff hrel e0 e3 e8 e9 e12 e38 e41 e51
     have hsl : (Sl El s14.1 Em) = (Sl El (s14.1.set Bf.toNat (x18.1, x18.2)) Em) := sl_len (by simp)
     rw [hsl]; rw [hsl] at H; clear hsl
     revert h; refine br fun x38 hx39 h => ?_
     obtain ⟨b41, o42, hi40, -⟩ := (H.own 0 rfl).ix hx39
     refine st (v := (pt b41 o42)) (rv_ix Tryz.underlying27 ti58 rfl rfl hi40) ?_
     refine st_exS (ex_store_own (e' := (x25.1, x25.2)) (vs := [(I x25.1), (I x25.2)]) (k := 0) H (i := 0) rfl ti58 hx39 hi40 rfl rfl rfl rfl rfl (Nat.le_of_ble_eq_true rfl) (by simp [plain]) (by rintro _ ⟨_, _, rfl, rfl, rfl⟩; exact ⟨[(I x25.1)], [(I x25.2)], rfl, rfl, rfl⟩)) wn ?_
     rintro σ43 ⟨H, -⟩
     have hsl : (Sl El (s14.1.set Bf.toNat (x18.1, x18.2)) Em) = (Sl El ((s14.1.set Bf.toNat (x18.1, x18.2)).set (w64 (Bf + s14.2)).toNat (x25.1, x25.2)) Em) := sl_len List.length_set.symm
     rw [hsl]; rw [hsl] at H; clear hsl
     refine w_end (q_then (rg (sm (Sl El ((s14.1.set Bf.toNat (x18.1, x18.2)).set (w64 (Bf + s14.2)).toNat (x25.1, x25.2)) Em) rfl (sm (I 0) rfl (sm (I s14.2) rfl (sm (I Bf) rfl (sm (.func (.func 61) #[] #[]) rfl ?_)))))))
     revert h; refine br fun r44 hx45 h => ?_
     have hc46 := c_slices_siftDownCmpFunc_impl_Hit__impl_compareHits (El := El) (Em := Em) hx45
     refine st_call (cx_call hc46 (ent_f hc46.fn rfl) hn0 (H.sel' [0] rfl rfl : Hp S0 σ0 _ ([_] ++ _))) wn ?_
     rintro _ σ48 ⟨_, ⟨rfl, rfl, hn47⟩, H, -⟩
     replace H : Hp _ _ _ [_] := H
     have hsl : (Sl El ((s14.1.set Bf.toNat (x18.1, x18.2)).set (w64 (Bf + s14.2)).toNat (x25.1, x25.2)) Em) = (Sl El r44 Em) := sl_len hn47.symm
     try rw [hsl]
     try rw [hsl] at H
     clear hsl
     refine w_end (q_blk (q_then (rg (sm (I s14.2) rfl (st (v := (I (w64 (s14.2 - 1)))) (rv_sub (a := s14.2) (b := 1) rfl rfl) (sa (I (w64 (s14.2 - 1))) rfl (w_end (q_then ?_))))))))
     obtain rfl := sj h
     exact ⟨_, rfl, _, σ48, fr_join ⟨rfl, rfl, rfl, rfl, rfl, trivial⟩, rfl, H.sel' [0] rfl rfl, ((hn47.trans (List.length_set.trans (List.length_set.trans (hn16.trans hn12)))).trans hn12.symm)⟩
   ·replace h := bif_f hb17 h
    refine c_exit (q_then_x (q_then_x (q_blk_hit ?_)))
    obtain rfl := sj h
    obtain rfl := hres _ rfl
    exact ⟨rfl, _, σ15, fr_join ⟨rfl, trivial⟩, rfl, H.sel' [0] rfl rfl, ((hn16.trans hn12).trans hn12.symm)⟩
  ·clear hj
   have h := h'
   clear h' H
   rintro e a w ⟨rfl, ρ, σ49, rfl, rfl, H, hn50⟩
   obtain rfl := sj h
   exact fin_end (v := (.tuple #[])) (results_ok Tryz.results85 res_nil rfl) ⟨rfl, rfl, (hn50.trans hn12)⟩ (H.sel' [0] rfl rfl)

theorem c_slices_breakPatternsCmpFunc_impl_Hit__impl_compareHits {Ek : List (Int × Int)} {Bf : Int} {Bg : Int} {El : Option Addr} {Em : Nat} {r : (List (Int × Int))} (h : M.slices_breakPatternsCmpFunc_impl_Hit__impl_compareHits Ek Bf Bg = some r) :
    Cal2 Tryz.prog 86 [(Sl El Ek Em), (I Bf), (I Bg), (.func (.func 61) #[] #[])] [Ch.own 0 0 (Sl El Ek Em) Ek] (fun n0 v L => v = (.tuple #[]) ∧ L = [Ch.own 0 0 (Sl El r Em) r] ∧ r.length = Ek.length) := by
 refine cal2 (n := 67) Tryz.func86 rfl rfl rfl rfl ?_
 intro S0 σ0 n0 hn0 H
 unfold M.slices_breakPatternsCmpFunc_impl_Hit__impl_compareHits at h
 refine c_seq (rg (sm (I Bg) rfl (sm (I Bf) rfl (st (v := (I (w64 (Bg - Bf)))) (rv_sub (a := Bg) (b := Bf) rfl rfl) (sa (I (w64 (Bg - Bf))) rfl (w_end (q_then (c_seq (rg (sm (I (w64 (Bg - Bf))) rfl (st (v := (B (decide (8 ≤ (w64 (Bg - Bf)))))) (rv_geq (a := (w64 (Bg - Bf))) (b := 8) rfl rfl) ?_)))))))))))
 refine w_end (q_then ?_)
 refine cd_cond (decide (8 ≤ (w64 (Bg - Bf)))) rfl (fun hb1 => ?_) (fun hb1 => ?_)
 ·replace h := bif_t hb1 h
  refine c_seq (rg (sm (I (w64 (Bg - Bf))) rfl (st (v := (.int .u64 (wk .u64 (w64 (Bg - Bf))))) (rvk_conv (k := .i64) (k' := .u64) (a := (w64 (Bg - Bf))) Tryz.underlying3 Tryz.underlying126 rfl) (st_ex (ex_alloc (cs := [(.int .u64 0)]) H hn0 ti126 rfl) wn ?_))))
  rintro _ σ3 ⟨b2, rfl, H, -⟩
  refine st_exS (ex_store_box (k := 0) (cs := [(.int .u64 0)]) (vs := [(.int .u64 (wk .u64 (w64 (Bg - Bf))))]) (cs' := [(.int .u64 (wk .u64 (w64 (Bg - Bf))))]) H (i := 0) rfl ti126 rfl rfl rfl rfl rfl (Nat.le_of_ble_eq_true rfl) (by simp [plain]) rfl) wn ?_
  rintro σ4 ⟨H, -⟩
  refine w_end (q_then (c_seq (rg (sm (I (w64 (Bg - Bf))) rfl ?_))))
  revert h; refine br fun r5 hx6 h => ?_
  have hc7 := c_slices_nextPowerOfTwo hx6
  refine st_call (cx_call hc7 (ent_f hc7.fn rfl) hn0 (H.sel' [0, 1] rfl rfl : Hp S0 σ0 _ ([] ++ _))) wn ?_
  rintro _ σ8 ⟨_, ⟨rfl, rfl⟩, H, -⟩
  replace H : Hp _ _ _ [_, _] := H
  refine sa (.int .u64 r5) rfl (w_end (q_then (c_seq (rg (sm (I Bf) rfl (sm (I (w64 (Bg - Bf))) rfl ?_))))))
  refine st (v := (I (w64 ((w64 (Bg - Bf)).tdiv 4)))) (rv_quo (a := (w64 (Bg - Bf))) (b := 4) rfl rfl (by decide)) ?_
  refine st (v := (I (w64 ((w64 ((w64 (Bg - Bf)).tdiv 4)) * 2)))) (rv_mul (a := (w64 ((w64 (Bg - Bf)).tdiv 4))) (b := 2) rfl rfl) (st (v := (I (w64 (Bf + (w64 ((w64 ((w64 (Bg - Bf)).tdiv 4)) * 2)))))) (rv_add (a := Bf) (b := (w64 ((w64 ((w64 (Bg - Bf)).tdiv 4)) * 2))) rfl rfl) (st (v := (I (w64 ((w64 (Bf + (w64 ((w64 ((w64 (Bg - Bf)).tdiv 4)) * 2)))) - 1)))) (rv_sub (a := (w64 (Bf + (w64 ((w64 ((w64 (Bg - Bf)).tdiv 4)) * 2))))) (b := 1) rfl rfl) (sa (I (w64 ((w64 (Bf + (w64 ((w64 ((w64 (Bg - Bf)).tdiv 4)) * 2)))) - 1))) rfl (w_end (q_then ?_)))))
  obtain ⟨o9, hj, h'⟩ := bind_some h
  clear h
  refine c_cut (fun e a w => e = .normal ∧ ∃ (ρ : Nat → Value) (σ : St), a = fr 67 (updL ρ [(0, (Sl El o9 Em))]) ∧ w = σ.w ∧ Hp S0 σ0 σ [Ch.own 0 0 (Sl El o9 Em) o9] ∧ o9.length = Ek.length) ?_ ?_
  ·clear h'
   rename _ = some o9 => h
   refine c_blk (wp_loopM _ h (fun s10 a w => ∃ (ρ : Nat → Value) (σ : St), a = fr 67 (updL ρ [(0, (Sl El s10.1 Em)), (1, (I Bf)), (8, (I (w64 (Bg - Bf)))), (9, (pt b2 0)), (10, (.int .u64 r5)), (11, (I s10.2.2))]) ∧ w = σ.w ∧ Hp S0 σ0 σ [Ch.bx n0 b2 0 [(.int .u64 s10.2.1)] [] [], Ch.own 0 0 (Sl El s10.1 Em) s10.1] ∧ s10.1.length = Ek.length) ⟨_, σ8, fr_join ⟨rfl, rfl, rfl, rfl, rfl, rfl, trivial⟩, rfl, H.sel' [0, 1] rfl rfl, rfl⟩ ?_)
   clear h H
   rintro s10 a w o ⟨ρ, σ11, rfl, rfl, H, hn12⟩ h hres
   refine c_seq (c_seq (rg (sm (I s10.2.2) rfl (sm (I Bf) rfl (sm (I (w64 (Bg - Bf))) rfl ?_)))))
   refine st (v := (I (w64 ((w64 (Bg - Bf)).tdiv 4)))) (rv_quo (a := (w64 (Bg - Bf))) (b := 4) rfl rfl (by decide)) ?_
   refine st (v := (I (w64 ((w64 ((w64 (Bg - Bf)).tdiv 4)) * 2)))) (rv_mul (a := (w64 ((w64 (Bg - Bf)).tdiv 4))) (b := 2) rfl rfl) (st (v := (I (w64 (Bf + (w64 ((w64 ((w64 (Bg - Bf)).tdiv 4)) * 2)))))) (rv_add (a := Bf) (b := (w64 ((w64 ((w64 (Bg - Bf)).tdiv 4)) * 2))) rfl rfl) (st (v := (I (w64 ((w64 (Bf + (w64 ((w64 ((w64 (Bg - Bf)).tdiv 4)) * 2)))) + 1)))) (rv_add (a := (w64 (Bf + (w64 ((w64 ((w64 (Bg - Bf)).tdiv 4)) * 2))))) (b := 1) rfl rfl) (st (v := (B (decide (s10.2.2 ≤ (w64 ((w64 (Bf + (w64 ((w64 ((w64 (Bg - Bf)).tdiv 4)) * 2)))) + 1)))))) (rv_leq (a := s10.2.2) (b := (w64 ((w64 (Bf + (w64 ((w64 ((w64 (Bg - Bf)).tdiv 4)) * 2)))) + 1))) rfl rfl) (w_end (q_then ?_)))))
   refine cd_cond (decide (s10.2.2 ≤ (w64 ((w64 (Bf + (w64 ((w64 ((w64 (Bg - Bf)).tdiv 4)) * 2)))) + 1)))) rfl (fun hb13 => ?_) (fun hb13 => ?_)
   ·replace h := bif_t hb13 h
    refine c_skip (q_then (c_seq (c_blk (c_seq (rg ?_)))))
    revert h; refine br fun r14 hx15 h => ?_
    have hc16 := c_slices_xorshift_Next (Dk := n0) (Dm := b2) (Dn := 0) (Do := []) (Dq := []) hx15
    refine st_call (cx_call hc16 (ent_f hc16.fn rfl) hn0 (H.sel' [0, 1] rfl rfl : Hp S0 σ0 _ ([_] ++ _))) wn ?_
    rintro _ σ17 ⟨_, ⟨rfl, rfl⟩, H, -⟩
    replace H : Hp _ _ _ [_, _] := H
    refine sm (.int .u64 r5) rfl (st (v := (.int .u64 (wk .u64 (r5 - 1)))) (rvk_sub (k := .u64) (a := r5) (b := 1) rfl rfl) (st (v := (.int .u64 (gandk .u64 r14.1 (wk .u64 (r5 - 1))))) (rvk_and (k := .u64) (a := r14.1) (b := (wk .u64 (r5 - 1))) rfl rfl) (st (v := (I (wk .i64 (gandk .u64 r14.1 (wk .u64 (r5 - 1)))))) (rvk_conv (k := .u64) (k' := .i64) (a := (gandk .u64 r14.1 (wk .u64 (r5 - 1)))) Tryz.underlying111 Tryz.underlying3 rfl) (sa (I (wk .i64 (gandk .u64 r14.1 (wk .u64 (r5 - 1))))) rfl (w_end (q_then (c_seq (c_seq (rg (sm (I (wk .i64 (gandk .u64 r14.1 (wk .u64 (r5 - 1))))) rfl (sm (I (w64 (Bg - Bf))) rfl ?_)))))))))))
    refine st (v := (B (decide ((w64 (Bg - Bf)) ≤ (wk .i64 (gandk .u64 r14.1 (wk .u64 (r5 - 1)))))))) (rv_geq (a := (wk .i64 (gandk .u64 r14.1 (wk .u64 (r5 - 1))))) (b := (w64 (Bg - Bf))) rfl rfl) (w_end (q_then ?_))
    obtain ⟨o18, hj, h'⟩ := bind_some h
    clear h
    refine c_cut (fun e a w => e = .normal ∧ ∃ (ρ : Nat → Value) (σ : St), a = fr 67 (updL ρ [(0, (Sl El s10.1 Em)), (1, (I Bf)), (8, (I (w64 (Bg - Bf)))), (9, (pt b2 0)), (10, (.int .u64 r5)), (11, (I s10.2.2)), (12, (I o18))]) ∧ w = σ.w ∧ Hp S0 σ0 σ [Ch.own 0 0 (Sl El s10.1 Em) s10.1, Ch.bx n0 b2 0 [(.int .u64 r14.2)] [] []]) ?_ ?_
    ·clear h'
     rename _ = some o18 => h
     refine cd_cond (decide ((w64 (Bg - Bf)) ≤ (wk .i64 (gandk .u64 r14.1 (wk .u64 (r5 - 1)))))) rfl (fun hb19 => ?_) (fun hb19 => ?_)
     ·replace h := bif_t hb19 h
      refine rg (sm (I (wk .i64 (gandk .u64 r14.1 (wk .u64 (r5 - 1))))) rfl (sm (I (w64 (Bg - Bf))) rfl (st (v := (I (w64 ((wk .i64 (gandk .u64 r14.1 (wk .u64 (r5 - 1)))) - (w64 (Bg - Bf)))))) (rv_sub (a := (wk .i64 (gandk .u64 r14.1 (wk .u64 (r5 - 1))))) (b := (w64 (Bg - Bf))) rfl rfl) (sa (I (w64 ((wk .i64 (gandk .u64 r14.1 (wk .u64 (r5 - 1)))) - (w64 (Bg - Bf))))) rfl (w_end ?_)))))
      obtain rfl := sj h
      exact ⟨rfl, _, σ17, fr_join ⟨rfl, rfl, rfl, rfl, rfl, rfl, rfl, trivial⟩, rfl, H.sel' [1, 0] rfl rfl⟩
     ·replace h := bif_f hb19 h
      refine c_skip ?_
      obtain rfl := sj h
      exact ⟨rfl, _, σ17, fr_join ⟨rfl, rfl, rfl, rfl, rfl, rfl, rfl, trivial⟩, rfl, H.sel' [1, 0] rfl rfl⟩
    ·clear hj
     have h := h'
     clear h' H
     rintro e a w ⟨rfl, ρ, σ20, rfl, rfl, H⟩
     refine q_then ?_
     revert h; refine br fun x21 hx22 h => ?_
     obtain ⟨b24, o25, hi23, -⟩ := (H.own 0 rfl).ix hx22
     obtain ⟨_, ⟨_, _, rfl, rfl, rfl⟩, hl26, hc27⟩ := ((H.own 0 rfl).at hx22 hi23).cells
     revert h; refine br fun x28 hx29 h => ?_
     obtain ⟨b31, o32, hi30, -⟩ := (H.own 0 rfl).ix hx29
     obtain ⟨_, ⟨_, _, rfl, rfl, rfl⟩, hl33, hc34⟩ := ((H.own 0 rfl).at hx29 hi30).cells
     revert h; refine br fun x35 hx36 h => ?_
     obtain ⟨b38, o39, hi37, -⟩ := (H.own 0 rfl).ix hx36
     have Hs := H
     refine rg2 (σ := σ20) (Nm := Unit) 18 [17] [[false], [true]] [[(0, 0)], [(0, 0)], [(0, 0), (1, 1)], [(0, 0), (1, 1)], [(0, 0), (1, 1)], [(0, 0), (1, 1)], [(0, 0)], [(0, 0)], [(0, 0)], [(0, 0)], [(0, 0)], [(0, 0)], [(0, 0)], [(0, 0)], [(0, 0)], [(0, 0)], [(0, 0)], [(0, 1)]] 1 [fun _ => fun σm => Hp S0 σ0 σm [Ch.own 0 0 (Sl El s10.1 Em) s10.1, Ch.bx n0 b2 0 [(.int .u64 r14.2)] [] []] ∧ Md (cov []) σ20 σm, fun _ => fun σm => Hp S0 σ0 σm [Ch.own 0 0 (Sl El s10.1 Em) (s10.1.set s10.2.2.toNat (x21.1, x21.2)), Ch.bx n0 b2 0 [(.int .u64 r14.2)] [] []] ∧ Md (fun i => (cov []) i ∨ (fun b => blk (Sl El s10.1 Em) = some b) i) σ20 σm] [fun _ => (Sl El s10.1 Em), fun _ => (I s10.2.2), fun _ => (Sl El s10.1 Em), fun _ => (I Bf), fun _ => (I o18), fun _ => (I (w64 (Bf + o18))), fun _ => (Sl El s10.1 Em), fun _ => (I Bf), fun _ => (I o18), fun _ => (I (w64 (Bf + o18))), fun _ => (pt b24 o25), fun _ => (.agg #[(I x21.1), (I x21.2)]), fun _ => (Sl El s10.1 Em), fun _ => (I s10.2.2), fun _ => (pt b31 o32), fun _ => (.agg #[(I x28.1), (I x28.2)]), fun _ => (pt b38 o39), fun _ => undef] () (by kernel_rfl) (by kernel_rfl) ?_ ?_ ?_
     ·intro σm m0
      exact ⟨H.grow (m0.mono fun _ h => h.elim), m0⟩
     ·refine ac rfl (by
        intro k _nm ρ σm hJ hoff hdep
        have e0 := look_off (N := 67) (hoff 0 rfl) rfl
        exact dp_v (v := (Sl El s10.1 Em)) wn (rv_move e0) rfl hJ) ?_
      refine ac rfl (by
        intro k _nm ρ σm hJ hoff hdep
        have e11 := look_off (N := 67) (hoff 11 rfl) rfl
        exact dp_v (v := (I s10.2.2)) wn (rv_move e11) rfl hJ) ?_
      refine ac rfl (by
        intro k _nm ρ σm hJ hoff hdep
        have e0 := look_off (N := 67) (hoff 0 rfl) rfl
        exact dp_v (v := (Sl El s10.1 Em)) wn (rv_move e0) rfl hJ) ?_
      refine ac rfl (by
        intro k _nm ρ σm hJ hoff hdep
        have e1 := look_off (N := 67) (hoff 1 rfl) rfl
        exact dp_v (v := (I Bf)) wn (rv_move e1) rfl hJ) ?_
      refine ac rfl (by
        intro k _nm ρ σm hJ hoff hdep
        have e12 := look_off (N := 67) (hoff 12 rfl) rfl
        exact dp_v (v := (I o18)) wn (rv_move e12) rfl hJ) ?_
      refine ac rfl (by
        intro k _nm ρ σm hJ hoff hdep
        have e52 := hdep 3 rfl rfl 52 rfl
        have e53 := hdep 4 rfl rfl 53 rfl
        exact dp_v (v := (I (w64 (Bf + o18)))) wn (rv_add (a := Bf) (b := o18) e52 e53) rfl hJ) ?_
      refine ac rfl (by
        intro k _nm ρ σm hJ hoff hdep
        have e0 := look_off (N := 67) (hoff 0 rfl) rfl
        exact dp_v (v := (Sl El s10.1 Em)) wn (rv_move e0) rfl hJ) ?_
      refine ac rfl (by
        intro k _nm ρ σm hJ hoff hdep
        have e1 := look_off (N := 67) (hoff 1 rfl) rfl
        exact dp_v (v := (I Bf)) wn (rv_move e1) rfl hJ) ?_
      refine ac rfl (by
        intro k _nm ρ σm hJ hoff hdep
        have e12 := look_off (N := 67) (hoff 12 rfl) rfl
        exact dp_v (v := (I o18)) wn (rv_move e12) rfl hJ) ?_
      refine ac rfl (by
        intro k _nm ρ σm hJ hoff hdep
        have e56 := hdep 7 rfl rfl 56 rfl
        have e57 := hdep 8 rfl rfl 57 rfl
        exact dp_v (v := (I (w64 (Bf + o18)))) wn (rv_add (a := Bf) (b := o18) e56 e57) rfl hJ) ?_
      refine ac rfl (by
        intro k _nm ρ σm hJ hoff hdep
        have e55 := hdep 6 rfl rfl 55 rfl
        have e58 := hdep 9 rfl rfl 58 rfl
        exact dp_v (v := (pt b24 o25)) wn (rv_ix Tryz.underlying27 ti58 e55 e58 hi23) rfl hJ) ?_
      refine all_cons (by
        refine ⟨?_, ?_⟩
        ·intro _nm ρ σm hJ hoff hdep
         have e59 := hdep 10 rfl rfl 59 rfl
         obtain ⟨H, m⟩ := id hJ
         obtain ⟨_, ⟨_, _, rfl, rfl, rfl⟩, hl26, hc27⟩ := ((H.own 0 rfl).at hx22 hi23).cells
         exact dp_v (v := (.agg #[(I x21.1), (I x21.2)])) wn (rv_load Tryz.underlying58 rfl ti58 e59 hl26 hc27) rfl hJ
        trivial) ?_
      refine ac rfl (by
        intro k _nm ρ σm hJ hoff hdep
        have e0 := look_off (N := 67) (hoff 0 rfl) rfl
        exact dp_v (v := (Sl El s10.1 Em)) wn (rv_move e0) rfl hJ) ?_
      refine ac rfl (by
        intro k _nm ρ σm hJ hoff hdep
        have e11 := look_off (N := 67) (hoff 11 rfl) rfl
        exact dp_v (v := (I s10.2.2)) wn (rv_move e11) rfl hJ) ?_
      refine ac rfl (by
        intro k _nm ρ σm hJ hoff hdep
        have e61 := hdep 12 rfl rfl 61 rfl
        have e62 := hdep 13 rfl rfl 62 rfl
        exact dp_v (v := (pt b31 o32)) wn (rv_ix Tryz.underlying27 ti58 e61 e62 hi30) rfl hJ) ?_
      refine all_cons (by
        refine ⟨?_, ?_⟩
        ·intro _nm ρ σm hJ hoff hdep
         have e63 := hdep 14 rfl rfl 63 rfl
         obtain ⟨H, m⟩ := id hJ
         obtain ⟨_, ⟨_, _, rfl, rfl, rfl⟩, hl33, hc34⟩ := ((H.own 0 rfl).at hx29 hi30).cells
         exact dp_v (v := (.agg #[(I x28.1), (I x28.2)])) wn (rv_load Tryz.underlying58 rfl ti58 e63 hl33 hc34) rfl hJ
        trivial) ?_
      refine ac rfl (by
        intro k _nm ρ σm hJ hoff hdep
        have e49 := hdep 0 rfl rfl 49 rfl
        have e50 := hdep 1 rfl rfl 50 rfl
        exact dp_v (v := (pt b38 o39)) wn (rv_ix Tryz.underlying27 ti58 e49 e50 hi37) rfl hJ) ?_
      refine all_cons (by
        refine ⟨?_, ?_⟩
        ·intro _nm ρ σm hJ hoff hdep
         have e65 := hdep 16 rfl rfl 65 rfl
         have e60 := hdep 11 rfl rfl 60 rfl
         obtain ⟨H, m⟩ := id hJ
         refine dp_exS wn rfl (ex_store_own (e' := (x21.1, x21.2)) (vs := [(I x21.1), (I x21.2)]) (k := 0) H (i := 0) rfl ti58 hx36 hi37 e65 rfl e60 rfl rfl (Nat.le_of_ble_eq_true rfl) (by simp [plain]) (by rintro _ ⟨_, _, rfl, rfl, rfl⟩; exact ⟨[(I x21.1)], [(I x21.2)], rfl, rfl, rfl⟩)) ?_
         rintro σq ⟨H2, m2⟩
         exact ⟨_, (), rfl, ⟨H2.sel' [0, 1] rfl rfl, m.comp m2⟩, stab [0, 1, 2, 3, 4, 5, 6, 7, 8, 9, 10, 11, 12, 13, 14, 15, 16] (by kernel_rfl) ⟨rfl, rfl, rfl, rfl, rfl, rfl, rfl, rfl, rfl, rfl, rfl, rfl, rfl, rfl, rfl, rfl, rfl, trivial⟩⟩
        trivial) ?_
      exact all_nil
     ·intro _nm ρ σ40 hJ hoff hrel
      have e0 := look_off (N := 67) (hoff 0 rfl) rfl
      have e1 := look_off (N := 67) (hoff 1 rfl) rfl
      have e8 := look_off (N := 67) (hoff 8 rfl) rfl
      have e9 := look_off (N := 67) (hoff 9 rfl) rfl
      have e10 := look_off (N := 67) (hoff 10 rfl) rfl
      have e11 := look_off (N := 67) (hoff 11 rfl) rfl
      have e51 := hrel 2 rfl 51 rfl
      have e54 := hrel 5 rfl 54 rfl
      have e64 := hrel 15 rfl 64 rfl
      obtain ⟨H, -⟩ := (show Hp S0 σ0 σ40 [Ch.own 0 0 (Sl El s10.1 Em) (s10.1.set s10.2.2.toNat (x21.1, x21.2)), Ch.bx n0 b2 0 [(.int .u64 r14.2)] [] []] ∧ Md (fun i => (cov []) i ∨ (fun b => blk (Sl El s10.1 Em) = some b) i) σ20 σ40 from hJ)
      clear hJ Hs
      rw [fr_lookL (L := [(0, (Sl El s10.1 Em)), (1, (I Bf)), (8, (I (w64 (Bg - Bf)))), (9, (pt b2 0)), (10, (.int .u64 r5)), (11, (I s10.2.2)), (51, (Sl El s10.1 Em)), (54, (I (w64 (Bf + o18)))), (64, (.agg #[(I x28.1), (I x28.2)]))]) ⟨e0, e1, e8, e9, e10, e11, e51, e54, e64, trivial⟩]
      clear hoff hrel e0 e1 e8 e9 e10 e11 e51 e54 e64
      have hsl : (Sl El s10.1 Em) = (Sl El (s10.1.set s10.2.2.toNat (x21.1, x21.2)) Em) := sl_len (by simp)
      rw [hsl]; rw [hsl] at H; clear hsl
      revert h; refine br fun x41 hx42 h => ?_
      obtain ⟨b44, o45, hi43, -⟩ := (H.own 0 rfl).ix hx42
      refine st (v := (pt b44 o45)) (rv_ix Tryz.underlying27 ti58 rfl rfl hi43) ?_
      refine st_exS (ex_store_own (e' := (x28.1, x28.2)) (vs := [(I x28.1), (I x28.2)]) (k := 0) H (i := 0) rfl ti58 hx42 hi43 rfl rfl rfl rfl rfl (Nat.le_of_ble_eq_true rfl) (by simp [plain]) (by rintro _ ⟨_, _, rfl, rfl, rfl⟩; exact ⟨[(I x28.1)], [(I x28.2)], rfl, rfl, rfl⟩)) wn ?_
      rintro σ46 ⟨H, -⟩
      have hsl : (Sl El (s10.1.set s10.2.2.toNat (x21.1, x21.2)) Em) = (Sl El ((s10.1.set s10.2.2.toNat (x21.1, x21.2)).set (w64 (Bf + o18)).toNat (x28.1, x28.2)) Em) := sl_len List.length_set.symm
      rw [hsl]; rw [hsl] at H; clear hsl
      refine w_end (q_blk (q_then (rg (sm (I s10.2.2) rfl (st (v := (I (w64 (s10.2.2 + 1)))) (rv_add (a := s10.2.2) (b := 1) rfl rfl) (sa (I (w64 (s10.2.2 + 1))) rfl (w_end (q_then ?_))))))))
      obtain rfl := sj h
      exact ⟨_, rfl, _, σ46, fr_join ⟨rfl, rfl, rfl, rfl, rfl, rfl, trivial⟩, rfl, H.sel' [1, 0] rfl rfl, (List.length_set.trans (List.length_set.trans hn12))⟩
   ·replace h := bif_f hb13 h
    refine c_exit (q_then_x (q_then_x (q_blk_hit ?_)))
    obtain rfl := sj h
    obtain rfl := hres _ rfl
    exact ⟨rfl, _, σ11, fr_join ⟨rfl, trivial⟩, rfl, H.sel' [1] rfl rfl, hn12⟩
  ·clear hj
   have h := h'
   clear h' H
   rintro e a w ⟨rfl, ρ, σ47, rfl, rfl, H, hn48⟩
   obtain rfl := sj h
   exact fin_end (v := (.tuple #[])) (results_ok Tryz.results86 res_nil rfl) ⟨rfl, rfl, hn48⟩ (H.sel' [0] rfl rfl)
 ·replace h := bif_f hb1 h
  refine c_skip ?_
  obtain rfl := sj h
  exact fin_end (v := (.tuple #[])) (results_ok Tryz.results86 res_nil rfl) ⟨rfl, rfl, rfl⟩ (H.sel' [0] rfl rfl)

theorem c_slices_order2CmpFunc_impl_Hit__impl_compareHits {Ek : List (Int × Int)} {Bf : Int} {Bg : Int} {Er : Int} {El : Option Addr} {Em : Nat} {Es Et Eu : Nat} {Ev Ew : List Value} {r : Int × Int × Int} (h : M.slices_order2CmpFunc_impl_Hit__impl_compareHits Ek Bf Bg Er = some r) :
    Cal2 Tryz.prog 101 [(Sl El Ek Em), (I Bf), (I Bg), (pt Et Eu), (.func (.func 61) #[] #[])] [Ch.ro 0 (Sl El Ek Em) Ek, Ch.bx Es Et Eu [(I Er)] Ev Ew] (fun n0 v L => v = (.tuple #[(I r.1), (I r.2.1)]) ∧ L = [Ch.bx Es Et Eu [(I r.2.2)] Ev Ew]) := by
 refine cal2 (n := 32) Tryz.func101 rfl rfl rfl rfl ?_
 intro S0 σ0 n0 hn0 H
 unfold M.slices_order2CmpFunc_impl_Hit__impl_compareHits at h
 refine c_seq (rg (sa (I 0) rfl (sa (I 0) rfl (w_end (q_then (c_seq (c_seq ?_)))))))
 refine rgP (σ := σ0) 9 (by kernel_rfl) (by kernel_rfl) (by kernel_rfl) ?_
 refine sq (v := (.func (.func 61) #[] #[])) (rv_move rfl) (sq (v := (Sl El Ek Em)) (rv_move rfl) (sq (v := (I Bg)) (rv_move rfl) ?_))
 revert h; refine br fun x1 hx2 h => ?_
 obtain ⟨b4, o5, hi3, -⟩ := (H.ro 0 rfl).ix hx2
 refine sq (v := (pt b4 o5)) (rv_ix Tryz.underlying27 ti58 rfl rfl hi3) ?_
 obtain ⟨_, ⟨_, _, rfl, rfl, rfl⟩, hl6, hc7⟩ := ((H.ro 0 rfl).at hx2 hi3).cells
 refine sq (v := (.agg #[(I x1.1), (I x1.2)])) (rv_load Tryz.underlying58 rfl ti58 rfl hl6 hc7) (sq (v := (Sl El Ek Em)) (rv_move rfl) (sq (v := (I Bf)) (rv_move rfl) ?_))
 revert h; refine br fun x8 hx9 h => ?_
 obtain ⟨b11, o12, hi10, -⟩ := (H.ro 0 rfl).ix hx9
 refine sq (v := (pt b11 o12)) (rv_ix Tryz.underlying27 ti58 rfl rfl hi10) ?_
 obtain ⟨_, ⟨_, _, rfl, rfl, rfl⟩, hl13, hc14⟩ := ((H.ro 0 rfl).at hx9 hi10).cells
 refine sq (v := (.agg #[(I x8.1), (I x8.2)])) (rv_load Tryz.underlying58 rfl ti58 rfl hl13 hc14) (sq_end ?_)
 intro σ15 hm16
 replace H := H.grow (hm16.mono fun _ h => h); clear hm16
 revert h; refine br fun r17 hx18 h => ?_
 have hc19 := c_impl_compareHits hx18
 refine st_call (cx_call hc19 (ent_v (cap := []) hc19.fn rfl rfl) hn0 (H.sel' [0, 1] rfl rfl : Hp S0 σ0 _ ([] ++ _))) wn ?_
 rintro _ σ20 ⟨_, ⟨rfl, rfl⟩, H, -⟩
 replace H : Hp _ _ _ [_, _] := H
 refine st (v := (B (decide (r17 < 0)))) (rv_lss (a := r17) (b := 0) rfl rfl) (w_end (q_then ?_))
 refine cd_cond (decide (r17 < 0)) rfl (fun hb21 => ?_) (fun hb21 => ?_)
 ·replace h := bif_t hb21 h
  refine c_seq (rg (sm (pt Et Eu) rfl (st (v := (pt Et Eu)) (rv_nilCheck rfl) ?_)))
  have hc22 := H.cell (u := (I Er)) (o' := Eu) 1 0 rfl rfl rfl
  refine st (v := (I Er)) (rv_load1 Tryz.underlying3 rfl rfl hc22) (st (v := (I (w64 (Er + 1)))) (rv_add (a := Er) (b := 1) rfl rfl) (st (v := (pt Et Eu)) (rv_nilCheck rfl) ?_))
  refine st_exS (ex_store_box (k := 0) (cs := [(I Er)]) (vs := [(I (w64 (Er + 1)))]) (cs' := [(I (w64 (Er + 1)))]) H (i := 1) rfl ti3 rfl rfl rfl rfl rfl (Nat.le_of_ble_eq_true rfl) (by simp [plain]) rfl) wn ?_
  rintro σ23 ⟨H, -⟩
  refine w_end (q_then (c_seq (rg (sm (I Bg) rfl (sm (I Bf) rfl (sa (I Bg) rfl (sa (I Bf) rfl (w_end (q_then (c_ret (q_then_r ?_)))))))))))
  obtain rfl := sj h
  exact fin_ret (v := (.tuple #[(I Bg), (I Bf)])) (results_ok Tryz.results101 (res_tmp (v := (I Bg)) rfl (res_tmp (v := (I Bf)) rfl res_nil)) rfl) ⟨rfl, rfl⟩ (H.sel' [0] rfl rfl)
 ·replace h := bif_f hb21 h
  refine c_skip (q_then (c_seq (rg (sm (I Bf) rfl (sm (I Bg) rfl (sa (I Bf) rfl (sa (I Bg) rfl (w_end (q_then (c_ret ?_))))))))))
  obtain rfl := sj h
  exact fin_ret (v := (.tuple #[(I Bf), (I Bg)])) (results_ok Tryz.results101 (res_tmp (v := (I Bf)) rfl (res_tmp (v := (I Bg)) rfl res_nil)) rfl) ⟨rfl, rfl⟩ (H.sel' [1] rfl rfl)

theorem c_slices_medianCmpFunc_impl_Hit__impl_compareHits {Ek : List (Int × Int)} {Bf : Int} {Bg : Int} {Ey : Int} {Ez : Int} {El : Option Addr} {Em : Nat} {Fa Fb Fc : Nat} {Fd Fe : List Value} {r : Int × Int} (h : M.slices_medianCmpFunc_impl_Hit__impl_compareHits Ek Bf Bg Ey Ez = some r) :
    Cal2 Tryz.prog 99 [(Sl El Ek Em), (I Bf), (I Bg), (I Ey), (pt Fb Fc), (.func (.func 61) #[] #[])] [Ch.ro 0 (Sl El Ek Em) Ek, Ch.bx Fa Fb Fc [(I Ez)] Fd Fe] (fun n0 v L => v = (I r.1) ∧ L = [Ch.bx Fa Fb Fc [(I r.2)] Fd Fe]) := by
 refine cal2 (n := 41) Tryz.func99 rfl rfl rfl rfl ?_
 intro S0 σ0 n0 hn0 H
 unfold M.slices_medianCmpFunc_impl_Hit__impl_compareHits at h
 refine c_seq (rg (sa (I 0) rfl (w_end (q_then (c_seq (rg (sm (Sl El Ek Em) rfl (sm (I Bf) rfl (sm (I Bg) rfl (sm (pt Fb Fc) rfl (sm (.func (.func 61) #[] #[]) rfl ?_)))))))))))
 revert h; refine br fun r1 hx2 h => ?_
 have hc3 := c_slices_order2CmpFunc_impl_Hit__impl_compareHits (El := El) (Em := Em) (Es := Fa) (Et := Fb) (Eu := Fc) (Ev := Fd) (Ew := Fe) hx2
 refine st_call (cx_call hc3 (ent_f hc3.fn rfl) hn0 (H.sel' [0, 1, 0] rfl rfl : Hp S0 σ0 _ ([_, _] ++ _))) wn ?_
 rintro _ σ4 ⟨_, ⟨rfl, rfl⟩, H, -⟩
 replace H : Hp _ _ _ [_, _] := H
 refine sm (.tuple #[(I r1.1), (I r1.2.1)]) rfl (st (v := (I r1.1)) (rv_extract rfl rfl) (st (v := (I r1.2.1)) (rv_extract rfl rfl) (sa (I r1.1) rfl (sa (I r1.2.1) rfl (w_end (q_then (c_seq (rg (sm (Sl El Ek Em) rfl (sm (I r1.2.1) rfl (sm (I Ey) rfl ?_)))))))))))
 refine sm (pt Fb Fc) rfl (sm (.func (.func 61) #[] #[]) rfl ?_)
 revert h; refine br fun r5 hx6 h => ?_
 have hc7 := c_slices_order2CmpFunc_impl_Hit__impl_compareHits (El := El) (Em := Em) (Es := Fa) (Et := Fb) (Eu := Fc) (Ev := Fd) (Ew := Fe) hx6
 refine st_call (cx_call hc7 (ent_f hc7.fn rfl) hn0 (H.sel' [1, 0, 1] rfl rfl : Hp S0 σ0 _ ([_, _] ++ _))) wn ?_
 rintro _ σ8 ⟨_, ⟨rfl, rfl⟩, H, -⟩
 replace H : Hp _ _ _ [_, _] := H
 refine sm (.tuple #[(I r5.1), (I r5.2.1)]) rfl (st (v := (I r5.1)) (rv_extract rfl rfl) (st (v := (I r5.2.1)) (rv_extract rfl rfl) (sa (I r5.1) rfl (sa (I r5.2.1) rfl (w_end (q_then (c_seq (rg (sm (Sl El Ek Em) rfl (sm (I r1.1) rfl (sm (I r5.1) rfl ?_)))))))))))
 refine sm (pt Fb Fc) rfl (sm (.func (.func 61) #[] #[]) rfl ?_)
 revert h; refine br fun r9 hx10 h => ?_
 have hc11 := c_slices_order2CmpFunc_impl_Hit__impl_compareHits (El := El) (Em := Em) (Es := Fa) (Et := Fb) (Eu := Fc) (Ev := Fd) (Ew := Fe) hx10
 refine st_call (cx_call hc11 (ent_f hc11.fn rfl) hn0 (H.sel' [1, 0, 1] rfl rfl : Hp S0 σ0 _ ([_, _] ++ _))) wn ?_
 rintro _ σ12 ⟨_, ⟨rfl, rfl⟩, H, -⟩
 replace H : Hp _ _ _ [_, _] := H
 refine sm (.tuple #[(I r9.1), (I r9.2.1)]) rfl (st (v := (I r9.1)) (rv_extract rfl rfl) (st (v := (I r9.2.1)) (rv_extract rfl rfl) (sa (I r9.1) rfl (sa (I r9.2.1) rfl (w_end (q_then (c_seq (rg (sm (I r9.2.1) rfl (sa (I r9.2.1) rfl (w_end ?_)))))))))))
 refine q_then (c_ret ?_)
 obtain rfl := sj h
 exact fin_ret (v := (I r9.2.1)) (results_ok Tryz.results99 (res_tmp (v := (I r9.2.1)) rfl res_nil) rfl) ⟨rfl, rfl⟩ (H.sel' [0] rfl rfl)

theorem c_slices_medianAdjacentCmpFunc_impl_Hit__impl_compareHits {Ek : List (Int × Int)} {Bf : Int} {Ff : Int} {El : Option Addr} {Em : Nat} {Fg Fh Fi : Nat} {Fj Fk : List Value} {r : Int × Int} (h : M.slices_medianAdjacentCmpFunc_impl_Hit__impl_compareHits Ek Bf Ff = some r) :
    Cal2 Tryz.prog 98 [(Sl El Ek Em), (I Bf), (pt Fh Fi), (.func (.func 61) #[] #[])] [Ch.ro 0 (Sl El Ek Em) Ek, Ch.bx Fg Fh Fi [(I Ff)] Fj Fk] (fun n0 v L => v = (I r.1) ∧ L = [Ch.bx Fg Fh Fi [(I r.2)] Fj Fk]) := by
 refine cal2 (n := 18) Tryz.func98 rfl rfl rfl rfl ?_
 intro S0 σ0 n0 hn0 H
 unfold M.slices_medianAdjacentCmpFunc_impl_Hit__impl_compareHits at h
 refine c_seq (rg (sa (I 0) rfl (w_end (q_then (c_seq (rg (sm (Sl El Ek Em) rfl (sm (I Bf) rfl (st (v := (I (w64 (Bf - 1)))) (rv_sub (a := Bf) (b := 1) rfl rfl) (sm (I Bf) rfl (sm (I Bf) rfl ?_)))))))))))
 refine st (v := (I (w64 (Bf + 1)))) (rv_add (a := Bf) (b := 1) rfl rfl) (sm (pt Fh Fi) rfl (sm (.func (.func 61) #[] #[]) rfl ?_))
 revert h; refine br fun r1 hx2 h => ?_
 have hc3 := c_slices_medianCmpFunc_impl_Hit__impl_compareHits (El := El) (Em := Em) (Fa := Fg) (Fb := Fh) (Fc := Fi) (Fd := Fj) (Fe := Fk) hx2
 refine st_call (cx_call hc3 (ent_f hc3.fn rfl) hn0 (H.sel' [0, 1, 0] rfl rfl : Hp S0 σ0 _ ([_, _] ++ _))) wn ?_
 rintro _ σ4 ⟨_, ⟨rfl, rfl⟩, H, -⟩
 replace H : Hp _ _ _ [_, _] := H
 refine sa (I r1.1) rfl (w_end (q_then (c_ret ?_)))
 obtain rfl := sj h
 exact fin_ret (v := (I r1.1)) (results_ok Tryz.results98 (res_tmp (v := (I r1.1)) rfl res_nil) rfl) ⟨rfl, rfl⟩ (H.sel' [0] rfl rfl)

theorem c_slices_choosePivotCmpFunc_impl_Hit__impl_compareHits {Ek : List (Int × Int)} {Bf : Int} {Bg : Int} {El : Option Addr} {Em : Nat} {r : Int × Int} (h : M.slices_choosePivotCmpFunc_impl_Hit__impl_compareHits Ek Bf Bg = some r) :
    Cal2 Tryz.prog 87 [(Sl El Ek Em), (I Bf), (I Bg), (.func (.func 61) #[] #[])] [Ch.ro 0 (Sl El Ek Em) Ek] (fun n0 v L => v = (.tuple #[(I r.1), (I r.2)]) ∧ L = []) := by
 refine cal2 (n := 63) Tryz.func87 rfl rfl rfl rfl ?_
 intro S0 σ0 n0 hn0 H
 unfold M.slices_choosePivotCmpFunc_impl_Hit__impl_compareHits at h
 refine c_seq (rg (sa (I 0) rfl (sa (I 0) rfl (w_end (q_then (c_seq (rg (sm (I Bg) rfl (sm (I Bf) rfl (st (v := (I (w64 (Bg - Bf)))) (rv_sub (a := Bg) (b := Bf) rfl rfl) (sa (I (w64 (Bg - Bf))) rfl ?_)))))))))))
 refine w_end (q_then (c_seq (rg (st_ex (ex_alloc (cs := [(I 0)]) H hn0 ti3 rfl) wn ?_))))
 rintro _ σ2 ⟨b1, rfl, H, -⟩
 refine w_end (q_then (c_seq (rg (sm (I Bf) rfl (sm (I (w64 (Bg - Bf))) rfl ?_)))))
 refine st (v := (I (w64 ((w64 (Bg - Bf)).tdiv 4)))) (rv_quo (a := (w64 (Bg - Bf))) (b := 4) rfl rfl (by decide)) ?_
 refine st (v := (I (w64 ((w64 ((w64 (Bg - Bf)).tdiv 4)) * 1)))) (rv_mul (a := (w64 ((w64 (Bg - Bf)).tdiv 4))) (b := 1) rfl rfl) (st (v := (I (w64 (Bf + (w64 ((w64 ((w64 (Bg - Bf)).tdiv 4)) * 1)))))) (rv_add (a := Bf) (b := (w64 ((w64 ((w64 (Bg - Bf)).tdiv 4)) * 1))) rfl rfl) (sa (I (w64 (Bf + (w64 ((w64 ((w64 (Bg - Bf)).tdiv 4)) * 1))))) rfl (w_end (q_then (c_seq (rg (sm (I Bf) rfl (sm (I (w64 (Bg - Bf))) rfl ?_))))))))
 refine st (v := (I (w64 ((w64 (Bg - Bf)).tdiv 4)))) (rv_quo (a := (w64 (Bg - Bf))) (b := 4) rfl rfl (by decide)) ?_
 refine st (v := (I (w64 ((w64 ((w64 (Bg - Bf)).tdiv 4)) * 2)))) (rv_mul (a := (w64 ((w64 (Bg - Bf)).tdiv 4))) (b := 2) rfl rfl) (st (v := (I (w64 (Bf + (w64 ((w64 ((w64 (Bg - Bf)).tdiv 4)) * 2)))))) (rv_add (a := Bf) (b := (w64 ((w64 ((w64 (Bg - Bf)).tdiv 4)) * 2))) rfl rfl) (sa (I (w64 (Bf + (w64 ((w64 ((w64 (Bg - Bf)).tdiv 4)) * 2))))) rfl (w_end (q_then (c_seq (rg (sm (I Bf) rfl (sm (I (w64 (Bg - Bf))) rfl ?_))))))))
 refine st (v := (I (w64 ((w64 (Bg - Bf)).tdiv 4)))) (rv_quo (a := (w64 (Bg - Bf))) (b := 4) rfl rfl (by decide)) ?_
 refine st (v := (I (w64 ((w64 ((w64 (Bg - Bf)).tdiv 4)) * 3)))) (rv_mul (a := (w64 ((w64 (Bg - Bf)).tdiv 4))) (b := 3) rfl rfl) (st (v := (I (w64 (Bf + (w64 ((w64 ((w64 (Bg - Bf)).tdiv 4)) * 3)))))) (rv_add (a := Bf) (b := (w64 ((w64 ((w64 (Bg - Bf)).tdiv 4)) * 3))) rfl rfl) (sa (I (w64 (Bf + (w64 ((w64 ((w64 (Bg - Bf)).tdiv 4)) * 3))))) rfl (w_end (q_then (c_seq (c_seq (rg (sm (I (w64 (Bg - Bf))) rfl (st (v := (B (decide (8 ≤ (w64 (Bg - Bf)))))) (rv_geq (a := (w64 (Bg - Bf))) (b := 8) rfl rfl) (w_end (q_then ?_)))))))))))
 obtain ⟨o3, hj, h'⟩ := bind_some h
 clear h
 refine c_cut (fun e a w => e = .normal ∧ ∃ (ρ : Nat → Value) (σ : St), a = fr 63 (updL ρ [(11, (pt b1 0)), (13, (I o3.2))]) ∧ w = σ.w ∧ Hp S0 σ0 σ [Ch.bx n0 b1 0 [(I o3.1)] [] []]) ?_ ?_
 ·clear h'
  rename _ = some o3 => h
  refine cd_cond (decide (8 ≤ (w64 (Bg - Bf)))) rfl (fun hb4 => ?_) (fun hb4 => ?_)
  ·replace h := bif_t hb4 h
   refine c_seq (c_seq (rg (sm (I (w64 (Bg - Bf))) rfl (st (v := (B (decide (50 ≤ (w64 (Bg - Bf)))))) (rv_geq (a := (w64 (Bg - Bf))) (b := 50) rfl rfl) (w_end (q_then ?_))))))
   obtain ⟨o5, hj, h'⟩ := bind_some h
   clear h
   refine c_cut (fun e a w => e = .normal ∧ ∃ (ρ : Nat → Value) (σ : St), a = fr 63 (updL ρ [(0, (Sl El Ek Em)), (3, (.func (.func 61) #[] #[])), (11, (pt b1 0)), (12, (I o5.2.1)), (13, (I o5.2.2.1)), (14, (I o5.2.2.2))]) ∧ w = σ.w ∧ Hp S0 σ0 σ [Ch.bx n0 b1 0 [(I o5.1)] [] [], Ch.ro 0 (Sl El Ek Em) Ek]) ?_ ?_
   ·clear h'
    rename _ = some o5 => h
    refine cd_cond (decide (50 ≤ (w64 (Bg - Bf)))) rfl (fun hb6 => ?_) (fun hb6 => ?_)
    ·replace h := bif_t hb6 h
     refine c_seq (rg (sm (Sl El Ek Em) rfl (sm (I (w64 (Bf + (w64 ((w64 ((w64 (Bg - Bf)).tdiv 4)) * 1))))) rfl (sm (.func (.func 61) #[] #[]) rfl ?_))))
     revert h; refine br fun r7 hx8 h => ?_
     have hc9 := c_slices_medianAdjacentCmpFunc_impl_Hit__impl_compareHits (El := El) (Em := Em) (Fg := n0) (Fh := b1) (Fi := 0) (Fj := []) (Fk := []) hx8
     refine st_call (cx_call hc9 (ent_f hc9.fn rfl) hn0 (H.sel' [1, 0, 1] rfl rfl : Hp S0 σ0 _ ([_, _] ++ _))) wn ?_
     rintro _ σ10 ⟨_, ⟨rfl, rfl⟩, H, -⟩
     replace H : Hp _ _ _ [_, _] := H
     refine sa (I r7.1) rfl (w_end (q_then (c_seq (rg (sm (Sl El Ek Em) rfl (sm (I (w64 (Bf + (w64 ((w64 ((w64 (Bg - Bf)).tdiv 4)) * 2))))) rfl (sm (.func (.func 61) #[] #[]) rfl ?_)))))))
     revert h; refine br fun r11 hx12 h => ?_
     have hc13 := c_slices_medianAdjacentCmpFunc_impl_Hit__impl_compareHits (El := El) (Em := Em) (Fg := n0) (Fh := b1) (Fi := 0) (Fj := []) (Fk := []) hx12
     refine st_call (cx_call hc13 (ent_f hc13.fn rfl) hn0 (H.sel' [1, 0, 1] rfl rfl : Hp S0 σ0 _ ([_, _] ++ _))) wn ?_
     rintro _ σ14 ⟨_, ⟨rfl, rfl⟩, H, -⟩
     replace H : Hp _ _ _ [_, _] := H
     refine sa (I r11.1) rfl (w_end (q_then (rg (sm (Sl El Ek Em) rfl (sm (I (w64 (Bf + (w64 ((w64 ((w64 (Bg - Bf)).tdiv 4)) * 3))))) rfl (sm (.func (.func 61) #[] #[]) rfl ?_))))))
     revert h; refine br fun r15 hx16 h => ?_
     have hc17 := c_slices_medianAdjacentCmpFunc_impl_Hit__impl_compareHits (El := El) (Em := Em) (Fg := n0) (Fh := b1) (Fi := 0) (Fj := []) (Fk := []) hx16
     refine st_call (cx_call hc17 (ent_f hc17.fn rfl) hn0 (H.sel' [1, 0, 1] rfl rfl : Hp S0 σ0 _ ([_, _] ++ _))) wn ?_
     rintro _ σ18 ⟨_, ⟨rfl, rfl⟩, H, -⟩
     replace H : Hp _ _ _ [_, _] := H
     refine sa (I r15.1) rfl (w_end ?_)
     obtain rfl := sj h
     exact ⟨rfl, _, σ18, fr_join ⟨rfl, rfl, rfl, rfl, rfl, rfl, trivial⟩, rfl, H.sel' [0, 1] rfl rfl⟩
    ·replace h := bif_f hb6 h
     refine c_skip ?_
     obtain rfl := sj h
     exact ⟨rfl, _, σ2, fr_join ⟨rfl, rfl, rfl, rfl, rfl, rfl, trivial⟩, rfl, H.sel' [0, 1] rfl rfl⟩
   ·clear hj
    have h := h'
    clear h' H
    rintro e a w ⟨rfl, ρ, σ19, rfl, rfl, H⟩
    refine q_then (rg (sm (Sl El Ek Em) rfl (sm (I o5.2.1) rfl (sm (I o5.2.2.1) rfl (sm (I o5.2.2.2) rfl (sm (.func (.func 61) #[] #[]) rfl ?_))))))
    revert h; refine br fun r20 hx21 h => ?_
    have hc22 := c_slices_medianCmpFunc_impl_Hit__impl_compareHits (El := El) (Em := Em) (Fa := n0) (Fb := b1) (Fc := 0) (Fd := []) (Fe := []) hx21
    refine st_call (cx_call hc22 (ent_f hc22.fn rfl) hn0 (H.sel' [1, 0, 1] rfl rfl : Hp S0 σ0 _ ([_, _] ++ _))) wn ?_
    rintro _ σ23 ⟨_, ⟨rfl, rfl⟩, H, -⟩
    replace H : Hp _ _ _ [_, _] := H
    refine sa (I r20.1) rfl (w_end ?_)
    obtain rfl := sj h
    exact ⟨rfl, _, σ23, fr_join ⟨rfl, rfl, trivial⟩, rfl, H.sel' [0] rfl rfl⟩
  ·replace h := bif_f hb4 h
   refine c_skip ?_
   obtain rfl := sj h
   exact ⟨rfl, _, σ2, fr_join ⟨rfl, rfl, trivial⟩, rfl, H.sel' [0] rfl rfl⟩
 ·clear hj
  have h := h'
  clear h' H
  rintro e a w ⟨rfl, ρ, σ24, rfl, rfl, H⟩
  refine q_then (c_seq (rg ?_))
  have hc25 := H.cell (u := (I o3.1)) (o' := 0) 0 0 rfl rfl rfl
  refine st (v := (I o3.1)) (rv_load1 Tryz.underlying3 rfl rfl hc25) (w_end (q_then (c_blk (c_seq (rg (st (v := (B (o3.1 == 0))) (rv_eql (a := o3.1) (b := 0) rfl rfl) (sa (B (o3.1 == 0)) rfl (w_end (q_then ?_)))))))))
  refine cd_cond (o3.1 == 0) rfl (fun hb26 => ?_) (fun hb26 => ?_)
  ·replace h := bif_t hb26 h
   refine c_seq (rg (sm (I o3.2) rfl (sa (I o3.2) rfl (sa (I 1) rfl (w_end (q_then (c_ret (q_blk_r ?_))))))))
   obtain rfl := sj h
   exact fin_ret (v := (.tuple #[(I o3.2), (I 1)])) (results_ok Tryz.results87 (res_tmp (v := (I o3.2)) rfl (res_tmp (v := (I 1)) rfl res_nil)) rfl) ⟨rfl, rfl⟩ (H.sel' [] rfl rfl)
  ·replace h := bif_f hb26 h
   refine c_seq (rg (st (v := (B (o3.1 == 12))) (rv_eql (a := o3.1) (b := 12) rfl rfl) (sa (B (o3.1 == 12)) rfl (w_end (q_then ?_)))))
   refine cd_cond (o3.1 == 12) rfl (fun hb27 => ?_) (fun hb27 => ?_)
   ·replace h := bif_t hb27 h
    refine c_seq (rg (sm (I o3.2) rfl (sa (I o3.2) rfl (sa (I 2) rfl (w_end (q_then (c_ret (q_blk_r ?_))))))))
    obtain rfl := sj h
    exact fin_ret (v := (.tuple #[(I o3.2), (I 2)])) (results_ok Tryz.results87 (res_tmp (v := (I o3.2)) rfl (res_tmp (v := (I 2)) rfl res_nil)) rfl) ⟨rfl, rfl⟩ (H.sel' [] rfl rfl)
   ·replace h := bif_f hb27 h
    refine c_seq (rg (sm (I o3.2) rfl (sa (I o3.2) rfl (sa (I 0) rfl (w_end (q_then (c_ret (q_blk_r ?_))))))))
    obtain rfl := sj h
    exact fin_ret (v := (.tuple #[(I o3.2), (I 0)])) (results_ok Tryz.results87 (res_tmp (v := (I o3.2)) rfl (res_tmp (v := (I 0)) rfl res_nil)) rfl) ⟨rfl, rfl⟩ (H.sel' [] rfl rfl)

theorem c_slices_reverseRangeCmpFunc_impl_Hit__impl_compareHits {Ek : List (Int × Int)} {Bf : Int} {Bg : Int} {El : Option Addr} {Em : Nat} {r : (List (Int × Int))} (h : M.slices_reverseRangeCmpFunc_impl_Hit__impl_compareHits Ek Bf Bg = some r) :
    Cal2 Tryz.prog 88 [(Sl El Ek Em), (I Bf), (I Bg), (.func (.func 61) #[] #[])] [Ch.own 0 0 (Sl El Ek Em) Ek] (fun n0 v L => v = (.tuple #[]) ∧ L = [Ch.own 0 0 (Sl El r Em) r] ∧ r.length = Ek.length) := by
 refine cal2 (n := 34) Tryz.func88 rfl rfl rfl rfl ?_
 intro S0 σ0 n0 hn0 H
 unfold M.slices_reverseRangeCmpFunc_impl_Hit__impl_compareHits at h
 refine c_seq (rg (sm (I Bf) rfl (sa (I Bf) rfl (w_end (q_then (c_seq (rg (sm (I Bg) rfl (st (v := (I (w64 (Bg - 1)))) (rv_sub (a := Bg) (b := 1) rfl rfl) (sa (I (w64 (Bg - 1))) rfl (w_end ?_)))))))))))
 refine q_then ?_
 obtain ⟨o1, hj, h'⟩ := bind_some h
 clear h
 refine c_cut (fun e a w => e = .normal ∧ ∃ (ρ : Nat → Value) (σ : St), a = fr 34 (updL ρ [(0, (Sl El o1 Em))]) ∧ w = σ.w ∧ Hp S0 σ0 σ [Ch.own 0 0 (Sl El o1 Em) o1] ∧ o1.length = Ek.length) ?_ ?_
 ·clear h'
  rename _ = some o1 => h
  refine c_blk (wp_loopM _ h (fun s2 a w => ∃ (ρ : Nat → Value) (σ : St), a = fr 34 (updL ρ [(0, (Sl El s2.1 Em)), (8, (I s2.2.1)), (9, (I s2.2.2))]) ∧ w = σ.w ∧ Hp S0 σ0 σ [Ch.own 0 0 (Sl El s2.1 Em) s2.1] ∧ s2.1.length = Ek.length) ⟨_, σ0, fr_join ⟨rfl, rfl, rfl, trivial⟩, rfl, H.sel' [0] rfl rfl, rfl⟩ ?_)
  clear h H
  rintro s2 a w o ⟨ρ, σ3, rfl, rfl, H, hn4⟩ h hres
  refine c_seq (c_seq (rg (sm (I s2.2.1) rfl (sm (I s2.2.2) rfl (st (v := (B (decide (s2.2.1 < s2.2.2)))) (rv_lss (a := s2.2.1) (b := s2.2.2) rfl rfl) (w_end (q_then ?_)))))))
  refine cd_cond (decide (s2.2.1 < s2.2.2)) rfl (fun hb5 => ?_) (fun hb5 => ?_)
  ·replace h := bif_t hb5 h
   refine c_skip (q_then (c_blk (c_seq ?_)))
   revert h; refine br fun x6 hx7 h => ?_
   obtain ⟨b9, o10, hi8, -⟩ := (H.own 0 rfl).ix hx7
   obtain ⟨_, ⟨_, _, rfl, rfl, rfl⟩, hl11, hc12⟩ := ((H.own 0 rfl).at hx7 hi8).cells
   revert h; refine br fun x13 hx14 h => ?_
   obtain ⟨b16, o17, hi15, -⟩ := (H.own 0 rfl).ix hx14
   obtain ⟨_, ⟨_, _, rfl, rfl, rfl⟩, hl18, hc19⟩ := ((H.own 0 rfl).at hx14 hi15).cells
   revert h; refine br fun x20 hx21 h => ?_
   obtain ⟨b23, o24, hi22, -⟩ := (H.own 0 rfl).ix hx21
   have Hs := H
   refine rg2 (σ := σ3) (Nm := Unit) 14 [13] [[false], [true]] [[(0, 0)], [(0, 0)], [(0, 0), (1, 1)], [(0, 0), (1, 1)], [(0, 0)], [(0, 0)], [(0, 0)], [(0, 0)], [(0, 0)], [(0, 0)], [(0, 0)], [(0, 0)], [(0, 0)], [(0, 1)]] 1 [fun _ => fun σm => Hp S0 σ0 σm [Ch.own 0 0 (Sl El s2.1 Em) s2.1] ∧ Md (cov []) σ3 σm, fun _ => fun σm => Hp S0 σ0 σm [Ch.own 0 0 (Sl El s2.1 Em) (s2.1.set s2.2.1.toNat (x6.1, x6.2))] ∧ Md (fun i => (cov []) i ∨ (fun b => blk (Sl El s2.1 Em) = some b) i) σ3 σm] [fun _ => (Sl El s2.1 Em), fun _ => (I s2.2.1), fun _ => (Sl El s2.1 Em), fun _ => (I s2.2.2), fun _ => (Sl El s2.1 Em), fun _ => (I s2.2.2), fun _ => (pt b9 o10), fun _ => (.agg #[(I x6.1), (I x6.2)]), fun _ => (Sl El s2.1 Em), fun _ => (I s2.2.1), fun _ => (pt b16 o17), fun _ => (.agg #[(I x13.1), (I x13.2)]), fun _ => (pt b23 o24), fun _ => undef] () (by kernel_rfl) (by kernel_rfl) ?_ ?_ ?_
   ·intro σm m0
    exact ⟨H.grow (m0.mono fun _ h => h.elim), m0⟩
   ·refine ac rfl (by
      intro k _nm ρ σm hJ hoff hdep
      have e0 := look_off (N := 34) (hoff 0 rfl) rfl
      exact dp_v (v := (Sl El s2.1 Em)) wn (rv_move e0) rfl hJ) ?_
    refine ac rfl (by
      intro k _nm ρ σm hJ hoff hdep
      have e8 := look_off (N := 34) (hoff 8 rfl) rfl
      exact dp_v (v := (I s2.2.1)) wn (rv_move e8) rfl hJ) ?_
    refine ac rfl (by
      intro k _nm ρ σm hJ hoff hdep
      have e0 := look_off (N := 34) (hoff 0 rfl) rfl
      exact dp_v (v := (Sl El s2.1 Em)) wn (rv_move e0) rfl hJ) ?_
    refine ac rfl (by
      intro k _nm ρ σm hJ hoff hdep
      have e9 := look_off (N := 34) (hoff 9 rfl) rfl
      exact dp_v (v := (I s2.2.2)) wn (rv_move e9) rfl hJ) ?_
    refine ac rfl (by
      intro k _nm ρ σm hJ hoff hdep
      have e0 := look_off (N := 34) (hoff 0 rfl) rfl
      exact dp_v (v := (Sl El s2.1 Em)) wn (rv_move e0) rfl hJ) ?_
    refine ac rfl (by
      intro k _nm ρ σm hJ hoff hdep
      have e9 := look_off (N := 34) (hoff 9 rfl) rfl
      exact dp_v (v := (I s2.2.2)) wn (rv_move e9) rfl hJ) ?_
    refine ac rfl (by
      intro k _nm ρ σm hJ hoff hdep
      have e20 := hdep 4 rfl rfl 20 rfl
      have e21 := hdep 5 rfl rfl 21 rfl
      exact dp_v (v := (pt b9 o10)) wn (rv_ix Tryz.underlying27 ti58 e20 e21 hi8) rfl hJ) ?_
    refine all_cons (by
      refine ⟨?_, ?_⟩
      ·intro _nm ρ σm hJ hoff hdep
       have e22 := hdep 6 rfl rfl 22 rfl
       obtain ⟨H, m⟩ := id hJ
       obtain ⟨_, ⟨_, _, rfl, rfl, rfl⟩, hl11, hc12⟩ := ((H.own 0 rfl).at hx7 hi8).cells
       exact dp_v (v := (.agg #[(I x6.1), (I x6.2)])) wn (rv_load Tryz.underlying58 rfl ti58 e22 hl11 hc12) rfl hJ
      trivial) ?_
    refine ac rfl (by
      intro k _nm ρ σm hJ hoff hdep
      have e0 := look_off (N := 34) (hoff 0 rfl) rfl
      exact dp_v (v := (Sl El s2.1 Em)) wn (rv_move e0) rfl hJ) ?_
    refine ac rfl (by
      intro k _nm ρ σm hJ hoff hdep
      have e8 := look_off (N := 34) (hoff 8 rfl) rfl
      exact dp_v (v := (I s2.2.1)) wn (rv_move e8) rfl hJ) ?_
    refine ac rfl (by
      intro k _nm ρ σm hJ hoff hdep
      have e24 := hdep 8 rfl rfl 24 rfl
      have e25 := hdep 9 rfl rfl 25 rfl
      exact dp_v (v := (pt b16 o17)) wn (rv_ix Tryz.underlying27 ti58 e24 e25 hi15) rfl hJ) ?_
    refine all_cons (by
      refine ⟨?_, ?_⟩
      ·intro _nm ρ σm hJ hoff hdep
       have e26 := hdep 10 rfl rfl 26 rfl
       obtain ⟨H, m⟩ := id hJ
       obtain ⟨_, ⟨_, _, rfl, rfl, rfl⟩, hl18, hc19⟩ := ((H.own 0 rfl).at hx14 hi15).cells
       exact dp_v (v := (.agg #[(I x13.1), (I x13.2)])) wn (rv_load Tryz.underlying58 rfl ti58 e26 hl18 hc19) rfl hJ
      trivial) ?_
    refine ac rfl (by
      intro k _nm ρ σm hJ hoff hdep
      have e16 := hdep 0 rfl rfl 16 rfl
      have e17 := hdep 1 rfl rfl 17 rfl
      exact dp_v (v := (pt b23 o24)) wn (rv_ix Tryz.underlying27 ti58 e16 e17 hi22) rfl hJ) ?_
    refine all_cons (by
      refine ⟨?_, ?_⟩
      ·intro _nm ρ σm hJ hoff hdep
       have e28 := hdep 12 rfl rfl 28 rfl
       have e23 := hdep 7 rfl rfl 23 rfl
       obtain ⟨H, m⟩ := id hJ
       refine dp_exS wn rfl (ex_store_own (e' := (x6.1, x6.2)) (vs := [(I x6.1), (I x6.2)]) (k := 0) H (i := 0) rfl ti58 hx21 hi22 e28 rfl e23 rfl rfl (Nat.le_of_ble_eq_true rfl) (by simp [plain]) (by rintro _ ⟨_, _, rfl, rfl, rfl⟩; exact ⟨[(I x6.1)], [(I x6.2)], rfl, rfl, rfl⟩)) ?_
       rintro σq ⟨H2, m2⟩
       exact ⟨_, (), rfl, ⟨H2.sel' [0] rfl rfl, m.comp m2⟩, stab [0, 1, 2, 3, 4, 5, 6, 7, 8, 9, 10, 11, 12] (by kernel_rfl) ⟨rfl, rfl, rfl, rfl, rfl, rfl, rfl, rfl, rfl, rfl, rfl, rfl, rfl, trivial⟩⟩
      trivial) ?_
    exact all_nil
   ·intro _nm ρ σ25 hJ hoff hrel
    have e0 := look_off (N := 34) (hoff 0 rfl) rfl
    have e8 := look_off (N := 34) (hoff 8 rfl) rfl
    have e9 := look_off (N := 34) (hoff 9 rfl) rfl
    have e18 := hrel 2 rfl 18 rfl
    have e19 := hrel 3 rfl 19 rfl
    have e27 := hrel 11 rfl 27 rfl
    obtain ⟨H, -⟩ := (show Hp S0 σ0 σ25 [Ch.own 0 0 (Sl El s2.1 Em) (s2.1.set s2.2.1.toNat (x6.1, x6.2))] ∧ Md (fun i => (cov []) i ∨ (fun b => blk (Sl El s2.1 Em) = some b) i) σ3 σ25 from hJ)
    clear hJ Hs
    rw [fr_lookL (L := [(0, (Sl El s2.1 Em)), (8, (I s2.2.1)), (9, (I s2.2.2)), (18, (Sl El s2.1 Em)), (19, (I s2.2.2)), (27, (.agg #[(I x13.1), (I x13.2)]))]) ⟨e0, e8, e9, e18, e19, e27, trivial⟩]
    clear hoff hrel e0 e8 e9 e18 e19 e27
    have hsl : (Sl El s2.1 Em) = (Sl El (s2.1.set s2.2.1.toNat (x6.1, x6.2)) Em) := sl_len (by simp)
    rw [hsl]; rw [hsl] at H; clear hsl
    revert h; refine br fun x26 hx27 h => ?_
    obtain ⟨b29, o30, hi28, -⟩ := (H.own 0 rfl).ix hx27
    refine st (v := (pt b29 o30)) (rv_ix Tryz.underlying27 ti58 rfl rfl hi28) ?_
    refine st_exS (ex_store_own (e' := (x13.1, x13.2)) (vs := [(I x13.1), (I x13.2)]) (k := 0) H (i := 0) rfl ti58 hx27 hi28 rfl rfl rfl rfl rfl (Nat.le_of_ble_eq_true rfl) (by simp [plain]) (by rintro _ ⟨_, _, rfl, rfl, rfl⟩; exact ⟨[(I x13.1)], [(I x13.2)], rfl, rfl, rfl⟩)) wn ?_
    rintro σ31 ⟨H, -⟩
    have hsl : (Sl El (s2.1.set s2.2.1.toNat (x6.1, x6.2)) Em) = (Sl El ((s2.1.set s2.2.1.toNat (x6.1, x6.2)).set s2.2.2.toNat (x13.1, x13.2)) Em) := sl_len List.length_set.symm
    rw [hsl]; rw [hsl] at H; clear hsl
    refine w_end (q_then (c_seq (rg (sm (I s2.2.1) rfl (st (v := (I (w64 (s2.2.1 + 1)))) (rv_add (a := s2.2.1) (b := 1) rfl rfl) (sa (I (w64 (s2.2.1 + 1))) rfl (w_end (q_then (rg (sm (I s2.2.2) rfl (st (v := (I (w64 (s2.2.2 - 1)))) (rv_sub (a := s2.2.2) (b := 1) rfl rfl) ?_)))))))))))
    refine sa (I (w64 (s2.2.2 - 1))) rfl (w_end (q_blk (q_then ?_)))
    obtain rfl := sj h
    exact ⟨_, rfl, _, σ31, fr_join ⟨rfl, rfl, rfl, trivial⟩, rfl, H.sel' [0] rfl rfl, (List.length_set.trans (List.length_set.trans hn4))⟩
  ·replace h := bif_f hb5 h
   refine c_exit (q_then_x (q_then_x (q_blk_hit ?_)))
   obtain rfl := sj h
   obtain rfl := hres _ rfl
   exact ⟨rfl, _, σ3, fr_join ⟨rfl, trivial⟩, rfl, H.sel' [0] rfl rfl, hn4⟩
 ·clear hj
  have h := h'
  clear h' H
  rintro e a w ⟨rfl, ρ, σ32, rfl, rfl, H, hn33⟩
  obtain rfl := sj h
  exact fin_end (v := (.tuple #[])) (results_ok Tryz.results88 res_nil rfl) ⟨rfl, rfl, hn33⟩ (H.sel' [0] rfl rfl)

theorem c_slices_partialInsertionSortCmpFunc_impl_Hit__impl_compareHits {Ek : List (Int × Int)} {Bf : Int} {Bg : Int} {El : Option Addr} {Em : Nat} {r : Bool × (List (Int × Int))} (h : M.slices_partialInsertionSortCmpFunc_impl_Hit__impl_compareHits Ek Bf Bg = some r) :
    Cal2 Tryz.prog 89 [(Sl El Ek Em), (I Bf), (I Bg), (.func (.func 61) #[] #[])] [Ch.own 0 0 (Sl El Ek Em) Ek] (fun n0 v L => v = (B r.1) ∧ L = [Ch.own 0 0 (Sl El r.2 Em) r.2] ∧ r.2.length = Ek.length) := by
 refine cal2 (n := 141) Tryz.func89 rfl rfl rfl rfl ?_
 intro S0 σ0 n0 hn0 H
 unfold M.slices_partialInsertionSortCmpFunc_impl_Hit__impl_compareHits at h
 refine c_seq (rg (sa (B false) rfl (w_end (q_then (c_seq (rg (sm (I Bf) rfl (st (v := (I (w64 (Bf + 1)))) (rv_add (a := Bf) (b := 1) rfl rfl) (sa (I (w64 (Bf + 1))) rfl (w_end (q_then ?_)))))))))))
 refine c_seq (c_seq (rg (sa (I 0) rfl (w_end (q_then ?_)))))
 obtain ⟨o1, hj, h'⟩ := bind_some h
 clear h
 refine c_cut (fun e a w => (∃ t, o1 = (.inl t) ∧ e = .normal ∧ ∃ (ρ : Nat → Value) (σ : St), a = fr 141 (updL ρ [(0, (Sl El t Em))]) ∧ w = σ.w ∧ Hp S0 σ0 σ [Ch.own 0 0 (Sl El t Em) t] ∧ t.length = Ek.length) ∨ (∃ t, o1 = (.inr t) ∧ e = .ret ∧ ∃ (ρ : Nat → Value) (σ : St), a = fr 141 (updL ρ [(0, (Sl El t.1 Em)), (8, (B t.2))]) ∧ w = σ.w ∧ Hp S0 σ0 σ [Ch.own 0 0 (Sl El t.1 Em) t.1] ∧ t.1.length = Ek.length)) ?_ ?_
 ·clear h'
  rename _ = some o1 => h
  refine c_blk (wp_loopM _ h (fun s2 a w => ∃ (ρ : Nat → Value) (σ : St), a = fr 141 (updL ρ [(0, (Sl El s2.1 Em)), (1, (I Bf)), (2, (I Bg)), (3, (.func (.func 61) #[] #[])), (9, (I s2.2.1)), (10, (I s2.2.2))]) ∧ w = σ.w ∧ Hp S0 σ0 σ [Ch.own 0 0 (Sl El s2.1 Em) s2.1] ∧ s2.1.length = Ek.length) ⟨_, σ0, fr_join ⟨rfl, rfl, rfl, rfl, rfl, rfl, trivial⟩, rfl, H.sel' [0] rfl rfl, rfl⟩ ?_)
  clear h H
  rintro s2 a w o ⟨ρ, σ3, rfl, rfl, H, hn4⟩ h hres
  refine c_seq (c_seq (rg (sm (I s2.2.2) rfl (st (v := (B (decide (s2.2.2 < 5)))) (rv_lss (a := s2.2.2) (b := 5) rfl rfl) (w_end (q_then ?_))))))
  refine cd_cond (decide (s2.2.2 < 5)) rfl (fun hb5 => ?_) (fun hb5 => ?_)
  ·replace h := bif_t hb5 h
   refine c_skip (q_then (c_seq ?_))
   obtain ⟨o6, hj, h'⟩ := bind_some h
   clear h
   refine c_cut (fun e a w => (∃ t, o6 = (.inl t) ∧ e = .normal ∧ ∃ (ρ : Nat → Value) (σ : St), a = fr 141 (updL ρ [(0, (Sl El t.1 Em)), (1, (I Bf)), (2, (I Bg)), (3, (.func (.func 61) #[] #[])), (9, (I t.2)), (10, (I s2.2.2))]) ∧ w = σ.w ∧ Hp S0 σ0 σ [Ch.own 0 0 (Sl El t.1 Em) t.1] ∧ t.1.length = s2.1.length) ∨ (∃ t, o6 = (.inr t) ∧ e = .ret ∧ ∃ (ρ : Nat → Value) (σ : St), a = fr 141 (updL ρ [(0, (Sl El t.1 Em)), (8, (B t.2))]) ∧ w = σ.w ∧ Hp S0 σ0 σ [Ch.own 0 0 (Sl El t.1 Em) t.1] ∧ t.1.length = s2.1.length)) ?_ ?_
   ·clear h'
    rename _ = some o6 => h
    refine c_blk (c_seq ?_)
    obtain ⟨o7, hj, h'⟩ := bind_some h
    clear h
    refine c_cut (fun e a w => e = .normal ∧ ∃ (ρ : Nat → Value) (σ : St), a = fr 141 (updL ρ [(0, (Sl El s2.1 Em)), (1, (I Bf)), (2, (I Bg)), (3, (.func (.func 61) #[] #[])), (9, (I o7)), (10, (I s2.2.2))]) ∧ w = σ.w ∧ Hp S0 σ0 σ [Ch.own 0 0 (Sl El s2.1 Em) s2.1]) ?_ ?_
    ·clear h'
     rename _ = some o7 => h
     refine c_blk (wp_loopM _ h (fun s8 a w => ∃ (ρ : Nat → Value) (σ : St), a = fr 141 (updL ρ [(0, (Sl El s2.1 Em)), (1, (I Bf)), (2, (I Bg)), (3, (.func (.func 61) #[] #[])), (9, (I s8)), (10, (I s2.2.2))]) ∧ w = σ.w ∧ Hp S0 σ0 σ [Ch.own 0 0 (Sl El s2.1 Em) s2.1]) ⟨_, σ3, fr_join ⟨rfl, rfl, rfl, rfl, rfl, rfl, trivial⟩, rfl, H.sel' [0] rfl rfl⟩ ?_)
     clear h H
     rintro s8 a w o ⟨ρ, σ9, rfl, rfl, H⟩ h hres
     refine c_seq (c_seq ?_)
     obtain ⟨o10, hj, h'⟩ := bind_some h
     clear h
     refine c_cut (fun e a w => e = .normal ∧ ∃ (ρ : Nat → Value) (σ : St), a = fr 141 (updL ρ [(0, (Sl El s2.1 Em)), (1, (I Bf)), (2, (I Bg)), (3, (.func (.func 61) #[] #[])), (9, (I s8)), (10, (I s2.2.2)), (36, (B o10))]) ∧ w = σ.w ∧ Hp S0 σ0 σ [Ch.own 0 0 (Sl El s2.1 Em) s2.1]) ?_ ?_
     ·clear h'
      rename _ = some o10 => h
      refine rgP (σ := σ9) 14 (by kernel_rfl) (by kernel_rfl) (by kernel_rfl) ?_
      refine sq (v := (I s8)) (rv_move rfl) (sq (v := (I Bg)) (rv_move rfl) (sq (v := (B (decide (s8 < Bg)))) (rv_lss (a := s8) (b := Bg) rfl rfl) (sq (v := (B (decide (s8 < Bg)))) (rv_move rfl) ?_)))
      rcases Bool.eq_false_or_eq_true (decide (s8 < Bg)) with hb11 | hb11
      ·replace h := bif_t hb11 h
       refine sq_g (v := (.func (.func 61) #[] #[])) (congrArg some hb11) (rv_move rfl) (sq_g (v := (Sl El s2.1 Em)) (congrArg some hb11) (rv_move rfl) (sq_g (v := (I s8)) (congrArg some hb11) (rv_move rfl) ?_))
       revert h; refine br fun x12 hx13 h => ?_
       obtain ⟨b15, o16, hi14, -⟩ := (H.own 0 rfl).ix hx13
       refine sq_g (v := (pt b15 o16)) (congrArg some hb11) (rv_ix Tryz.underlying27 ti58 rfl rfl hi14) ?_
       obtain ⟨_, ⟨_, _, rfl, rfl, rfl⟩, hl17, hc18⟩ := ((H.own 0 rfl).at hx13 hi14).cells
       refine sq_g (v := (.agg #[(I x12.1), (I x12.2)])) (congrArg some hb11) (rv_load Tryz.underlying58 rfl ti58 rfl hl17 hc18) (sq_g (v := (Sl El s2.1 Em)) (congrArg some hb11) (rv_move rfl) (sq_g (v := (I s8)) (congrArg some hb11) (rv_move rfl) (sq_g (v := (I (w64 (s8 - 1)))) (congrArg some hb11) (rv_sub (a := s8) (b := 1) rfl rfl) ?_)))
       revert h; refine br fun x19 hx20 h => ?_
       obtain ⟨b22, o23, hi21, -⟩ := (H.own 0 rfl).ix hx20
       refine sq_g (v := (pt b22 o23)) (congrArg some hb11) (rv_ix Tryz.underlying27 ti58 rfl rfl hi21) ?_
       obtain ⟨_, ⟨_, _, rfl, rfl, rfl⟩, hl24, hc25⟩ := ((H.own 0 rfl).at hx20 hi21).cells
       refine sq_g (v := (.agg #[(I x19.1), (I x19.2)])) (congrArg some hb11) (rv_load Tryz.underlying58 rfl ti58 rfl hl24 hc25) (sq_end ?_)
       intro σ26 hm27
       replace H := H.grow (hm27.mono fun _ h => h); clear hm27
       revert h; refine br fun r28 hx29 h => ?_
       have hc30 := c_impl_compareHits hx29
       refine st_call (cx_call hc30 (ent_v (cap := []) hc30.fn rfl rfl) hn0 (H.sel' [0] rfl rfl : Hp S0 σ0 _ ([] ++ _))) (wanted_yes rfl (by exact (congrArg some hb11))) ?_
       rintro _ σ31 ⟨_, ⟨rfl, rfl⟩, H, -⟩
       replace H : Hp _ _ _ [_] := H
       refine st_g (v := (B (decide (r28 < 0)))) (congrArg some hb11) (rv_lss (a := r28) (b := 0) rfl rfl) (st_g (v := (B (!(decide (r28 < 0))))) (congrArg some hb11) (rv_not rfl) (st (v := (B (!(decide (r28 < 0))))) (rv_pick_t (congrArg B hb11) rfl) (w_end ?_)))
       obtain rfl := sj h
       exact ⟨rfl, _, σ31, fr_join ⟨rfl, rfl, rfl, rfl, rfl, rfl, rfl, trivial⟩, rfl, H.sel' [0] rfl rfl⟩
      ·replace h := bif_f hb11 h
       refine sq_skip (congrArg some hb11) (sq_skip (congrArg some hb11) (sq_skip (congrArg some hb11) (sq_skip (congrArg some hb11) (sq_skip (congrArg some hb11) (sq_skip (congrArg some hb11) (sq_skip (congrArg some hb11) (sq_skip (congrArg some hb11) (sq_skip (congrArg some hb11) (sq_skip (congrArg some hb11) (sq_end ?_))))))))))
       intro σ32 hm33
       replace H := H.grow (hm33.mono fun _ h => h); clear hm33
       refine st_skip (congrArg some hb11) (st_skip (congrArg some hb11) (st_skip (congrArg some hb11) (st (v := (B false)) (rv_pick_f (congrArg B hb11) rfl) (w_end ?_))))
       obtain rfl := sj h
       exact ⟨rfl, _, σ32, fr_join ⟨rfl, rfl, rfl, rfl, rfl, rfl, rfl, trivial⟩, rfl, H.sel' [0] rfl rfl⟩
     ·clear hj
      have h := h'
      clear h' H
      rintro e a w ⟨rfl, ρ, σ34, rfl, rfl, H⟩
      refine q_then ?_
      refine cd_cond o10 rfl (fun hb35 => ?_) (fun hb35 => ?_)
      ·replace h := bif_t hb35 h
       refine c_skip (q_then (c_blk (rg (sm (I s8) rfl (st (v := (I (w64 (s8 + 1)))) (rv_add (a := s8) (b := 1) rfl rfl) (sa (I (w64 (s8 + 1))) rfl (w_end (q_blk (q_then ?_)))))))))
       obtain rfl := sj h
       exact ⟨_, rfl, _, σ34, fr_join ⟨rfl, rfl, rfl, rfl, rfl, rfl, trivial⟩, rfl, H.sel' [0] rfl rfl⟩
      ·replace h := bif_f hb35 h
       refine c_exit (q_then_x (q_then_x (q_blk_hit ?_)))
       obtain rfl := sj h
       obtain rfl := hres _ rfl
       exact ⟨rfl, _, σ34, fr_join ⟨rfl, rfl, rfl, rfl, rfl, rfl, trivial⟩, rfl, H.sel' [0] rfl rfl⟩
    ·clear hj
     have h := h'
     clear h' H
     rintro e a w ⟨rfl, ρ, σ36, rfl, rfl, H⟩
     refine q_then (c_seq (c_seq (rg (sm (I o7) rfl (sm (I Bg) rfl (st (v := (B (o7 == Bg))) (rv_eql (a := o7) (b := Bg) rfl rfl) (w_end (q_then ?_))))))))
     refine cd_cond (o7 == Bg) rfl (fun hb37 => ?_) (fun hb37 => ?_)
     ·replace h := bif_t hb37 h
      refine c_seq (rg (sa (B true) rfl (w_end (q_then (c_ret (q_then_r (q_blk_r ?_)))))))
      obtain rfl := sj h
      exact .inr (⟨_, rfl, rfl, _, σ36, fr_join ⟨rfl, rfl, trivial⟩, rfl, H.sel' [0] rfl rfl, rfl⟩)
     ·replace h := bif_f hb37 h
      refine c_skip (q_then (c_seq (c_seq (rg (sm (I Bg) rfl (sm (I Bf) rfl (st (v := (I (w64 (Bg - Bf)))) (rv_sub (a := Bg) (b := Bf) rfl rfl) (st (v := (B (decide ((w64 (Bg - Bf)) < 50)))) (rv_lss (a := (w64 (Bg - Bf))) (b := 50) rfl rfl) (w_end (q_then ?_))))))))))
      refine cd_cond (decide ((w64 (Bg - Bf)) < 50)) rfl (fun hb38 => ?_) (fun hb38 => ?_)
      ·replace h := bif_t hb38 h
       refine c_seq (rg (sa (B false) rfl (w_end (q_then (c_ret (q_then_r (q_blk_r ?_)))))))
       obtain rfl := sj h
       exact .inr (⟨_, rfl, rfl, _, σ36, fr_join ⟨rfl, rfl, trivial⟩, rfl, H.sel' [0] rfl rfl, rfl⟩)
      ·replace h := bif_f hb38 h
       refine c_skip (q_then (c_seq ?_))
       revert h; refine br fun x39 hx40 h => ?_
       obtain ⟨b42, o43, hi41, -⟩ := (H.own 0 rfl).ix hx40
       obtain ⟨_, ⟨_, _, rfl, rfl, rfl⟩, hl44, hc45⟩ := ((H.own 0 rfl).at hx40 hi41).cells
       revert h; refine br fun x46 hx47 h => ?_
       obtain ⟨b49, o50, hi48, -⟩ := (H.own 0 rfl).ix hx47
       obtain ⟨_, ⟨_, _, rfl, rfl, rfl⟩, hl51, hc52⟩ := ((H.own 0 rfl).at hx47 hi48).cells
       revert h; refine br fun x53 hx54 h => ?_
       obtain ⟨b56, o57, hi55, -⟩ := (H.own 0 rfl).ix hx54
       have Hs := H
       refine rg2 (σ := σ36) (Nm := Unit) 16 [15] [[false], [true]] [[(0, 0)], [(0, 0)], [(0, 0), (1, 1)], [(0, 0), (1, 1)], [(0, 0), (1, 1)], [(0, 0)], [(0, 0)], [(0, 0)], [(0, 0)], [(0, 0)], [(0, 0)], [(0, 0)], [(0, 0)], [(0, 0)], [(0, 0)], [(0, 1)]] 1 [fun _ => fun σm => Hp S0 σ0 σm [Ch.own 0 0 (Sl El s2.1 Em) s2.1] ∧ Md (cov []) σ36 σm, fun _ => fun σm => Hp S0 σ0 σm [Ch.own 0 0 (Sl El s2.1 Em) (s2.1.set o7.toNat (x39.1, x39.2))] ∧ Md (fun i => (cov []) i ∨ (fun b => blk (Sl El s2.1 Em) = some b) i) σ36 σm] [fun _ => (Sl El s2.1 Em), fun _ => (I o7), fun _ => (Sl El s2.1 Em), fun _ => (I o7), fun _ => (I (w64 (o7 - 1))), fun _ => (Sl El s2.1 Em), fun _ => (I o7), fun _ => (I (w64 (o7 - 1))), fun _ => (pt b42 o43), fun _ => (.agg #[(I x39.1), (I x39.2)]), fun _ => (Sl El s2.1 Em), fun _ => (I o7), fun _ => (pt b49 o50), fun _ => (.agg #[(I x46.1), (I x46.2)]), fun _ => (pt b56 o57), fun _ => undef] () (by kernel_rfl) (by kernel_rfl) ?_ ?_ ?_
       ·intro σm m0
        exact ⟨H.grow (m0.mono fun _ h => h.elim), m0⟩
       ·refine ac rfl (by
          intro k _nm ρ σm hJ hoff hdep
          have e0 := look_off (N := 141) (hoff 0 rfl) rfl
          exact dp_v (v := (Sl El s2.1 Em)) wn (rv_move e0) rfl hJ) ?_
        refine ac rfl (by
          intro k _nm ρ σm hJ hoff hdep
          have e9 := look_off (N := 141) (hoff 9 rfl) rfl
          exact dp_v (v := (I o7)) wn (rv_move e9) rfl hJ) ?_
        refine ac rfl (by
          intro k _nm ρ σm hJ hoff hdep
          have e0 := look_off (N := 141) (hoff 0 rfl) rfl
          exact dp_v (v := (Sl El s2.1 Em)) wn (rv_move e0) rfl hJ) ?_
        refine ac rfl (by
          intro k _nm ρ σm hJ hoff hdep
          have e9 := look_off (N := 141) (hoff 9 rfl) rfl
          exact dp_v (v := (I o7)) wn (rv_move e9) rfl hJ) ?_
        refine ac rfl (by
          intro k _nm ρ σm hJ hoff hdep
          have e49 := hdep 3 rfl rfl 49 rfl
          exact dp_v (v := (I (w64 (o7 - 1)))) wn (rv_sub (a := o7) (b := 1) e49 rfl) rfl hJ) ?_
        refine ac rfl (by
          intro k _nm ρ σm hJ hoff hdep
          have e0 := look_off (N := 141) (hoff 0 rfl) rfl
          exact dp_v (v := (Sl El s2.1 Em)) wn (rv_move e0) rfl hJ) ?_
        refine ac rfl (by
          intro k _nm ρ σm hJ hoff hdep
          have e9 := look_off (N := 141) (hoff 9 rfl) rfl
          exact dp_v (v := (I o7)) wn (rv_move e9) rfl hJ) ?_
        refine ac rfl (by
          intro k _nm ρ σm hJ hoff hdep
          have e52 := hdep 6 rfl rfl 52 rfl
          exact dp_v (v := (I (w64 (o7 - 1)))) wn (rv_sub (a := o7) (b := 1) e52 rfl) rfl hJ) ?_
        refine ac rfl (by
          intro k _nm ρ σm hJ hoff hdep
          have e51 := hdep 5 rfl rfl 51 rfl
          have e53 := hdep 7 rfl rfl 53 rfl
          exact dp_v (v := (pt b42 o43)) wn (rv_ix Tryz.underlying27 ti58 e51 e53 hi41) rfl hJ) ?_
        refine all_cons (by
          refine ⟨?_, ?_⟩
          ·intro _nm ρ σm hJ hoff hdep
           have e54 := hdep 8 rfl rfl 54 rfl
           obtain ⟨H, m⟩ := id hJ
           obtain ⟨_, ⟨_, _, rfl, rfl, rfl⟩, hl44, hc45⟩ := ((H.own 0 rfl).at hx40 hi41).cells
           exact dp_v (v := (.agg #[(I x39.1), (I x39.2)])) wn (rv_load Tryz.underlying58 rfl ti58 e54 hl44 hc45) rfl hJ
          trivial) ?_
        refine ac rfl (by
          intro k _nm ρ σm hJ hoff hdep
          have e0 := look_off (N := 141) (hoff 0 rfl) rfl
          exact dp_v (v := (Sl El s2.1 Em)) wn (rv_move e0) rfl hJ) ?_
        refine ac rfl (by
          intro k _nm ρ σm hJ hoff hdep
          have e9 := look_off (N := 141) (hoff 9 rfl) rfl
          exact dp_v (v := (I o7)) wn (rv_move e9) rfl hJ) ?_
        refine ac rfl (by
          intro k _nm ρ σm hJ hoff hdep
          have e56 := hdep 10 rfl rfl 56 rfl
          have e57 := hdep 11 rfl rfl 57 rfl
          exact dp_v (v := (pt b49 o50)) wn (rv_ix Tryz.underlying27 ti58 e56 e57 hi48) rfl hJ) ?_
        refine all_cons (by
          refine ⟨?_, ?_⟩
          ·intro _nm ρ σm hJ hoff hdep
           have e58 := hdep 12 rfl rfl 58 rfl
           obtain ⟨H, m⟩ := id hJ
           obtain ⟨_, ⟨_, _, rfl, rfl, rfl⟩, hl51, hc52⟩ := ((H.own 0 rfl).at hx47 hi48).cells
           exact dp_v (v := (.agg #[(I x46.1), (I x46.2)])) wn (rv_load Tryz.underlying58 rfl ti58 e58 hl51 hc52) rfl hJ
          trivial) ?_
        refine ac rfl (by
          intro k _nm ρ σm hJ hoff hdep
          have e46 := hdep 0 rfl rfl 46 rfl
          have e47 := hdep 1 rfl rfl 47 rfl
          exact dp_v (v := (pt b56 o57)) wn (rv_ix Tryz.underlying27 ti58 e46 e47 hi55) rfl hJ) ?_
        refine all_cons (by
          refine ⟨?_, ?_⟩
          ·intro _nm ρ σm hJ hoff hdep
           have e60 := hdep 14 rfl rfl 60 rfl
           have e55 := hdep 9 rfl rfl 55 rfl
           obtain ⟨H, m⟩ := id hJ
           refine dp_exS wn rfl (ex_store_own (e' := (x39.1, x39.2)) (vs := [(I x39.1), (I x39.2)]) (k := 0) H (i := 0) rfl ti58 hx54 hi55 e60 rfl e55 rfl rfl (Nat.le_of_ble_eq_true rfl) (by simp [plain]) (by rintro _ ⟨_, _, rfl, rfl, rfl⟩; exact ⟨[(I x39.1)], [(I x39.2)], rfl, rfl, rfl⟩)) ?_
           rintro σq ⟨H2, m2⟩
           exact ⟨_, (), rfl, ⟨H2.sel' [0] rfl rfl, m.comp m2⟩, stab [0, 1, 2, 3, 4, 5, 6, 7, 8, 9, 10, 11, 12, 13, 14] (by kernel_rfl) ⟨rfl, rfl, rfl, rfl, rfl, rfl, rfl, rfl, rfl, rfl, rfl, rfl, rfl, rfl, rfl, trivial⟩⟩
          trivial) ?_
        exact all_nil
       ·intro _nm ρ σ58 hJ hoff hrel
        have e0 := look_off (N := 141) (hoff 0 rfl) rfl
        have e1 := look_off (N := 141) (hoff 1 rfl) rfl
        have e2 := look_off (N := 141) (hoff 2 rfl) rfl
        have e3 := look_off (N := 141) (hoff 3 rfl) rfl
        have e9 := look_off (N := 141) (hoff 9 rfl) rfl
        have e10 := look_off (N := 141) (hoff 10 rfl) rfl
        have e48 := hrel 2 rfl 48 rfl
        have e50 := hrel 4 rfl 50 rfl
        have e59 := hrel 13 rfl 59 rfl
        obtain ⟨H, -⟩ := (show Hp S0 σ0 σ58 [Ch.own 0 0 (Sl El s2.1 Em) (s2.1.set o7.toNat (x39.1, x39.2))] ∧ Md (fun i => (cov []) i ∨ (fun b => blk (Sl El s2.1 Em) = some b) i) σ36 σ58 from hJ)
        clear hJ Hs
        rw [fr_lookL (L := [(0, (Sl El s2.1 Em)), (1, (I Bf)), (2, (I Bg)), (3, (.func (.func 61) #[] #[])), (9, (I o7)), (10, (I s2.2.2)), (48, (Sl El s2.1 Em)), (50, (I (w64 (o7 - 1)))), (59, (.agg #[(I x46.1), (I x46.2)]))]) ⟨e0, e1, e2, e3, e9, e10, e48, e50, e59, trivial⟩]
        clear hoff hrel e0 e1 e2 e3 e9 e10 e48 e50 e59
        have hsl : (Sl El s2.1 Em) = (Sl El (s2.1.set o7.toNat (x39.1, x39.2)) Em) := sl_len (by simp)
        rw [hsl]; rw [hsl] at H; clear hsl
        revert h; refine br fun x59 hx60 h => ?_
        obtain ⟨b62, o63, hi61, -⟩ := (H.own 0 rfl).ix hx60
        refine st (v := (pt b62 o63)) (rv_ix Tryz.underlying27 ti58 rfl rfl hi61) ?_
        refine st_exS (ex_store_own (e' := (x46.1, x46.2)) (vs := [(I x46.1), (I x46.2)]) (k := 0) H (i := 0) rfl ti58 hx60 hi61 rfl rfl rfl rfl rfl (Nat.le_of_ble_eq_true rfl) (by simp [plain]) (by rintro _ ⟨_, _, rfl, rfl, rfl⟩; exact ⟨[(I x46.1)], [(I x46.2)], rfl, rfl, rfl⟩)) wn ?_
        rintro σ64 ⟨H, -⟩
        have hsl : (Sl El (s2.1.set o7.toNat (x39.1, x39.2)) Em) = (Sl El ((s2.1.set o7.toNat (x39.1, x39.2)).set (w64 (o7 - 1)).toNat (x46.1, x46.2)) Em) := sl_len List.length_set.symm
        rw [hsl]; rw [hsl] at H; clear hsl
        refine w_end (q_then (c_seq (c_seq (rg (sm (I o7) rfl (sm (I Bf) rfl (st (v := (I (w64 (o7 - Bf)))) (rv_sub (a := o7) (b := Bf) rfl rfl) (st (v := (B (decide (2 ≤ (w64 (o7 - Bf)))))) (rv_geq (a := (w64 (o7 - Bf))) (b := 2) rfl rfl) (w_end (q_then ?_))))))))))
        obtain ⟨o65, hj, h'⟩ := bind_some h
        clear h
        refine c_cut (fun e a w => e = .normal ∧ ∃ (ρ : Nat → Value) (σ : St), a = fr 141 (updL ρ [(0, (Sl El o65 Em)), (1, (I Bf)), (2, (I Bg)), (3, (.func (.func 61) #[] #[])), (9, (I o7)), (10, (I s2.2.2))]) ∧ w = σ.w ∧ Hp S0 σ0 σ [Ch.own 0 0 (Sl El o65 Em) o65] ∧ o65.length = ((s2.1.set o7.toNat (x39.1, x39.2)).set (w64 (o7 - 1)).toNat (x46.1, x46.2)).length) ?_ ?_
        ·clear h'
         rename _ = some o65 => h
         refine cd_cond (decide (2 ≤ (w64 (o7 - Bf)))) rfl (fun hb66 => ?_) (fun hb66 => ?_)
         ·replace h := bif_t hb66 h
          refine c_seq (rg (sm (I o7) rfl (st (v := (I (w64 (o7 - 1)))) (rv_sub (a := o7) (b := 1) rfl rfl) (sa (I (w64 (o7 - 1))) rfl (w_end (q_then ?_))))))
          obtain ⟨o67, hj, h'⟩ := bind_some h
          clear h
          refine c_cut (fun e a w => e = .normal ∧ ∃ (ρ : Nat → Value) (σ : St), a = fr 141 (updL ρ [(0, (Sl El o67 Em)), (1, (I Bf)), (2, (I Bg)), (3, (.func (.func 61) #[] #[])), (9, (I o7)), (10, (I s2.2.2))]) ∧ w = σ.w ∧ Hp S0 σ0 σ [Ch.own 0 0 (Sl El o67 Em) o67] ∧ o67.length = ((s2.1.set o7.toNat (x39.1, x39.2)).set (w64 (o7 - 1)).toNat (x46.1, x46.2)).length) ?_ ?_
          ·clear h'
           rename _ = some o67 => h
           refine c_blk (wp_loopM _ h (fun s68 a w => ∃ (ρ : Nat → Value) (σ : St), a = fr 141 (updL ρ [(0, (Sl El s68.1 Em)), (1, (I Bf)), (2, (I Bg)), (3, (.func (.func 61) #[] #[])), (9, (I o7)), (10, (I s2.2.2)), (11, (I s68.2))]) ∧ w = σ.w ∧ Hp S0 σ0 σ [Ch.own 0 0 (Sl El s68.1 Em) s68.1] ∧ s68.1.length = ((s2.1.set o7.toNat (x39.1, x39.2)).set (w64 (o7 - 1)).toNat (x46.1, x46.2)).length) ⟨_, σ64, fr_join ⟨rfl, rfl, rfl, rfl, rfl, rfl, rfl, trivial⟩, rfl, H.sel' [0] rfl rfl, rfl⟩ ?_)
           clear h H
           rintro s68 a w o ⟨ρ, σ69, rfl, rfl, H, hn70⟩ h hres
           refine c_seq (c_seq (rg (sm (I s68.2) rfl (st (v := (B (decide (1 ≤ s68.2)))) (rv_geq (a := s68.2) (b := 1) rfl rfl) (w_end (q_then ?_))))))
           refine cd_cond (decide (1 ≤ s68.2)) rfl (fun hb71 => ?_) (fun hb71 => ?_)
           ·replace h := bif_t hb71 h
            refine c_skip (q_then (c_seq (c_blk (c_seq (c_seq ?_)))))
            refine rgP (σ := σ69) 10 (by kernel_rfl) (by kernel_rfl) (by kernel_rfl) ?_
            refine sq (v := (.func (.func 61) #[] #[])) (rv_move rfl) (sq (v := (Sl El s68.1 Em)) (rv_move rfl) (sq (v := (I s68.2)) (rv_move rfl) ?_))
            revert h; refine br fun x72 hx73 h => ?_
            obtain ⟨b75, o76, hi74, -⟩ := (H.own 0 rfl).ix hx73
            refine sq (v := (pt b75 o76)) (rv_ix Tryz.underlying27 ti58 rfl rfl hi74) ?_
            obtain ⟨_, ⟨_, _, rfl, rfl, rfl⟩, hl77, hc78⟩ := ((H.own 0 rfl).at hx73 hi74).cells
            refine sq (v := (.agg #[(I x72.1), (I x72.2)])) (rv_load Tryz.underlying58 rfl ti58 rfl hl77 hc78) (sq (v := (Sl El s68.1 Em)) (rv_move rfl) (sq (v := (I s68.2)) (rv_move rfl) (sq (v := (I (w64 (s68.2 - 1)))) (rv_sub (a := s68.2) (b := 1) rfl rfl) ?_)))
            revert h; refine br fun x79 hx80 h => ?_
            obtain ⟨b82, o83, hi81, -⟩ := (H.own 0 rfl).ix hx80
            refine sq (v := (pt b82 o83)) (rv_ix Tryz.underlying27 ti58 rfl rfl hi81) ?_
            obtain ⟨_, ⟨_, _, rfl, rfl, rfl⟩, hl84, hc85⟩ := ((H.own 0 rfl).at hx80 hi81).cells
            refine sq (v := (.agg #[(I x79.1), (I x79.2)])) (rv_load Tryz.underlying58 rfl ti58 rfl hl84 hc85) (sq_end ?_)
            intro σ86 hm87
            replace H := H.grow (hm87.mono fun _ h => h); clear hm87
            revert h; refine br fun r88 hx89 h => ?_
            have hc90 := c_impl_compareHits hx89
            refine st_call (cx_call hc90 (ent_v (cap := []) hc90.fn rfl rfl) hn0 (H.sel' [0] rfl rfl : Hp S0 σ0 _ ([] ++ _))) wn ?_
            rintro _ σ91 ⟨_, ⟨rfl, rfl⟩, H, -⟩
            replace H : Hp _ _ _ [_] := H
            refine st (v := (B (decide (r88 < 0)))) (rv_lss (a := r88) (b := 0) rfl rfl) (st (v := (B (!(decide (r88 < 0))))) (rv_not rfl) (w_end (q_then ?_)))
            refine cd_cond (!(decide (r88 < 0))) rfl (fun hb92 => ?_) (fun hb92 => ?_)
            ·replace h := bif_t hb92 h
             refine c_exit (q_then_x ?_)
             refine q_blk_x (by decide) ?_
             refine q_then_x (q_then_x (q_blk_hit ?_))
             obtain rfl := sj h
             obtain rfl := hres _ rfl
             exact ⟨rfl, _, σ91, fr_join ⟨rfl, rfl, rfl, rfl, rfl, rfl, trivial⟩, rfl, H.sel' [0] rfl rfl, ((hn70.trans (List.length_set.trans (List.length_set.trans hn4))).trans (List.length_set.trans (List.length_set.trans hn4)).symm)⟩
            ·replace h := bif_f hb92 h
             refine c_skip (q_then ?_)
             revert h; refine br fun x93 hx94 h => ?_
             obtain ⟨b96, o97, hi95, -⟩ := (H.own 0 rfl).ix hx94
             obtain ⟨_, ⟨_, _, rfl, rfl, rfl⟩, hl98, hc99⟩ := ((H.own 0 rfl).at hx94 hi95).cells
             revert h; refine br fun x100 hx101 h => ?_
             obtain ⟨b103, o104, hi102, -⟩ := (H.own 0 rfl).ix hx101
             obtain ⟨_, ⟨_, _, rfl, rfl, rfl⟩, hl105, hc106⟩ := ((H.own 0 rfl).at hx101 hi102).cells
             revert h; refine br fun x107 hx108 h => ?_
             obtain ⟨b110, o111, hi109, -⟩ := (H.own 0 rfl).ix hx108
             have Hs := H
             refine rg2 (σ := σ91) (Nm := Unit) 16 [15] [[false], [true]] [[(0, 0)], [(0, 0)], [(0, 0), (1, 1)], [(0, 0), (1, 1)], [(0, 0), (1, 1)], [(0, 0)], [(0, 0)], [(0, 0)], [(0, 0)], [(0, 0)], [(0, 0)], [(0, 0)], [(0, 0)], [(0, 0)], [(0, 0)], [(0, 1)]] 1 [fun _ => fun σm => Hp S0 σ0 σm [Ch.own 0 0 (Sl El s68.1 Em) s68.1] ∧ Md (cov []) σ91 σm, fun _ => fun σm => Hp S0 σ0 σm [Ch.own 0 0 (Sl El s68.1 Em) (s68.1.set s68.2.toNat (x93.1, x93.2))] ∧ Md (fun i => (cov []) i ∨ (fun b => blk (Sl El s68.1 Em) = some b) i) σ91 σm] [fun _ => (Sl El s68.1 Em), fun _ => (I s68.2), fun _ => (Sl El s68.1 Em), fun _ => (I s68.2), fun _ => (I (w64 (s68.2 - 1))), fun _ => (Sl El s68.1 Em), fun _ => (I s68.2), fun _ => (I (w64 (s68.2 - 1))), fun _ => (pt b96 o97), fun _ => (.agg #[(I x93.1), (I x93.2)]), fun _ => (Sl El s68.1 Em), fun _ => (I s68.2), fun _ => (pt b103 o104), fun _ => (.agg #[(I x100.1), (I x100.2)]), fun _ => (pt b110 o111), fun _ => undef] () (by kernel_rfl) (by kernel_rfl) ?_ ?_ ?_
             ·intro σm m0
              exact ⟨H.grow (m0.mono fun _ h => h.elim), m0⟩
             ·refine ac rfl (by
                intro k _nm ρ σm hJ hoff hdep
                have e0 := look_off (N := 141) (hoff 0 rfl) rfl
                exact dp_v (v := (Sl El s68.1 Em)) wn (rv_move e0) rfl hJ) ?_
              refine ac rfl (by
                intro k _nm ρ σm hJ hoff hdep
                have e11 := look_off (N := 141) (hoff 11 rfl) rfl
                exact dp_v (v := (I s68.2)) wn (rv_move e11) rfl hJ) ?_
              refine ac rfl (by
                intro k _nm ρ σm hJ hoff hdep
                have e0 := look_off (N := 141) (hoff 0 rfl) rfl
                exact dp_v (v := (Sl El s68.1 Em)) wn (rv_move e0) rfl hJ) ?_
              refine ac rfl (by
                intro k _nm ρ σm hJ hoff hdep
                have e11 := look_off (N := 141) (hoff 11 rfl) rfl
                exact dp_v (v := (I s68.2)) wn (rv_move e11) rfl hJ) ?_
              refine ac rfl (by
                intro k _nm ρ σm hJ hoff hdep
                have e88 := hdep 3 rfl rfl 88 rfl
                exact dp_v (v := (I (w64 (s68.2 - 1)))) wn (rv_sub (a := s68.2) (b := 1) e88 rfl) rfl hJ) ?_
              refine ac rfl (by
                intro k _nm ρ σm hJ hoff hdep
                have e0 := look_off (N := 141) (hoff 0 rfl) rfl
                exact dp_v (v := (Sl El s68.1 Em)) wn (rv_move e0) rfl hJ) ?_
              refine ac rfl (by
                intro k _nm ρ σm hJ hoff hdep
                have e11 := look_off (N := 141) (hoff 11 rfl) rfl
                exact dp_v (v := (I s68.2)) wn (rv_move e11) rfl hJ) ?_
              refine ac rfl (by
                intro k _nm ρ σm hJ hoff hdep
                have e91 := hdep 6 rfl rfl 91 rfl
                exact dp_v (v := (I (w64 (s68.2 - 1)))) wn (rv_sub (a := s68.2) (b := 1) e91 rfl) rfl hJ) ?_
              refine ac rfl (by
                intro k _nm ρ σm hJ hoff hdep
                have e90 := hdep 5 rfl rfl 90 rfl
                have e92 := hdep 7 rfl rfl 92 rfl
                exact dp_v (v := (pt b96 o97)) wn (rv_ix Tryz.underlying27 ti58 e90 e92 hi95) rfl hJ) ?_
              refine all_cons (by
                refine ⟨?_, ?_⟩
                ·intro _nm ρ σm hJ hoff hdep
                 have e93 := hdep 8 rfl rfl 93 rfl
                 obtain ⟨H, m⟩ := id hJ
                 obtain ⟨_, ⟨_, _, rfl, rfl, rfl⟩, hl98, hc99⟩ := ((H.own 0 rfl).at hx94 hi95).cells
                 exact dp_v (v := (.agg #[(I x93.1), (I x93.2)])) wn (rv_load Tryz.underlying58 rfl ti58 e93 hl98 hc99) rfl hJ
                trivial) ?_
              refine ac rfl (by
                intro k _nm ρ σm hJ hoff hdep
                have e0 := look_off (N := 141) (hoff 0 rfl) rfl
                exact dp_v (v := (Sl El s68.1 Em)) wn (rv_move e0) rfl hJ) ?_
              refine ac rfl (by
                intro k _nm ρ σm hJ hoff hdep
                have e11 := look_off (N := 141) (hoff 11 rfl) rfl
                exact dp_v (v := (I s68.2)) wn (rv_move e11) rfl hJ) ?_
              refine ac rfl (by
                intro k _nm ρ σm hJ hoff hdep
                have e95 := hdep 10 rfl rfl 95 rfl
                have e96 := hdep 11 rfl rfl 96 rfl
                exact dp_v (v := (pt b103 o104)) wn (rv_ix Tryz.underlying27 ti58 e95 e96 hi102) rfl hJ) ?_
              refine all_cons (by
                refine ⟨?_, ?_⟩
                ·intro _nm ρ σm hJ hoff hdep
                 have e97 := hdep 12 rfl rfl 97 rfl
                 obtain ⟨H, m⟩ := id hJ
                 obtain ⟨_, ⟨_, _, rfl, rfl, rfl⟩, hl105, hc106⟩ := ((H.own 0 rfl).at hx101 hi102).cells
                 exact dp_v (v := (.agg #[(I x100.1), (I x100.2)])) wn (rv_load Tryz.underlying58 rfl ti58 e97 hl105 hc106) rfl hJ
                trivial) ?_
              refine ac rfl (by
                intro k _nm ρ σm hJ hoff hdep
                have e85 := hdep 0 rfl rfl 85 rfl
                have e86 := hdep 1 rfl rfl 86 rfl
                exact dp_v (v := (pt b110 o111)) wn (rv_ix Tryz.underlying27 ti58 e85 e86 hi109) rfl hJ) ?_
              refine all_cons (by
                refine ⟨?_, ?_⟩
                ·intro _nm ρ σm hJ hoff hdep
                 have e99 := hdep 14 rfl rfl 99 rfl
                 have e94 := hdep 9 rfl rfl 94 rfl
                 obtain ⟨H, m⟩ := id hJ
                 refine dp_exS wn rfl (ex_store_own (e' := (x93.1, x93.2)) (vs := [(I x93.1), (I x93.2)]) (k := 0) H (i := 0) rfl ti58 hx108 hi109 e99 rfl e94 rfl rfl (Nat.le_of_ble_eq_true rfl) (by simp [plain]) (by rintro _ ⟨_, _, rfl, rfl, rfl⟩; exact ⟨[(I x93.1)], [(I x93.2)], rfl, rfl, rfl⟩)) ?_
                 rintro σq ⟨H2, m2⟩
                 exact ⟨_, (), rfl, ⟨H2.sel' [0] rfl rfl, m.comp m2⟩, stab [0, 1, 2, 3, 4, 5, 6, 7, 8, 9, 10, 11, 12, 13, 14] (by kernel_rfl) ⟨rfl, rfl, rfl, rfl, rfl, rfl, rfl, rfl, rfl, rfl, rfl, rfl, rfl, rfl, rfl, trivial⟩⟩
                trivial) ?_
              exact all_nil
             ·intro _nm ρ σ112 hJ hoff hrel
              have e0 := look_off (N := 141) (hoff 0 rfl) rfl
              have e1 := look_off (N := 141) (hoff 1 rfl) rfl
              have e2 := look_off (N := 141) (hoff 2 rfl) rfl
              have e3 := look_off (N := 141) (hoff 3 rfl) rfl
              have e9 := look_off (N := 141) (hoff 9 rfl) rfl
              have e10 := look_off (N := 141) (hoff 10 rfl) rfl
              have e11 := look_off (N := 141) (hoff 11 rfl) rfl
              have e87 := hrel 2 rfl 87 rfl
              have e89 := hrel 4 rfl 89 rfl
              have e98 := hrel 13 rfl 98 rfl
              obtain ⟨H, -⟩ := (show Hp S0 σ0 σ112 [Ch.own 0 0 (Sl El s68.1 Em) (s68.1.set s68.2.toNat (x93.1, x93.2))] ∧ Md (fun i => (cov []) i ∨ (fun b => blk (Sl El s68.1 Em) = some b) i) σ91 σ112 from hJ)
              clear hJ Hs
              rw [fr_lookL (L := [(0, (Sl El s68.1 Em)), (1, (I Bf)), (2, (I Bg)), (3, (.func (.func 61) #[] #[])), (9, (I o7)), (10, (I s2.2.2)), (11, (I s68.2)), (87, (Sl El s68.1 Em)), (89, (I (w64 (s68.2 - 1)))), (98, (.agg #[(I x100.1), (I x100.2)]))]) ⟨e0, e1, e2, e3, e9, e10, e11, e87, e89, e98, trivial⟩]
              clear hoff hrel e0 e1 e2 e3 e9 e10 e11 e87 e89 e98
              have hsl : (Sl El s68.1 Em) = (Sl El (s68.1.set s68.2.toNat (x93.1, x93.2)) Em) := sl_len (by simp)
              rw [hsl]; rw [hsl] at H; clear hsl
              revert h; refine br fun x113 hx114 h => ?_
              obtain ⟨b116, o117, hi115, -⟩ := (H.own 0 rfl).ix hx114
              refine st (v := (pt b116 o117)) (rv_ix Tryz.underlying27 ti58 rfl rfl hi115) ?_
              refine st_exS (ex_store_own (e' := (x100.1, x100.2)) (vs := [(I x100.1), (I x100.2)]) (k := 0) H (i := 0) rfl ti58 hx114 hi115 rfl rfl rfl rfl rfl (Nat.le_of_ble_eq_true rfl) (by simp [plain]) (by rintro _ ⟨_, _, rfl, rfl, rfl⟩; exact ⟨[(I x100.1)], [(I x100.2)], rfl, rfl, rfl⟩)) wn ?_
              rintro σ118 ⟨H, -⟩
              have hsl : (Sl El (s68.1.set s68.2.toNat (x93.1, x93.2)) Em) = (Sl El ((s68.1.set s68.2.toNat (x93.1, x93.2)).set (w64 (s68.2 - 1)).toNat (x100.1, x100.2)) Em) := sl_len List.length_set.symm
              rw [hsl]; rw [hsl] at H; clear hsl
              refine w_end (q_blk (q_then (rg (sm (I s68.2) rfl (st (v := (I (w64 (s68.2 - 1)))) (rv_sub (a := s68.2) (b := 1) rfl rfl) (sa (I (w64 (s68.2 - 1))) rfl (w_end (q_then ?_))))))))
              obtain rfl := sj h
              exact ⟨_, rfl, _, σ118, fr_join ⟨rfl, rfl, rfl, rfl, rfl, rfl, rfl, trivial⟩, rfl, H.sel' [0] rfl rfl, ((List.length_set.trans (List.length_set.trans (hn70.trans (List.length_set.trans (List.length_set.trans hn4))))).trans (List.length_set.trans (List.length_set.trans hn4)).symm)⟩
           ·replace h := bif_f hb71 h
            refine c_exit (q_then_x (q_then_x (q_blk_hit ?_)))
            obtain rfl := sj h
            obtain rfl := hres _ rfl
            exact ⟨rfl, _, σ69, fr_join ⟨rfl, rfl, rfl, rfl, rfl, rfl, trivial⟩, rfl, H.sel' [0] rfl rfl, ((hn70.trans (List.length_set.trans (List.length_set.trans hn4))).trans (List.length_set.trans (List.length_set.trans hn4)).symm)⟩
          ·clear hj
           have h := h'
           clear h' H
           rintro e a w ⟨rfl, ρ, σ119, rfl, rfl, H, hn120⟩
           obtain rfl := sj h
           exact ⟨rfl, _, σ119, fr_join ⟨rfl, rfl, rfl, rfl, rfl, rfl, trivial⟩, rfl, H.sel' [0] rfl rfl, ((hn120.trans (List.length_set.trans (List.length_set.trans hn4))).trans (List.length_set.trans (List.length_set.trans hn4)).symm)⟩
         ·replace h := bif_f hb66 h
          refine c_skip ?_
          obtain rfl := sj h
          exact ⟨rfl, _, σ64, fr_join ⟨rfl, rfl, rfl, rfl, rfl, rfl, trivial⟩, rfl, H.sel' [0] rfl rfl, rfl⟩
        ·clear hj
         have h := h'
         clear h' H
         rintro e a w ⟨rfl, ρ, σ121, rfl, rfl, H, hn122⟩
         refine q_then (c_seq (rg (sm (I Bg) rfl (sm (I o7) rfl (st (v := (I (w64 (Bg - o7)))) (rv_sub (a := Bg) (b := o7) rfl rfl) (st (v := (B (decide (2 ≤ (w64 (Bg - o7)))))) (rv_geq (a := (w64 (Bg - o7))) (b := 2) rfl rfl) (w_end (q_then ?_))))))))
         refine cd_cond (decide (2 ≤ (w64 (Bg - o7)))) rfl (fun hb123 => ?_) (fun hb123 => ?_)
         ·replace h := bif_t hb123 h
          refine c_seq (rg (sm (I o7) rfl (st (v := (I (w64 (o7 + 1)))) (rv_add (a := o7) (b := 1) rfl rfl) (sa (I (w64 (o7 + 1))) rfl (w_end (q_then ?_))))))
          obtain ⟨o124, hj, h'⟩ := bind_some h
          clear h
          refine c_cut (fun e a w => e = .normal ∧ ∃ (ρ : Nat → Value) (σ : St), a = fr 141 (updL ρ [(0, (Sl El o124 Em)), (1, (I Bf)), (2, (I Bg)), (3, (.func (.func 61) #[] #[])), (9, (I o7)), (10, (I s2.2.2))]) ∧ w = σ.w ∧ Hp S0 σ0 σ [Ch.own 0 0 (Sl El o124 Em) o124] ∧ o124.length = o65.length) ?_ ?_
          ·clear h'
           rename _ = some o124 => h
           refine c_blk (wp_loopM _ h (fun s125 a w => ∃ (ρ : Nat → Value) (σ : St), a = fr 141 (updL ρ [(0, (Sl El s125.1 Em)), (1, (I Bf)), (2, (I Bg)), (3, (.func (.func 61) #[] #[])), (9, (I o7)), (10, (I s2.2.2)), (12, (I s125.2))]) ∧ w = σ.w ∧ Hp S0 σ0 σ [Ch.own 0 0 (Sl El s125.1 Em) s125.1] ∧ s125.1.length = o65.length) ⟨_, σ121, fr_join ⟨rfl, rfl, rfl, rfl, rfl, rfl, rfl, trivial⟩, rfl, H.sel' [0] rfl rfl, rfl⟩ ?_)
           clear h H
           rintro s125 a w o ⟨ρ, σ126, rfl, rfl, H, hn127⟩ h hres
           refine c_seq (c_seq (rg (sm (I s125.2) rfl (sm (I Bg) rfl (st (v := (B (decide (s125.2 < Bg)))) (rv_lss (a := s125.2) (b := Bg) rfl rfl) (w_end (q_then ?_)))))))
           refine cd_cond (decide (s125.2 < Bg)) rfl (fun hb128 => ?_) (fun hb128 => ?_)
           ·replace h := bif_t hb128 h
            refine c_skip (q_then (c_seq (c_blk (c_seq (c_seq ?_)))))
            refine rgP (σ := σ126) 10 (by kernel_rfl) (by kernel_rfl) (by kernel_rfl) ?_
            refine sq (v := (.func (.func 61) #[] #[])) (rv_move rfl) (sq (v := (Sl El s125.1 Em)) (rv_move rfl) (sq (v := (I s125.2)) (rv_move rfl) ?_))
            revert h; refine br fun x129 hx130 h => ?_
            obtain ⟨b132, o133, hi131, -⟩ := (H.own 0 rfl).ix hx130
            refine sq (v := (pt b132 o133)) (rv_ix Tryz.underlying27 ti58 rfl rfl hi131) ?_
            obtain ⟨_, ⟨_, _, rfl, rfl, rfl⟩, hl134, hc135⟩ := ((H.own 0 rfl).at hx130 hi131).cells
            refine sq (v := (.agg #[(I x129.1), (I x129.2)])) (rv_load Tryz.underlying58 rfl ti58 rfl hl134 hc135) (sq (v := (Sl El s125.1 Em)) (rv_move rfl) (sq (v := (I s125.2)) (rv_move rfl) (sq (v := (I (w64 (s125.2 - 1)))) (rv_sub (a := s125.2) (b := 1) rfl rfl) ?_)))
            revert h; refine br fun x136 hx137 h => ?_
            obtain ⟨b139, o140, hi138, -⟩ := (H.own 0 rfl).ix hx137
            refine sq (v := (pt b139 o140)) (rv_ix Tryz.underlying27 ti58 rfl rfl hi138) ?_
            obtain ⟨_, ⟨_, _, rfl, rfl, rfl⟩, hl141, hc142⟩ := ((H.own 0 rfl).at hx137 hi138).cells
            refine sq (v := (.agg #[(I x136.1), (I x136.2)])) (rv_load Tryz.underlying58 rfl ti58 rfl hl141 hc142) (sq_end ?_)
            intro σ143 hm144
            replace H := H.grow (hm144.mono fun _ h => h); clear hm144
            revert h; refine br fun r145 hx146 h => ?_
            have hc147 := c_impl_compareHits hx146
            refine st_call (cx_call hc147 (ent_v (cap := []) hc147.fn rfl rfl) hn0 (H.sel' [0] rfl rfl : Hp S0 σ0 _ ([] ++ _))) wn ?_
            rintro _ σ148 ⟨_, ⟨rfl, rfl⟩, H, -⟩
            replace H : Hp _ _ _ [_] := H
            refine st (v := (B (decide (r145 < 0)))) (rv_lss (a := r145) (b := 0) rfl rfl) (st (v := (B (!(decide (r145 < 0))))) (rv_not rfl) (w_end (q_then ?_)))
            refine cd_cond (!(decide (r145 < 0))) rfl (fun hb149 => ?_) (fun hb149 => ?_)
            ·replace h := bif_t hb149 h
             refine c_exit (q_then_x ?_)
             refine q_blk_x (by decide) ?_
             refine q_then_x (q_then_x (q_blk_hit ?_))
             obtain rfl := sj h
             obtain rfl := hres _ rfl
             exact ⟨rfl, _, σ148, fr_join ⟨rfl, rfl, rfl, rfl, rfl, rfl, trivial⟩, rfl, H.sel' [0] rfl rfl, ((hn127.trans (hn122.trans (List.length_set.trans (List.length_set.trans hn4)))).trans (hn122.trans (List.length_set.trans (List.length_set.trans hn4))).symm)⟩
            ·replace h := bif_f hb149 h
             refine c_skip (q_then ?_)
             revert h; refine br fun x150 hx151 h => ?_
             obtain ⟨b153, o154, hi152, -⟩ := (H.own 0 rfl).ix hx151
             obtain ⟨_, ⟨_, _, rfl, rfl, rfl⟩, hl155, hc156⟩ := ((H.own 0 rfl).at hx151 hi152).cells
             revert h; refine br fun x157 hx158 h => ?_
             obtain ⟨b160, o161, hi159, -⟩ := (H.own 0 rfl).ix hx158
             obtain ⟨_, ⟨_, _, rfl, rfl, rfl⟩, hl162, hc163⟩ := ((H.own 0 rfl).at hx158 hi159).cells
             revert h; refine br fun x164 hx165 h => ?_
             obtain ⟨b167, o168, hi166, -⟩ := (H.own 0 rfl).ix hx165
             have Hs := H
             refine rg2 (σ := σ148) (Nm := Unit) 16 [15] [[false], [true]] [[(0, 0)], [(0, 0)], [(0, 0), (1, 1)], [(0, 0), (1, 1)], [(0, 0), (1, 1)], [(0, 0)], [(0, 0)], [(0, 0)], [(0, 0)], [(0, 0)], [(0, 0)], [(0, 0)], [(0, 0)], [(0, 0)], [(0, 0)], [(0, 1)]] 1 [fun _ => fun σm => Hp S0 σ0 σm [Ch.own 0 0 (Sl El s125.1 Em) s125.1] ∧ Md (cov []) σ148 σm, fun _ => fun σm => Hp S0 σ0 σm [Ch.own 0 0 (Sl El s125.1 Em) (s125.1.set s125.2.toNat (x150.1, x150.2))] ∧ Md (fun i => (cov []) i ∨ (fun b => blk (Sl El s125.1 Em) = some b) i) σ148 σm] [fun _ => (Sl El s125.1 Em), fun _ => (I s125.2), fun _ => (Sl El s125.1 Em), fun _ => (I s125.2), fun _ => (I (w64 (s125.2 - 1))), fun _ => (Sl El s125.1 Em), fun _ => (I s125.2), fun _ => (I (w64 (s125.2 - 1))), fun _ => (pt b153 o154), fun _ => (.agg #[(I x150.1), (I x150.2)]), fun _ => (Sl El s125.1 Em), fun _ => (I s125.2), fun _ => (pt b160 o161), fun _ => (.agg #[(I x157.1), (I x157.2)]), fun _ => (pt b167 o168), fun _ => undef] () (by kernel_rfl) (by kernel_rfl) ?_ ?_ ?_
             ·intro σm m0
              exact ⟨H.grow (m0.mono fun _ h => h.elim), m0⟩
             ·refine ac rfl (by
                intro k _nm ρ σm hJ hoff hdep
                have e0 := look_off (N := 141) (hoff 0 rfl) rfl
                exact dp_v (v := (Sl El s125.1 Em)) wn (rv_move e0) rfl hJ) ?_
              refine ac rfl (by
                intro k _nm ρ σm hJ hoff hdep
                have e12 := look_off (N := 141) (hoff 12 rfl) rfl
                exact dp_v (v := (I s125.2)) wn (rv_move e12) rfl hJ) ?_
              refine ac rfl (by
                intro k _nm ρ σm hJ hoff hdep
                have e0 := look_off (N := 141) (hoff 0 rfl) rfl
                exact dp_v (v := (Sl El s125.1 Em)) wn (rv_move e0) rfl hJ) ?_
              refine ac rfl (by
                intro k _nm ρ σm hJ hoff hdep
                have e12 := look_off (N := 141) (hoff 12 rfl) rfl
                exact dp_v (v := (I s125.2)) wn (rv_move e12) rfl hJ) ?_
              refine ac rfl (by
                intro k _nm ρ σm hJ hoff hdep
                have e128 := hdep 3 rfl rfl 128 rfl
                exact dp_v (v := (I (w64 (s125.2 - 1)))) wn (rv_sub (a := s125.2) (b := 1) e128 rfl) rfl hJ) ?_
              refine ac rfl (by
                intro k _nm ρ σm hJ hoff hdep
                have e0 := look_off (N := 141) (hoff 0 rfl) rfl
                exact dp_v (v := (Sl El s125.1 Em)) wn (rv_move e0) rfl hJ) ?_
              refine ac rfl (by
                intro k _nm ρ σm hJ hoff hdep
                have e12 := look_off (N := 141) (hoff 12 rfl) rfl
                exact dp_v (v := (I s125.2)) wn (rv_move e12) rfl hJ) ?_
              refine ac rfl (by
                intro k _nm ρ σm hJ hoff hdep
                have e131 := hdep 6 rfl rfl 131 rfl
                exact dp_v (v := (I (w64 (s125.2 - 1)))) wn (rv_sub (a := s125.2) (b := 1) e131 rfl) rfl hJ) ?_
              refine ac rfl (by
                intro k _nm ρ σm hJ hoff hdep
                have e130 := hdep 5 rfl rfl 130 rfl
                have e132 := hdep 7 rfl rfl 132 rfl
                exact dp_v (v := (pt b153 o154)) wn (rv_ix Tryz.underlying27 ti58 e130 e132 hi152) rfl hJ) ?_
              refine all_cons (by
                refine ⟨?_, ?_⟩
                ·intro _nm ρ σm hJ hoff hdep
                 have e133 := hdep 8 rfl rfl 133 rfl
                 obtain ⟨H, m⟩ := id hJ
                 obtain ⟨_, ⟨_, _, rfl, rfl, rfl⟩, hl155, hc156⟩ := ((H.own 0 rfl).at hx151 hi152).cells
                 exact dp_v (v := (.agg #[(I x150.1), (I x150.2)])) wn (rv_load Tryz.underlying58 rfl ti58 e133 hl155 hc156) rfl hJ
                trivial) ?_
              refine ac rfl (by
                intro k _nm ρ σm hJ hoff hdep
                have e0 := look_off (N := 141) (hoff 0 rfl) rfl
                exact dp_v (v := (Sl El s125.1 Em)) wn (rv_move e0) rfl hJ) ?_
              refine ac rfl (by
                intro k _nm ρ σm hJ hoff hdep
                have e12 := look_off (N := 141) (hoff 12 rfl) rfl
                exact dp_v (v := (I s125.2)) wn (rv_move e12) rfl hJ) ?_
              refine ac rfl (by
                intro k _nm ρ σm hJ hoff hdep
                have e135 := hdep 10 rfl rfl 135 rfl
                have e136 := hdep 11 rfl rfl 136 rfl
                exact dp_v (v := (pt b160 o161)) wn (rv_ix Tryz.underlying27 ti58 e135 e136 hi159) rfl hJ) ?_
              refine all_cons (by
                refine ⟨?_, ?_⟩
                ·intro _nm ρ σm hJ hoff hdep
                 have e137 := hdep 12 rfl rfl 137 rfl
                 obtain ⟨H, m⟩ := id hJ
                 obtain ⟨_, ⟨_, _, rfl, rfl, rfl⟩, hl162, hc163⟩ := ((H.own 0 rfl).at hx158 hi159).cells
                 exact dp_v (v := (.agg #[(I x157.1), (I x157.2)])) wn (rv_load Tryz.underlying58 rfl ti58 e137 hl162 hc163) rfl hJ
                trivial) ?_
              refine ac rfl (by
                intro k _nm ρ σm hJ hoff hdep
                have e125 := hdep 0 rfl rfl 125 rfl
                have e126 := hdep 1 rfl rfl 126 rfl
                exact dp_v (v := (pt b167 o168)) wn (rv_ix Tryz.underlying27 ti58 e125 e126 hi166) rfl hJ) ?_
              refine all_cons (by
                refine ⟨?_, ?_⟩
                ·intro _nm ρ σm hJ hoff hdep
                 have e139 := hdep 14 rfl rfl 139 rfl
                 have e134 := hdep 9 rfl rfl 134 rfl
                 obtain ⟨H, m⟩ := id hJ
                 refine dp_exS wn rfl (ex_store_own (e' := (x150.1, x150.2)) (vs := [(I x150.1), (I x150.2)]) (k := 0) H (i := 0) rfl ti58 hx165 hi166 e139 rfl e134 rfl rfl (Nat.le_of_ble_eq_true rfl) (by simp [plain]) (by rintro _ ⟨_, _, rfl, rfl, rfl⟩; exact ⟨[(I x150.1)], [(I x150.2)], rfl, rfl, rfl⟩)) ?_
                 rintro σq ⟨H2, m2⟩
                 exact ⟨_, (), rfl, ⟨H2.sel' [0] rfl rfl, m.comp m2⟩, stab [0, 1, 2, 3, 4, 5, 6, 7, 8, 9, 10, 11, 12, 13, 14] (by kernel_rfl) ⟨rfl, rfl, rfl, rfl, rfl, rfl, rfl, rfl, rfl, rfl, rfl, rfl, rfl, rfl, rfl, trivial⟩⟩
                trivial) ?_
              exact all_nil
             ·intro _nm ρ σ169 hJ hoff hrel
              have e0 := look_off (N := 141) (hoff 0 rfl) rfl
              have e1 := look_off (N := 141) (hoff 1 rfl) rfl
              have e2 := look_off (N := 141) (hoff 2 rfl) rfl
              have e3 := look_off (N := 141) (hoff 3 rfl) rfl
              have e9 := look_off (N := 141) (hoff 9 rfl) rfl
              have e10 := look_off (N := 141) (hoff 10 rfl) rfl
              have e12 := look_off (N := 141) (hoff 12 rfl) rfl
              have e127 := hrel 2 rfl 127 rfl
              have e129 := hrel 4 rfl 129 rfl
              have e138 := hrel 13 rfl 138 rfl
              obtain ⟨H, -⟩ := (show Hp S0 σ0 σ169 [Ch.own 0 0 (Sl El s125.1 Em) (s125.1.set s125.2.toNat (x150.1, x150.2))] ∧ Md (fun i => (cov []) i ∨ (fun b => blk (Sl El s125.1 Em) = some b) i) σ148 σ169 from hJ)
              clear hJ Hs
              rw [fr_lookL (L := [(0, (Sl El s125.1 Em)), (1, (I Bf)), (2, (I Bg)), (3, (.func (.func 61) #[] #[])), (9, (I o7)), (10, (I s2.2.2)), (12, (I s125.2)), (127, (Sl El s125.1 Em)), (129, (I (w64 (s125.2 - 1)))), (138, (.agg #[(I x157.1), (I x157.2)]))]) ⟨e0, e1, e2, e3, e9, e10, e12, e127, e129, e138, trivial⟩]
              clear hoff hrel e0 e1 e2 e3 e9 e10 e12 e127 e129 e138
              have hsl : (Sl El s125.1 Em) = (Sl El (s125.1.set s125.2.toNat (x150.1, x150.2)) Em) := sl_len (by simp)
              rw [hsl]; rw [hsl] at H; clear hsl
              revert h; refine br fun x170 hx171 h => ?_
              obtain ⟨b173, o174, hi172, -⟩ := (H.own 0 rfl).ix hx171
              refine st (v := (pt b173 o174)) (rv_ix Tryz.underlying27 ti58 rfl rfl hi172) ?_
              refine st_exS (ex_store_own (e' := (x157.1, x157.2)) (vs := [(I x157.1), (I x157.2)]) (k := 0) H (i := 0) rfl ti58 hx171 hi172 rfl rfl rfl rfl rfl (Nat.le_of_ble_eq_true rfl) (by simp [plain]) (by rintro _ ⟨_, _, rfl, rfl, rfl⟩; exact ⟨[(I x157.1)], [(I x157.2)], rfl, rfl, rfl⟩)) wn ?_
              rintro σ175 ⟨H, -⟩
              have hsl : (Sl El (s125.1.set s125.2.toNat (x150.1, x150.2)) Em) = (Sl El ((s125.1.set s125.2.toNat (x150.1, x150.2)).set (w64 (s125.2 - 1)).toNat (x157.1, x157.2)) Em) := sl_len List.length_set.symm
              rw [hsl]; rw [hsl] at H; clear hsl
              refine w_end (q_blk (q_then (rg (sm (I s125.2) rfl (st (v := (I (w64 (s125.2 + 1)))) (rv_add (a := s125.2) (b := 1) rfl rfl) (sa (I (w64 (s125.2 + 1))) rfl (w_end (q_then ?_))))))))
              obtain rfl := sj h
              exact ⟨_, rfl, _, σ175, fr_join ⟨rfl, rfl, rfl, rfl, rfl, rfl, rfl, trivial⟩, rfl, H.sel' [0] rfl rfl, ((List.length_set.trans (List.length_set.trans (hn127.trans (hn122.trans (List.length_set.trans (List.length_set.trans hn4)))))).trans (hn122.trans (List.length_set.trans (List.length_set.trans hn4))).symm)⟩
           ·replace h := bif_f hb128 h
            refine c_exit (q_then_x (q_then_x (q_blk_hit ?_)))
            obtain rfl := sj h
            obtain rfl := hres _ rfl
            exact ⟨rfl, _, σ126, fr_join ⟨rfl, rfl, rfl, rfl, rfl, rfl, trivial⟩, rfl, H.sel' [0] rfl rfl, ((hn127.trans (hn122.trans (List.length_set.trans (List.length_set.trans hn4)))).trans (hn122.trans (List.length_set.trans (List.length_set.trans hn4))).symm)⟩
          ·clear hj
           have h := h'
           clear h' H
           rintro e a w ⟨rfl, ρ, σ176, rfl, rfl, H, hn177⟩
           refine q_blk ?_
           obtain rfl := sj h
           exact .inl ⟨_, rfl, rfl, _, σ176, fr_join ⟨rfl, rfl, rfl, rfl, rfl, rfl, trivial⟩, rfl, H.sel' [0] rfl rfl, ((hn177.trans (hn122.trans (List.length_set.trans (List.length_set.trans hn4)))).trans hn4.symm)⟩
         ·replace h := bif_f hb123 h
          refine c_skip (q_blk ?_)
          obtain rfl := sj h
          exact .inl ⟨_, rfl, rfl, _, σ121, fr_join ⟨rfl, rfl, rfl, rfl, rfl, rfl, trivial⟩, rfl, H.sel' [0] rfl rfl, ((hn122.trans (List.length_set.trans (List.length_set.trans hn4))).trans hn4.symm)⟩
   ·clear hj
    have h := h'
    clear h' H
    rintro e a w (⟨t178, rfl, rfl, ρ, σ179, rfl, rfl, H, hn180⟩ | ⟨t181, rfl, rfl, ρ, σ182, rfl, rfl, H, hn183⟩)
    ·replace h := selim_l h
     refine q_then (rg (sm (I s2.2.2) rfl (st (v := (I (w64 (s2.2.2 + 1)))) (rv_add (a := s2.2.2) (b := 1) rfl rfl) (sa (I (w64 (s2.2.2 + 1))) rfl (w_end (q_then ?_))))))
     obtain rfl := sj h
     exact ⟨_, rfl, _, σ179, fr_join ⟨rfl, rfl, rfl, rfl, rfl, rfl, trivial⟩, rfl, H.sel' [0] rfl rfl, (hn180.trans hn4)⟩
    ·replace h := selim_r h
     refine q_then_r (q_then_r (q_blk_r ?_))
     obtain rfl := sj h
     obtain rfl := hres _ rfl
     exact .inr (⟨_, rfl, rfl, _, σ182, fr_join ⟨rfl, rfl, trivial⟩, rfl, H.sel' [0] rfl rfl, (hn183.trans hn4)⟩)
  ·replace h := bif_f hb5 h
   refine c_exit (q_then_x (q_then_x (q_blk_hit ?_)))
   obtain rfl := sj h
   obtain rfl := hres _ rfl
   exact .inl ⟨_, rfl, rfl, _, σ3, fr_join ⟨rfl, trivial⟩, rfl, H.sel' [0] rfl rfl, hn4⟩
 ·clear hj
  have h := h'
  clear h' H
  rintro e a w (⟨t184, rfl, rfl, ρ, σ185, rfl, rfl, H, hn186⟩ | ⟨t187, rfl, rfl, ρ, σ188, rfl, rfl, H, hn189⟩)
  ·replace h := selim_l h
   refine q_then (c_seq (rg (sa (B false) rfl (w_end (q_then (c_ret ?_))))))
   obtain rfl := sj h
   exact fin_ret (v := (B false)) (results_ok Tryz.results89 (res_tmp (v := (B false)) rfl res_nil) rfl) ⟨rfl, rfl, hn186⟩ (H.sel' [0] rfl rfl)
  ·replace h := selim_r h
   refine q_then_r ?_
   obtain rfl := sj h
   exact fin_ret (v := (B t187.2)) (results_ok Tryz.results89 (res_tmp (v := (B t187.2)) rfl res_nil) rfl) ⟨rfl, rfl, hn189⟩ (H.sel' [0] rfl rfl)

end Go.Vs
