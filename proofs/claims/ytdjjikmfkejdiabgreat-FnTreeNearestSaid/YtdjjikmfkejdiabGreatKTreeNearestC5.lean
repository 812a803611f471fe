/- The functions compute what their models say. -/
import Derived.Test.YtdjjikmfkejdiabGreatKTreeNearestC4
set_option linter.unusedVariables false
set_option linter.unusedSimpArgs false
set_option maxRecDepth 20000
namespace Go.Vs
open Go Go.Proofs
attribute [local irreducible] Code.wp Code.wpIn wpList wpListIn wpQuiet Calls CallsIn

theorem c_spec_grow : ∀ (fuel : Nat) {Fo : List (Int × Int × Int × Int)} {As : List (Int × (List Int) × Int)} {Fp : Int} {Fq : Option Addr} {Fr : Nat} {Au : Option Addr} {Av : Nat} {r : (List (Int × Int × Int × Int))} (h : M.spec_grow fuel Fo As Fp = some r),
    Cal2 Tryz.prog 47 [(Sl Fq Fo Fr), (Sl Au As Av), (I Fp)] [Ch.own 0 0 (Sl Fq Fo Fr) Fo, Ch.ro 0 (Sl Au As Av) As] (fun n0 v L => ∃ (az1 : Option Addr), ∃ (cz2 : Nat), v = (Sl az1 r cz2) ∧ L = [Ch.own 0 n0 (Sl az1 r cz2) r]) := by
 intro fuel
 induction fuel with
 | zero => intro _ _ _ _ _ _ _ r h; cases h
 | succ fuel ih =>
 ·intro Fo As Fp Fq Fr Au Av r h
  replace h : M.spec_grow_F (M.spec_grow fuel) Fo As Fp = some r := h
  refine cal2 (n := 83) Tryz.func47 rfl rfl rfl rfl ?_
  intro S0 σ0 n0 hn0 H
  unfold M.spec_grow_F at h
  refine c_seq (rg (sa (.slice none 0 0) rfl (w_end (q_then (c_seq (c_seq (rg (sm (Sl Au As Av) rfl (st (v := (I (As.length : Int))) (rv_len Tryz.underlying23 rfl) (st (v := (B ((As.length : Int) == 0))) (rv_eql (a := (As.length : Int)) (b := 0) rfl rfl) (w_end ?_)))))))))))
  refine q_then ?_
  refine cd_cond ((As.length : Int) == 0) rfl (fun hb1 => ?_) (fun hb1 => ?_)
  ·replace h := bif_t hb1 h
   refine c_seq (rg (sm (Sl Fq Fo Fr) rfl (sa (Sl Fq Fo Fr) rfl (w_end (q_then (c_ret (q_then_r ?_)))))))
   replace H := H.ownSc 0 0 n0 rfl (Nat.le_refl _)
   obtain rfl := sj h
   exact fin_ret (v := (Sl Fq Fo Fr)) (results_ok Tryz.results47 (res_tmp (v := (Sl Fq Fo Fr)) rfl res_nil) rfl) ⟨Fq, Fr, rfl, rfl⟩ (H.sel' [0] rfl rfl)
  ·replace h := bif_f hb1 h
   refine c_skip (q_then (c_seq (rg (sm (Sl Au As Av) rfl ?_))))
   revert h; refine br fun x2 hx3 h => ?_
   obtain ⟨b5, o6, hi4, -⟩ := (H.ro 1 rfl).ix hx3
   refine st (v := (pt b5 o6)) (rv_ix Tryz.underlying23 ti59 rfl rfl hi4) ?_
   obtain ⟨_, ⟨_, _, rfl, rfl, ⟨_, _, rfl, ⟨_, rfl, hR11⟩, rfl⟩⟩, hl7, hc8⟩ := ((H.ro 1 rfl).at hx3 hi4).cells
   obtain ⟨a9, c10, rfl⟩ := hR11.isSl
   replace H := H.add (d := Ch.ro 0 (Sl a9 x2.2.1 c10) x2.2.1) hR11 (fun _ h => h)
   clear hR11
   refine st (v := (.agg #[(I x2.1), (Sl a9 x2.2.1 c10), (I x2.2.2)])) (rv_load Tryz.underlying59 rfl ti59 rfl hl7 hc8) (st_ex (ex_alloc (cs := [(I 0), (.slice none 0 0), (I 0)]) H hn0 ti59 rfl) wn ?_)
   rintro _ σ13 ⟨b12, rfl, H, -⟩
   refine st_exS (ex_store_box (k := 0) (cs := [(I 0), (.slice none 0 0), (I 0)]) (vs := [(I x2.1), (Sl a9 x2.2.1 c10), (I x2.2.2)]) (cs' := [(I x2.1), (Sl a9 x2.2.1 c10), (I x2.2.2)]) H (i := 0) rfl ti59 rfl rfl rfl rfl rfl (Nat.le_of_ble_eq_true rfl) (by simp [plain]) rfl) wn ?_
   rintro σ14 ⟨H, -⟩
   refine w_end (q_then (c_seq ?_))
   refine rgP (σ := σ14) 5 (by kernel_rfl) (by kernel_rfl) (by kernel_rfl) ?_
   refine sq (v := (Sl Au As Av)) (rv_move rfl) ?_
   revert h; refine br fun xs15 hx16 h => ?_
   obtain ⟨a17, c18, hs19, hR20⟩ := (H.ro 3 rfl).slice hx16
   replace H := H.add (d := Ch.ro 0 (Sl a17 xs15 c18) xs15) hR20 (fun _ h => h)
   clear hR20
   refine sq (v := (Sl a17 xs15 c18)) (rv_slice_l Tryz.underlying23 ti59 hs19 rfl rfl) (sq (v := (I Fp)) (rv_move rfl) (sq (v := (pt b12 1)) (rv_fieldAddr (off := 1) (ft := 24) Tryz.underlying59 rfl ti24 rfl rfl) ?_))
   have hc21 := H.cell (u := (Sl a9 x2.2.1 c10)) (o' := 1) 1 1 rfl rfl rfl
   refine sq (v := (Sl a9 x2.2.1 c10)) (rv_load1 Tryz.underlying24 rfl rfl hc21) (sq_end ?_)
   intro σ22 hm23
   replace H := H.grow (hm23.mono fun _ h => h); clear hm23
   revert h; refine br fun r24 hx25 h => ?_
   have hc26 := c_spec_byDist (Aq := a17) (Ar := c18) (Bt := a9) (Bu := c10) hx25
   refine st_call (cx_call hc26 (ent_f hc26.fn rfl) hn0 (H.sel' [0, 2, 0, 1, 2, 3, 4] rfl rfl : Hp S0 σ0 _ ([_, _] ++ _))) wn ?_
   rintro _ σ29 ⟨_, ⟨a27, c28, rfl, rfl⟩, H, -⟩
   replace H : Hp _ _ _ [_, _, _, _, _, _] := H
   refine sa (Sl a27 r24 c28) rfl (w_end (q_then (c_seq (rg (sm (Sl a27 r24 c28) rfl (st (v := (I (r24.length : Int))) (rv_len Tryz.underlying23 rfl) (st (v := (I (w64 ((r24.length : Int) + 1)))) (rv_add (a := (r24.length : Int)) (b := 1) rfl rfl) ?_)))))))
   refine st (v := (I (w64 ((w64 ((r24.length : Int) + 1)).tdiv 2)))) (rv_quo (a := (w64 ((r24.length : Int) + 1))) (b := 2) rfl rfl (by decide)) ?_
   refine sa (I (w64 ((w64 ((r24.length : Int) + 1)).tdiv 2))) rfl (w_end (q_then (c_seq (rg (st (v := (pt b12 0)) (rv_fieldAddr (off := 0) (ft := 3) Tryz.underlying59 rfl ti3 rfl rfl) ?_)))))
   have hc30 := H.cell (u := (I x2.1)) (o' := 0) 2 0 rfl rfl rfl
   refine st (v := (I x2.1)) (rv_load1 Tryz.underlying3 rfl rfl hc30) ?_
   refine st (v := (.agg #[(I x2.1), (I 0), (I (-1)), (I (-1))])) (rv_build (ps := [(0, (I x2.1)), (2, (I (-1))), (3, (I (-1)))]) Tryz.underlying107 ti107 (bp107 Tryz.underlying107) rfl (by kernel_rfl)) ?_
   refine st_ex (ex_alloc (cs := [(I 0), (I 0), (I 0), (I 0)]) H hn0 ti107 rfl) wn ?_
   rintro _ σ32 ⟨b31, rfl, H, -⟩
   refine st_exS (ex_store_box (k := 0) (cs := [(I 0), (I 0), (I 0), (I 0)]) (vs := [(I x2.1), (I 0), (I (-1)), (I (-1))]) (cs' := [(I x2.1), (I 0), (I (-1)), (I (-1))]) H (i := 0) rfl ti107 rfl rfl rfl rfl rfl (Nat.le_of_ble_eq_true rfl) (by simp [plain]) rfl) wn ?_
   rintro σ33 ⟨H, -⟩
   refine w_end (q_then (c_seq (rg (sm (Sl Fq Fo Fr) rfl (st (v := (I (Fo.length : Int))) (rv_len Tryz.underlying46 rfl) (sa (I (Fo.length : Int)) rfl (w_end (q_then (c_seq (rg (sm (Sl Fq Fo Fr) rfl ?_)))))))))))
   have hc34 := H.cells 0 rfl
   refine st (v := (.agg #[(I x2.1), (I 0), (I (-1)), (I (-1))])) (rv_load (cs := [(I x2.1), (I 0), (I (-1)), (I (-1))]) Tryz.underlying107 rfl ti107 rfl rfl hc34) ?_
   refine st_ex (ex_buildSlice (el := n0) (xs := ([(x2.1, 0, -1, -1)] : List (Int × Int × Int × Int))) (ps := [(0, (.agg #[(I x2.1), (I 0), (I (-1)), (I (-1))]))]) (cs := [(I x2.1), (I 0), (I (-1)), (I (-1))]) H hn0 Tryz.underlying46 ti107 rfl rfl (by kernel_rfl) (.cons (c := [(I x2.1), (I 0), (I (-1)), (I (-1))]) ⟨[(I x2.1)], [(I 0), (I (-1)), (I (-1))], rfl, rfl, ⟨[(I 0)], [(I (-1)), (I (-1))], rfl, rfl, ⟨[(I (-1))], [(I (-1))], rfl, rfl, rfl⟩⟩⟩ (.nil)) rfl) wn ?_
   rintro _ σ36 ⟨b35, rfl, H, -⟩
   replace H : Hp S0 σ0 σ36 [Ch.own n0 n0 (Sl (some ⟨b35, 0, none⟩) ([(x2.1, 0, -1, -1)] : List (Int × Int × Int × Int)) 1) ([(x2.1, 0, -1, -1)] : List (Int × Int × Int × Int)), Ch.own n0 0 (Sl a27 r24 c28) r24, Ch.bx n0 b12 0 [(I x2.1), (Sl a9 x2.2.1 c10), (I x2.2.2)] [] [], Ch.ro 0 (Sl a9 x2.2.1 c10) x2.2.1, Ch.own 0 0 (Sl Fq Fo Fr) Fo] := H.sel' [0, 2, 4, 5, 6] rfl rfl
   revert h; refine br fun xs37 hx38 h => ?_
   refine st_ex (ex_append H (i := 4) rfl Tryz.underlying46 Tryz.underlying46 ti107 rfl rfl (by decide) ((H.own 0 rfl).rd.sc) hx38 (Nat.zero_le _) rfl rfl) wn ?_
   rintro _ σ41 ⟨a39, c40, rfl, H, -⟩
   refine sa (Sl a39 xs37 c40) rfl (w_end (q_then (c_seq (c_seq (rg (sm (I (w64 ((w64 ((r24.length : Int) + 1)).tdiv 2))) rfl (st (v := (B (decide (0 < (w64 ((w64 ((r24.length : Int) + 1)).tdiv 2)))))) (rv_gtr (a := (w64 ((w64 ((r24.length : Int) + 1)).tdiv 2))) (b := 0) rfl rfl) (w_end (q_then ?_)))))))))
   obtain ⟨o42, hj, h'⟩ := bind_some h
   clear h
   refine c_cut (fun e a w => e = .normal ∧ ∃ (ρ : Nat → Value) (σ : St) (aj1 : Option Addr) (cj2 : Nat), a = fr 83 (updL ρ [(0, (Sl aj1 o42 cj2)), (2, (I Fp)), (8, (Sl a27 r24 c28)), (9, (I (w64 ((w64 ((r24.length : Int) + 1)).tdiv 2)))), (11, (I (Fo.length : Int)))]) ∧ w = σ.w ∧ Hp S0 σ0 σ [Ch.own 0 0 (Sl aj1 o42 cj2) o42, Ch.ro 0 (Sl a27 r24 c28) r24]) ?_ ?_
   ·clear h'
    rename _ = some o42 => h
    refine cd_cond (decide (0 < (w64 ((w64 ((r24.length : Int) + 1)).tdiv 2)))) rfl (fun hb43 => ?_) (fun hb43 => ?_)
    ·replace h := bif_t hb43 h
     refine c_seq ?_
     revert h; refine br fun x44 hx45 h => ?_
     obtain ⟨b47, o48, hi46, -⟩ := (H.own 2 rfl).ix hx45
     obtain ⟨v52, hc53, hR51⟩ := ((H.own 2 rfl).at hx45 hi46).snd.fst.slice
     obtain ⟨a49, c50, rfl⟩ := hR51.isSl
     replace H := H.add (d := Ch.ro 0 (Sl a49 x44.2.1 c50) x44.2.1) hR51 (fun _ h => h)
     clear hR51
     have hc54 := H.cell (u := (Sl a9 x2.2.1 c10)) (o' := 1) 4 1 rfl rfl rfl
     revert h; refine br fun r55 hx56 h => ?_
     have hc57 := c_spec_dist (Ce := a49) (Cf := c50) (Cg := a9) (Ci := c10) hx56
     have Hs := H
     refine rg2 (σ := σ41) (Nm := Unit) 12 [11] [[false], [true]] [[(0, 0), (1, 1)], [(0, 0), (1, 1)], [(0, 0)], [(0, 0)], [(0, 0)], [(0, 0)], [(0, 0)], [(0, 0)], [(0, 0)], [(0, 0)], [(0, 0)], [(0, 1)]] 1 [fun _ => fun σm => Hp S0 σ0 σm [Ch.ro 0 (Sl a49 x44.2.1 c50) x44.2.1, Ch.own 0 0 (Sl a39 xs37 c40) xs37, Ch.own n0 n0 (Sl (some ⟨b35, 0, none⟩) ([(x2.1, 0, -1, -1)] : List (Int × Int × Int × Int)) 1) ([(x2.1, 0, -1, -1)] : List (Int × Int × Int × Int)), Ch.own n0 0 (Sl a27 r24 c28) r24, Ch.bx n0 b12 0 [(I x2.1), (Sl a9 x2.2.1 c10), (I x2.2.2)] [] [], Ch.ro 0 (Sl a9 x2.2.1 c10) x2.2.1] ∧ Md (cov []) σ41 σm, fun _ => fun σm => Hp S0 σ0 σm [Ch.ro 0 (Sl a49 x44.2.1 c50) x44.2.1, Ch.own 0 0 (Sl a39 xs37 c40) xs37, Ch.own n0 n0 (Sl (some ⟨b35, 0, none⟩) ([(x2.1, 0, -1, -1)] : List (Int × Int × Int × Int)) 1) ([(x2.1, 0, -1, -1)] : List (Int × Int × Int × Int)), Ch.own n0 0 (Sl a27 r24 c28) r24, Ch.bx n0 b12 0 [(I x2.1), (Sl a9 x2.2.1 c10), (I x2.2.2)] [] [], Ch.ro 0 (Sl a9 x2.2.1 c10) x2.2.1] ∧ Md (cov []) σ41 σm] [fun _ => (Sl a39 xs37 c40), fun _ => (I (Fo.length : Int)), fun _ => (I Fp), fun _ => (Sl a27 r24 c28), fun _ => (I (w64 ((w64 ((r24.length : Int) + 1)).tdiv 2))), fun _ => (I (w64 ((w64 ((w64 ((r24.length : Int) + 1)).tdiv 2)) - 1))), fun _ => (pt b47 o48), fun _ => (pt b47 (o48 + 1)), fun _ => (Sl a49 x44.2.1 c50), fun _ => (pt b12 1), fun _ => (Sl a9 x2.2.1 c10), fun _ => (I r55)] () (by kernel_rfl) (by kernel_rfl) ?_ ?_ ?_
     ·intro σm m0
      exact ⟨H.grow (m0.mono fun _ h => h.elim), m0⟩
     ·refine ac rfl (by
        intro k _nm ρ σm hJ hoff hdep
        have e0 := look_off (N := 83) (hoff 0 rfl) rfl
        exact dp_v (v := (Sl a39 xs37 c40)) wn (rv_move e0) rfl hJ) ?_
      refine ac rfl (by
        intro k _nm ρ σm hJ hoff hdep
        have e11 := look_off (N := 83) (hoff 11 rfl) rfl
        exact dp_v (v := (I (Fo.length : Int))) wn (rv_move e11) rfl hJ) ?_
      refine ac rfl (by
        intro k _nm ρ σm hJ hoff hdep
        have e2 := look_off (N := 83) (hoff 2 rfl) rfl
        exact dp_v (v := (I Fp)) wn (rv_move e2) rfl hJ) ?_
      refine ac rfl (by
        intro k _nm ρ σm hJ hoff hdep
        have e8 := look_off (N := 83) (hoff 8 rfl) rfl
        exact dp_v (v := (Sl a27 r24 c28)) wn (rv_move e8) rfl hJ) ?_
      refine ac rfl (by
        intro k _nm ρ σm hJ hoff hdep
        have e9 := look_off (N := 83) (hoff 9 rfl) rfl
        exact dp_v (v := (I (w64 ((w64 ((r24.length : Int) + 1)).tdiv 2)))) wn (rv_move e9) rfl hJ) ?_
      refine ac rfl (by
        intro k _nm ρ σm hJ hoff hdep
        have e44 := hdep 4 rfl rfl 44 rfl
        exact dp_v (v := (I (w64 ((w64 ((w64 ((r24.length : Int) + 1)).tdiv 2)) - 1)))) wn (rv_sub (a := (w64 ((w64 ((r24.length : Int) + 1)).tdiv 2))) (b := 1) e44 rfl) rfl hJ) ?_
      refine ac rfl (by
        intro k _nm ρ σm hJ hoff hdep
        have e43 := hdep 3 rfl rfl 43 rfl
        have e45 := hdep 5 rfl rfl 45 rfl
        exact dp_v (v := (pt b47 o48)) wn (rv_ix Tryz.underlying23 ti59 e43 e45 hi46) rfl hJ) ?_
      refine ac rfl (by
        intro k _nm ρ σm hJ hoff hdep
        have e46 := hdep 6 rfl rfl 46 rfl
        exact dp_v (v := (pt b47 (o48 + 1))) wn (rv_fieldAddr (off := 1) (ft := 24) Tryz.underlying59 rfl ti24 rfl e46) rfl hJ) ?_
      refine all_cons (by
        refine ⟨?_, ?_⟩
        ·intro _nm ρ σm hJ hoff hdep
         have e47 := hdep 7 rfl rfl 47 rfl
         obtain ⟨H, m⟩ := id hJ
         replace hc53 := m.hcell hc53 nocov
         exact dp_v (v := (Sl a49 x44.2.1 c50)) wn (rv_load1 Tryz.underlying24 rfl e47 hc53) rfl hJ
        trivial) ?_
      refine ac rfl (by
        intro k _nm ρ σm hJ hoff hdep
        have e7 := look_off (N := 83) (hoff 7 rfl) rfl
        exact dp_v (v := (pt b12 1)) wn (rv_fieldAddr (off := 1) (ft := 24) Tryz.underlying59 rfl ti24 rfl e7) rfl hJ) ?_
      refine all_cons (by
        refine ⟨?_, ?_⟩
        ·intro _nm ρ σm hJ hoff hdep
         have e49 := hdep 9 rfl rfl 49 rfl
         obtain ⟨H, m⟩ := id hJ
         have hc54 := H.cell (u := (Sl a9 x2.2.1 c10)) (o' := 1) 4 1 rfl rfl rfl
         exact dp_v (v := (Sl a9 x2.2.1 c10)) wn (rv_load1 Tryz.underlying24 rfl e49 hc54) rfl hJ
        trivial) ?_
      refine all_cons (by
        refine ⟨?_, ?_⟩
        ·intro _nm ρ σm hJ hoff hdep
         have e42 : look 83 ρ 42 = (I Fp) := hdep 2 rfl rfl 42 rfl
         have e48 : look 83 ρ 48 = (Sl a49 x44.2.1 c50) := hdep 8 rfl rfl 48 rfl
         have e50 : look 83 ρ 50 = (Sl a9 x2.2.1 c10) := hdep 10 rfl rfl 50 rfl
         obtain ⟨H, m⟩ := id hJ
         refine dp_cx wn (cx_call hc57 (ent_f hc57.fn (by show [look 83 ρ 42, look 83 ρ 48, look 83 ρ 50] = _; rw [e42, e48, e50])) hn0 (H.sel' [0, 5, 0, 1, 2, 3, 4, 5] rfl rfl : Hp S0 σ0 _ ([_, _] ++ _))) ?_
         rintro _ σq ⟨_, ⟨rfl, rfl⟩, H2, m2⟩
         exact ⟨_, (), rfl, rfl, ⟨H2.sel' [0, 1, 2, 3, 4, 5] rfl rfl, m.comp0 (m2.mono (fun i h => by simp [cov, Ch.ro] at h))⟩, stab [0, 1, 2, 3, 4, 5, 6, 7, 8, 9, 10] (by kernel_rfl) ⟨rfl, rfl, rfl, rfl, rfl, rfl, rfl, rfl, rfl, rfl, rfl, trivial⟩⟩
        trivial) ?_
      exact all_nil
     ·intro _nm ρ σ58 hJ hoff hrel
      have e0 := look_off (N := 83) (hoff 0 rfl) rfl
      have e2 := look_off (N := 83) (hoff 2 rfl) rfl
      have e8 := look_off (N := 83) (hoff 8 rfl) rfl
      have e9 := look_off (N := 83) (hoff 9 rfl) rfl
      have e11 := look_off (N := 83) (hoff 11 rfl) rfl
      have e40 := hrel 0 rfl 40 rfl
      have e41 := hrel 1 rfl 41 rfl
      have e51 := hrel 11 rfl 51 rfl
      obtain ⟨H, -⟩ := (show Hp S0 σ0 σ58 [Ch.ro 0 (Sl a49 x44.2.1 c50) x44.2.1, Ch.own 0 0 (Sl a39 xs37 c40) xs37, Ch.own n0 n0 (Sl (some ⟨b35, 0, none⟩) ([(x2.1, 0, -1, -1)] : List (Int × Int × Int × Int)) 1) ([(x2.1, 0, -1, -1)] : List (Int × Int × Int × Int)), Ch.own n0 0 (Sl a27 r24 c28) r24, Ch.bx n0 b12 0 [(I x2.1), (Sl a9 x2.2.1 c10), (I x2.2.2)] [] [], Ch.ro 0 (Sl a9 x2.2.1 c10) x2.2.1] ∧ Md (cov []) σ41 σ58 from hJ)
      clear hJ Hs
      rw [fr_lookL (L := [(0, (Sl a39 xs37 c40)), (2, (I Fp)), (8, (Sl a27 r24 c28)), (9, (I (w64 ((w64 ((r24.length : Int) + 1)).tdiv 2)))), (11, (I (Fo.length : Int))), (40, (Sl a39 xs37 c40)), (41, (I (Fo.length : Int))), (51, (I r55))]) ⟨e0, e2, e8, e9, e11, e40, e41, e51, trivial⟩]
      clear hoff hrel e0 e2 e8 e9 e11 e40 e41 e51
      revert h; refine br fun x59 hx60 h => ?_
      obtain ⟨b62, o63, hi61, -⟩ := (H.own 1 rfl).ix hx60
      refine st (v := (pt b62 o63)) (rv_ix Tryz.underlying46 ti107 rfl rfl hi61) (st (v := (pt b62 (o63 + 1))) (rv_fieldAddr (off := 1) (ft := 3) Tryz.underlying107 rfl ti3 rfl rfl) ?_)
      refine st_exS (ex_store_own (e' := (x59.1, r55, x59.2.2.1, x59.2.2.2)) (vs := [(I r55)]) (k := 1) H (i := 1) rfl ti3 hx60 hi61 rfl rfl rfl rfl rfl (Nat.le_of_ble_eq_true rfl) (by simp [plain]) (by rintro _ ⟨_, _, rfl, rfl, ⟨_, _, rfl, rfl, ⟨_, _, rfl, rfl, rfl⟩⟩⟩; exact ⟨[(I x59.1)], [(I r55), (I x59.2.2.1), (I x59.2.2.2)], rfl, rfl, ⟨[(I r55)], [(I x59.2.2.1), (I x59.2.2.2)], rfl, rfl, ⟨[(I x59.2.2.1)], [(I x59.2.2.2)], rfl, rfl, rfl⟩⟩⟩)) wn ?_
      rintro σ64 ⟨H, -⟩
      have hsl : (Sl a39 xs37 c40) = (Sl a39 (xs37.set (Fo.length : Int).toNat (x59.1, r55, x59.2.2.1, x59.2.2.2)) c40) := sl_len List.length_set.symm
      rw [hsl]; rw [hsl] at H; clear hsl
      refine w_end (q_then (c_seq (rg (sm (Sl a39 (xs37.set (Fo.length : Int).toNat (x59.1, r55, x59.2.2.1, x59.2.2.2)) c40) rfl (sm (I (Fo.length : Int)) rfl (sm (Sl a39 (xs37.set (Fo.length : Int).toNat (x59.1, r55, x59.2.2.1, x59.2.2.2)) c40) rfl (st (v := (I ((xs37.set (Fo.length : Int).toNat (x59.1, r55, x59.2.2.1, x59.2.2.2)).length : Int))) (rv_len Tryz.underlying46 rfl) ?_)))))))
      revert h; refine br fun x65 hx66 h => ?_
      obtain ⟨b68, o69, hi67, -⟩ := (H.own 0 rfl).ix hx66
      refine st (v := (pt b68 o69)) (rv_ix Tryz.underlying46 ti107 rfl rfl hi67) (st (v := (pt b68 (o69 + 2))) (rv_fieldAddr (off := 2) (ft := 3) Tryz.underlying107 rfl ti3 rfl rfl) ?_)
      refine st_exS (ex_store_own (e' := (x65.1, x65.2.1, ((xs37.set (Fo.length : Int).toNat (x59.1, r55, x59.2.2.1, x59.2.2.2)).length : Int), x65.2.2.2)) (vs := [(I ((xs37.set (Fo.length : Int).toNat (x59.1, r55, x59.2.2.1, x59.2.2.2)).length : Int))]) (k := 2) H (i := 0) rfl ti3 hx66 hi67 rfl rfl rfl rfl rfl (Nat.le_of_ble_eq_true rfl) (by simp [plain]) (by rintro _ ⟨_, _, rfl, rfl, ⟨_, _, rfl, rfl, ⟨_, _, rfl, rfl, rfl⟩⟩⟩; exact ⟨[(I x65.1)], [(I x65.2.1), (I ((xs37.set (Fo.length : Int).toNat (x59.1, r55, x59.2.2.1, x59.2.2.2)).length : Int)), (I x65.2.2.2)], rfl, rfl, ⟨[(I x65.2.1)], [(I ((xs37.set (Fo.length : Int).toNat (x59.1, r55, x59.2.2.1, x59.2.2.2)).length : Int)), (I x65.2.2.2)], rfl, rfl, ⟨[(I ((xs37.set (Fo.length : Int).toNat (x59.1, r55, x59.2.2.1, x59.2.2.2)).length : Int))], [(I x65.2.2.2)], rfl, rfl, rfl⟩⟩⟩)) wn ?_
      rintro σ70 ⟨H, -⟩
      have hsl : (Sl a39 (xs37.set (Fo.length : Int).toNat (x59.1, r55, x59.2.2.1, x59.2.2.2)) c40) = (Sl a39 ((xs37.set (Fo.length : Int).toNat (x59.1, r55, x59.2.2.1, x59.2.2.2)).set (Fo.length : Int).toNat (x65.1, x65.2.1, ((xs37.set (Fo.length : Int).toNat (x59.1, r55, x59.2.2.1, x59.2.2.2)).length : Int), x65.2.2.2)) c40) := sl_len List.length_set.symm
      rw [hsl]; rw [hsl] at H; clear hsl
      refine w_end (q_then (rg (sm (Sl a39 ((xs37.set (Fo.length : Int).toNat (x59.1, r55, x59.2.2.1, x59.2.2.2)).set (Fo.length : Int).toNat (x65.1, x65.2.1, ((xs37.set (Fo.length : Int).toNat (x59.1, r55, x59.2.2.1, x59.2.2.2)).length : Int), x65.2.2.2)) c40) rfl (sm (Sl a27 r24 c28) rfl (sm (I (w64 ((w64 ((r24.length : Int) + 1)).tdiv 2))) rfl ?_)))))
      revert h; refine br fun xs71 hx72 h => ?_
      obtain ⟨σ77, hw78, H, -⟩ := H.pub 3 rfl (Nat.zero_le _)
      rw [← hw78]; clear hw78
      obtain ⟨a73, c74, hs75, hR76⟩ := (H.ro 0 rfl).slice hx72
      replace H := H.add (d := Ch.ro 0 (Sl a73 xs71 c74) xs71) hR76 (fun _ h => h)
      clear hR76
      refine st (v := (Sl a73 xs71 c74)) (rv_slice_h Tryz.underlying23 ti59 hs75 rfl rfl) (sm (I Fp) rfl ?_)
      revert h; refine br fun r79 hx80 h => ?_
      have hc81 := ih (Fq := a39) (Fr := c40) (Au := a73) (Av := c74) hx80
      refine st_call (cx_call hc81 (ent_f hc81.fn rfl) hn0 (H.sel' [2, 0, 0, 1, 3, 4, 5, 6] rfl rfl : Hp S0 σ0 _ ([_, _] ++ _))) wn ?_
      rintro _ σ84 ⟨_, ⟨a82, c83, rfl, rfl⟩, H, -⟩
      replace H : Hp _ _ _ [_, _, _, _, _, _, _] := H
      refine sa (Sl a82 r79 c83) rfl (w_end ?_)
      replace H := H.ownSc 0 0 0 rfl (Nat.le_refl _)
      obtain rfl := sj h
      exact ⟨rfl, _, σ84, a82, c83, fr_join ⟨rfl, rfl, rfl, rfl, rfl, trivial⟩, rfl, H.sel' [0, 2] rfl rfl⟩
    ·replace h := bif_f hb43 h
     refine c_skip ?_
     obtain ⟨σ85, hw86, H, -⟩ := H.pub 2 rfl (Nat.zero_le _)
     rw [← hw86]; clear hw86
     obtain rfl := sj h
     exact ⟨rfl, _, σ85, a39, c40, fr_join ⟨rfl, rfl, rfl, rfl, rfl, trivial⟩, rfl, H.sel' [1, 0] rfl rfl⟩
   ·clear hj
    have h := h'
    clear h' H
    rintro e a w ⟨rfl, ρ, σ87, a88, c89, rfl, rfl, H⟩
    refine q_then (c_seq (c_seq (rg (sm (I (w64 ((w64 ((r24.length : Int) + 1)).tdiv 2))) rfl (sm (Sl a27 r24 c28) rfl (st (v := (I (r24.length : Int))) (rv_len Tryz.underlying23 rfl) (st (v := (B (decide ((w64 ((w64 ((r24.length : Int) + 1)).tdiv 2)) < (r24.length : Int))))) (rv_lss (a := (w64 ((w64 ((r24.length : Int) + 1)).tdiv 2))) (b := (r24.length : Int)) rfl rfl) (w_end (q_then ?_)))))))))
    obtain ⟨o90, hj, h'⟩ := bind_some h
    clear h
    refine c_cut (fun e a w => e = .normal ∧ ∃ (ρ : Nat → Value) (σ : St) (aj1 : Option Addr) (cj2 : Nat), a = fr 83 (updL ρ [(0, (Sl aj1 o90 cj2))]) ∧ w = σ.w ∧ Hp S0 σ0 σ [Ch.own 0 0 (Sl aj1 o90 cj2) o90]) ?_ ?_
    ·clear h'
     rename _ = some o90 => h
     refine cd_cond (decide ((w64 ((w64 ((r24.length : Int) + 1)).tdiv 2)) < (r24.length : Int))) rfl (fun hb91 => ?_) (fun hb91 => ?_)
     ·replace h := bif_t hb91 h
      refine c_seq (rg (sm (Sl a88 o42 c89) rfl (sm (I (Fo.length : Int)) rfl (sm (Sl a88 o42 c89) rfl (st (v := (I (o42.length : Int))) (rv_len Tryz.underlying46 rfl) ?_)))))
      revert h; refine br fun x92 hx93 h => ?_
      obtain ⟨b95, o96, hi94, -⟩ := (H.own 0 rfl).ix hx93
      refine st (v := (pt b95 o96)) (rv_ix Tryz.underlying46 ti107 rfl rfl hi94) (st (v := (pt b95 (o96 + 3))) (rv_fieldAddr (off := 3) (ft := 3) Tryz.underlying107 rfl ti3 rfl rfl) ?_)
      refine st_exS (ex_store_own (e' := (x92.1, x92.2.1, x92.2.2.1, (o42.length : Int))) (vs := [(I (o42.length : Int))]) (k := 3) H (i := 0) rfl ti3 hx93 hi94 rfl rfl rfl rfl rfl (Nat.le_of_ble_eq_true rfl) (by simp [plain]) (by rintro _ ⟨_, _, rfl, rfl, ⟨_, _, rfl, rfl, ⟨_, _, rfl, rfl, rfl⟩⟩⟩; exact ⟨[(I x92.1)], [(I x92.2.1), (I x92.2.2.1), (I (o42.length : Int))], rfl, rfl, ⟨[(I x92.2.1)], [(I x92.2.2.1), (I (o42.length : Int))], rfl, rfl, ⟨[(I x92.2.2.1)], [(I (o42.length : Int))], rfl, rfl, rfl⟩⟩⟩)) wn ?_
      rintro σ97 ⟨H, -⟩
      have hsl : (Sl a88 o42 c89) = (Sl a88 (o42.set (Fo.length : Int).toNat (x92.1, x92.2.1, x92.2.2.1, (o42.length : Int))) c89) := sl_len List.length_set.symm
      rw [hsl]; rw [hsl] at H; clear hsl
      refine w_end (q_then (rg (sm (Sl a88 (o42.set (Fo.length : Int).toNat (x92.1, x92.2.1, x92.2.2.1, (o42.length : Int))) c89) rfl (sm (Sl a27 r24 c28) rfl (sm (I (w64 ((w64 ((r24.length : Int) + 1)).tdiv 2))) rfl ?_)))))
      revert h; refine br fun xs98 hx99 h => ?_
      obtain ⟨a100, c101, hs102, hR103⟩ := (H.ro 1 rfl).slice hx99
      replace H := H.add (d := Ch.ro 0 (Sl a100 xs98 c101) xs98) hR103 (fun _ h => h)
      clear hR103
      refine st (v := (Sl a100 xs98 c101)) (rv_slice_l Tryz.underlying23 ti59 hs102 rfl rfl) (sm (I Fp) rfl ?_)
      revert h; refine br fun r104 hx105 h => ?_
      have hc106 := ih (Fq := a88) (Fr := c89) (Au := a100) (Av := c101) hx105
      refine st_call (cx_call hc106 (ent_f hc106.fn rfl) hn0 (H.sel' [1, 0, 0, 2] rfl rfl : Hp S0 σ0 _ ([_, _] ++ _))) wn ?_
      rintro _ σ109 ⟨_, ⟨a107, c108, rfl, rfl⟩, H, -⟩
      replace H : Hp _ _ _ [_, _, _] := H
      refine sa (Sl a107 r104 c108) rfl (w_end ?_)
      replace H := H.ownSc 0 0 0 rfl (Nat.le_refl _)
      obtain rfl := sj h
      exact ⟨rfl, _, σ109, a107, c108, fr_join ⟨rfl, trivial⟩, rfl, H.sel' [0] rfl rfl⟩
     ·replace h := bif_f hb91 h
      refine c_skip ?_
      obtain rfl := sj h
      exact ⟨rfl, _, σ87, a88, c89, fr_join ⟨rfl, trivial⟩, rfl, H.sel' [0] rfl rfl⟩
    ·clear hj
     have h := h'
     clear h' H
     rintro e a w ⟨rfl, ρ, σ110, a111, c112, rfl, rfl, H⟩
     refine q_then (c_seq (rg (sm (Sl a111 o90 c112) rfl (sa (Sl a111 o90 c112) rfl (w_end (q_then (c_ret ?_)))))))
     replace H := H.ownSc 0 0 n0 rfl (Nat.le_refl _)
     obtain rfl := sj h
     exact fin_ret (v := (Sl a111 o90 c112)) (results_ok Tryz.results47 (res_tmp (v := (Sl a111 o90 c112)) rfl res_nil) rfl) ⟨a111, c112, rfl, rfl⟩ (H.sel' [0] rfl rfl)

theorem c_spec_keyAt {Ap : List (Int × (List Int) × Int)} {Fs : Int} {Aq : Option Addr} {Ar : Nat} {r : Int} (h : M.spec_keyAt Ap Fs = some r) :
    Cal2 Tryz.prog 74 [(Sl Aq Ap Ar), (I Fs)] [Ch.ro 0 (Sl Aq Ap Ar) Ap] (fun n0 v L => v = (I r) ∧ L = []) := by
 refine cal2 (n := 20) Tryz.func74 rfl rfl rfl rfl ?_
 intro S0 σ0 n0 hn0 H
 unfold M.spec_keyAt at h
 refine c_seq (rg (sa (I 0) rfl (w_end (q_then (c_seq (c_seq (rg (sa (I 0) rfl (w_end (q_then ?_))))))))))
 obtain ⟨o1, hj, h'⟩ := bind_some h
 clear h
 refine c_cut (fun e a w => (∃ t, o1 = (.inl t) ∧ e = .normal ∧ ∃ (ρ : Nat → Value) (σ : St), a = fr 20 (updL ρ []) ∧ w = σ.w ∧ Hp S0 σ0 σ []) ∨ (∃ t, o1 = (.inr t) ∧ e = .ret ∧ ∃ (ρ : Nat → Value) (σ : St), a = fr 20 (updL ρ [(4, (I t))]) ∧ w = σ.w ∧ Hp S0 σ0 σ [])) ?_ ?_
 ·clear h'
  rename _ = some o1 => h
  refine c_blk (wp_loopM _ h (fun s2 a w => ∃ (ρ : Nat → Value) (σ : St), a = fr 20 (updL ρ [(0, (Sl Aq Ap Ar)), (1, (I Fs)), (5, (I s2))]) ∧ w = σ.w ∧ Hp S0 σ0 σ [Ch.ro 0 (Sl Aq Ap Ar) Ap]) ⟨_, σ0, fr_join ⟨rfl, rfl, rfl, trivial⟩, rfl, H.sel' [0] rfl rfl⟩ ?_)
  clear h H
  rintro s2 a w o ⟨ρ, σ3, rfl, rfl, H⟩ h hres
  refine c_seq (c_seq (rg (sm (I s2) rfl (sm (Sl Aq Ap Ar) rfl (st (v := (I (Ap.length : Int))) (rv_len Tryz.underlying23 rfl) (st (v := (B (decide (s2 < (Ap.length : Int))))) (rv_lss (a := s2) (b := (Ap.length : Int)) rfl rfl) (w_end (q_then ?_))))))))
  refine cd_cond (decide (s2 < (Ap.length : Int))) rfl (fun hb4 => ?_) (fun hb4 => ?_)
  ·replace h := bif_t hb4 h
   refine c_skip (q_then (c_seq (c_blk (c_seq (rg (sm (Sl Aq Ap Ar) rfl (sm (I s2) rfl ?_)))))))
   revert h; refine br fun x5 hx6 h => ?_
   obtain ⟨b8, o9, hi7, -⟩ := (H.ro 0 rfl).ix hx6
   refine st (v := (pt b8 o9)) (rv_ix Tryz.underlying23 ti59 rfl rfl hi7) (st (v := (pt b8 (o9 + 0))) (rv_fieldAddr (off := 0) (ft := 3) Tryz.underlying59 rfl ti3 rfl rfl) ?_)
   have hc10 := ((H.ro 0 rfl).at hx6 hi7).fst.int
   refine st (v := (I x5.1)) (rv_load1 Tryz.underlying3 rfl rfl hc10) (sm (I Fs) rfl (st (v := (B (x5.1 == Fs))) (rv_eql (a := x5.1) (b := Fs) rfl rfl) (w_end (q_then ?_))))
   refine cd_cond (x5.1 == Fs) rfl (fun hb11 => ?_) (fun hb11 => ?_)
   ·replace h := bif_t hb11 h
    refine c_seq (rg (sm (I s2) rfl (sa (I s2) rfl (w_end (q_then (c_ret (q_blk_r (q_then_r (q_then_r (q_blk_r ?_))))))))))
    obtain rfl := sj h
    obtain rfl := hres _ rfl
    exact .inr (⟨_, rfl, rfl, _, σ3, fr_join ⟨rfl, trivial⟩, rfl, H.sel' [] rfl rfl⟩)
   ·replace h := bif_f hb11 h
    refine c_skip (q_blk (q_then (rg (sm (I s2) rfl (st (v := (I (w64 (s2 + 1)))) (rv_add (a := s2) (b := 1) rfl rfl) (sa (I (w64 (s2 + 1))) rfl (w_end (q_then ?_))))))))
    obtain rfl := sj h
    exact ⟨_, rfl, _, σ3, fr_join ⟨rfl, rfl, rfl, trivial⟩, rfl, H.sel' [0] rfl rfl⟩
  ·replace h := bif_f hb4 h
   refine c_exit (q_then_x (q_then_x (q_blk_hit ?_)))
   obtain rfl := sj h
   obtain rfl := hres _ rfl
   exact .inl ⟨_, rfl, rfl, _, σ3, fr_join trivial, rfl, H.sel' [] rfl rfl⟩
 ·clear hj
  have h := h'
  clear h' H
  rintro e a w (⟨t12, rfl, rfl, ρ, σ13, rfl, rfl, H⟩ | ⟨t14, rfl, rfl, ρ, σ15, rfl, rfl, H⟩)
  ·replace h := selim_l h
   refine q_then (c_seq (rg (sa (I (-1)) rfl (w_end (q_then (c_ret ?_))))))
   obtain rfl := sj h
   exact fin_ret (v := (I (-1))) (results_ok Tryz.results74 (res_tmp (v := (I (-1))) rfl res_nil) rfl) ⟨rfl, rfl⟩ (H.sel' [] rfl rfl)
  ·replace h := selim_r h
   refine q_then_r ?_
   obtain rfl := sj h
   exact fin_ret (v := (I t14)) (results_ok Tryz.results74 (res_tmp (v := (I t14)) rfl res_nil) rfl) ⟨rfl, rfl⟩ (H.sel' [] rfl rfl)

theorem c_spec_addHit {Ap : List (Int × Int)} {Db : Int × Int} {Ft : Int} {Aq : Option Addr} {Ar : Nat} {r : (List (Int × Int))} (h : M.spec_addHit Ap Db Ft = some r) :
    Cal2 Tryz.prog 75 [(Sl Aq Ap Ar), (.agg #[(I Db.1), (I Db.2)]), (I Ft)] [Ch.ro 0 (Sl Aq Ap Ar) Ap] (fun n0 v L => ∃ (az1 : Option Addr), ∃ (cz2 : Nat), v = (Sl az1 r cz2) ∧ L = [Ch.own n0 n0 (Sl az1 r cz2) r]) := by
 refine cal2 (n := 58) Tryz.func75 rfl rfl rfl rfl ?_
 intro S0 σ0 n0 hn0 H
 unfold M.spec_addHit at h
 refine c_seq (rg (st_ex (ex_box (cs := [(I Db.1), (I Db.2)]) H hn0 rfl rfl) wn ?_))
 rintro _ σ2 ⟨b1, rfl, H, -⟩
 refine sa (.slice none 0 0) rfl (w_end (q_then (c_seq ?_)))
 revert h; refine br fun xs4 hx5 h => ?_
 have hc8 := H.cells 0 rfl
 have Hs := H
 refine rg2 (σ := σ2) (Nm := (Nat) × (Option Addr) × (Nat) × (Nat)) 5 [0, 2, 4] [[false, false, false], [true, false, false], [false, false, true], [true, true, false], [true, false, true], [true, true, true]] [[(0, 1), (2, 4)], [(0, 0), (1, 1), (2, 2), (4, 4)], [(1, 3), (4, 5)], [(0, 0), (1, 1), (3, 3)], [(0, 2), (1, 4), (3, 5)]] 5 [fun ((b3, a6, c7, b9) : (Nat) × (Option Addr) × (Nat) × (Nat)) => fun σm => Hp S0 σ0 σm [Ch.bx n0 b1 0 [(I Db.1), (I Db.2)] [] [], Ch.ro 0 (Sl Aq Ap Ar) Ap] ∧ Md (cov []) σ2 σm, fun ((b3, a6, c7, b9) : (Nat) × (Option Addr) × (Nat) × (Nat)) => fun σm => Hp S0 σ0 σm [Ch.own n0 n0 (Sl (some ⟨b3, 0, none⟩) ([] : List (Int × Int)) 0) ([] : List (Int × Int)), Ch.bx n0 b1 0 [(I Db.1), (I Db.2)] [] [], Ch.ro 0 (Sl Aq Ap Ar) Ap] ∧ Md (cov []) σ2 σm, fun ((b3, a6, c7, b9) : (Nat) × (Option Addr) × (Nat) × (Nat)) => fun σm => Hp S0 σ0 σm [Ch.own n0 n0 (Sl (some ⟨b9, 0, none⟩) ([(Db.1, Db.2)] : List (Int × Int)) 1) ([(Db.1, Db.2)] : List (Int × Int)), Ch.bx n0 b1 0 [(I Db.1), (I Db.2)] [] [], Ch.ro 0 (Sl Aq Ap Ar) Ap] ∧ Md (cov []) σ2 σm, fun ((b3, a6, c7, b9) : (Nat) × (Option Addr) × (Nat) × (Nat)) => fun σm => Hp S0 σ0 σm [Ch.own n0 n0 (Sl a6 xs4 c7) xs4, Ch.bx n0 b1 0 [(I Db.1), (I Db.2)] [] [], Ch.ro 0 (Sl Aq Ap Ar) Ap] ∧ Md (fun i => (cov []) i ∨ (fun b => blk (Sl (some ⟨b3, 0, none⟩) ([] : List (Int × Int)) 0) = some b) i) σ2 σm, fun ((b3, a6, c7, b9) : (Nat) × (Option Addr) × (Nat) × (Nat)) => fun σm => Hp S0 σ0 σm [Ch.own n0 n0 (Sl (some ⟨b9, 0, none⟩) ([(Db.1, Db.2)] : List (Int × Int)) 1) ([(Db.1, Db.2)] : List (Int × Int)), Ch.own n0 n0 (Sl (some ⟨b3, 0, none⟩) ([] : List (Int × Int)) 0) ([] : List (Int × Int)), Ch.bx n0 b1 0 [(I Db.1), (I Db.2)] [] [], Ch.ro 0 (Sl Aq Ap Ar) Ap] ∧ Md (cov []) σ2 σm, fun ((b3, a6, c7, b9) : (Nat) × (Option Addr) × (Nat) × (Nat)) => fun σm => Hp S0 σ0 σm [Ch.own n0 n0 (Sl (some ⟨b9, 0, none⟩) ([(Db.1, Db.2)] : List (Int × Int)) 1) ([(Db.1, Db.2)] : List (Int × Int)), Ch.own n0 n0 (Sl a6 xs4 c7) xs4, Ch.bx n0 b1 0 [(I Db.1), (I Db.2)] [] [], Ch.ro 0 (Sl Aq Ap Ar) Ap] ∧ Md (fun i => (cov []) i ∨ (fun b => blk (Sl (some ⟨b3, 0, none⟩) ([] : List (Int × Int)) 0) = some b) i) σ2 σm] [fun ((b3, a6, c7, b9) : (Nat) × (Option Addr) × (Nat) × (Nat)) => (Sl (some ⟨b3, 0, none⟩) ([] : List (Int × Int)) 0), fun ((b3, a6, c7, b9) : (Nat) × (Option Addr) × (Nat) × (Nat)) => (Sl Aq Ap Ar), fun ((b3, a6, c7, b9) : (Nat) × (Option Addr) × (Nat) × (Nat)) => (Sl a6 xs4 c7), fun ((b3, a6, c7, b9) : (Nat) × (Option Addr) × (Nat) × (Nat)) => (.agg #[(I Db.1), (I Db.2)]), fun ((b3, a6, c7, b9) : (Nat) × (Option Addr) × (Nat) × (Nat)) => (Sl (some ⟨b9, 0, none⟩) ([(Db.1, Db.2)] : List (Int × Int)) 1)] (0, none, 0, 0) (by kernel_rfl) (by kernel_rfl) ?_ ?_ ?_
 ·intro σm m0
  exact ⟨H.grow (m0.mono fun _ h => h.elim), m0⟩
 ·refine all_cons (by
    refine ⟨?_, ?_⟩
    ·rintro ⟨b3, a6, c7, b9⟩ ρ σm hJ hoff hdep
     obtain ⟨H, m⟩ := id hJ
     refine dp_ex wn (ex_buildSlice (el := n0) (xs := ([] : List (Int × Int))) (ps := []) (cs := []) H hn0 Tryz.underlying27 ti43 rfl rfl (by kernel_rfl) (.nil) rfl) ?_
     rintro _ σq ⟨b3x, rfl, H2, m2⟩
     exact ⟨_, (b3x, a6, c7, b9), rfl, rfl, ⟨H2.sel' [0, 1, 2] rfl rfl, m.comp0 m2⟩, stab [1, 3, 4] (by kernel_rfl) ⟨rfl, rfl, rfl, trivial⟩⟩
    refine ⟨?_, ?_⟩
    ·rintro ⟨b3, a6, c7, b9⟩ ρ σm hJ hoff hdep
     obtain ⟨H, m⟩ := id hJ
     refine dp_ex wn (ex_buildSlice (el := n0) (xs := ([] : List (Int × Int))) (ps := []) (cs := []) H hn0 Tryz.underlying27 ti43 rfl rfl (by kernel_rfl) (.nil) rfl) ?_
     rintro _ σq ⟨b3x, rfl, H2, m2⟩
     exact ⟨_, (b3x, a6, c7, b9), rfl, rfl, ⟨H2.sel' [1, 0, 2, 3] rfl rfl, m.comp0 m2⟩, stab [1, 3, 4] (by kernel_rfl) ⟨rfl, rfl, rfl, trivial⟩⟩
    trivial) ?_
  refine ac rfl (by
    intro k; rintro ⟨b3, a6, c7, b9⟩ ρ σm hJ hoff hdep
    have e0 := look_off (N := 58) (hoff 0 rfl) rfl
    exact dp_v (v := (Sl Aq Ap Ar)) wn (rv_move e0) rfl hJ) ?_
  refine all_cons (by
    refine ⟨?_, ?_⟩
    ·rintro ⟨b3, a6, c7, b9⟩ ρ σm hJ hoff hdep
     have e10 := hdep 0 rfl rfl 10 rfl
     have e11 := hdep 1 rfl rfl 11 rfl
     obtain ⟨H, m⟩ := id hJ
     refine dp_ex wn (ex_append H (i := 0) rfl Tryz.underlying27 Tryz.underlying27 ti43 rfl rfl (by decide) ((H.ro 2 rfl).rd.sc) hx5 hn0 e10 e11) ?_
     rintro _ σq ⟨a6x, c7x, rfl, H2, m2⟩
     exact ⟨_, (b3, a6x, c7x, b9), rfl, rfl, ⟨H2.sel' [0, 1, 2] rfl rfl, m.comp m2⟩, stab [0, 1, 3, 4] (by kernel_rfl) ⟨rfl, rfl, rfl, rfl, trivial⟩⟩
    refine ⟨?_, ?_⟩
    ·rintro ⟨b3, a6, c7, b9⟩ ρ σm hJ hoff hdep
     have e10 := hdep 0 rfl rfl 10 rfl
     have e11 := hdep 1 rfl rfl 11 rfl
     obtain ⟨H, m⟩ := id hJ
     refine dp_ex wn (ex_append H (i := 1) rfl Tryz.underlying27 Tryz.underlying27 ti43 rfl rfl (by decide) ((H.ro 3 rfl).rd.sc) hx5 hn0 e10 e11) ?_
     rintro _ σq ⟨a6x, c7x, rfl, H2, m2⟩
     exact ⟨_, (b3, a6x, c7x, b9), rfl, rfl, ⟨H2.sel' [1, 0, 2, 3] rfl rfl, m.comp m2⟩, stab [0, 1, 3, 4] (by kernel_rfl) ⟨rfl, rfl, rfl, rfl, trivial⟩⟩
    trivial) ?_
  refine all_cons (by
    refine ⟨?_, ?_⟩
    ·rintro ⟨b3, a6, c7, b9⟩ ρ σm hJ hoff hdep
     have e4 := look_off (N := 58) (hoff 4 rfl) rfl
     obtain ⟨H, m⟩ := id hJ
     have hc8 := H.cells 0 rfl
     exact dp_v (v := (.agg #[(I Db.1), (I Db.2)])) wn (rv_load (cs := [(I Db.1), (I Db.2)]) Tryz.underlying43 rfl ti43 e4 rfl hc8) rfl hJ
    refine ⟨?_, ?_⟩
    ·rintro ⟨b3, a6, c7, b9⟩ ρ σm hJ hoff hdep
     have e4 := look_off (N := 58) (hoff 4 rfl) rfl
     obtain ⟨H, m⟩ := id hJ
     have hc8 := H.cells 1 rfl
     exact dp_v (v := (.agg #[(I Db.1), (I Db.2)])) wn (rv_load (cs := [(I Db.1), (I Db.2)]) Tryz.underlying43 rfl ti43 e4 rfl hc8) rfl hJ
    refine ⟨?_, ?_⟩
    ·rintro ⟨b3, a6, c7, b9⟩ ρ σm hJ hoff hdep
     have e4 := look_off (N := 58) (hoff 4 rfl) rfl
     obtain ⟨H, m⟩ := id hJ
     have hc8 := H.cells 1 rfl
     exact dp_v (v := (.agg #[(I Db.1), (I Db.2)])) wn (rv_load (cs := [(I Db.1), (I Db.2)]) Tryz.underlying43 rfl ti43 e4 rfl hc8) rfl hJ
    trivial) ?_
  refine all_cons (by
    refine ⟨?_, ?_⟩
    ·rintro ⟨b3, a6, c7, b9⟩ ρ σm hJ hoff hdep
     have e13 : look 58 ρ 13 = (.agg #[(I Db.1), (I Db.2)]) := hdep 3 rfl rfl 13 rfl
     obtain ⟨H, m⟩ := id hJ
     refine dp_ex wn (ex_buildSlice (el := n0) (xs := ([(Db.1, Db.2)] : List (Int × Int))) (ps := [(0, (.agg #[(I Db.1), (I Db.2)]))]) (cs := [(I Db.1), (I Db.2)]) H hn0 Tryz.underlying27 ti43 rfl (by show [(0, look 58 ρ 13)] = _; rw [e13]) (by kernel_rfl) (.cons (c := [(I Db.1), (I Db.2)]) ⟨[(I Db.1)], [(I Db.2)], rfl, rfl, rfl⟩ (.nil)) rfl) ?_
     rintro _ σq ⟨b9x, rfl, H2, m2⟩
     exact ⟨_, (b3, a6, c7, b9x), rfl, rfl, ⟨H2.sel' [0, 1, 2] rfl rfl, m.comp0 m2⟩, stab [0, 1, 2, 3] (by kernel_rfl) ⟨rfl, rfl, rfl, rfl, trivial⟩⟩
    refine ⟨?_, ?_⟩
    ·rintro ⟨b3, a6, c7, b9⟩ ρ σm hJ hoff hdep
     have e13 : look 58 ρ 13 = (.agg #[(I Db.1), (I Db.2)]) := hdep 3 rfl rfl 13 rfl
     obtain ⟨H, m⟩ := id hJ
     refine dp_ex wn (ex_buildSlice (el := n0) (xs := ([(Db.1, Db.2)] : List (Int × Int))) (ps := [(0, (.agg #[(I Db.1), (I Db.2)]))]) (cs := [(I Db.1), (I Db.2)]) H hn0 Tryz.underlying27 ti43 rfl (by show [(0, look 58 ρ 13)] = _; rw [e13]) (by kernel_rfl) (.cons (c := [(I Db.1), (I Db.2)]) ⟨[(I Db.1)], [(I Db.2)], rfl, rfl, rfl⟩ (.nil)) rfl) ?_
     rintro _ σq ⟨b9x, rfl, H2, m2⟩
     exact ⟨_, (b3, a6, c7, b9x), rfl, rfl, ⟨H2.sel' [0, 1, 2, 3] rfl rfl, m.comp0 m2⟩, stab [0, 1, 2, 3] (by kernel_rfl) ⟨rfl, rfl, rfl, rfl, trivial⟩⟩
    refine ⟨?_, ?_⟩
    ·rintro ⟨b3, a6, c7, b9⟩ ρ σm hJ hoff hdep
     have e13 : look 58 ρ 13 = (.agg #[(I Db.1), (I Db.2)]) := hdep 3 rfl rfl 13 rfl
     obtain ⟨H, m⟩ := id hJ
     refine dp_ex wn (ex_buildSlice (el := n0) (xs := ([(Db.1, Db.2)] : List (Int × Int))) (ps := [(0, (.agg #[(I Db.1), (I Db.2)]))]) (cs := [(I Db.1), (I Db.2)]) H hn0 Tryz.underlying27 ti43 rfl (by show [(0, look 58 ρ 13)] = _; rw [e13]) (by kernel_rfl) (.cons (c := [(I Db.1), (I Db.2)]) ⟨[(I Db.1)], [(I Db.2)], rfl, rfl, rfl⟩ (.nil)) rfl) ?_
     rintro _ σq ⟨b9x, rfl, H2, m2⟩
     exact ⟨_, (b3, a6, c7, b9x), rfl, rfl, ⟨H2.sel' [0, 1, 2, 3] rfl rfl, m.comp0 m2⟩, stab [0, 1, 2, 3] (by kernel_rfl) ⟨rfl, rfl, rfl, rfl, trivial⟩⟩
    trivial) ?_
  exact all_nil
 ·rintro ⟨b3, a6, c7, b9⟩ ρ σ10 hJ hoff hrel
  have e2 := look_off (N := 58) (hoff 2 rfl) rfl
  have e12 := hrel 2 rfl 12 rfl
  have e14 := hrel 4 rfl 14 rfl
  obtain ⟨H, -⟩ := (show Hp S0 σ0 σ10 [Ch.own n0 n0 (Sl (some ⟨b9, 0, none⟩) ([(Db.1, Db.2)] : List (Int × Int)) 1) ([(Db.1, Db.2)] : List (Int × Int)), Ch.own n0 n0 (Sl a6 xs4 c7) xs4, Ch.bx n0 b1 0 [(I Db.1), (I Db.2)] [] [], Ch.ro 0 (Sl Aq Ap Ar) Ap] ∧ Md (fun i => (cov []) i ∨ (fun b => blk (Sl (some ⟨b3, 0, none⟩) ([] : List (Int × Int)) 0) = some b) i) σ2 σ10 from hJ)
  clear hJ Hs
  rw [fr_lookL (L := [(2, (I Ft)), (12, (Sl a6 xs4 c7)), (14, (Sl (some ⟨b9, 0, none⟩) ([(Db.1, Db.2)] : List (Int × Int)) 1))]) ⟨e2, e12, e14, trivial⟩]
  clear hoff hrel e2 e12 e14
  revert h; refine br fun xs11 hx12 h => ?_
  refine st_ex (ex_append H (i := 1) rfl Tryz.underlying27 Tryz.underlying27 ti43 rfl rfl (by decide) (H.own 0 rfl).rd hx12 hn0 rfl rfl) wn ?_
  rintro _ σ15 ⟨a13, c14, rfl, H, -⟩
  refine sa (Sl a13 xs11 c14) rfl (w_end (q_then (c_seq (c_seq (rg (sm (Sl a13 xs11 c14) rfl (st (v := (I (xs11.length : Int))) (rv_len Tryz.underlying27 rfl) (st (v := (I (w64 ((xs11.length : Int) - 1)))) (rv_sub (a := (xs11.length : Int)) (b := 1) rfl rfl) (sa (I (w64 ((xs11.length : Int) - 1))) rfl (w_end (q_then ?_)))))))))))
  obtain ⟨o16, hj, h'⟩ := bind_some h
  clear h
  refine c_cut (fun e a w => e = .normal ∧ ∃ (ρ : Nat → Value) (σ : St), a = fr 58 (updL ρ [(2, (I Ft)), (7, (Sl a13 o16 c14))]) ∧ w = σ.w ∧ Hp S0 σ0 σ [Ch.own n0 n0 (Sl a13 o16 c14) o16] ∧ o16.length = xs11.length) ?_ ?_
  ·clear h'
   rename _ = some o16 => h
   refine c_blk (wp_loopM _ h (fun s17 a w => ∃ (ρ : Nat → Value) (σ : St), a = fr 58 (updL ρ [(2, (I Ft)), (7, (Sl a13 s17.1 c14)), (8, (I s17.2))]) ∧ w = σ.w ∧ Hp S0 σ0 σ [Ch.own n0 n0 (Sl a13 s17.1 c14) s17.1] ∧ s17.1.length = xs11.length) ⟨_, σ15, fr_join ⟨rfl, rfl, rfl, trivial⟩, rfl, H.sel' [0] rfl rfl, rfl⟩ ?_)
   clear h H
   rintro s17 a w o ⟨ρ, σ18, rfl, rfl, H, hn19⟩ h hres
   refine c_seq (c_seq ?_)
   obtain ⟨o20, hj, h'⟩ := bind_some h
   clear h
   refine c_cut (fun e a w => e = .normal ∧ ∃ (ρ : Nat → Value) (σ : St), a = fr 58 (updL ρ [(2, (I Ft)), (7, (Sl a13 s17.1 c14)), (8, (I s17.2)), (32, (B o20))]) ∧ w = σ.w ∧ Hp S0 σ0 σ [Ch.own n0 n0 (Sl a13 s17.1 c14) s17.1]) ?_ ?_
   ·clear h'
    rename _ = some o20 => h
    refine rgP (σ := σ18) 12 (by kernel_rfl) (by kernel_rfl) (by kernel_rfl) ?_
    refine sq (v := (I s17.2)) (rv_move rfl) (sq (v := (B (decide (0 < s17.2)))) (rv_gtr (a := s17.2) (b := 0) rfl rfl) (sq (v := (B (decide (0 < s17.2)))) (rv_move rfl) ?_))
    rcases Bool.eq_false_or_eq_true (decide (0 < s17.2)) with hb21 | hb21
    ·replace h := bif_t hb21 h
     refine sq_g (v := (Sl a13 s17.1 c14)) (congrArg some hb21) (rv_move rfl) (sq_g (v := (I s17.2)) (congrArg some hb21) (rv_move rfl) ?_)
     revert h; refine br fun x22 hx23 h => ?_
     obtain ⟨b25, o26, hi24, -⟩ := (H.own 0 rfl).ix hx23
     refine sq_g (v := (pt b25 o26)) (congrArg some hb21) (rv_ix Tryz.underlying27 ti43 rfl rfl hi24) ?_
     obtain ⟨_, ⟨_, _, rfl, rfl, rfl⟩, hl27, hc28⟩ := ((H.own 0 rfl).at hx23 hi24).cells
     refine sq_g (v := (.agg #[(I x22.1), (I x22.2)])) (congrArg some hb21) (rv_load Tryz.underlying43 rfl ti43 rfl hl27 hc28) (sq_g (v := (Sl a13 s17.1 c14)) (congrArg some hb21) (rv_move rfl) (sq_g (v := (I s17.2)) (congrArg some hb21) (rv_move rfl) (sq_g (v := (I (w64 (s17.2 - 1)))) (congrArg some hb21) (rv_sub (a := s17.2) (b := 1) rfl rfl) ?_)))
     revert h; refine br fun x29 hx30 h => ?_
     obtain ⟨b32, o33, hi31, -⟩ := (H.own 0 rfl).ix hx30
     refine sq_g (v := (pt b32 o33)) (congrArg some hb21) (rv_ix Tryz.underlying27 ti43 rfl rfl hi31) ?_
     obtain ⟨_, ⟨_, _, rfl, rfl, rfl⟩, hl34, hc35⟩ := ((H.own 0 rfl).at hx30 hi31).cells
     refine sq_g (v := (.agg #[(I x29.1), (I x29.2)])) (congrArg some hb21) (rv_load Tryz.underlying43 rfl ti43 rfl hl34 hc35) (sq_end ?_)
     intro σ36 hm37
     replace H := H.grow (hm37.mono fun _ h => h); clear hm37
     revert h; refine br fun r38 hx39 h => ?_
     have hc40 := c_spec_nearer hx39
     refine st_call (cx_call hc40 (ent_f hc40.fn rfl) hn0 (H.sel' [0] rfl rfl : Hp S0 σ0 _ ([] ++ _))) (wanted_yes rfl (by exact (congrArg some hb21))) ?_
     rintro _ σ41 ⟨_, ⟨rfl, rfl⟩, H, -⟩
     replace H : Hp _ _ _ [_] := H
     refine st (v := (B r38)) (rv_pick_t (congrArg B hb21) rfl) (w_end ?_)
     obtain rfl := sj h
     exact ⟨rfl, _, σ41, fr_join ⟨rfl, rfl, rfl, rfl, trivial⟩, rfl, H.sel' [0] rfl rfl⟩
    ·replace h := bif_f hb21 h
     refine sq_skip (congrArg some hb21) (sq_skip (congrArg some hb21) (sq_skip (congrArg some hb21) (sq_skip (congrArg some hb21) (sq_skip (congrArg some hb21) (sq_skip (congrArg some hb21) (sq_skip (congrArg some hb21) (sq_skip (congrArg some hb21) (sq_skip (congrArg some hb21) (sq_end ?_)))))))))
     intro σ42 hm43
     replace H := H.grow (hm43.mono fun _ h => h); clear hm43
     refine st_skip (congrArg some hb21) (st (v := (B false)) (rv_pick_f (congrArg B hb21) rfl) (w_end ?_))
     obtain rfl := sj h
     exact ⟨rfl, _, σ42, fr_join ⟨rfl, rfl, rfl, rfl, trivial⟩, rfl, H.sel' [0] rfl rfl⟩
   ·clear hj
    have h := h'
    clear h' H
    rintro e a w ⟨rfl, ρ, σ44, rfl, rfl, H⟩
    refine q_then ?_
    refine cd_cond o20 rfl (fun hb45 => ?_) (fun hb45 => ?_)
    ·replace h := bif_t hb45 h
     refine c_skip (q_then (c_seq (c_blk (c_seq (rg (sm (Sl a13 s17.1 c14) rfl (sm (I s17.2) rfl ?_)))))))
     revert h; refine br fun x46 hx47 h => ?_
     obtain ⟨b49, o50, hi48, -⟩ := (H.own 0 rfl).ix hx47
     refine st (v := (pt b49 o50)) (rv_ix Tryz.underlying27 ti43 rfl rfl hi48) ?_
     obtain ⟨_, ⟨_, _, rfl, rfl, rfl⟩, hl51, hc52⟩ := ((H.own 0 rfl).at hx47 hi48).cells
     refine st (v := (.agg #[(I x46.1), (I x46.2)])) (rv_load Tryz.underlying43 rfl ti43 rfl hl51 hc52) (st_ex (ex_alloc (cs := [(I 0), (I 0)]) H hn0 ti43 rfl) wn ?_)
     rintro _ σ54 ⟨b53, rfl, H, -⟩
     refine st_exS (ex_store_box (k := 0) (cs := [(I 0), (I 0)]) (vs := [(I x46.1), (I x46.2)]) (cs' := [(I x46.1), (I x46.2)]) H (i := 0) rfl ti43 rfl rfl rfl rfl rfl (Nat.le_of_ble_eq_true rfl) (by simp [plain]) rfl) wn ?_
     rintro σ55 ⟨H, -⟩
     refine w_end (q_then (c_seq (rg (sm (Sl a13 s17.1 c14) rfl (sm (I s17.2) rfl (sm (Sl a13 s17.1 c14) rfl (sm (I s17.2) rfl (st (v := (I (w64 (s17.2 - 1)))) (rv_sub (a := s17.2) (b := 1) rfl rfl) ?_))))))))
     revert h; refine br fun x56 hx57 h => ?_
     obtain ⟨b59, o60, hi58, -⟩ := (H.own 1 rfl).ix hx57
     refine st (v := (pt b59 o60)) (rv_ix Tryz.underlying27 ti43 rfl rfl hi58) ?_
     obtain ⟨_, ⟨_, _, rfl, rfl, rfl⟩, hl61, hc62⟩ := ((H.own 1 rfl).at hx57 hi58).cells
     refine st (v := (.agg #[(I x56.1), (I x56.2)])) (rv_load Tryz.underlying43 rfl ti43 rfl hl61 hc62) ?_
     revert h; refine br fun x63 hx64 h => ?_
     obtain ⟨b66, o67, hi65, -⟩ := (H.own 1 rfl).ix hx64
     refine st (v := (pt b66 o67)) (rv_ix Tryz.underlying27 ti43 rfl rfl hi65) ?_
     refine st_exS (ex_store_own (e' := (x56.1, x56.2)) (vs := [(I x56.1), (I x56.2)]) (k := 0) H (i := 1) rfl ti43 hx64 hi65 rfl rfl rfl rfl rfl (Nat.le_of_ble_eq_true rfl) (by simp [plain]) (by rintro _ ⟨_, _, rfl, rfl, rfl⟩; exact ⟨[(I x56.1)], [(I x56.2)], rfl, rfl, rfl⟩)) wn ?_
     rintro σ68 ⟨H, -⟩
     have hsl : (Sl a13 s17.1 c14) = (Sl a13 (s17.1.set s17.2.toNat (x56.1, x56.2)) c14) := sl_len List.length_set.symm
     rw [hsl]; rw [hsl] at H; clear hsl
     refine w_end (q_then (rg (sm (Sl a13 (s17.1.set s17.2.toNat (x56.1, x56.2)) c14) rfl (sm (I s17.2) rfl (st (v := (I (w64 (s17.2 - 1)))) (rv_sub (a := s17.2) (b := 1) rfl rfl) ?_)))))
     have hc69 := H.cells 1 rfl
     refine st (v := (.agg #[(I x46.1), (I x46.2)])) (rv_load (cs := [(I x46.1), (I x46.2)]) Tryz.underlying43 rfl ti43 rfl rfl hc69) ?_
     revert h; refine br fun x70 hx71 h => ?_
     obtain ⟨b73, o74, hi72, -⟩ := (H.own 0 rfl).ix hx71
     refine st (v := (pt b73 o74)) (rv_ix Tryz.underlying27 ti43 rfl rfl hi72) ?_
     refine st_exS (ex_store_own (e' := (x46.1, x46.2)) (vs := [(I x46.1), (I x46.2)]) (k := 0) H (i := 0) rfl ti43 hx71 hi72 rfl rfl rfl rfl rfl (Nat.le_of_ble_eq_true rfl) (by simp [plain]) (by rintro _ ⟨_, _, rfl, rfl, rfl⟩; exact ⟨[(I x46.1)], [(I x46.2)], rfl, rfl, rfl⟩)) wn ?_
     rintro σ75 ⟨H, -⟩
     have hsl : (Sl a13 (s17.1.set s17.2.toNat (x56.1, x56.2)) c14) = (Sl a13 ((s17.1.set s17.2.toNat (x56.1, x56.2)).set (w64 (s17.2 - 1)).toNat (x46.1, x46.2)) c14) := sl_len List.length_set.symm
     rw [hsl]; rw [hsl] at H; clear hsl
     refine w_end (q_blk (q_then (rg (sm (I s17.2) rfl (st (v := (I (w64 (s17.2 - 1)))) (rv_sub (a := s17.2) (b := 1) rfl rfl) (sa (I (w64 (s17.2 - 1))) rfl (w_end (q_then ?_))))))))
     obtain rfl := sj h
     exact ⟨_, rfl, _, σ75, fr_join ⟨rfl, rfl, rfl, trivial⟩, rfl, H.sel' [0] rfl rfl, (List.length_set.trans (List.length_set.trans hn19))⟩
    ·replace h := bif_f hb45 h
     refine c_exit (q_then_x (q_then_x (q_blk_hit ?_)))
     obtain rfl := sj h
     obtain rfl := hres _ rfl
     exact ⟨rfl, _, σ44, fr_join ⟨rfl, rfl, trivial⟩, rfl, H.sel' [0] rfl rfl, hn19⟩
  ·clear hj
   have h := h'
   clear h' H
   rintro e a w ⟨rfl, ρ, σ76, rfl, rfl, H, hn77⟩
   refine q_then (c_seq (rg (sm (Sl a13 o16 c14) rfl (sm (I Ft) rfl (sm (Sl a13 o16 c14) rfl (st (v := (I (o16.length : Int))) (rv_len Tryz.underlying27 rfl) (st (v := (I (min Ft (o16.length : Int)))) (rv_min rfl rfl) ?_)))))))
   revert h; refine br fun xs78 hx79 h => ?_
   obtain ⟨a80, c81, hs82, hR83, hb84⟩ := (H.own 0 rfl).slice hx79
   replace H := (H.front (i := 0) rfl).turn (d := Ch.own n0 n0 (Sl a80 xs78 c81) xs78) (fun _ => hR83) hb84; clear hR83 hb84
   refine st (v := (Sl a80 xs78 c81)) (rv_slice_h Tryz.underlying27 ti43 hs82 rfl rfl) (sa (Sl a80 xs78 c81) rfl (w_end (q_then (c_ret ?_))))
   obtain rfl := sj h
   exact fin_ret (v := (Sl a80 xs78 c81)) (results_ok Tryz.results75 (res_tmp (v := (Sl a80 xs78 c81)) rfl res_nil) rfl) ⟨a80, c81, rfl, rfl⟩ (H.sel' [0] rfl rfl)

theorem c_spec_seek_reach {Dr : (List (Int × Int × Int × Int)) × (List (Int × (List Int) × Int)) × Int × (List Int) × Int × (List (Int × Int)) × Int} {Fu : Option Addr} {Fv : Nat} {Fw : Option Addr} {Fx : Nat} {Fy : Option Addr} {Ga : Nat} {Gb : Option Addr} {Gc : Nat} {Gd Ge Gf : Nat} {Gg Gh : List Value} {r : Int} (h : M.spec_seek_reach Dr = some r) :
    Cal2 Tryz.prog 76 [(pt Ge Gf)] [Ch.bx Gd Ge Gf [(Sl Fu Dr.1 Fv), (Sl Fw Dr.2.1 Fx), (I Dr.2.2.1), (Sl Fy Dr.2.2.2.1 Ga), (I Dr.2.2.2.2.1), (Sl Gb Dr.2.2.2.2.2.1 Gc), (I Dr.2.2.2.2.2.2)] Gg Gh, Ch.ro 0 (Sl Fu Dr.1 Fv) Dr.1, Ch.ro 0 (Sl Fw Dr.2.1 Fx) Dr.2.1, Ch.ro 0 (Sl Fy Dr.2.2.2.1 Ga) Dr.2.2.2.1, Ch.ro 0 (Sl Gb Dr.2.2.2.2.2.1 Gc) Dr.2.2.2.2.2.1] (fun n0 v L => v = (I r) ∧ L = [Ch.bx Gd Ge Gf [(Sl Fu Dr.1 Fv), (Sl Fw Dr.2.1 Fx), (I Dr.2.2.1), (Sl Fy Dr.2.2.2.1 Ga), (I Dr.2.2.2.2.1), (Sl Gb Dr.2.2.2.2.2.1 Gc), (I Dr.2.2.2.2.2.2)] Gg Gh]) := by
 refine cal2 (n := 26) Tryz.func76 rfl rfl rfl rfl ?_
 intro S0 σ0 n0 hn0 H
 unfold M.spec_seek_reach at h
 refine c_seq (rg (sa (I 0) rfl (w_end (q_then (c_seq (c_seq ?_))))))
 refine rgP (σ := σ0) 9 (by kernel_rfl) (by kernel_rfl) (by kernel_rfl) ?_
 refine sq (v := (pt Ge Gf)) (rv_move rfl) (sq (v := (pt Ge Gf)) (rv_nilCheck rfl) (sq (v := (pt Ge (Gf + 5))) (rv_fieldAddr (off := 5) (ft := 27) Tryz.underlying48 rfl ti27 rfl rfl) ?_))
 have hc1 := H.cell (u := (Sl Gb Dr.2.2.2.2.2.1 Gc)) (o' := (Gf + 5)) 0 5 rfl rfl rfl
 refine sq (v := (Sl Gb Dr.2.2.2.2.2.1 Gc)) (rv_load1 Tryz.underlying27 rfl rfl hc1) (sq (v := (I (Dr.2.2.2.2.2.1.length : Int))) (rv_len Tryz.underlying27 rfl) (sq (v := (pt Ge Gf)) (rv_move rfl) (sq (v := (pt Ge Gf)) (rv_nilCheck rfl) (sq (v := (pt Ge (Gf + 4))) (rv_fieldAddr (off := 4) (ft := 3) Tryz.underlying48 rfl ti3 rfl rfl) ?_))))
 have hc2 := H.cell (u := (I Dr.2.2.2.2.1)) (o' := (Gf + 4)) 0 4 rfl rfl rfl
 refine sq (v := (I Dr.2.2.2.2.1)) (rv_load1 Tryz.underlying3 rfl rfl hc2) (sq_end ?_)
 intro σ3 hm4
 replace H := H.grow (hm4.mono fun _ h => h); clear hm4
 refine st (v := (B (decide ((Dr.2.2.2.2.2.1.length : Int) < Dr.2.2.2.2.1)))) (rv_lss (a := (Dr.2.2.2.2.2.1.length : Int)) (b := Dr.2.2.2.2.1) rfl rfl) (w_end (q_then ?_))
 refine cd_cond (decide ((Dr.2.2.2.2.2.1.length : Int) < Dr.2.2.2.2.1)) rfl (fun hb5 => ?_) (fun hb5 => ?_)
 ·replace h := bif_t hb5 h
  refine c_seq (rg (sa (I 1000000) rfl (w_end (q_then (c_ret (q_then_r ?_))))))
  obtain rfl := sj h
  exact fin_ret (v := (I 1000000)) (results_ok Tryz.results76 (res_tmp (v := (I 1000000)) rfl res_nil) rfl) ⟨rfl, rfl⟩ (H.sel' [0] rfl rfl)
 ·replace h := bif_f hb5 h
  refine c_skip (q_then (c_seq ?_))
  refine rgP (σ := σ3) 10 (by kernel_rfl) (by kernel_rfl) (by kernel_rfl) ?_
  refine sq (v := (pt Ge Gf)) (rv_move rfl) (sq (v := (pt Ge Gf)) (rv_nilCheck rfl) (sq (v := (pt Ge (Gf + 5))) (rv_fieldAddr (off := 5) (ft := 27) Tryz.underlying48 rfl ti27 rfl rfl) ?_))
  have hc6 := H.cell (u := (Sl Gb Dr.2.2.2.2.2.1 Gc)) (o' := (Gf + 5)) 0 5 rfl rfl rfl
  refine sq (v := (Sl Gb Dr.2.2.2.2.2.1 Gc)) (rv_load1 Tryz.underlying27 rfl rfl hc6) (sq (v := (pt Ge Gf)) (rv_move rfl) (sq (v := (pt Ge Gf)) (rv_nilCheck rfl) (sq (v := (pt Ge (Gf + 5))) (rv_fieldAddr (off := 5) (ft := 27) Tryz.underlying48 rfl ti27 rfl rfl) ?_)))
  have hc7 := H.cell (u := (Sl Gb Dr.2.2.2.2.2.1 Gc)) (o' := (Gf + 5)) 0 5 rfl rfl rfl
  refine sq (v := (Sl Gb Dr.2.2.2.2.2.1 Gc)) (rv_load1 Tryz.underlying27 rfl rfl hc7) (sq (v := (I (Dr.2.2.2.2.2.1.length : Int))) (rv_len Tryz.underlying27 rfl) (sq (v := (I (w64 ((Dr.2.2.2.2.2.1.length : Int) - 1)))) (rv_sub (a := (Dr.2.2.2.2.2.1.length : Int)) (b := 1) rfl rfl) (sq_end ?_)))
  intro σ8 hm9
  replace H := H.grow (hm9.mono fun _ h => h); clear hm9
  revert h; refine br fun x10 hx11 h => ?_
  obtain ⟨b13, o14, hi12, -⟩ := (H.ro 4 rfl).ix hx11
  refine st (v := (pt b13 o14)) (rv_ix Tryz.underlying27 ti43 rfl rfl hi12) (st (v := (pt b13 (o14 + 1))) (rv_fieldAddr (off := 1) (ft := 3) Tryz.underlying43 rfl ti3 rfl rfl) ?_)
  have hc15 := ((H.ro 4 rfl).at hx11 hi12).snd.int
  refine st (v := (I x10.2)) (rv_load1 Tryz.underlying3 rfl rfl hc15) (sa (I x10.2) rfl (w_end (q_then (c_ret ?_))))
  obtain rfl := sj h
  exact fin_ret (v := (I x10.2)) (results_ok Tryz.results76 (res_tmp (v := (I x10.2)) rfl res_nil) rfl) ⟨rfl, rfl⟩ (H.sel' [0] rfl rfl)

theorem c_spec_seek_visit : ∀ (fuel : Nat) {Dr : (List (Int × Int × Int × Int)) × (List (Int × (List Int) × Int)) × Int × (List Int) × Int × (List (Int × Int)) × Int} {Cw : Int} {Fu : Option Addr} {Fv : Nat} {Fw : Option Addr} {Fx : Nat} {Fy : Option Addr} {Ga : Nat} {Gb : Option Addr} {Gc : Nat} {Gd Ge Gf : Nat} {Gg Gh : List Value} {r : ((List (Int × Int × Int × Int)) × (List (Int × (List Int) × Int)) × Int × (List Int) × Int × (List (Int × Int)) × Int)} (h : M.spec_seek_visit fuel Dr Cw = some r),
    Cal2 Tryz.prog 48 [(pt Ge Gf), (I Cw)] [Ch.bx Gd Ge Gf [(Sl Fu Dr.1 Fv), (Sl Fw Dr.2.1 Fx), (I Dr.2.2.1), (Sl Fy Dr.2.2.2.1 Ga), (I Dr.2.2.2.2.1), (Sl Gb Dr.2.2.2.2.2.1 Gc), (I Dr.2.2.2.2.2.2)] Gg Gh, Ch.ro 0 (Sl Fu Dr.1 Fv) Dr.1, Ch.ro 0 (Sl Fw Dr.2.1 Fx) Dr.2.1, Ch.ro 0 (Sl Fy Dr.2.2.2.1 Ga) Dr.2.2.2.1, Ch.ro 0 (Sl Gb Dr.2.2.2.2.2.1 Gc) Dr.2.2.2.2.2.1] (fun n0 v L => ∃ (az1 : Option Addr), ∃ (cz2 : Nat), ∃ (az3 : Option Addr), ∃ (cz4 : Nat), ∃ (az5 : Option Addr), ∃ (cz6 : Nat), ∃ (az7 : Option Addr), ∃ (cz8 : Nat), v = (.tuple #[]) ∧ L = [Ch.bx Gd Ge Gf [(Sl az1 r.1 cz2), (Sl az3 r.2.1 cz4), (I r.2.2.1), (Sl az5 r.2.2.2.1 cz6), (I r.2.2.2.2.1), (Sl az7 r.2.2.2.2.2.1 cz8), (I r.2.2.2.2.2.2)] Gg Gh, Ch.ro 0 (Sl az1 r.1 cz2) r.1, Ch.ro 0 (Sl az3 r.2.1 cz4) r.2.1, Ch.ro 0 (Sl az5 r.2.2.2.1 cz6) r.2.2.2.1, Ch.ro 0 (Sl az7 r.2.2.2.2.2.1 cz8) r.2.2.2.2.2.1]) := by
 intro fuel
 induction fuel with
 | zero => intro _ _ _ _ _ _ _ _ _ _ _ _ _ _ _ r h; cases h
 | succ fuel ih =>
 ·intro Dr Cw Fu Fv Fw Fx Fy Ga Gb Gc Gd Ge Gf Gg Gh r h
  replace h : M.spec_seek_visit_F (M.spec_seek_visit fuel) Dr Cw = some r := h
  refine cal2 (n := 96) Tryz.func48 rfl rfl rfl rfl ?_
  intro S0 σ0 n0 hn0 H
  unfold M.spec_seek_visit_F at h
  refine c_seq (c_seq (rg (sm (I Cw) rfl (st (v := (B (decide (Cw < 0)))) (rv_lss (a := Cw) (b := 0) rfl rfl) (w_end (q_then ?_))))))
  refine cd_cond (decide (Cw < 0)) rfl (fun hb1 => ?_) (fun hb1 => ?_)
  ·replace h := bif_t hb1 h
   refine c_ret (q_then_r ?_)
   obtain rfl := sj h
   exact fin_ret (v := (.tuple #[])) (results_ok Tryz.results48 res_nil rfl) ⟨Fu, Fv, Fw, Fx, Fy, Ga, Gb, Gc, rfl, rfl⟩ (H.sel' [0, 1, 2, 3, 4] rfl rfl)
  ·replace h := bif_f hb1 h
   refine c_skip (q_then (c_seq (rg (sm (pt Ge Gf) rfl (st (v := (pt Ge Gf)) (rv_nilCheck rfl) (st (v := (pt Ge Gf)) (rv_fieldAddr (off := 0) (ft := 46) Tryz.underlying48 rfl ti46 rfl rfl) ?_))))))
   have hc2 := H.cell (u := (Sl Fu Dr.1 Fv)) (o' := Gf) 0 0 rfl rfl rfl
   refine st (v := (Sl Fu Dr.1 Fv)) (rv_load1 Tryz.underlying46 rfl rfl hc2) (sm (I Cw) rfl ?_)
   revert h; refine br fun x3 hx4 h => ?_
   obtain ⟨b6, o7, hi5, -⟩ := (H.ro 1 rfl).ix hx4
   refine st (v := (pt b6 o7)) (rv_ix Tryz.underlying46 ti107 rfl rfl hi5) ?_
   obtain ⟨_, ⟨_, _, rfl, rfl, ⟨_, _, rfl, rfl, ⟨_, _, rfl, rfl, rfl⟩⟩⟩, hl8, hc9⟩ := ((H.ro 1 rfl).at hx4 hi5).cells
   refine st (v := (.agg #[(I x3.1), (I x3.2.1), (I x3.2.2.1), (I x3.2.2.2)])) (rv_load Tryz.underlying107 rfl ti107 rfl hl8 hc9) (st_ex (ex_alloc (cs := [(I 0), (I 0), (I 0), (I 0)]) H hn0 ti107 rfl) wn ?_)
   rintro _ σ11 ⟨b10, rfl, H, -⟩
   refine st_exS (ex_store_box (k := 0) (cs := [(I 0), (I 0), (I 0), (I 0)]) (vs := [(I x3.1), (I x3.2.1), (I x3.2.2.1), (I x3.2.2.2)]) (cs' := [(I x3.1), (I x3.2.1), (I x3.2.2.1), (I x3.2.2.2)]) H (i := 0) rfl ti107 rfl rfl rfl rfl rfl (Nat.le_of_ble_eq_true rfl) (by simp [plain]) rfl) wn ?_
   rintro σ12 ⟨H, -⟩
   refine w_end (q_then (c_seq ?_))
   have hc13 := H.cell (u := (I Dr.2.2.1)) (o' := (Gf + 2)) 1 2 rfl rfl rfl
   have hc14 := H.cell (u := (Sl Fw Dr.2.1 Fx)) (o' := (Gf + 1)) 1 1 rfl rfl rfl
   have hc15 := H.cell (u := (Sl Fw Dr.2.1 Fx)) (o' := (Gf + 1)) 1 1 rfl rfl rfl
   have hc16 := H.cell (u := (I x3.1)) (o' := 0) 0 0 rfl rfl rfl
   revert h; refine br fun r17 hx18 h => ?_
   have hc19 := c_spec_keyAt (Aq := Fw) (Ar := Fx) hx18
   revert h; refine br fun x20 hx21 h => ?_
   obtain ⟨b23, o24, hi22, -⟩ := (H.ro 3 rfl).ix hx21
   obtain ⟨v28, hc29, hR27⟩ := ((H.ro 3 rfl).at hx21 hi22).snd.fst.slice
   obtain ⟨a25, c26, rfl⟩ := hR27.isSl
   replace H := H.add (d := Ch.ro 0 (Sl a25 x20.2.1 c26) x20.2.1) hR27 (fun _ h => h)
   clear hR27
   have hc30 := H.cell (u := (Sl Fy Dr.2.2.2.1 Ga)) (o' := (Gf + 3)) 2 3 rfl rfl rfl
   have Hs := H
   refine rg2 (σ := σ12) (Nm := Unit) 22 [14] [[false], [true]] [[(0, 0), (1, 1)], [(0, 0), (1, 1)], [(0, 0), (1, 1)], [(0, 0), (1, 1)], [(0, 0), (1, 1)], [(0, 0), (1, 1)], [(0, 0), (1, 1)], [(0, 0), (1, 1)], [(0, 0)], [(0, 0)], [(0, 0)], [(0, 0)], [(0, 0)], [(0, 0)], [(0, 1)], [(1, 1)], [(1, 1)], [(1, 1)], [(0, 0), (1, 1)], [(0, 0), (1, 1)], [(0, 0), (1, 1)], [(0, 0), (1, 1)]] 1 [fun _ => fun σm => Hp S0 σ0 σm [Ch.ro 0 (Sl a25 x20.2.1 c26) x20.2.1, Ch.bx n0 b10 0 [(I x3.1), (I x3.2.1), (I x3.2.2.1), (I x3.2.2.2)] [] [], Ch.bx Gd Ge Gf [(Sl Fu Dr.1 Fv), (Sl Fw Dr.2.1 Fx), (I Dr.2.2.1), (Sl Fy Dr.2.2.2.1 Ga), (I Dr.2.2.2.2.1), (Sl Gb Dr.2.2.2.2.2.1 Gc), (I Dr.2.2.2.2.2.2)] Gg Gh, Ch.ro 0 (Sl Fu Dr.1 Fv) Dr.1, Ch.ro 0 (Sl Fw Dr.2.1 Fx) Dr.2.1, Ch.ro 0 (Sl Fy Dr.2.2.2.1 Ga) Dr.2.2.2.1, Ch.ro 0 (Sl Gb Dr.2.2.2.2.2.1 Gc) Dr.2.2.2.2.2.1] ∧ Md (cov []) σ12 σm, fun _ => fun σm => Hp S0 σ0 σm [Ch.ro 0 (Sl a25 x20.2.1 c26) x20.2.1, Ch.bx n0 b10 0 [(I x3.1), (I x3.2.1), (I x3.2.2.1), (I x3.2.2.2)] [] [], Ch.bx Gd Ge Gf [(Sl Fu Dr.1 Fv), (Sl Fw Dr.2.1 Fx), (I Dr.2.2.1), (Sl Fy Dr.2.2.2.1 Ga), (I Dr.2.2.2.2.1), (Sl Gb Dr.2.2.2.2.2.1 Gc), (I Dr.2.2.2.2.2.2)] Gg Gh, Ch.ro 0 (Sl Fu Dr.1 Fv) Dr.1, Ch.ro 0 (Sl Fw Dr.2.1 Fx) Dr.2.1, Ch.ro 0 (Sl Fy Dr.2.2.2.1 Ga) Dr.2.2.2.1, Ch.ro 0 (Sl Gb Dr.2.2.2.2.2.1 Gc) Dr.2.2.2.2.2.1] ∧ Md (cov []) σ12 σm] [fun _ => (pt Ge Gf), fun _ => (pt Ge Gf), fun _ => (pt Ge (Gf + 2)), fun _ => (I Dr.2.2.1), fun _ => (pt Ge Gf), fun _ => (pt Ge Gf), fun _ => (pt Ge (Gf + 1)), fun _ => (Sl Fw Dr.2.1 Fx), fun _ => (pt Ge Gf), fun _ => (pt Ge Gf), fun _ => (pt Ge (Gf + 1)), fun _ => (Sl Fw Dr.2.1 Fx), fun _ => (pt b10 0), fun _ => (I x3.1), fun _ => (I r17), fun _ => (pt b23 o24), fun _ => (pt b23 (o24 + 1)), fun _ => (Sl a25 x20.2.1 c26), fun _ => (pt Ge Gf), fun _ => (pt Ge Gf), fun _ => (pt Ge (Gf + 3)), fun _ => (Sl Fy Dr.2.2.2.1 Ga)] () (by kernel_rfl) (by kernel_rfl) ?_ ?_ ?_
   ·intro σm m0
    exact ⟨H.grow (m0.mono fun _ h => h.elim), m0⟩
   ·refine ac rfl (by
      intro k _nm ρ σm hJ hoff hdep
      have e0 := look_off (N := 96) (hoff 0 rfl) rfl
      exact dp_v (v := (pt Ge Gf)) wn (rv_move e0) rfl hJ) ?_
    refine ac rfl (by
      intro k _nm ρ σm hJ hoff hdep
      have e15 := hdep 0 rfl rfl 15 rfl
      exact dp_v (v := (pt Ge Gf)) wn (rv_nilCheck e15) rfl hJ) ?_
    refine ac rfl (by
      intro k _nm ρ σm hJ hoff hdep
      have e16 := hdep 1 rfl rfl 16 rfl
      exact dp_v (v := (pt Ge (Gf + 2))) wn (rv_fieldAddr (off := 2) (ft := 3) Tryz.underlying48 rfl ti3 rfl e16) rfl hJ) ?_
    refine all_cons (by
      refine ⟨?_, ?_⟩
      ·intro _nm ρ σm hJ hoff hdep
       have e17 := hdep 2 rfl rfl 17 rfl
       obtain ⟨H, m⟩ := id hJ
       have hc13 := H.cell (u := (I Dr.2.2.1)) (o' := (Gf + 2)) 2 2 rfl rfl rfl
       exact dp_v (v := (I Dr.2.2.1)) wn (rv_load1 Tryz.underlying3 rfl e17 hc13) rfl hJ
      refine ⟨?_, ?_⟩
      ·intro _nm ρ σm hJ hoff hdep
       have e17 := hdep 2 rfl rfl 17 rfl
       obtain ⟨H, m⟩ := id hJ
       have hc13 := H.cell (u := (I Dr.2.2.1)) (o' := (Gf + 2)) 2 2 rfl rfl rfl
       exact dp_v (v := (I Dr.2.2.1)) wn (rv_load1 Tryz.underlying3 rfl e17 hc13) rfl hJ
      trivial) ?_
    refine ac rfl (by
      intro k _nm ρ σm hJ hoff hdep
      have e0 := look_off (N := 96) (hoff 0 rfl) rfl
      exact dp_v (v := (pt Ge Gf)) wn (rv_move e0) rfl hJ) ?_
    refine ac rfl (by
      intro k _nm ρ σm hJ hoff hdep
      have e19 := hdep 4 rfl rfl 19 rfl
      exact dp_v (v := (pt Ge Gf)) wn (rv_nilCheck e19) rfl hJ) ?_
    refine ac rfl (by
      intro k _nm ρ σm hJ hoff hdep
      have e20 := hdep 5 rfl rfl 20 rfl
      exact dp_v (v := (pt Ge (Gf + 1))) wn (rv_fieldAddr (off := 1) (ft := 23) Tryz.underlying48 rfl ti23 rfl e20) rfl hJ) ?_
    refine all_cons (by
      refine ⟨?_, ?_⟩
      ·intro _nm ρ σm hJ hoff hdep
       have e21 := hdep 6 rfl rfl 21 rfl
       obtain ⟨H, m⟩ := id hJ
       have hc14 := H.cell (u := (Sl Fw Dr.2.1 Fx)) (o' := (Gf + 1)) 2 1 rfl rfl rfl
       exact dp_v (v := (Sl Fw Dr.2.1 Fx)) wn (rv_load1 Tryz.underlying23 rfl e21 hc14) rfl hJ
      refine ⟨?_, ?_⟩
      ·intro _nm ρ σm hJ hoff hdep
       have e21 := hdep 6 rfl rfl 21 rfl
       obtain ⟨H, m⟩ := id hJ
       have hc14 := H.cell (u := (Sl Fw Dr.2.1 Fx)) (o' := (Gf + 1)) 2 1 rfl rfl rfl
       exact dp_v (v := (Sl Fw Dr.2.1 Fx)) wn (rv_load1 Tryz.underlying23 rfl e21 hc14) rfl hJ
      trivial) ?_
    refine ac rfl (by
      intro k _nm ρ σm hJ hoff hdep
      have e0 := look_off (N := 96) (hoff 0 rfl) rfl
      exact dp_v (v := (pt Ge Gf)) wn (rv_move e0) rfl hJ) ?_
    refine ac rfl (by
      intro k _nm ρ σm hJ hoff hdep
      have e23 := hdep 8 rfl rfl 23 rfl
      exact dp_v (v := (pt Ge Gf)) wn (rv_nilCheck e23) rfl hJ) ?_
    refine ac rfl (by
      intro k _nm ρ σm hJ hoff hdep
      have e24 := hdep 9 rfl rfl 24 rfl
      exact dp_v (v := (pt Ge (Gf + 1))) wn (rv_fieldAddr (off := 1) (ft := 23) Tryz.underlying48 rfl ti23 rfl e24) rfl hJ) ?_
    refine all_cons (by
      refine ⟨?_, ?_⟩
      ·intro _nm ρ σm hJ hoff hdep
       have e25 := hdep 10 rfl rfl 25 rfl
       obtain ⟨H, m⟩ := id hJ
       have hc15 := H.cell (u := (Sl Fw Dr.2.1 Fx)) (o' := (Gf + 1)) 2 1 rfl rfl rfl
       exact dp_v (v := (Sl Fw Dr.2.1 Fx)) wn (rv_load1 Tryz.underlying23 rfl e25 hc15) rfl hJ
      trivial) ?_
    refine ac rfl (by
      intro k _nm ρ σm hJ hoff hdep
      have e4 := look_off (N := 96) (hoff 4 rfl) rfl
      exact dp_v (v := (pt b10 0)) wn (rv_fieldAddr (off := 0) (ft := 3) Tryz.underlying107 rfl ti3 rfl e4) rfl hJ) ?_
    refine all_cons (by
      refine ⟨?_, ?_⟩
      ·intro _nm ρ σm hJ hoff hdep
       have e27 := hdep 12 rfl rfl 27 rfl
       obtain ⟨H, m⟩ := id hJ
       have hc16 := H.cell (u := (I x3.1)) (o' := 0) 1 0 rfl rfl rfl
       exact dp_v (v := (I x3.1)) wn (rv_load1 Tryz.underlying3 rfl e27 hc16) rfl hJ
      trivial) ?_
    refine all_cons (by
      refine ⟨?_, ?_⟩
      ·intro _nm ρ σm hJ hoff hdep
       have e26 : look 96 ρ 26 = (Sl Fw Dr.2.1 Fx) := hdep 11 rfl rfl 26 rfl
       have e28 : look 96 ρ 28 = (I x3.1) := hdep 13 rfl rfl 28 rfl
       obtain ⟨H, m⟩ := id hJ
       refine dp_cx wn (cx_call hc19 (ent_f hc19.fn (by show [look 96 ρ 26, look 96 ρ 28] = _; rw [e26, e28])) hn0 (H.sel' [4, 0, 1, 2, 3, 4, 5, 6] rfl rfl : Hp S0 σ0 _ ([_] ++ _))) ?_
       rintro _ σq ⟨_, ⟨rfl, rfl⟩, H2, m2⟩
       exact ⟨_, (), rfl, rfl, ⟨H2.sel' [0, 1, 2, 3, 4, 5, 6] rfl rfl, m.comp0 (m2.mono (fun i h => by simp [cov, Ch.ro] at h))⟩, stab [0, 1, 2, 3, 4, 5, 6, 7, 8, 9, 10, 11, 12, 13, 18, 19, 20, 21] (by kernel_rfl) ⟨rfl, rfl, rfl, rfl, rfl, rfl, rfl, rfl, rfl, rfl, rfl, rfl, rfl, rfl, rfl, rfl, rfl, rfl, trivial⟩⟩
      trivial) ?_
    refine ac rfl (by
      intro k _nm ρ σm hJ hoff hdep
      have e22 := hdep 7 rfl rfl 22 rfl
      have e29 := hdep 14 rfl rfl 29 rfl
      exact dp_v (v := (pt b23 o24)) wn (rv_ix Tryz.underlying23 ti59 e22 e29 hi22) rfl hJ) ?_
    refine ac rfl (by
      intro k _nm ρ σm hJ hoff hdep
      have e30 := hdep 15 rfl rfl 30 rfl
      exact dp_v (v := (pt b23 (o24 + 1))) wn (rv_fieldAddr (off := 1) (ft := 24) Tryz.underlying59 rfl ti24 rfl e30) rfl hJ) ?_
    refine all_cons (by
      refine ⟨?_, ?_⟩
      ·intro _nm ρ σm hJ hoff hdep
       have e31 := hdep 16 rfl rfl 31 rfl
       obtain ⟨H, m⟩ := id hJ
       replace hc29 := (Hs.ro 4 rfl).hmd hx21 hi22 (k := 1) (by decide) hc29 m
       exact dp_v (v := (Sl a25 x20.2.1 c26)) wn (rv_load1 Tryz.underlying24 rfl e31 hc29) rfl hJ
      trivial) ?_
    refine ac rfl (by
      intro k _nm ρ σm hJ hoff hdep
      have e0 := look_off (N := 96) (hoff 0 rfl) rfl
      exact dp_v (v := (pt Ge Gf)) wn (rv_move e0) rfl hJ) ?_
    refine ac rfl (by
      intro k _nm ρ σm hJ hoff hdep
      have e33 := hdep 18 rfl rfl 33 rfl
      exact dp_v (v := (pt Ge Gf)) wn (rv_nilCheck e33) rfl hJ) ?_
    refine ac rfl (by
      intro k _nm ρ σm hJ hoff hdep
      have e34 := hdep 19 rfl rfl 34 rfl
      exact dp_v (v := (pt Ge (Gf + 3))) wn (rv_fieldAddr (off := 3) (ft := 24) Tryz.underlying48 rfl ti24 rfl e34) rfl hJ) ?_
    refine all_cons (by
      refine ⟨?_, ?_⟩
      ·intro _nm ρ σm hJ hoff hdep
       have e35 := hdep 20 rfl rfl 35 rfl
       obtain ⟨H, m⟩ := id hJ
       have hc30 := H.cell (u := (Sl Fy Dr.2.2.2.1 Ga)) (o' := (Gf + 3)) 2 3 rfl rfl rfl
       exact dp_v (v := (Sl Fy Dr.2.2.2.1 Ga)) wn (rv_load1 Tryz.underlying24 rfl e35 hc30) rfl hJ
      refine ⟨?_, ?_⟩
      ·intro _nm ρ σm hJ hoff hdep
       have e35 := hdep 20 rfl rfl 35 rfl
       obtain ⟨H, m⟩ := id hJ
       have hc30 := H.cell (u := (Sl Fy Dr.2.2.2.1 Ga)) (o' := (Gf + 3)) 2 3 rfl rfl rfl
       exact dp_v (v := (Sl Fy Dr.2.2.2.1 Ga)) wn (rv_load1 Tryz.underlying24 rfl e35 hc30) rfl hJ
      trivial) ?_
    exact all_nil
   ·intro _nm ρ σ31 hJ hoff hrel
    have e0 := look_off (N := 96) (hoff 0 rfl) rfl
    have e4 := look_off (N := 96) (hoff 4 rfl) rfl
    have e18 := hrel 3 rfl 18 rfl
    have e32 := hrel 17 rfl 32 rfl
    have e36 := hrel 21 rfl 36 rfl
    obtain ⟨H, -⟩ := (show Hp S0 σ0 σ31 [Ch.ro 0 (Sl a25 x20.2.1 c26) x20.2.1, Ch.bx n0 b10 0 [(I x3.1), (I x3.2.1), (I x3.2.2.1), (I x3.2.2.2)] [] [], Ch.bx Gd Ge Gf [(Sl Fu Dr.1 Fv), (Sl Fw Dr.2.1 Fx), (I Dr.2.2.1), (Sl Fy Dr.2.2.2.1 Ga), (I Dr.2.2.2.2.1), (Sl Gb Dr.2.2.2.2.2.1 Gc), (I Dr.2.2.2.2.2.2)] Gg Gh, Ch.ro 0 (Sl Fu Dr.1 Fv) Dr.1, Ch.ro 0 (Sl Fw Dr.2.1 Fx) Dr.2.1, Ch.ro 0 (Sl Fy Dr.2.2.2.1 Ga) Dr.2.2.2.1, Ch.ro 0 (Sl Gb Dr.2.2.2.2.2.1 Gc) Dr.2.2.2.2.2.1] ∧ Md (cov []) σ12 σ31 from hJ)
    clear hJ Hs
    rw [fr_lookL (L := [(0, (pt Ge Gf)), (4, (pt b10 0)), (18, (I Dr.2.2.1)), (32, (Sl a25 x20.2.1 c26)), (36, (Sl Fy Dr.2.2.2.1 Ga))]) ⟨e0, e4, e18, e32, e36, trivial⟩]
    clear hoff hrel e0 e4 e18 e32 e36
    revert h; refine br fun r32 hx33 h => ?_
    have hc34 := c_spec_dist (Ce := a25) (Cf := c26) (Cg := Fy) (Ci := Ga) hx33
    refine st_call (cx_call hc34 (ent_f hc34.fn rfl) hn0 (H.sel' [0, 5, 0, 1, 2, 3, 4, 5, 6] rfl rfl : Hp S0 σ0 _ ([_, _] ++ _))) wn ?_
    rintro _ σ35 ⟨_, ⟨rfl, rfl⟩, H, -⟩
    replace H : Hp _ _ _ [_, _, _, _, _, _, _] := H
    refine sa (I r32) rfl (w_end (q_then (c_seq (rg (sm (pt Ge Gf) rfl (sm (pt Ge Gf) rfl (st (v := (pt Ge Gf)) (rv_nilCheck rfl) (st (v := (pt Ge (Gf + 6))) (rv_fieldAddr (off := 6) (ft := 3) Tryz.underlying48 rfl ti3 rfl rfl) ?_))))))))
    have hc36 := H.cell (u := (I Dr.2.2.2.2.2.2)) (o' := (Gf + 6)) 2 6 rfl rfl rfl
    refine st (v := (I Dr.2.2.2.2.2.2)) (rv_load1 Tryz.underlying3 rfl rfl hc36) (st (v := (I (w64 (Dr.2.2.2.2.2.2 + 1)))) (rv_add (a := Dr.2.2.2.2.2.2) (b := 1) rfl rfl) (st (v := (pt Ge Gf)) (rv_nilCheck rfl) (st (v := (pt Ge (Gf + 6))) (rv_fieldAddr (off := 6) (ft := 3) Tryz.underlying48 rfl ti3 rfl rfl) ?_)))
    refine st_exS (ex_store_box (k := 6) (cs := [(Sl Fu Dr.1 Fv), (Sl Fw Dr.2.1 Fx), (I Dr.2.2.1), (Sl Fy Dr.2.2.2.1 Ga), (I Dr.2.2.2.2.1), (Sl Gb Dr.2.2.2.2.2.1 Gc), (I Dr.2.2.2.2.2.2)]) (vs := [(I (w64 (Dr.2.2.2.2.2.2 + 1)))]) (cs' := [(Sl Fu Dr.1 Fv), (Sl Fw Dr.2.1 Fx), (I Dr.2.2.1), (Sl Fy Dr.2.2.2.1 Ga), (I Dr.2.2.2.2.1), (Sl Gb Dr.2.2.2.2.2.1 Gc), (I (w64 (Dr.2.2.2.2.2.2 + 1)))]) H (i := 2) rfl ti3 rfl rfl rfl rfl rfl (Nat.le_of_ble_eq_true rfl) (by simp [plain]) rfl) wn ?_
    rintro σ37 ⟨H, -⟩
    refine w_end (q_then (c_seq ?_))
    have hc38 := H.cell (u := (Sl Gb Dr.2.2.2.2.2.1 Gc)) (o' := (Gf + 5)) 0 5 rfl rfl rfl
    have hc39 := H.cell (u := (I x3.1)) (o' := 0) 2 0 rfl rfl rfl
    have hc40 := H.cell (u := (I Dr.2.2.2.2.1)) (o' := (Gf + 4)) 0 4 rfl rfl rfl
    revert h; refine br fun r41 hx42 h => ?_
    have hc43 := c_spec_addHit (Aq := Gb) (Ar := Gc) hx42
    have Hs := H
    refine rg2 (σ := σ37) (Nm := (Option Addr) × (Nat)) 14 [13] [[false], [true]] [[(0, 0), (1, 1)], [(0, 0)], [(0, 0)], [(0, 0)], [(0, 0)], [(0, 0)], [(0, 0)], [(0, 0)], [(0, 0)], [(0, 0)], [(0, 0)], [(0, 0)], [(0, 0)], [(0, 1)]] 1 [fun ((a44, c45) : (Option Addr) × (Nat)) => fun σm => Hp S0 σ0 σm [Ch.bx Gd Ge Gf [(Sl Fu Dr.1 Fv), (Sl Fw Dr.2.1 Fx), (I Dr.2.2.1), (Sl Fy Dr.2.2.2.1 Ga), (I Dr.2.2.2.2.1), (Sl Gb Dr.2.2.2.2.2.1 Gc), (I (w64 (Dr.2.2.2.2.2.2 + 1)))] Gg Gh, Ch.ro 0 (Sl a25 x20.2.1 c26) x20.2.1, Ch.bx n0 b10 0 [(I x3.1), (I x3.2.1), (I x3.2.2.1), (I x3.2.2.2)] [] [], Ch.ro 0 (Sl Fu Dr.1 Fv) Dr.1, Ch.ro 0 (Sl Fw Dr.2.1 Fx) Dr.2.1, Ch.ro 0 (Sl Fy Dr.2.2.2.1 Ga) Dr.2.2.2.1, Ch.ro 0 (Sl Gb Dr.2.2.2.2.2.1 Gc) Dr.2.2.2.2.2.1] ∧ Md (cov []) σ37 σm, fun ((a44, c45) : (Option Addr) × (Nat)) => fun σm => Hp S0 σ0 σm [Ch.own n0 n0 (Sl a44 r41 c45) r41, Ch.bx Gd Ge Gf [(Sl Fu Dr.1 Fv), (Sl Fw Dr.2.1 Fx), (I Dr.2.2.1), (Sl Fy Dr.2.2.2.1 Ga), (I Dr.2.2.2.2.1), (Sl Gb Dr.2.2.2.2.2.1 Gc), (I (w64 (Dr.2.2.2.2.2.2 + 1)))] Gg Gh, Ch.ro 0 (Sl a25 x20.2.1 c26) x20.2.1, Ch.bx n0 b10 0 [(I x3.1), (I x3.2.1), (I x3.2.2.1), (I x3.2.2.2)] [] [], Ch.ro 0 (Sl Fu Dr.1 Fv) Dr.1, Ch.ro 0 (Sl Fw Dr.2.1 Fx) Dr.2.1, Ch.ro 0 (Sl Fy Dr.2.2.2.1 Ga) Dr.2.2.2.1, Ch.ro 0 (Sl Gb Dr.2.2.2.2.2.1 Gc) Dr.2.2.2.2.2.1] ∧ Md (cov []) σ37 σm] [fun ((a44, c45) : (Option Addr) × (Nat)) => (pt Ge Gf), fun ((a44, c45) : (Option Addr) × (Nat)) => (pt Ge Gf), fun ((a44, c45) : (Option Addr) × (Nat)) => (pt Ge Gf), fun ((a44, c45) : (Option Addr) × (Nat)) => (pt Ge (Gf + 5)), fun ((a44, c45) : (Option Addr) × (Nat)) => (Sl Gb Dr.2.2.2.2.2.1 Gc), fun ((a44, c45) : (Option Addr) × (Nat)) => (pt b10 0), fun ((a44, c45) : (Option Addr) × (Nat)) => (I x3.1), fun ((a44, c45) : (Option Addr) × (Nat)) => (I r32), fun ((a44, c45) : (Option Addr) × (Nat)) => (.agg #[(I x3.1), (I r32)]), fun ((a44, c45) : (Option Addr) × (Nat)) => (pt Ge Gf), fun ((a44, c45) : (Option Addr) × (Nat)) => (pt Ge Gf), fun ((a44, c45) : (Option Addr) × (Nat)) => (pt Ge (Gf + 4)), fun ((a44, c45) : (Option Addr) × (Nat)) => (I Dr.2.2.2.2.1), fun ((a44, c45) : (Option Addr) × (Nat)) => (Sl a44 r41 c45)] (none, 0) (by kernel_rfl) (by kernel_rfl) ?_ ?_ ?_
    ·intro σm m0
     exact ⟨H.grow (m0.mono fun _ h => h.elim), m0⟩
    ·refine ac rfl (by
       intro k; rintro ⟨a44, c45⟩ ρ σm hJ hoff hdep
       have e0 := look_off (N := 96) (hoff 0 rfl) rfl
       exact dp_v (v := (pt Ge Gf)) wn (rv_move e0) rfl hJ) ?_
     refine ac rfl (by
       intro k; rintro ⟨a44, c45⟩ ρ σm hJ hoff hdep
       have e0 := look_off (N := 96) (hoff 0 rfl) rfl
       exact dp_v (v := (pt Ge Gf)) wn (rv_move e0) rfl hJ) ?_
     refine ac rfl (by
       intro k; rintro ⟨a44, c45⟩ ρ σm hJ hoff hdep
       have e47 := hdep 1 rfl rfl 47 rfl
       exact dp_v (v := (pt Ge Gf)) wn (rv_nilCheck e47) rfl hJ) ?_
     refine ac rfl (by
       intro k; rintro ⟨a44, c45⟩ ρ σm hJ hoff hdep
       have e48 := hdep 2 rfl rfl 48 rfl
       exact dp_v (v := (pt Ge (Gf + 5))) wn (rv_fieldAddr (off := 5) (ft := 27) Tryz.underlying48 rfl ti27 rfl e48) rfl hJ) ?_
     refine all_cons (by
       refine ⟨?_, ?_⟩
       ·rintro ⟨a44, c45⟩ ρ σm hJ hoff hdep
        have e49 := hdep 3 rfl rfl 49 rfl
        obtain ⟨H, m⟩ := id hJ
        have hc38 := H.cell (u := (Sl Gb Dr.2.2.2.2.2.1 Gc)) (o' := (Gf + 5)) 0 5 rfl rfl rfl
        exact dp_v (v := (Sl Gb Dr.2.2.2.2.2.1 Gc)) wn (rv_load1 Tryz.underlying27 rfl e49 hc38) rfl hJ
       trivial) ?_
     refine ac rfl (by
       intro k; rintro ⟨a44, c45⟩ ρ σm hJ hoff hdep
       have e4 := look_off (N := 96) (hoff 4 rfl) rfl
       exact dp_v (v := (pt b10 0)) wn (rv_fieldAddr (off := 0) (ft := 3) Tryz.underlying107 rfl ti3 rfl e4) rfl hJ) ?_
     refine all_cons (by
       refine ⟨?_, ?_⟩
       ·rintro ⟨a44, c45⟩ ρ σm hJ hoff hdep
        have e51 := hdep 5 rfl rfl 51 rfl
        obtain ⟨H, m⟩ := id hJ
        have hc39 := H.cell (u := (I x3.1)) (o' := 0) 2 0 rfl rfl rfl
        exact dp_v (v := (I x3.1)) wn (rv_load1 Tryz.underlying3 rfl e51 hc39) rfl hJ
       trivial) ?_
     refine ac rfl (by
       intro k; rintro ⟨a44, c45⟩ ρ σm hJ hoff hdep
       have e5 := look_off (N := 96) (hoff 5 rfl) rfl
       exact dp_v (v := (I r32)) wn (rv_move e5) rfl hJ) ?_
     refine ac rfl (by
       intro k; rintro ⟨a44, c45⟩ ρ σm hJ hoff hdep
       have e52 : look 96 ρ 52 = (I x3.1) := hdep 6 rfl rfl 52 rfl
       have e53 : look 96 ρ 53 = (I r32) := hdep 7 rfl rfl 53 rfl
       exact dp_v (v := (.agg #[(I x3.1), (I r32)])) wn (rv_build (ps := [(0, (I x3.1)), (1, (I r32))]) Tryz.underlying43 ti43 (bp43 Tryz.underlying43) (by show [(0, look 96 ρ 52), (1, look 96 ρ 53)] = _; rw [e52, e53]) (by kernel_rfl)) rfl hJ) ?_
     refine ac rfl (by
       intro k; rintro ⟨a44, c45⟩ ρ σm hJ hoff hdep
       have e0 := look_off (N := 96) (hoff 0 rfl) rfl
       exact dp_v (v := (pt Ge Gf)) wn (rv_move e0) rfl hJ) ?_
     refine ac rfl (by
       intro k; rintro ⟨a44, c45⟩ ρ σm hJ hoff hdep
       have e55 := hdep 9 rfl rfl 55 rfl
       exact dp_v (v := (pt Ge Gf)) wn (rv_nilCheck e55) rfl hJ) ?_
     refine ac rfl (by
       intro k; rintro ⟨a44, c45⟩ ρ σm hJ hoff hdep
       have e56 := hdep 10 rfl rfl 56 rfl
       exact dp_v (v := (pt Ge (Gf + 4))) wn (rv_fieldAddr (off := 4) (ft := 3) Tryz.underlying48 rfl ti3 rfl e56) rfl hJ) ?_
     refine all_cons (by
       refine ⟨?_, ?_⟩
       ·rintro ⟨a44, c45⟩ ρ σm hJ hoff hdep
        have e57 := hdep 11 rfl rfl 57 rfl
        obtain ⟨H, m⟩ := id hJ
        have hc40 := H.cell (u := (I Dr.2.2.2.2.1)) (o' := (Gf + 4)) 0 4 rfl rfl rfl
        exact dp_v (v := (I Dr.2.2.2.2.1)) wn (rv_load1 Tryz.underlying3 rfl e57 hc40) rfl hJ
       trivial) ?_
     refine all_cons (by
       refine ⟨?_, ?_⟩
       ·rintro ⟨a44, c45⟩ ρ σm hJ hoff hdep
        have e50 : look 96 ρ 50 = (Sl Gb Dr.2.2.2.2.2.1 Gc) := hdep 4 rfl rfl 50 rfl
        have e54 : look 96 ρ 54 = (.agg #[(I x3.1), (I r32)]) := hdep 8 rfl rfl 54 rfl
        have e58 : look 96 ρ 58 = (I Dr.2.2.2.2.1) := hdep 12 rfl rfl 58 rfl
        obtain ⟨H, m⟩ := id hJ
        refine dp_cx wn (cx_call hc43 (ent_f hc43.fn (by show [look 96 ρ 50, look 96 ρ 54, look 96 ρ 58] = _; rw [e50, e54, e58])) hn0 (H.sel' [6, 0, 1, 2, 3, 4, 5, 6] rfl rfl : Hp S0 σ0 _ ([_] ++ _))) ?_
        rintro _ σq ⟨_, ⟨a44x, c45x, rfl, rfl⟩, H2, m2⟩
        exact ⟨_, (a44x, c45x), rfl, rfl, ⟨H2.sel' [0, 1, 2, 3, 4, 5, 6, 7] rfl rfl, m.comp0 (m2.mono (fun i h => by simp [cov, Ch.ro] at h))⟩, stab [0, 1, 2, 3, 4, 5, 6, 7, 8, 9, 10, 11, 12] (by kernel_rfl) ⟨rfl, rfl, rfl, rfl, rfl, rfl, rfl, rfl, rfl, rfl, rfl, rfl, rfl, trivial⟩⟩
       trivial) ?_
     exact all_nil
    ·rintro ⟨a44, c45⟩ ρ σ46 hJ hoff hrel
     have e0 := look_off (N := 96) (hoff 0 rfl) rfl
     have e4 := look_off (N := 96) (hoff 4 rfl) rfl
     have e5 := look_off (N := 96) (hoff 5 rfl) rfl
     have e46 := hrel 0 rfl 46 rfl
     have e59 := hrel 13 rfl 59 rfl
     obtain ⟨H, -⟩ := (show Hp S0 σ0 σ46 [Ch.own n0 n0 (Sl a44 r41 c45) r41, Ch.bx Gd Ge Gf [(Sl Fu Dr.1 Fv), (Sl Fw Dr.2.1 Fx), (I Dr.2.2.1), (Sl Fy Dr.2.2.2.1 Ga), (I Dr.2.2.2.2.1), (Sl Gb Dr.2.2.2.2.2.1 Gc), (I (w64 (Dr.2.2.2.2.2.2 + 1)))] Gg Gh, Ch.ro 0 (Sl a25 x20.2.1 c26) x20.2.1, Ch.bx n0 b10 0 [(I x3.1), (I x3.2.1), (I x3.2.2.1), (I x3.2.2.2)] [] [], Ch.ro 0 (Sl Fu Dr.1 Fv) Dr.1, Ch.ro 0 (Sl Fw Dr.2.1 Fx) Dr.2.1, Ch.ro 0 (Sl Fy Dr.2.2.2.1 Ga) Dr.2.2.2.1, Ch.ro 0 (Sl Gb Dr.2.2.2.2.2.1 Gc) Dr.2.2.2.2.2.1] ∧ Md (cov []) σ37 σ46 from hJ)
     clear hJ Hs
     rw [fr_lookL (L := [(0, (pt Ge Gf)), (4, (pt b10 0)), (5, (I r32)), (46, (pt Ge Gf)), (59, (Sl a44 r41 c45))]) ⟨e0, e4, e5, e46, e59, trivial⟩]
     clear hoff hrel e0 e4 e5 e46 e59
     refine st (v := (pt Ge Gf)) (rv_nilCheck rfl) (st (v := (pt Ge (Gf + 5))) (rv_fieldAddr (off := 5) (ft := 27) Tryz.underlying48 rfl ti27 rfl rfl) ?_)
     refine st_exS (ex_store_box (k := 5) (cs := [(Sl Fu Dr.1 Fv), (Sl Fw Dr.2.1 Fx), (I Dr.2.2.1), (Sl Fy Dr.2.2.2.1 Ga), (I Dr.2.2.2.2.1), (Sl Gb Dr.2.2.2.2.2.1 Gc), (I (w64 (Dr.2.2.2.2.2.2 + 1)))]) (vs := [(Sl a44 r41 c45)]) (cs' := [(Sl Fu Dr.1 Fv), (Sl Fw Dr.2.1 Fx), (I Dr.2.2.1), (Sl Fy Dr.2.2.2.1 Ga), (I Dr.2.2.2.2.1), (Sl a44 r41 c45), (I (w64 (Dr.2.2.2.2.2.2 + 1)))]) H (i := 1) rfl ti27 rfl rfl rfl rfl rfl (Nat.le_of_ble_eq_true rfl) (by simp [plain]) rfl) wn ?_
     rintro σ47 ⟨H, -⟩
     replace H : Hp S0 σ0 σ47 [Ch.bx Gd Ge Gf [(Sl Fu Dr.1 Fv), (Sl Fw Dr.2.1 Fx), (I Dr.2.2.1), (Sl Fy Dr.2.2.2.1 Ga), (I Dr.2.2.2.2.1), (Sl a44 r41 c45), (I (w64 (Dr.2.2.2.2.2.2 + 1)))] Gg Gh, Ch.own n0 n0 (Sl a44 r41 c45) r41, Ch.bx n0 b10 0 [(I x3.1), (I x3.2.1), (I x3.2.2.1), (I x3.2.2.2)] [] [], Ch.ro 0 (Sl Fu Dr.1 Fv) Dr.1, Ch.ro 0 (Sl Fw Dr.2.1 Fx) Dr.2.1, Ch.ro 0 (Sl Fy Dr.2.2.2.1 Ga) Dr.2.2.2.1] := H.sel' [0, 1, 3, 4, 5, 6] rfl rfl
     refine w_end (q_then (c_seq (c_seq (rg (sm (I r32) rfl (st (v := (pt b10 1)) (rv_fieldAddr (off := 1) (ft := 3) Tryz.underlying107 rfl ti3 rfl rfl) ?_))))))
     have hc48 := H.cell (u := (I x3.2.1)) (o' := 1) 2 1 rfl rfl rfl
     refine st (v := (I x3.2.1)) (rv_load1 Tryz.underlying3 rfl rfl hc48) (st (v := (B (decide (r32 ≤ x3.2.1)))) (rv_leq (a := r32) (b := x3.2.1) rfl rfl) (w_end (q_then ?_)))
     refine cd_cond (decide (r32 ≤ x3.2.1)) rfl (fun hb49 => ?_) (fun hb49 => ?_)
     ·replace h := bif_t hb49 h
      refine c_seq (rg (sm (pt Ge Gf) rfl (st (v := (pt b10 2)) (rv_fieldAddr (off := 2) (ft := 3) Tryz.underlying107 rfl ti3 rfl rfl) ?_)))
      have hc50 := H.cell (u := (I x3.2.2.1)) (o' := 2) 2 2 rfl rfl rfl
      refine st (v := (I x3.2.2.1)) (rv_load1 Tryz.underlying3 rfl rfl hc50) ?_
      obtain ⟨σ51, hw52, H, -⟩ := H.pub 1 rfl (Nat.le_refl _)
      rw [← hw52]; clear hw52
      replace H := H.roLow 0 0 rfl (Nat.zero_le _)
      revert h; refine br fun r53 hx54 h => ?_
      have hc55 := ih (Gd := Gd) (Ge := Ge) (Gf := Gf) (Gg := Gg) (Gh := Gh) (Fu := Fu) (Fv := Fv) (Fw := Fw) (Fx := Fx) (Fy := Fy) (Ga := Ga) (Gb := a44) (Gc := c45) hx54
      refine st_call (cx_call hc55 (ent_f hc55.fn rfl) hn0 (H.sel' [2, 4, 5, 6, 0, 0, 1, 3, 4, 5, 6] rfl rfl : Hp S0 σ0 _ ([_, _, _, _, _] ++ _))) wn ?_
      rintro _ σ64 ⟨_, ⟨a56, c57, a58, c59, a60, c61, a62, c63, rfl, rfl⟩, H, -⟩
      replace H : Hp _ _ _ [_, _, _, _, _, _, _, _, _, _, _] := H
      replace H : Hp S0 σ0 σ64 [Ch.bx Gd Ge Gf [(Sl a56 r53.1 c57), (Sl a58 r53.2.1 c59), (I r53.2.2.1), (Sl a60 r53.2.2.2.1 c61), (I r53.2.2.2.2.1), (Sl a62 r53.2.2.2.2.2.1 c63), (I r53.2.2.2.2.2.2)] Gg Gh, Ch.ro 0 (Sl a56 r53.1 c57) r53.1, Ch.ro 0 (Sl a58 r53.2.1 c59) r53.2.1, Ch.ro 0 (Sl a60 r53.2.2.2.1 c61) r53.2.2.2.1, Ch.ro 0 (Sl a62 r53.2.2.2.2.2.1 c63) r53.2.2.2.2.2.1, Ch.bx n0 b10 0 [(I x3.1), (I x3.2.1), (I x3.2.2.1), (I x3.2.2.2)] [] []] := H.sel' [0, 1, 2, 3, 4, 7] rfl rfl
      refine w_end (q_then (c_seq (c_seq ?_)))
      revert h; refine br fun r65 hx66 h => ?_
      have hc67 := c_spec_seek_reach (Gd := Gd) (Ge := Ge) (Gf := Gf) (Gg := Gg) (Gh := Gh) (Fu := a56) (Fv := c57) (Fw := a58) (Fx := c59) (Fy := a60) (Ga := c61) (Gb := a62) (Gc := c63) hx66
      have hc68 := H.cell (u := (I x3.2.1)) (o' := 1) 5 1 rfl rfl rfl
      have Hs := H
      refine rg2 (σ := σ64) (Nm := Unit) 6 [2] [[false], [true]] [[(0, 0), (1, 1)], [(0, 0)], [(0, 1)], [(1, 1)], [(0, 0), (1, 1)], [(0, 0), (1, 1)]] 1 [fun _ => fun σm => Hp S0 σ0 σm [Ch.bx Gd Ge Gf [(Sl a56 r53.1 c57), (Sl a58 r53.2.1 c59), (I r53.2.2.1), (Sl a60 r53.2.2.2.1 c61), (I r53.2.2.2.2.1), (Sl a62 r53.2.2.2.2.2.1 c63), (I r53.2.2.2.2.2.2)] Gg Gh, Ch.ro 0 (Sl a56 r53.1 c57) r53.1, Ch.ro 0 (Sl a58 r53.2.1 c59) r53.2.1, Ch.ro 0 (Sl a60 r53.2.2.2.1 c61) r53.2.2.2.1, Ch.ro 0 (Sl a62 r53.2.2.2.2.2.1 c63) r53.2.2.2.2.2.1, Ch.bx n0 b10 0 [(I x3.1), (I x3.2.1), (I x3.2.2.1), (I x3.2.2.2)] [] []] ∧ Md (cov []) σ64 σm, fun _ => fun σm => Hp S0 σ0 σm [Ch.bx Gd Ge Gf [(Sl a56 r53.1 c57), (Sl a58 r53.2.1 c59), (I r53.2.2.1), (Sl a60 r53.2.2.2.1 c61), (I r53.2.2.2.2.1), (Sl a62 r53.2.2.2.2.2.1 c63), (I r53.2.2.2.2.2.2)] Gg Gh, Ch.ro 0 (Sl a56 r53.1 c57) r53.1, Ch.ro 0 (Sl a58 r53.2.1 c59) r53.2.1, Ch.ro 0 (Sl a60 r53.2.2.2.1 c61) r53.2.2.2.1, Ch.ro 0 (Sl a62 r53.2.2.2.2.2.1 c63) r53.2.2.2.2.2.1, Ch.bx n0 b10 0 [(I x3.1), (I x3.2.1), (I x3.2.2.1), (I x3.2.2.2)] [] []] ∧ Md (fun i => (cov []) i ∨ (cov [Ch.bx Gd Ge Gf [(Sl a56 r53.1 c57), (Sl a58 r53.2.1 c59), (I r53.2.2.1), (Sl a60 r53.2.2.2.1 c61), (I r53.2.2.2.2.1), (Sl a62 r53.2.2.2.2.2.1 c63), (I r53.2.2.2.2.2.2)] Gg Gh, Ch.ro 0 (Sl a56 r53.1 c57) r53.1, Ch.ro 0 (Sl a58 r53.2.1 c59) r53.2.1, Ch.ro 0 (Sl a60 r53.2.2.2.1 c61) r53.2.2.2.1, Ch.ro 0 (Sl a62 r53.2.2.2.2.2.1 c63) r53.2.2.2.2.2.1]) i) σ64 σm] [fun _ => (I r32), fun _ => (pt Ge Gf), fun _ => (I r65), fun _ => (I (w64 (r32 + r65))), fun _ => (pt b10 1), fun _ => (I x3.2.1)] () (by kernel_rfl) (by kernel_rfl) ?_ ?_ ?_
      ·intro σm m0
       exact ⟨H.grow (m0.mono fun _ h => h.elim), m0⟩
      ·refine ac rfl (by
         intro k _nm ρ σm hJ hoff hdep
         have e5 := look_off (N := 96) (hoff 5 rfl) rfl
         exact dp_v (v := (I r32)) wn (rv_move e5) rfl hJ) ?_
       refine ac rfl (by
         intro k _nm ρ σm hJ hoff hdep
         have e0 := look_off (N := 96) (hoff 0 rfl) rfl
         exact dp_v (v := (pt Ge Gf)) wn (rv_move e0) rfl hJ) ?_
       refine all_cons (by
         refine ⟨?_, ?_⟩
         ·intro _nm ρ σm hJ hoff hdep
          have e71 : look 96 ρ 71 = (pt Ge Gf) := hdep 1 rfl rfl 71 rfl
          obtain ⟨H, m⟩ := id hJ
          refine dp_cx wn (cx_call hc67 (ent_f hc67.fn (by show [look 96 ρ 71] = _; rw [e71])) hn0 (H.sel' [0, 1, 2, 3, 4, 1, 2, 3, 4, 5] rfl rfl : Hp S0 σ0 _ ([_, _, _, _, _] ++ _))) ?_
          rintro _ σq ⟨_, ⟨rfl, rfl⟩, H2, m2⟩
          exact ⟨_, (), rfl, rfl, ⟨H2.sel' [0, 1, 2, 3, 4, 5] rfl rfl, m.comp m2⟩, stab [0, 1, 4, 5] (by kernel_rfl) ⟨rfl, rfl, rfl, rfl, trivial⟩⟩
         trivial) ?_
       refine ac rfl (by
         intro k _nm ρ σm hJ hoff hdep
         have e70 := hdep 0 rfl rfl 70 rfl
         have e72 := hdep 2 rfl rfl 72 rfl
         exact dp_v (v := (I (w64 (r32 + r65)))) wn (rv_add (a := r32) (b := r65) e70 e72) rfl hJ) ?_
       refine ac rfl (by
         intro k _nm ρ σm hJ hoff hdep
         have e4 := look_off (N := 96) (hoff 4 rfl) rfl
         exact dp_v (v := (pt b10 1)) wn (rv_fieldAddr (off := 1) (ft := 3) Tryz.underlying107 rfl ti3 rfl e4) rfl hJ) ?_
       refine all_cons (by
         refine ⟨?_, ?_⟩
         ·intro _nm ρ σm hJ hoff hdep
          have e74 := hdep 4 rfl rfl 74 rfl
          obtain ⟨H, m⟩ := id hJ
          have hc68 := H.cell (u := (I x3.2.1)) (o' := 1) 5 1 rfl rfl rfl
          exact dp_v (v := (I x3.2.1)) wn (rv_load1 Tryz.underlying3 rfl e74 hc68) rfl hJ
         refine ⟨?_, ?_⟩
         ·intro _nm ρ σm hJ hoff hdep
          have e74 := hdep 4 rfl rfl 74 rfl
          obtain ⟨H, m⟩ := id hJ
          have hc68 := H.cell (u := (I x3.2.1)) (o' := 1) 5 1 rfl rfl rfl
          exact dp_v (v := (I x3.2.1)) wn (rv_load1 Tryz.underlying3 rfl e74 hc68) rfl hJ
         trivial) ?_
       exact all_nil
      ·intro _nm ρ σ69 hJ hoff hrel
       have e0 := look_off (N := 96) (hoff 0 rfl) rfl
       have e4 := look_off (N := 96) (hoff 4 rfl) rfl
       have e73 := hrel 3 rfl 73 rfl
       have e75 := hrel 5 rfl 75 rfl
       obtain ⟨H, -⟩ := (show Hp S0 σ0 σ69 [Ch.bx Gd Ge Gf [(Sl a56 r53.1 c57), (Sl a58 r53.2.1 c59), (I r53.2.2.1), (Sl a60 r53.2.2.2.1 c61), (I r53.2.2.2.2.1), (Sl a62 r53.2.2.2.2.2.1 c63), (I r53.2.2.2.2.2.2)] Gg Gh, Ch.ro 0 (Sl a56 r53.1 c57) r53.1, Ch.ro 0 (Sl a58 r53.2.1 c59) r53.2.1, Ch.ro 0 (Sl a60 r53.2.2.2.1 c61) r53.2.2.2.1, Ch.ro 0 (Sl a62 r53.2.2.2.2.2.1 c63) r53.2.2.2.2.2.1, Ch.bx n0 b10 0 [(I x3.1), (I x3.2.1), (I x3.2.2.1), (I x3.2.2.2)] [] []] ∧ Md (fun i => (cov []) i ∨ (cov [Ch.bx Gd Ge Gf [(Sl a56 r53.1 c57), (Sl a58 r53.2.1 c59), (I r53.2.2.1), (Sl a60 r53.2.2.2.1 c61), (I r53.2.2.2.2.1), (Sl a62 r53.2.2.2.2.2.1 c63), (I r53.2.2.2.2.2.2)] Gg Gh, Ch.ro 0 (Sl a56 r53.1 c57) r53.1, Ch.ro 0 (Sl a58 r53.2.1 c59) r53.2.1, Ch.ro 0 (Sl a60 r53.2.2.2.1 c61) r53.2.2.2.1, Ch.ro 0 (Sl a62 r53.2.2.2.2.2.1 c63) r53.2.2.2.2.2.1]) i) σ64 σ69 from hJ)
       clear hJ Hs
       rw [fr_lookL (L := [(0, (pt Ge Gf)), (4, (pt b10 0)), (73, (I (w64 (r32 + r65)))), (75, (I x3.2.1))]) ⟨e0, e4, e73, e75, trivial⟩]
       clear hoff hrel e0 e4 e73 e75
       refine st (v := (B (decide (x3.2.1 ≤ (w64 (r32 + r65)))))) (rv_geq (a := (w64 (r32 + r65))) (b := x3.2.1) rfl rfl) (w_end (q_then ?_))
       refine cd_cond (decide (x3.2.1 ≤ (w64 (r32 + r65)))) rfl (fun hb70 => ?_) (fun hb70 => ?_)
       ·replace h := bif_t hb70 h
        refine rg (sm (pt Ge Gf) rfl (st (v := (pt b10 3)) (rv_fieldAddr (off := 3) (ft := 3) Tryz.underlying107 rfl ti3 rfl rfl) ?_))
        have hc71 := H.cell (u := (I x3.2.2.2)) (o' := 3) 5 3 rfl rfl rfl
        refine st (v := (I x3.2.2.2)) (rv_load1 Tryz.underlying3 rfl rfl hc71) ?_
        revert h; refine br fun r72 hx73 h => ?_
        have hc74 := ih (Gd := Gd) (Ge := Ge) (Gf := Gf) (Gg := Gg) (Gh := Gh) (Fu := a56) (Fv := c57) (Fw := a58) (Fx := c59) (Fy := a60) (Ga := c61) (Gb := a62) (Gc := c63) hx73
        refine st_call (cx_call hc74 (ent_f hc74.fn rfl) hn0 (H.sel' [0, 1, 2, 3, 4, 1, 2, 3, 4, 5] rfl rfl : Hp S0 σ0 _ ([_, _, _, _, _] ++ _))) wn ?_
        rintro _ σ83 ⟨_, ⟨a75, c76, a77, c78, a79, c80, a81, c82, rfl, rfl⟩, H, -⟩
        replace H : Hp _ _ _ [_, _, _, _, _, _, _, _, _, _] := H
        replace H : Hp S0 σ0 σ83 [Ch.bx Gd Ge Gf [(Sl a75 r72.1 c76), (Sl a77 r72.2.1 c78), (I r72.2.2.1), (Sl a79 r72.2.2.2.1 c80), (I r72.2.2.2.2.1), (Sl a81 r72.2.2.2.2.2.1 c82), (I r72.2.2.2.2.2.2)] Gg Gh, Ch.ro 0 (Sl a75 r72.1 c76) r72.1, Ch.ro 0 (Sl a77 r72.2.1 c78) r72.2.1, Ch.ro 0 (Sl a79 r72.2.2.2.1 c80) r72.2.2.2.1, Ch.ro 0 (Sl a81 r72.2.2.2.2.2.1 c82) r72.2.2.2.2.2.1] := H.sel' [0, 1, 2, 3, 4] rfl rfl
        refine w_end (q_then (c_ret (q_then_r ?_)))
        obtain rfl := sj h
        exact fin_ret (v := (.tuple #[])) (results_ok Tryz.results48 res_nil rfl) ⟨a75, c76, a77, c78, a79, c80, a81, c82, rfl, rfl⟩ (H.sel' [0, 1, 2, 3, 4] rfl rfl)
       ·replace h := bif_f hb70 h
        refine c_skip (q_then (c_ret (q_then_r ?_)))
        obtain rfl := sj h
        exact fin_ret (v := (.tuple #[])) (results_ok Tryz.results48 res_nil rfl) ⟨a56, c57, a58, c59, a60, c61, a62, c63, rfl, rfl⟩ (H.sel' [0, 1, 2, 3, 4] rfl rfl)
     ·replace h := bif_f hb49 h
      refine c_skip (q_then (c_seq (rg (sm (pt Ge Gf) rfl (st (v := (pt b10 3)) (rv_fieldAddr (off := 3) (ft := 3) Tryz.underlying107 rfl ti3 rfl rfl) ?_)))))
      have hc84 := H.cell (u := (I x3.2.2.2)) (o' := 3) 2 3 rfl rfl rfl
      refine st (v := (I x3.2.2.2)) (rv_load1 Tryz.underlying3 rfl rfl hc84) ?_
      obtain ⟨σ85, hw86, H, -⟩ := H.pub 1 rfl (Nat.le_refl _)
      rw [← hw86]; clear hw86
      replace H := H.roLow 0 0 rfl (Nat.zero_le _)
      revert h; refine br fun r87 hx88 h => ?_
      have hc89 := ih (Gd := Gd) (Ge := Ge) (Gf := Gf) (Gg := Gg) (Gh := Gh) (Fu := Fu) (Fv := Fv) (Fw := Fw) (Fx := Fx) (Fy := Fy) (Ga := Ga) (Gb := a44) (Gc := c45) hx88
      refine st_call (cx_call hc89 (ent_f hc89.fn rfl) hn0 (H.sel' [2, 4, 5, 6, 0, 0, 1, 3, 4, 5, 6] rfl rfl : Hp S0 σ0 _ ([_, _, _, _, _] ++ _))) wn ?_
      rintro _ σ98 ⟨_, ⟨a90, c91, a92, c93, a94, c95, a96, c97, rfl, rfl⟩, H, -⟩
      replace H : Hp _ _ _ [_, _, _, _, _, _, _, _, _, _, _] := H
      replace H : Hp S0 σ0 σ98 [Ch.bx Gd Ge Gf [(Sl a90 r87.1 c91), (Sl a92 r87.2.1 c93), (I r87.2.2.1), (Sl a94 r87.2.2.2.1 c95), (I r87.2.2.2.2.1), (Sl a96 r87.2.2.2.2.2.1 c97), (I r87.2.2.2.2.2.2)] Gg Gh, Ch.ro 0 (Sl a90 r87.1 c91) r87.1, Ch.ro 0 (Sl a92 r87.2.1 c93) r87.2.1, Ch.ro 0 (Sl a94 r87.2.2.2.1 c95) r87.2.2.2.1, Ch.ro 0 (Sl a96 r87.2.2.2.2.2.1 c97) r87.2.2.2.2.2.1, Ch.bx n0 b10 0 [(I x3.1), (I x3.2.1), (I x3.2.2.1), (I x3.2.2.2)] [] []] := H.sel' [0, 1, 2, 3, 4, 7] rfl rfl
      refine w_end (q_then (c_seq ?_))
      revert h; refine br fun r99 hx100 h => ?_
      have hc101 := c_spec_seek_reach (Gd := Gd) (Ge := Ge) (Gf := Gf) (Gg := Gg) (Gh := Gh) (Fu := a90) (Fv := c91) (Fw := a92) (Fx := c93) (Fy := a94) (Ga := c95) (Gb := a96) (Gc := c97) hx100
      have hc102 := H.cell (u := (I x3.2.1)) (o' := 1) 5 1 rfl rfl rfl
      have Hs := H
      refine rg2 (σ := σ98) (Nm := Unit) 6 [2] [[false], [true]] [[(0, 0), (1, 1)], [(0, 0)], [(0, 1)], [(1, 1)], [(0, 0), (1, 1)], [(0, 0), (1, 1)]] 1 [fun _ => fun σm => Hp S0 σ0 σm [Ch.bx Gd Ge Gf [(Sl a90 r87.1 c91), (Sl a92 r87.2.1 c93), (I r87.2.2.1), (Sl a94 r87.2.2.2.1 c95), (I r87.2.2.2.2.1), (Sl a96 r87.2.2.2.2.2.1 c97), (I r87.2.2.2.2.2.2)] Gg Gh, Ch.ro 0 (Sl a90 r87.1 c91) r87.1, Ch.ro 0 (Sl a92 r87.2.1 c93) r87.2.1, Ch.ro 0 (Sl a94 r87.2.2.2.1 c95) r87.2.2.2.1, Ch.ro 0 (Sl a96 r87.2.2.2.2.2.1 c97) r87.2.2.2.2.2.1, Ch.bx n0 b10 0 [(I x3.1), (I x3.2.1), (I x3.2.2.1), (I x3.2.2.2)] [] []] ∧ Md (cov []) σ98 σm, fun _ => fun σm => Hp S0 σ0 σm [Ch.bx Gd Ge Gf [(Sl a90 r87.1 c91), (Sl a92 r87.2.1 c93), (I r87.2.2.1), (Sl a94 r87.2.2.2.1 c95), (I r87.2.2.2.2.1), (Sl a96 r87.2.2.2.2.2.1 c97), (I r87.2.2.2.2.2.2)] Gg Gh, Ch.ro 0 (Sl a90 r87.1 c91) r87.1, Ch.ro 0 (Sl a92 r87.2.1 c93) r87.2.1, Ch.ro 0 (Sl a94 r87.2.2.2.1 c95) r87.2.2.2.1, Ch.ro 0 (Sl a96 r87.2.2.2.2.2.1 c97) r87.2.2.2.2.2.1, Ch.bx n0 b10 0 [(I x3.1), (I x3.2.1), (I x3.2.2.1), (I x3.2.2.2)] [] []] ∧ Md (fun i => (cov []) i ∨ (cov [Ch.bx Gd Ge Gf [(Sl a90 r87.1 c91), (Sl a92 r87.2.1 c93), (I r87.2.2.1), (Sl a94 r87.2.2.2.1 c95), (I r87.2.2.2.2.1), (Sl a96 r87.2.2.2.2.2.1 c97), (I r87.2.2.2.2.2.2)] Gg Gh, Ch.ro 0 (Sl a90 r87.1 c91) r87.1, Ch.ro 0 (Sl a92 r87.2.1 c93) r87.2.1, Ch.ro 0 (Sl a94 r87.2.2.2.1 c95) r87.2.2.2.1, Ch.ro 0 (Sl a96 r87.2.2.2.2.2.1 c97) r87.2.2.2.2.2.1]) i) σ98 σm] [fun _ => (I r32), fun _ => (pt Ge Gf), fun _ => (I r99), fun _ => (I (w64 (r32 - r99))), fun _ => (pt b10 1), fun _ => (I x3.2.1)] () (by kernel_rfl) (by kernel_rfl) ?_ ?_ ?_
      ·intro σm m0
       exact ⟨H.grow (m0.mono fun _ h => h.elim), m0⟩
      ·refine ac rfl (by
         intro k _nm ρ σm hJ hoff hdep
         have e5 := look_off (N := 96) (hoff 5 rfl) rfl
         exact dp_v (v := (I r32)) wn (rv_move e5) rfl hJ) ?_
       refine ac rfl (by
         intro k _nm ρ σm hJ hoff hdep
         have e0 := look_off (N := 96) (hoff 0 rfl) rfl
         exact dp_v (v := (pt Ge Gf)) wn (rv_move e0) rfl hJ) ?_
       refine all_cons (by
         refine ⟨?_, ?_⟩
         ·intro _nm ρ σm hJ hoff hdep
          have e86 : look 96 ρ 86 = (pt Ge Gf) := hdep 1 rfl rfl 86 rfl
          obtain ⟨H, m⟩ := id hJ
          refine dp_cx wn (cx_call hc101 (ent_f hc101.fn (by show [look 96 ρ 86] = _; rw [e86])) hn0 (H.sel' [0, 1, 2, 3, 4, 1, 2, 3, 4, 5] rfl rfl : Hp S0 σ0 _ ([_, _, _, _, _] ++ _))) ?_
          rintro _ σq ⟨_, ⟨rfl, rfl⟩, H2, m2⟩
          exact ⟨_, (), rfl, rfl, ⟨H2.sel' [0, 1, 2, 3, 4, 5] rfl rfl, m.comp m2⟩, stab [0, 1, 4, 5] (by kernel_rfl) ⟨rfl, rfl, rfl, rfl, trivial⟩⟩
         trivial) ?_
       refine ac rfl (by
         intro k _nm ρ σm hJ hoff hdep
         have e85 := hdep 0 rfl rfl 85 rfl
         have e87 := hdep 2 rfl rfl 87 rfl
         exact dp_v (v := (I (w64 (r32 - r99)))) wn (rv_sub (a := r32) (b := r99) e85 e87) rfl hJ) ?_
       refine ac rfl (by
         intro k _nm ρ σm hJ hoff hdep
         have e4 := look_off (N := 96) (hoff 4 rfl) rfl
         exact dp_v (v := (pt b10 1)) wn (rv_fieldAddr (off := 1) (ft := 3) Tryz.underlying107 rfl ti3 rfl e4) rfl hJ) ?_
       refine all_cons (by
         refine ⟨?_, ?_⟩
         ·intro _nm ρ σm hJ hoff hdep
          have e89 := hdep 4 rfl rfl 89 rfl
          obtain ⟨H, m⟩ := id hJ
          have hc102 := H.cell (u := (I x3.2.1)) (o' := 1) 5 1 rfl rfl rfl
          exact dp_v (v := (I x3.2.1)) wn (rv_load1 Tryz.underlying3 rfl e89 hc102) rfl hJ
         refine ⟨?_, ?_⟩
         ·intro _nm ρ σm hJ hoff hdep
          have e89 := hdep 4 rfl rfl 89 rfl
          obtain ⟨H, m⟩ := id hJ
          have hc102 := H.cell (u := (I x3.2.1)) (o' := 1) 5 1 rfl rfl rfl
          exact dp_v (v := (I x3.2.1)) wn (rv_load1 Tryz.underlying3 rfl e89 hc102) rfl hJ
         trivial) ?_
       exact all_nil
      ·intro _nm ρ σ103 hJ hoff hrel
       have e0 := look_off (N := 96) (hoff 0 rfl) rfl
       have e4 := look_off (N := 96) (hoff 4 rfl) rfl
       have e88 := hrel 3 rfl 88 rfl
       have e90 := hrel 5 rfl 90 rfl
       obtain ⟨H, -⟩ := (show Hp S0 σ0 σ103 [Ch.bx Gd Ge Gf [(Sl a90 r87.1 c91), (Sl a92 r87.2.1 c93), (I r87.2.2.1), (Sl a94 r87.2.2.2.1 c95), (I r87.2.2.2.2.1), (Sl a96 r87.2.2.2.2.2.1 c97), (I r87.2.2.2.2.2.2)] Gg Gh, Ch.ro 0 (Sl a90 r87.1 c91) r87.1, Ch.ro 0 (Sl a92 r87.2.1 c93) r87.2.1, Ch.ro 0 (Sl a94 r87.2.2.2.1 c95) r87.2.2.2.1, Ch.ro 0 (Sl a96 r87.2.2.2.2.2.1 c97) r87.2.2.2.2.2.1, Ch.bx n0 b10 0 [(I x3.1), (I x3.2.1), (I x3.2.2.1), (I x3.2.2.2)] [] []] ∧ Md (fun i => (cov []) i ∨ (cov [Ch.bx Gd Ge Gf [(Sl a90 r87.1 c91), (Sl a92 r87.2.1 c93), (I r87.2.2.1), (Sl a94 r87.2.2.2.1 c95), (I r87.2.2.2.2.1), (Sl a96 r87.2.2.2.2.2.1 c97), (I r87.2.2.2.2.2.2)] Gg Gh, Ch.ro 0 (Sl a90 r87.1 c91) r87.1, Ch.ro 0 (Sl a92 r87.2.1 c93) r87.2.1, Ch.ro 0 (Sl a94 r87.2.2.2.1 c95) r87.2.2.2.1, Ch.ro 0 (Sl a96 r87.2.2.2.2.2.1 c97) r87.2.2.2.2.2.1]) i) σ98 σ103 from hJ)
       clear hJ Hs
       rw [fr_lookL (L := [(0, (pt Ge Gf)), (4, (pt b10 0)), (88, (I (w64 (r32 - r99)))), (90, (I x3.2.1))]) ⟨e0, e4, e88, e90, trivial⟩]
       clear hoff hrel e0 e4 e88 e90
       refine st (v := (B (decide ((w64 (r32 - r99)) ≤ x3.2.1)))) (rv_leq (a := (w64 (r32 - r99))) (b := x3.2.1) rfl rfl) (w_end (q_then ?_))
       refine cd_cond (decide ((w64 (r32 - r99)) ≤ x3.2.1)) rfl (fun hb104 => ?_) (fun hb104 => ?_)
       ·replace h := bif_t hb104 h
        refine rg (sm (pt Ge Gf) rfl (st (v := (pt b10 2)) (rv_fieldAddr (off := 2) (ft := 3) Tryz.underlying107 rfl ti3 rfl rfl) ?_))
        have hc105 := H.cell (u := (I x3.2.2.1)) (o' := 2) 5 2 rfl rfl rfl
        refine st (v := (I x3.2.2.1)) (rv_load1 Tryz.underlying3 rfl rfl hc105) ?_
        revert h; refine br fun r106 hx107 h => ?_
        have hc108 := ih (Gd := Gd) (Ge := Ge) (Gf := Gf) (Gg := Gg) (Gh := Gh) (Fu := a90) (Fv := c91) (Fw := a92) (Fx := c93) (Fy := a94) (Ga := c95) (Gb := a96) (Gc := c97) hx107
        refine st_call (cx_call hc108 (ent_f hc108.fn rfl) hn0 (H.sel' [0, 1, 2, 3, 4, 1, 2, 3, 4, 5] rfl rfl : Hp S0 σ0 _ ([_, _, _, _, _] ++ _))) wn ?_
        rintro _ σ117 ⟨_, ⟨a109, c110, a111, c112, a113, c114, a115, c116, rfl, rfl⟩, H, -⟩
        replace H : Hp _ _ _ [_, _, _, _, _, _, _, _, _, _] := H
        replace H : Hp S0 σ0 σ117 [Ch.bx Gd Ge Gf [(Sl a109 r106.1 c110), (Sl a111 r106.2.1 c112), (I r106.2.2.1), (Sl a113 r106.2.2.2.1 c114), (I r106.2.2.2.2.1), (Sl a115 r106.2.2.2.2.2.1 c116), (I r106.2.2.2.2.2.2)] Gg Gh, Ch.ro 0 (Sl a109 r106.1 c110) r106.1, Ch.ro 0 (Sl a111 r106.2.1 c112) r106.2.1, Ch.ro 0 (Sl a113 r106.2.2.2.1 c114) r106.2.2.2.1, Ch.ro 0 (Sl a115 r106.2.2.2.2.2.1 c116) r106.2.2.2.2.2.1] := H.sel' [0, 1, 2, 3, 4] rfl rfl
        refine w_end ?_
        obtain rfl := sj h
        exact fin_end (v := (.tuple #[])) (results_ok Tryz.results48 res_nil rfl) ⟨a109, c110, a111, c112, a113, c114, a115, c116, rfl, rfl⟩ (H.sel' [0, 1, 2, 3, 4] rfl rfl)
       ·replace h := bif_f hb104 h
        refine c_skip ?_
        obtain rfl := sj h
        exact fin_end (v := (.tuple #[])) (results_ok Tryz.results48 res_nil rfl) ⟨a90, c91, a92, c93, a94, c95, a96, c97, rfl, rfl⟩ (H.sel' [0, 1, 2, 3, 4] rfl rfl)

theorem c_spec_search {Ap : List (Int × (List Int) × Int)} {Bq : Int} {Br : List Int} {Bs : Int} {Aq : Option Addr} {Ar : Nat} {Bt : Option Addr} {Bu : Nat} {r : ((List (Int × Int × Int × Int)) × (List (Int × (List Int) × Int)) × Int × (List Int) × Int × (List (Int × Int)) × Int)} (h : M.spec_search Ap Bq Br Bs = some r) :
    Cal2 Tryz.prog 22 [(Sl Aq Ap Ar), (I Bq), (Sl Bt Br Bu), (I Bs)] [Ch.ro 0 (Sl Aq Ap Ar) Ap, Ch.ro 0 (Sl Bt Br Bu) Br] (fun n0 v L => ∃ (bz1 : Nat), ∃ (az2 : Option Addr), ∃ (cz3 : Nat), ∃ (az4 : Option Addr), ∃ (cz5 : Nat), ∃ (az6 : Option Addr), ∃ (cz7 : Nat), ∃ (az8 : Option Addr), ∃ (cz9 : Nat), v = (pt bz1 0) ∧ L = [Ch.bx n0 bz1 0 [(Sl az2 r.1 cz3), (Sl az4 r.2.1 cz5), (I r.2.2.1), (Sl az6 r.2.2.2.1 cz7), (I r.2.2.2.2.1), (Sl az8 r.2.2.2.2.2.1 cz9), (I r.2.2.2.2.2.2)] [] [], Ch.ro 0 (Sl az2 r.1 cz3) r.1, Ch.ro 0 (Sl az4 r.2.1 cz5) r.2.1, Ch.ro 0 (Sl az6 r.2.2.2.1 cz7) r.2.2.2.1, Ch.ro 0 (Sl az8 r.2.2.2.2.2.1 cz9) r.2.2.2.2.2.1]) := by
 refine cal2 (n := 26) Tryz.func22 rfl rfl rfl rfl ?_
 intro S0 σ0 n0 hn0 H
 unfold M.spec_search at h
 refine c_seq (rg (sa (.pointer none) rfl (w_end (q_then (c_seq (rg ?_))))))
 refine st_ex (ex_buildSlice (el := n0) (xs := ([] : List (Int × Int × Int × Int))) (ps := []) (cs := []) H hn0 Tryz.underlying46 ti107 rfl rfl (by kernel_rfl) (.nil) rfl) wn ?_
 rintro _ σ2 ⟨b1, rfl, H, -⟩
 refine sm (Sl Aq Ap Ar) rfl (sm (I Bq) rfl ?_)
 replace H := H.ownLow 0 0 0 rfl (Nat.zero_le _) (Nat.zero_le _)
 revert h; refine br fun r3 hx4 h => ?_
 have hc5 := c_spec_grow 100 (Fq := (some ⟨b1, 0, none⟩)) (Fr := 0) (Au := Aq) (Av := Ar) hx4
 refine st_call (cx_call hc5 (ent_f hc5.fn rfl) hn0 (H.sel' [0, 1, 1, 2] rfl rfl : Hp S0 σ0 _ ([_, _] ++ _))) wn ?_
 rintro _ σ8 ⟨_, ⟨a6, c7, rfl, rfl⟩, H, -⟩
 replace H : Hp _ _ _ [_, _, _] := H
 refine sm (Sl Aq Ap Ar) rfl (sm (I Bq) rfl (sm (Sl Bt Br Bu) rfl (sm (I Bs) rfl ?_)))
 refine st (v := (.agg #[(Sl a6 r3 c7), (Sl Aq Ap Ar), (I Bq), (Sl Bt Br Bu), (I Bs), (.slice none 0 0), (I 0)])) (rv_build (ps := [(0, (Sl a6 r3 c7)), (1, (Sl Aq Ap Ar)), (2, (I Bq)), (3, (Sl Bt Br Bu)), (4, (I Bs))]) Tryz.underlying48 ti48 (bp48 Tryz.underlying48) rfl (by kernel_rfl)) ?_
 refine st_ex (ex_box (cs := [(Sl a6 r3 c7), (Sl Aq Ap Ar), (I Bq), (Sl Bt Br Bu), (I Bs), (.slice none 0 0), (I 0)]) H hn0 rfl rfl) wn ?_
 rintro _ σ10 ⟨b9, rfl, H, -⟩
 refine sa (pt b9 0) rfl (w_end (q_then (c_seq (c_seq (rg (sm (Sl Aq Ap Ar) rfl (st (v := (I (Ap.length : Int))) (rv_len Tryz.underlying23 rfl) (st (v := (B (decide (0 < (Ap.length : Int))))) (rv_gtr (a := (Ap.length : Int)) (b := 0) rfl rfl) (w_end (q_then ?_))))))))))
 obtain ⟨o11, hj, h'⟩ := bind_some h
 clear h
 refine c_cut (fun e a w => e = .normal ∧ ∃ (ρ : Nat → Value) (σ : St) (aj1 : Option Addr) (cj2 : Nat) (aj3 : Option Addr) (cj4 : Nat) (aj5 : Option Addr) (cj6 : Nat) (aj7 : Option Addr) (cj8 : Nat), a = fr 26 (updL ρ [(9, (pt b9 0))]) ∧ w = σ.w ∧ Hp S0 σ0 σ [Ch.bx n0 b9 0 [(Sl aj1 o11.1 cj2), (Sl aj3 o11.2.1 cj4), (I o11.2.2.1), (Sl aj5 o11.2.2.2.1 cj6), (I o11.2.2.2.2.1), (Sl aj7 o11.2.2.2.2.2.1 cj8), (I o11.2.2.2.2.2.2)] [] [], Ch.ro 0 (Sl aj1 o11.1 cj2) o11.1, Ch.ro 0 (Sl aj3 o11.2.1 cj4) o11.2.1, Ch.ro 0 (Sl aj5 o11.2.2.2.1 cj6) o11.2.2.2.1, Ch.ro 0 (Sl aj7 o11.2.2.2.2.2.1 cj8) o11.2.2.2.2.2.1]) ?_ ?_
 ·clear h'
  rename _ = some o11 => h
  refine cd_cond (decide (0 < (Ap.length : Int))) rfl (fun hb12 => ?_) (fun hb12 => ?_)
  ·replace h := bif_t hb12 h
   refine rg (sm (pt b9 0) rfl ?_)
   replace H := H.ownLow 1 0 0 rfl (Nat.le_refl _) (Nat.zero_le _)
   obtain ⟨σ13, hw14, H, -⟩ := H.pub 0 rfl (Nat.le_refl _)
   rw [← hw14]; clear hw14
   replace H := H.nilRo (Int × Int) 0
   revert h; refine br fun r15 hx16 h => ?_
   have hc17 := c_spec_seek_visit 100 (Gd := n0) (Ge := b9) (Gf := 0) (Gg := []) (Gh := []) (Fu := a6) (Fv := c7) (Fw := Aq) (Fx := Ar) (Fy := Bt) (Ga := Bu) (Gb := none) (Gc := 0) hx16
   refine st_call (cx_call hc17 (ent_f hc17.fn rfl) hn0 (H.sel' [2, 1, 3, 4, 0, 0, 1, 3, 4] rfl rfl : Hp S0 σ0 _ ([_, _, _, _, _] ++ _))) wn ?_
   rintro _ σ26 ⟨_, ⟨a18, c19, a20, c21, a22, c23, a24, c25, rfl, rfl⟩, H, -⟩
   replace H : Hp _ _ _ [_, _, _, _, _, _, _, _, _] := H
   replace H : Hp S0 σ0 σ26 [Ch.bx n0 b9 0 [(Sl a18 r15.1 c19), (Sl a20 r15.2.1 c21), (I r15.2.2.1), (Sl a22 r15.2.2.2.1 c23), (I r15.2.2.2.2.1), (Sl a24 r15.2.2.2.2.2.1 c25), (I r15.2.2.2.2.2.2)] [] [], Ch.ro 0 (Sl a18 r15.1 c19) r15.1, Ch.ro 0 (Sl a20 r15.2.1 c21) r15.2.1, Ch.ro 0 (Sl a22 r15.2.2.2.1 c23) r15.2.2.2.1, Ch.ro 0 (Sl a24 r15.2.2.2.2.2.1 c25) r15.2.2.2.2.2.1] := H.sel' [0, 1, 2, 3, 4] rfl rfl
   refine w_end ?_
   obtain rfl := sj h
   exact ⟨rfl, _, σ26, a18, c19, a20, c21, a22, c23, a24, c25, fr_join ⟨rfl, trivial⟩, rfl, H.sel' [0, 1, 2, 3, 4] rfl rfl⟩
  ·replace h := bif_f hb12 h
   refine c_skip ?_
   replace H := H.ownLow 1 0 0 rfl (Nat.le_refl _) (Nat.zero_le _)
   obtain ⟨σ27, hw28, H, -⟩ := H.pub 0 rfl (Nat.le_refl _)
   rw [← hw28]; clear hw28
   replace H := H.nilRo (Int × Int) 0
   obtain rfl := sj h
   exact ⟨rfl, _, σ27, a6, c7, Aq, Ar, Bt, Bu, none, 0, fr_join ⟨rfl, trivial⟩, rfl, H.sel' [2, 1, 3, 4, 0] rfl rfl⟩
 ·clear hj
  have h := h'
  clear h' H
  rintro e a w ⟨rfl, ρ, σ29, a30, c31, a32, c33, a34, c35, a36, c37, rfl, rfl, H⟩
  refine q_then (c_seq (rg (sm (pt b9 0) rfl (sa (pt b9 0) rfl (w_end (q_then (c_ret ?_)))))))
  obtain rfl := sj h
  exact fin_ret (v := (pt b9 0)) (results_ok Tryz.results22 (res_tmp (v := (pt b9 0)) rfl res_nil) rfl) ⟨b9, a30, c31, a32, c33, a34, c35, a36, c37, rfl, rfl⟩ (H.sel' [0, 1, 2, 3, 4] rfl rfl)

theorem c_spec_TreeNearest {Ap : List (Int × (List Int) × Int)} {Bq : Int} {Br : List Int} {Bs : Int} {Aq : Option Addr} {Ar : Nat} {Bt : Option Addr} {Bu : Nat} {r : (List (Int × Int))} (h : M.spec_TreeNearest Ap Bq Br Bs = some r) :
    Cal2 Tryz.prog 8 [(Sl Aq Ap Ar), (I Bq), (Sl Bt Br Bu), (I Bs)] [Ch.ro 0 (Sl Aq Ap Ar) Ap, Ch.ro 0 (Sl Bt Br Bu) Br] (fun n0 v L => ∃ (az1 : Option Addr), ∃ (cz2 : Nat), v = (Sl az1 r cz2) ∧ L = [Ch.own n0 n0 (Sl az1 r cz2) r]) := by
 refine cal2 (n := 34) Tryz.func8 rfl rfl rfl rfl ?_
 intro S0 σ0 n0 hn0 H
 unfold M.spec_TreeNearest at h
 refine c_seq (rg (sa (.slice none 0 0) rfl (w_end (q_then (c_seq (c_seq ?_))))))
 obtain ⟨o1, hj, h'⟩ := bind_some h
 clear h
 refine c_cut (fun e a w => e = .normal ∧ ∃ (ρ : Nat → Value) (σ : St), a = fr 34 (updL ρ [(0, (Sl Aq Ap Ar)), (1, (I Bq)), (2, (Sl Bt Br Bu)), (3, (I Bs)), (23, (B o1))]) ∧ w = σ.w ∧ Hp S0 σ0 σ [Ch.ro 0 (Sl Aq Ap Ar) Ap, Ch.ro 0 (Sl Bt Br Bu) Br]) ?_ ?_
 ·clear h'
  rename _ = some o1 => h
  refine rg (sm (Sl Aq Ap Ar) rfl (sm (I Bq) rfl (sm (Sl Bt Br Bu) rfl ?_)))
  revert h; refine br fun r2 hx3 h => ?_
  have hc4 := c_spec_validQuery (Aq := Aq) (Ar := Ar) (Bt := Bt) (Bu := Bu) hx3
  refine st_call (cx_call hc4 (ent_f hc4.fn rfl) hn0 (H.sel' [0, 1, 0, 1] rfl rfl : Hp S0 σ0 _ ([_, _] ++ _))) wn ?_
  rintro _ σ5 ⟨_, ⟨rfl, rfl⟩, H, -⟩
  replace H : Hp _ _ _ [_, _] := H
  refine st (v := (B (!r2))) (rv_not rfl) (sm (B (!r2)) rfl ?_)
  rcases Bool.eq_false_or_eq_true (!r2) with hb6 | hb6
  ·replace h := bif_t hb6 h
   refine st_skip (congrArg some hb6) (st_skip (congrArg some hb6) (st_skip (congrArg some hb6) (st (v := (B true)) (rv_pick_t (congrArg B hb6) rfl) (sm (B true) rfl (st_skip rfl (st_skip rfl (st_skip rfl (st (v := (B true)) (rv_pick_t rfl rfl) (w_end ?_)))))))))
   obtain rfl := sj h
   exact ⟨rfl, _, σ5, fr_join ⟨rfl, rfl, rfl, rfl, rfl, trivial⟩, rfl, H.sel' [0, 1] rfl rfl⟩
  ·replace h := bif_f hb6 h
   refine st_g (v := (I Bq)) (congrArg some hb6) (rv_move rfl) ?_
   revert h; refine br fun r7 hx8 h => ?_
   have hc9 := c_spec_isMetric hx8
   refine st_call (cx_call hc9 (ent_f hc9.fn rfl) hn0 (H.sel' [0, 1] rfl rfl : Hp S0 σ0 _ ([] ++ _))) (wanted_yes rfl (by exact (congrArg some hb6))) ?_
   rintro _ σ10 ⟨_, ⟨rfl, rfl⟩, H, -⟩
   replace H : Hp _ _ _ [_, _] := H
   refine st_g (v := (B (!r7))) (congrArg some hb6) (rv_not rfl) (st (v := (B (!r7))) (rv_pick_f (congrArg B hb6) rfl) (sm (B (!r7)) rfl ?_))
   rcases Bool.eq_false_or_eq_true (!r7) with hb11 | hb11
   ·replace h := bif_t hb11 h
    refine st_skip (congrArg some hb11) (st_skip (congrArg some hb11) (st_skip (congrArg some hb11) (st (v := (B true)) (rv_pick_t (congrArg B hb11) rfl) (w_end ?_))))
    obtain rfl := sj h
    exact ⟨rfl, _, σ10, fr_join ⟨rfl, rfl, rfl, rfl, rfl, trivial⟩, rfl, H.sel' [0, 1] rfl rfl⟩
   ·replace h := bif_f hb11 h
    refine st_g (v := (I Bs)) (congrArg some hb11) (rv_move rfl) ?_
    revert h; refine br fun r12 hx13 h => ?_
    have hc14 := c_spec_inRange hx13
    refine st_call (cx_call hc14 (ent_f hc14.fn rfl) hn0 (H.sel' [0, 1] rfl rfl : Hp S0 σ0 _ ([] ++ _))) (wanted_yes rfl (by exact (congrArg some hb11))) ?_
    rintro _ σ15 ⟨_, ⟨rfl, rfl⟩, H, -⟩
    replace H : Hp _ _ _ [_, _] := H
    refine st_g (v := (B (!r12))) (congrArg some hb11) (rv_not rfl) (st (v := (B (!r12))) (rv_pick_f (congrArg B hb11) rfl) (w_end ?_))
    obtain rfl := sj h
    exact ⟨rfl, _, σ15, fr_join ⟨rfl, rfl, rfl, rfl, rfl, trivial⟩, rfl, H.sel' [0, 1] rfl rfl⟩
 ·clear hj
  have h := h'
  clear h' H
  rintro e a w ⟨rfl, ρ, σ16, rfl, rfl, H⟩
  refine q_then ?_
  refine cd_cond o1 rfl (fun hb17 => ?_) (fun hb17 => ?_)
  ·replace h := bif_t hb17 h
   refine c_seq (rg (sa (.slice none 0 0) rfl (w_end (q_then (c_ret (q_then_r ?_))))))
   replace H := H.nilOwn (Int × Int) n0 n0
   obtain rfl := sj h
   exact fin_ret (v := (.slice none 0 0)) (results_ok Tryz.results8 (res_tmp (v := (.slice none 0 0)) rfl res_nil) rfl) ⟨none, 0, rfl, rfl⟩ (H.sel' [0] rfl rfl)
  ·replace h := bif_f hb17 h
   refine c_skip (q_then (c_seq (rg ?_)))
   refine st_ex (ex_buildSlice (el := n0) (xs := ([] : List (Int × Int))) (ps := []) (cs := []) H hn0 Tryz.underlying27 ti43 rfl rfl (by kernel_rfl) (.nil) rfl) wn ?_
   rintro _ σ19 ⟨b18, rfl, H, -⟩
   refine sm (Sl Aq Ap Ar) rfl (sm (I Bq) rfl (sm (Sl Bt Br Bu) rfl (sm (I Bs) rfl ?_)))
   revert h; refine br fun r20 hx21 h => ?_
   have hc22 := c_spec_search (Aq := Aq) (Ar := Ar) (Bt := Bt) (Bu := Bu) hx21
   refine st_call (cx_call hc22 (ent_f hc22.fn rfl) hn0 (H.sel' [1, 2, 0, 1, 2] rfl rfl : Hp S0 σ0 _ ([_, _] ++ _))) wn ?_
   rintro _ σ32 ⟨_, ⟨b23, a24, c25, a26, c27, a28, c29, a30, c31, rfl, rfl⟩, H, -⟩
   replace H : Hp _ _ _ [_, _, _, _, _, _, _, _] := H
   replace H : Hp S0 σ0 σ32 [Ch.bx n0 b23 0 [(Sl a24 r20.1 c25), (Sl a26 r20.2.1 c27), (I r20.2.2.1), (Sl a28 r20.2.2.2.1 c29), (I r20.2.2.2.2.1), (Sl a30 r20.2.2.2.2.2.1 c31), (I r20.2.2.2.2.2.2)] [] [], Ch.ro 0 (Sl a24 r20.1 c25) r20.1, Ch.ro 0 (Sl a26 r20.2.1 c27) r20.2.1, Ch.ro 0 (Sl a28 r20.2.2.2.1 c29) r20.2.2.2.1, Ch.ro 0 (Sl a30 r20.2.2.2.2.2.1 c31) r20.2.2.2.2.2.1, Ch.own n0 n0 (Sl (some ⟨b18, 0, none⟩) ([] : List (Int × Int)) 0) ([] : List (Int × Int))] := H.sel' [0, 1, 2, 3, 4, 5] rfl rfl
   refine st (v := (pt b23 0)) (rv_nilCheck rfl) (st (v := (pt b23 5)) (rv_fieldAddr (off := 5) (ft := 27) Tryz.underlying48 rfl ti27 rfl rfl) ?_)
   have hc33 := H.cell (u := (Sl a30 r20.2.2.2.2.2.1 c31)) (o' := 5) 0 5 rfl rfl rfl
   refine st (v := (Sl a30 r20.2.2.2.2.2.1 c31)) (rv_load1 Tryz.underlying27 rfl rfl hc33) ?_
   revert h; refine br fun xs34 hx35 h => ?_
   refine st_ex (ex_append H (i := 5) rfl Tryz.underlying27 Tryz.underlying27 ti43 rfl rfl (by decide) ((H.ro 4 rfl).rd.sc) hx35 hn0 rfl rfl) wn ?_
   rintro _ σ38 ⟨a36, c37, rfl, H, -⟩
   refine sa (Sl a36 xs34 c37) rfl (w_end (q_then (c_ret ?_)))
   obtain rfl := sj h
   exact fin_ret (v := (Sl a36 xs34 c37)) (results_ok Tryz.results8 (res_tmp (v := (Sl a36 xs34 c37)) rfl res_nil) rfl) ⟨a36, c37, rfl, rfl⟩ (H.sel' [0] rfl rfl)

theorem c_impl_nearestAmong_1__p3__p24 {Bd : Int × (List Int) × Int} {Gi : Int} {Du : List Int} {Be : Option Addr} {Bf : Nat} {Gj Gk Gl : Nat} {Gm Gn : List Value} {Gp : Option Addr} {Gq : Nat} {Gr Dy Dz : Nat} {Gs Gt : List Value} {r : Int} (h : M.impl_nearestAmong_1__p3__p24 Bd Gi Du = some r) :
    Cal2 Tryz.prog 50 [(.agg #[(I Bd.1), (Sl Be Bd.2.1 Bf), (I Bd.2.2)]), (pt Gk Gl), (pt Dy Dz)] [Ch.ro 0 (Sl Be Bd.2.1 Bf) Bd.2.1, Ch.bx Gj Gk Gl [(I Gi)] Gm Gn, Ch.bx Gr Dy Dz [(Sl Gp Du Gq)] Gs Gt, Ch.ro 0 (Sl Gp Du Gq) Du] (fun n0 v L => v = (I r) ∧ L = [Ch.bx Gj Gk Gl [(I Gi)] Gm Gn, Ch.bx Gr Dy Dz [(Sl Gp Du Gq)] Gs Gt]) := by
 refine cal2 (n := 10) Tryz.func50 rfl rfl rfl rfl ?_
 intro S0 σ0 n0 hn0 H
 unfold M.impl_nearestAmong_1__p3__p24 at h
 refine c_seq (rg (st_ex (ex_box (cs := [(I Bd.1), (Sl Be Bd.2.1 Bf), (I Bd.2.2)]) H hn0 rfl rfl) wn ?_))
 rintro _ σ2 ⟨b1, rfl, H, -⟩
 refine sa (I 0) rfl (w_end (q_then (c_seq (rg ?_))))
 have hc3 := H.cell (u := (I Gi)) (o' := Gl) 2 0 rfl rfl rfl
 refine st (v := (I Gi)) (rv_load1 Tryz.underlying3 rfl rfl hc3) (st (v := (pt b1 1)) (rv_fieldAddr (off := 1) (ft := 24) Tryz.underlying59 rfl ti24 rfl rfl) ?_)
 have hc4 := H.cell (u := (Sl Be Bd.2.1 Bf)) (o' := 1) 0 1 rfl rfl rfl
 refine st (v := (Sl Be Bd.2.1 Bf)) (rv_load1 Tryz.underlying24 rfl rfl hc4) ?_
 have hc5 := H.cell (u := (Sl Gp Du Gq)) (o' := Dz) 3 0 rfl rfl rfl
 refine st (v := (Sl Gp Du Gq)) (rv_load1 Tryz.underlying24 rfl rfl hc5) ?_
 revert h; refine br fun r6 hx7 h => ?_
 have hc8 := c_impl_Distance (Ce := Be) (Cf := Bf) (Cg := Gp) (Ci := Gq) hx7
 refine st_call (cx_call hc8 (ent_f hc8.fn rfl) hn0 (H.sel' [1, 4, 0, 1, 2, 3, 4] rfl rfl : Hp S0 σ0 _ ([_, _] ++ _))) wn ?_
 rintro _ σ9 ⟨_, ⟨rfl, rfl⟩, H, -⟩
 replace H : Hp _ _ _ [_, _, _, _, _] := H
 refine sa (I r6) rfl (w_end (q_then (c_ret ?_)))
 obtain rfl := sj h
 exact fin_ret (v := (I r6)) (results_ok Tryz.results50 (res_tmp (v := (I r6)) rfl res_nil) rfl) ⟨rfl, rfl⟩ (H.sel' [2, 3] rfl rfl)

end Go.Vs
