/- The functions compute what their models say. -/
import Derived.Test.YtdjjikmfkejdiabGreatKTreeVisitsC1
set_option linter.unusedVariables false
set_option linter.unusedSimpArgs false
set_option maxRecDepth 20000
namespace Go.Vs
open Go Go.Proofs
attribute [local irreducible] Code.wp Code.wpIn wpList wpListIn wpQuiet Calls CallsIn

theorem c_impl_branch_turns {Cp : Tr (Int × (List Int) × Int)} {Cq : Int} {Cr : Option Addr} {r : ((Tr (Int × (List Int) × Int)) × Int) × ((Tr (Int × (List Int) × Int)) × Int)} (h : M.impl_branch_turns Cp Cq = some r) :
    Cal2 Tryz.prog 38 [(.pointer Cr), (I Cq)] [Ch.pr 0 (.pointer Cr) Cp] (fun n0 v L => ∃ (az1 : Option Addr), ∃ (az2 : Option Addr), v = (.tuple #[(.agg #[(.pointer az1), (I r.1.2)]), (.agg #[(.pointer az2), (I r.2.2)])]) ∧ L = [Ch.pr 0 (.pointer az1) r.1.1, Ch.pr 0 (.pointer az2) r.2.1]) := by
 refine cal2 (n := 44) Tryz.func38 rfl rfl rfl rfl ?_
 intro S0 σ0 n0 hn0 H
 unfold M.impl_branch_turns at h
 refine c_seq (rg (st_ex (ex_alloc (cs := [(.pointer none), (I 0)]) H hn0 ti63 rfl) wn ?_))
 rintro _ σ2 ⟨b1, rfl, H, -⟩
 refine st_ex (ex_alloc (cs := [(.pointer none), (I 0)]) H hn0 ti63 rfl) wn ?_
 rintro _ σ4 ⟨b3, rfl, H, -⟩
 refine w_end (q_then (c_seq (c_seq (rg (sm (I Cq) rfl (sm (.pointer Cr) rfl ?_))))))
 revert h; refine br fun x5 hx6 h => ?_
 obtain ⟨b8, o9, hi7⟩ := (H.pr 2 rfl).ex hx6
 refine st (v := (pt b8 o9)) (rv_nilCheckT hi7 rfl) (st (v := (pt b8 (o9 + 3))) (rv_fieldAddr (off := 3) (ft := 3) Tryz.underlying68 rfl ti3 rfl rfl) ?_)
 have hc10 := ((H.pr 2 rfl).at hx6 hi7).snd.fst.int
 refine st (v := (I x5.2.1)) (rv_load1 Tryz.underlying3 rfl rfl hc10) (st (v := (B (decide (Cq ≤ x5.2.1)))) (rv_leq (a := Cq) (b := x5.2.1) rfl rfl) (w_end (q_then ?_)))
 refine cd_cond (decide (Cq ≤ x5.2.1)) rfl (fun hb11 => ?_) (fun hb11 => ?_)
 ·replace h := bif_t hb11 h
  refine c_seq ?_
  revert h; refine br fun x12 hx13 h => ?_
  obtain ⟨b15, o16, hi14⟩ := (H.pr 2 rfl).ex hx13
  obtain ⟨v20, hc19, hR18⟩ := ((H.pr 2 rfl).at hx13 hi14).snd.snd.fst.tree
  obtain ⟨a17, rfl⟩ := hR18.isPtr
  replace H := H.add (d := Ch.pr 0 (.pointer a17) x12.2.2.1) hR18 (fun _ h => h)
  clear hR18
  revert h; refine br fun x21 hx22 h => ?_
  obtain ⟨b24, o25, hi23⟩ := (H.pr 3 rfl).ex hx22
  obtain ⟨v29, hc28, hR27⟩ := ((H.pr 3 rfl).at hx22 hi23).snd.snd.snd.tree
  obtain ⟨a26, rfl⟩ := hR27.isPtr
  replace H := H.add (d := Ch.pr 0 (.pointer a26) x21.2.2.2) hR27 (fun _ h => h)
  clear hR27
  revert h; refine br fun x30 hx31 h => ?_
  obtain ⟨b33, o34, hi32⟩ := (H.pr 4 rfl).ex hx31
  have hc35 := ((H.pr 4 rfl).at hx31 hi32).snd.fst.int
  have Hs := H
  refine rg2 (σ := σ4) (Nm := Unit) 17 [16] [[false], [true]] [[(0, 0)], [(0, 0)], [(0, 0)], [(0, 0)], [(0, 0)], [(0, 0), (1, 1)], [(0, 0), (1, 1)], [(0, 0), (1, 1)], [(0, 0), (1, 1)], [(0, 0), (1, 1)], [(0, 0), (1, 1)], [(0, 0), (1, 1)], [(0, 0), (1, 1)], [(0, 0), (1, 1)], [(0, 0), (1, 1)], [(0, 0), (1, 1)], [(0, 1)]] 1 [fun _ => fun σm => Hp S0 σ0 σm [Ch.pr 0 (.pointer a26) x21.2.2.2, Ch.pr 0 (.pointer a17) x12.2.2.1, Ch.bx n0 b3 0 [(.pointer none), (I 0)] [] [], Ch.bx n0 b1 0 [(.pointer none), (I 0)] [] [], Ch.pr 0 (.pointer Cr) Cp] ∧ Md (cov []) σ4 σm, fun _ => fun σm => Hp S0 σ0 σm [Ch.bx n0 b1 0 [(.pointer a17), (I 0)] [] [], Ch.pr 0 (.pointer a26) x21.2.2.2, Ch.pr 0 (.pointer a17) x12.2.2.1, Ch.bx n0 b3 0 [(.pointer none), (I 0)] [] [], Ch.pr 0 (.pointer Cr) Cp] ∧ Md (fun i => (cov []) i ∨ (fun i => i = b1) i) σ4 σm] [fun _ => (.pointer Cr), fun _ => (pt b15 o16), fun _ => (pt b15 (o16 + 4)), fun _ => (.pointer a17), fun _ => (.agg #[(.pointer a17), (I 0)]), fun _ => (.pointer Cr), fun _ => (pt b24 o25), fun _ => (pt b24 (o25 + 5)), fun _ => (.pointer a26), fun _ => (.pointer Cr), fun _ => (pt b33 o34), fun _ => (pt b33 (o34 + 3)), fun _ => (I x30.2.1), fun _ => (I Cq), fun _ => (I (w64 (x30.2.1 - Cq))), fun _ => (.agg #[(.pointer a26), (I (w64 (x30.2.1 - Cq)))]), fun _ => undef] () (by kernel_rfl) (by kernel_rfl) ?_ ?_ ?_
  ·intro σm m0
   exact ⟨H.grow (m0.mono fun _ h => h.elim), m0⟩
  ·refine ac rfl (by
     intro k _nm ρ σm hJ hoff hdep
     have e0 := look_off (N := 44) (hoff 0 rfl) rfl
     exact dp_v (v := (.pointer Cr)) wn (rv_move e0) rfl hJ) ?_
   refine ac rfl (by
     intro k _nm ρ σm hJ hoff hdep
     have e12 := hdep 0 rfl rfl 12 rfl
     exact dp_v (v := (pt b15 o16)) wn (rv_nilCheckT hi14 e12) rfl hJ) ?_
   refine ac rfl (by
     intro k _nm ρ σm hJ hoff hdep
     have e13 := hdep 1 rfl rfl 13 rfl
     exact dp_v (v := (pt b15 (o16 + 4))) wn (rv_fieldAddr (off := 4) (ft := 39) Tryz.underlying68 rfl ti39 rfl e13) rfl hJ) ?_
   refine all_cons (by
     refine ⟨?_, ?_⟩
     ·intro _nm ρ σm hJ hoff hdep
      have e14 := hdep 2 rfl rfl 14 rfl
      obtain ⟨H, m⟩ := id hJ
      replace hc19 := (Hs.pr 4 rfl).hmd hx13 hi14 (k := 4) (by decide) hc19 m
      exact dp_v (v := (.pointer a17)) wn (rv_load1 Tryz.underlying39 rfl e14 hc19) rfl hJ
     trivial) ?_
   refine ac rfl (by
     intro k _nm ρ σm hJ hoff hdep
     have e15 : look 44 ρ 15 = (.pointer a17) := hdep 3 rfl rfl 15 rfl
     exact dp_v (v := (.agg #[(.pointer a17), (I 0)])) wn (rv_build (ps := [(0, (.pointer a17))]) Tryz.underlying63 ti63 (bp63 Tryz.underlying63) (by show [(0, look 44 ρ 15)] = _; rw [e15]) (by kernel_rfl)) rfl hJ) ?_
   refine ac rfl (by
     intro k _nm ρ σm hJ hoff hdep
     have e0 := look_off (N := 44) (hoff 0 rfl) rfl
     exact dp_v (v := (.pointer Cr)) wn (rv_move e0) rfl hJ) ?_
   refine ac rfl (by
     intro k _nm ρ σm hJ hoff hdep
     have e17 := hdep 5 rfl rfl 17 rfl
     exact dp_v (v := (pt b24 o25)) wn (rv_nilCheckT hi23 e17) rfl hJ) ?_
   refine ac rfl (by
     intro k _nm ρ σm hJ hoff hdep
     have e18 := hdep 6 rfl rfl 18 rfl
     exact dp_v (v := (pt b24 (o25 + 5))) wn (rv_fieldAddr (off := 5) (ft := 39) Tryz.underlying68 rfl ti39 rfl e18) rfl hJ) ?_
   refine all_cons (by
     refine ⟨?_, ?_⟩
     ·intro _nm ρ σm hJ hoff hdep
      have e19 := hdep 7 rfl rfl 19 rfl
      obtain ⟨H, m⟩ := id hJ
      replace hc28 := (Hs.pr 4 rfl).hmd hx22 hi23 (k := 5) (by decide) hc28 m
      exact dp_v (v := (.pointer a26)) wn (rv_load1 Tryz.underlying39 rfl e19 hc28) rfl hJ
     refine ⟨?_, ?_⟩
     ·intro _nm ρ σm hJ hoff hdep
      have e19 := hdep 7 rfl rfl 19 rfl
      obtain ⟨H, m⟩ := id hJ
      replace hc28 := (Hs.pr 4 rfl).hmd hx22 hi23 (k := 5) (by decide) hc28 m
      exact dp_v (v := (.pointer a26)) wn (rv_load1 Tryz.underlying39 rfl e19 hc28) rfl hJ
     trivial) ?_
   refine ac rfl (by
     intro k _nm ρ σm hJ hoff hdep
     have e0 := look_off (N := 44) (hoff 0 rfl) rfl
     exact dp_v (v := (.pointer Cr)) wn (rv_move e0) rfl hJ) ?_
   refine ac rfl (by
     intro k _nm ρ σm hJ hoff hdep
     have e21 := hdep 9 rfl rfl 21 rfl
     exact dp_v (v := (pt b33 o34)) wn (rv_nilCheckT hi32 e21) rfl hJ) ?_
   refine ac rfl (by
     intro k _nm ρ σm hJ hoff hdep
     have e22 := hdep 10 rfl rfl 22 rfl
     exact dp_v (v := (pt b33 (o34 + 3))) wn (rv_fieldAddr (off := 3) (ft := 3) Tryz.underlying68 rfl ti3 rfl e22) rfl hJ) ?_
   refine all_cons (by
     refine ⟨?_, ?_⟩
     ·intro _nm ρ σm hJ hoff hdep
      have e23 := hdep 11 rfl rfl 23 rfl
      obtain ⟨H, m⟩ := id hJ
      replace hc35 := (Hs.pr 4 rfl).hmd hx31 hi32 (k := 3) (by decide) hc35 m
      exact dp_v (v := (I x30.2.1)) wn (rv_load1 Tryz.underlying3 rfl e23 hc35) rfl hJ
     refine ⟨?_, ?_⟩
     ·intro _nm ρ σm hJ hoff hdep
      have e23 := hdep 11 rfl rfl 23 rfl
      obtain ⟨H, m⟩ := id hJ
      replace hc35 := (Hs.pr 4 rfl).hmd hx31 hi32 (k := 3) (by decide) hc35 m
      exact dp_v (v := (I x30.2.1)) wn (rv_load1 Tryz.underlying3 rfl e23 hc35) rfl hJ
     trivial) ?_
   refine ac rfl (by
     intro k _nm ρ σm hJ hoff hdep
     have e1 := look_off (N := 44) (hoff 1 rfl) rfl
     exact dp_v (v := (I Cq)) wn (rv_move e1) rfl hJ) ?_
   refine ac rfl (by
     intro k _nm ρ σm hJ hoff hdep
     have e24 := hdep 12 rfl rfl 24 rfl
     have e25 := hdep 13 rfl rfl 25 rfl
     exact dp_v (v := (I (w64 (x30.2.1 - Cq)))) wn (rv_sub (a := x30.2.1) (b := Cq) e24 e25) rfl hJ) ?_
   refine ac rfl (by
     intro k _nm ρ σm hJ hoff hdep
     have e20 : look 44 ρ 20 = (.pointer a26) := hdep 8 rfl rfl 20 rfl
     have e26 : look 44 ρ 26 = (I (w64 (x30.2.1 - Cq))) := hdep 14 rfl rfl 26 rfl
     exact dp_v (v := (.agg #[(.pointer a26), (I (w64 (x30.2.1 - Cq)))])) wn (rv_build (ps := [(0, (.pointer a26)), (1, (I (w64 (x30.2.1 - Cq))))]) Tryz.underlying63 ti63 (bp63 Tryz.underlying63) (by show [(0, look 44 ρ 20), (1, look 44 ρ 26)] = _; rw [e20, e26]) (by kernel_rfl)) rfl hJ) ?_
   refine all_cons (by
     refine ⟨?_, ?_⟩
     ·intro _nm ρ σm hJ hoff hdep
      have e4 := look_off (N := 44) (hoff 4 rfl) rfl
      have e16 := hdep 4 rfl rfl 16 rfl
      obtain ⟨H, m⟩ := id hJ
      refine dp_exS wn rfl (ex_store_box (k := 0) (cs := [(.pointer none), (I 0)]) (vs := [(.pointer a17), (I 0)]) (cs' := [(.pointer a17), (I 0)]) H (i := 3) rfl ti63 e4 rfl e16 rfl rfl (Nat.le_of_ble_eq_true rfl) (by simp [plain]) rfl) ?_
      rintro σq ⟨H2, m2⟩
      exact ⟨_, (), rfl, ⟨H2.sel' [0, 1, 2, 3, 4] rfl rfl, m.comp m2⟩, stab [0, 1, 2, 3, 4, 5, 6, 7, 8, 9, 10, 11, 12, 13, 14, 15] (by kernel_rfl) ⟨rfl, rfl, rfl, rfl, rfl, rfl, rfl, rfl, rfl, rfl, rfl, rfl, rfl, rfl, rfl, rfl, trivial⟩⟩
     trivial) ?_
   exact all_nil
  ·intro _nm ρ σ36 hJ hoff hrel
   have e4 := look_off (N := 44) (hoff 4 rfl) rfl
   have e5 := look_off (N := 44) (hoff 5 rfl) rfl
   have e27 := hrel 15 rfl 27 rfl
   obtain ⟨H, -⟩ := (show Hp S0 σ0 σ36 [Ch.bx n0 b1 0 [(.pointer a17), (I 0)] [] [], Ch.pr 0 (.pointer a26) x21.2.2.2, Ch.pr 0 (.pointer a17) x12.2.2.1, Ch.bx n0 b3 0 [(.pointer none), (I 0)] [] [], Ch.pr 0 (.pointer Cr) Cp] ∧ Md (fun i => (cov []) i ∨ (fun i => i = b1) i) σ4 σ36 from hJ)
   clear hJ Hs
   rw [fr_lookL (L := [(4, (pt b1 0)), (5, (pt b3 0)), (27, (.agg #[(.pointer a26), (I (w64 (x30.2.1 - Cq)))]))]) ⟨e4, e5, e27, trivial⟩]
   clear hoff hrel e4 e5 e27
   refine st_exS (ex_store_box (k := 0) (cs := [(.pointer none), (I 0)]) (vs := [(.pointer a26), (I (w64 (x30.2.1 - Cq)))]) (cs' := [(.pointer a26), (I (w64 (x30.2.1 - Cq)))]) H (i := 3) rfl ti63 rfl rfl rfl rfl rfl (Nat.le_of_ble_eq_true rfl) (by simp [plain]) rfl) wn ?_
   rintro σ37 ⟨H, -⟩
   refine w_end (q_then (c_ret (q_then_r ?_)))
   obtain rfl := sj h
   exact fin_ret (v := (.tuple #[(.agg #[(.pointer a17), (I 0)]), (.agg #[(.pointer a26), (I (w64 (x30.2.1 - Cq)))])])) (results_ok Tryz.results38 (res_cell rfl (run_cellRes (cs := [(.pointer a17), (I 0)]) Tryz.underlying63 rfl ti63 rfl (H.cells 1 rfl)) (res_cell rfl (run_cellRes (cs := [(.pointer a26), (I (w64 (x30.2.1 - Cq)))]) Tryz.underlying63 rfl ti63 rfl (H.cells 0 rfl)) res_nil)) rfl) ⟨a17, a26, rfl, rfl⟩ (H.sel' [3, 2] rfl rfl)
 ·replace h := bif_f hb11 h
  refine c_skip (q_then (c_seq ?_))
  revert h; refine br fun x38 hx39 h => ?_
  obtain ⟨b41, o42, hi40⟩ := (H.pr 2 rfl).ex hx39
  obtain ⟨v46, hc45, hR44⟩ := ((H.pr 2 rfl).at hx39 hi40).snd.snd.snd.tree
  obtain ⟨a43, rfl⟩ := hR44.isPtr
  replace H := H.add (d := Ch.pr 0 (.pointer a43) x38.2.2.2) hR44 (fun _ h => h)
  clear hR44
  revert h; refine br fun x47 hx48 h => ?_
  obtain ⟨b50, o51, hi49⟩ := (H.pr 3 rfl).ex hx48
  obtain ⟨v55, hc54, hR53⟩ := ((H.pr 3 rfl).at hx48 hi49).snd.snd.fst.tree
  obtain ⟨a52, rfl⟩ := hR53.isPtr
  replace H := H.add (d := Ch.pr 0 (.pointer a52) x47.2.2.1) hR53 (fun _ h => h)
  clear hR53
  revert h; refine br fun x56 hx57 h => ?_
  obtain ⟨b59, o60, hi58⟩ := (H.pr 4 rfl).ex hx57
  have hc61 := ((H.pr 4 rfl).at hx57 hi58).snd.fst.int
  have Hs := H
  refine rg2 (σ := σ4) (Nm := Unit) 17 [16] [[false], [true]] [[(0, 0)], [(0, 0)], [(0, 0)], [(0, 0)], [(0, 0)], [(0, 0), (1, 1)], [(0, 0), (1, 1)], [(0, 0), (1, 1)], [(0, 0), (1, 1)], [(0, 0), (1, 1)], [(0, 0), (1, 1)], [(0, 0), (1, 1)], [(0, 0), (1, 1)], [(0, 0), (1, 1)], [(0, 0), (1, 1)], [(0, 0), (1, 1)], [(0, 1)]] 1 [fun _ => fun σm => Hp S0 σ0 σm [Ch.pr 0 (.pointer a52) x47.2.2.1, Ch.pr 0 (.pointer a43) x38.2.2.2, Ch.bx n0 b3 0 [(.pointer none), (I 0)] [] [], Ch.bx n0 b1 0 [(.pointer none), (I 0)] [] [], Ch.pr 0 (.pointer Cr) Cp] ∧ Md (cov []) σ4 σm, fun _ => fun σm => Hp S0 σ0 σm [Ch.bx n0 b1 0 [(.pointer a43), (I 0)] [] [], Ch.pr 0 (.pointer a52) x47.2.2.1, Ch.pr 0 (.pointer a43) x38.2.2.2, Ch.bx n0 b3 0 [(.pointer none), (I 0)] [] [], Ch.pr 0 (.pointer Cr) Cp] ∧ Md (fun i => (cov []) i ∨ (fun i => i = b1) i) σ4 σm] [fun _ => (.pointer Cr), fun _ => (pt b41 o42), fun _ => (pt b41 (o42 + 5)), fun _ => (.pointer a43), fun _ => (.agg #[(.pointer a43), (I 0)]), fun _ => (.pointer Cr), fun _ => (pt b50 o51), fun _ => (pt b50 (o51 + 4)), fun _ => (.pointer a52), fun _ => (I Cq), fun _ => (.pointer Cr), fun _ => (pt b59 o60), fun _ => (pt b59 (o60 + 3)), fun _ => (I x56.2.1), fun _ => (I (w64 (Cq - x56.2.1))), fun _ => (.agg #[(.pointer a52), (I (w64 (Cq - x56.2.1)))]), fun _ => undef] () (by kernel_rfl) (by kernel_rfl) ?_ ?_ ?_
  ·intro σm m0
   exact ⟨H.grow (m0.mono fun _ h => h.elim), m0⟩
  ·refine ac rfl (by
     intro k _nm ρ σm hJ hoff hdep
     have e0 := look_off (N := 44) (hoff 0 rfl) rfl
     exact dp_v (v := (.pointer Cr)) wn (rv_move e0) rfl hJ) ?_
   refine ac rfl (by
     intro k _nm ρ σm hJ hoff hdep
     have e28 := hdep 0 rfl rfl 28 rfl
     exact dp_v (v := (pt b41 o42)) wn (rv_nilCheckT hi40 e28) rfl hJ) ?_
   refine ac rfl (by
     intro k _nm ρ σm hJ hoff hdep
     have e29 := hdep 1 rfl rfl 29 rfl
     exact dp_v (v := (pt b41 (o42 + 5))) wn (rv_fieldAddr (off := 5) (ft := 39) Tryz.underlying68 rfl ti39 rfl e29) rfl hJ) ?_
   refine all_cons (by
     refine ⟨?_, ?_⟩
     ·intro _nm ρ σm hJ hoff hdep
      have e30 := hdep 2 rfl rfl 30 rfl
      obtain ⟨H, m⟩ := id hJ
      replace hc45 := (Hs.pr 4 rfl).hmd hx39 hi40 (k := 5) (by decide) hc45 m
      exact dp_v (v := (.pointer a43)) wn (rv_load1 Tryz.underlying39 rfl e30 hc45) rfl hJ
     trivial) ?_
   refine ac rfl (by
     intro k _nm ρ σm hJ hoff hdep
     have e31 : look 44 ρ 31 = (.pointer a43) := hdep 3 rfl rfl 31 rfl
     exact dp_v (v := (.agg #[(.pointer a43), (I 0)])) wn (rv_build (ps := [(0, (.pointer a43))]) Tryz.underlying63 ti63 (bp63 Tryz.underlying63) (by show [(0, look 44 ρ 31)] = _; rw [e31]) (by kernel_rfl)) rfl hJ) ?_
   refine ac rfl (by
     intro k _nm ρ σm hJ hoff hdep
     have e0 := look_off (N := 44) (hoff 0 rfl) rfl
     exact dp_v (v := (.pointer Cr)) wn (rv_move e0) rfl hJ) ?_
   refine ac rfl (by
     intro k _nm ρ σm hJ hoff hdep
     have e33 := hdep 5 rfl rfl 33 rfl
     exact dp_v (v := (pt b50 o51)) wn (rv_nilCheckT hi49 e33) rfl hJ) ?_
   refine ac rfl (by
     intro k _nm ρ σm hJ hoff hdep
     have e34 := hdep 6 rfl rfl 34 rfl
     exact dp_v (v := (pt b50 (o51 + 4))) wn (rv_fieldAddr (off := 4) (ft := 39) Tryz.underlying68 rfl ti39 rfl e34) rfl hJ) ?_
   refine all_cons (by
     refine ⟨?_, ?_⟩
     ·intro _nm ρ σm hJ hoff hdep
      have e35 := hdep 7 rfl rfl 35 rfl
      obtain ⟨H, m⟩ := id hJ
      replace hc54 := (Hs.pr 4 rfl).hmd hx48 hi49 (k := 4) (by decide) hc54 m
      exact dp_v (v := (.pointer a52)) wn (rv_load1 Tryz.underlying39 rfl e35 hc54) rfl hJ
     refine ⟨?_, ?_⟩
     ·intro _nm ρ σm hJ hoff hdep
      have e35 := hdep 7 rfl rfl 35 rfl
      obtain ⟨H, m⟩ := id hJ
      replace hc54 := (Hs.pr 4 rfl).hmd hx48 hi49 (k := 4) (by decide) hc54 m
      exact dp_v (v := (.pointer a52)) wn (rv_load1 Tryz.underlying39 rfl e35 hc54) rfl hJ
     trivial) ?_
   refine ac rfl (by
     intro k _nm ρ σm hJ hoff hdep
     have e1 := look_off (N := 44) (hoff 1 rfl) rfl
     exact dp_v (v := (I Cq)) wn (rv_move e1) rfl hJ) ?_
   refine ac rfl (by
     intro k _nm ρ σm hJ hoff hdep
     have e0 := look_off (N := 44) (hoff 0 rfl) rfl
     exact dp_v (v := (.pointer Cr)) wn (rv_move e0) rfl hJ) ?_
   refine ac rfl (by
     intro k _nm ρ σm hJ hoff hdep
     have e38 := hdep 10 rfl rfl 38 rfl
     exact dp_v (v := (pt b59 o60)) wn (rv_nilCheckT hi58 e38) rfl hJ) ?_
   refine ac rfl (by
     intro k _nm ρ σm hJ hoff hdep
     have e39 := hdep 11 rfl rfl 39 rfl
     exact dp_v (v := (pt b59 (o60 + 3))) wn (rv_fieldAddr (off := 3) (ft := 3) Tryz.underlying68 rfl ti3 rfl e39) rfl hJ) ?_
   refine all_cons (by
     refine ⟨?_, ?_⟩
     ·intro _nm ρ σm hJ hoff hdep
      have e40 := hdep 12 rfl rfl 40 rfl
      obtain ⟨H, m⟩ := id hJ
      replace hc61 := (Hs.pr 4 rfl).hmd hx57 hi58 (k := 3) (by decide) hc61 m
      exact dp_v (v := (I x56.2.1)) wn (rv_load1 Tryz.underlying3 rfl e40 hc61) rfl hJ
     refine ⟨?_, ?_⟩
     ·intro _nm ρ σm hJ hoff hdep
      have e40 := hdep 12 rfl rfl 40 rfl
      obtain ⟨H, m⟩ := id hJ
      replace hc61 := (Hs.pr 4 rfl).hmd hx57 hi58 (k := 3) (by decide) hc61 m
      exact dp_v (v := (I x56.2.1)) wn (rv_load1 Tryz.underlying3 rfl e40 hc61) rfl hJ
     trivial) ?_
   refine ac rfl (by
     intro k _nm ρ σm hJ hoff hdep
     have e37 := hdep 9 rfl rfl 37 rfl
     have e41 := hdep 13 rfl rfl 41 rfl
     exact dp_v (v := (I (w64 (Cq - x56.2.1)))) wn (rv_sub (a := Cq) (b := x56.2.1) e37 e41) rfl hJ) ?_
   refine ac rfl (by
     intro k _nm ρ σm hJ hoff hdep
     have e36 : look 44 ρ 36 = (.pointer a52) := hdep 8 rfl rfl 36 rfl
     have e42 : look 44 ρ 42 = (I (w64 (Cq - x56.2.1))) := hdep 14 rfl rfl 42 rfl
     exact dp_v (v := (.agg #[(.pointer a52), (I (w64 (Cq - x56.2.1)))])) wn (rv_build (ps := [(0, (.pointer a52)), (1, (I (w64 (Cq - x56.2.1))))]) Tryz.underlying63 ti63 (bp63 Tryz.underlying63) (by show [(0, look 44 ρ 36), (1, look 44 ρ 42)] = _; rw [e36, e42]) (by kernel_rfl)) rfl hJ) ?_
   refine all_cons (by
     refine ⟨?_, ?_⟩
     ·intro _nm ρ σm hJ hoff hdep
      have e4 := look_off (N := 44) (hoff 4 rfl) rfl
      have e32 := hdep 4 rfl rfl 32 rfl
      obtain ⟨H, m⟩ := id hJ
      refine dp_exS wn rfl (ex_store_box (k := 0) (cs := [(.pointer none), (I 0)]) (vs := [(.pointer a43), (I 0)]) (cs' := [(.pointer a43), (I 0)]) H (i := 3) rfl ti63 e4 rfl e32 rfl rfl (Nat.le_of_ble_eq_true rfl) (by simp [plain]) rfl) ?_
      rintro σq ⟨H2, m2⟩
      exact ⟨_, (), rfl, ⟨H2.sel' [0, 1, 2, 3, 4] rfl rfl, m.comp m2⟩, stab [0, 1, 2, 3, 4, 5, 6, 7, 8, 9, 10, 11, 12, 13, 14, 15] (by kernel_rfl) ⟨rfl, rfl, rfl, rfl, rfl, rfl, rfl, rfl, rfl, rfl, rfl, rfl, rfl, rfl, rfl, rfl, trivial⟩⟩
     trivial) ?_
   exact all_nil
  ·intro _nm ρ σ62 hJ hoff hrel
   have e4 := look_off (N := 44) (hoff 4 rfl) rfl
   have e5 := look_off (N := 44) (hoff 5 rfl) rfl
   have e43 := hrel 15 rfl 43 rfl
   obtain ⟨H, -⟩ := (show Hp S0 σ0 σ62 [Ch.bx n0 b1 0 [(.pointer a43), (I 0)] [] [], Ch.pr 0 (.pointer a52) x47.2.2.1, Ch.pr 0 (.pointer a43) x38.2.2.2, Ch.bx n0 b3 0 [(.pointer none), (I 0)] [] [], Ch.pr 0 (.pointer Cr) Cp] ∧ Md (fun i => (cov []) i ∨ (fun i => i = b1) i) σ4 σ62 from hJ)
   clear hJ Hs
   rw [fr_lookL (L := [(4, (pt b1 0)), (5, (pt b3 0)), (43, (.agg #[(.pointer a52), (I (w64 (Cq - x56.2.1)))]))]) ⟨e4, e5, e43, trivial⟩]
   clear hoff hrel e4 e5 e43
   refine st_exS (ex_store_box (k := 0) (cs := [(.pointer none), (I 0)]) (vs := [(.pointer a52), (I (w64 (Cq - x56.2.1)))]) (cs' := [(.pointer a52), (I (w64 (Cq - x56.2.1)))]) H (i := 3) rfl ti63 rfl rfl rfl rfl rfl (Nat.le_of_ble_eq_true rfl) (by simp [plain]) rfl) wn ?_
   rintro σ63 ⟨H, -⟩
   refine w_end (q_then (c_ret ?_))
   obtain rfl := sj h
   exact fin_ret (v := (.tuple #[(.agg #[(.pointer a43), (I 0)]), (.agg #[(.pointer a52), (I (w64 (Cq - x56.2.1)))])])) (results_ok Tryz.results38 (res_cell rfl (run_cellRes (cs := [(.pointer a43), (I 0)]) Tryz.underlying63 rfl ti63 rfl (H.cells 1 rfl)) (res_cell rfl (run_cellRes (cs := [(.pointer a52), (I (w64 (Cq - x56.2.1)))]) Tryz.underlying63 rfl ti63 rfl (H.cells 0 rfl)) res_nil)) rfl) ⟨a43, a52, rfl, rfl⟩ (H.sel' [3, 2] rfl rfl)

theorem c_impl_nearestHits_reach {Ce : Int × (List (Int × Int))} {Cg : Option Addr} {Ci : Nat} {Cj Ck Cl : Nat} {Cm Cn : List Value} {r : Int} (h : M.impl_nearestHits_reach Ce = some r) :
    Cal2 Tryz.prog 35 [(pt Ck Cl)] [Ch.bx Cj Ck Cl [(I Ce.1), (Sl Cg Ce.2 Ci)] Cm Cn, Ch.own 0 0 (Sl Cg Ce.2 Ci) Ce.2] (fun n0 v L => v = (I r) ∧ L = [Ch.bx Cj Ck Cl [(I Ce.1), (Sl Cg Ce.2 Ci)] Cm Cn, Ch.own 0 0 (Sl Cg Ce.2 Ci) Ce.2]) := by
 refine cal2 (n := 20) Tryz.func35 rfl rfl rfl rfl ?_
 intro S0 σ0 n0 hn0 H
 unfold M.impl_nearestHits_reach at h
 refine c_seq (rg (sa (I 0) rfl (w_end (q_then (c_seq (c_seq ?_))))))
 refine rgP (σ := σ0) 9 (by kernel_rfl) (by kernel_rfl) (by kernel_rfl) ?_
 refine sq (v := (pt Ck Cl)) (rv_move rfl) (sq (v := (pt Ck Cl)) (rv_nilCheck rfl) (sq (v := (pt Ck (Cl + 1))) (rv_fieldAddr (off := 1) (ft := 34) Tryz.underlying36 rfl ti34 rfl rfl) ?_))
 have hc1 := H.cell (u := (Sl Cg Ce.2 Ci)) (o' := (Cl + 1)) 0 1 rfl rfl rfl
 refine sq (v := (Sl Cg Ce.2 Ci)) (rv_load1 Tryz.underlying34 rfl rfl hc1) (sq (v := (I (Ce.2.length : Int))) (rv_len Tryz.underlying34 rfl) (sq (v := (pt Ck Cl)) (rv_move rfl) (sq (v := (pt Ck Cl)) (rv_nilCheck rfl) (sq (v := (pt Ck Cl)) (rv_fieldAddr (off := 0) (ft := 3) Tryz.underlying36 rfl ti3 rfl rfl) ?_))))
 have hc2 := H.cell (u := (I Ce.1)) (o' := Cl) 0 0 rfl rfl rfl
 refine sq (v := (I Ce.1)) (rv_load1 Tryz.underlying3 rfl rfl hc2) (sq_end ?_)
 intro σ3 hm4
 replace H := H.grow (hm4.mono fun _ h => h); clear hm4
 refine st (v := (B (decide ((Ce.2.length : Int) < Ce.1)))) (rv_lss (a := (Ce.2.length : Int)) (b := Ce.1) rfl rfl) (w_end (q_then ?_))
 refine cd_cond (decide ((Ce.2.length : Int) < Ce.1)) rfl (fun hb5 => ?_) (fun hb5 => ?_)
 ·replace h := bif_t hb5 h
  refine c_seq (rg (sa (I 1000000) rfl (w_end (q_then (c_ret (q_then_r ?_))))))
  obtain rfl := sj h
  exact fin_ret (v := (I 1000000)) (results_ok Tryz.results35 (res_tmp (v := (I 1000000)) rfl res_nil) rfl) ⟨rfl, rfl⟩ (H.sel' [0, 1] rfl rfl)
 ·replace h := bif_f hb5 h
  refine c_skip (q_then (c_seq (rg (sm (pt Ck Cl) rfl (st (v := (pt Ck Cl)) (rv_nilCheck rfl) (st (v := (pt Ck (Cl + 1))) (rv_fieldAddr (off := 1) (ft := 34) Tryz.underlying36 rfl ti34 rfl rfl) ?_))))))
  have hc6 := H.cell (u := (Sl Cg Ce.2 Ci)) (o' := (Cl + 1)) 0 1 rfl rfl rfl
  refine st (v := (Sl Cg Ce.2 Ci)) (rv_load1 Tryz.underlying34 rfl rfl hc6) ?_
  revert h; refine br fun x7 hx8 h => ?_
  obtain ⟨b10, o11, hi9, -⟩ := (H.own 1 rfl).ix hx8
  refine st (v := (pt b10 o11)) (rv_ix Tryz.underlying34 ti43 rfl rfl hi9) (st (v := (pt b10 (o11 + 1))) (rv_fieldAddr (off := 1) (ft := 3) Tryz.underlying43 rfl ti3 rfl rfl) ?_)
  have hc12 := ((H.own 1 rfl).at hx8 hi9).snd.int
  refine st (v := (I x7.2)) (rv_load1 Tryz.underlying3 rfl rfl hc12) (sa (I x7.2) rfl (w_end (q_then (c_ret ?_))))
  obtain rfl := sj h
  exact fin_ret (v := (I x7.2)) (results_ok Tryz.results35 (res_tmp (v := (I x7.2)) rfl res_nil) rfl) ⟨rfl, rfl⟩ (H.sel' [0, 1] rfl rfl)

theorem c_impl_searchTree {Cs : Tr (Int × (List Int) × Int)} {Au : Int} {Av : List Int} {Aw : Int} {Ct : Option Addr} {Ax : Option Addr} {Ay : Nat} {r : (Int × (List (Int × Int))) × Int} (h : M.impl_searchTree Cs Au Av Aw = some r) :
    Cal2 Tryz.prog 16 [(.pointer Ct), (I Au), (Sl Ax Av Ay), (I Aw)] [Ch.pr 0 (.pointer Ct) Cs, Ch.ro 0 (Sl Ax Av Ay) Av] (fun n0 v L => ∃ (az1 : Option Addr), ∃ (cz2 : Nat), v = (.tuple #[(.agg #[(I r.1.1), (Sl az1 r.1.2 cz2)]), (I r.2)]) ∧ L = [Ch.own 0 n0 (Sl az1 r.1.2 cz2) r.1.2]) := by
 refine cal2 (n := 72) Tryz.func16 rfl rfl rfl rfl ?_
 intro S0 σ0 n0 hn0 H
 unfold M.impl_searchTree at h
 refine c_seq (rg (st_ex (ex_alloc (cs := [(I 0), (.slice none 0 0)]) H hn0 ti36 rfl) wn ?_))
 rintro _ σ2 ⟨b1, rfl, H, -⟩
 refine sa (I 0) rfl (w_end (q_then (c_seq (rg (sm (I Aw) rfl ?_)))))
 refine st (v := (.agg #[(I Aw), (.slice none 0 0)])) (rv_build (ps := [(0, (I Aw))]) Tryz.underlying36 ti36 (bp36 Tryz.underlying36) rfl (by kernel_rfl)) ?_
 refine st_ex (ex_alloc (cs := [(I 0), (.slice none 0 0)]) H hn0 ti36 rfl) wn ?_
 rintro _ σ4 ⟨b3, rfl, H, -⟩
 refine st_exS (ex_store_box (k := 0) (cs := [(I 0), (.slice none 0 0)]) (vs := [(I Aw), (.slice none 0 0)]) (cs' := [(I Aw), (.slice none 0 0)]) H (i := 0) rfl ti36 rfl rfl rfl rfl rfl (Nat.le_of_ble_eq_true rfl) (by simp [plain]) rfl) wn ?_
 rintro σ5 ⟨H, -⟩
 refine sa (I 0) rfl (w_end (q_then (c_seq (rg (sm (.pointer Ct) rfl ?_)))))
 refine st (v := (.agg #[(.pointer Ct), (I 0)])) (rv_build (ps := [(0, (.pointer Ct))]) Tryz.underlying63 ti63 (bp63 Tryz.underlying63) rfl (by kernel_rfl)) ?_
 refine st_ex (ex_buildSlice (el := 0) (xs := ([(Cs, 0)] : List ((Tr (Int × (List Int) × Int)) × Int))) (ps := [(0, (.agg #[(.pointer Ct), (I 0)]))]) (cs := [(.pointer Ct), (I 0)]) H hn0 Tryz.underlying64 ti63 rfl rfl (by kernel_rfl) (.cons (c := [(.pointer Ct), (I 0)]) ⟨[(.pointer Ct)], [(I 0)], rfl, ⟨_, rfl, (H.pr 2 rfl)⟩, rfl⟩ (.nil)) rfl) wn ?_
 rintro _ σ7 ⟨b6, rfl, H, -⟩
 refine sa (Sl (some ⟨b6, 0, none⟩) ([(Cs, 0)] : List ((Tr (Int × (List Int) × Int)) × Int)) 1) rfl (w_end (q_then (c_seq ?_)))
 obtain ⟨o8, hj, h'⟩ := bind_some h
 clear h
 refine c_cut (fun e a w => e = .normal ∧ ∃ (ρ : Nat → Value) (σ : St) (aj1 : Option Addr) (cj2 : Nat), a = fr 72 (updL ρ [(8, (pt b1 0)), (10, (pt b3 0)), (11, (I o8.2))]) ∧ w = σ.w ∧ Hp S0 σ0 σ [Ch.bx n0 b3 0 [(I o8.1.1), (Sl aj1 o8.1.2 cj2)] [] [], Ch.own 0 0 (Sl aj1 o8.1.2 cj2) o8.1.2, Ch.bx n0 b1 0 [(I 0), (.slice none 0 0)] [] []]) ?_ ?_
 ·clear h'
  rename _ = some o8 => h
  refine c_blk ?_
  replace H := H.nilOwn (Int × Int) 0 0
  refine wp_loopM _ h (fun s9 a w => ∃ (ρ : Nat → Value) (σ : St) (aj1 : Option Addr) (cj2 : Nat) (aj3 : Option Addr) (cj4 : Nat), a = fr 72 (updL ρ [(1, (I Au)), (2, (Sl Ax Av Ay)), (8, (pt b1 0)), (10, (pt b3 0)), (11, (I s9.2.1)), (12, (Sl aj3 s9.2.2 cj4))]) ∧ w = σ.w ∧ Hp S0 σ0 σ [Ch.bx n0 b3 0 [(I s9.1.1), (Sl aj1 s9.1.2 cj2)] [] [], Ch.own 0 0 (Sl aj1 s9.1.2 cj2) s9.1.2, Ch.ro 0 (Sl Ax Av Ay) Av, Ch.bx n0 b1 0 [(I 0), (.slice none 0 0)] [] [], Ch.own n0 0 (Sl aj3 s9.2.2 cj4) s9.2.2]) ⟨_, σ7, none, 0, (some ⟨b6, 0, none⟩), 1, fr_join ⟨rfl, rfl, rfl, rfl, rfl, rfl, trivial⟩, rfl, H.sel' [2, 0, 5, 3, 1] rfl rfl⟩ ?_
  clear h H
  rintro s9 a w o ⟨ρ, σ10, a11, c12, a13, c14, rfl, rfl, H⟩ h hres
  refine c_seq (c_seq (rg (sm (Sl a13 s9.2.2 c14) rfl (st (v := (I (s9.2.2.length : Int))) (rv_len Tryz.underlying64 rfl) (st (v := (B (decide (0 < (s9.2.2.length : Int))))) (rv_gtr (a := (s9.2.2.length : Int)) (b := 0) rfl rfl) (w_end (q_then ?_)))))))
  refine cd_cond (decide (0 < (s9.2.2.length : Int))) rfl (fun hb15 => ?_) (fun hb15 => ?_)
  ·replace h := bif_t hb15 h
   refine c_skip (q_then (c_blk (c_seq (rg (sm (Sl a13 s9.2.2 c14) rfl (sm (Sl a13 s9.2.2 c14) rfl (st (v := (I (s9.2.2.length : Int))) (rv_len Tryz.underlying64 rfl) (st (v := (I (w64 ((s9.2.2.length : Int) - 1)))) (rv_sub (a := (s9.2.2.length : Int)) (b := 1) rfl rfl) ?_))))))))
   revert h; refine br fun x16 hx17 h => ?_
   obtain ⟨b19, o20, hi18, -⟩ := (H.own 4 rfl).ix hx17
   refine st (v := (pt b19 o20)) (rv_ix Tryz.underlying64 ti63 rfl rfl hi18) ?_
   obtain ⟨_, ⟨_, _, rfl, ⟨_, rfl, hR24⟩, rfl⟩, hl21, hc22⟩ := ((H.own 4 rfl).at hx17 hi18).cells
   obtain ⟨a23, rfl⟩ := hR24.isPtr
   replace H := H.add (d := Ch.pr 0 (.pointer a23) x16.1) hR24 (fun _ h => h)
   clear hR24
   refine st (v := (.agg #[(.pointer a23), (I x16.2)])) (rv_load Tryz.underlying63 rfl ti63 rfl hl21 hc22) (st_ex (ex_alloc (cs := [(.pointer none), (I 0)]) H hn0 ti63 rfl) wn ?_)
   rintro _ σ26 ⟨b25, rfl, H, -⟩
   refine st_exS (ex_store_box (k := 0) (cs := [(.pointer none), (I 0)]) (vs := [(.pointer a23), (I x16.2)]) (cs' := [(.pointer a23), (I x16.2)]) H (i := 0) rfl ti63 rfl rfl rfl rfl rfl (Nat.le_of_ble_eq_true rfl) (by simp [plain]) rfl) wn ?_
   rintro σ27 ⟨H, -⟩
   refine w_end (q_then (c_seq (rg (sm (Sl a13 s9.2.2 c14) rfl (sm (Sl a13 s9.2.2 c14) rfl (st (v := (I (s9.2.2.length : Int))) (rv_len Tryz.underlying64 rfl) (st (v := (I (w64 ((s9.2.2.length : Int) - 1)))) (rv_sub (a := (s9.2.2.length : Int)) (b := 1) rfl rfl) ?_)))))))
   revert h; refine br fun xs28 hx29 h => ?_
   obtain ⟨a30, c31, hs32, hR33, hb34⟩ := (H.own 6 rfl).slice hx29
   replace H := (H.front (i := 6) rfl).turn (d := Ch.own n0 0 (Sl a30 xs28 c31) xs28) (fun _ => hR33) hb34; clear hR33 hb34
   refine st (v := (Sl a30 xs28 c31)) (rv_slice_h Tryz.underlying64 ti63 hs32 rfl rfl) (sa (Sl a30 xs28 c31) rfl (w_end (q_then (c_seq (c_seq ?_)))))
   obtain ⟨o35, hj, h'⟩ := bind_some h
   clear h
   refine c_cut (fun e a w => e = .normal ∧ ∃ (ρ : Nat → Value) (σ : St), a = fr 72 (updL ρ [(1, (I Au)), (2, (Sl Ax Av Ay)), (8, (pt b1 0)), (10, (pt b3 0)), (11, (I s9.2.1)), (12, (Sl a30 xs28 c31)), (13, (pt b25 0)), (44, (B o35))]) ∧ w = σ.w ∧ Hp S0 σ0 σ [Ch.ro 0 (Sl Ax Av Ay) Av, Ch.bx n0 b1 0 [(I 0), (.slice none 0 0)] [] [], Ch.own 0 0 (Sl a11 s9.1.2 c12) s9.1.2, Ch.bx n0 b3 0 [(I s9.1.1), (Sl a11 s9.1.2 c12)] [] [], Ch.own n0 0 (Sl a30 xs28 c31) xs28, Ch.pr 0 (.pointer a23) x16.1, Ch.bx n0 b25 0 [(.pointer a23), (I x16.2)] [] []]) ?_ ?_
   ·clear h'
    rename _ = some o35 => h
    have hc36 := H.cell (u := (.pointer a23)) (o' := 0) 1 0 rfl rfl rfl
    rcases Bool.eq_false_or_eq_true x16.1.isNil with hb37 | hb37
    ·replace h := bif_t hb37 h
     have Hs := H
     refine rg2 (σ := σ27) (Nm := Unit) 7 [] [[]] [[(0, 0)], [(0, 0)], [(0, 0)], [(0, 0)], [(0, 0)], [(0, 0)], [(0, 0)]] 0 [fun _ => fun σm => Hp S0 σ0 σm [Ch.own n0 0 (Sl a30 xs28 c31) xs28, Ch.bx n0 b25 0 [(.pointer a23), (I x16.2)] [] [], Ch.pr 0 (.pointer a23) x16.1, Ch.bx n0 b3 0 [(I s9.1.1), (Sl a11 s9.1.2 c12)] [] [], Ch.own 0 0 (Sl a11 s9.1.2 c12) s9.1.2, Ch.ro 0 (Sl Ax Av Ay) Av, Ch.bx n0 b1 0 [(I 0), (.slice none 0 0)] [] []] ∧ Md (cov []) σ27 σm] [fun _ => (pt b25 0), fun _ => (.pointer a23), fun _ => (B x16.1.isNil), fun _ => (B x16.1.isNil), fun _ => undef, fun _ => undef, fun _ => undef] () (by kernel_rfl) (by kernel_rfl) ?_ ?_ ?_
     ·intro σm m0
      exact ⟨H.grow (m0.mono fun _ h => h.elim), m0⟩
     ·refine ac rfl (by
        intro k _nm ρ σm hJ hoff hdep
        have e13 := look_off (N := 72) (hoff 13 rfl) rfl
        exact dp_v (v := (pt b25 0)) wn (rv_fieldAddr (off := 0) (ft := 39) Tryz.underlying63 rfl ti39 rfl e13) rfl hJ) ?_
      refine all_cons (by
        refine ⟨?_, ?_⟩
        ·intro _nm ρ σm hJ hoff hdep
         have e36 := hdep 0 rfl rfl 36 rfl
         obtain ⟨H, m⟩ := id hJ
         have hc36 := H.cell (u := (.pointer a23)) (o' := 0) 1 0 rfl rfl rfl
         exact dp_v (v := (.pointer a23)) wn (rv_load1 Tryz.underlying39 rfl e36 hc36) rfl hJ
        trivial) ?_
      refine ac rfl (by
        intro k _nm ρ σm hJ hoff hdep
        have e37 := hdep 1 rfl rfl 37 rfl
        exact dp_v (v := (B x16.1.isNil)) wn (rv_eqlNil Tryz.underlying39 (H.pr 2 rfl) e37 rfl) rfl hJ) ?_
      refine ac rfl (by
        intro k _nm ρ σm hJ hoff hdep
        have e38 := hdep 2 rfl rfl 38 rfl
        exact dp_v (v := (B x16.1.isNil)) wn (rv_move e38) rfl hJ) ?_
      refine ac rfl (by
        intro k _nm ρ σm hJ hoff hdep
        have e39 := hdep 3 rfl rfl 39 rfl
        exact dp_skip (wanted_no rfl (yv_of rfl (e39.trans (congrArg B hb37)))) rfl hJ) ?_
      refine ac rfl (by
        intro k _nm ρ σm hJ hoff hdep
        have e39 := hdep 3 rfl rfl 39 rfl
        exact dp_skip (wanted_no rfl (yv_of rfl (e39.trans (congrArg B hb37)))) rfl hJ) ?_
      refine ac rfl (by
        intro k _nm ρ σm hJ hoff hdep
        have e39 := hdep 3 rfl rfl 39 rfl
        exact dp_skip (wanted_no rfl (yv_of rfl (e39.trans (congrArg B hb37)))) rfl hJ) ?_
      exact all_nil
     ·intro _nm ρ σ38 hJ hoff hrel
      have e1 := look_off (N := 72) (hoff 1 rfl) rfl
      have e2 := look_off (N := 72) (hoff 2 rfl) rfl
      have e8 := look_off (N := 72) (hoff 8 rfl) rfl
      have e10 := look_off (N := 72) (hoff 10 rfl) rfl
      have e11 := look_off (N := 72) (hoff 11 rfl) rfl
      have e12 := look_off (N := 72) (hoff 12 rfl) rfl
      have e13 := look_off (N := 72) (hoff 13 rfl) rfl
      have e39 := hrel 3 rfl 39 rfl
      have e41 := hrel 5 rfl 41 rfl
      have e42 := hrel 6 rfl 42 rfl
      obtain ⟨H, -⟩ := (show Hp S0 σ0 σ38 [Ch.own n0 0 (Sl a30 xs28 c31) xs28, Ch.bx n0 b25 0 [(.pointer a23), (I x16.2)] [] [], Ch.pr 0 (.pointer a23) x16.1, Ch.bx n0 b3 0 [(I s9.1.1), (Sl a11 s9.1.2 c12)] [] [], Ch.own 0 0 (Sl a11 s9.1.2 c12) s9.1.2, Ch.ro 0 (Sl Ax Av Ay) Av, Ch.bx n0 b1 0 [(I 0), (.slice none 0 0)] [] []] ∧ Md (cov []) σ27 σ38 from hJ)
      clear hJ Hs
      rw [fr_lookL (L := [(1, (I Au)), (2, (Sl Ax Av Ay)), (8, (pt b1 0)), (10, (pt b3 0)), (11, (I s9.2.1)), (12, (Sl a30 xs28 c31)), (13, (pt b25 0)), (39, (B x16.1.isNil)), (41, undef), (42, undef)]) ⟨e1, e2, e8, e10, e11, e12, e13, e39, e41, e42, trivial⟩]
      clear hoff hrel e1 e2 e8 e10 e11 e12 e13 e39 e41 e42
      refine st_skip (congrArg some hb37) (st (v := (B true)) (rv_pick_t (congrArg B hb37) rfl) (w_end ?_))
      obtain rfl := sj h
      exact ⟨rfl, _, σ38, fr_join ⟨rfl, rfl, rfl, rfl, rfl, rfl, rfl, rfl, trivial⟩, rfl, H.sel' [5, 6, 4, 3, 0, 2, 1] rfl rfl⟩
    ·replace h := bif_f hb37 h
     have hc39 := H.cell (u := (I x16.2)) (o' := 1) 1 1 rfl rfl rfl
     revert h; refine br fun r40 hx41 h => ?_
     have hc42 := c_impl_nearestHits_reach (Cj := n0) (Ck := b3) (Cl := 0) (Cm := []) (Cn := []) (Cg := a11) (Ci := c12) hx41
     have Hs := H
     refine rg2 (σ := σ27) (Nm := Unit) 7 [6] [[false], [true]] [[(0, 0)], [(0, 0)], [(0, 0)], [(0, 0)], [(0, 0), (1, 1)], [(0, 0), (1, 1)], [(0, 1)]] 1 [fun _ => fun σm => Hp S0 σ0 σm [Ch.own n0 0 (Sl a30 xs28 c31) xs28, Ch.bx n0 b25 0 [(.pointer a23), (I x16.2)] [] [], Ch.pr 0 (.pointer a23) x16.1, Ch.bx n0 b3 0 [(I s9.1.1), (Sl a11 s9.1.2 c12)] [] [], Ch.own 0 0 (Sl a11 s9.1.2 c12) s9.1.2, Ch.ro 0 (Sl Ax Av Ay) Av, Ch.bx n0 b1 0 [(I 0), (.slice none 0 0)] [] []] ∧ Md (cov []) σ27 σm, fun _ => fun σm => Hp S0 σ0 σm [Ch.bx n0 b3 0 [(I s9.1.1), (Sl a11 s9.1.2 c12)] [] [], Ch.own 0 0 (Sl a11 s9.1.2 c12) s9.1.2, Ch.own n0 0 (Sl a30 xs28 c31) xs28, Ch.bx n0 b25 0 [(.pointer a23), (I x16.2)] [] [], Ch.pr 0 (.pointer a23) x16.1, Ch.ro 0 (Sl Ax Av Ay) Av, Ch.bx n0 b1 0 [(I 0), (.slice none 0 0)] [] []] ∧ Md (fun i => (cov []) i ∨ (cov [Ch.bx n0 b3 0 [(I s9.1.1), (Sl a11 s9.1.2 c12)] [] [], Ch.own 0 0 (Sl a11 s9.1.2 c12) s9.1.2]) i) σ27 σm] [fun _ => (pt b25 0), fun _ => (.pointer a23), fun _ => (B x16.1.isNil), fun _ => (B x16.1.isNil), fun _ => (pt b25 1), fun _ => (I x16.2), fun _ => (I r40)] () (by kernel_rfl) (by kernel_rfl) ?_ ?_ ?_
     ·intro σm m0
      exact ⟨H.grow (m0.mono fun _ h => h.elim), m0⟩
     ·refine ac rfl (by
        intro k _nm ρ σm hJ hoff hdep
        have e13 := look_off (N := 72) (hoff 13 rfl) rfl
        exact dp_v (v := (pt b25 0)) wn (rv_fieldAddr (off := 0) (ft := 39) Tryz.underlying63 rfl ti39 rfl e13) rfl hJ) ?_
      refine all_cons (by
        refine ⟨?_, ?_⟩
        ·intro _nm ρ σm hJ hoff hdep
         have e36 := hdep 0 rfl rfl 36 rfl
         obtain ⟨H, m⟩ := id hJ
         have hc36 := H.cell (u := (.pointer a23)) (o' := 0) 1 0 rfl rfl rfl
         exact dp_v (v := (.pointer a23)) wn (rv_load1 Tryz.underlying39 rfl e36 hc36) rfl hJ
        trivial) ?_
      refine ac rfl (by
        intro k _nm ρ σm hJ hoff hdep
        have e37 := hdep 1 rfl rfl 37 rfl
        exact dp_v (v := (B x16.1.isNil)) wn (rv_eqlNil Tryz.underlying39 (H.pr 2 rfl) e37 rfl) rfl hJ) ?_
      refine ac rfl (by
        intro k _nm ρ σm hJ hoff hdep
        have e38 := hdep 2 rfl rfl 38 rfl
        exact dp_v (v := (B x16.1.isNil)) wn (rv_move e38) rfl hJ) ?_
      refine ac rfl (by
        intro k _nm ρ σm hJ hoff hdep
        have e13 := look_off (N := 72) (hoff 13 rfl) rfl
        have e39 := hdep 3 rfl rfl 39 rfl
        exact dp_v (v := (pt b25 1)) (wanted_yes rfl (yv_of rfl (e39.trans (congrArg B hb37)))) (rv_fieldAddr (off := 1) (ft := 3) Tryz.underlying63 rfl ti3 rfl e13) rfl hJ) ?_
      refine all_cons (by
        refine ⟨?_, ?_⟩
        ·intro _nm ρ σm hJ hoff hdep
         have e40 := hdep 4 rfl rfl 40 rfl
         have e39 := hdep 3 rfl rfl 39 rfl
         obtain ⟨H, m⟩ := id hJ
         have hc39 := H.cell (u := (I x16.2)) (o' := 1) 1 1 rfl rfl rfl
         exact dp_v (v := (I x16.2)) (wanted_yes rfl (yv_of rfl (e39.trans (congrArg B hb37)))) (rv_load1 Tryz.underlying3 rfl e40 hc39) rfl hJ
        refine ⟨?_, ?_⟩
        ·intro _nm ρ σm hJ hoff hdep
         have e40 := hdep 4 rfl rfl 40 rfl
         have e39 := hdep 3 rfl rfl 39 rfl
         obtain ⟨H, m⟩ := id hJ
         have hc39 := H.cell (u := (I x16.2)) (o' := 1) 3 1 rfl rfl rfl
         exact dp_v (v := (I x16.2)) (wanted_yes rfl (yv_of rfl (e39.trans (congrArg B hb37)))) (rv_load1 Tryz.underlying3 rfl e40 hc39) rfl hJ
        trivial) ?_
      refine all_cons (by
        refine ⟨?_, ?_⟩
        ·intro _nm ρ σm hJ hoff hdep
         have e10 : look 72 ρ 10 = (pt b3 0) := look_off (hoff 10 rfl) rfl
         have e39 := hdep 3 rfl rfl 39 rfl
         obtain ⟨H, m⟩ := id hJ
         refine dp_cx (wanted_yes rfl (yv_of rfl (e39.trans (congrArg B hb37)))) (cx_call hc42 (ent_f hc42.fn (by show [look 72 ρ 10] = _; rw [e10])) hn0 (H.sel' [3, 4, 0, 1, 2, 5, 6] rfl rfl : Hp S0 σ0 _ ([_, _] ++ _))) ?_
         rintro _ σq ⟨_, ⟨rfl, rfl⟩, H2, m2⟩
         exact ⟨_, (), rfl, rfl, ⟨H2.sel' [0, 1, 2, 3, 4, 5, 6] rfl rfl, m.comp m2⟩, stab [0, 1, 2, 3, 4, 5] (by kernel_rfl) ⟨rfl, rfl, rfl, rfl, rfl, rfl, trivial⟩⟩
        trivial) ?_
      exact all_nil
     ·intro _nm ρ σ43 hJ hoff hrel
      have e1 := look_off (N := 72) (hoff 1 rfl) rfl
      have e2 := look_off (N := 72) (hoff 2 rfl) rfl
      have e8 := look_off (N := 72) (hoff 8 rfl) rfl
      have e10 := look_off (N := 72) (hoff 10 rfl) rfl
      have e11 := look_off (N := 72) (hoff 11 rfl) rfl
      have e12 := look_off (N := 72) (hoff 12 rfl) rfl
      have e13 := look_off (N := 72) (hoff 13 rfl) rfl
      have e39 := hrel 3 rfl 39 rfl
      have e41 := hrel 5 rfl 41 rfl
      have e42 := hrel 6 rfl 42 rfl
      obtain ⟨H, -⟩ := (show Hp S0 σ0 σ43 [Ch.bx n0 b3 0 [(I s9.1.1), (Sl a11 s9.1.2 c12)] [] [], Ch.own 0 0 (Sl a11 s9.1.2 c12) s9.1.2, Ch.own n0 0 (Sl a30 xs28 c31) xs28, Ch.bx n0 b25 0 [(.pointer a23), (I x16.2)] [] [], Ch.pr 0 (.pointer a23) x16.1, Ch.ro 0 (Sl Ax Av Ay) Av, Ch.bx n0 b1 0 [(I 0), (.slice none 0 0)] [] []] ∧ Md (fun i => (cov []) i ∨ (cov [Ch.bx n0 b3 0 [(I s9.1.1), (Sl a11 s9.1.2 c12)] [] [], Ch.own 0 0 (Sl a11 s9.1.2 c12) s9.1.2]) i) σ27 σ43 from hJ)
      clear hJ Hs
      rw [fr_lookL (L := [(1, (I Au)), (2, (Sl Ax Av Ay)), (8, (pt b1 0)), (10, (pt b3 0)), (11, (I s9.2.1)), (12, (Sl a30 xs28 c31)), (13, (pt b25 0)), (39, (B x16.1.isNil)), (41, (I x16.2)), (42, (I r40))]) ⟨e1, e2, e8, e10, e11, e12, e13, e39, e41, e42, trivial⟩]
      clear hoff hrel e1 e2 e8 e10 e11 e12 e13 e39 e41 e42
      refine st_g (v := (B (decide (r40 < x16.2)))) (congrArg some hb37) (rv_gtr (a := x16.2) (b := r40) rfl rfl) (st (v := (B (decide (r40 < x16.2)))) (rv_pick_f (congrArg B hb37) rfl) (w_end ?_))
      obtain rfl := sj h
      exact ⟨rfl, _, σ43, fr_join ⟨rfl, rfl, rfl, rfl, rfl, rfl, rfl, rfl, trivial⟩, rfl, H.sel' [5, 6, 1, 0, 2, 4, 3] rfl rfl⟩
   ·clear hj
    have h := h'
    clear h' H
    rintro e a w ⟨rfl, ρ, σ44, rfl, rfl, H⟩
    refine q_then ?_
    refine cd_cond o35 rfl (fun hb45 => ?_) (fun hb45 => ?_)
    ·replace h := bif_t hb45 h
     refine c_exit (q_then_x (q_blk_hit (q_then ?_)))
     obtain rfl := sj h
     exact ⟨_, rfl, _, σ44, a11, c12, a30, c31, fr_join ⟨rfl, rfl, rfl, rfl, rfl, rfl, trivial⟩, rfl, H.sel' [3, 2, 0, 1, 4] rfl rfl⟩
    ·replace h := bif_f hb45 h
     refine c_skip (q_then (c_seq (rg (sm (I s9.2.1) rfl (st (v := (I (w64 (s9.2.1 + 1)))) (rv_add (a := s9.2.1) (b := 1) rfl rfl) (sa (I (w64 (s9.2.1 + 1))) rfl (w_end (q_then (c_seq (rg (st (v := (pt b25 0)) (rv_fieldAddr (off := 0) (ft := 39) Tryz.underlying63 rfl ti39 rfl rfl) ?_)))))))))))
     have hc46 := H.cell (u := (.pointer a23)) (o' := 0) 6 0 rfl rfl rfl
     refine st (v := (.pointer a23)) (rv_load1 Tryz.underlying39 rfl rfl hc46) ?_
     revert h; refine br fun x47 hx48 h => ?_
     obtain ⟨b50, o51, hi49⟩ := (H.pr 5 rfl).ex hx48
     refine st (v := (pt b50 o51)) (rv_nilCheckT hi49 rfl) (st (v := (pt b50 (o51 + 0))) (rv_fieldAddr (off := 0) (ft := 59) Tryz.underlying68 rfl ti59 rfl rfl) ?_)
     obtain ⟨_, ⟨_, _, rfl, rfl, ⟨_, _, rfl, ⟨_, rfl, hR56⟩, rfl⟩⟩, hl52, hc53⟩ := ((H.pr 5 rfl).at hx48 hi49).fst.cells
     obtain ⟨a54, c55, rfl⟩ := hR56.isSl
     replace H := H.add (d := Ch.ro 0 (Sl a54 x47.1.2.1 c55) x47.1.2.1) hR56 (fun _ h => h)
     clear hR56
     refine st (v := (.agg #[(I x47.1.1), (Sl a54 x47.1.2.1 c55), (I x47.1.2.2)])) (rv_load Tryz.underlying59 rfl ti59 rfl hl52 hc53) (sm (I Au) rfl (sm (Sl Ax Av Ay) rfl ?_))
     revert h; refine br fun r57 hx58 h => ?_
     have hc59 := c_impl_hitOf (Am := a54) (Ao := c55) (Ax := Ax) (Ay := Ay) hx58
     refine st_call (cx_call hc59 (ent_f hc59.fn rfl) hn0 (H.sel' [0, 1, 0, 1, 2, 3, 4, 5, 6, 7] rfl rfl : Hp S0 σ0 _ ([_, _] ++ _))) wn ?_
     rintro _ σ60 ⟨_, ⟨rfl, rfl⟩, H, -⟩
     replace H : Hp _ _ _ [_, _, _, _, _, _, _, _] := H
     replace H : Hp S0 σ0 σ60 [Ch.ro 0 (Sl Ax Av Ay) Av, Ch.bx n0 b1 0 [(I 0), (.slice none 0 0)] [] [], Ch.own 0 0 (Sl a11 s9.1.2 c12) s9.1.2, Ch.bx n0 b3 0 [(I s9.1.1), (Sl a11 s9.1.2 c12)] [] [], Ch.own n0 0 (Sl a30 xs28 c31) xs28, Ch.pr 0 (.pointer a23) x16.1, Ch.bx n0 b25 0 [(.pointer a23), (I x16.2)] [] []] := H.sel' [1, 2, 3, 4, 5, 6, 7] rfl rfl
     refine st_ex (ex_alloc (cs := [(I 0), (I 0)]) H hn0 ti43 rfl) wn ?_
     rintro _ σ62 ⟨b61, rfl, H, -⟩
     refine st_exS (ex_store_box (k := 0) (cs := [(I 0), (I 0)]) (vs := [(I r57.1), (I r57.2)]) (cs' := [(I r57.1), (I r57.2)]) H (i := 0) rfl ti43 rfl rfl rfl rfl rfl (Nat.le_of_ble_eq_true rfl) (by simp [plain]) rfl) wn ?_
     rintro σ63 ⟨H, -⟩
     refine w_end (q_then (c_seq (rg ?_)))
     have hc64 := H.cells 0 rfl
     refine st (v := (.agg #[(I r57.1), (I r57.2)])) (rv_load (cs := [(I r57.1), (I r57.2)]) Tryz.underlying43 rfl ti43 rfl rfl hc64) ?_
     revert h; refine br fun r65 hx66 h => ?_
     have hc67 := c_impl_nearestHits_offer (Cj := n0) (Ck := b3) (Cl := 0) (Cm := []) (Cn := []) (Cg := a11) (Ci := c12) hx66
     refine st_call (cx_call hc67 (ent_f hc67.fn rfl) hn0 (H.sel' [4, 3, 0, 1, 2, 5, 6, 7] rfl rfl : Hp S0 σ0 _ ([_, _] ++ _))) wn ?_
     rintro _ σ70 ⟨_, ⟨a68, c69, rfl, rfl⟩, H, -⟩
     replace H : Hp _ _ _ [_, _, _, _, _, _, _, _] := H
     refine w_end (q_then (c_seq (rg (st (v := (pt b25 0)) (rv_fieldAddr (off := 0) (ft := 39) Tryz.underlying63 rfl ti39 rfl rfl) ?_))))
     have hc71 := H.cell (u := (.pointer a23)) (o' := 0) 7 0 rfl rfl rfl
     refine st (v := (.pointer a23)) (rv_load1 Tryz.underlying39 rfl rfl hc71) (st (v := (pt b61 1)) (rv_fieldAddr (off := 1) (ft := 3) Tryz.underlying43 rfl ti3 rfl rfl) ?_)
     have hc72 := H.cell (u := (I r57.2)) (o' := 1) 2 1 rfl rfl rfl
     refine st (v := (I r57.2)) (rv_load1 Tryz.underlying3 rfl rfl hc72) ?_
     revert h; refine br fun r73 hx74 h => ?_
     have hc75 := c_impl_branch_turns (Cr := a23) hx74
     refine st_call (cx_call hc75 (ent_f hc75.fn rfl) hn0 (H.sel' [6, 0, 1, 2, 3, 4, 5, 6, 7] rfl rfl : Hp S0 σ0 _ ([_] ++ _))) wn ?_
     rintro _ σ78 ⟨_, ⟨a76, a77, rfl, rfl⟩, H, -⟩
     replace H : Hp _ _ _ [_, _, _, _, _, _, _, _, _, _] := H
     replace H : Hp S0 σ0 σ78 [Ch.pr 0 (.pointer a76) r73.1.1, Ch.pr 0 (.pointer a77) r73.2.1, Ch.bx n0 b3 0 [(I r65.1), (Sl a68 r65.2 c69)] [] [], Ch.own 0 0 (Sl a68 r65.2 c69) r65.2, Ch.ro 0 (Sl Ax Av Ay) Av, Ch.bx n0 b1 0 [(I 0), (.slice none 0 0)] [] [], Ch.own n0 0 (Sl a30 xs28 c31) xs28] := H.sel' [0, 1, 2, 3, 5, 6, 7] rfl rfl
     refine sm (.tuple #[(.agg #[(.pointer a76), (I r73.1.2)]), (.agg #[(.pointer a77), (I r73.2.2)])]) rfl (st (v := (.agg #[(.pointer a76), (I r73.1.2)])) (rv_extract rfl rfl) (st (v := (.agg #[(.pointer a77), (I r73.2.2)])) (rv_extract rfl rfl) (st_ex (ex_alloc (cs := [(.pointer none), (I 0)]) H hn0 ti63 rfl) wn ?_)))
     rintro _ σ80 ⟨b79, rfl, H, -⟩
     refine st_ex (ex_alloc (cs := [(.pointer none), (I 0)]) H hn0 ti63 rfl) wn ?_
     rintro _ σ82 ⟨b81, rfl, H, -⟩
     refine st_exS (ex_store_box (k := 0) (cs := [(.pointer none), (I 0)]) (vs := [(.pointer a76), (I r73.1.2)]) (cs' := [(.pointer a76), (I r73.1.2)]) H (i := 1) rfl ti63 rfl rfl rfl rfl rfl (Nat.le_of_ble_eq_true rfl) (by simp [plain]) rfl) wn ?_
     rintro σ83 ⟨H, -⟩
     refine st_exS (ex_store_box (k := 0) (cs := [(.pointer none), (I 0)]) (vs := [(.pointer a77), (I r73.2.2)]) (cs' := [(.pointer a77), (I r73.2.2)]) H (i := 1) rfl ti63 rfl rfl rfl rfl rfl (Nat.le_of_ble_eq_true rfl) (by simp [plain]) rfl) wn ?_
     rintro σ84 ⟨H, -⟩
     refine w_end (q_then (rg (sm (Sl a30 xs28 c31) rfl ?_)))
     have hc85 := H.cells 0 rfl
     refine st (v := (.agg #[(.pointer a77), (I r73.2.2)])) (rv_load (cs := [(.pointer a77), (I r73.2.2)]) Tryz.underlying63 rfl ti63 rfl rfl hc85) ?_
     have hc86 := H.cells 1 rfl
     refine st (v := (.agg #[(.pointer a76), (I r73.1.2)])) (rv_load (cs := [(.pointer a76), (I r73.1.2)]) Tryz.underlying63 rfl ti63 rfl rfl hc86) ?_
     refine st_ex (ex_buildSlice (el := 0) (xs := ([(r73.2.1, r73.2.2), (r73.1.1, r73.1.2)] : List ((Tr (Int × (List Int) × Int)) × Int))) (ps := [(0, (.agg #[(.pointer a77), (I r73.2.2)])), (1, (.agg #[(.pointer a76), (I r73.1.2)]))]) (cs := [(.pointer a77), (I r73.2.2), (.pointer a76), (I r73.1.2)]) H hn0 Tryz.underlying64 ti63 rfl rfl (by kernel_rfl) (.cons (c := [(.pointer a77), (I r73.2.2)]) ⟨[(.pointer a77)], [(I r73.2.2)], rfl, ⟨_, rfl, (H.pr 3 rfl)⟩, rfl⟩ (.cons (c := [(.pointer a76), (I r73.1.2)]) ⟨[(.pointer a76)], [(I r73.1.2)], rfl, ⟨_, rfl, (H.pr 2 rfl)⟩, rfl⟩ (.nil))) rfl) wn ?_
     rintro _ σ88 ⟨b87, rfl, H, -⟩
     replace H : Hp S0 σ0 σ88 [Ch.own n0 0 (Sl (some ⟨b87, 0, none⟩) ([(r73.2.1, r73.2.2), (r73.1.1, r73.1.2)] : List ((Tr (Int × (List Int) × Int)) × Int)) 2) ([(r73.2.1, r73.2.2), (r73.1.1, r73.1.2)] : List ((Tr (Int × (List Int) × Int)) × Int)), Ch.bx n0 b3 0 [(I r65.1), (Sl a68 r65.2 c69)] [] [], Ch.own 0 0 (Sl a68 r65.2 c69) r65.2, Ch.ro 0 (Sl Ax Av Ay) Av, Ch.bx n0 b1 0 [(I 0), (.slice none 0 0)] [] [], Ch.own n0 0 (Sl a30 xs28 c31) xs28] := H.sel' [0, 5, 6, 7, 8, 9] rfl rfl
     revert h; refine br fun xs89 hx90 h => ?_
     refine st_ex (ex_append H (i := 5) rfl Tryz.underlying64 Tryz.underlying64 ti63 rfl rfl (by decide) (H.own 0 rfl).rd hx90 hn0 rfl rfl) wn ?_
     rintro _ σ93 ⟨a91, c92, rfl, H, -⟩
     refine sa (Sl a91 xs89 c92) rfl (w_end (q_blk (q_then ?_)))
     obtain rfl := sj h
     exact ⟨_, rfl, _, σ93, a68, c69, a91, c92, fr_join ⟨rfl, rfl, rfl, rfl, rfl, rfl, trivial⟩, rfl, H.sel' [2, 3, 4, 5, 0] rfl rfl⟩
  ·replace h := bif_f hb15 h
   refine c_exit (q_then_x (q_then_x (q_blk_hit ?_)))
   obtain rfl := sj h
   obtain rfl := hres _ rfl
   exact ⟨rfl, _, σ10, a11, c12, fr_join ⟨rfl, rfl, rfl, trivial⟩, rfl, H.sel' [0, 1, 3] rfl rfl⟩
 ·clear hj
  have h := h'
  clear h' H
  rintro e a w ⟨rfl, ρ, σ94, a95, c96, rfl, rfl, H⟩
  refine q_then (c_seq (rg ?_))
  have hc97 := H.cells 0 rfl
  refine st (v := (.agg #[(I o8.1.1), (Sl a95 o8.1.2 c96)])) (rv_load (cs := [(I o8.1.1), (Sl a95 o8.1.2 c96)]) Tryz.underlying36 rfl ti36 rfl rfl hc97) (sm (I o8.2) rfl ?_)
  refine st_exS (ex_store_box (k := 0) (cs := [(I 0), (.slice none 0 0)]) (vs := [(I o8.1.1), (Sl a95 o8.1.2 c96)]) (cs' := [(I o8.1.1), (Sl a95 o8.1.2 c96)]) H (i := 2) rfl ti36 rfl rfl rfl rfl rfl (Nat.le_of_ble_eq_true rfl) (by simp [plain]) rfl) wn ?_
  rintro σ98 ⟨H, -⟩
  refine sa (I o8.2) rfl (w_end (q_then (c_ret ?_)))
  replace H := H.ownSc 2 0 n0 rfl (Nat.le_refl _)
  obtain rfl := sj h
  exact fin_ret (v := (.tuple #[(.agg #[(I o8.1.1), (Sl a95 o8.1.2 c96)]), (I o8.2)])) (results_ok Tryz.results16 (res_cell rfl (run_cellRes (cs := [(I o8.1.1), (Sl a95 o8.1.2 c96)]) Tryz.underlying36 rfl ti36 rfl (H.cells 1 rfl)) (res_tmp (v := (I o8.2)) rfl res_nil)) rfl) ⟨a95, c96, rfl, rfl⟩ (H.sel' [0] rfl rfl)

theorem c_slices_Clone_impl_Item_impl_Item {Cu : List (Int × (List Int) × Int)} {Cv : Option Addr} {Cw : Nat} {r : (List (Int × (List Int) × Int))} (h : M.slices_Clone_impl_Item_impl_Item Cu = some r) :
    Cal2 Tryz.prog 60 [(Sl Cv Cu Cw)] [Ch.ro 0 (Sl Cv Cu Cw) Cu] (fun n0 v L => ∃ (az1 : Option Addr), ∃ (cz2 : Nat), v = (Sl az1 r cz2) ∧ L = [Ch.own n0 0 (Sl az1 r cz2) r]) := by
 refine cal2 (n := 8) Tryz.func60 rfl rfl rfl rfl ?_
 intro S0 σ0 n0 hn0 H
 unfold M.slices_Clone_impl_Item_impl_Item at h
 refine c_seq (rg (sa (.slice none 0 0) rfl (w_end (q_then (c_seq (c_seq (rg (sm (Sl Cv Cu Cw) rfl (st (v := (B Cv.isNone)) (rv_nilS Tryz.underlying23 rfl rfl) (w_end (q_then ?_)))))))))))
 refine cd_cond Cv.isNone rfl (fun hb1 => ?_) (fun hb1 => ?_)
 ·have hq := RS.nilOf hb1 (H.ro 0 rfl)
  subst hq
  replace h : some [] = some r := by simpa [gapp] using h
  refine c_seq (rg (sa (.slice none 0 0) rfl (w_end (q_then (c_ret (q_then_r ?_))))))
  replace H := H.nilOwn (Int × (List Int) × Int) n0 0
  obtain rfl := sj h
  exact fin_ret (v := (.slice none 0 0)) (results_ok Tryz.results60 (res_tmp (v := (.slice none 0 0)) rfl res_nil) rfl) ⟨none, 0, rfl, rfl⟩ (H.sel' [0] rfl rfl)
 ·refine c_skip ?_
  refine q_then (c_seq (rg ?_))
  refine st_ex (ex_buildSlice (el := n0) (xs := ([] : List (Int × (List Int) × Int))) (ps := []) (cs := []) H hn0 Tryz.underlying23 ti59 rfl rfl (by kernel_rfl) (.nil) rfl) wn ?_
  rintro _ σ3 ⟨b2, rfl, H, -⟩
  refine sm (Sl Cv Cu Cw) rfl ?_
  replace H := H.ownLow 0 n0 0 rfl (Nat.le_refl _) (Nat.zero_le _)
  revert h; refine br fun xs4 hx5 h => ?_
  refine st_ex (ex_append H (i := 0) rfl Tryz.underlying23 Tryz.underlying23 ti59 rfl rfl (by decide) (H.ro 1 rfl).rd hx5 hn0 rfl rfl) wn ?_
  rintro _ σ8 ⟨a6, c7, rfl, H, -⟩
  refine sa (Sl a6 xs4 c7) rfl (w_end (q_then (c_ret ?_)))
  obtain rfl := sj h
  exact fin_ret (v := (Sl a6 xs4 c7)) (results_ok Tryz.results60 (res_tmp (v := (Sl a6 xs4 c7)) rfl res_nil) rfl) ⟨a6, c7, rfl, rfl⟩ (H.sel' [0] rfl rfl)

theorem c_slices_xorshift_Next {Cy : Int} {Cz Da Db : Nat} {Dc Dd : List Value} {r : Int × Int} (h : M.slices_xorshift_Next Cy = some r) :
    Cal2 Tryz.prog 115 [(pt Da Db)] [Ch.bx Cz Da Db [(.int .u64 Cy)] Dc Dd] (fun n0 v L => v = (.int .u64 r.1) ∧ L = [Ch.bx Cz Da Db [(.int .u64 r.2)] Dc Dd]) := by
 refine cal2 (n := 33) Tryz.func115 rfl rfl rfl rfl ?_
 intro S0 σ0 n0 hn0 H
 unfold M.slices_xorshift_Next at h
 refine c_seq (rg (sa (.int .u64 0) rfl (w_end (q_then (c_seq ?_)))))
 refine rgP (σ := σ0) 7 (by kernel_rfl) (by kernel_rfl) (by kernel_rfl) ?_
 refine sq (v := (pt Da Db)) (rv_move rfl) (sq (v := (pt Da Db)) (rv_nilCheck rfl) ?_)
 have hc1 := H.cell (u := (.int .u64 Cy)) (o' := Db) 0 0 rfl rfl rfl
 refine sq (v := (.int .u64 Cy)) (rv_load1 Tryz.underlying146 rfl rfl hc1) (sq (v := (pt Da Db)) (rv_move rfl) (sq (v := (pt Da Db)) (rv_nilCheck rfl) ?_))
 have hc2 := H.cell (u := (.int .u64 Cy)) (o' := Db) 0 0 rfl rfl rfl
 refine sq (v := (.int .u64 Cy)) (rv_load1 Tryz.underlying146 rfl rfl hc2) ?_
 refine sq (v := (.int .u64 (gshl .u64 Cy 13))) (rvk_shl (k := .u64) (k' := .u64) (a := Cy) (b := 13) rfl rfl (by decide)) ?_
 refine sq_end ?_
 intro σ3 hm4
 replace H := H.grow (hm4.mono fun _ h => h); clear hm4
 refine st (v := (.int .u64 (gxork .u64 Cy (gshl .u64 Cy 13)))) (rvk_xor (k := .u64) (a := Cy) (b := (gshl .u64 Cy 13)) rfl rfl) (st (v := (pt Da Db)) (rv_nilCheck rfl) ?_)
 refine st_exS (ex_store_box (k := 0) (cs := [(.int .u64 Cy)]) (vs := [(.int .u64 (gxork .u64 Cy (gshl .u64 Cy 13)))]) (cs' := [(.int .u64 (gxork .u64 Cy (gshl .u64 Cy 13)))]) H (i := 0) rfl ti146 rfl rfl rfl rfl rfl (Nat.le_of_ble_eq_true rfl) (by simp [plain]) rfl) wn ?_
 rintro σ5 ⟨H, -⟩
 refine w_end (q_then (c_seq ?_))
 refine rgP (σ := σ5) 7 (by kernel_rfl) (by kernel_rfl) (by kernel_rfl) ?_
 refine sq (v := (pt Da Db)) (rv_move rfl) (sq (v := (pt Da Db)) (rv_nilCheck rfl) ?_)
 have hc6 := H.cell (u := (.int .u64 (gxork .u64 Cy (gshl .u64 Cy 13)))) (o' := Db) 0 0 rfl rfl rfl
 refine sq (v := (.int .u64 (gxork .u64 Cy (gshl .u64 Cy 13)))) (rv_load1 Tryz.underlying146 rfl rfl hc6) (sq (v := (pt Da Db)) (rv_move rfl) (sq (v := (pt Da Db)) (rv_nilCheck rfl) ?_))
 have hc7 := H.cell (u := (.int .u64 (gxork .u64 Cy (gshl .u64 Cy 13)))) (o' := Db) 0 0 rfl rfl rfl
 refine sq (v := (.int .u64 (gxork .u64 Cy (gshl .u64 Cy 13)))) (rv_load1 Tryz.underlying146 rfl rfl hc7) ?_
 refine sq (v := (.int .u64 (gshr .u64 (gxork .u64 Cy (gshl .u64 Cy 13)) 7))) (rvk_shr (k := .u64) (k' := .u64) (a := (gxork .u64 Cy (gshl .u64 Cy 13))) (b := 7) rfl rfl (by decide)) ?_
 refine sq_end ?_
 intro σ8 hm9
 replace H := H.grow (hm9.mono fun _ h => h); clear hm9
 refine st (v := (.int .u64 (gxork .u64 (gxork .u64 Cy (gshl .u64 Cy 13)) (gshr .u64 (gxork .u64 Cy (gshl .u64 Cy 13)) 7)))) (rvk_xor (k := .u64) (a := (gxork .u64 Cy (gshl .u64 Cy 13))) (b := (gshr .u64 (gxork .u64 Cy (gshl .u64 Cy 13)) 7)) rfl rfl) (st (v := (pt Da Db)) (rv_nilCheck rfl) ?_)
 refine st_exS (ex_store_box (k := 0) (cs := [(.int .u64 (gxork .u64 Cy (gshl .u64 Cy 13)))]) (vs := [(.int .u64 (gxork .u64 (gxork .u64 Cy (gshl .u64 Cy 13)) (gshr .u64 (gxork .u64 Cy (gshl .u64 Cy 13)) 7)))]) (cs' := [(.int .u64 (gxork .u64 (gxork .u64 Cy (gshl .u64 Cy 13)) (gshr .u64 (gxork .u64 Cy (gshl .u64 Cy 13)) 7)))]) H (i := 0) rfl ti146 rfl rfl rfl rfl rfl (Nat.le_of_ble_eq_true rfl) (by simp [plain]) rfl) wn ?_
 rintro σ10 ⟨H, -⟩
 refine w_end (q_then (c_seq ?_))
 refine rgP (σ := σ10) 7 (by kernel_rfl) (by kernel_rfl) (by kernel_rfl) ?_
 refine sq (v := (pt Da Db)) (rv_move rfl) (sq (v := (pt Da Db)) (rv_nilCheck rfl) ?_)
 have hc11 := H.cell (u := (.int .u64 (gxork .u64 (gxork .u64 Cy (gshl .u64 Cy 13)) (gshr .u64 (gxork .u64 Cy (gshl .u64 Cy 13)) 7)))) (o' := Db) 0 0 rfl rfl rfl
 refine sq (v := (.int .u64 (gxork .u64 (gxork .u64 Cy (gshl .u64 Cy 13)) (gshr .u64 (gxork .u64 Cy (gshl .u64 Cy 13)) 7)))) (rv_load1 Tryz.underlying146 rfl rfl hc11) (sq (v := (pt Da Db)) (rv_move rfl) (sq (v := (pt Da Db)) (rv_nilCheck rfl) ?_))
 have hc12 := H.cell (u := (.int .u64 (gxork .u64 (gxork .u64 Cy (gshl .u64 Cy 13)) (gshr .u64 (gxork .u64 Cy (gshl .u64 Cy 13)) 7)))) (o' := Db) 0 0 rfl rfl rfl
 refine sq (v := (.int .u64 (gxork .u64 (gxork .u64 Cy (gshl .u64 Cy 13)) (gshr .u64 (gxork .u64 Cy (gshl .u64 Cy 13)) 7)))) (rv_load1 Tryz.underlying146 rfl rfl hc12) ?_
 refine sq (v := (.int .u64 (gshl .u64 (gxork .u64 (gxork .u64 Cy (gshl .u64 Cy 13)) (gshr .u64 (gxork .u64 Cy (gshl .u64 Cy 13)) 7)) 17))) (rvk_shl (k := .u64) (k' := .u64) (a := (gxork .u64 (gxork .u64 Cy (gshl .u64 Cy 13)) (gshr .u64 (gxork .u64 Cy (gshl .u64 Cy 13)) 7))) (b := 17) rfl rfl (by decide)) ?_
 refine sq_end ?_
 intro σ13 hm14
 replace H := H.grow (hm14.mono fun _ h => h); clear hm14
 refine st (v := (.int .u64 (gxork .u64 (gxork .u64 (gxork .u64 Cy (gshl .u64 Cy 13)) (gshr .u64 (gxork .u64 Cy (gshl .u64 Cy 13)) 7)) (gshl .u64 (gxork .u64 (gxork .u64 Cy (gshl .u64 Cy 13)) (gshr .u64 (gxork .u64 Cy (gshl .u64 Cy 13)) 7)) 17)))) (rvk_xor (k := .u64) (a := (gxork .u64 (gxork .u64 Cy (gshl .u64 Cy 13)) (gshr .u64 (gxork .u64 Cy (gshl .u64 Cy 13)) 7))) (b := (gshl .u64 (gxork .u64 (gxork .u64 Cy (gshl .u64 Cy 13)) (gshr .u64 (gxork .u64 Cy (gshl .u64 Cy 13)) 7)) 17)) rfl rfl) (st (v := (pt Da Db)) (rv_nilCheck rfl) ?_)
 refine st_exS (ex_store_box (k := 0) (cs := [(.int .u64 (gxork .u64 (gxork .u64 Cy (gshl .u64 Cy 13)) (gshr .u64 (gxork .u64 Cy (gshl .u64 Cy 13)) 7)))]) (vs := [(.int .u64 (gxork .u64 (gxork .u64 (gxork .u64 Cy (gshl .u64 Cy 13)) (gshr .u64 (gxork .u64 Cy (gshl .u64 Cy 13)) 7)) (gshl .u64 (gxork .u64 (gxork .u64 Cy (gshl .u64 Cy 13)) (gshr .u64 (gxork .u64 Cy (gshl .u64 Cy 13)) 7)) 17)))]) (cs' := [(.int .u64 (gxork .u64 (gxork .u64 (gxork .u64 Cy (gshl .u64 Cy 13)) (gshr .u64 (gxork .u64 Cy (gshl .u64 Cy 13)) 7)) (gshl .u64 (gxork .u64 (gxork .u64 Cy (gshl .u64 Cy 13)) (gshr .u64 (gxork .u64 Cy (gshl .u64 Cy 13)) 7)) 17)))]) H (i := 0) rfl ti146 rfl rfl rfl rfl rfl (Nat.le_of_ble_eq_true rfl) (by simp [plain]) rfl) wn ?_
 rintro σ15 ⟨H, -⟩
 refine w_end (q_then (c_seq (rg (sm (pt Da Db) rfl (st (v := (pt Da Db)) (rv_nilCheck rfl) ?_)))))
 have hc16 := H.cell (u := (.int .u64 (gxork .u64 (gxork .u64 (gxork .u64 Cy (gshl .u64 Cy 13)) (gshr .u64 (gxork .u64 Cy (gshl .u64 Cy 13)) 7)) (gshl .u64 (gxork .u64 (gxork .u64 Cy (gshl .u64 Cy 13)) (gshr .u64 (gxork .u64 Cy (gshl .u64 Cy 13)) 7)) 17)))) (o' := Db) 0 0 rfl rfl rfl
 refine st (v := (.int .u64 (gxork .u64 (gxork .u64 (gxork .u64 Cy (gshl .u64 Cy 13)) (gshr .u64 (gxork .u64 Cy (gshl .u64 Cy 13)) 7)) (gshl .u64 (gxork .u64 (gxork .u64 Cy (gshl .u64 Cy 13)) (gshr .u64 (gxork .u64 Cy (gshl .u64 Cy 13)) 7)) 17)))) (rv_load1 Tryz.underlying146 rfl rfl hc16) (sa (.int .u64 (gxork .u64 (gxork .u64 (gxork .u64 Cy (gshl .u64 Cy 13)) (gshr .u64 (gxork .u64 Cy (gshl .u64 Cy 13)) 7)) (gshl .u64 (gxork .u64 (gxork .u64 Cy (gshl .u64 Cy 13)) (gshr .u64 (gxork .u64 Cy (gshl .u64 Cy 13)) 7)) 17))) rfl (w_end (q_then (c_ret ?_))))
 obtain rfl := sj h
 exact fin_ret (v := (.int .u64 (gxork .u64 (gxork .u64 (gxork .u64 Cy (gshl .u64 Cy 13)) (gshr .u64 (gxork .u64 Cy (gshl .u64 Cy 13)) 7)) (gshl .u64 (gxork .u64 (gxork .u64 Cy (gshl .u64 Cy 13)) (gshr .u64 (gxork .u64 Cy (gshl .u64 Cy 13)) 7)) 17)))) (results_ok Tryz.results115 (res_tmp (v := (.int .u64 (gxork .u64 (gxork .u64 (gxork .u64 Cy (gshl .u64 Cy 13)) (gshr .u64 (gxork .u64 Cy (gshl .u64 Cy 13)) 7)) (gshl .u64 (gxork .u64 (gxork .u64 Cy (gshl .u64 Cy 13)) (gshr .u64 (gxork .u64 Cy (gshl .u64 Cy 13)) 7)) 17)))) rfl res_nil) rfl) ⟨rfl, rfl⟩ (H.sel' [0] rfl rfl)

theorem c_impl_sortByDistance_1__p3__p24 {Ak : Int × (List Int) × Int} {Bu : Int × (List Int) × Int} {De : Int} {Dg : List Int} {Am : Option Addr} {Ao : Nat} {Dh : Option Addr} {Di : Nat} {Dj Dk : Nat} {Dm Dn : Nat} {r : Int} (h : M.impl_sortByDistance_1__p3__p24 Ak Bu De Dg = some r) :
    Cal2 Tryz.prog 62 [(.agg #[(I Ak.1), (Sl Am Ak.2.1 Ao), (I Ak.2.2)]), (.agg #[(I Bu.1), (Sl Dh Bu.2.1 Di), (I Bu.2.2)]), (pt Dj Dk), (pt Dm Dn)] [Ch.ro 0 (Sl Am Ak.2.1 Ao) Ak.2.1, Ch.ro 0 (Sl Dh Bu.2.1 Di) Bu.2.1, Ch.ro 0 (Sl (some ⟨Dj, Dk, none⟩) ([De] : List Int) 1) ([De] : List Int), Ch.ro 0 (Sl (some ⟨Dm, Dn, none⟩) ([Dg] : List (List Int)) 1) ([Dg] : List (List Int))] (fun n0 v L => v = (I r) ∧ L = []) := by
 refine cal2 (n := 16) Tryz.func62 rfl rfl rfl rfl ?_
 intro S0 σ0 n0 hn0 H
 unfold M.impl_sortByDistance_1__p3__p24 at h
 have hxp_2 : gidx ([De] : List Int) 0 = some De := rfl
 have hip_2 : Ix (Sl (some ⟨Dj, Dk, none⟩) ([De] : List Int) 1) 0 1 Dj Dk := ix_one
 have hxp_3 : gidx ([Dg] : List (List Int)) 0 = some Dg := rfl
 have hip_3 : Ix (Sl (some ⟨Dm, Dn, none⟩) ([Dg] : List (List Int)) 1) 0 1 Dm Dn := ix_one
 refine c_seq (rg (st_ex (ex_box (cs := [(I Ak.1), (Sl Am Ak.2.1 Ao), (I Ak.2.2)]) H hn0 rfl rfl) wn ?_))
 rintro _ σ2 ⟨b1, rfl, H, -⟩
 refine st_ex (ex_box (cs := [(I Bu.1), (Sl Dh Bu.2.1 Di), (I Bu.2.2)]) H hn0 rfl rfl) wn ?_
 rintro _ σ4 ⟨b3, rfl, H, -⟩
 refine sa (I 0) rfl (w_end (q_then (c_seq ?_)))
 have hc5 := H.cells 1 rfl
 have hc6 := ((H.ro 4 rfl).at hxp_2 hip_2).int
 obtain ⟨v10, hc11, hR9⟩ := ((H.ro 5 rfl).at hxp_3 hip_3).slice
 obtain ⟨a7, c8, rfl⟩ := hR9.isSl
 replace H := H.add (d := Ch.ro 0 (Sl a7 Dg c8) Dg) hR9 (fun _ h => h)
 clear hR9
 revert h; refine br fun r12 hx13 h => ?_
 have hc14 := c_impl_hitOf (Am := Am) (Ao := Ao) (Ax := a7) (Ay := c8) hx13
 have hc15 := H.cells 1 rfl
 have hc16 := ((H.ro 5 rfl).at hxp_2 hip_2).int
 obtain ⟨v20, hc21, hR19⟩ := ((H.ro 6 rfl).at hxp_3 hip_3).slice
 obtain ⟨a17, c18, rfl⟩ := hR19.isSl
 replace H := H.add (d := Ch.ro 0 (Sl a17 Dg c18) Dg) hR19 (fun _ h => h)
 clear hR19
 have Hs := H
 refine rg2 (σ := σ4) (Nm := Unit) 7 [3] [[false], [true]] [[(0, 0)], [(0, 0)], [(0, 0)], [(0, 1)], [(0, 0), (1, 1)], [(0, 0), (1, 1)], [(0, 0), (1, 1)]] 1 [fun _ => fun σm => Hp S0 σ0 σm [Ch.ro 0 (Sl a17 Dg c18) Dg, Ch.ro 0 (Sl a7 Dg c8) Dg, Ch.bx n0 b3 0 [(I Bu.1), (Sl Dh Bu.2.1 Di), (I Bu.2.2)] [] [], Ch.bx n0 b1 0 [(I Ak.1), (Sl Am Ak.2.1 Ao), (I Ak.2.2)] [] [], Ch.ro 0 (Sl Am Ak.2.1 Ao) Ak.2.1, Ch.ro 0 (Sl Dh Bu.2.1 Di) Bu.2.1, Ch.ro 0 (Sl (some ⟨Dj, Dk, none⟩) ([De] : List Int) 1) ([De] : List Int), Ch.ro 0 (Sl (some ⟨Dm, Dn, none⟩) ([Dg] : List (List Int)) 1) ([Dg] : List (List Int))] ∧ Md (cov []) σ4 σm, fun _ => fun σm => Hp S0 σ0 σm [Ch.ro 0 (Sl a17 Dg c18) Dg, Ch.ro 0 (Sl a7 Dg c8) Dg, Ch.bx n0 b3 0 [(I Bu.1), (Sl Dh Bu.2.1 Di), (I Bu.2.2)] [] [], Ch.bx n0 b1 0 [(I Ak.1), (Sl Am Ak.2.1 Ao), (I Ak.2.2)] [] [], Ch.ro 0 (Sl Am Ak.2.1 Ao) Ak.2.1, Ch.ro 0 (Sl Dh Bu.2.1 Di) Bu.2.1, Ch.ro 0 (Sl (some ⟨Dj, Dk, none⟩) ([De] : List Int) 1) ([De] : List Int), Ch.ro 0 (Sl (some ⟨Dm, Dn, none⟩) ([Dg] : List (List Int)) 1) ([Dg] : List (List Int))] ∧ Md (cov []) σ4 σm] [fun _ => (.agg #[(I Ak.1), (Sl Am Ak.2.1 Ao), (I Ak.2.2)]), fun _ => (I De), fun _ => (Sl a7 Dg c8), fun _ => (.agg #[(I r12.1), (I r12.2)]), fun _ => (.agg #[(I Bu.1), (Sl Dh Bu.2.1 Di), (I Bu.2.2)]), fun _ => (I De), fun _ => (Sl a17 Dg c18)] () (by kernel_rfl) (by kernel_rfl) ?_ ?_ ?_
 ·intro σm m0
  exact ⟨H.grow (m0.mono fun _ h => h.elim), m0⟩
 ·refine all_cons (by
    refine ⟨?_, ?_⟩
    ·intro _nm ρ σm hJ hoff hdep
     have e4 := look_off (N := 16) (hoff 4 rfl) rfl
     obtain ⟨H, m⟩ := id hJ
     have hc5 := H.cells 3 rfl
     exact dp_v (v := (.agg #[(I Ak.1), (Sl Am Ak.2.1 Ao), (I Ak.2.2)])) wn (rv_load (cs := [(I Ak.1), (Sl Am Ak.2.1 Ao), (I Ak.2.2)]) Tryz.underlying59 rfl ti59 e4 rfl hc5) rfl hJ
    trivial) ?_
  refine all_cons (by
    refine ⟨?_, ?_⟩
    ·intro _nm ρ σm hJ hoff hdep
     have e2 := look_off (N := 16) (hoff 2 rfl) rfl
     obtain ⟨H, m⟩ := id hJ
     replace hc6 := (Hs.ro 6 rfl).hmd hxp_2 hip_2 (k := 0) (by decide) hc6 m
     exact dp_v (v := (I De)) wn (rv_load1 Tryz.underlying3 rfl e2 hc6) rfl hJ
    trivial) ?_
  refine all_cons (by
    refine ⟨?_, ?_⟩
    ·intro _nm ρ σm hJ hoff hdep
     have e3 := look_off (N := 16) (hoff 3 rfl) rfl
     obtain ⟨H, m⟩ := id hJ
     replace hc11 := (Hs.ro 7 rfl).hmd hxp_3 hip_3 (k := 0) (by decide) hc11 m
     exact dp_v (v := (Sl a7 Dg c8)) wn (rv_load1 Tryz.underlying24 rfl e3 hc11) rfl hJ
    trivial) ?_
  refine all_cons (by
    refine ⟨?_, ?_⟩
    ·intro _nm ρ σm hJ hoff hdep
     have e7 : look 16 ρ 7 = (.agg #[(I Ak.1), (Sl Am Ak.2.1 Ao), (I Ak.2.2)]) := hdep 0 rfl rfl 7 rfl
     have e8 : look 16 ρ 8 = (I De) := hdep 1 rfl rfl 8 rfl
     have e9 : look 16 ρ 9 = (Sl a7 Dg c8) := hdep 2 rfl rfl 9 rfl
     obtain ⟨H, m⟩ := id hJ
     refine dp_cx wn (cx_call hc14 (ent_f hc14.fn (by show [look 16 ρ 7, look 16 ρ 8, look 16 ρ 9] = _; rw [e7, e8, e9])) hn0 (H.sel' [4, 1, 0, 1, 2, 3, 4, 5, 6, 7] rfl rfl : Hp S0 σ0 _ ([_, _] ++ _))) ?_
     rintro _ σq ⟨_, ⟨rfl, rfl⟩, H2, m2⟩
     exact ⟨_, (), rfl, rfl, ⟨H2.sel' [0, 1, 2, 3, 4, 5, 6, 7] rfl rfl, m.comp0 (m2.mono (fun i h => by simp [cov, Ch.ro] at h))⟩, stab [0, 1, 2, 4, 5, 6] (by kernel_rfl) ⟨rfl, rfl, rfl, rfl, rfl, rfl, trivial⟩⟩
    trivial) ?_
  refine all_cons (by
    refine ⟨?_, ?_⟩
    ·intro _nm ρ σm hJ hoff hdep
     have e5 := look_off (N := 16) (hoff 5 rfl) rfl
     obtain ⟨H, m⟩ := id hJ
     have hc15 := H.cells 2 rfl
     exact dp_v (v := (.agg #[(I Bu.1), (Sl Dh Bu.2.1 Di), (I Bu.2.2)])) wn (rv_load (cs := [(I Bu.1), (Sl Dh Bu.2.1 Di), (I Bu.2.2)]) Tryz.underlying59 rfl ti59 e5 rfl hc15) rfl hJ
    refine ⟨?_, ?_⟩
    ·intro _nm ρ σm hJ hoff hdep
     have e5 := look_off (N := 16) (hoff 5 rfl) rfl
     obtain ⟨H, m⟩ := id hJ
     have hc15 := H.cells 2 rfl
     exact dp_v (v := (.agg #[(I Bu.1), (Sl Dh Bu.2.1 Di), (I Bu.2.2)])) wn (rv_load (cs := [(I Bu.1), (Sl Dh Bu.2.1 Di), (I Bu.2.2)]) Tryz.underlying59 rfl ti59 e5 rfl hc15) rfl hJ
    trivial) ?_
  refine all_cons (by
    refine ⟨?_, ?_⟩
    ·intro _nm ρ σm hJ hoff hdep
     have e2 := look_off (N := 16) (hoff 2 rfl) rfl
     obtain ⟨H, m⟩ := id hJ
     replace hc16 := (Hs.ro 6 rfl).hmd hxp_2 hip_2 (k := 0) (by decide) hc16 m
     exact dp_v (v := (I De)) wn (rv_load1 Tryz.underlying3 rfl e2 hc16) rfl hJ
    refine ⟨?_, ?_⟩
    ·intro _nm ρ σm hJ hoff hdep
     have e2 := look_off (N := 16) (hoff 2 rfl) rfl
     obtain ⟨H, m⟩ := id hJ
     replace hc16 := (Hs.ro 6 rfl).hmd hxp_2 hip_2 (k := 0) (by decide) hc16 m
     exact dp_v (v := (I De)) wn (rv_load1 Tryz.underlying3 rfl e2 hc16) rfl hJ
    trivial) ?_
  refine all_cons (by
    refine ⟨?_, ?_⟩
    ·intro _nm ρ σm hJ hoff hdep
     have e3 := look_off (N := 16) (hoff 3 rfl) rfl
     obtain ⟨H, m⟩ := id hJ
     replace hc21 := (Hs.ro 7 rfl).hmd hxp_3 hip_3 (k := 0) (by decide) hc21 m
     exact dp_v (v := (Sl a17 Dg c18)) wn (rv_load1 Tryz.underlying24 rfl e3 hc21) rfl hJ
    refine ⟨?_, ?_⟩
    ·intro _nm ρ σm hJ hoff hdep
     have e3 := look_off (N := 16) (hoff 3 rfl) rfl
     obtain ⟨H, m⟩ := id hJ
     replace hc21 := (Hs.ro 7 rfl).hmd hxp_3 hip_3 (k := 0) (by decide) hc21 m
     exact dp_v (v := (Sl a17 Dg c18)) wn (rv_load1 Tryz.underlying24 rfl e3 hc21) rfl hJ
    trivial) ?_
  exact all_nil
 ·intro _nm ρ σ22 hJ hoff hrel
  have e10 := hrel 3 rfl 10 rfl
  have e11 := hrel 4 rfl 11 rfl
  have e12 := hrel 5 rfl 12 rfl
  have e13 := hrel 6 rfl 13 rfl
  obtain ⟨H, -⟩ := (show Hp S0 σ0 σ22 [Ch.ro 0 (Sl a17 Dg c18) Dg, Ch.ro 0 (Sl a7 Dg c8) Dg, Ch.bx n0 b3 0 [(I Bu.1), (Sl Dh Bu.2.1 Di), (I Bu.2.2)] [] [], Ch.bx n0 b1 0 [(I Ak.1), (Sl Am Ak.2.1 Ao), (I Ak.2.2)] [] [], Ch.ro 0 (Sl Am Ak.2.1 Ao) Ak.2.1, Ch.ro 0 (Sl Dh Bu.2.1 Di) Bu.2.1, Ch.ro 0 (Sl (some ⟨Dj, Dk, none⟩) ([De] : List Int) 1) ([De] : List Int), Ch.ro 0 (Sl (some ⟨Dm, Dn, none⟩) ([Dg] : List (List Int)) 1) ([Dg] : List (List Int))] ∧ Md (cov []) σ4 σ22 from hJ)
  clear hJ Hs
  rw [fr_lookL (L := [(10, (.agg #[(I r12.1), (I r12.2)])), (11, (.agg #[(I Bu.1), (Sl Dh Bu.2.1 Di), (I Bu.2.2)])), (12, (I De)), (13, (Sl a17 Dg c18))]) ⟨e10, e11, e12, e13, trivial⟩]
  clear hoff hrel e10 e11 e12 e13
  revert h; refine br fun r23 hx24 h => ?_
  have hc25 := c_impl_hitOf (Am := Dh) (Ao := Di) (Ax := a17) (Ay := c18) hx24
  refine st_call (cx_call hc25 (ent_f hc25.fn rfl) hn0 (H.sel' [5, 0, 0, 1, 2, 3, 4, 5, 6, 7] rfl rfl : Hp S0 σ0 _ ([_, _] ++ _))) wn ?_
  rintro _ σ26 ⟨_, ⟨rfl, rfl⟩, H, -⟩
  replace H : Hp _ _ _ [_, _, _, _, _, _, _, _] := H
  replace H : Hp S0 σ0 σ26 [] := H.sel' [] rfl rfl
  revert h; refine br fun r27 hx28 h => ?_
  have hc29 := c_impl_compareHits hx28
  refine st_call (cx_call hc29 (ent_f hc29.fn rfl) hn0 (H.sel' [] rfl rfl : Hp S0 σ0 _ ([] ++ _))) wn ?_
  rintro _ σ30 ⟨_, ⟨rfl, rfl⟩, H, -⟩
  replace H : Hp _ _ _ [] := H
  refine sa (I r27) rfl (w_end (q_then (c_ret ?_)))
  obtain rfl := sj h
  exact fin_ret (v := (I r27)) (results_ok Tryz.results62 (res_tmp (v := (I r27)) rfl res_nil) rfl) ⟨rfl, rfl⟩ (H.sel' [] rfl rfl)

def sort61_ren : Go.Shelf.Ren := ⟨fun | 6 => 61 | 15 => 85 | 14 => 84 | 28 => 102 | 29 => 103 | 20 => 94 | 21 => 95 | 22 => 96 | 23 => 97 | 24 => 98 | 25 => 99 | 26 => 100 | 27 => 101 | 46 => 113 | 47 => 114 | 48 => 115 | 49 => 116 | 50 => 117 | 57 => 121 | n => n, fun | 22 => 23 | 24 => 59 | 25 => 95 | 3 => 3 | 39 => 121 | 0 => 0 | 53 => 137 | 55 => 139 | 4 => 4 | 46 => 130 | 45 => 129 | 50 => 134 | 5 => 5 | 9 => 9 | 66 => 146 | 70 => 150 | 76 => 154 | 77 => 155 | n => n, fun | n => n⟩
theorem sort61 : Go.Proofs.SlLaysF0.n6 Tryz.prog sort61_ren := {
  mixed := by kernel_rfl
  f6 := ⟨Tryz.f61.name, by decide, Tryz.func61.trans (congrArg some (by kernel_rfl))⟩
  f14 := ⟨Tryz.f84.name, by decide, Tryz.func84.trans (congrArg some (by kernel_rfl))⟩
  f15 := Tryz.func85.trans (congrArg some (by kernel_rfl))
  f20 := ⟨Tryz.f94.name, by decide, Tryz.func94.trans (congrArg some (by kernel_rfl))⟩
  f21 := ⟨Tryz.f95.name, by decide, Tryz.func95.trans (congrArg some (by kernel_rfl))⟩
  f22 := ⟨Tryz.f96.name, by decide, Tryz.func96.trans (congrArg some (by kernel_rfl))⟩
  f23 := ⟨Tryz.f97.name, by decide, Tryz.func97.trans (congrArg some (by kernel_rfl))⟩
  f24 := ⟨Tryz.f98.name, by decide, Tryz.func98.trans (congrArg some (by kernel_rfl))⟩
  f25 := ⟨Tryz.f99.name, by decide, Tryz.func99.trans (congrArg some (by kernel_rfl))⟩
  f26 := ⟨Tryz.f100.name, by decide, Tryz.func100.trans (congrArg some (by kernel_rfl))⟩
  f27 := ⟨Tryz.f101.name, by decide, Tryz.func101.trans (congrArg some (by kernel_rfl))⟩
  f28 := Tryz.func102.trans (congrArg some (by kernel_rfl))
  f29 := Tryz.func103.trans (congrArg some (by kernel_rfl))
  f46 := ⟨Tryz.f113.name, by decide, Tryz.func113.trans (congrArg some (by kernel_rfl))⟩
  f47 := Tryz.func114.trans (congrArg some (by kernel_rfl))
  f48 := Tryz.func115.trans (congrArg some (by kernel_rfl))
  f49 := ⟨Tryz.f116.name, by decide, Tryz.func116.trans (congrArg some (by kernel_rfl))⟩
  f50 := ⟨Tryz.f117.name, by decide, Tryz.func117.trans (congrArg some (by kernel_rfl))⟩
  f57 := ⟨Tryz.f121.name, by decide, Tryz.func121.trans (congrArg some (by kernel_rfl))⟩
  t0 := Tryz.underlying0
  a0 := Tryz.isAgg0
  z0 := Tryz.sizeOf0
  v0 := Tryz.zeroValue0
  t3 := Tryz.underlying3
  a3 := Tryz.isAgg3
  z3 := Tryz.sizeOf3
  v3 := Tryz.zeroValue3
  t4 := Tryz.underlying4
  a4 := Tryz.isAgg4
  z4 := Tryz.sizeOf4
  v4 := Tryz.zeroValue4
  t5 := Tryz.underlying5
  a5 := Tryz.isAgg5
  z5 := Tryz.sizeOf5
  v5 := Tryz.zeroValue5
  t9 := Tryz.underlying9
  a9 := Tryz.isAgg9
  z9 := Tryz.sizeOf9
  v9 := Tryz.zeroValue9
  t22 := Tryz.underlying23
  a22 := Tryz.isAgg23
  z22 := Tryz.sizeOf23
  v22 := Tryz.zeroValue23
  t25 := Tryz.underlying95
  a25 := Tryz.isAgg95
  z25 := Tryz.sizeOf95
  v25 := Tryz.zeroValue95
  t39 := Tryz.underlying121
  a39 := Tryz.isAgg121
  z39 := Tryz.sizeOf121
  v39 := Tryz.zeroValue121
  t45 := Tryz.underlying129
  a45 := Tryz.isAgg129
  z45 := Tryz.sizeOf129
  v45 := Tryz.zeroValue129
  t46 := Tryz.underlying130
  a46 := Tryz.isAgg130
  z46 := Tryz.sizeOf130
  v46 := Tryz.zeroValue130
  t50 := Tryz.underlying134
  a50 := Tryz.isAgg134
  z50 := Tryz.sizeOf134
  v50 := Tryz.zeroValue134
  t53 := Tryz.underlying137
  a53 := Tryz.isAgg137
  z53 := Tryz.sizeOf137
  v53 := Tryz.zeroValue137
  t55 := Tryz.underlying139
  a55 := Tryz.isAgg139
  z55 := Tryz.sizeOf139
  v55 := Tryz.zeroValue139
  t66 := Tryz.underlying146
  a66 := Tryz.isAgg146
  z66 := Tryz.sizeOf146
  v66 := Tryz.zeroValue146
  t70 := Tryz.underlying150
  a70 := Tryz.isAgg150
  z70 := Tryz.sizeOf150
  v70 := Tryz.zeroValue150
  t76 := Tryz.underlying154
  a76 := Tryz.isAgg154
  z76 := Tryz.sizeOf154
  v76 := Tryz.zeroValue154
  t77 := Tryz.underlying155
  a77 := Tryz.isAgg155
  z77 := Tryz.sizeOf155
  v77 := Tryz.zeroValue155 }

theorem c_slices_SortFunc_impl_Item_impl_Item__impl_sortByDistance_1 {Ak : List (Int × (List Int) × Int)} {Do : Int} {Dq : List Int} {Dr : Option Addr} {Ds : Nat} {Dt Du Dv : Nat} {Dw Dx : List Value} {Dy : Option Addr} {Dz : Nat} {Ea Eb Ec : Nat} {Ed Ee : List Value} {r : List (Int × (List Int) × Int)} (h : M.slices_SortFunc_impl_Item_impl_Item__impl_sortByDistance_1 Ak Do Dq = some r) :
    Cal2 Tryz.prog 61 [(Sl Dr Ak Ds), (.func (.func 62) #[] #[(pt Du Dv), (pt Eb Ec)])] [Ch.own 0 0 (Sl Dr Ak Ds) Ak, Ch.bx Dt Du Dv [(I Do)] Dw Dx, Ch.bx Ea Eb Ec [(Sl Dy Dq Dz)] Ed Ee, Ch.ro 0 (Sl Dy Dq Dz) Dq] (fun n0 v L => v = (.tuple #[]) ∧ L = [Ch.own 0 0 (Sl Dr r Ds) r, Ch.bx Dt Du Dv [(I Do)] Dw Dx, Ch.bx Ea Eb Ec [(Sl Dy Dq Dz)] Ed Ee] ∧ r.length = Ak.length) := by
 obtain ⟨hn, hs, hL, rfl⟩ := sortD_some h
 have hE : ∀ σ σ' : St, Ext σ σ' → (RS 0 σ (Sl (some ⟨Du, Dv, none⟩) ([Do] : List Int) 1) ([Do] : List Int) ∧ RS 0 σ (Sl (some ⟨Eb, Ec, none⟩) ([Dq] : List (List Int)) 1) ([Dq] : List (List Int)) ∧ RS 0 σ (Sl Dy Dq Dz) Dq) → (RS 0 σ' (Sl (some ⟨Du, Dv, none⟩) ([Do] : List Int) 1) ([Do] : List Int) ∧ RS 0 σ' (Sl (some ⟨Eb, Ec, none⟩) ([Dq] : List (List Int)) 1) ([Dq] : List (List Int)) ∧ RS 0 σ' (Sl Dy Dq Dz) Dq) := fun σ σ' hE hp => ⟨hp.1.ext hE, hp.2.1.ext hE, hp.2.2.ext hE⟩
 have hB : ∀ σ : St, allAs σ [Ch.bx Dt Du Dv [(I Do)] Dw Dx, Ch.bx Ea Eb Ec [(Sl Dy Dq Dz)] Ed Ee, Ch.ro 0 (Sl Dy Dq Dz) Dq] → apart [Ch.bx Dt Du Dv [(I Do)] Dw Dx, Ch.bx Ea Eb Ec [(Sl Dy Dq Dz)] Ed Ee, Ch.ro 0 (Sl Dy Dq Dz) Dq] → ∃ σp, Pb (cov [Ch.bx Dt Du Dv [(I Do)] Dw Dx, Ch.bx Ea Eb Ec [(Sl Dy Dq Dz)] Ed Ee, Ch.ro 0 (Sl Dy Dq Dz) Dq]) σ σp ∧ (RS 0 σp (Sl (some ⟨Du, Dv, none⟩) ([Do] : List Int) 1) ([Do] : List Int) ∧ RS 0 σp (Sl (some ⟨Eb, Ec, none⟩) ([Dq] : List (List Int)) 1) ([Dq] : List (List Int)) ∧ RS 0 σp (Sl Dy Dq Dz) Dq) := by
     intro σ hA hP
     obtain ⟨σ0, p0, r0, a0⟩ := pubBox (α := Int) (x := Do) hA hP (by exact rfl)
     obtain ⟨σ1, p1, r1, a1⟩ := pubBox (α := List Int) (x := Dq) a0 hP.2 (by exact ⟨_, rfl, (a0.2.1 : RS 0 σ0 (Sl Dy Dq Dz) Dq)⟩)
     exact ⟨σ1, (p0.trans p1).mono (fun i h => h.elim (fun h => .inl h) (fun h => .inr (.inl h))), (r0.ext p1.md.ext), r1, a1.1⟩
 have hC : ∀ σ : St, (RS 0 σ (Sl (some ⟨Du, Dv, none⟩) ([Do] : List Int) 1) ([Do] : List Int) ∧ RS 0 σ (Sl (some ⟨Eb, Ec, none⟩) ([Dq] : List (List Int)) 1) ([Dq] : List (List Int)) ∧ RS 0 σ (Sl Dy Dq Dz) Dq) → ∀ x ∈ Ak, ∀ y ∈ Ak, ∀ cx cy, Rp.rp 0 σ cx x → Rp.rp 0 σ cy y → Calls Tryz.prog 62 ([Value.agg cx.toArray, Value.agg cy.toArray] ++ [(pt Du Dv), (pt Eb Ec)]).toArray σ.w fun e w' => e = .returned (I ((M.impl_sortByDistance_1__p3__p24 (x.1, x.2.1, x.2.2) (y.1, y.2.1, y.2.2) Do Dq).getD 0)) ∧ ∃ q os, w' = Go.Sort.grow (σ.w.drewN q) os := by
     intro σ hp x hx y hy cx cy rx ry
     obtain ⟨r, hr⟩ := hs x hx y hy
     obtain ⟨_, _, rfl, rfl, ⟨_, _, rfl, ⟨_, rfl, hRx_1⟩, rfl⟩⟩ := rx
     obtain ⟨_, _, rfl, rfl, ⟨_, _, rfl, ⟨_, rfl, hRy_1⟩, rfl⟩⟩ := ry
     obtain ⟨ax_1, cx_1, rfl⟩ := hRx_1.isSl
     obtain ⟨ay_1, cy_1, rfl⟩ := hRy_1.isSl
     have hc := c_impl_sortByDistance_1__p3__p24 (Am := ax_1) (Ao := cx_1) (Dh := ay_1) (Di := cy_1) (Dj := Du) (Dk := Dv) (Dm := Eb) (Dn := Ec) hr
     refine (hc.runs σ 0 (Nat.zero_le _) (Hp.begin ⟨hRx_1, ⟨hRy_1, ⟨hp.1, ⟨hp.2.1, trivial⟩⟩⟩⟩ ⟨fun _ h => h.elim, ⟨fun _ h => h.elim, ⟨fun _ h => h.elim, ⟨fun _ h => h.elim, trivial⟩⟩⟩⟩)).mono ?_
     rintro e w' ⟨v, σ', L', rfl, rfl, ⟨rfl, -⟩, H⟩
     exact ⟨by rw [hr]; rfl, (H.md.mono fun i => fun h => h.elim (fun h => h.elim) (fun h => h.elim (fun h => h.elim) (fun h => h.elim (fun h => h.elim) (fun h => h.elim (fun h => h.elim) (fun h => h))))).grown⟩
 refine (sort_cal2 (α := (Int × (List Int) × Int)) sort61 Tryz.isAgg59 Tryz.sizeOf59 (xs := Ak) (a := Dr) (c := Ds) (g := 62) (cb := [(pt Du Dv), (pt Eb Ec)]) (B := [Ch.bx Dt Du Dv [(I Do)] Dw Dx, Ch.bx Ea Eb Ec [(Sl Dy Dq Dz)] Ed Ee, Ch.ro 0 (Sl Dy Dq Dz) Dq]) (fun x y => (M.impl_sortByDistance_1__p3__p24 (x.1, x.2.1, x.2.2) (y.1, y.2.1, y.2.2) Do Dq).getD 0) hL hn ⟨_, _, Tryz.func62, rfl, rfl⟩ _ hE hB hC).conv ?_
 rintro m v L ⟨rfl, rfl⟩
 exact ⟨_, ⟨rfl, rfl, sortL_len⟩, fun H => H.sel' [0, 1, 2] rfl rfl⟩

theorem c_impl_sortByDistance {Ap : List (Int × (List Int) × Int)} {Au : Int} {Av : List Int} {Aq : Option Addr} {Ar : Nat} {Ax : Option Addr} {Ay : Nat} {r : (List (Int × (List Int) × Int))} (h : M.impl_sortByDistance Ap Au Av = some r) :
    Cal2 Tryz.prog 39 [(Sl Aq Ap Ar), (I Au), (Sl Ax Av Ay)] [Ch.ro 0 (Sl Aq Ap Ar) Ap, Ch.ro 0 (Sl Ax Av Ay) Av] (fun n0 v L => ∃ (az1 : Option Addr), ∃ (cz2 : Nat), v = (Sl az1 r cz2) ∧ L = [Ch.own 0 0 (Sl az1 r cz2) r]) := by
 refine cal2 (n := 14) Tryz.func39 rfl rfl rfl rfl ?_
 intro S0 σ0 n0 hn0 H
 unfold M.impl_sortByDistance at h
 refine c_seq (rg (st_ex (ex_box (cs := [(I Au)]) H hn0 rfl rfl) wn ?_))
 rintro _ σ2 ⟨b1, rfl, H, -⟩
 refine st_ex (ex_box (cs := [(Sl Ax Av Ay)]) H hn0 rfl rfl) wn ?_
 rintro _ σ4 ⟨b3, rfl, H, -⟩
 refine sa (.slice none 0 0) rfl (w_end (q_then (c_seq (rg (sm (Sl Aq Ap Ar) rfl ?_)))))
 revert h; refine br fun r5 hx6 h => ?_
 have hc7 := c_slices_Clone_impl_Item_impl_Item (Cv := Aq) (Cw := Ar) hx6
 refine st_call (cx_call hc7 (ent_f hc7.fn rfl) hn0 (H.sel' [2, 0, 1, 2, 3] rfl rfl : Hp S0 σ0 _ ([_] ++ _))) wn ?_
 rintro _ σ10 ⟨_, ⟨a8, c9, rfl, rfl⟩, H, -⟩
 replace H : Hp _ _ _ [_, _, _, _, _] := H
 refine sa (Sl a8 r5 c9) rfl (w_end (q_then (c_seq (rg (sm (Sl a8 r5 c9) rfl (st (v := (.func (.func 62) #[] #[(pt b1 0), (pt b3 0)])) (rv_makeFunc (vs := [(pt b1 0), (pt b3 0)]) rfl) ?_))))))
 replace H := H.ownLow 0 0 0 rfl (Nat.zero_le _) (Nat.zero_le _)
 revert h; refine br fun r11 hx12 h => ?_
 have hc13 := c_slices_SortFunc_impl_Item_impl_Item__impl_sortByDistance_1 (Dr := a8) (Ds := c9) (Dt := n0) (Du := b1) (Dv := 0) (Dw := []) (Dx := []) (Ea := n0) (Eb := b3) (Ec := 0) (Ed := []) (Ee := []) (Dy := Ax) (Dz := Ay) hx12
 refine st_call (cx_call hc13 (ent_f hc13.fn rfl) hn0 (H.sel' [0, 2, 1, 4, 3, 4] rfl rfl : Hp S0 σ0 _ ([_, _, _, _] ++ _))) wn ?_
 rintro _ σ15 ⟨_, ⟨rfl, rfl, hn14⟩, H, -⟩
 replace H : Hp _ _ _ [_, _, _, _, _] := H
 have hsl : (Sl a8 r5 c9) = (Sl a8 r11 c9) := sl_len hn14.symm
 try rw [hsl]
 try rw [hsl] at H
 clear hsl
 refine w_end (q_then (c_seq (rg (sm (Sl a8 r11 c9) rfl (sa (Sl a8 r11 c9) rfl (w_end (q_then (c_ret ?_))))))))
 obtain rfl := sj h
 exact fin_ret (v := (Sl a8 r11 c9)) (results_ok Tryz.results39 (res_tmp (v := (Sl a8 r11 c9)) rfl res_nil) rfl) ⟨a8, c9, rfl, rfl⟩ (H.sel' [0] rfl rfl)

theorem c_impl_growTree : ∀ (fuel : Nat) {Ap : List (Int × (List Int) × Int)} {Au : Int} {Aq : Option Addr} {Ar : Nat} {r : (Tr (Int × (List Int) × Int))} (h : M.impl_growTree fuel Ap Au = some r),
    Cal2 Tryz.prog 17 [(Sl Aq Ap Ar), (I Au)] [Ch.ro 0 (Sl Aq Ap Ar) Ap] (fun n0 v L => ∃ (az1 : Option Addr), v = (.pointer az1) ∧ L = [Ch.pr 0 (.pointer az1) r]) := by
 intro fuel
 induction fuel with
 | zero => intro _ _ _ _ r h; cases h
 | succ fuel ih =>
 ·intro Ap Au Aq Ar r h
  replace h : M.impl_growTree_F (M.impl_growTree fuel) Ap Au = some r := h
  refine cal2 (n := 54) Tryz.func17 rfl rfl rfl rfl ?_
  intro S0 σ0 n0 hn0 H
  unfold M.impl_growTree_F at h
  refine c_seq (rg (sa (.pointer none) rfl (w_end (q_then (c_seq (c_seq (rg (sm (Sl Aq Ap Ar) rfl (st (v := (I (Ap.length : Int))) (rv_len Tryz.underlying23 rfl) (st (v := (B ((Ap.length : Int) == 0))) (rv_eql (a := (Ap.length : Int)) (b := 0) rfl rfl) (w_end ?_)))))))))))
  refine q_then ?_
  refine cd_cond ((Ap.length : Int) == 0) rfl (fun hb1 => ?_) (fun hb1 => ?_)
  ·replace h := bif_t hb1 h
   refine c_seq (rg (sa (.pointer none) rfl (w_end (q_then (c_ret (q_then_r ?_))))))
   replace H := H.nilPr (Int × (List Int) × Int) 0
   obtain rfl := sj h
   exact fin_ret (v := (.pointer none)) (results_ok Tryz.results17 (res_tmp (v := (.pointer none)) rfl res_nil) rfl) ⟨none, rfl, rfl⟩ (H.sel' [0] rfl rfl)
  ·replace h := bif_f hb1 h
   refine c_skip (q_then (c_seq (rg (sm (Sl Aq Ap Ar) rfl ?_))))
   revert h; refine br fun x2 hx3 h => ?_
   obtain ⟨b5, o6, hi4, -⟩ := (H.ro 0 rfl).ix hx3
   refine st (v := (pt b5 o6)) (rv_ix Tryz.underlying23 ti59 rfl rfl hi4) ?_
   obtain ⟨_, ⟨_, _, rfl, rfl, ⟨_, _, rfl, ⟨_, rfl, hR11⟩, rfl⟩⟩, hl7, hc8⟩ := ((H.ro 0 rfl).at hx3 hi4).cells
   obtain ⟨a9, c10, rfl⟩ := hR11.isSl
   replace H := H.add (d := Ch.ro 0 (Sl a9 x2.2.1 c10) x2.2.1) hR11 (fun _ h => h)
   clear hR11
   refine st (v := (.agg #[(I x2.1), (Sl a9 x2.2.1 c10), (I x2.2.2)])) (rv_load Tryz.underlying59 rfl ti59 rfl hl7 hc8) (st_ex (ex_alloc (cs := [(I 0), (.slice none 0 0), (I 0)]) H hn0 ti59 rfl) wn ?_)
   rintro _ σ13 ⟨b12, rfl, H, -⟩
   refine st_exS (ex_store_box (k := 0) (cs := [(I 0), (.slice none 0 0), (I 0)]) (vs := [(I x2.1), (Sl a9 x2.2.1 c10), (I x2.2.2)]) (cs' := [(I x2.1), (Sl a9 x2.2.1 c10), (I x2.2.2)]) H (i := 0) rfl ti59 rfl rfl rfl rfl rfl (Nat.le_of_ble_eq_true rfl) (by simp [plain]) rfl) wn ?_
   rintro σ14 ⟨H, -⟩
   refine w_end (q_then (c_seq ?_))
   refine rgP (σ := σ14) 5 (by kernel_rfl) (by kernel_rfl) (by kernel_rfl) ?_
   refine sq (v := (Sl Aq Ap Ar)) (rv_move rfl) ?_
   revert h; refine br fun xs15 hx16 h => ?_
   obtain ⟨a17, c18, hs19, hR20⟩ := (H.ro 2 rfl).slice hx16
   replace H := H.add (d := Ch.ro 0 (Sl a17 xs15 c18) xs15) hR20 (fun _ h => h)
   clear hR20
   refine sq (v := (Sl a17 xs15 c18)) (rv_slice_l Tryz.underlying23 ti59 hs19 rfl rfl) (sq (v := (I Au)) (rv_move rfl) (sq (v := (pt b12 1)) (rv_fieldAddr (off := 1) (ft := 24) Tryz.underlying59 rfl ti24 rfl rfl) ?_))
   have hc21 := H.cell (u := (Sl a9 x2.2.1 c10)) (o' := 1) 1 1 rfl rfl rfl
   refine sq (v := (Sl a9 x2.2.1 c10)) (rv_load1 Tryz.underlying24 rfl rfl hc21) (sq_end ?_)
   intro σ22 hm23
   replace H := H.grow (hm23.mono fun _ h => h); clear hm23
   revert h; refine br fun r24 hx25 h => ?_
   have hc26 := c_impl_sortByDistance (Aq := a17) (Ar := c18) (Ax := a9) (Ay := c10) hx25
   refine st_call (cx_call hc26 (ent_f hc26.fn rfl) hn0 (H.sel' [0, 2, 0, 1, 2, 3] rfl rfl : Hp S0 σ0 _ ([_, _] ++ _))) wn ?_
   rintro _ σ29 ⟨_, ⟨a27, c28, rfl, rfl⟩, H, -⟩
   replace H : Hp _ _ _ [_, _, _, _, _] := H
   refine sa (Sl a27 r24 c28) rfl (w_end (q_then (c_seq (rg (sm (Sl a27 r24 c28) rfl (st (v := (I (r24.length : Int))) (rv_len Tryz.underlying23 rfl) (st (v := (I (w64 ((r24.length : Int) + 1)))) (rv_add (a := (r24.length : Int)) (b := 1) rfl rfl) ?_)))))))
   refine st (v := (I (w64 ((w64 ((r24.length : Int) + 1)).tdiv 2)))) (rv_quo (a := (w64 ((r24.length : Int) + 1))) (b := 2) rfl rfl (by decide)) ?_
   refine sa (I (w64 ((w64 ((r24.length : Int) + 1)).tdiv 2))) rfl (w_end (q_then (c_seq ?_)))
   obtain ⟨σ30, hw31, H, -⟩ := H.pub 0 rfl (Nat.le_refl _)
   rw [← hw31]; clear hw31
   have hc32 := H.cells 2 rfl
   revert h; refine br fun xs33 hx34 h => ?_
   obtain ⟨a35, c36, hs37, hR38⟩ := (H.ro 0 rfl).slice hx34
   replace H := H.add (d := Ch.ro 0 (Sl a35 xs33 c36) xs33) hR38 (fun _ h => h)
   clear hR38
   revert h; refine br fun r39 hx40 h => ?_
   have hc41 := ih (Aq := a35) (Ar := c36) hx40
   revert h; refine br fun xs43 hx44 h => ?_
   obtain ⟨a45, c46, hs47, hR48⟩ := (H.ro 1 rfl).slice hx44
   replace H := H.add (d := Ch.ro 0 (Sl a45 xs43 c46) xs43) hR48 (fun _ h => h)
   clear hR48
   revert h; refine br fun r49 hx50 h => ?_
   have hc51 := ih (Aq := a45) (Ar := c46) hx50
   have Hs := H
   refine rg2 (σ := σ30) (Nm := (Option Addr) × (Option Addr)) 11 [5, 10] [[false, false], [true, false], [true, true]] [[(0, 0), (1, 1), (2, 2)], [(0, 0)], [(0, 0)], [(0, 0)], [(0, 0)], [(0, 1)], [(0, 0), (1, 1)], [(0, 0), (1, 1)], [(0, 0), (1, 1)], [(0, 0), (1, 1)], [(1, 2)]] 2 [fun ((a42, a52) : (Option Addr) × (Option Addr)) => fun σm => Hp S0 σ0 σm [Ch.ro 0 (Sl a45 xs43 c46) xs43, Ch.ro 0 (Sl a35 xs33 c36) xs33, Ch.ro 0 (Sl a27 r24 c28) r24, Ch.ro 0 (Sl a17 xs15 c18) xs15, Ch.bx n0 b12 0 [(I x2.1), (Sl a9 x2.2.1 c10), (I x2.2.2)] [] [], Ch.ro 0 (Sl a9 x2.2.1 c10) x2.2.1, Ch.ro 0 (Sl Aq Ap Ar) Ap] ∧ Md (cov []) σ30 σm, fun ((a42, a52) : (Option Addr) × (Option Addr)) => fun σm => Hp S0 σ0 σm [Ch.pr 0 (.pointer a42) r39, Ch.ro 0 (Sl a45 xs43 c46) xs43, Ch.ro 0 (Sl a35 xs33 c36) xs33, Ch.ro 0 (Sl a27 r24 c28) r24, Ch.ro 0 (Sl a17 xs15 c18) xs15, Ch.bx n0 b12 0 [(I x2.1), (Sl a9 x2.2.1 c10), (I x2.2.2)] [] [], Ch.ro 0 (Sl a9 x2.2.1 c10) x2.2.1, Ch.ro 0 (Sl Aq Ap Ar) Ap] ∧ Md (cov []) σ30 σm, fun ((a42, a52) : (Option Addr) × (Option Addr)) => fun σm => Hp S0 σ0 σm [Ch.pr 0 (.pointer a52) r49, Ch.pr 0 (.pointer a42) r39, Ch.ro 0 (Sl a45 xs43 c46) xs43, Ch.ro 0 (Sl a35 xs33 c36) xs33, Ch.ro 0 (Sl a27 r24 c28) r24, Ch.ro 0 (Sl a17 xs15 c18) xs15, Ch.bx n0 b12 0 [(I x2.1), (Sl a9 x2.2.1 c10), (I x2.2.2)] [] [], Ch.ro 0 (Sl a9 x2.2.1 c10) x2.2.1, Ch.ro 0 (Sl Aq Ap Ar) Ap] ∧ Md (cov []) σ30 σm] [fun ((a42, a52) : (Option Addr) × (Option Addr)) => (.agg #[(I x2.1), (Sl a9 x2.2.1 c10), (I x2.2.2)]), fun ((a42, a52) : (Option Addr) × (Option Addr)) => (Sl a27 r24 c28), fun ((a42, a52) : (Option Addr) × (Option Addr)) => (I (w64 ((w64 ((r24.length : Int) + 1)).tdiv 2))), fun ((a42, a52) : (Option Addr) × (Option Addr)) => (Sl a35 xs33 c36), fun ((a42, a52) : (Option Addr) × (Option Addr)) => (I Au), fun ((a42, a52) : (Option Addr) × (Option Addr)) => (.pointer a42), fun ((a42, a52) : (Option Addr) × (Option Addr)) => (Sl a27 r24 c28), fun ((a42, a52) : (Option Addr) × (Option Addr)) => (I (w64 ((w64 ((r24.length : Int) + 1)).tdiv 2))), fun ((a42, a52) : (Option Addr) × (Option Addr)) => (Sl a45 xs43 c46), fun ((a42, a52) : (Option Addr) × (Option Addr)) => (I Au), fun ((a42, a52) : (Option Addr) × (Option Addr)) => (.pointer a52)] (none, none) (by kernel_rfl) (by kernel_rfl) ?_ ?_ ?_
   ·intro σm m0
    exact ⟨H.grow (m0.mono fun _ h => h.elim), m0⟩
   ·refine all_cons (by
      refine ⟨?_, ?_⟩
      ·rintro ⟨a42, a52⟩ ρ σm hJ hoff hdep
       have e5 := look_off (N := 54) (hoff 5 rfl) rfl
       obtain ⟨H, m⟩ := id hJ
       have hc32 := H.cells 4 rfl
       exact dp_v (v := (.agg #[(I x2.1), (Sl a9 x2.2.1 c10), (I x2.2.2)])) wn (rv_load (cs := [(I x2.1), (Sl a9 x2.2.1 c10), (I x2.2.2)]) Tryz.underlying59 rfl ti59 e5 rfl hc32) rfl hJ
      refine ⟨?_, ?_⟩
      ·rintro ⟨a42, a52⟩ ρ σm hJ hoff hdep
       have e5 := look_off (N := 54) (hoff 5 rfl) rfl
       obtain ⟨H, m⟩ := id hJ
       have hc32 := H.cells 5 rfl
       exact dp_v (v := (.agg #[(I x2.1), (Sl a9 x2.2.1 c10), (I x2.2.2)])) wn (rv_load (cs := [(I x2.1), (Sl a9 x2.2.1 c10), (I x2.2.2)]) Tryz.underlying59 rfl ti59 e5 rfl hc32) rfl hJ
      refine ⟨?_, ?_⟩
      ·rintro ⟨a42, a52⟩ ρ σm hJ hoff hdep
       have e5 := look_off (N := 54) (hoff 5 rfl) rfl
       obtain ⟨H, m⟩ := id hJ
       have hc32 := H.cells 6 rfl
       exact dp_v (v := (.agg #[(I x2.1), (Sl a9 x2.2.1 c10), (I x2.2.2)])) wn (rv_load (cs := [(I x2.1), (Sl a9 x2.2.1 c10), (I x2.2.2)]) Tryz.underlying59 rfl ti59 e5 rfl hc32) rfl hJ
      trivial) ?_
    refine ac rfl (by
      intro k; rintro ⟨a42, a52⟩ ρ σm hJ hoff hdep
      have e6 := look_off (N := 54) (hoff 6 rfl) rfl
      exact dp_v (v := (Sl a27 r24 c28)) wn (rv_move e6) rfl hJ) ?_
    refine ac rfl (by
      intro k; rintro ⟨a42, a52⟩ ρ σm hJ hoff hdep
      have e7 := look_off (N := 54) (hoff 7 rfl) rfl
      exact dp_v (v := (I (w64 ((w64 ((r24.length : Int) + 1)).tdiv 2)))) wn (rv_move e7) rfl hJ) ?_
    refine ac rfl (by
      intro k; rintro ⟨a42, a52⟩ ρ σm hJ hoff hdep
      have e26 := hdep 1 rfl rfl 26 rfl
      have e27 := hdep 2 rfl rfl 27 rfl
      exact dp_v (v := (Sl a35 xs33 c36)) wn (rv_slice_h Tryz.underlying23 ti59 hs37 e26 e27) rfl hJ) ?_
    refine ac rfl (by
      intro k; rintro ⟨a42, a52⟩ ρ σm hJ hoff hdep
      have e1 := look_off (N := 54) (hoff 1 rfl) rfl
      exact dp_v (v := (I Au)) wn (rv_move e1) rfl hJ) ?_
    refine all_cons (by
      refine ⟨?_, ?_⟩
      ·rintro ⟨a42, a52⟩ ρ σm hJ hoff hdep
       have e28 : look 54 ρ 28 = (Sl a35 xs33 c36) := hdep 3 rfl rfl 28 rfl
       have e29 : look 54 ρ 29 = (I Au) := hdep 4 rfl rfl 29 rfl
       obtain ⟨H, m⟩ := id hJ
       refine dp_cx wn (cx_call hc41 (ent_f hc41.fn (by show [look 54 ρ 28, look 54 ρ 29] = _; rw [e28, e29])) hn0 (H.sel' [1, 0, 1, 2, 3, 4, 5, 6] rfl rfl : Hp S0 σ0 _ ([_] ++ _))) ?_
       rintro _ σq ⟨_, ⟨a42x, rfl, rfl⟩, H2, m2⟩
       exact ⟨_, (a42x, a52), rfl, rfl, ⟨H2.sel' [0, 1, 2, 3, 4, 5, 6, 7] rfl rfl, m.comp0 (m2.mono (fun i h => by simp [cov, Ch.ro] at h))⟩, stab [0, 1, 2, 3, 4, 6, 7, 8, 9] (by kernel_rfl) ⟨rfl, rfl, rfl, rfl, rfl, rfl, rfl, rfl, rfl, trivial⟩⟩
      trivial) ?_
    refine ac rfl (by
      intro k; rintro ⟨a42, a52⟩ ρ σm hJ hoff hdep
      have e6 := look_off (N := 54) (hoff 6 rfl) rfl
      exact dp_v (v := (Sl a27 r24 c28)) wn (rv_move e6) rfl hJ) ?_
    refine ac rfl (by
      intro k; rintro ⟨a42, a52⟩ ρ σm hJ hoff hdep
      have e7 := look_off (N := 54) (hoff 7 rfl) rfl
      exact dp_v (v := (I (w64 ((w64 ((r24.length : Int) + 1)).tdiv 2)))) wn (rv_move e7) rfl hJ) ?_
    refine ac rfl (by
      intro k; rintro ⟨a42, a52⟩ ρ σm hJ hoff hdep
      have e31 := hdep 6 rfl rfl 31 rfl
      have e32 := hdep 7 rfl rfl 32 rfl
      exact dp_v (v := (Sl a45 xs43 c46)) wn (rv_slice_l Tryz.underlying23 ti59 hs47 e31 e32) rfl hJ) ?_
    refine ac rfl (by
      intro k; rintro ⟨a42, a52⟩ ρ σm hJ hoff hdep
      have e1 := look_off (N := 54) (hoff 1 rfl) rfl
      exact dp_v (v := (I Au)) wn (rv_move e1) rfl hJ) ?_
    refine all_cons (by
      refine ⟨?_, ?_⟩
      ·rintro ⟨a42, a52⟩ ρ σm hJ hoff hdep
       have e33 : look 54 ρ 33 = (Sl a45 xs43 c46) := hdep 8 rfl rfl 33 rfl
       have e34 : look 54 ρ 34 = (I Au) := hdep 9 rfl rfl 34 rfl
       obtain ⟨H, m⟩ := id hJ
       refine dp_cx wn (cx_call hc51 (ent_f hc51.fn (by show [look 54 ρ 33, look 54 ρ 34] = _; rw [e33, e34])) hn0 (H.sel' [1, 0, 1, 2, 3, 4, 5, 6, 7] rfl rfl : Hp S0 σ0 _ ([_] ++ _))) ?_
       rintro _ σq ⟨_, ⟨a52x, rfl, rfl⟩, H2, m2⟩
       exact ⟨_, (a42, a52x), rfl, rfl, ⟨H2.sel' [0, 1, 2, 3, 4, 5, 6, 7, 8] rfl rfl, m.comp0 (m2.mono (fun i h => by simp [cov, Ch.ro] at h))⟩, stab [0, 1, 2, 3, 4, 5, 6, 7, 8, 9] (by kernel_rfl) ⟨rfl, rfl, rfl, rfl, rfl, rfl, rfl, rfl, rfl, rfl, trivial⟩⟩
      trivial) ?_
    exact all_nil
   ·rintro ⟨a42, a52⟩ ρ σ53 hJ hoff hrel
    have e1 := look_off (N := 54) (hoff 1 rfl) rfl
    have e5 := look_off (N := 54) (hoff 5 rfl) rfl
    have e6 := look_off (N := 54) (hoff 6 rfl) rfl
    have e7 := look_off (N := 54) (hoff 7 rfl) rfl
    have e25 := hrel 0 rfl 25 rfl
    have e30 := hrel 5 rfl 30 rfl
    have e35 := hrel 10 rfl 35 rfl
    obtain ⟨H, -⟩ := (show Hp S0 σ0 σ53 [Ch.pr 0 (.pointer a52) r49, Ch.pr 0 (.pointer a42) r39, Ch.ro 0 (Sl a45 xs43 c46) xs43, Ch.ro 0 (Sl a35 xs33 c36) xs33, Ch.ro 0 (Sl a27 r24 c28) r24, Ch.ro 0 (Sl a17 xs15 c18) xs15, Ch.bx n0 b12 0 [(I x2.1), (Sl a9 x2.2.1 c10), (I x2.2.2)] [] [], Ch.ro 0 (Sl a9 x2.2.1 c10) x2.2.1, Ch.ro 0 (Sl Aq Ap Ar) Ap] ∧ Md (cov []) σ30 σ53 from hJ)
    clear hJ Hs
    rw [fr_lookL (L := [(1, (I Au)), (5, (pt b12 0)), (6, (Sl a27 r24 c28)), (7, (I (w64 ((w64 ((r24.length : Int) + 1)).tdiv 2)))), (25, (.agg #[(I x2.1), (Sl a9 x2.2.1 c10), (I x2.2.2)])), (30, (.pointer a42)), (35, (.pointer a52))]) ⟨e1, e5, e6, e7, e25, e30, e35, trivial⟩]
    clear hoff hrel e1 e5 e6 e7 e25 e30 e35
    refine st (v := (.agg #[(I x2.1), (Sl a9 x2.2.1 c10), (I x2.2.2), (I 0), (.pointer a42), (.pointer a52)])) (rv_build (ps := [(0, (.agg #[(I x2.1), (Sl a9 x2.2.1 c10), (I x2.2.2)])), (2, (.pointer a42)), (3, (.pointer a52))]) Tryz.underlying68 ti68 (bp68 Tryz.underlying68) rfl (by kernel_rfl)) ?_
    refine st_ex (ex_box (cs := [(I x2.1), (Sl a9 x2.2.1 c10), (I x2.2.2), (I 0), (.pointer a42), (.pointer a52)]) H hn0 rfl rfl) wn ?_
    rintro _ σ55 ⟨b54, rfl, H, -⟩
    replace H : Hp S0 σ0 σ55 [Ch.bx n0 b54 0 [(I x2.1), (Sl a9 x2.2.1 c10), (I x2.2.2), (I 0), (.pointer a42), (.pointer a52)] [] [], Ch.pr 0 (.pointer a52) r49, Ch.pr 0 (.pointer a42) r39, Ch.ro 0 (Sl a27 r24 c28) r24, Ch.bx n0 b12 0 [(I x2.1), (Sl a9 x2.2.1 c10), (I x2.2.2)] [] [], Ch.ro 0 (Sl a9 x2.2.1 c10) x2.2.1] := H.sel' [0, 1, 2, 5, 7, 8] rfl rfl
    refine sa (pt b54 0) rfl (w_end (q_then (c_seq (c_seq (rg (sm (I (w64 ((w64 ((r24.length : Int) + 1)).tdiv 2))) rfl (st (v := (B (decide (0 < (w64 ((w64 ((r24.length : Int) + 1)).tdiv 2)))))) (rv_gtr (a := (w64 ((w64 ((r24.length : Int) + 1)).tdiv 2))) (b := 0) rfl rfl) (w_end (q_then ?_)))))))))
    obtain ⟨o56, hj, h'⟩ := bind_some h
    clear h
    refine c_cut (fun e a w => e = .normal ∧ ∃ (ρ : Nat → Value) (σ : St) (aj1 : Option Addr) (cj2 : Nat) (aj3 : Option Addr) (aj4 : Option Addr), a = fr 54 (updL ρ [(8, (pt b54 0))]) ∧ w = σ.w ∧ Hp S0 σ0 σ [Ch.bx n0 b54 0 [(I o56.1.1), (Sl aj1 o56.1.2.1 cj2), (I o56.1.2.2), (I o56.2.1), (.pointer aj3), (.pointer aj4)] [] [], Ch.ro 0 (Sl aj1 o56.1.2.1 cj2) o56.1.2.1, Ch.pr 0 (.pointer aj3) o56.2.2.1, Ch.pr 0 (.pointer aj4) o56.2.2.2]) ?_ ?_
    ·clear h'
     rename _ = some o56 => h
     refine cd_cond (decide (0 < (w64 ((w64 ((r24.length : Int) + 1)).tdiv 2)))) rfl (fun hb57 => ?_) (fun hb57 => ?_)
     ·replace h := bif_t hb57 h
      have hc58 := H.cell (u := (Sl a9 x2.2.1 c10)) (o' := 1) 4 1 rfl rfl rfl
      revert h; refine br fun x59 hx60 h => ?_
      obtain ⟨b62, o63, hi61, -⟩ := (H.ro 3 rfl).ix hx60
      obtain ⟨v67, hc68, hR66⟩ := ((H.ro 3 rfl).at hx60 hi61).snd.fst.slice
      obtain ⟨a64, c65, rfl⟩ := hR66.isSl
      replace H := H.add (d := Ch.ro 0 (Sl a64 x59.2.1 c65) x59.2.1) hR66 (fun _ h => h)
      clear hR66
      revert h; refine br fun r69 hx70 h => ?_
      have hc71 := c_impl_Distance (Bh := a9) (Bi := c10) (Bj := a64) (Bk := c65) hx70
      have Hs := H
      refine rg2 (σ := σ55) (Nm := Unit) 11 [10] [[false], [true]] [[(0, 0), (1, 1)], [(0, 0)], [(0, 0)], [(0, 0)], [(0, 0)], [(0, 0)], [(0, 0)], [(0, 0)], [(0, 0)], [(0, 0)], [(0, 1)]] 1 [fun _ => fun σm => Hp S0 σ0 σm [Ch.ro 0 (Sl a64 x59.2.1 c65) x59.2.1, Ch.bx n0 b54 0 [(I x2.1), (Sl a9 x2.2.1 c10), (I x2.2.2), (I 0), (.pointer a42), (.pointer a52)] [] [], Ch.pr 0 (.pointer a52) r49, Ch.pr 0 (.pointer a42) r39, Ch.ro 0 (Sl a27 r24 c28) r24, Ch.bx n0 b12 0 [(I x2.1), (Sl a9 x2.2.1 c10), (I x2.2.2)] [] [], Ch.ro 0 (Sl a9 x2.2.1 c10) x2.2.1] ∧ Md (cov []) σ55 σm, fun _ => fun σm => Hp S0 σ0 σm [Ch.ro 0 (Sl a64 x59.2.1 c65) x59.2.1, Ch.bx n0 b54 0 [(I x2.1), (Sl a9 x2.2.1 c10), (I x2.2.2), (I 0), (.pointer a42), (.pointer a52)] [] [], Ch.pr 0 (.pointer a52) r49, Ch.pr 0 (.pointer a42) r39, Ch.ro 0 (Sl a27 r24 c28) r24, Ch.bx n0 b12 0 [(I x2.1), (Sl a9 x2.2.1 c10), (I x2.2.2)] [] [], Ch.ro 0 (Sl a9 x2.2.1 c10) x2.2.1] ∧ Md (cov []) σ55 σm] [fun _ => (pt b54 0), fun _ => (I Au), fun _ => (pt b12 1), fun _ => (Sl a9 x2.2.1 c10), fun _ => (Sl a27 r24 c28), fun _ => (I (w64 ((w64 ((r24.length : Int) + 1)).tdiv 2))), fun _ => (I (w64 ((w64 ((w64 ((r24.length : Int) + 1)).tdiv 2)) - 1))), fun _ => (pt b62 o63), fun _ => (pt b62 (o63 + 1)), fun _ => (Sl a64 x59.2.1 c65), fun _ => (I r69)] () (by kernel_rfl) (by kernel_rfl) ?_ ?_ ?_
      ·intro σm m0
       exact ⟨H.grow (m0.mono fun _ h => h.elim), m0⟩
      ·refine ac rfl (by
         intro k _nm ρ σm hJ hoff hdep
         have e8 := look_off (N := 54) (hoff 8 rfl) rfl
         exact dp_v (v := (pt b54 0)) wn (rv_move e8) rfl hJ) ?_
       refine ac rfl (by
         intro k _nm ρ σm hJ hoff hdep
         have e1 := look_off (N := 54) (hoff 1 rfl) rfl
         exact dp_v (v := (I Au)) wn (rv_move e1) rfl hJ) ?_
       refine ac rfl (by
         intro k _nm ρ σm hJ hoff hdep
         have e5 := look_off (N := 54) (hoff 5 rfl) rfl
         exact dp_v (v := (pt b12 1)) wn (rv_fieldAddr (off := 1) (ft := 24) Tryz.underlying59 rfl ti24 rfl e5) rfl hJ) ?_
       refine all_cons (by
         refine ⟨?_, ?_⟩
         ·intro _nm ρ σm hJ hoff hdep
          have e42 := hdep 2 rfl rfl 42 rfl
          obtain ⟨H, m⟩ := id hJ
          have hc58 := H.cell (u := (Sl a9 x2.2.1 c10)) (o' := 1) 5 1 rfl rfl rfl
          exact dp_v (v := (Sl a9 x2.2.1 c10)) wn (rv_load1 Tryz.underlying24 rfl e42 hc58) rfl hJ
         trivial) ?_
       refine ac rfl (by
         intro k _nm ρ σm hJ hoff hdep
         have e6 := look_off (N := 54) (hoff 6 rfl) rfl
         exact dp_v (v := (Sl a27 r24 c28)) wn (rv_move e6) rfl hJ) ?_
       refine ac rfl (by
         intro k _nm ρ σm hJ hoff hdep
         have e7 := look_off (N := 54) (hoff 7 rfl) rfl
         exact dp_v (v := (I (w64 ((w64 ((r24.length : Int) + 1)).tdiv 2)))) wn (rv_move e7) rfl hJ) ?_
       refine ac rfl (by
         intro k _nm ρ σm hJ hoff hdep
         have e45 := hdep 5 rfl rfl 45 rfl
         exact dp_v (v := (I (w64 ((w64 ((w64 ((r24.length : Int) + 1)).tdiv 2)) - 1)))) wn (rv_sub (a := (w64 ((w64 ((r24.length : Int) + 1)).tdiv 2))) (b := 1) e45 rfl) rfl hJ) ?_
       refine ac rfl (by
         intro k _nm ρ σm hJ hoff hdep
         have e44 := hdep 4 rfl rfl 44 rfl
         have e46 := hdep 6 rfl rfl 46 rfl
         exact dp_v (v := (pt b62 o63)) wn (rv_ix Tryz.underlying23 ti59 e44 e46 hi61) rfl hJ) ?_
       refine ac rfl (by
         intro k _nm ρ σm hJ hoff hdep
         have e47 := hdep 7 rfl rfl 47 rfl
         exact dp_v (v := (pt b62 (o63 + 1))) wn (rv_fieldAddr (off := 1) (ft := 24) Tryz.underlying59 rfl ti24 rfl e47) rfl hJ) ?_
       refine all_cons (by
         refine ⟨?_, ?_⟩
         ·intro _nm ρ σm hJ hoff hdep
          have e48 := hdep 8 rfl rfl 48 rfl
          obtain ⟨H, m⟩ := id hJ
          replace hc68 := (Hs.ro 4 rfl).hmd hx60 hi61 (k := 1) (by decide) hc68 m
          exact dp_v (v := (Sl a64 x59.2.1 c65)) wn (rv_load1 Tryz.underlying24 rfl e48 hc68) rfl hJ
         trivial) ?_
       refine all_cons (by
         refine ⟨?_, ?_⟩
         ·intro _nm ρ σm hJ hoff hdep
          have e41 : look 54 ρ 41 = (I Au) := hdep 1 rfl rfl 41 rfl
          have e43 : look 54 ρ 43 = (Sl a9 x2.2.1 c10) := hdep 3 rfl rfl 43 rfl
          have e49 : look 54 ρ 49 = (Sl a64 x59.2.1 c65) := hdep 9 rfl rfl 49 rfl
          obtain ⟨H, m⟩ := id hJ
          refine dp_cx wn (cx_call hc71 (ent_f hc71.fn (by show [look 54 ρ 41, look 54 ρ 43, look 54 ρ 49] = _; rw [e41, e43, e49])) hn0 (H.sel' [6, 0, 0, 1, 2, 3, 4, 5, 6] rfl rfl : Hp S0 σ0 _ ([_, _] ++ _))) ?_
          rintro _ σq ⟨_, ⟨rfl, rfl⟩, H2, m2⟩
          exact ⟨_, (), rfl, rfl, ⟨H2.sel' [0, 1, 2, 3, 4, 5, 6] rfl rfl, m.comp0 (m2.mono (fun i h => by simp [cov, Ch.ro] at h))⟩, stab [0, 1, 2, 3, 4, 5, 6, 7, 8, 9] (by kernel_rfl) ⟨rfl, rfl, rfl, rfl, rfl, rfl, rfl, rfl, rfl, rfl, trivial⟩⟩
         trivial) ?_
       exact all_nil
      ·intro _nm ρ σ72 hJ hoff hrel
       have e8 := look_off (N := 54) (hoff 8 rfl) rfl
       have e40 := hrel 0 rfl 40 rfl
       have e50 := hrel 10 rfl 50 rfl
       obtain ⟨H, -⟩ := (show Hp S0 σ0 σ72 [Ch.ro 0 (Sl a64 x59.2.1 c65) x59.2.1, Ch.bx n0 b54 0 [(I x2.1), (Sl a9 x2.2.1 c10), (I x2.2.2), (I 0), (.pointer a42), (.pointer a52)] [] [], Ch.pr 0 (.pointer a52) r49, Ch.pr 0 (.pointer a42) r39, Ch.ro 0 (Sl a27 r24 c28) r24, Ch.bx n0 b12 0 [(I x2.1), (Sl a9 x2.2.1 c10), (I x2.2.2)] [] [], Ch.ro 0 (Sl a9 x2.2.1 c10) x2.2.1] ∧ Md (cov []) σ55 σ72 from hJ)
       clear hJ Hs
       rw [fr_lookL (L := [(8, (pt b54 0)), (40, (pt b54 0)), (50, (I r69))]) ⟨e8, e40, e50, trivial⟩]
       clear hoff hrel e8 e40 e50
       refine st (v := (pt b54 0)) (rv_nilCheck rfl) (st (v := (pt b54 3)) (rv_fieldAddr (off := 3) (ft := 3) Tryz.underlying68 rfl ti3 rfl rfl) ?_)
       refine st_exS (ex_store_box (k := 3) (cs := [(I x2.1), (Sl a9 x2.2.1 c10), (I x2.2.2), (I 0), (.pointer a42), (.pointer a52)]) (vs := [(I r69)]) (cs' := [(I x2.1), (Sl a9 x2.2.1 c10), (I x2.2.2), (I r69), (.pointer a42), (.pointer a52)]) H (i := 1) rfl ti3 rfl rfl rfl rfl rfl (Nat.le_of_ble_eq_true rfl) (by simp [plain]) rfl) wn ?_
       rintro σ73 ⟨H, -⟩
       refine w_end ?_
       obtain rfl := sj h
       exact ⟨rfl, _, σ73, a9, c10, a42, a52, fr_join ⟨rfl, trivial⟩, rfl, H.sel' [0, 6, 3, 2] rfl rfl⟩
     ·replace h := bif_f hb57 h
      refine c_skip ?_
      obtain rfl := sj h
      exact ⟨rfl, _, σ55, a9, c10, a42, a52, fr_join ⟨rfl, trivial⟩, rfl, H.sel' [0, 5, 2, 1] rfl rfl⟩
    ·clear hj
     have h := h'
     clear h' H
     rintro e a w ⟨rfl, ρ, σ74, a75, c76, a77, a78, rfl, rfl, H⟩
     refine q_then (c_seq (rg (sm (pt b54 0) rfl (sa (pt b54 0) rfl (w_end (q_then (c_ret ?_)))))))
     have hp81 : Rp.rp 0 σ74 [(I o56.1.1), (Sl a75 o56.1.2.1 c76), (I o56.1.2.2), (I o56.2.1), (.pointer a77), (.pointer a78)] (((o56.1.1, o56.1.2.1, o56.1.2.2), o56.2.1, o56.2.2.1, o56.2.2.2) : (Int × (List Int) × Int) × Int × (Tr (Int × (List Int) × Int)) × (Tr (Int × (List Int) × Int))) := ⟨[(I o56.1.1), (Sl a75 o56.1.2.1 c76), (I o56.1.2.2)], [(I o56.2.1), (.pointer a77), (.pointer a78)], rfl, ⟨[(I o56.1.1)], [(Sl a75 o56.1.2.1 c76), (I o56.1.2.2)], rfl, rfl, ⟨[(Sl a75 o56.1.2.1 c76)], [(I o56.1.2.2)], rfl, ⟨_, rfl, (H.ro 1 rfl)⟩, rfl⟩⟩, ⟨[(I o56.2.1)], [(.pointer a77), (.pointer a78)], rfl, rfl, ⟨[(.pointer a77)], [(.pointer a78)], rfl, ⟨_, rfl, (H.pr 2 rfl)⟩, ⟨_, rfl, (H.pr 3 rfl)⟩⟩⟩⟩
     obtain ⟨σ79, hw80, H, -⟩ := H.pubTr 0 rfl (Nat.zero_le _) hp81
     rw [← hw80]; clear hw80
     obtain rfl := sj h
     exact fin_ret (v := (.pointer (some ⟨b54, 0, none⟩))) (results_ok Tryz.results17 (res_tmp (v := (.pointer (some ⟨b54, 0, none⟩))) rfl res_nil) rfl) ⟨(some ⟨b54, 0, none⟩), rfl, rfl⟩ (H.sel' [0] rfl rfl)

theorem c_slices_Values_impl_hitHeap_impl_Hit {Cu : List (Int × Int)} {Cv : Option Addr} {Cw : Nat} {r : Unit} (h : M.slices_Values_impl_hitHeap_impl_Hit Cu = some r) :
    Cal2 Tryz.prog 42 [(Sl Cv Cu Cw)] [Ch.ro 0 (Sl Cv Cu Cw) Cu] (fun n0 v L => ∃ (bz1 : Nat), v = (.func (.func 67) #[] #[(pt bz1 0)]) ∧ L = [Ch.bx n0 bz1 0 [(Sl Cv Cu Cw)] [] []]) := by
 refine cal2 (n := 4) Tryz.func42 rfl rfl rfl rfl ?_
 intro S0 σ0 n0 hn0 H
 unfold M.slices_Values_impl_hitHeap_impl_Hit at h
 refine c_seq (rg (st_ex (ex_box (cs := [(Sl Cv Cu Cw)]) H hn0 rfl rfl) wn ?_))
 rintro _ σ2 ⟨b1, rfl, H, -⟩
 refine sa (.nilFunc) rfl (w_end (q_then (c_seq (rg (st (v := (.func (.func 67) #[] #[(pt b1 0)])) (rv_makeFunc (vs := [(pt b1 0)]) rfl) (sa (.func (.func 67) #[] #[(pt b1 0)]) rfl (w_end (q_then (c_ret ?_)))))))))
 obtain rfl := sj h
 exact fin_ret (v := (.func (.func 67) #[] #[(pt b1 0)])) (results_ok Tryz.results42 (res_tmp (v := (.func (.func 67) #[] #[(pt b1 0)])) rfl res_nil) rfl) ⟨b1, rfl, rfl⟩ (H.sel' [0] rfl rfl)

theorem it_slices_AppendSeq_impl_Hit_impl_Hit__slices_Values_impl_hitHeap_impl_Hit_1 {b o c l : Nat} {a : Option Addr} {xs : List (Int × Int)} {J : Nat → St → Prop} (hst : ∀ {i σ σ'}, J i σ → Md (fun _ => False) σ σ' → J i σ')
    (hbx : ∀ {i σ}, J i σ → HCell σ.w.heap b o = some (Sl a xs c) ∧ Rd 0 σ (Sl a xs c) xs) (hn : xs.length ≤ 2147483648)
    (hy : ∀ i, (h : i < xs.length) → ∀ σ, J i σ → YieldAt Fence.wide 0 Tryz.prog l [(.agg #[(I (xs[i]).1), (I (xs[i]).2)])].toArray σ.w fun e W' => e = .returned (.bool true) ∧ ∃ σ', W' = σ'.w ∧ J (i + 1) σ')
    (σ : St) (h0 : J 0 σ) : CallsIn Fence.wide 0 Tryz.prog 67 [.func (.yield l) #[] #[], (pt b o)].toArray σ.w fun e W' => (∃ v, e = .returned v) ∧ ∃ σ', W' = σ'.w ∧ J xs.length σ' := by
  refine enterI (n := 16) Tryz.func67 rfl rfl rfl ?_
  refine wpIn_seq ?_
  obtain ⟨hc, -⟩ := hbx h0
  refine rgI ?_
  refine stI nofun (v := (Sl a xs c)) (rv_load1 Tryz.underlying34 rfl rfl hc) ?_
  refine stI nofun (v := (I (xs.length : Int))) (rv_len Tryz.underlying34 rfl) ?_
  refine stI nofun (v := (I 0)) (rv_move rfl) ?_
  refine endI ?_
  refine q_then (wpIn_block ?_)
  refine wpIn_loop_ghost (fun k a' w' => ∃ i ρ σ, i + k = xs.length ∧ a' = fr 16 (updL ρ [(0, .func (.yield l) #[] #[]), (1, pt b o), (5, Sl a xs c), (6, I (xs.length : Int)), (7, I (i : Int))]) ∧ w' = σ.w ∧ J i σ) xs.length ⟨0, _, σ, by omega, fr_join ⟨rfl, rfl, rfl, rfl, rfl, trivial⟩, rfl, h0⟩ ?_
  clear hc h0
  rintro k _ _ ⟨i, ρ, σ, hik, rfl, rfl, hJ⟩
  refine wpIn_seq ?_
  refine rgI ?_
  refine stI nofun (v := (B (decide ((i : Int) < (xs.length : Int))))) (rv_lss (a := (i : Int)) (b := (xs.length : Int)) rfl rfl) ?_
  refine endI ?_
  refine q_then (wpIn_seq ?_)
  refine cdI_cond (decide ((i : Int) < (xs.length : Int))) rfl (fun hb => ?_) (fun hb => ?_)
  · have hlt : i < xs.length := by have := of_decide_eq_true hb; omega
    refine wpIn_skip ?_
    refine q_then (wpIn_seq ?_)
    refine wpIn_block ?_
    refine wpIn_seq ?_
    refine rgI ?_
    have hg : gidx xs (i : Int) = some xs[i] := gidx_at hlt
    obtain ⟨-, hR⟩ := hbx hJ
    obtain ⟨bx, ox, hi, hat⟩ := hR.ix hg
    obtain ⟨_, ⟨_, _, rfl, rfl, rfl⟩, hl, hcx⟩ := hat.cells
    refine stI nofun (v := (pt bx ox)) (rv_ix Tryz.underlying34 ti43 rfl rfl hi) ?_
    refine stI nofun (v := (.agg #[(I (xs[i]).1), (I (xs[i]).2)])) (rv_load (cs := [(I (xs[i]).1), (I (xs[i]).2)]) Tryz.underlying43 rfl ti43 rfl hl hcx) ?_
    have H : Hp (cov []) σ σ [] := Hp.begin trivial trivial
    refine stI_ex nofun (ex_alloc (lo := 0) H (Nat.zero_le _) ti43 rfl) ?_
    rintro _ σ2 ⟨b4, rfl, H, -⟩
    refine stI_exS nofun (ex_store_box (vs := [(I (xs[i]).1), (I (xs[i]).2)]) (k := 0) H (i := 0) rfl ti43 rfl rfl rfl rfl rfl (Nat.le_of_ble_eq_true rfl) (by simp [plain]) rfl) ?_
    rintro σ3 ⟨H, -⟩
    refine endI ?_
    refine q_then (wpIn_seq ?_)
    refine rgI ?_
    refine stI nofun (v := (.func (.yield l) #[] #[])) (rv_move rfl) ?_
    have hc4 := H.cells 0 rfl
    refine stI nofun (v := (.agg #[(I (xs[i]).1), (I (xs[i]).2)])) (rv_load (cs := [(I (xs[i]).1), (I (xs[i]).2)]) Tryz.underlying43 rfl ti43 rfl rfl hc4) ?_
    refine stI_yield (args := [(.agg #[(I (xs[i]).1), (I (xs[i]).2)])]) rfl rfl (hy i hlt σ3 (hst hJ H.md)) ?_
    rintro e w' ⟨rfl, σ4, rfl, hJ4⟩
    refine ⟨_, rfl, ?_⟩
    refine stI nofun (v := (B (!true))) (rv_not rfl) ?_
    refine endI ?_
    refine q_then ?_
    refine cdI_cond false rfl (fun hb => by cases hb) (fun _ => ?_)
    refine wpIn_skip ?_
    refine q_blk (q_then (rgI ?_))
    refine stI nofun (v := (I (w64 ((i : Int) + 1)))) (rv_add (a := (i : Int)) (b := 1) rfl rfl) ?_
    refine stI nofun (v := (I (w64 ((i : Int) + 1)))) (rv_move rfl) ?_
    refine endI ?_
    have e1 : w64 ((i : Int) + 1) = ((i + 1 : Nat) : Int) := w64_id (by omega) (by omega)
    rw [e1]
    refine q_then ?_
    exact ⟨k - 1, by omega, i + 1, _, σ4, by omega, fr_join ⟨rfl, rfl, rfl, rfl, rfl, trivial⟩, rfl, hJ4⟩
  · have hlt : ¬ i < xs.length := by have := of_decide_eq_false hb; omega
    have : i = xs.length := by omega
    subst this
    refine wpIn_exit ?_
    refine q_then_x (q_then_x (q_blk_hit ?_))
    exact fin_plain' (v := .tuple #[]) (results_ok Tryz.results67 res_nil rfl) ⟨⟨_, rfl⟩, σ, rfl, hJ⟩
theorem c_slices_AppendSeq_impl_Hit_impl_Hit__slices_Values_impl_hitHeap_impl_Hit_1 {Ef : List (Int × Int)} {Eg : Option Addr} {Eh : Nat} {Ei Ej Ek : Nat} {El Em : List Value} {r : List (Int × Int)} (h : M.slices_AppendSeq_impl_Hit_impl_Hit__slices_Values_impl_hitHeap_impl_Hit_1 Ef = some r) :
    Cal2 Tryz.prog 86 [.slice none 0 0, (.func (.func 67) #[] #[(pt Ej Ek)])] [Ch.bx Ei Ej Ek [(Sl Eg Ef Eh)] El Em, Ch.ro 0 (Sl Eg Ef Eh) Ef] (fun n0 v L => ∃ (az1 : Option Addr), ∃ (cz2 : Nat), v = (Sl az1 r cz2) ∧ L = [Ch.own n0 n0 (Sl az1 r cz2) r, Ch.bx Ei Ej Ek [(Sl Eg Ef Eh)] El Em]) := by
  obtain ⟨hn, rfl⟩ := coll_some (show M.coll Ef = some r from h)
  refine ⟨⟨_, _, Tryz.func86, rfl, rfl⟩, fun σ0 n0 hn0 H => ?_⟩
  refine callsIn_wide.1 (enterI (n := 13) Tryz.func86 rfl rfl rfl ?_)
  refine wpIn_seq ?_
  refine rgI ?_
  refine stI_ex nofun (ex_box (cs := [.slice none 0 0]) H hn0 rfl rfl) ?_
  rintro _ σ1 ⟨b1, rfl, H, -⟩
  refine stI nofun (v := (.slice none 0 0)) (rv_assign rfl) ?_
  refine endI ?_
  refine q_then (wpIn_seq ?_)
  refine wpIn_seq ?_
  refine rgI ?_
  refine stI nofun (v := (.func (.func 67) #[] #[(pt Ej Ek)])) (rv_move rfl) ?_
  refine endI ?_
  refine q_then (wpIn_block ?_)
  replace H := H.nilOwn (Int × Int) n0 n0
  refine wp_rangeF (gf := 67) (lb := #[(pt Ej Ek)]) (N := r.length) (encs := fun i => [(.agg #[(I (r.getD i (0, 0)).1), (I (r.getD i (0, 0)).2)])].toArray) (by rw [fr_eval]; rfl) (eg_of ⟨_, _, Tryz.func67, rfl, rfl⟩) (fun _ _ => rfl)
    (fun i L => ∃ a' c', L = [Ch.own n0 n0 (Sl a' (r.take i) c') (r.take i), Ch.bx n0 b1 0 [(Sl a' (r.take i) c')] [] [], Ch.bx Ei Ej Ek [(Sl Eg r Eh)] El Em, Ch.ro 0 (Sl Eg r Eh) r]) ⟨none, 0, rfl⟩ H ?_ ?_ ?_
  · intro l J hst hJ hy σ h0
    refine it_slices_AppendSeq_impl_Hit_impl_Hit__slices_Values_impl_hitHeap_impl_Hit_1 (J := J) (a := Eg) (c := Eh) hst (fun {i σ} h => ?_) hn (fun i hi σ h => ?_) σ h0
    · obtain ⟨L, R, ⟨a', c', rfl⟩, H⟩ := hJ h
      have H2 := H.drop R
      exact ⟨H2.cells 2 rfl 0 (by simp), (H2.ro 3 rfl).rd⟩
    · have := hy i hi σ h
      simpa [List.getD, hi] using this
  · rintro l D i rc rc' hi σ _ ⟨a', c', rfl⟩ H
    have hgd : r.getD i (0, 0) = r[i] := by simp [List.getD, hi]
    simp only [hgd]
    rw [round_fr]
    refine rgI ?_
    refine stI_ex nofun (ex_alloc (lo := n0) H hn0 ti43 rfl) ?_
    rintro _ σ2 ⟨b5, rfl, H, -⟩
    refine stI_exS nofun (ex_store_box (vs := [(I (r[i]).1), (I (r[i]).2)]) (cs' := [(I (r[i]).1), (I (r[i]).2)]) (k := 0) H (i := 0) rfl ti43 rfl rfl rfl rfl rfl (Nat.le_of_ble_eq_true rfl) (by simp [plain]) rfl) ?_
    rintro σ3 ⟨H, -⟩
    refine endI ?_
    refine q_then ?_
    refine ⟨σ3, _, rfl, H.sel' [1, 2, 0, 3, 4, 5, 6] rfl rfl, ?_⟩
    clear H
    intro σ4 H
    refine wpIn_block ?_
    refine rgI ?_
    have hc1 := H.cells 4 rfl
    refine stI nofun (v := (Sl a' (r.take i) c')) (rv_load1 Tryz.underlying27 rfl rfl (hc1 0 (by simp))) ?_
    have hc5 := H.cells 2 rfl
    refine stI nofun (v := (.agg #[(I (r[i]).1), (I (r[i]).2)])) (rv_load (cs := [(I (r[i]).1), (I (r[i]).2)]) Tryz.underlying43 rfl ti43 rfl rfl hc5) ?_
    refine stI_ex nofun (ex_buildSlice (lo := n0) (el := n0) (xs := ([((r[i]).1, (r[i]).2)] : List (Int × Int))) (ps := [(0, (.agg #[(I (r[i]).1), (I (r[i]).2)]))]) (cs := [(I (r[i]).1), (I (r[i]).2)]) H hn0 Tryz.underlying27 ti43 rfl rfl (by kernel_rfl) (.cons (c := [(I (r[i]).1), (I (r[i]).2)]) ⟨_, _, rfl, rfl, rfl⟩ .nil) rfl) ?_
    rintro _ σ5 ⟨b10, rfl, H, -⟩
    refine stI_ex nofun (ex_append H (i := 4) rfl Tryz.underlying27 Tryz.underlying27 ti43 rfl rfl (by decide) (H.own 0 rfl).rd (take_gapp hi hn) hn0 rfl rfl) ?_
    rintro _ σ6 ⟨a2, c2, rfl, H, -⟩
    refine stI_exS nofun (ex_store_box (vs := [(Sl a2 (r.take (i + 1)) c2)]) (cs' := [(Sl a2 (r.take (i + 1)) c2)]) (k := 0) H (i := 5) rfl ti27 rfl rfl rfl rfl rfl (Nat.le_of_ble_eq_true rfl) (by simp [plain, Sl]) rfl) ?_
    rintro σ7 ⟨H, -⟩
    refine endI ?_
    refine q_blk ?_
    exact ⟨rfl, σ7, _, rfl, ⟨a2, c2, rfl⟩, H.sel' [3, 4, 1, 0, 6, 7] rfl rfl⟩
  · rintro D σ _ ⟨a', c', rfl⟩ H
    rw [List.take_length] at H
    refine q_blk (q_then (wpIn_seq ?_))
    refine rgD (ds := [{ target := .collected D, args := #[] }]) ?_
    have hc1 := H.cells 2 rfl
    refine stD nofun (v := (Sl a' r c')) (rv_load1 Tryz.underlying27 rfl rfl (hc1 0 (by simp))) ?_
    refine stD nofun (v := (Sl a' r c')) (rv_assign rfl) ?_
    refine endD ?_
    refine q_then (wpIn_ret ?_)
    exact fin_mark (v := Sl a' r c') H (results_ok Tryz.results86 (res_tmp (v := Sl a' r c') rfl res_nil) rfl) ⟨_, _, _, rfl, rfl, ⟨a', c', rfl, rfl⟩, (H.putDf _).sel' [0, 2] rfl rfl⟩

theorem c_slices_Collect_impl_Hit__slices_Values_impl_hitHeap_impl_Hit_1 {En : List (Int × Int)} {Eo : Option Addr} {Ep : Nat} {Er Es Et : Nat} {Eu Ev : List Value} {r : (List (Int × Int))} (h : M.slices_Collect_impl_Hit__slices_Values_impl_hitHeap_impl_Hit_1 En = some r) :
    Cal2 Tryz.prog 65 [(.func (.func 67) #[] #[(pt Es Et)])] [Ch.bx Er Es Et [(Sl Eo En Ep)] Eu Ev, Ch.ro 0 (Sl Eo En Ep) En] (fun n0 v L => ∃ (az1 : Option Addr), ∃ (cz2 : Nat), v = (Sl az1 r cz2) ∧ L = [Ch.own n0 n0 (Sl az1 r cz2) r, Ch.bx Er Es Et [(Sl Eo En Ep)] Eu Ev]) := by
 refine cal2 (n := 5) Tryz.func65 rfl rfl rfl rfl ?_
 intro S0 σ0 n0 hn0 H
 unfold M.slices_Collect_impl_Hit__slices_Values_impl_hitHeap_impl_Hit_1 at h
 refine c_seq (rg (sa (.slice none 0 0) rfl (w_end (q_then (c_seq (rg (sm (.func (.func 67) #[] #[(pt Es Et)]) rfl ?_)))))))
 revert h; refine br fun r1 hx2 h => ?_
 have hc3 := c_slices_AppendSeq_impl_Hit_impl_Hit__slices_Values_impl_hitHeap_impl_Hit_1 (Ei := Er) (Ej := Es) (Ek := Et) (El := Eu) (Em := Ev) (Eg := Eo) (Eh := Ep) hx2
 refine st_call (cx_call hc3 (ent_f hc3.fn rfl) hn0 (H.sel' [0, 1, 1] rfl rfl : Hp S0 σ0 _ ([_, _] ++ _))) wn ?_
 rintro _ σ6 ⟨_, ⟨a4, c5, rfl, rfl⟩, H, -⟩
 replace H : Hp _ _ _ [_, _, _] := H
 refine sa (Sl a4 r1 c5) rfl (w_end (q_then (c_ret ?_)))
 obtain rfl := sj h
 exact fin_ret (v := (Sl a4 r1 c5)) (results_ok Tryz.results65 (res_tmp (v := (Sl a4 r1 c5)) rfl res_nil) rfl) ⟨a4, c5, rfl, rfl⟩ (H.sel' [0, 1] rfl rfl)

def sort66_ren : Go.Shelf.Ren := ⟨fun | 6 => 66 | 15 => 85 | 14 => 87 | 28 => 102 | 29 => 103 | 20 => 104 | 21 => 105 | 22 => 106 | 23 => 107 | 24 => 108 | 25 => 109 | 26 => 110 | 27 => 111 | 46 => 118 | 47 => 114 | 48 => 115 | 49 => 119 | 50 => 120 | 57 => 122 | n => n, fun | 22 => 27 | 24 => 43 | 25 => 79 | 3 => 3 | 39 => 121 | 0 => 0 | 53 => 137 | 55 => 139 | 4 => 4 | 46 => 130 | 45 => 129 | 50 => 134 | 5 => 5 | 9 => 9 | 66 => 146 | 70 => 150 | 76 => 154 | 77 => 155 | n => n, fun | n => n⟩
theorem sort66 : Go.Proofs.SlLaysF0.n6 Tryz.prog sort66_ren := {
  mixed := by kernel_rfl
  f6 := ⟨Tryz.f66.name, by decide, Tryz.func66.trans (congrArg some (by kernel_rfl))⟩
  f14 := ⟨Tryz.f87.name, by decide, Tryz.func87.trans (congrArg some (by kernel_rfl))⟩
  f15 := Tryz.func85.trans (congrArg some (by kernel_rfl))
  f20 := ⟨Tryz.f104.name, by decide, Tryz.func104.trans (congrArg some (by kernel_rfl))⟩
  f21 := ⟨Tryz.f105.name, by decide, Tryz.func105.trans (congrArg some (by kernel_rfl))⟩
  f22 := ⟨Tryz.f106.name, by decide, Tryz.func106.trans (congrArg some (by kernel_rfl))⟩
  f23 := ⟨Tryz.f107.name, by decide, Tryz.func107.trans (congrArg some (by kernel_rfl))⟩
  f24 := ⟨Tryz.f108.name, by decide, Tryz.func108.trans (congrArg some (by kernel_rfl))⟩
  f25 := ⟨Tryz.f109.name, by decide, Tryz.func109.trans (congrArg some (by kernel_rfl))⟩
  f26 := ⟨Tryz.f110.name, by decide, Tryz.func110.trans (congrArg some (by kernel_rfl))⟩
  f27 := ⟨Tryz.f111.name, by decide, Tryz.func111.trans (congrArg some (by kernel_rfl))⟩
  f28 := Tryz.func102.trans (congrArg some (by kernel_rfl))
  f29 := Tryz.func103.trans (congrArg some (by kernel_rfl))
  f46 := ⟨Tryz.f118.name, by decide, Tryz.func118.trans (congrArg some (by kernel_rfl))⟩
  f47 := Tryz.func114.trans (congrArg some (by kernel_rfl))
  f48 := Tryz.func115.trans (congrArg some (by kernel_rfl))
  f49 := ⟨Tryz.f119.name, by decide, Tryz.func119.trans (congrArg some (by kernel_rfl))⟩
  f50 := ⟨Tryz.f120.name, by decide, Tryz.func120.trans (congrArg some (by kernel_rfl))⟩
  f57 := ⟨Tryz.f122.name, by decide, Tryz.func122.trans (congrArg some (by kernel_rfl))⟩
  t0 := Tryz.underlying0
  a0 := Tryz.isAgg0
  z0 := Tryz.sizeOf0
  v0 := Tryz.zeroValue0
  t3 := Tryz.underlying3
  a3 := Tryz.isAgg3
  z3 := Tryz.sizeOf3
  v3 := Tryz.zeroValue3
  t4 := Tryz.underlying4
  a4 := Tryz.isAgg4
  z4 := Tryz.sizeOf4
  v4 := Tryz.zeroValue4
  t5 := Tryz.underlying5
  a5 := Tryz.isAgg5
  z5 := Tryz.sizeOf5
  v5 := Tryz.zeroValue5
  t9 := Tryz.underlying9
  a9 := Tryz.isAgg9
  z9 := Tryz.sizeOf9
  v9 := Tryz.zeroValue9
  t22 := Tryz.underlying27
  a22 := Tryz.isAgg27
  z22 := Tryz.sizeOf27
  v22 := Tryz.zeroValue27
  t25 := Tryz.underlying79
  a25 := Tryz.isAgg79
  z25 := Tryz.sizeOf79
  v25 := Tryz.zeroValue79
  t39 := Tryz.underlying121
  a39 := Tryz.isAgg121
  z39 := Tryz.sizeOf121
  v39 := Tryz.zeroValue121
  t45 := Tryz.underlying129
  a45 := Tryz.isAgg129
  z45 := Tryz.sizeOf129
  v45 := Tryz.zeroValue129
  t46 := Tryz.underlying130
  a46 := Tryz.isAgg130
  z46 := Tryz.sizeOf130
  v46 := Tryz.zeroValue130
  t50 := Tryz.underlying134
  a50 := Tryz.isAgg134
  z50 := Tryz.sizeOf134
  v50 := Tryz.zeroValue134
  t53 := Tryz.underlying137
  a53 := Tryz.isAgg137
  z53 := Tryz.sizeOf137
  v53 := Tryz.zeroValue137
  t55 := Tryz.underlying139
  a55 := Tryz.isAgg139
  z55 := Tryz.sizeOf139
  v55 := Tryz.zeroValue139
  t66 := Tryz.underlying146
  a66 := Tryz.isAgg146
  z66 := Tryz.sizeOf146
  v66 := Tryz.zeroValue146
  t70 := Tryz.underlying150
  a70 := Tryz.isAgg150
  z70 := Tryz.sizeOf150
  v70 := Tryz.zeroValue150
  t76 := Tryz.underlying154
  a76 := Tryz.isAgg154
  z76 := Tryz.sizeOf154
  v76 := Tryz.zeroValue154
  t77 := Tryz.underlying155
  a77 := Tryz.isAgg155
  z77 := Tryz.sizeOf155
  v77 := Tryz.zeroValue155 }

theorem c_slices_SortFunc_impl_Hit_impl_Hit__impl_compareHits {Ak : List (Int × Int)} {Dr : Option Addr} {Ds : Nat} {r : List (Int × Int)} (h : M.slices_SortFunc_impl_Hit_impl_Hit__impl_compareHits Ak = some r) :
    Cal2 Tryz.prog 66 [(Sl Dr Ak Ds), (.func (.func 43) #[] #[])] [Ch.own 0 0 (Sl Dr Ak Ds) Ak] (fun n0 v L => v = (.tuple #[]) ∧ L = [Ch.own 0 0 (Sl Dr r Ds) r] ∧ r.length = Ak.length) := by
 obtain ⟨hn, hs, hL, rfl⟩ := sortD_some h
 have hE : ∀ σ σ' : St, Ext σ σ' → (True) → (True) := fun _ _ _ hp => hp
 have hB : ∀ σ : St, allAs σ [] → apart [] → ∃ σp, Pb (cov []) σ σp ∧ True := fun σ _ _ => ⟨σ, ⟨rfl, fun _ _ => rfl, fun _ => Nat.le_refl _⟩, trivial⟩
 have hC : ∀ σ : St, (True) → ∀ x ∈ Ak, ∀ y ∈ Ak, ∀ cx cy, Rp.rp 0 σ cx x → Rp.rp 0 σ cy y → Calls Tryz.prog 43 ([Value.agg cx.toArray, Value.agg cy.toArray] ++ []).toArray σ.w fun e w' => e = .returned (I ((M.impl_compareHits (x.1, x.2) (y.1, y.2)).getD 0)) ∧ ∃ q os, w' = Go.Sort.grow (σ.w.drewN q) os := by
     intro σ hp x hx y hy cx cy rx ry
     obtain ⟨r, hr⟩ := hs x hx y hy
     obtain ⟨_, _, rfl, rfl, rfl⟩ := rx
     obtain ⟨_, _, rfl, rfl, rfl⟩ := ry
     have hc := c_impl_compareHits  hr
     refine (hc.runs σ 0 (Nat.zero_le _) (Hp.begin trivial trivial)).mono ?_
     rintro e w' ⟨v, σ', L', rfl, rfl, ⟨rfl, -⟩, H⟩
     exact ⟨by rw [hr]; rfl, (H.md.mono fun i => fun h => h).grown⟩
 refine (sort_cal2 (α := (Int × Int)) sort66 Tryz.isAgg43 Tryz.sizeOf43 (xs := Ak) (a := Dr) (c := Ds) (g := 43) (cb := []) (B := []) (fun x y => (M.impl_compareHits (x.1, x.2) (y.1, y.2)).getD 0) hL hn ⟨_, _, Tryz.func43, rfl, rfl⟩ _ hE hB hC).conv ?_
 rintro m v L ⟨rfl, rfl⟩
 exact ⟨_, ⟨rfl, rfl, sortL_len⟩, fun H => H.sel' [0] rfl rfl⟩

theorem c_slices_SortedFunc_impl_Hit__slices_Values_impl_hitHeap_impl_Hit_1__impl_compareHits {En : List (Int × Int)} {Eo : Option Addr} {Ep : Nat} {Er Es Et : Nat} {Eu Ev : List Value} {r : (List (Int × Int))} (h : M.slices_SortedFunc_impl_Hit__slices_Values_impl_hitHeap_impl_Hit_1__impl_compareHits En = some r) :
    Cal2 Tryz.prog 41 [(.func (.func 67) #[] #[(pt Es Et)]), (.func (.func 43) #[] #[])] [Ch.bx Er Es Et [(Sl Eo En Ep)] Eu Ev, Ch.ro 0 (Sl Eo En Ep) En] (fun n0 v L => ∃ (az1 : Option Addr), ∃ (cz2 : Nat), v = (Sl az1 r cz2) ∧ L = [Ch.own 0 n0 (Sl az1 r cz2) r, Ch.bx Er Es Et [(Sl Eo En Ep)] Eu Ev]) := by
 refine cal2 (n := 12) Tryz.func41 rfl rfl rfl rfl ?_
 intro S0 σ0 n0 hn0 H
 unfold M.slices_SortedFunc_impl_Hit__slices_Values_impl_hitHeap_impl_Hit_1__impl_compareHits at h
 refine c_seq (rg (sa (.slice none 0 0) rfl (w_end (q_then (c_seq (rg (sm (.func (.func 67) #[] #[(pt Es Et)]) rfl ?_)))))))
 revert h; refine br fun r1 hx2 h => ?_
 have hc3 := c_slices_Collect_impl_Hit__slices_Values_impl_hitHeap_impl_Hit_1 (Er := Er) (Es := Es) (Et := Et) (Eu := Eu) (Ev := Ev) (Eo := Eo) (Ep := Ep) hx2
 refine st_call (cx_call hc3 (ent_f hc3.fn rfl) hn0 (H.sel' [0, 1, 1] rfl rfl : Hp S0 σ0 _ ([_, _] ++ _))) wn ?_
 rintro _ σ6 ⟨_, ⟨a4, c5, rfl, rfl⟩, H, -⟩
 replace H : Hp _ _ _ [_, _, _] := H
 refine sa (Sl a4 r1 c5) rfl (w_end (q_then (c_seq (rg (sm (Sl a4 r1 c5) rfl (sm (.func (.func 43) #[] #[]) rfl ?_))))))
 replace H := H.ownLow 0 0 0 rfl (Nat.zero_le _) (Nat.zero_le _)
 revert h; refine br fun r7 hx8 h => ?_
 have hc9 := c_slices_SortFunc_impl_Hit_impl_Hit__impl_compareHits (Dr := a4) (Ds := c5) hx8
 refine st_call (cx_call hc9 (ent_f hc9.fn rfl) hn0 (H.sel' [0, 1, 2] rfl rfl : Hp S0 σ0 _ ([_] ++ _))) wn ?_
 rintro _ σ11 ⟨_, ⟨rfl, rfl, hn10⟩, H, -⟩
 replace H : Hp _ _ _ [_, _, _] := H
 have hsl : (Sl a4 r1 c5) = (Sl a4 r7 c5) := sl_len hn10.symm
 try rw [hsl]
 try rw [hsl] at H
 clear hsl
 refine w_end (q_then (c_seq (rg (sm (Sl a4 r7 c5) rfl (sa (Sl a4 r7 c5) rfl (w_end (q_then (c_ret ?_))))))))
 replace H := H.ownSc 0 0 n0 rfl (Nat.le_refl _)
 obtain rfl := sj h
 exact fin_ret (v := (Sl a4 r7 c5)) (results_ok Tryz.results41 (res_tmp (v := (Sl a4 r7 c5)) rfl res_nil) rfl) ⟨a4, c5, rfl, rfl⟩ (H.sel' [0, 1] rfl rfl)

theorem c_impl_nearestHits_inOrder {Ce : Int × (List (Int × Int))} {Cg : Option Addr} {Ci : Nat} {Cj Ck Cl : Nat} {Cm Cn : List Value} {r : (List (Int × Int))} (h : M.impl_nearestHits_inOrder Ce = some r) :
    Cal2 Tryz.prog 18 [(pt Ck Cl)] [Ch.bx Cj Ck Cl [(I Ce.1), (Sl Cg Ce.2 Ci)] Cm Cn, Ch.ro 0 (Sl Cg Ce.2 Ci) Ce.2] (fun n0 v L => ∃ (az1 : Option Addr), ∃ (cz2 : Nat), v = (Sl az1 r cz2) ∧ L = [Ch.own 0 n0 (Sl az1 r cz2) r, Ch.bx Cj Ck Cl [(I Ce.1), (Sl Cg Ce.2 Ci)] Cm Cn]) := by
 refine cal2 (n := 9) Tryz.func18 rfl rfl rfl rfl ?_
 intro S0 σ0 n0 hn0 H
 unfold M.impl_nearestHits_inOrder at h
 refine c_seq (rg (sa (.slice none 0 0) rfl (w_end (q_then (c_seq (rg (sm (pt Ck Cl) rfl (st (v := (pt Ck Cl)) (rv_nilCheck rfl) (st (v := (pt Ck (Cl + 1))) (rv_fieldAddr (off := 1) (ft := 34) Tryz.underlying36 rfl ti34 rfl rfl) ?_)))))))))
 have hc1 := H.cell (u := (Sl Cg Ce.2 Ci)) (o' := (Cl + 1)) 0 1 rfl rfl rfl
 refine st (v := (Sl Cg Ce.2 Ci)) (rv_load1 Tryz.underlying34 rfl rfl hc1) ?_
 revert h; refine br fun r2 hx3 h => ?_
 have hc4 := c_slices_Values_impl_hitHeap_impl_Hit (Cv := Cg) (Cw := Ci) hx3
 refine st_call (cx_call hc4 (ent_f hc4.fn rfl) hn0 (H.sel' [1, 0, 1] rfl rfl : Hp S0 σ0 _ ([_] ++ _))) wn ?_
 rintro _ σ6 ⟨_, ⟨b5, rfl, rfl⟩, H, -⟩
 replace H : Hp _ _ _ [_, _, _] := H
 revert h; refine br fun r7 hx8 h => ?_
 have hc9 := c_slices_SortedFunc_impl_Hit__slices_Values_impl_hitHeap_impl_Hit_1__impl_compareHits (Er := n0) (Es := b5) (Et := 0) (Eu := []) (Ev := []) (Eo := Cg) (Ep := Ci) hx8
 refine st_call (cx_call hc9 (ent_f hc9.fn rfl) hn0 (H.sel' [0, 2, 1, 2] rfl rfl : Hp S0 σ0 _ ([_, _] ++ _))) wn ?_
 rintro _ σ12 ⟨_, ⟨a10, c11, rfl, rfl⟩, H, -⟩
 replace H : Hp _ _ _ [_, _, _, _] := H
 refine sa (Sl a10 r7 c11) rfl (w_end (q_then (c_ret ?_)))
 obtain rfl := sj h
 exact fin_ret (v := (Sl a10 r7 c11)) (results_ok Tryz.results18 (res_tmp (v := (Sl a10 r7 c11)) rfl res_nil) rfl) ⟨a10, c11, rfl, rfl⟩ (H.sel' [0, 2] rfl rfl)

theorem c_impl_TreeNearest {Ap : List (Int × (List Int) × Int)} {Au : Int} {Av : List Int} {Aw : Int} {Aq : Option Addr} {Ar : Nat} {Ax : Option Addr} {Ay : Nat} {r : (List (Int × Int))} (h : M.impl_TreeNearest Ap Au Av Aw = some r) :
    Cal2 Tryz.prog 6 [(Sl Aq Ap Ar), (I Au), (Sl Ax Av Ay), (I Aw)] [Ch.ro 0 (Sl Aq Ap Ar) Ap, Ch.ro 0 (Sl Ax Av Ay) Av] (fun n0 v L => ∃ (az1 : Option Addr), ∃ (cz2 : Nat), v = (Sl az1 r cz2) ∧ L = [Ch.own 0 n0 (Sl az1 r cz2) r]) := by
 refine cal2 (n := 33) Tryz.func6 rfl rfl rfl rfl ?_
 intro S0 σ0 n0 hn0 H
 unfold M.impl_TreeNearest at h
 refine c_seq (rg (sa (.slice none 0 0) rfl (w_end (q_then (c_seq (c_seq ?_))))))
 obtain ⟨o1, hj, h'⟩ := bind_some h
 clear h
 refine c_cut (fun e a w => e = .normal ∧ ∃ (ρ : Nat → Value) (σ : St), a = fr 33 (updL ρ [(0, (Sl Aq Ap Ar)), (1, (I Au)), (2, (Sl Ax Av Ay)), (3, (I Aw)), (21, (B o1))]) ∧ w = σ.w ∧ Hp S0 σ0 σ [Ch.ro 0 (Sl Aq Ap Ar) Ap, Ch.ro 0 (Sl Ax Av Ay) Av]) ?_ ?_
 ·clear h'
  rename _ = some o1 => h
  refine rg (sm (I Au) rfl ?_)
  revert h; refine br fun r2 hx3 h => ?_
  have hc4 := c_impl_validTreeKind hx3
  refine st_call (cx_call hc4 (ent_f hc4.fn rfl) hn0 (H.sel' [0, 1] rfl rfl : Hp S0 σ0 _ ([] ++ _))) wn ?_
  rintro _ σ5 ⟨_, ⟨rfl, rfl⟩, H, -⟩
  replace H : Hp _ _ _ [_, _] := H
  refine st (v := (B (!r2))) (rv_not rfl) (sm (B (!r2)) rfl ?_)
  rcases Bool.eq_false_or_eq_true (!r2) with hb6 | hb6
  ·replace h := bif_t hb6 h
   refine st_skip (congrArg some hb6) (st_skip (congrArg some hb6) (st_skip (congrArg some hb6) (st_skip (congrArg some hb6) (st_skip (congrArg some hb6) (st_skip (congrArg some hb6) (st (v := (B true)) (rv_pick_t (congrArg B hb6) rfl) (w_end ?_)))))))
   obtain rfl := sj h
   exact ⟨rfl, _, σ5, fr_join ⟨rfl, rfl, rfl, rfl, rfl, trivial⟩, rfl, H.sel' [0, 1] rfl rfl⟩
  ·replace h := bif_f hb6 h
   refine st_g (v := (Sl Aq Ap Ar)) (congrArg some hb6) (rv_move rfl) (st_g (v := (I Au)) (congrArg some hb6) (rv_move rfl) (st_g (v := (Sl Ax Av Ay)) (congrArg some hb6) (rv_move rfl) (st_g (v := (I Aw)) (congrArg some hb6) (rv_move rfl) ?_)))
   revert h; refine br fun r7 hx8 h => ?_
   have hc9 := c_impl_validSearch (Aq := Aq) (Ar := Ar) (Ax := Ax) (Ay := Ay) hx8
   refine st_call (cx_call hc9 (ent_f hc9.fn rfl) hn0 (H.sel' [0, 1, 0, 1] rfl rfl : Hp S0 σ0 _ ([_, _] ++ _))) (wanted_yes rfl (by exact (congrArg some hb6))) ?_
   rintro _ σ10 ⟨_, ⟨rfl, rfl⟩, H, -⟩
   replace H : Hp _ _ _ [_, _] := H
   refine st_g (v := (B (!r7))) (congrArg some hb6) (rv_not rfl) (st (v := (B (!r7))) (rv_pick_f (congrArg B hb6) rfl) (w_end ?_))
   obtain rfl := sj h
   exact ⟨rfl, _, σ10, fr_join ⟨rfl, rfl, rfl, rfl, rfl, trivial⟩, rfl, H.sel' [0, 1] rfl rfl⟩
 ·clear hj
  have h := h'
  clear h' H
  rintro e a w ⟨rfl, ρ, σ11, rfl, rfl, H⟩
  refine q_then ?_
  refine cd_cond o1 rfl (fun hb12 => ?_) (fun hb12 => ?_)
  ·replace h := bif_t hb12 h
   refine c_seq (rg (sa (.slice none 0 0) rfl (w_end (q_then (c_ret (q_then_r ?_))))))
   replace H := H.nilOwn (Int × Int) 0 n0
   obtain rfl := sj h
   exact fin_ret (v := (.slice none 0 0)) (results_ok Tryz.results6 (res_tmp (v := (.slice none 0 0)) rfl res_nil) rfl) ⟨none, 0, rfl, rfl⟩ (H.sel' [0] rfl rfl)
  ·replace h := bif_f hb12 h
   refine c_skip (q_then (c_seq (rg (sm (Sl Aq Ap Ar) rfl (sm (I Au) rfl ?_)))))
   revert h; refine br fun r13 hx14 h => ?_
   have hc15 := c_impl_growTree 100 (Aq := Aq) (Ar := Ar) hx14
   refine st_call (cx_call hc15 (ent_f hc15.fn rfl) hn0 (H.sel' [0, 0, 1] rfl rfl : Hp S0 σ0 _ ([_] ++ _))) wn ?_
   rintro _ σ17 ⟨_, ⟨a16, rfl, rfl⟩, H, -⟩
   replace H : Hp _ _ _ [_, _, _] := H
   refine sm (I Au) rfl (sm (Sl Ax Av Ay) rfl (sm (I Aw) rfl ?_))
   revert h; refine br fun r18 hx19 h => ?_
   have hc20 := c_impl_searchTree (Ct := a16) (Ax := Ax) (Ay := Ay) hx19
   refine st_call (cx_call hc20 (ent_f hc20.fn rfl) hn0 (H.sel' [0, 2, 0, 1, 2] rfl rfl : Hp S0 σ0 _ ([_, _] ++ _))) wn ?_
   rintro _ σ23 ⟨_, ⟨a21, c22, rfl, rfl⟩, H, -⟩
   replace H : Hp _ _ _ [_, _, _, _] := H
   refine sm (.tuple #[(.agg #[(I r18.1.1), (Sl a21 r18.1.2 c22)]), (I r18.2)]) rfl (st (v := (.agg #[(I r18.1.1), (Sl a21 r18.1.2 c22)])) (rv_extract rfl rfl) (st (v := (I r18.2)) (rv_extract rfl rfl) (st_ex (ex_alloc (cs := [(I 0), (.slice none 0 0)]) H hn0 ti36 rfl) wn ?_)))
   rintro _ σ25 ⟨b24, rfl, H, -⟩
   refine st_exS (ex_store_box (k := 0) (cs := [(I 0), (.slice none 0 0)]) (vs := [(I r18.1.1), (Sl a21 r18.1.2 c22)]) (cs' := [(I r18.1.1), (Sl a21 r18.1.2 c22)]) H (i := 0) rfl ti36 rfl rfl rfl rfl rfl (Nat.le_of_ble_eq_true rfl) (by simp [plain]) rfl) wn ?_
   rintro σ26 ⟨H, -⟩
   refine sa (I r18.2) rfl (w_end (q_then (c_seq (rg ?_))))
   replace H := H.ownLow 1 0 0 rfl (Nat.le_refl _) (Nat.zero_le _)
   obtain ⟨σ27, hw28, H, -⟩ := H.pub 0 rfl (Nat.le_refl _)
   rw [← hw28]; clear hw28
   revert h; refine br fun r29 hx30 h => ?_
   have hc31 := c_impl_nearestHits_inOrder (Cj := n0) (Ck := b24) (Cl := 0) (Cm := []) (Cn := []) (Cg := a21) (Ci := c22) hx30
   refine st_call (cx_call hc31 (ent_f hc31.fn rfl) hn0 (H.sel' [1, 0, 0, 2, 3, 4] rfl rfl : Hp S0 σ0 _ ([_, _] ++ _))) wn ?_
   rintro _ σ34 ⟨_, ⟨a32, c33, rfl, rfl⟩, H, -⟩
   replace H : Hp _ _ _ [_, _, _, _, _, _] := H
   refine sa (Sl a32 r29 c33) rfl (w_end (q_then (c_ret ?_)))
   obtain rfl := sj h
   exact fin_ret (v := (Sl a32 r29 c33)) (results_ok Tryz.results6 (res_tmp (v := (Sl a32 r29 c33)) rfl res_nil) rfl) ⟨a32, c33, rfl, rfl⟩ (H.sel' [0] rfl rfl)

end Go.Vs
