/- The functions compute what their models say. -/
import Derived.Test.YtefojfippfoppaaGreatKTreeNearestC2
set_option linter.unusedVariables false
set_option linter.unusedSimpArgs false
set_option maxRecDepth 20000
namespace Go.Vs
open Go Go.Proofs
attribute [local irreducible] Code.wp Code.wpIn wpList wpListIn wpQuiet Calls CallsIn

theorem c_impl_compareHits {Bs : Int × Int} {Bt : Int × Int}  {r : Int} (h : M.impl_compareHits Bs Bt = some r) :
    Cal2 Tryz.prog 72 [(.agg #[(I Bs.1), (I Bs.2)]), (.agg #[(I Bt.1), (I Bt.2)])] [] (fun n0 v L => v = (I r) ∧ L = []) := by
 refine cal2 (n := 17) Tryz.func72 rfl rfl rfl rfl ?_
 intro S0 σ0 n0 hn0 H
 unfold M.impl_compareHits at h
 refine c_seq (rg (st_ex (ex_box (cs := [(I Bs.1), (I Bs.2)]) H hn0 rfl rfl) wn ?_))
 rintro _ σ2 ⟨b1, rfl, H, -⟩
 refine st_ex (ex_box (cs := [(I Bt.1), (I Bt.2)]) H hn0 rfl rfl) wn ?_
 rintro _ σ4 ⟨b3, rfl, H, -⟩
 refine sa (I 0) rfl (w_end (q_then (c_seq ?_)))
 have hc5 := H.cell (u := (I Bs.2)) (o' := 1) 1 1 rfl rfl rfl
 have hc6 := H.cell (u := (I Bt.2)) (o' := 1) 0 1 rfl rfl rfl
 revert h; refine br fun r7 hx8 h => ?_
 have hc9 := c_cmp_Compare_int hx8
 have hc10 := H.cell (u := (I Bs.1)) (o' := 0) 1 0 rfl rfl rfl
 have hc11 := H.cell (u := (I Bt.1)) (o' := 0) 0 0 rfl rfl rfl
 have Hs := H
 refine rg2 (σ := σ4) (Nm := Unit) 9 [4] [[false], [true]] [[(0, 0)], [(0, 0)], [(0, 0)], [(0, 0)], [(0, 1)], [(0, 0), (1, 1)], [(0, 0), (1, 1)], [(0, 0), (1, 1)], [(0, 0), (1, 1)]] 1 [fun _ => fun σm => Hp S0 σ0 σm [Ch.bx n0 b3 0 [(I Bt.1), (I Bt.2)] [] [], Ch.bx n0 b1 0 [(I Bs.1), (I Bs.2)] [] []] ∧ Md (cov []) σ4 σm, fun _ => fun σm => Hp S0 σ0 σm [Ch.bx n0 b3 0 [(I Bt.1), (I Bt.2)] [] [], Ch.bx n0 b1 0 [(I Bs.1), (I Bs.2)] [] []] ∧ Md (cov []) σ4 σm] [fun _ => (pt b1 1), fun _ => (I Bs.2), fun _ => (pt b3 1), fun _ => (I Bt.2), fun _ => (I r7), fun _ => (pt b1 0), fun _ => (I Bs.1), fun _ => (pt b3 0), fun _ => (I Bt.1)] () (by kernel_rfl) (by kernel_rfl) ?_ ?_ ?_
 ·intro σm m0
  exact ⟨H.grow (m0.mono fun _ h => h.elim), m0⟩
 ·refine ac rfl (by
    intro k _nm ρ σm hJ hoff hdep
    have e2 := look_off (N := 17) (hoff 2 rfl) rfl
    exact dp_v (v := (pt b1 1)) wn (rv_fieldAddr (off := 1) (ft := 3) Tryz.underlying38 rfl ti3 rfl e2) rfl hJ) ?_
  refine all_cons (by
    refine ⟨?_, ?_⟩
    ·intro _nm ρ σm hJ hoff hdep
     have e5 := hdep 0 rfl rfl 5 rfl
     obtain ⟨H, m⟩ := id hJ
     have hc5 := H.cell (u := (I Bs.2)) (o' := 1) 1 1 rfl rfl rfl
     exact dp_v (v := (I Bs.2)) wn (rv_load1 Tryz.underlying3 rfl e5 hc5) rfl hJ
    trivial) ?_
  refine ac rfl (by
    intro k _nm ρ σm hJ hoff hdep
    have e3 := look_off (N := 17) (hoff 3 rfl) rfl
    exact dp_v (v := (pt b3 1)) wn (rv_fieldAddr (off := 1) (ft := 3) Tryz.underlying38 rfl ti3 rfl e3) rfl hJ) ?_
  refine all_cons (by
    refine ⟨?_, ?_⟩
    ·intro _nm ρ σm hJ hoff hdep
     have e7 := hdep 2 rfl rfl 7 rfl
     obtain ⟨H, m⟩ := id hJ
     have hc6 := H.cell (u := (I Bt.2)) (o' := 1) 0 1 rfl rfl rfl
     exact dp_v (v := (I Bt.2)) wn (rv_load1 Tryz.underlying3 rfl e7 hc6) rfl hJ
    trivial) ?_
  refine all_cons (by
    refine ⟨?_, ?_⟩
    ·intro _nm ρ σm hJ hoff hdep
     have e6 : look 17 ρ 6 = (I Bs.2) := hdep 1 rfl rfl 6 rfl
     have e8 : look 17 ρ 8 = (I Bt.2) := hdep 3 rfl rfl 8 rfl
     obtain ⟨H, m⟩ := id hJ
     refine dp_cx wn (cx_call hc9 (ent_f hc9.fn (by show [look 17 ρ 6, look 17 ρ 8] = _; rw [e6, e8])) hn0 (H.sel' [0, 1] rfl rfl : Hp S0 σ0 _ ([] ++ _))) ?_
     rintro _ σq ⟨_, ⟨rfl, rfl⟩, H2, m2⟩
     exact ⟨_, (), rfl, rfl, ⟨H2.sel' [0, 1] rfl rfl, m.comp0 m2⟩, stab [0, 1, 2, 3, 5, 6, 7, 8] (by kernel_rfl) ⟨rfl, rfl, rfl, rfl, rfl, rfl, rfl, rfl, trivial⟩⟩
    trivial) ?_
  refine ac rfl (by
    intro k _nm ρ σm hJ hoff hdep
    have e2 := look_off (N := 17) (hoff 2 rfl) rfl
    exact dp_v (v := (pt b1 0)) wn (rv_fieldAddr (off := 0) (ft := 3) Tryz.underlying38 rfl ti3 rfl e2) rfl hJ) ?_
  refine all_cons (by
    refine ⟨?_, ?_⟩
    ·intro _nm ρ σm hJ hoff hdep
     have e10 := hdep 5 rfl rfl 10 rfl
     obtain ⟨H, m⟩ := id hJ
     have hc10 := H.cell (u := (I Bs.1)) (o' := 0) 1 0 rfl rfl rfl
     exact dp_v (v := (I Bs.1)) wn (rv_load1 Tryz.underlying3 rfl e10 hc10) rfl hJ
    refine ⟨?_, ?_⟩
    ·intro _nm ρ σm hJ hoff hdep
     have e10 := hdep 5 rfl rfl 10 rfl
     obtain ⟨H, m⟩ := id hJ
     have hc10 := H.cell (u := (I Bs.1)) (o' := 0) 1 0 rfl rfl rfl
     exact dp_v (v := (I Bs.1)) wn (rv_load1 Tryz.underlying3 rfl e10 hc10) rfl hJ
    trivial) ?_
  refine ac rfl (by
    intro k _nm ρ σm hJ hoff hdep
    have e3 := look_off (N := 17) (hoff 3 rfl) rfl
    exact dp_v (v := (pt b3 0)) wn (rv_fieldAddr (off := 0) (ft := 3) Tryz.underlying38 rfl ti3 rfl e3) rfl hJ) ?_
  refine all_cons (by
    refine ⟨?_, ?_⟩
    ·intro _nm ρ σm hJ hoff hdep
     have e12 := hdep 7 rfl rfl 12 rfl
     obtain ⟨H, m⟩ := id hJ
     have hc11 := H.cell (u := (I Bt.1)) (o' := 0) 0 0 rfl rfl rfl
     exact dp_v (v := (I Bt.1)) wn (rv_load1 Tryz.underlying3 rfl e12 hc11) rfl hJ
    refine ⟨?_, ?_⟩
    ·intro _nm ρ σm hJ hoff hdep
     have e12 := hdep 7 rfl rfl 12 rfl
     obtain ⟨H, m⟩ := id hJ
     have hc11 := H.cell (u := (I Bt.1)) (o' := 0) 0 0 rfl rfl rfl
     exact dp_v (v := (I Bt.1)) wn (rv_load1 Tryz.underlying3 rfl e12 hc11) rfl hJ
    trivial) ?_
  exact all_nil
 ·intro _nm ρ σ12 hJ hoff hrel
  have e9 := hrel 4 rfl 9 rfl
  have e11 := hrel 6 rfl 11 rfl
  have e13 := hrel 8 rfl 13 rfl
  obtain ⟨H, -⟩ := (show Hp S0 σ0 σ12 [Ch.bx n0 b3 0 [(I Bt.1), (I Bt.2)] [] [], Ch.bx n0 b1 0 [(I Bs.1), (I Bs.2)] [] []] ∧ Md (cov []) σ4 σ12 from hJ)
  clear hJ Hs
  rw [fr_lookL (L := [(9, (I r7)), (11, (I Bs.1)), (13, (I Bt.1))]) ⟨e9, e11, e13, trivial⟩]
  clear hoff hrel e9 e11 e13
  revert h; refine br fun r13 hx14 h => ?_
  have hc15 := c_cmp_Compare_int hx14
  refine st_call (cx_call hc15 (ent_f hc15.fn rfl) hn0 (H.sel' [0, 1] rfl rfl : Hp S0 σ0 _ ([] ++ _))) wn ?_
  rintro _ σ16 ⟨_, ⟨rfl, rfl⟩, H, -⟩
  replace H : Hp _ _ _ [_, _] := H
  refine st_ex (ex_buildSlice (el := n0) (xs := ([r7, r13] : List Int)) (ps := [(0, (I r7)), (1, (I r13))]) (cs := [(I r7), (I r13)]) H hn0 Tryz.underlying24 ti3 rfl rfl (by kernel_rfl) (.cons (c := [(I r7)]) rfl (.cons (c := [(I r13)]) rfl (.nil))) rfl) wn ?_
  rintro _ σ18 ⟨b17, rfl, H, -⟩
  obtain ⟨σ19, hw20, H, -⟩ := H.pub 0 rfl (Nat.le_refl _)
  rw [← hw20]; clear hw20
  replace H := H.roLow 0 0 rfl (Nat.zero_le _)
  revert h; refine br fun r21 hx22 h => ?_
  have hc23 := c_cmp_Or_int (Cp := (some ⟨b17, 0, none⟩)) (Cq := 2) hx22
  refine st_call (cx_call hc23 (ent_f hc23.fn rfl) hn0 (H.sel' [0, 0, 1, 2, 3] rfl rfl : Hp S0 σ0 _ ([_] ++ _))) wn ?_
  rintro _ σ24 ⟨_, ⟨rfl, rfl⟩, H, -⟩
  replace H : Hp _ _ _ [_, _, _, _] := H
  refine sa (I r21) rfl (w_end (q_then (c_ret ?_)))
  obtain rfl := sj h
  exact fin_ret (v := (I r21)) (results_ok Tryz.results72 (res_tmp (v := (I r21)) rfl res_nil) rfl) ⟨rfl, rfl⟩ (H.sel' [] rfl rfl)

theorem c_impl_hitHeap_Less {Cd : List (Int × Int)} {Cr : Int} {Cs : Int} {Ce : Option Addr} {Cf : Nat} {r : Bool} (h : M.impl_hitHeap_Less Cd Cr Cs = some r) :
    Cal2 Tryz.prog 178 [(Sl Ce Cd Cf), (I Cr), (I Cs)] [Ch.ro 0 (Sl Ce Cd Cf) Cd] (fun n0 v L => v = (B r) ∧ L = []) := by
 refine cal2 (n := 17) Tryz.func178 rfl rfl rfl rfl ?_
 intro S0 σ0 n0 hn0 H
 unfold M.impl_hitHeap_Less at h
 refine c_seq (rg (sa (B false) rfl (w_end (q_then (c_seq ?_)))))
 refine rgP (σ := σ0) 8 (by kernel_rfl) (by kernel_rfl) (by kernel_rfl) ?_
 refine sq (v := (Sl Ce Cd Cf)) (rv_move rfl) (sq (v := (I Cr)) (rv_move rfl) ?_)
 revert h; refine br fun x1 hx2 h => ?_
 obtain ⟨b4, o5, hi3, -⟩ := (H.ro 0 rfl).ix hx2
 refine sq (v := (pt b4 o5)) (rv_ix Tryz.underlying51 ti38 rfl rfl hi3) ?_
 obtain ⟨_, ⟨_, _, rfl, rfl, rfl⟩, hl6, hc7⟩ := ((H.ro 0 rfl).at hx2 hi3).cells
 refine sq (v := (.agg #[(I x1.1), (I x1.2)])) (rv_load Tryz.underlying38 rfl ti38 rfl hl6 hc7) (sq (v := (Sl Ce Cd Cf)) (rv_move rfl) (sq (v := (I Cs)) (rv_move rfl) ?_))
 revert h; refine br fun x8 hx9 h => ?_
 obtain ⟨b11, o12, hi10, -⟩ := (H.ro 0 rfl).ix hx9
 refine sq (v := (pt b11 o12)) (rv_ix Tryz.underlying51 ti38 rfl rfl hi10) ?_
 obtain ⟨_, ⟨_, _, rfl, rfl, rfl⟩, hl13, hc14⟩ := ((H.ro 0 rfl).at hx9 hi10).cells
 refine sq (v := (.agg #[(I x8.1), (I x8.2)])) (rv_load Tryz.underlying38 rfl ti38 rfl hl13 hc14) (sq_end ?_)
 intro σ15 hm16
 replace H := H.grow (hm16.mono fun _ h => h); clear hm16
 revert h; refine br fun r17 hx18 h => ?_
 have hc19 := c_impl_compareHits hx18
 refine st_call (cx_call hc19 (ent_f hc19.fn rfl) hn0 (H.sel' [0] rfl rfl : Hp S0 σ0 _ ([] ++ _))) wn ?_
 rintro _ σ20 ⟨_, ⟨rfl, rfl⟩, H, -⟩
 replace H : Hp _ _ _ [_] := H
 refine st (v := (B (decide (0 < r17)))) (rv_gtr (a := r17) (b := 0) rfl rfl) (sa (B (decide (0 < r17))) rfl (w_end (q_then (c_ret ?_))))
 obtain rfl := sj h
 exact fin_ret (v := (B (decide (0 < r17)))) (results_ok Tryz.results178 (res_tmp (v := (B (decide (0 < r17)))) rfl res_nil) rfl) ⟨rfl, rfl⟩ (H.sel' [] rfl rfl)

theorem c_impl_hitHeap_Swap {Cd : List (Int × Int)} {Cr : Int} {Cs : Int} {Ce : Option Addr} {Cf : Nat} {r : (List (Int × Int))} (h : M.impl_hitHeap_Swap Cd Cr Cs = some r) :
    Cal2 Tryz.prog 179 [(Sl Ce Cd Cf), (I Cr), (I Cs)] [Ch.own 0 0 (Sl Ce Cd Cf) Cd] (fun n0 v L => v = (.tuple #[]) ∧ L = [Ch.own 0 0 (Sl Ce r Cf) r] ∧ r.length = Cd.length) := by
 refine cal2 (n := 20) Tryz.func179 rfl rfl rfl rfl ?_
 intro S0 σ0 n0 hn0 H
 unfold M.impl_hitHeap_Swap at h
 revert h; refine br fun x1 hx2 h => ?_
 obtain ⟨b4, o5, hi3, -⟩ := (H.own 0 rfl).ix hx2
 obtain ⟨_, ⟨_, _, rfl, rfl, rfl⟩, hl6, hc7⟩ := ((H.own 0 rfl).at hx2 hi3).cells
 revert h; refine br fun x8 hx9 h => ?_
 obtain ⟨b11, o12, hi10, -⟩ := (H.own 0 rfl).ix hx9
 obtain ⟨_, ⟨_, _, rfl, rfl, rfl⟩, hl13, hc14⟩ := ((H.own 0 rfl).at hx9 hi10).cells
 revert h; refine br fun x15 hx16 h => ?_
 obtain ⟨b18, o19, hi17, -⟩ := (H.own 0 rfl).ix hx16
 have Hs := H
 refine rg2 (σ := σ0) (Nm := Unit) 14 [13] [[false], [true]] [[(0, 0)], [(0, 0)], [(0, 0), (1, 1)], [(0, 0), (1, 1)], [(0, 0)], [(0, 0)], [(0, 0)], [(0, 0)], [(0, 0)], [(0, 0)], [(0, 0)], [(0, 0)], [(0, 0)], [(0, 1)]] 1 [fun _ => fun σm => Hp S0 σ0 σm [Ch.own 0 0 (Sl Ce Cd Cf) Cd] ∧ Md (cov []) σ0 σm, fun _ => fun σm => Hp S0 σ0 σm [Ch.own 0 0 (Sl Ce Cd Cf) (Cd.set Cr.toNat (x1.1, x1.2))] ∧ Md (fun i => (cov []) i ∨ (fun b => blk (Sl Ce Cd Cf) = some b) i) σ0 σm] [fun _ => (Sl Ce Cd Cf), fun _ => (I Cr), fun _ => (Sl Ce Cd Cf), fun _ => (I Cs), fun _ => (Sl Ce Cd Cf), fun _ => (I Cs), fun _ => (pt b4 o5), fun _ => (.agg #[(I x1.1), (I x1.2)]), fun _ => (Sl Ce Cd Cf), fun _ => (I Cr), fun _ => (pt b11 o12), fun _ => (.agg #[(I x8.1), (I x8.2)]), fun _ => (pt b18 o19), fun _ => undef] () (by kernel_rfl) (by kernel_rfl) ?_ ?_ ?_
 ·intro σm m0
  exact ⟨H.grow (m0.mono fun _ h => h.elim), m0⟩
 ·refine ac rfl (by
    intro k _nm ρ σm hJ hoff hdep
    have e0 := look_off (N := 20) (hoff 0 rfl) rfl
    exact dp_v (v := (Sl Ce Cd Cf)) wn (rv_move e0) rfl hJ) ?_
  refine ac rfl (by
    intro k _nm ρ σm hJ hoff hdep
    have e1 := look_off (N := 20) (hoff 1 rfl) rfl
    exact dp_v (v := (I Cr)) wn (rv_move e1) rfl hJ) ?_
  refine ac rfl (by
    intro k _nm ρ σm hJ hoff hdep
    have e0 := look_off (N := 20) (hoff 0 rfl) rfl
    exact dp_v (v := (Sl Ce Cd Cf)) wn (rv_move e0) rfl hJ) ?_
  refine ac rfl (by
    intro k _nm ρ σm hJ hoff hdep
    have e2 := look_off (N := 20) (hoff 2 rfl) rfl
    exact dp_v (v := (I Cs)) wn (rv_move e2) rfl hJ) ?_
  refine ac rfl (by
    intro k _nm ρ σm hJ hoff hdep
    have e0 := look_off (N := 20) (hoff 0 rfl) rfl
    exact dp_v (v := (Sl Ce Cd Cf)) wn (rv_move e0) rfl hJ) ?_
  refine ac rfl (by
    intro k _nm ρ σm hJ hoff hdep
    have e2 := look_off (N := 20) (hoff 2 rfl) rfl
    exact dp_v (v := (I Cs)) wn (rv_move e2) rfl hJ) ?_
  refine ac rfl (by
    intro k _nm ρ σm hJ hoff hdep
    have e10 := hdep 4 rfl rfl 10 rfl
    have e11 := hdep 5 rfl rfl 11 rfl
    exact dp_v (v := (pt b4 o5)) wn (rv_ix Tryz.underlying51 ti38 e10 e11 hi3) rfl hJ) ?_
  refine all_cons (by
    refine ⟨?_, ?_⟩
    ·intro _nm ρ σm hJ hoff hdep
     have e12 := hdep 6 rfl rfl 12 rfl
     obtain ⟨H, m⟩ := id hJ
     obtain ⟨_, ⟨_, _, rfl, rfl, rfl⟩, hl6, hc7⟩ := ((H.own 0 rfl).at hx2 hi3).cells
     exact dp_v (v := (.agg #[(I x1.1), (I x1.2)])) wn (rv_load Tryz.underlying38 rfl ti38 e12 hl6 hc7) rfl hJ
    trivial) ?_
  refine ac rfl (by
    intro k _nm ρ σm hJ hoff hdep
    have e0 := look_off (N := 20) (hoff 0 rfl) rfl
    exact dp_v (v := (Sl Ce Cd Cf)) wn (rv_move e0) rfl hJ) ?_
  refine ac rfl (by
    intro k _nm ρ σm hJ hoff hdep
    have e1 := look_off (N := 20) (hoff 1 rfl) rfl
    exact dp_v (v := (I Cr)) wn (rv_move e1) rfl hJ) ?_
  refine ac rfl (by
    intro k _nm ρ σm hJ hoff hdep
    have e14 := hdep 8 rfl rfl 14 rfl
    have e15 := hdep 9 rfl rfl 15 rfl
    exact dp_v (v := (pt b11 o12)) wn (rv_ix Tryz.underlying51 ti38 e14 e15 hi10) rfl hJ) ?_
  refine all_cons (by
    refine ⟨?_, ?_⟩
    ·intro _nm ρ σm hJ hoff hdep
     have e16 := hdep 10 rfl rfl 16 rfl
     obtain ⟨H, m⟩ := id hJ
     obtain ⟨_, ⟨_, _, rfl, rfl, rfl⟩, hl13, hc14⟩ := ((H.own 0 rfl).at hx9 hi10).cells
     exact dp_v (v := (.agg #[(I x8.1), (I x8.2)])) wn (rv_load Tryz.underlying38 rfl ti38 e16 hl13 hc14) rfl hJ
    trivial) ?_
  refine ac rfl (by
    intro k _nm ρ σm hJ hoff hdep
    have e6 := hdep 0 rfl rfl 6 rfl
    have e7 := hdep 1 rfl rfl 7 rfl
    exact dp_v (v := (pt b18 o19)) wn (rv_ix Tryz.underlying51 ti38 e6 e7 hi17) rfl hJ) ?_
  refine all_cons (by
    refine ⟨?_, ?_⟩
    ·intro _nm ρ σm hJ hoff hdep
     have e18 := hdep 12 rfl rfl 18 rfl
     have e13 := hdep 7 rfl rfl 13 rfl
     obtain ⟨H, m⟩ := id hJ
     refine dp_exS wn rfl (ex_store_own (e' := (x1.1, x1.2)) (vs := [(I x1.1), (I x1.2)]) (k := 0) H (i := 0) rfl ti38 hx16 hi17 e18 rfl e13 rfl rfl (Nat.le_of_ble_eq_true rfl) (by simp [plain]) (by rintro _ ⟨_, _, rfl, rfl, rfl⟩; exact ⟨[(I x1.1)], [(I x1.2)], rfl, rfl, rfl⟩)) ?_
     rintro σq ⟨H2, m2⟩
     exact ⟨_, (), rfl, ⟨H2.sel' [0] rfl rfl, m.comp m2⟩, stab [0, 1, 2, 3, 4, 5, 6, 7, 8, 9, 10, 11, 12] (by kernel_rfl) ⟨rfl, rfl, rfl, rfl, rfl, rfl, rfl, rfl, rfl, rfl, rfl, rfl, rfl, trivial⟩⟩
    trivial) ?_
  exact all_nil
 ·intro _nm ρ σ20 hJ hoff hrel
  have e0 := look_off (N := 20) (hoff 0 rfl) rfl
  have e8 := hrel 2 rfl 8 rfl
  have e9 := hrel 3 rfl 9 rfl
  have e17 := hrel 11 rfl 17 rfl
  obtain ⟨H, -⟩ := (show Hp S0 σ0 σ20 [Ch.own 0 0 (Sl Ce Cd Cf) (Cd.set Cr.toNat (x1.1, x1.2))] ∧ Md (fun i => (cov []) i ∨ (fun b => blk (Sl Ce Cd Cf) = some b) i) σ0 σ20 from hJ)
  clear hJ Hs
  rw [fr_lookL (L := [(0, (Sl Ce Cd Cf)), (8, (Sl Ce Cd Cf)), (9, (I Cs)), (17, (.agg #[(I x8.1), (I x8.2)]))]) ⟨e0, e8, e9, e17, trivial⟩]
  clear hoff hrel e0 e8 e9 e17
  have hsl : (Sl Ce Cd Cf) = (Sl Ce (Cd.set Cr.toNat (x1.1, x1.2)) Cf) := sl_len (by simp)
  rw [hsl]; rw [hsl] at H; clear hsl
  revert h; refine br fun x21 hx22 h => ?_
  obtain ⟨b24, o25, hi23, -⟩ := (H.own 0 rfl).ix hx22
  refine st (v := (pt b24 o25)) (rv_ix Tryz.underlying51 ti38 rfl rfl hi23) ?_
  refine st_exS (ex_store_own (e' := (x8.1, x8.2)) (vs := [(I x8.1), (I x8.2)]) (k := 0) H (i := 0) rfl ti38 hx22 hi23 rfl rfl rfl rfl rfl (Nat.le_of_ble_eq_true rfl) (by simp [plain]) (by rintro _ ⟨_, _, rfl, rfl, rfl⟩; exact ⟨[(I x8.1)], [(I x8.2)], rfl, rfl, rfl⟩)) wn ?_
  rintro σ26 ⟨H, -⟩
  have hsl : (Sl Ce (Cd.set Cr.toNat (x1.1, x1.2)) Cf) = (Sl Ce ((Cd.set Cr.toNat (x1.1, x1.2)).set Cs.toNat (x8.1, x8.2)) Cf) := sl_len List.length_set.symm
  rw [hsl]; rw [hsl] at H; clear hsl
  refine w_end ?_
  obtain rfl := sj h
  exact fin_end (v := (.tuple #[])) (results_ok Tryz.results179 res_nil rfl) ⟨rfl, rfl, (List.length_set.trans List.length_set)⟩ (H.sel' [0] rfl rfl)

theorem c_container_heap_up__impl_hitHeap {Cd : List (Int × Int)} {Ct : Int} {Ce : Option Addr} {Cf : Nat} {Cg Ci Cj : Nat} {Ck Cl : List Value} {r : (List (Int × Int))} (h : M.container_heap_up__impl_hitHeap Cd Ct = some r) :
    Cal2 Tryz.prog 116 [(.iface 118 (pt Ci Cj)), (I Ct)] [Ch.bx Cg Ci Cj [(Sl Ce Cd Cf)] Ck Cl, Ch.own 0 0 (Sl Ce Cd Cf) Cd] (fun n0 v L => ∃ (az1 : Option Addr), ∃ (cz2 : Nat), v = (.tuple #[]) ∧ L = [Ch.bx Cg Ci Cj [(Sl az1 r cz2)] Ck Cl, Ch.own 0 0 (Sl az1 r cz2) r]) := by
 refine cal2 (n := 23) Tryz.func116 rfl rfl rfl rfl ?_
 intro S0 σ0 n0 hn0 H
 unfold M.container_heap_up__impl_hitHeap at h
 obtain ⟨o1, hj, h'⟩ := bind_some h
 clear h
 refine c_cut (fun e a w => e = .normal ∧ ∃ (ρ : Nat → Value) (σ : St) (aj1 : Option Addr) (cj2 : Nat), a = fr 23 (updL ρ [(0, (.iface 118 (pt Ci Cj)))]) ∧ w = σ.w ∧ Hp S0 σ0 σ [Ch.bx Cg Ci Cj [(Sl aj1 o1 cj2)] Ck Cl, Ch.own 0 0 (Sl aj1 o1 cj2) o1]) ?_ ?_
 ·clear h'
  rename _ = some o1 => h
  refine c_blk (wp_loopM _ h (fun s2 a w => ∃ (ρ : Nat → Value) (σ : St) (aj1 : Option Addr) (cj2 : Nat), a = fr 23 (updL ρ [(0, (.iface 118 (pt Ci Cj))), (1, (I s2.2))]) ∧ w = σ.w ∧ Hp S0 σ0 σ [Ch.bx Cg Ci Cj [(Sl aj1 s2.1 cj2)] Ck Cl, Ch.own 0 0 (Sl aj1 s2.1 cj2) s2.1]) ⟨_, σ0, Ce, Cf, fr_join ⟨rfl, rfl, trivial⟩, rfl, H.sel' [0, 1] rfl rfl⟩ ?_)
  clear h H
  rintro s2 a w o ⟨ρ, σ3, a4, c5, rfl, rfl, H⟩ h hres
  refine c_blk (c_seq (rg (sm (I s2.2) rfl (st (v := (I (w64 (s2.2 - 1)))) (rv_sub (a := s2.2) (b := 1) rfl rfl) ?_))))
  refine st (v := (I (w64 ((w64 (s2.2 - 1)).tdiv 2)))) (rv_quo (a := (w64 (s2.2 - 1))) (b := 2) rfl rfl (by decide)) ?_
  refine sa (I (w64 ((w64 (s2.2 - 1)).tdiv 2))) rfl (w_end (q_then (c_seq (c_seq ?_))))
  obtain ⟨o6, hj, h'⟩ := bind_some h
  clear h
  refine c_cut (fun e a w => e = .normal ∧ ∃ (ρ : Nat → Value) (σ : St), a = fr 23 (updL ρ [(0, (.iface 118 (pt Ci Cj))), (1, (I s2.2)), (4, (I (w64 ((w64 (s2.2 - 1)).tdiv 2)))), (17, (B o6))]) ∧ w = σ.w ∧ Hp S0 σ0 σ [Ch.own 0 0 (Sl a4 s2.1 c5) s2.1, Ch.bx Cg Ci Cj [(Sl a4 s2.1 c5)] Ck Cl]) ?_ ?_
  ·clear h'
   rename _ = some o6 => h
   refine rg (sm (I (w64 ((w64 (s2.2 - 1)).tdiv 2))) rfl (sm (I s2.2) rfl (st (v := (B ((w64 ((w64 (s2.2 - 1)).tdiv 2)) == s2.2))) (rv_eql (a := (w64 ((w64 (s2.2 - 1)).tdiv 2))) (b := s2.2) rfl rfl) (sm (B ((w64 ((w64 (s2.2 - 1)).tdiv 2)) == s2.2)) rfl ?_))))
   rcases Bool.eq_false_or_eq_true ((w64 ((w64 (s2.2 - 1)).tdiv 2)) == s2.2) with hb7 | hb7
   ·replace h := bif_t hb7 h
    refine st_skip (congrArg some hb7) (st_skip (congrArg some hb7) (st_skip (congrArg some hb7) (st_skip (congrArg some hb7) (st_skip (congrArg some hb7) (st (v := (B true)) (rv_pick_t (congrArg B hb7) rfl) (w_end ?_))))))
    obtain rfl := sj h
    exact ⟨rfl, _, σ3, fr_join ⟨rfl, rfl, rfl, rfl, trivial⟩, rfl, H.sel' [1, 0] rfl rfl⟩
   ·replace h := bif_f hb7 h
    refine st_g (v := (.iface 118 (pt Ci Cj))) (congrArg some hb7) (rv_move rfl) (st_g (v := (I s2.2)) (congrArg some hb7) (rv_move rfl) (st_g (v := (I (w64 ((w64 (s2.2 - 1)).tdiv 2)))) (congrArg some hb7) (rv_move rfl) ?_))
    revert h; refine br fun r8 hx9 h => ?_
    have hc10 := c_impl_hitHeap_Less (Ce := a4) (Cf := c5) hx9
    have hle := Nat.le_trans hn0 H.size
    refine st_call (cx_lend (Loan.lend Loan.nil) hc10 (ent_iv hc10.fn (by kernel_rfl) Tryz.underlying118 Tryz.underlying51 rfl rfl (H.cell (u := (Sl a4 s2.1 c5)) (o' := Cj) 0 0 rfl rfl rfl) rfl) (show Hp S0 σ0 _ ([Ch.own 0 0 (Sl a4 s2.1 c5) s2.1] ++ ([] ++ [Ch.bx Cg Ci Cj [(Sl a4 s2.1 c5)] Ck Cl])) from (H.sel' [1, 0] rfl rfl)) (by rintro _ _ _ ⟨rfl, rfl⟩; exact trivial)) (wanted_yes rfl (by exact (congrArg some hb7))) ?_
    rintro _ σ11 ⟨_, ⟨rfl, rfl⟩, H, -, -⟩
    replace H : Hp _ _ _ [_, _] := H
    clear hle
    replace H : Hp _ _ _ [_, _] := H
    refine st_g (v := (B (!r8))) (congrArg some hb7) (rv_not rfl) (st (v := (B (!r8))) (rv_pick_f (congrArg B hb7) rfl) (w_end ?_))
    obtain rfl := sj h
    exact ⟨rfl, _, σ11, fr_join ⟨rfl, rfl, rfl, rfl, trivial⟩, rfl, H.sel' [0, 1] rfl rfl⟩
  ·clear hj
   have h := h'
   clear h' H
   rintro e a w ⟨rfl, ρ, σ12, rfl, rfl, H⟩
   refine q_then ?_
   refine cd_cond o6 rfl (fun hb13 => ?_) (fun hb13 => ?_)
   ·replace h := bif_t hb13 h
    refine c_exit (q_then_x ?_)
    refine q_blk_x (by decide) ?_
    refine q_then_x (q_blk_hit ?_)
    obtain rfl := sj h
    obtain rfl := hres _ rfl
    exact ⟨rfl, _, σ12, a4, c5, fr_join ⟨rfl, trivial⟩, rfl, H.sel' [1, 0] rfl rfl⟩
   ·replace h := bif_f hb13 h
    refine c_skip (q_then (c_seq (rg (sm (.iface 118 (pt Ci Cj)) rfl (sm (I (w64 ((w64 (s2.2 - 1)).tdiv 2))) rfl (sm (I s2.2) rfl ?_))))))
    revert h; refine br fun r14 hx15 h => ?_
    have hc16 := c_impl_hitHeap_Swap (Ce := a4) (Cf := c5) hx15
    refine st_call (cx_call hc16 (ent_iv hc16.fn (by kernel_rfl) Tryz.underlying118 Tryz.underlying51 rfl rfl (H.cell (u := (Sl a4 s2.1 c5)) (o' := Cj) 1 0 rfl rfl rfl) rfl) hn0 (H.sel' [0, 1] rfl rfl : Hp S0 σ0 _ ([_] ++ _))) wn ?_
    rintro _ σ18 ⟨_, ⟨rfl, rfl, hn17⟩, H, -⟩
    replace H : Hp _ _ _ [_, _] := H
    have hsl : (Sl a4 s2.1 c5) = (Sl a4 r14 c5) := sl_len hn17.symm
    try rw [hsl]
    try rw [hsl] at H
    clear hsl
    refine w_end (q_then (rg (sm (I (w64 ((w64 (s2.2 - 1)).tdiv 2))) rfl (sa (I (w64 ((w64 (s2.2 - 1)).tdiv 2))) rfl (w_end (q_blk (q_then ?_)))))))
    obtain rfl := sj h
    exact ⟨_, rfl, _, σ18, a4, c5, fr_join ⟨rfl, rfl, trivial⟩, rfl, H.sel' [1, 0] rfl rfl⟩
 ·clear hj
  have h := h'
  clear h' H
  rintro e a w ⟨rfl, ρ, σ19, a20, c21, rfl, rfl, H⟩
  obtain rfl := sj h
  exact fin_end (v := (.tuple #[])) (results_ok Tryz.results116 res_nil rfl) ⟨a20, c21, rfl, rfl⟩ (H.sel' [0, 1] rfl rfl)

theorem c_container_heap_Push__impl_hitHeap__impl_Hit {Cd : List (Int × Int)} {Bg : Int × Int} {Ce : Option Addr} {Cf : Nat} {Cg Ci Cj : Nat} {Ck Cl : List Value} {r : (List (Int × Int))} (h : M.container_heap_Push__impl_hitHeap__impl_Hit Cd Bg = some r) :
    Cal2 Tryz.prog 89 [(.iface 118 (pt Ci Cj)), (.iface 38 (.agg #[(I Bg.1), (I Bg.2)]))] [Ch.bx Cg Ci Cj [(Sl Ce Cd Cf)] Ck Cl, Ch.own 0 0 (Sl Ce Cd Cf) Cd] (fun n0 v L => ∃ (az1 : Option Addr), ∃ (cz2 : Nat), v = (.tuple #[]) ∧ L = [Ch.bx Cg Ci Cj [(Sl az1 r cz2)] Ck Cl, Ch.own 0 0 (Sl az1 r cz2) r]) := by
 refine cal2 (n := 12) Tryz.func89 rfl rfl rfl rfl ?_
 intro S0 σ0 n0 hn0 H
 unfold M.container_heap_Push__impl_hitHeap__impl_Hit at h
 refine c_seq (rg (sm (.iface 118 (pt Ci Cj)) rfl (sm (.iface 38 (.agg #[(I Bg.1), (I Bg.2)])) rfl ?_)))
 revert h; refine br fun r1 hx2 h => ?_
 have hc3 := c_impl_hitHeap_Push__impl_Hit (Cg := Cg) (Ci := Ci) (Cj := Cj) (Ck := Ck) (Cl := Cl) (Ce := Ce) (Cf := Cf) hx2
 refine st_call (cx_call hc3 (ent_ip hc3.fn (by kernel_rfl) Tryz.underlying118 rfl rfl) hn0 (H.sel' [0, 1] rfl rfl : Hp S0 σ0 _ ([_, _] ++ _))) wn ?_
 rintro _ σ6 ⟨_, ⟨a4, c5, rfl, rfl⟩, H, -⟩
 replace H : Hp _ _ _ [_, _] := H
 refine w_end (q_then (rg (sm (.iface 118 (pt Ci Cj)) rfl (sm (.iface 118 (pt Ci Cj)) rfl ?_))))
 revert h; refine br fun r7 hx8 h => ?_
 have hc9 := c_impl_hitHeap_Len (Ce := a4) (Cf := c5) hx8
 have hle := Nat.le_trans hn0 H.size
 refine st_call (cx_lend (Loan.lend Loan.nil) hc9 (ent_iv hc9.fn (by kernel_rfl) Tryz.underlying118 Tryz.underlying51 rfl rfl (H.cell (u := (Sl a4 r1 c5)) (o' := Cj) 0 0 rfl rfl rfl) rfl) (show Hp S0 σ0 _ ([Ch.own 0 0 (Sl a4 r1 c5) r1] ++ ([] ++ [Ch.bx Cg Ci Cj [(Sl a4 r1 c5)] Ck Cl])) from (H.sel' [1, 0] rfl rfl)) (by rintro _ _ _ ⟨rfl, rfl⟩; exact trivial)) wn ?_
 rintro _ σ10 ⟨_, ⟨rfl, rfl⟩, H, -, -⟩
 replace H : Hp _ _ _ [_, _] := H
 clear hle
 replace H : Hp _ _ _ [_, _] := H
 refine st (v := (I (w64 (r7 - 1)))) (rv_sub (a := r7) (b := 1) rfl rfl) ?_
 revert h; refine br fun r11 hx12 h => ?_
 have hc13 := c_container_heap_up__impl_hitHeap (Cg := Cg) (Ci := Ci) (Cj := Cj) (Ck := Ck) (Cl := Cl) (Ce := a4) (Cf := c5) hx12
 refine st_call (cx_call hc13 (ent_f hc13.fn rfl) hn0 (H.sel' [1, 0] rfl rfl : Hp S0 σ0 _ ([_, _] ++ _))) wn ?_
 rintro _ σ16 ⟨_, ⟨a14, c15, rfl, rfl⟩, H, -⟩
 replace H : Hp _ _ _ [_, _] := H
 refine w_end ?_
 obtain rfl := sj h
 exact fin_end (v := (.tuple #[])) (results_ok Tryz.results89 res_nil rfl) ⟨a14, c15, rfl, rfl⟩ (H.sel' [0, 1] rfl rfl)

theorem c_container_heap_down__impl_hitHeap {Cd : List (Int × Int)} {Cu : Int} {Aw : Int} {Ce : Option Addr} {Cf : Nat} {Cg Ci Cj : Nat} {Ck Cl : List Value} {r : Bool × (List (Int × Int))} (h : M.container_heap_down__impl_hitHeap Cd Cu Aw = some r) :
    Cal2 Tryz.prog 117 [(.iface 118 (pt Ci Cj)), (I Cu), (I Aw)] [Ch.bx Cg Ci Cj [(Sl Ce Cd Cf)] Ck Cl, Ch.own 0 0 (Sl Ce Cd Cf) Cd] (fun n0 v L => ∃ (az1 : Option Addr), ∃ (cz2 : Nat), v = (B r.1) ∧ L = [Ch.bx Cg Ci Cj [(Sl az1 r.2 cz2)] Ck Cl, Ch.own 0 0 (Sl az1 r.2 cz2) r.2]) := by
 refine cal2 (n := 48) Tryz.func117 rfl rfl rfl rfl ?_
 intro S0 σ0 n0 hn0 H
 unfold M.container_heap_down__impl_hitHeap at h
 refine c_seq (rg (sa (B false) rfl (w_end (q_then (c_seq (rg (sm (I Cu) rfl (sa (I Cu) rfl (w_end (q_then (c_seq ?_)))))))))))
 obtain ⟨o1, hj, h'⟩ := bind_some h
 clear h
 refine c_cut (fun e a w => e = .normal ∧ ∃ (ρ : Nat → Value) (σ : St) (aj1 : Option Addr) (cj2 : Nat), a = fr 48 (updL ρ [(0, (.iface 118 (pt Ci Cj))), (1, (I Cu)), (7, (I o1.2))]) ∧ w = σ.w ∧ Hp S0 σ0 σ [Ch.bx Cg Ci Cj [(Sl aj1 o1.1 cj2)] Ck Cl, Ch.own 0 0 (Sl aj1 o1.1 cj2) o1.1]) ?_ ?_
 ·clear h'
  rename _ = some o1 => h
  refine c_blk (wp_loopM _ h (fun s2 a w => ∃ (ρ : Nat → Value) (σ : St) (aj1 : Option Addr) (cj2 : Nat), a = fr 48 (updL ρ [(0, (.iface 118 (pt Ci Cj))), (1, (I Cu)), (2, (I Aw)), (7, (I s2.2))]) ∧ w = σ.w ∧ Hp S0 σ0 σ [Ch.bx Cg Ci Cj [(Sl aj1 s2.1 cj2)] Ck Cl, Ch.own 0 0 (Sl aj1 s2.1 cj2) s2.1]) ⟨_, σ0, Ce, Cf, fr_join ⟨rfl, rfl, rfl, rfl, trivial⟩, rfl, H.sel' [0, 1] rfl rfl⟩ ?_)
  clear h H
  rintro s2 a w o ⟨ρ, σ3, a4, c5, rfl, rfl, H⟩ h hres
  refine c_blk (c_seq (rg (sm (I s2.2) rfl (st (v := (I (w64 (2 * s2.2)))) (rv_mul (a := 2) (b := s2.2) rfl rfl) (st (v := (I (w64 ((w64 (2 * s2.2)) + 1)))) (rv_add (a := (w64 (2 * s2.2))) (b := 1) rfl rfl) (sa (I (w64 ((w64 (2 * s2.2)) + 1))) rfl (w_end (q_then (c_seq (c_seq ?_))))))))))
  obtain ⟨o6, hj, h'⟩ := bind_some h
  clear h
  refine c_cut (fun e a w => e = .normal ∧ ∃ (ρ : Nat → Value) (σ : St), a = fr 48 (updL ρ [(0, (.iface 118 (pt Ci Cj))), (1, (I Cu)), (2, (I Aw)), (7, (I s2.2)), (8, (I (w64 ((w64 (2 * s2.2)) + 1)))), (21, (B o6))]) ∧ w = σ.w ∧ Hp S0 σ0 σ [Ch.own 0 0 (Sl a4 s2.1 c5) s2.1, Ch.bx Cg Ci Cj [(Sl a4 s2.1 c5)] Ck Cl]) ?_ ?_
  ·clear h'
   rename _ = some o6 => h
   refine rg (sm (I (w64 ((w64 (2 * s2.2)) + 1))) rfl (sm (I Aw) rfl (st (v := (B (decide (Aw ≤ (w64 ((w64 (2 * s2.2)) + 1)))))) (rv_geq (a := (w64 ((w64 (2 * s2.2)) + 1))) (b := Aw) rfl rfl) (sm (B (decide (Aw ≤ (w64 ((w64 (2 * s2.2)) + 1))))) rfl ?_))))
   rcases Bool.eq_false_or_eq_true (decide (Aw ≤ (w64 ((w64 (2 * s2.2)) + 1)))) with hb7 | hb7
   ·replace h := bif_t hb7 h
    refine st_skip (congrArg some hb7) (st_skip (congrArg some hb7) (st (v := (B true)) (rv_pick_t (congrArg B hb7) rfl) (w_end ?_)))
    obtain rfl := sj h
    exact ⟨rfl, _, σ3, fr_join ⟨rfl, rfl, rfl, rfl, rfl, rfl, trivial⟩, rfl, H.sel' [1, 0] rfl rfl⟩
   ·replace h := bif_f hb7 h
    refine st_g (v := (I (w64 ((w64 (2 * s2.2)) + 1)))) (congrArg some hb7) (rv_move rfl) (st_g (v := (B (decide ((w64 ((w64 (2 * s2.2)) + 1)) < 0)))) (congrArg some hb7) (rv_lss (a := (w64 ((w64 (2 * s2.2)) + 1))) (b := 0) rfl rfl) (st (v := (B (decide ((w64 ((w64 (2 * s2.2)) + 1)) < 0)))) (rv_pick_f (congrArg B hb7) rfl) (w_end ?_)))
    obtain rfl := sj h
    exact ⟨rfl, _, σ3, fr_join ⟨rfl, rfl, rfl, rfl, rfl, rfl, trivial⟩, rfl, H.sel' [1, 0] rfl rfl⟩
  ·clear hj
   have h := h'
   clear h' H
   rintro e a w ⟨rfl, ρ, σ8, rfl, rfl, H⟩
   refine q_then ?_
   refine cd_cond o6 rfl (fun hb9 => ?_) (fun hb9 => ?_)
   ·replace h := bif_t hb9 h
    refine c_exit (q_then_x ?_)
    refine q_blk_x (by decide) ?_
    refine q_then_x (q_blk_hit ?_)
    obtain rfl := sj h
    obtain rfl := hres _ rfl
    exact ⟨rfl, _, σ8, a4, c5, fr_join ⟨rfl, rfl, rfl, trivial⟩, rfl, H.sel' [1, 0] rfl rfl⟩
   ·replace h := bif_f hb9 h
    refine c_skip (q_then (c_seq (rg (sm (I (w64 ((w64 (2 * s2.2)) + 1))) rfl (sa (I (w64 ((w64 (2 * s2.2)) + 1))) rfl (w_end (q_then (c_seq (c_seq (rg (sm (I (w64 ((w64 (2 * s2.2)) + 1))) rfl ?_)))))))))))
    refine st (v := (I (w64 ((w64 ((w64 (2 * s2.2)) + 1)) + 1)))) (rv_add (a := (w64 ((w64 (2 * s2.2)) + 1))) (b := 1) rfl rfl) (sa (I (w64 ((w64 ((w64 (2 * s2.2)) + 1)) + 1))) rfl (w_end (q_then (c_seq ?_))))
    obtain ⟨o10, hj, h'⟩ := bind_some h
    clear h
    refine c_cut (fun e a w => e = .normal ∧ ∃ (ρ : Nat → Value) (σ : St), a = fr 48 (updL ρ [(0, (.iface 118 (pt Ci Cj))), (1, (I Cu)), (2, (I Aw)), (7, (I s2.2)), (9, (I (w64 ((w64 (2 * s2.2)) + 1)))), (10, (I (w64 ((w64 ((w64 (2 * s2.2)) + 1)) + 1)))), (33, (B o10))]) ∧ w = σ.w ∧ Hp S0 σ0 σ [Ch.own 0 0 (Sl a4 s2.1 c5) s2.1, Ch.bx Cg Ci Cj [(Sl a4 s2.1 c5)] Ck Cl]) ?_ ?_
    ·clear h'
     rename _ = some o10 => h
     refine rg (sm (I (w64 ((w64 ((w64 (2 * s2.2)) + 1)) + 1))) rfl (sm (I Aw) rfl (st (v := (B (decide ((w64 ((w64 ((w64 (2 * s2.2)) + 1)) + 1)) < Aw)))) (rv_lss (a := (w64 ((w64 ((w64 (2 * s2.2)) + 1)) + 1))) (b := Aw) rfl rfl) (sm (B (decide ((w64 ((w64 ((w64 (2 * s2.2)) + 1)) + 1)) < Aw))) rfl ?_))))
     rcases Bool.eq_false_or_eq_true (decide ((w64 ((w64 ((w64 (2 * s2.2)) + 1)) + 1)) < Aw)) with hb11 | hb11
     ·replace h := bif_t hb11 h
      refine st_g (v := (.iface 118 (pt Ci Cj))) (congrArg some hb11) (rv_move rfl) (st_g (v := (I (w64 ((w64 ((w64 (2 * s2.2)) + 1)) + 1)))) (congrArg some hb11) (rv_move rfl) (st_g (v := (I (w64 ((w64 (2 * s2.2)) + 1)))) (congrArg some hb11) (rv_move rfl) ?_))
      revert h; refine br fun r12 hx13 h => ?_
      have hc14 := c_impl_hitHeap_Less (Ce := a4) (Cf := c5) hx13
      have hle := Nat.le_trans hn0 H.size
      refine st_call (cx_lend (Loan.lend Loan.nil) hc14 (ent_iv hc14.fn (by kernel_rfl) Tryz.underlying118 Tryz.underlying51 rfl rfl (H.cell (u := (Sl a4 s2.1 c5)) (o' := Cj) 1 0 rfl rfl rfl) rfl) (show Hp S0 σ0 _ ([Ch.own 0 0 (Sl a4 s2.1 c5) s2.1] ++ ([] ++ [Ch.bx Cg Ci Cj [(Sl a4 s2.1 c5)] Ck Cl])) from (H.sel' [0, 1] rfl rfl)) (by rintro _ _ _ ⟨rfl, rfl⟩; exact trivial)) (wanted_yes rfl (by exact (congrArg some hb11))) ?_
      rintro _ σ15 ⟨_, ⟨rfl, rfl⟩, H, -, -⟩
      replace H : Hp _ _ _ [_, _] := H
      clear hle
      replace H : Hp _ _ _ [_, _] := H
      refine st (v := (B r12)) (rv_pick_t (congrArg B hb11) rfl) (w_end ?_)
      obtain rfl := sj h
      exact ⟨rfl, _, σ15, fr_join ⟨rfl, rfl, rfl, rfl, rfl, rfl, rfl, trivial⟩, rfl, H.sel' [0, 1] rfl rfl⟩
     ·replace h := bif_f hb11 h
      refine st_skip (congrArg some hb11) (st_skip (congrArg some hb11) (st_skip (congrArg some hb11) (st_skip (congrArg some hb11) (st (v := (B false)) (rv_pick_f (congrArg B hb11) rfl) (w_end ?_)))))
      obtain rfl := sj h
      exact ⟨rfl, _, σ8, fr_join ⟨rfl, rfl, rfl, rfl, rfl, rfl, rfl, trivial⟩, rfl, H.sel' [0, 1] rfl rfl⟩
    ·clear hj
     have h := h'
     clear h' H
     rintro e a w ⟨rfl, ρ, σ16, rfl, rfl, H⟩
     refine q_then ?_
     obtain ⟨o17, hj, h'⟩ := bind_some h
     clear h
     refine c_cut (fun e a w => e = .normal ∧ ∃ (ρ : Nat → Value) (σ : St), a = fr 48 (updL ρ [(0, (.iface 118 (pt Ci Cj))), (1, (I Cu)), (2, (I Aw)), (7, (I s2.2)), (9, (I o17))]) ∧ w = σ.w ∧ Hp S0 σ0 σ [Ch.own 0 0 (Sl a4 s2.1 c5) s2.1, Ch.bx Cg Ci Cj [(Sl a4 s2.1 c5)] Ck Cl]) ?_ ?_
     ·clear h'
      rename _ = some o17 => h
      refine cd_cond o10 rfl (fun hb18 => ?_) (fun hb18 => ?_)
      ·replace h := bif_t hb18 h
       refine rg (sm (I (w64 ((w64 ((w64 (2 * s2.2)) + 1)) + 1))) rfl (sa (I (w64 ((w64 ((w64 (2 * s2.2)) + 1)) + 1))) rfl (w_end ?_)))
       obtain rfl := sj h
       exact ⟨rfl, _, σ16, fr_join ⟨rfl, rfl, rfl, rfl, rfl, trivial⟩, rfl, H.sel' [0, 1] rfl rfl⟩
      ·replace h := bif_f hb18 h
       refine c_skip ?_
       obtain rfl := sj h
       exact ⟨rfl, _, σ16, fr_join ⟨rfl, rfl, rfl, rfl, rfl, trivial⟩, rfl, H.sel' [0, 1] rfl rfl⟩
     ·clear hj
      have h := h'
      clear h' H
      rintro e a w ⟨rfl, ρ, σ19, rfl, rfl, H⟩
      refine q_then (c_seq (c_seq (rg (sm (.iface 118 (pt Ci Cj)) rfl (sm (I o17) rfl (sm (I s2.2) rfl ?_))))))
      revert h; refine br fun r20 hx21 h => ?_
      have hc22 := c_impl_hitHeap_Less (Ce := a4) (Cf := c5) hx21
      have hle := Nat.le_trans hn0 H.size
      refine st_call (cx_lend (Loan.lend Loan.nil) hc22 (ent_iv hc22.fn (by kernel_rfl) Tryz.underlying118 Tryz.underlying51 rfl rfl (H.cell (u := (Sl a4 s2.1 c5)) (o' := Cj) 1 0 rfl rfl rfl) rfl) (show Hp S0 σ0 _ ([Ch.own 0 0 (Sl a4 s2.1 c5) s2.1] ++ ([] ++ [Ch.bx Cg Ci Cj [(Sl a4 s2.1 c5)] Ck Cl])) from (H.sel' [0, 1] rfl rfl)) (by rintro _ _ _ ⟨rfl, rfl⟩; exact trivial)) wn ?_
      rintro _ σ23 ⟨_, ⟨rfl, rfl⟩, H, -, -⟩
      replace H : Hp _ _ _ [_, _] := H
      clear hle
      replace H : Hp _ _ _ [_, _] := H
      refine st (v := (B (!r20))) (rv_not rfl) (w_end (q_then ?_))
      refine cd_cond (!r20) rfl (fun hb24 => ?_) (fun hb24 => ?_)
      ·replace h := bif_t hb24 h
       refine c_exit (q_then_x ?_)
       refine q_blk_x (by decide) ?_
       refine q_then_x (q_blk_hit ?_)
       obtain rfl := sj h
       obtain rfl := hres _ rfl
       exact ⟨rfl, _, σ23, a4, c5, fr_join ⟨rfl, rfl, rfl, trivial⟩, rfl, H.sel' [1, 0] rfl rfl⟩
      ·replace h := bif_f hb24 h
       refine c_skip (q_then (c_seq (rg (sm (.iface 118 (pt Ci Cj)) rfl (sm (I s2.2) rfl (sm (I o17) rfl ?_))))))
       revert h; refine br fun r25 hx26 h => ?_
       have hc27 := c_impl_hitHeap_Swap (Ce := a4) (Cf := c5) hx26
       refine st_call (cx_call hc27 (ent_iv hc27.fn (by kernel_rfl) Tryz.underlying118 Tryz.underlying51 rfl rfl (H.cell (u := (Sl a4 s2.1 c5)) (o' := Cj) 1 0 rfl rfl rfl) rfl) hn0 (H.sel' [0, 1] rfl rfl : Hp S0 σ0 _ ([_] ++ _))) wn ?_
       rintro _ σ29 ⟨_, ⟨rfl, rfl, hn28⟩, H, -⟩
       replace H : Hp _ _ _ [_, _] := H
       have hsl : (Sl a4 s2.1 c5) = (Sl a4 r25 c5) := sl_len hn28.symm
       try rw [hsl]
       try rw [hsl] at H
       clear hsl
       refine w_end (q_then (rg (sm (I o17) rfl (sa (I o17) rfl (w_end (q_blk (q_then ?_)))))))
       obtain rfl := sj h
       exact ⟨_, rfl, _, σ29, a4, c5, fr_join ⟨rfl, rfl, rfl, rfl, trivial⟩, rfl, H.sel' [1, 0] rfl rfl⟩
 ·clear hj
  have h := h'
  clear h' H
  rintro e a w ⟨rfl, ρ, σ30, a31, c32, rfl, rfl, H⟩
  refine q_then (c_seq (rg (sm (I o1.2) rfl (sm (I Cu) rfl (st (v := (B (decide (Cu < o1.2)))) (rv_gtr (a := o1.2) (b := Cu) rfl rfl) (sa (B (decide (Cu < o1.2))) rfl (w_end (q_then (c_ret ?_)))))))))
  obtain rfl := sj h
  exact fin_ret (v := (B (decide (Cu < o1.2)))) (results_ok Tryz.results117 (res_tmp (v := (B (decide (Cu < o1.2)))) rfl res_nil) rfl) ⟨a31, c32, rfl, rfl⟩ (H.sel' [0, 1] rfl rfl)

theorem c_impl_hitHeap_Pop {Cd : List (Int × Int)} {Ce : Option Addr} {Cf : Nat} {Cg Ci Cj : Nat} {Ck Cl : List Value} {r : ((Int) × (Int)) × (List (Int × Int))} (h : M.impl_hitHeap_Pop Cd = some r) :
    Cal2 Tryz.prog 181 [(pt Ci Cj)] [Ch.bx Cg Ci Cj [(Sl Ce Cd Cf)] Ck Cl, Ch.own 0 0 (Sl Ce Cd Cf) Cd] (fun n0 v L => ∃ (az1 : Option Addr), ∃ (cz2 : Nat), v = (.iface 38 (.agg #[(I r.1.1), (I r.1.2)])) ∧ L = [Ch.bx Cg Ci Cj [(Sl az1 r.2 cz2)] Ck Cl, Ch.own 0 0 (Sl az1 r.2 cz2) r.2]) := by
 refine cal2 (n := 25) Tryz.func181 rfl rfl rfl rfl ?_
 intro S0 σ0 n0 hn0 H
 unfold M.impl_hitHeap_Pop at h
 refine c_seq (rg (sa (.nilIface) rfl (w_end (q_then (c_seq (rg (sm (pt Ci Cj) rfl (st (v := (pt Ci Cj)) (rv_nilCheck rfl) ?_))))))))
 have hc1 := H.cell (u := (Sl Ce Cd Cf)) (o' := Cj) 0 0 rfl rfl rfl
 refine st (v := (Sl Ce Cd Cf)) (rv_load1 Tryz.underlying51 rfl rfl hc1) (st (v := (I (Cd.length : Int))) (rv_len Tryz.underlying51 rfl) (st (v := (I (w64 ((Cd.length : Int) - 1)))) (rv_sub (a := (Cd.length : Int)) (b := 1) rfl rfl) (sa (I (w64 ((Cd.length : Int) - 1))) rfl (w_end (q_then (c_seq (rg (sm (pt Ci Cj) rfl (st (v := (pt Ci Cj)) (rv_nilCheck rfl) ?_)))))))))
 have hc2 := H.cell (u := (Sl Ce Cd Cf)) (o' := Cj) 0 0 rfl rfl rfl
 refine st (v := (Sl Ce Cd Cf)) (rv_load1 Tryz.underlying51 rfl rfl hc2) (sm (I (w64 ((Cd.length : Int) - 1))) rfl ?_)
 revert h; refine br fun x3 hx4 h => ?_
 obtain ⟨b6, o7, hi5, -⟩ := (H.own 1 rfl).ix hx4
 refine st (v := (pt b6 o7)) (rv_ix Tryz.underlying51 ti38 rfl rfl hi5) ?_
 obtain ⟨_, ⟨_, _, rfl, rfl, rfl⟩, hl8, hc9⟩ := ((H.own 1 rfl).at hx4 hi5).cells
 refine st (v := (.agg #[(I x3.1), (I x3.2)])) (rv_load Tryz.underlying38 rfl ti38 rfl hl8 hc9) (st_ex (ex_alloc (cs := [(I 0), (I 0)]) H hn0 ti38 rfl) wn ?_)
 rintro _ σ11 ⟨b10, rfl, H, -⟩
 refine st_exS (ex_store_box (k := 0) (cs := [(I 0), (I 0)]) (vs := [(I x3.1), (I x3.2)]) (cs' := [(I x3.1), (I x3.2)]) H (i := 0) rfl ti38 rfl rfl rfl rfl rfl (Nat.le_of_ble_eq_true rfl) (by simp [plain]) rfl) wn ?_
 rintro σ12 ⟨H, -⟩
 refine w_end (q_then (c_seq (rg (sm (pt Ci Cj) rfl (sm (pt Ci Cj) rfl (st (v := (pt Ci Cj)) (rv_nilCheck rfl) ?_))))))
 have hc13 := H.cell (u := (Sl Ce Cd Cf)) (o' := Cj) 1 0 rfl rfl rfl
 refine st (v := (Sl Ce Cd Cf)) (rv_load1 Tryz.underlying51 rfl rfl hc13) (sm (I (w64 ((Cd.length : Int) - 1))) rfl ?_)
 revert h; refine br fun xs14 hx15 h => ?_
 obtain ⟨a16, c17, hs18, -⟩ := (H.own 2 rfl).slice hx15
 refine st (v := (Sl a16 xs14 c17)) (rv_slice_h Tryz.underlying51 ti38 hs18 rfl rfl) (st (v := (pt Ci Cj)) (rv_nilCheck rfl) ?_)
 have hv20 := (H.own 2 rfl).view hx15 hs18
 replace H := (H.front (i := 2) rfl).turn (d := Ch.own 0 0 (Sl a16 xs14 c17) xs14) (fun _ => hv20.1) hv20.2; clear hv20
 refine st_exS (ex_store_box (k := 0) (cs := [(Sl Ce Cd Cf)]) (vs := [(Sl a16 xs14 c17)]) (cs' := [(Sl a16 xs14 c17)]) H (i := 2) rfl ti51 rfl rfl rfl rfl rfl (Nat.le_of_ble_eq_true rfl) (by simp [plain]) rfl) wn ?_
 rintro σ21 ⟨H, -⟩
 refine w_end (q_then (c_seq (rg ?_)))
 have hc22 := H.cells 2 rfl
 refine st (v := (.agg #[(I x3.1), (I x3.2)])) (rv_load (cs := [(I x3.1), (I x3.2)]) Tryz.underlying38 rfl ti38 rfl rfl hc22) (st (v := (.iface 38 (.agg #[(I x3.1), (I x3.2)]))) (rv_makeInterface Tryz.underlying38 rfl rfl) (sa (.iface 38 (.agg #[(I x3.1), (I x3.2)])) rfl (w_end (q_then (c_ret ?_)))))
 obtain rfl := sj h
 exact fin_ret (v := (.iface 38 (.agg #[(I x3.1), (I x3.2)]))) (results_ok Tryz.results181 (res_tmp (v := (.iface 38 (.agg #[(I x3.1), (I x3.2)]))) rfl res_nil) rfl) ⟨a16, c17, rfl, rfl⟩ (H.sel' [0, 1] rfl rfl)

theorem c_container_heap_Pop__impl_hitHeap {Cd : List (Int × Int)} {Ce : Option Addr} {Cf : Nat} {Cg Ci Cj : Nat} {Ck Cl : List Value} {r : ((Int) × (Int)) × (List (Int × Int))} (h : M.container_heap_Pop__impl_hitHeap Cd = some r) :
    Cal2 Tryz.prog 90 [(.iface 118 (pt Ci Cj))] [Ch.bx Cg Ci Cj [(Sl Ce Cd Cf)] Ck Cl, Ch.own 0 0 (Sl Ce Cd Cf) Cd] (fun n0 v L => ∃ (az1 : Option Addr), ∃ (cz2 : Nat), v = (.iface 38 (.agg #[(I r.1.1), (I r.1.2)])) ∧ L = [Ch.bx Cg Ci Cj [(Sl az1 r.2 cz2)] Ck Cl, Ch.own 0 0 (Sl az1 r.2 cz2) r.2]) := by
 refine cal2 (n := 15) Tryz.func90 rfl rfl rfl rfl ?_
 intro S0 σ0 n0 hn0 H
 unfold M.container_heap_Pop__impl_hitHeap at h
 refine c_seq (rg (sa (.nilIface) rfl (w_end (q_then (c_seq (rg (sm (.iface 118 (pt Ci Cj)) rfl ?_)))))))
 revert h; refine br fun r1 hx2 h => ?_
 have hc3 := c_impl_hitHeap_Len (Ce := Ce) (Cf := Cf) hx2
 have hle := Nat.le_trans hn0 H.size
 refine st_call (cx_lend (Loan.lend Loan.nil) hc3 (ent_iv hc3.fn (by kernel_rfl) Tryz.underlying118 Tryz.underlying51 rfl rfl (H.cell (u := (Sl Ce Cd Cf)) (o' := Cj) 0 0 rfl rfl rfl) rfl) (show Hp S0 σ0 _ ([Ch.own 0 0 (Sl Ce Cd Cf) Cd] ++ ([] ++ [Ch.bx Cg Ci Cj [(Sl Ce Cd Cf)] Ck Cl])) from (H.sel' [1, 0] rfl rfl)) (by rintro _ _ _ ⟨rfl, rfl⟩; exact trivial)) wn ?_
 rintro _ σ4 ⟨_, ⟨rfl, rfl⟩, H, -, -⟩
 replace H : Hp _ _ _ [_, _] := H
 clear hle
 replace H : Hp _ _ _ [_, _] := H
 refine st (v := (I (w64 (r1 - 1)))) (rv_sub (a := r1) (b := 1) rfl rfl) (sa (I (w64 (r1 - 1))) rfl (w_end (q_then (c_seq (rg (sm (.iface 118 (pt Ci Cj)) rfl (sm (I (w64 (r1 - 1))) rfl ?_)))))))
 revert h; refine br fun r5 hx6 h => ?_
 have hc7 := c_impl_hitHeap_Swap (Ce := Ce) (Cf := Cf) hx6
 refine st_call (cx_call hc7 (ent_iv hc7.fn (by kernel_rfl) Tryz.underlying118 Tryz.underlying51 rfl rfl (H.cell (u := (Sl Ce Cd Cf)) (o' := Cj) 1 0 rfl rfl rfl) rfl) hn0 (H.sel' [0, 1] rfl rfl : Hp S0 σ0 _ ([_] ++ _))) wn ?_
 rintro _ σ9 ⟨_, ⟨rfl, rfl, hn8⟩, H, -⟩
 replace H : Hp _ _ _ [_, _] := H
 have hsl : (Sl Ce Cd Cf) = (Sl Ce r5 Cf) := sl_len hn8.symm
 try rw [hsl]
 try rw [hsl] at H
 clear hsl
 refine w_end (q_then (c_seq (rg (sm (.iface 118 (pt Ci Cj)) rfl (sm (I (w64 (r1 - 1))) rfl ?_)))))
 revert h; refine br fun r10 hx11 h => ?_
 have hc12 := c_container_heap_down__impl_hitHeap (Cg := Cg) (Ci := Ci) (Cj := Cj) (Ck := Ck) (Cl := Cl) (Ce := Ce) (Cf := Cf) hx11
 refine st_call (cx_call hc12 (ent_f hc12.fn rfl) hn0 (H.sel' [1, 0] rfl rfl : Hp S0 σ0 _ ([_, _] ++ _))) wn ?_
 rintro _ σ15 ⟨_, ⟨a13, c14, rfl, rfl⟩, H, -⟩
 replace H : Hp _ _ _ [_, _] := H
 refine w_end (q_then (c_seq (rg (sm (.iface 118 (pt Ci Cj)) rfl ?_))))
 revert h; refine br fun r16 hx17 h => ?_
 have hc18 := c_impl_hitHeap_Pop (Cg := Cg) (Ci := Ci) (Cj := Cj) (Ck := Ck) (Cl := Cl) (Ce := a13) (Cf := c14) hx17
 refine st_call (cx_call hc18 (ent_ip hc18.fn (by kernel_rfl) Tryz.underlying118 rfl rfl) hn0 (H.sel' [0, 1] rfl rfl : Hp S0 σ0 _ ([_, _] ++ _))) wn ?_
 rintro _ σ21 ⟨_, ⟨a19, c20, rfl, rfl⟩, H, -⟩
 replace H : Hp _ _ _ [_, _] := H
 refine sa (.iface 38 (.agg #[(I r16.1.1), (I r16.1.2)])) rfl (w_end (q_then (c_ret ?_)))
 obtain rfl := sj h
 exact fin_ret (v := (.iface 38 (.agg #[(I r16.1.1), (I r16.1.2)]))) (results_ok Tryz.results90 (res_tmp (v := (.iface 38 (.agg #[(I r16.1.1), (I r16.1.2)]))) rfl res_nil) rfl) ⟨a19, c20, rfl, rfl⟩ (H.sel' [0, 1] rfl rfl)

theorem c_impl_nearestHits_offer {Ax : Int × (List (Int × Int))} {Cv : Int × Int} {Cw : Option Addr} {Cy : Nat} {Cz Da Db : Nat} {Dc Dd : List Value} {r : (Int × (List (Int × Int)))} (h : M.impl_nearestHits_offer Ax Cv = some r) :
    Cal2 Tryz.prog 66 [(pt Da Db), (.agg #[(I Cv.1), (I Cv.2)])] [Ch.bx Cz Da Db [(I Ax.1), (Sl Cw Ax.2 Cy)] Dc Dd, Ch.own 0 0 (Sl Cw Ax.2 Cy) Ax.2] (fun n0 v L => ∃ (az1 : Option Addr), ∃ (cz2 : Nat), v = (.tuple #[]) ∧ L = [Ch.bx Cz Da Db [(I r.1), (Sl az1 r.2 cz2)] Dc Dd, Ch.own 0 0 (Sl az1 r.2 cz2) r.2]) := by
 refine cal2 (n := 26) Tryz.func66 rfl rfl rfl rfl ?_
 intro S0 σ0 n0 hn0 H
 unfold M.impl_nearestHits_offer at h
 refine c_seq (rg (st_ex (ex_box (cs := [(I Cv.1), (I Cv.2)]) H hn0 rfl rfl) wn ?_))
 rintro _ σ2 ⟨b1, rfl, H, -⟩
 refine w_end (q_then (c_seq ?_))
 refine rgP (σ := σ2) 6 (by kernel_rfl) (by kernel_rfl) (by kernel_rfl) ?_
 refine sq (v := (pt Da Db)) (rv_move rfl) (sq (v := (pt Da Db)) (rv_nilCheck rfl) (sq (v := (pt Da (Db + 1))) (rv_fieldAddr (off := 1) (ft := 51) Tryz.underlying53 rfl ti51 rfl rfl) (sq (v := (.iface 118 (pt Da (Db + 1)))) (rv_makeInterface Tryz.underlying118 rfl rfl) ?_)))
 have hc3 := H.cells 0 rfl
 refine sq (v := (.agg #[(I Cv.1), (I Cv.2)])) (rv_load (cs := [(I Cv.1), (I Cv.2)]) Tryz.underlying38 rfl ti38 rfl rfl hc3) (sq (v := (.iface 38 (.agg #[(I Cv.1), (I Cv.2)]))) (rv_makeInterface Tryz.underlying38 rfl rfl) (sq_end ?_))
 intro σ4 hm5
 replace H := H.grow (hm5.mono fun _ h => h); clear hm5
 replace H := Hp.focus (c1 := [(I Ax.1)]) (c2 := [(Sl Cw Ax.2 Cy)]) (c3 := []) (o' := (Db + 1)) H 1 rfl rfl
 revert h; refine br fun r6 hx7 h => ?_
 have hc8 := c_container_heap_Push__impl_hitHeap__impl_Hit (Cg := Cz) (Ci := Da) (Cj := (Db + 1)) (Ck := (Dc ++ [(I Ax.1)])) (Cl := ([] ++ Dd)) (Ce := Cw) (Cf := Cy) hx7
 refine st_call (cx_call hc8 (ent_f hc8.fn rfl) hn0 (H.sel' [0, 2, 1] rfl rfl : Hp S0 σ0 _ ([_, _] ++ _))) wn ?_
 rintro _ σ11 ⟨_, ⟨a9, c10, rfl, rfl⟩, H, -⟩
 replace H : Hp _ _ _ [_, _, _] := H
 replace H : Hp S0 σ0 σ11 [Ch.bx Cz Da Db [(I Ax.1), (Sl a9 r6 c10)] Dc Dd, Ch.own 0 0 (Sl a9 r6 c10) r6, Ch.bx n0 b1 0 [(I Cv.1), (I Cv.2)] [] []] := Hp.unfocus (o := Db) (c1 := [(I Ax.1)]) (c2 := [(Sl a9 r6 c10)]) (c3 := []) (pre := Dc) (suf := Dd) H 0 rfl rfl
 refine w_end (q_then (c_seq ?_))
 refine rgP (σ := σ11) 9 (by kernel_rfl) (by kernel_rfl) (by kernel_rfl) ?_
 refine sq (v := (pt Da Db)) (rv_move rfl) (sq (v := (pt Da Db)) (rv_nilCheck rfl) (sq (v := (pt Da (Db + 1))) (rv_fieldAddr (off := 1) (ft := 51) Tryz.underlying53 rfl ti51 rfl rfl) ?_))
 have hc12 := H.cell (u := (Sl a9 r6 c10)) (o' := (Db + 1)) 0 1 rfl rfl rfl
 refine sq (v := (Sl a9 r6 c10)) (rv_load1 Tryz.underlying51 rfl rfl hc12) (sq (v := (I (r6.length : Int))) (rv_len Tryz.underlying51 rfl) (sq (v := (pt Da Db)) (rv_move rfl) (sq (v := (pt Da Db)) (rv_nilCheck rfl) (sq (v := (pt Da Db)) (rv_fieldAddr (off := 0) (ft := 3) Tryz.underlying53 rfl ti3 rfl rfl) ?_))))
 have hc13 := H.cell (u := (I Ax.1)) (o' := Db) 0 0 rfl rfl rfl
 refine sq (v := (I Ax.1)) (rv_load1 Tryz.underlying3 rfl rfl hc13) (sq_end ?_)
 intro σ14 hm15
 replace H := H.grow (hm15.mono fun _ h => h); clear hm15
 refine st (v := (B (decide (Ax.1 < (r6.length : Int))))) (rv_gtr (a := (r6.length : Int)) (b := Ax.1) rfl rfl) (w_end (q_then ?_))
 refine cd_cond (decide (Ax.1 < (r6.length : Int))) rfl (fun hb16 => ?_) (fun hb16 => ?_)
 ·replace h := bif_t hb16 h
  refine rg (sm (pt Da Db) rfl (st (v := (pt Da Db)) (rv_nilCheck rfl) (st (v := (pt Da (Db + 1))) (rv_fieldAddr (off := 1) (ft := 51) Tryz.underlying53 rfl ti51 rfl rfl) (st (v := (.iface 118 (pt Da (Db + 1)))) (rv_makeInterface Tryz.underlying118 rfl rfl) ?_))))
  replace H := Hp.focus (c1 := [(I Ax.1)]) (c2 := [(Sl a9 r6 c10)]) (c3 := []) (o' := (Db + 1)) H 0 rfl rfl
  revert h; refine br fun r17 hx18 h => ?_
  have hc19 := c_container_heap_Pop__impl_hitHeap (Cg := Cz) (Ci := Da) (Cj := (Db + 1)) (Ck := (Dc ++ [(I Ax.1)])) (Cl := ([] ++ Dd)) (Ce := a9) (Cf := c10) hx18
  refine st_call (cx_call hc19 (ent_f hc19.fn rfl) hn0 (H.sel' [0, 1, 2] rfl rfl : Hp S0 σ0 _ ([_, _] ++ _))) wn ?_
  rintro _ σ22 ⟨_, ⟨a20, c21, rfl, rfl⟩, H, -⟩
  replace H : Hp _ _ _ [_, _, _] := H
  replace H : Hp S0 σ0 σ22 [Ch.bx Cz Da Db [(I Ax.1), (Sl a20 r17.2 c21)] Dc Dd, Ch.own 0 0 (Sl a20 r17.2 c21) r17.2, Ch.bx n0 b1 0 [(I Cv.1), (I Cv.2)] [] []] := Hp.unfocus (o := Db) (c1 := [(I Ax.1)]) (c2 := [(Sl a20 r17.2 c21)]) (c3 := []) (pre := Dc) (suf := Dd) H 0 rfl rfl
  refine w_end ?_
  obtain rfl := sj h
  exact fin_end (v := (.tuple #[])) (results_ok Tryz.results66 res_nil rfl) ⟨a20, c21, rfl, rfl⟩ (H.sel' [0, 1] rfl rfl)
 ·replace h := bif_f hb16 h
  refine c_skip ?_
  obtain rfl := sj h
  exact fin_end (v := (.tuple #[])) (results_ok Tryz.results66 res_nil rfl) ⟨a9, c10, rfl, rfl⟩ (H.sel' [0, 1] rfl rfl)

theorem c_impl_branch_turns {De : Tr (Int × (List Int) × Int)} {Dg : Int} {Dh : Option Addr} {r : ((Tr (Int × (List Int) × Int)) × Int) × ((Tr (Int × (List Int) × Int)) × Int)} (h : M.impl_branch_turns De Dg = some r) :
    Cal2 Tryz.prog 67 [(.pointer Dh), (I Dg)] [Ch.pr 0 (.pointer Dh) De] (fun n0 v L => ∃ (az1 : Option Addr), ∃ (az2 : Option Addr), v = (.tuple #[(.agg #[(.pointer az1), (I r.1.2)]), (.agg #[(.pointer az2), (I r.2.2)])]) ∧ L = [Ch.pr 0 (.pointer az1) r.1.1, Ch.pr 0 (.pointer az2) r.2.1]) := by
 refine cal2 (n := 44) Tryz.func67 rfl rfl rfl rfl ?_
 intro S0 σ0 n0 hn0 H
 unfold M.impl_branch_turns at h
 refine c_seq (rg (st_ex (ex_alloc (cs := [(.pointer none), (I 0)]) H hn0 ti89 rfl) wn ?_))
 rintro _ σ2 ⟨b1, rfl, H, -⟩
 refine st_ex (ex_alloc (cs := [(.pointer none), (I 0)]) H hn0 ti89 rfl) wn ?_
 rintro _ σ4 ⟨b3, rfl, H, -⟩
 refine w_end (q_then (c_seq (c_seq (rg (sm (I Dg) rfl (sm (.pointer Dh) rfl ?_))))))
 revert h; refine br fun x5 hx6 h => ?_
 obtain ⟨b8, o9, hi7⟩ := (H.pr 2 rfl).ex hx6
 refine st (v := (pt b8 o9)) (rv_nilCheckT hi7 rfl) (st (v := (pt b8 (o9 + 3))) (rv_fieldAddr (off := 3) (ft := 3) Tryz.underlying94 rfl ti3 rfl rfl) ?_)
 have hc10 := ((H.pr 2 rfl).at hx6 hi7).snd.fst.int
 refine st (v := (I x5.2.1)) (rv_load1 Tryz.underlying3 rfl rfl hc10) (st (v := (B (decide (Dg ≤ x5.2.1)))) (rv_leq (a := Dg) (b := x5.2.1) rfl rfl) (w_end (q_then ?_)))
 refine cd_cond (decide (Dg ≤ x5.2.1)) rfl (fun hb11 => ?_) (fun hb11 => ?_)
 ·replace h := bif_t hb11 h
  refine c_seq ?_
  revert h; refine br fun x12 hx13 h => ?_
  obtain ⟨b15, o16, hi14⟩ := (H.pr 2 rfl).ex hx13
  obtain ⟨v20, hc19, hR18⟩ := ((H.pr 2 rfl).at hx13 hi14).snd.snd.fst.tree
  obtain ⟨a17, rfl⟩ := hR18.isPtr
  replace H := H.add (d := Ch.pr 0 (.pointer a17) x12.2.2.1) hR18 (fun _ h => h)
  clear hR18
  revert h; refine br fun x21 hx22 h => ?_
  obtain ⟨b24, o25, hi23⟩ := (H.pr 3 rfl).ex hx22
  obtain ⟨v29, hc28, hR27⟩ := ((H.pr 3 rfl).at hx22 hi23).snd.snd.snd.tree
  obtain ⟨a26, rfl⟩ := hR27.isPtr
  replace H := H.add (d := Ch.pr 0 (.pointer a26) x21.2.2.2) hR27 (fun _ h => h)
  clear hR27
  revert h; refine br fun x30 hx31 h => ?_
  obtain ⟨b33, o34, hi32⟩ := (H.pr 4 rfl).ex hx31
  have hc35 := ((H.pr 4 rfl).at hx31 hi32).snd.fst.int
  have Hs := H
  refine rg2 (σ := σ4) (Nm := Unit) 17 [16] [[false], [true]] [[(0, 0)], [(0, 0)], [(0, 0)], [(0, 0)], [(0, 0)], [(0, 0), (1, 1)], [(0, 0), (1, 1)], [(0, 0), (1, 1)], [(0, 0), (1, 1)], [(0, 0), (1, 1)], [(0, 0), (1, 1)], [(0, 0), (1, 1)], [(0, 0), (1, 1)], [(0, 0), (1, 1)], [(0, 0), (1, 1)], [(0, 0), (1, 1)], [(0, 1)]] 1 [fun _ => fun σm => Hp S0 σ0 σm [Ch.pr 0 (.pointer a26) x21.2.2.2, Ch.pr 0 (.pointer a17) x12.2.2.1, Ch.bx n0 b3 0 [(.pointer none), (I 0)] [] [], Ch.bx n0 b1 0 [(.pointer none), (I 0)] [] [], Ch.pr 0 (.pointer Dh) De] ∧ Md (cov []) σ4 σm, fun _ => fun σm => Hp S0 σ0 σm [Ch.bx n0 b1 0 [(.pointer a17), (I 0)] [] [], Ch.pr 0 (.pointer a26) x21.2.2.2, Ch.pr 0 (.pointer a17) x12.2.2.1, Ch.bx n0 b3 0 [(.pointer none), (I 0)] [] [], Ch.pr 0 (.pointer Dh) De] ∧ Md (fun i => (cov []) i ∨ (fun i => i = b1) i) σ4 σm] [fun _ => (.pointer Dh), fun _ => (pt b15 o16), fun _ => (pt b15 (o16 + 4)), fun _ => (.pointer a17), fun _ => (.agg #[(.pointer a17), (I 0)]), fun _ => (.pointer Dh), fun _ => (pt b24 o25), fun _ => (pt b24 (o25 + 5)), fun _ => (.pointer a26), fun _ => (.pointer Dh), fun _ => (pt b33 o34), fun _ => (pt b33 (o34 + 3)), fun _ => (I x30.2.1), fun _ => (I Dg), fun _ => (I (w64 (x30.2.1 - Dg))), fun _ => (.agg #[(.pointer a26), (I (w64 (x30.2.1 - Dg)))]), fun _ => undef] () (by kernel_rfl) (by kernel_rfl) ?_ ?_ ?_
  ·intro σm m0
   exact ⟨H.grow (m0.mono fun _ h => h.elim), m0⟩
  ·refine ac rfl (by
     intro k _nm ρ σm hJ hoff hdep
     have e0 := look_off (N := 44) (hoff 0 rfl) rfl
     exact dp_v (v := (.pointer Dh)) wn (rv_move e0) rfl hJ) ?_
   refine ac rfl (by
     intro k _nm ρ σm hJ hoff hdep
     have e12 := hdep 0 rfl rfl 12 rfl
     exact dp_v (v := (pt b15 o16)) wn (rv_nilCheckT hi14 e12) rfl hJ) ?_
   refine ac rfl (by
     intro k _nm ρ σm hJ hoff hdep
     have e13 := hdep 1 rfl rfl 13 rfl
     exact dp_v (v := (pt b15 (o16 + 4))) wn (rv_fieldAddr (off := 4) (ft := 56) Tryz.underlying94 rfl ti56 rfl e13) rfl hJ) ?_
   refine all_cons (by
     refine ⟨?_, ?_⟩
     ·intro _nm ρ σm hJ hoff hdep
      have e14 := hdep 2 rfl rfl 14 rfl
      obtain ⟨H, m⟩ := id hJ
      replace hc19 := (Hs.pr 4 rfl).hmd hx13 hi14 (k := 4) (by decide) hc19 m
      exact dp_v (v := (.pointer a17)) wn (rv_load1 Tryz.underlying56 rfl e14 hc19) rfl hJ
     trivial) ?_
   refine ac rfl (by
     intro k _nm ρ σm hJ hoff hdep
     have e15 : look 44 ρ 15 = (.pointer a17) := hdep 3 rfl rfl 15 rfl
     exact dp_v (v := (.agg #[(.pointer a17), (I 0)])) wn (rv_build (ps := [(0, (.pointer a17))]) Tryz.underlying89 ti89 (bp89 Tryz.underlying89) (by show [(0, look 44 ρ 15)] = _; rw [e15]) (by kernel_rfl)) rfl hJ) ?_
   refine ac rfl (by
     intro k _nm ρ σm hJ hoff hdep
     have e0 := look_off (N := 44) (hoff 0 rfl) rfl
     exact dp_v (v := (.pointer Dh)) wn (rv_move e0) rfl hJ) ?_
   refine ac rfl (by
     intro k _nm ρ σm hJ hoff hdep
     have e17 := hdep 5 rfl rfl 17 rfl
     exact dp_v (v := (pt b24 o25)) wn (rv_nilCheckT hi23 e17) rfl hJ) ?_
   refine ac rfl (by
     intro k _nm ρ σm hJ hoff hdep
     have e18 := hdep 6 rfl rfl 18 rfl
     exact dp_v (v := (pt b24 (o25 + 5))) wn (rv_fieldAddr (off := 5) (ft := 56) Tryz.underlying94 rfl ti56 rfl e18) rfl hJ) ?_
   refine all_cons (by
     refine ⟨?_, ?_⟩
     ·intro _nm ρ σm hJ hoff hdep
      have e19 := hdep 7 rfl rfl 19 rfl
      obtain ⟨H, m⟩ := id hJ
      replace hc28 := (Hs.pr 4 rfl).hmd hx22 hi23 (k := 5) (by decide) hc28 m
      exact dp_v (v := (.pointer a26)) wn (rv_load1 Tryz.underlying56 rfl e19 hc28) rfl hJ
     refine ⟨?_, ?_⟩
     ·intro _nm ρ σm hJ hoff hdep
      have e19 := hdep 7 rfl rfl 19 rfl
      obtain ⟨H, m⟩ := id hJ
      replace hc28 := (Hs.pr 4 rfl).hmd hx22 hi23 (k := 5) (by decide) hc28 m
      exact dp_v (v := (.pointer a26)) wn (rv_load1 Tryz.underlying56 rfl e19 hc28) rfl hJ
     trivial) ?_
   refine ac rfl (by
     intro k _nm ρ σm hJ hoff hdep
     have e0 := look_off (N := 44) (hoff 0 rfl) rfl
     exact dp_v (v := (.pointer Dh)) wn (rv_move e0) rfl hJ) ?_
   refine ac rfl (by
     intro k _nm ρ σm hJ hoff hdep
     have e21 := hdep 9 rfl rfl 21 rfl
     exact dp_v (v := (pt b33 o34)) wn (rv_nilCheckT hi32 e21) rfl hJ) ?_
   refine ac rfl (by
     intro k _nm ρ σm hJ hoff hdep
     have e22 := hdep 10 rfl rfl 22 rfl
     exact dp_v (v := (pt b33 (o34 + 3))) wn (rv_fieldAddr (off := 3) (ft := 3) Tryz.underlying94 rfl ti3 rfl e22) rfl hJ) ?_
   refine all_cons (by
     refine ⟨?_, ?_⟩
     ·intro _nm ρ σm hJ hoff hdep
      have e23 := hdep 11 rfl rfl 23 rfl
      obtain ⟨H, m⟩ := id hJ
      replace hc35 := (Hs.pr 4 rfl).hmd hx31 hi32 (k := 3) (by decide) hc35 m
      exact dp_v (v := (I x30.2.1)) wn (rv_load1 Tryz.underlying3 rfl e23 hc35) rfl hJ
     refine ⟨?_, ?_⟩
     ·intro _nm ρ σm hJ hoff hdep
      have e23 := hdep 11 rfl rfl 23 rfl
      obtain ⟨H, m⟩ := id hJ
      replace hc35 := (Hs.pr 4 rfl).hmd hx31 hi32 (k := 3) (by decide) hc35 m
      exact dp_v (v := (I x30.2.1)) wn (rv_load1 Tryz.underlying3 rfl e23 hc35) rfl hJ
     trivial) ?_
   refine ac rfl (by
     intro k _nm ρ σm hJ hoff hdep
     have e1 := look_off (N := 44) (hoff 1 rfl) rfl
     exact dp_v (v := (I Dg)) wn (rv_move e1) rfl hJ) ?_
   refine ac rfl (by
     intro k _nm ρ σm hJ hoff hdep
     have e24 := hdep 12 rfl rfl 24 rfl
     have e25 := hdep 13 rfl rfl 25 rfl
     exact dp_v (v := (I (w64 (x30.2.1 - Dg)))) wn (rv_sub (a := x30.2.1) (b := Dg) e24 e25) rfl hJ) ?_
   refine ac rfl (by
     intro k _nm ρ σm hJ hoff hdep
     have e20 : look 44 ρ 20 = (.pointer a26) := hdep 8 rfl rfl 20 rfl
     have e26 : look 44 ρ 26 = (I (w64 (x30.2.1 - Dg))) := hdep 14 rfl rfl 26 rfl
     exact dp_v (v := (.agg #[(.pointer a26), (I (w64 (x30.2.1 - Dg)))])) wn (rv_build (ps := [(0, (.pointer a26)), (1, (I (w64 (x30.2.1 - Dg))))]) Tryz.underlying89 ti89 (bp89 Tryz.underlying89) (by show [(0, look 44 ρ 20), (1, look 44 ρ 26)] = _; rw [e20, e26]) (by kernel_rfl)) rfl hJ) ?_
   refine all_cons (by
     refine ⟨?_, ?_⟩
     ·intro _nm ρ σm hJ hoff hdep
      have e4 := look_off (N := 44) (hoff 4 rfl) rfl
      have e16 := hdep 4 rfl rfl 16 rfl
      obtain ⟨H, m⟩ := id hJ
      refine dp_exS wn rfl (ex_store_box (k := 0) (cs := [(.pointer none), (I 0)]) (vs := [(.pointer a17), (I 0)]) (cs' := [(.pointer a17), (I 0)]) H (i := 3) rfl ti89 e4 rfl e16 rfl rfl (Nat.le_of_ble_eq_true rfl) (by simp [plain]) rfl) ?_
      rintro σq ⟨H2, m2⟩
      exact ⟨_, (), rfl, ⟨H2.sel' [0, 1, 2, 3, 4] rfl rfl, m.comp m2⟩, stab [0, 1, 2, 3, 4, 5, 6, 7, 8, 9, 10, 11, 12, 13, 14, 15] (by kernel_rfl) ⟨rfl, rfl, rfl, rfl, rfl, rfl, rfl, rfl, rfl, rfl, rfl, rfl, rfl, rfl, rfl, rfl, trivial⟩⟩
     trivial) ?_
   exact all_nil
  ·intro _nm ρ σ36 hJ hoff hrel
   have e4 := look_off (N := 44) (hoff 4 rfl) rfl
   have e5 := look_off (N := 44) (hoff 5 rfl) rfl
   have e27 := hrel 15 rfl 27 rfl
   obtain ⟨H, -⟩ := (show Hp S0 σ0 σ36 [Ch.bx n0 b1 0 [(.pointer a17), (I 0)] [] [], Ch.pr 0 (.pointer a26) x21.2.2.2, Ch.pr 0 (.pointer a17) x12.2.2.1, Ch.bx n0 b3 0 [(.pointer none), (I 0)] [] [], Ch.pr 0 (.pointer Dh) De] ∧ Md (fun i => (cov []) i ∨ (fun i => i = b1) i) σ4 σ36 from hJ)
   clear hJ Hs
   rw [fr_lookL (L := [(4, (pt b1 0)), (5, (pt b3 0)), (27, (.agg #[(.pointer a26), (I (w64 (x30.2.1 - Dg)))]))]) ⟨e4, e5, e27, trivial⟩]
   clear hoff hrel e4 e5 e27
   refine st_exS (ex_store_box (k := 0) (cs := [(.pointer none), (I 0)]) (vs := [(.pointer a26), (I (w64 (x30.2.1 - Dg)))]) (cs' := [(.pointer a26), (I (w64 (x30.2.1 - Dg)))]) H (i := 3) rfl ti89 rfl rfl rfl rfl rfl (Nat.le_of_ble_eq_true rfl) (by simp [plain]) rfl) wn ?_
   rintro σ37 ⟨H, -⟩
   refine w_end (q_then (c_ret (q_then_r ?_)))
   obtain rfl := sj h
   exact fin_ret (v := (.tuple #[(.agg #[(.pointer a17), (I 0)]), (.agg #[(.pointer a26), (I (w64 (x30.2.1 - Dg)))])])) (results_ok Tryz.results67 (res_cell rfl (run_cellRes (cs := [(.pointer a17), (I 0)]) Tryz.underlying89 rfl ti89 rfl (H.cells 1 rfl)) (res_cell rfl (run_cellRes (cs := [(.pointer a26), (I (w64 (x30.2.1 - Dg)))]) Tryz.underlying89 rfl ti89 rfl (H.cells 0 rfl)) res_nil)) rfl) ⟨a17, a26, rfl, rfl⟩ (H.sel' [3, 2] rfl rfl)
 ·replace h := bif_f hb11 h
  refine c_skip (q_then (c_seq ?_))
  revert h; refine br fun x38 hx39 h => ?_
  obtain ⟨b41, o42, hi40⟩ := (H.pr 2 rfl).ex hx39
  obtain ⟨v46, hc45, hR44⟩ := ((H.pr 2 rfl).at hx39 hi40).snd.snd.snd.tree
  obtain ⟨a43, rfl⟩ := hR44.isPtr
  replace H := H.add (d := Ch.pr 0 (.pointer a43) x38.2.2.2) hR44 (fun _ h => h)
  clear hR44
  revert h; refine br fun x47 hx48 h => ?_
  obtain ⟨b50, o51, hi49⟩ := (H.pr 3 rfl).ex hx48
  obtain ⟨v55, hc54, hR53⟩ := ((H.pr 3 rfl).at hx48 hi49).snd.snd.fst.tree
  obtain ⟨a52, rfl⟩ := hR53.isPtr
  replace H := H.add (d := Ch.pr 0 (.pointer a52) x47.2.2.1) hR53 (fun _ h => h)
  clear hR53
  revert h; refine br fun x56 hx57 h => ?_
  obtain ⟨b59, o60, hi58⟩ := (H.pr 4 rfl).ex hx57
  have hc61 := ((H.pr 4 rfl).at hx57 hi58).snd.fst.int
  have Hs := H
  refine rg2 (σ := σ4) (Nm := Unit) 17 [16] [[false], [true]] [[(0, 0)], [(0, 0)], [(0, 0)], [(0, 0)], [(0, 0)], [(0, 0), (1, 1)], [(0, 0), (1, 1)], [(0, 0), (1, 1)], [(0, 0), (1, 1)], [(0, 0), (1, 1)], [(0, 0), (1, 1)], [(0, 0), (1, 1)], [(0, 0), (1, 1)], [(0, 0), (1, 1)], [(0, 0), (1, 1)], [(0, 0), (1, 1)], [(0, 1)]] 1 [fun _ => fun σm => Hp S0 σ0 σm [Ch.pr 0 (.pointer a52) x47.2.2.1, Ch.pr 0 (.pointer a43) x38.2.2.2, Ch.bx n0 b3 0 [(.pointer none), (I 0)] [] [], Ch.bx n0 b1 0 [(.pointer none), (I 0)] [] [], Ch.pr 0 (.pointer Dh) De] ∧ Md (cov []) σ4 σm, fun _ => fun σm => Hp S0 σ0 σm [Ch.bx n0 b1 0 [(.pointer a43), (I 0)] [] [], Ch.pr 0 (.pointer a52) x47.2.2.1, Ch.pr 0 (.pointer a43) x38.2.2.2, Ch.bx n0 b3 0 [(.pointer none), (I 0)] [] [], Ch.pr 0 (.pointer Dh) De] ∧ Md (fun i => (cov []) i ∨ (fun i => i = b1) i) σ4 σm] [fun _ => (.pointer Dh), fun _ => (pt b41 o42), fun _ => (pt b41 (o42 + 5)), fun _ => (.pointer a43), fun _ => (.agg #[(.pointer a43), (I 0)]), fun _ => (.pointer Dh), fun _ => (pt b50 o51), fun _ => (pt b50 (o51 + 4)), fun _ => (.pointer a52), fun _ => (I Dg), fun _ => (.pointer Dh), fun _ => (pt b59 o60), fun _ => (pt b59 (o60 + 3)), fun _ => (I x56.2.1), fun _ => (I (w64 (Dg - x56.2.1))), fun _ => (.agg #[(.pointer a52), (I (w64 (Dg - x56.2.1)))]), fun _ => undef] () (by kernel_rfl) (by kernel_rfl) ?_ ?_ ?_
  ·intro σm m0
   exact ⟨H.grow (m0.mono fun _ h => h.elim), m0⟩
  ·refine ac rfl (by
     intro k _nm ρ σm hJ hoff hdep
     have e0 := look_off (N := 44) (hoff 0 rfl) rfl
     exact dp_v (v := (.pointer Dh)) wn (rv_move e0) rfl hJ) ?_
   refine ac rfl (by
     intro k _nm ρ σm hJ hoff hdep
     have e28 := hdep 0 rfl rfl 28 rfl
     exact dp_v (v := (pt b41 o42)) wn (rv_nilCheckT hi40 e28) rfl hJ) ?_
   refine ac rfl (by
     intro k _nm ρ σm hJ hoff hdep
     have e29 := hdep 1 rfl rfl 29 rfl
     exact dp_v (v := (pt b41 (o42 + 5))) wn (rv_fieldAddr (off := 5) (ft := 56) Tryz.underlying94 rfl ti56 rfl e29) rfl hJ) ?_
   refine all_cons (by
     refine ⟨?_, ?_⟩
     ·intro _nm ρ σm hJ hoff hdep
      have e30 := hdep 2 rfl rfl 30 rfl
      obtain ⟨H, m⟩ := id hJ
      replace hc45 := (Hs.pr 4 rfl).hmd hx39 hi40 (k := 5) (by decide) hc45 m
      exact dp_v (v := (.pointer a43)) wn (rv_load1 Tryz.underlying56 rfl e30 hc45) rfl hJ
     trivial) ?_
   refine ac rfl (by
     intro k _nm ρ σm hJ hoff hdep
     have e31 : look 44 ρ 31 = (.pointer a43) := hdep 3 rfl rfl 31 rfl
     exact dp_v (v := (.agg #[(.pointer a43), (I 0)])) wn (rv_build (ps := [(0, (.pointer a43))]) Tryz.underlying89 ti89 (bp89 Tryz.underlying89) (by show [(0, look 44 ρ 31)] = _; rw [e31]) (by kernel_rfl)) rfl hJ) ?_
   refine ac rfl (by
     intro k _nm ρ σm hJ hoff hdep
     have e0 := look_off (N := 44) (hoff 0 rfl) rfl
     exact dp_v (v := (.pointer Dh)) wn (rv_move e0) rfl hJ) ?_
   refine ac rfl (by
     intro k _nm ρ σm hJ hoff hdep
     have e33 := hdep 5 rfl rfl 33 rfl
     exact dp_v (v := (pt b50 o51)) wn (rv_nilCheckT hi49 e33) rfl hJ) ?_
   refine ac rfl (by
     intro k _nm ρ σm hJ hoff hdep
     have e34 := hdep 6 rfl rfl 34 rfl
     exact dp_v (v := (pt b50 (o51 + 4))) wn (rv_fieldAddr (off := 4) (ft := 56) Tryz.underlying94 rfl ti56 rfl e34) rfl hJ) ?_
   refine all_cons (by
     refine ⟨?_, ?_⟩
     ·intro _nm ρ σm hJ hoff hdep
      have e35 := hdep 7 rfl rfl 35 rfl
      obtain ⟨H, m⟩ := id hJ
      replace hc54 := (Hs.pr 4 rfl).hmd hx48 hi49 (k := 4) (by decide) hc54 m
      exact dp_v (v := (.pointer a52)) wn (rv_load1 Tryz.underlying56 rfl e35 hc54) rfl hJ
     refine ⟨?_, ?_⟩
     ·intro _nm ρ σm hJ hoff hdep
      have e35 := hdep 7 rfl rfl 35 rfl
      obtain ⟨H, m⟩ := id hJ
      replace hc54 := (Hs.pr 4 rfl).hmd hx48 hi49 (k := 4) (by decide) hc54 m
      exact dp_v (v := (.pointer a52)) wn (rv_load1 Tryz.underlying56 rfl e35 hc54) rfl hJ
     trivial) ?_
   refine ac rfl (by
     intro k _nm ρ σm hJ hoff hdep
     have e1 := look_off (N := 44) (hoff 1 rfl) rfl
     exact dp_v (v := (I Dg)) wn (rv_move e1) rfl hJ) ?_
   refine ac rfl (by
     intro k _nm ρ σm hJ hoff hdep
     have e0 := look_off (N := 44) (hoff 0 rfl) rfl
     exact dp_v (v := (.pointer Dh)) wn (rv_move e0) rfl hJ) ?_
   refine ac rfl (by
     intro k _nm ρ σm hJ hoff hdep
     have e38 := hdep 10 rfl rfl 38 rfl
     exact dp_v (v := (pt b59 o60)) wn (rv_nilCheckT hi58 e38) rfl hJ) ?_
   refine ac rfl (by
     intro k _nm ρ σm hJ hoff hdep
     have e39 := hdep 11 rfl rfl 39 rfl
     exact dp_v (v := (pt b59 (o60 + 3))) wn (rv_fieldAddr (off := 3) (ft := 3) Tryz.underlying94 rfl ti3 rfl e39) rfl hJ) ?_
   refine all_cons (by
     refine ⟨?_, ?_⟩
     ·intro _nm ρ σm hJ hoff hdep
      have e40 := hdep 12 rfl rfl 40 rfl
      obtain ⟨H, m⟩ := id hJ
      replace hc61 := (Hs.pr 4 rfl).hmd hx57 hi58 (k := 3) (by decide) hc61 m
      exact dp_v (v := (I x56.2.1)) wn (rv_load1 Tryz.underlying3 rfl e40 hc61) rfl hJ
     refine ⟨?_, ?_⟩
     ·intro _nm ρ σm hJ hoff hdep
      have e40 := hdep 12 rfl rfl 40 rfl
      obtain ⟨H, m⟩ := id hJ
      replace hc61 := (Hs.pr 4 rfl).hmd hx57 hi58 (k := 3) (by decide) hc61 m
      exact dp_v (v := (I x56.2.1)) wn (rv_load1 Tryz.underlying3 rfl e40 hc61) rfl hJ
     trivial) ?_
   refine ac rfl (by
     intro k _nm ρ σm hJ hoff hdep
     have e37 := hdep 9 rfl rfl 37 rfl
     have e41 := hdep 13 rfl rfl 41 rfl
     exact dp_v (v := (I (w64 (Dg - x56.2.1)))) wn (rv_sub (a := Dg) (b := x56.2.1) e37 e41) rfl hJ) ?_
   refine ac rfl (by
     intro k _nm ρ σm hJ hoff hdep
     have e36 : look 44 ρ 36 = (.pointer a52) := hdep 8 rfl rfl 36 rfl
     have e42 : look 44 ρ 42 = (I (w64 (Dg - x56.2.1))) := hdep 14 rfl rfl 42 rfl
     exact dp_v (v := (.agg #[(.pointer a52), (I (w64 (Dg - x56.2.1)))])) wn (rv_build (ps := [(0, (.pointer a52)), (1, (I (w64 (Dg - x56.2.1))))]) Tryz.underlying89 ti89 (bp89 Tryz.underlying89) (by show [(0, look 44 ρ 36), (1, look 44 ρ 42)] = _; rw [e36, e42]) (by kernel_rfl)) rfl hJ) ?_
   refine all_cons (by
     refine ⟨?_, ?_⟩
     ·intro _nm ρ σm hJ hoff hdep
      have e4 := look_off (N := 44) (hoff 4 rfl) rfl
      have e32 := hdep 4 rfl rfl 32 rfl
      obtain ⟨H, m⟩ := id hJ
      refine dp_exS wn rfl (ex_store_box (k := 0) (cs := [(.pointer none), (I 0)]) (vs := [(.pointer a43), (I 0)]) (cs' := [(.pointer a43), (I 0)]) H (i := 3) rfl ti89 e4 rfl e32 rfl rfl (Nat.le_of_ble_eq_true rfl) (by simp [plain]) rfl) ?_
      rintro σq ⟨H2, m2⟩
      exact ⟨_, (), rfl, ⟨H2.sel' [0, 1, 2, 3, 4] rfl rfl, m.comp m2⟩, stab [0, 1, 2, 3, 4, 5, 6, 7, 8, 9, 10, 11, 12, 13, 14, 15] (by kernel_rfl) ⟨rfl, rfl, rfl, rfl, rfl, rfl, rfl, rfl, rfl, rfl, rfl, rfl, rfl, rfl, rfl, rfl, trivial⟩⟩
     trivial) ?_
   exact all_nil
  ·intro _nm ρ σ62 hJ hoff hrel
   have e4 := look_off (N := 44) (hoff 4 rfl) rfl
   have e5 := look_off (N := 44) (hoff 5 rfl) rfl
   have e43 := hrel 15 rfl 43 rfl
   obtain ⟨H, -⟩ := (show Hp S0 σ0 σ62 [Ch.bx n0 b1 0 [(.pointer a43), (I 0)] [] [], Ch.pr 0 (.pointer a52) x47.2.2.1, Ch.pr 0 (.pointer a43) x38.2.2.2, Ch.bx n0 b3 0 [(.pointer none), (I 0)] [] [], Ch.pr 0 (.pointer Dh) De] ∧ Md (fun i => (cov []) i ∨ (fun i => i = b1) i) σ4 σ62 from hJ)
   clear hJ Hs
   rw [fr_lookL (L := [(4, (pt b1 0)), (5, (pt b3 0)), (43, (.agg #[(.pointer a52), (I (w64 (Dg - x56.2.1)))]))]) ⟨e4, e5, e43, trivial⟩]
   clear hoff hrel e4 e5 e43
   refine st_exS (ex_store_box (k := 0) (cs := [(.pointer none), (I 0)]) (vs := [(.pointer a52), (I (w64 (Dg - x56.2.1)))]) (cs' := [(.pointer a52), (I (w64 (Dg - x56.2.1)))]) H (i := 3) rfl ti89 rfl rfl rfl rfl rfl (Nat.le_of_ble_eq_true rfl) (by simp [plain]) rfl) wn ?_
   rintro σ63 ⟨H, -⟩
   refine w_end (q_then (c_ret ?_))
   obtain rfl := sj h
   exact fin_ret (v := (.tuple #[(.agg #[(.pointer a43), (I 0)]), (.agg #[(.pointer a52), (I (w64 (Dg - x56.2.1)))])])) (results_ok Tryz.results67 (res_cell rfl (run_cellRes (cs := [(.pointer a43), (I 0)]) Tryz.underlying89 rfl ti89 rfl (H.cells 1 rfl)) (res_cell rfl (run_cellRes (cs := [(.pointer a52), (I (w64 (Dg - x56.2.1)))]) Tryz.underlying89 rfl ti89 rfl (H.cells 0 rfl)) res_nil)) rfl) ⟨a43, a52, rfl, rfl⟩ (H.sel' [3, 2] rfl rfl)

theorem c_impl_nearestHits_reach {Ax : Int × (List (Int × Int))} {Cw : Option Addr} {Cy : Nat} {Cz Da Db : Nat} {Dc Dd : List Value} {r : Int} (h : M.impl_nearestHits_reach Ax = some r) :
    Cal2 Tryz.prog 64 [(pt Da Db)] [Ch.bx Cz Da Db [(I Ax.1), (Sl Cw Ax.2 Cy)] Dc Dd, Ch.own 0 0 (Sl Cw Ax.2 Cy) Ax.2] (fun n0 v L => v = (I r) ∧ L = [Ch.bx Cz Da Db [(I Ax.1), (Sl Cw Ax.2 Cy)] Dc Dd, Ch.own 0 0 (Sl Cw Ax.2 Cy) Ax.2]) := by
 refine cal2 (n := 20) Tryz.func64 rfl rfl rfl rfl ?_
 intro S0 σ0 n0 hn0 H
 unfold M.impl_nearestHits_reach at h
 refine c_seq (rg (sa (I 0) rfl (w_end (q_then (c_seq (c_seq ?_))))))
 refine rgP (σ := σ0) 9 (by kernel_rfl) (by kernel_rfl) (by kernel_rfl) ?_
 refine sq (v := (pt Da Db)) (rv_move rfl) (sq (v := (pt Da Db)) (rv_nilCheck rfl) (sq (v := (pt Da (Db + 1))) (rv_fieldAddr (off := 1) (ft := 51) Tryz.underlying53 rfl ti51 rfl rfl) ?_))
 have hc1 := H.cell (u := (Sl Cw Ax.2 Cy)) (o' := (Db + 1)) 0 1 rfl rfl rfl
 refine sq (v := (Sl Cw Ax.2 Cy)) (rv_load1 Tryz.underlying51 rfl rfl hc1) (sq (v := (I (Ax.2.length : Int))) (rv_len Tryz.underlying51 rfl) (sq (v := (pt Da Db)) (rv_move rfl) (sq (v := (pt Da Db)) (rv_nilCheck rfl) (sq (v := (pt Da Db)) (rv_fieldAddr (off := 0) (ft := 3) Tryz.underlying53 rfl ti3 rfl rfl) ?_))))
 have hc2 := H.cell (u := (I Ax.1)) (o' := Db) 0 0 rfl rfl rfl
 refine sq (v := (I Ax.1)) (rv_load1 Tryz.underlying3 rfl rfl hc2) (sq_end ?_)
 intro σ3 hm4
 replace H := H.grow (hm4.mono fun _ h => h); clear hm4
 refine st (v := (B (decide ((Ax.2.length : Int) < Ax.1)))) (rv_lss (a := (Ax.2.length : Int)) (b := Ax.1) rfl rfl) (w_end (q_then ?_))
 refine cd_cond (decide ((Ax.2.length : Int) < Ax.1)) rfl (fun hb5 => ?_) (fun hb5 => ?_)
 ·replace h := bif_t hb5 h
  refine c_seq (rg (sa (I 1000000) rfl (w_end (q_then (c_ret (q_then_r ?_))))))
  obtain rfl := sj h
  exact fin_ret (v := (I 1000000)) (results_ok Tryz.results64 (res_tmp (v := (I 1000000)) rfl res_nil) rfl) ⟨rfl, rfl⟩ (H.sel' [0, 1] rfl rfl)
 ·replace h := bif_f hb5 h
  refine c_skip (q_then (c_seq (rg (sm (pt Da Db) rfl (st (v := (pt Da Db)) (rv_nilCheck rfl) (st (v := (pt Da (Db + 1))) (rv_fieldAddr (off := 1) (ft := 51) Tryz.underlying53 rfl ti51 rfl rfl) ?_))))))
  have hc6 := H.cell (u := (Sl Cw Ax.2 Cy)) (o' := (Db + 1)) 0 1 rfl rfl rfl
  refine st (v := (Sl Cw Ax.2 Cy)) (rv_load1 Tryz.underlying51 rfl rfl hc6) ?_
  revert h; refine br fun x7 hx8 h => ?_
  obtain ⟨b10, o11, hi9, -⟩ := (H.own 1 rfl).ix hx8
  refine st (v := (pt b10 o11)) (rv_ix Tryz.underlying51 ti38 rfl rfl hi9) (st (v := (pt b10 (o11 + 1))) (rv_fieldAddr (off := 1) (ft := 3) Tryz.underlying38 rfl ti3 rfl rfl) ?_)
  have hc12 := ((H.own 1 rfl).at hx8 hi9).snd.int
  refine st (v := (I x7.2)) (rv_load1 Tryz.underlying3 rfl rfl hc12) (sa (I x7.2) rfl (w_end (q_then (c_ret ?_))))
  obtain rfl := sj h
  exact fin_ret (v := (I x7.2)) (results_ok Tryz.results64 (res_tmp (v := (I x7.2)) rfl res_nil) rfl) ⟨rfl, rfl⟩ (H.sel' [0, 1] rfl rfl)

theorem c_impl_searchTree {Di : Tr (Int × (List Int) × Int)} {Bl : Int} {Bm : List Int} {Bn : Int} {Dj : Option Addr} {Bo : Option Addr} {Bp : Nat} {r : (Int × (List (Int × Int))) × Int} (h : M.impl_searchTree Di Bl Bm Bn = some r) :
    Cal2 Tryz.prog 33 [(.pointer Dj), (I Bl), (Sl Bo Bm Bp), (I Bn)] [Ch.pr 0 (.pointer Dj) Di, Ch.ro 0 (Sl Bo Bm Bp) Bm] (fun n0 v L => ∃ (az1 : Option Addr), ∃ (cz2 : Nat), v = (.tuple #[(.agg #[(I r.1.1), (Sl az1 r.1.2 cz2)]), (I r.2)]) ∧ L = [Ch.own 0 n0 (Sl az1 r.1.2 cz2) r.1.2]) := by
 refine cal2 (n := 72) Tryz.func33 rfl rfl rfl rfl ?_
 intro S0 σ0 n0 hn0 H
 unfold M.impl_searchTree at h
 refine c_seq (rg (st_ex (ex_alloc (cs := [(I 0), (.slice none 0 0)]) H hn0 ti53 rfl) wn ?_))
 rintro _ σ2 ⟨b1, rfl, H, -⟩
 refine sa (I 0) rfl (w_end (q_then (c_seq (rg (sm (I Bn) rfl ?_)))))
 refine st (v := (.agg #[(I Bn), (.slice none 0 0)])) (rv_build (ps := [(0, (I Bn))]) Tryz.underlying53 ti53 (bp53 Tryz.underlying53) rfl (by kernel_rfl)) ?_
 refine st_ex (ex_alloc (cs := [(I 0), (.slice none 0 0)]) H hn0 ti53 rfl) wn ?_
 rintro _ σ4 ⟨b3, rfl, H, -⟩
 refine st_exS (ex_store_box (k := 0) (cs := [(I 0), (.slice none 0 0)]) (vs := [(I Bn), (.slice none 0 0)]) (cs' := [(I Bn), (.slice none 0 0)]) H (i := 0) rfl ti53 rfl rfl rfl rfl rfl (Nat.le_of_ble_eq_true rfl) (by simp [plain]) rfl) wn ?_
 rintro σ5 ⟨H, -⟩
 refine sa (I 0) rfl (w_end (q_then (c_seq (rg (sm (.pointer Dj) rfl ?_)))))
 refine st (v := (.agg #[(.pointer Dj), (I 0)])) (rv_build (ps := [(0, (.pointer Dj))]) Tryz.underlying89 ti89 (bp89 Tryz.underlying89) rfl (by kernel_rfl)) ?_
 refine st_ex (ex_buildSlice (el := 0) (xs := ([(Di, 0)] : List ((Tr (Int × (List Int) × Int)) × Int))) (ps := [(0, (.agg #[(.pointer Dj), (I 0)]))]) (cs := [(.pointer Dj), (I 0)]) H hn0 Tryz.underlying90 ti89 rfl rfl (by kernel_rfl) (.cons (c := [(.pointer Dj), (I 0)]) ⟨[(.pointer Dj)], [(I 0)], rfl, ⟨_, rfl, (H.pr 2 rfl)⟩, rfl⟩ (.nil)) rfl) wn ?_
 rintro _ σ7 ⟨b6, rfl, H, -⟩
 refine sa (Sl (some ⟨b6, 0, none⟩) ([(Di, 0)] : List ((Tr (Int × (List Int) × Int)) × Int)) 1) rfl (w_end (q_then (c_seq ?_)))
 obtain ⟨o8, hj, h'⟩ := bind_some h
 clear h
 refine c_cut (fun e a w => e = .normal ∧ ∃ (ρ : Nat → Value) (σ : St) (aj1 : Option Addr) (cj2 : Nat), a = fr 72 (updL ρ [(8, (pt b1 0)), (10, (pt b3 0)), (11, (I o8.2))]) ∧ w = σ.w ∧ Hp S0 σ0 σ [Ch.bx n0 b3 0 [(I o8.1.1), (Sl aj1 o8.1.2 cj2)] [] [], Ch.own 0 0 (Sl aj1 o8.1.2 cj2) o8.1.2, Ch.bx n0 b1 0 [(I 0), (.slice none 0 0)] [] []]) ?_ ?_
 ·clear h'
  rename _ = some o8 => h
  refine c_blk ?_
  replace H := H.nilOwn (Int × Int) 0 0
  refine wp_loopM _ h (fun s9 a w => ∃ (ρ : Nat → Value) (σ : St) (aj1 : Option Addr) (cj2 : Nat) (aj3 : Option Addr) (cj4 : Nat), a = fr 72 (updL ρ [(1, (I Bl)), (2, (Sl Bo Bm Bp)), (8, (pt b1 0)), (10, (pt b3 0)), (11, (I s9.2.1)), (12, (Sl aj3 s9.2.2 cj4))]) ∧ w = σ.w ∧ Hp S0 σ0 σ [Ch.bx n0 b3 0 [(I s9.1.1), (Sl aj1 s9.1.2 cj2)] [] [], Ch.own 0 0 (Sl aj1 s9.1.2 cj2) s9.1.2, Ch.ro 0 (Sl Bo Bm Bp) Bm, Ch.bx n0 b1 0 [(I 0), (.slice none 0 0)] [] [], Ch.own n0 0 (Sl aj3 s9.2.2 cj4) s9.2.2]) ⟨_, σ7, none, 0, (some ⟨b6, 0, none⟩), 1, fr_join ⟨rfl, rfl, rfl, rfl, rfl, rfl, trivial⟩, rfl, H.sel' [2, 0, 5, 3, 1] rfl rfl⟩ ?_
  clear h H
  rintro s9 a w o ⟨ρ, σ10, a11, c12, a13, c14, rfl, rfl, H⟩ h hres
  refine c_seq (c_seq (rg (sm (Sl a13 s9.2.2 c14) rfl (st (v := (I (s9.2.2.length : Int))) (rv_len Tryz.underlying90 rfl) (st (v := (B (decide (0 < (s9.2.2.length : Int))))) (rv_gtr (a := (s9.2.2.length : Int)) (b := 0) rfl rfl) (w_end (q_then ?_)))))))
  refine cd_cond (decide (0 < (s9.2.2.length : Int))) rfl (fun hb15 => ?_) (fun hb15 => ?_)
  ·replace h := bif_t hb15 h
   refine c_skip (q_then (c_blk (c_seq (rg (sm (Sl a13 s9.2.2 c14) rfl (sm (Sl a13 s9.2.2 c14) rfl (st (v := (I (s9.2.2.length : Int))) (rv_len Tryz.underlying90 rfl) (st (v := (I (w64 ((s9.2.2.length : Int) - 1)))) (rv_sub (a := (s9.2.2.length : Int)) (b := 1) rfl rfl) ?_))))))))
   revert h; refine br fun x16 hx17 h => ?_
   obtain ⟨b19, o20, hi18, -⟩ := (H.own 4 rfl).ix hx17
   refine st (v := (pt b19 o20)) (rv_ix Tryz.underlying90 ti89 rfl rfl hi18) ?_
   obtain ⟨_, ⟨_, _, rfl, ⟨_, rfl, hR24⟩, rfl⟩, hl21, hc22⟩ := ((H.own 4 rfl).at hx17 hi18).cells
   obtain ⟨a23, rfl⟩ := hR24.isPtr
   replace H := H.add (d := Ch.pr 0 (.pointer a23) x16.1) hR24 (fun _ h => h)
   clear hR24
   refine st (v := (.agg #[(.pointer a23), (I x16.2)])) (rv_load Tryz.underlying89 rfl ti89 rfl hl21 hc22) (st_ex (ex_alloc (cs := [(.pointer none), (I 0)]) H hn0 ti89 rfl) wn ?_)
   rintro _ σ26 ⟨b25, rfl, H, -⟩
   refine st_exS (ex_store_box (k := 0) (cs := [(.pointer none), (I 0)]) (vs := [(.pointer a23), (I x16.2)]) (cs' := [(.pointer a23), (I x16.2)]) H (i := 0) rfl ti89 rfl rfl rfl rfl rfl (Nat.le_of_ble_eq_true rfl) (by simp [plain]) rfl) wn ?_
   rintro σ27 ⟨H, -⟩
   refine w_end (q_then (c_seq (rg (sm (Sl a13 s9.2.2 c14) rfl (sm (Sl a13 s9.2.2 c14) rfl (st (v := (I (s9.2.2.length : Int))) (rv_len Tryz.underlying90 rfl) (st (v := (I (w64 ((s9.2.2.length : Int) - 1)))) (rv_sub (a := (s9.2.2.length : Int)) (b := 1) rfl rfl) ?_)))))))
   revert h; refine br fun xs28 hx29 h => ?_
   obtain ⟨a30, c31, hs32, hR33, hb34⟩ := (H.own 6 rfl).slice hx29
   replace H := (H.front (i := 6) rfl).turn (d := Ch.own n0 0 (Sl a30 xs28 c31) xs28) (fun _ => hR33) hb34; clear hR33 hb34
   refine st (v := (Sl a30 xs28 c31)) (rv_slice_h Tryz.underlying90 ti89 hs32 rfl rfl) (sa (Sl a30 xs28 c31) rfl (w_end (q_then (c_seq (c_seq ?_)))))
   obtain ⟨o35, hj, h'⟩ := bind_some h
   clear h
   refine c_cut (fun e a w => e = .normal ∧ ∃ (ρ : Nat → Value) (σ : St), a = fr 72 (updL ρ [(1, (I Bl)), (2, (Sl Bo Bm Bp)), (8, (pt b1 0)), (10, (pt b3 0)), (11, (I s9.2.1)), (12, (Sl a30 xs28 c31)), (13, (pt b25 0)), (44, (B o35))]) ∧ w = σ.w ∧ Hp S0 σ0 σ [Ch.ro 0 (Sl Bo Bm Bp) Bm, Ch.bx n0 b1 0 [(I 0), (.slice none 0 0)] [] [], Ch.own 0 0 (Sl a11 s9.1.2 c12) s9.1.2, Ch.bx n0 b3 0 [(I s9.1.1), (Sl a11 s9.1.2 c12)] [] [], Ch.own n0 0 (Sl a30 xs28 c31) xs28, Ch.pr 0 (.pointer a23) x16.1, Ch.bx n0 b25 0 [(.pointer a23), (I x16.2)] [] []]) ?_ ?_
   ·clear h'
    rename _ = some o35 => h
    have hc36 := H.cell (u := (.pointer a23)) (o' := 0) 1 0 rfl rfl rfl
    rcases Bool.eq_false_or_eq_true x16.1.isNil with hb37 | hb37
    ·replace h := bif_t hb37 h
     have Hs := H
     refine rg2 (σ := σ27) (Nm := Unit) 7 [] [[]] [[(0, 0)], [(0, 0)], [(0, 0)], [(0, 0)], [(0, 0)], [(0, 0)], [(0, 0)]] 0 [fun _ => fun σm => Hp S0 σ0 σm [Ch.own n0 0 (Sl a30 xs28 c31) xs28, Ch.bx n0 b25 0 [(.pointer a23), (I x16.2)] [] [], Ch.pr 0 (.pointer a23) x16.1, Ch.bx n0 b3 0 [(I s9.1.1), (Sl a11 s9.1.2 c12)] [] [], Ch.own 0 0 (Sl a11 s9.1.2 c12) s9.1.2, Ch.ro 0 (Sl Bo Bm Bp) Bm, Ch.bx n0 b1 0 [(I 0), (.slice none 0 0)] [] []] ∧ Md (cov []) σ27 σm] [fun _ => (pt b25 0), fun _ => (.pointer a23), fun _ => (B x16.1.isNil), fun _ => (B x16.1.isNil), fun _ => undef, fun _ => undef, fun _ => undef] () (by kernel_rfl) (by kernel_rfl) ?_ ?_ ?_
     ·intro σm m0
      exact ⟨H.grow (m0.mono fun _ h => h.elim), m0⟩
     ·refine ac rfl (by
        intro k _nm ρ σm hJ hoff hdep
        have e13 := look_off (N := 72) (hoff 13 rfl) rfl
        exact dp_v (v := (pt b25 0)) wn (rv_fieldAddr (off := 0) (ft := 56) Tryz.underlying89 rfl ti56 rfl e13) rfl hJ) ?_
      refine all_cons (by
        refine ⟨?_, ?_⟩
        ·intro _nm ρ σm hJ hoff hdep
         have e36 := hdep 0 rfl rfl 36 rfl
         obtain ⟨H, m⟩ := id hJ
         have hc36 := H.cell (u := (.pointer a23)) (o' := 0) 1 0 rfl rfl rfl
         exact dp_v (v := (.pointer a23)) wn (rv_load1 Tryz.underlying56 rfl e36 hc36) rfl hJ
        trivial) ?_
      refine ac rfl (by
        intro k _nm ρ σm hJ hoff hdep
        have e37 := hdep 1 rfl rfl 37 rfl
        exact dp_v (v := (B x16.1.isNil)) wn (rv_eqlNil Tryz.underlying56 (H.pr 2 rfl) e37 rfl) rfl hJ) ?_
      refine ac rfl (by
        intro k _nm ρ σm hJ hoff hdep
        have e38 := hdep 2 rfl rfl 38 rfl
        exact dp_v (v := (B x16.1.isNil)) wn (rv_move e38) rfl hJ) ?_
      refine ac rfl (by
        intro k _nm ρ σm hJ hoff hdep
        have e39 := hdep 3 rfl rfl 39 rfl
        exact dp_skip (wanted_no rfl (yv_of rfl (e39.trans (congrArg B hb37)))) rfl hJ) ?_
      refine ac rfl (by
        intro k _nm ρ σm hJ hoff hdep
        have e39 := hdep 3 rfl rfl 39 rfl
        exact dp_skip (wanted_no rfl (yv_of rfl (e39.trans (congrArg B hb37)))) rfl hJ) ?_
      refine ac rfl (by
        intro k _nm ρ σm hJ hoff hdep
        have e39 := hdep 3 rfl rfl 39 rfl
        exact dp_skip (wanted_no rfl (yv_of rfl (e39.trans (congrArg B hb37)))) rfl hJ) ?_
      exact all_nil
     ·intro _nm ρ σ38 hJ hoff hrel
      have e1 := look_off (N := 72) (hoff 1 rfl) rfl
      have e2 := look_off (N := 72) (hoff 2 rfl) rfl
      have e8 := look_off (N := 72) (hoff 8 rfl) rfl
      have e10 := look_off (N := 72) (hoff 10 rfl) rfl
      have e11 := look_off (N := 72) (hoff 11 rfl) rfl
      have e12 := look_off (N := 72) (hoff 12 rfl) rfl
      have e13 := look_off (N := 72) (hoff 13 rfl) rfl
      have e39 := hrel 3 rfl 39 rfl
      have e41 := hrel 5 rfl 41 rfl
      have e42 := hrel 6 rfl 42 rfl
      obtain ⟨H, -⟩ := (show Hp S0 σ0 σ38 [Ch.own n0 0 (Sl a30 xs28 c31) xs28, Ch.bx n0 b25 0 [(.pointer a23), (I x16.2)] [] [], Ch.pr 0 (.pointer a23) x16.1, Ch.bx n0 b3 0 [(I s9.1.1), (Sl a11 s9.1.2 c12)] [] [], Ch.own 0 0 (Sl a11 s9.1.2 c12) s9.1.2, Ch.ro 0 (Sl Bo Bm Bp) Bm, Ch.bx n0 b1 0 [(I 0), (.slice none 0 0)] [] []] ∧ Md (cov []) σ27 σ38 from hJ)
      clear hJ Hs
      rw [fr_lookL (L := [(1, (I Bl)), (2, (Sl Bo Bm Bp)), (8, (pt b1 0)), (10, (pt b3 0)), (11, (I s9.2.1)), (12, (Sl a30 xs28 c31)), (13, (pt b25 0)), (39, (B x16.1.isNil)), (41, undef), (42, undef)]) ⟨e1, e2, e8, e10, e11, e12, e13, e39, e41, e42, trivial⟩]
      clear hoff hrel e1 e2 e8 e10 e11 e12 e13 e39 e41 e42
      refine st_skip (congrArg some hb37) (st (v := (B true)) (rv_pick_t (congrArg B hb37) rfl) (w_end ?_))
      obtain rfl := sj h
      exact ⟨rfl, _, σ38, fr_join ⟨rfl, rfl, rfl, rfl, rfl, rfl, rfl, rfl, trivial⟩, rfl, H.sel' [5, 6, 4, 3, 0, 2, 1] rfl rfl⟩
    ·replace h := bif_f hb37 h
     have hc39 := H.cell (u := (I x16.2)) (o' := 1) 1 1 rfl rfl rfl
     revert h; refine br fun r40 hx41 h => ?_
     have hc42 := c_impl_nearestHits_reach (Cz := n0) (Da := b3) (Db := 0) (Dc := []) (Dd := []) (Cw := a11) (Cy := c12) hx41
     have Hs := H
     refine rg2 (σ := σ27) (Nm := Unit) 7 [6] [[false], [true]] [[(0, 0)], [(0, 0)], [(0, 0)], [(0, 0)], [(0, 0), (1, 1)], [(0, 0), (1, 1)], [(0, 1)]] 1 [fun _ => fun σm => Hp S0 σ0 σm [Ch.own n0 0 (Sl a30 xs28 c31) xs28, Ch.bx n0 b25 0 [(.pointer a23), (I x16.2)] [] [], Ch.pr 0 (.pointer a23) x16.1, Ch.bx n0 b3 0 [(I s9.1.1), (Sl a11 s9.1.2 c12)] [] [], Ch.own 0 0 (Sl a11 s9.1.2 c12) s9.1.2, Ch.ro 0 (Sl Bo Bm Bp) Bm, Ch.bx n0 b1 0 [(I 0), (.slice none 0 0)] [] []] ∧ Md (cov []) σ27 σm, fun _ => fun σm => Hp S0 σ0 σm [Ch.bx n0 b3 0 [(I s9.1.1), (Sl a11 s9.1.2 c12)] [] [], Ch.own 0 0 (Sl a11 s9.1.2 c12) s9.1.2, Ch.own n0 0 (Sl a30 xs28 c31) xs28, Ch.bx n0 b25 0 [(.pointer a23), (I x16.2)] [] [], Ch.pr 0 (.pointer a23) x16.1, Ch.ro 0 (Sl Bo Bm Bp) Bm, Ch.bx n0 b1 0 [(I 0), (.slice none 0 0)] [] []] ∧ Md (fun i => (cov []) i ∨ (cov [Ch.bx n0 b3 0 [(I s9.1.1), (Sl a11 s9.1.2 c12)] [] [], Ch.own 0 0 (Sl a11 s9.1.2 c12) s9.1.2]) i) σ27 σm] [fun _ => (pt b25 0), fun _ => (.pointer a23), fun _ => (B x16.1.isNil), fun _ => (B x16.1.isNil), fun _ => (pt b25 1), fun _ => (I x16.2), fun _ => (I r40)] () (by kernel_rfl) (by kernel_rfl) ?_ ?_ ?_
     ·intro σm m0
      exact ⟨H.grow (m0.mono fun _ h => h.elim), m0⟩
     ·refine ac rfl (by
        intro k _nm ρ σm hJ hoff hdep
        have e13 := look_off (N := 72) (hoff 13 rfl) rfl
        exact dp_v (v := (pt b25 0)) wn (rv_fieldAddr (off := 0) (ft := 56) Tryz.underlying89 rfl ti56 rfl e13) rfl hJ) ?_
      refine all_cons (by
        refine ⟨?_, ?_⟩
        ·intro _nm ρ σm hJ hoff hdep
         have e36 := hdep 0 rfl rfl 36 rfl
         obtain ⟨H, m⟩ := id hJ
         have hc36 := H.cell (u := (.pointer a23)) (o' := 0) 1 0 rfl rfl rfl
         exact dp_v (v := (.pointer a23)) wn (rv_load1 Tryz.underlying56 rfl e36 hc36) rfl hJ
        trivial) ?_
      refine ac rfl (by
        intro k _nm ρ σm hJ hoff hdep
        have e37 := hdep 1 rfl rfl 37 rfl
        exact dp_v (v := (B x16.1.isNil)) wn (rv_eqlNil Tryz.underlying56 (H.pr 2 rfl) e37 rfl) rfl hJ) ?_
      refine ac rfl (by
        intro k _nm ρ σm hJ hoff hdep
        have e38 := hdep 2 rfl rfl 38 rfl
        exact dp_v (v := (B x16.1.isNil)) wn (rv_move e38) rfl hJ) ?_
      refine ac rfl (by
        intro k _nm ρ σm hJ hoff hdep
        have e13 := look_off (N := 72) (hoff 13 rfl) rfl
        have e39 := hdep 3 rfl rfl 39 rfl
        exact dp_v (v := (pt b25 1)) (wanted_yes rfl (yv_of rfl (e39.trans (congrArg B hb37)))) (rv_fieldAddr (off := 1) (ft := 3) Tryz.underlying89 rfl ti3 rfl e13) rfl hJ) ?_
      refine all_cons (by
        refine ⟨?_, ?_⟩
        ·intro _nm ρ σm hJ hoff hdep
         have e40 := hdep 4 rfl rfl 40 rfl
         have e39 := hdep 3 rfl rfl 39 rfl
         obtain ⟨H, m⟩ := id hJ
         have hc39 := H.cell (u := (I x16.2)) (o' := 1) 1 1 rfl rfl rfl
         exact dp_v (v := (I x16.2)) (wanted_yes rfl (yv_of rfl (e39.trans (congrArg B hb37)))) (rv_load1 Tryz.underlying3 rfl e40 hc39) rfl hJ
        refine ⟨?_, ?_⟩
        ·intro _nm ρ σm hJ hoff hdep
         have e40 := hdep 4 rfl rfl 40 rfl
         have e39 := hdep 3 rfl rfl 39 rfl
         obtain ⟨H, m⟩ := id hJ
         have hc39 := H.cell (u := (I x16.2)) (o' := 1) 3 1 rfl rfl rfl
         exact dp_v (v := (I x16.2)) (wanted_yes rfl (yv_of rfl (e39.trans (congrArg B hb37)))) (rv_load1 Tryz.underlying3 rfl e40 hc39) rfl hJ
        trivial) ?_
      refine all_cons (by
        refine ⟨?_, ?_⟩
        ·intro _nm ρ σm hJ hoff hdep
         have e10 : look 72 ρ 10 = (pt b3 0) := look_off (hoff 10 rfl) rfl
         have e39 := hdep 3 rfl rfl 39 rfl
         obtain ⟨H, m⟩ := id hJ
         refine dp_cx (wanted_yes rfl (yv_of rfl (e39.trans (congrArg B hb37)))) (cx_call hc42 (ent_f hc42.fn (by show [look 72 ρ 10] = _; rw [e10])) hn0 (H.sel' [3, 4, 0, 1, 2, 5, 6] rfl rfl : Hp S0 σ0 _ ([_, _] ++ _))) ?_
         rintro _ σq ⟨_, ⟨rfl, rfl⟩, H2, m2⟩
         exact ⟨_, (), rfl, rfl, ⟨H2.sel' [0, 1, 2, 3, 4, 5, 6] rfl rfl, m.comp m2⟩, stab [0, 1, 2, 3, 4, 5] (by kernel_rfl) ⟨rfl, rfl, rfl, rfl, rfl, rfl, trivial⟩⟩
        trivial) ?_
      exact all_nil
     ·intro _nm ρ σ43 hJ hoff hrel
      have e1 := look_off (N := 72) (hoff 1 rfl) rfl
      have e2 := look_off (N := 72) (hoff 2 rfl) rfl
      have e8 := look_off (N := 72) (hoff 8 rfl) rfl
      have e10 := look_off (N := 72) (hoff 10 rfl) rfl
      have e11 := look_off (N := 72) (hoff 11 rfl) rfl
      have e12 := look_off (N := 72) (hoff 12 rfl) rfl
      have e13 := look_off (N := 72) (hoff 13 rfl) rfl
      have e39 := hrel 3 rfl 39 rfl
      have e41 := hrel 5 rfl 41 rfl
      have e42 := hrel 6 rfl 42 rfl
      obtain ⟨H, -⟩ := (show Hp S0 σ0 σ43 [Ch.bx n0 b3 0 [(I s9.1.1), (Sl a11 s9.1.2 c12)] [] [], Ch.own 0 0 (Sl a11 s9.1.2 c12) s9.1.2, Ch.own n0 0 (Sl a30 xs28 c31) xs28, Ch.bx n0 b25 0 [(.pointer a23), (I x16.2)] [] [], Ch.pr 0 (.pointer a23) x16.1, Ch.ro 0 (Sl Bo Bm Bp) Bm, Ch.bx n0 b1 0 [(I 0), (.slice none 0 0)] [] []] ∧ Md (fun i => (cov []) i ∨ (cov [Ch.bx n0 b3 0 [(I s9.1.1), (Sl a11 s9.1.2 c12)] [] [], Ch.own 0 0 (Sl a11 s9.1.2 c12) s9.1.2]) i) σ27 σ43 from hJ)
      clear hJ Hs
      rw [fr_lookL (L := [(1, (I Bl)), (2, (Sl Bo Bm Bp)), (8, (pt b1 0)), (10, (pt b3 0)), (11, (I s9.2.1)), (12, (Sl a30 xs28 c31)), (13, (pt b25 0)), (39, (B x16.1.isNil)), (41, (I x16.2)), (42, (I r40))]) ⟨e1, e2, e8, e10, e11, e12, e13, e39, e41, e42, trivial⟩]
      clear hoff hrel e1 e2 e8 e10 e11 e12 e13 e39 e41 e42
      refine st_g (v := (B (decide (r40 < x16.2)))) (congrArg some hb37) (rv_gtr (a := x16.2) (b := r40) rfl rfl) (st (v := (B (decide (r40 < x16.2)))) (rv_pick_f (congrArg B hb37) rfl) (w_end ?_))
      obtain rfl := sj h
      exact ⟨rfl, _, σ43, fr_join ⟨rfl, rfl, rfl, rfl, rfl, rfl, rfl, rfl, trivial⟩, rfl, H.sel' [5, 6, 1, 0, 2, 4, 3] rfl rfl⟩
   ·clear hj
    have h := h'
    clear h' H
    rintro e a w ⟨rfl, ρ, σ44, rfl, rfl, H⟩
    refine q_then ?_
    refine cd_cond o35 rfl (fun hb45 => ?_) (fun hb45 => ?_)
    ·replace h := bif_t hb45 h
     refine c_exit (q_then_x (q_blk_hit (q_then ?_)))
     obtain rfl := sj h
     exact ⟨_, rfl, _, σ44, a11, c12, a30, c31, fr_join ⟨rfl, rfl, rfl, rfl, rfl, rfl, trivial⟩, rfl, H.sel' [3, 2, 0, 1, 4] rfl rfl⟩
    ·replace h := bif_f hb45 h
     refine c_skip (q_then (c_seq (rg (sm (I s9.2.1) rfl (st (v := (I (w64 (s9.2.1 + 1)))) (rv_add (a := s9.2.1) (b := 1) rfl rfl) (sa (I (w64 (s9.2.1 + 1))) rfl (w_end (q_then (c_seq (rg (st (v := (pt b25 0)) (rv_fieldAddr (off := 0) (ft := 56) Tryz.underlying89 rfl ti56 rfl rfl) ?_)))))))))))
     have hc46 := H.cell (u := (.pointer a23)) (o' := 0) 6 0 rfl rfl rfl
     refine st (v := (.pointer a23)) (rv_load1 Tryz.underlying56 rfl rfl hc46) ?_
     revert h; refine br fun x47 hx48 h => ?_
     obtain ⟨b50, o51, hi49⟩ := (H.pr 5 rfl).ex hx48
     refine st (v := (pt b50 o51)) (rv_nilCheckT hi49 rfl) (st (v := (pt b50 (o51 + 0))) (rv_fieldAddr (off := 0) (ft := 79) Tryz.underlying94 rfl ti79 rfl rfl) ?_)
     obtain ⟨_, ⟨_, _, rfl, rfl, ⟨_, _, rfl, ⟨_, rfl, hR56⟩, rfl⟩⟩, hl52, hc53⟩ := ((H.pr 5 rfl).at hx48 hi49).fst.cells
     obtain ⟨a54, c55, rfl⟩ := hR56.isSl
     replace H := H.add (d := Ch.ro 0 (Sl a54 x47.1.2.1 c55) x47.1.2.1) hR56 (fun _ h => h)
     clear hR56
     refine st (v := (.agg #[(I x47.1.1), (Sl a54 x47.1.2.1 c55), (I x47.1.2.2)])) (rv_load Tryz.underlying79 rfl ti79 rfl hl52 hc53) (sm (I Bl) rfl (sm (Sl Bo Bm Bp) rfl ?_))
     revert h; refine br fun r57 hx58 h => ?_
     have hc59 := c_impl_hitOf (Be := a54) (Bf := c55) (Bo := Bo) (Bp := Bp) hx58
     refine st_call (cx_call hc59 (ent_f hc59.fn rfl) hn0 (H.sel' [0, 1, 0, 1, 2, 3, 4, 5, 6, 7] rfl rfl : Hp S0 σ0 _ ([_, _] ++ _))) wn ?_
     rintro _ σ60 ⟨_, ⟨rfl, rfl⟩, H, -⟩
     replace H : Hp _ _ _ [_, _, _, _, _, _, _, _] := H
     replace H : Hp S0 σ0 σ60 [Ch.ro 0 (Sl Bo Bm Bp) Bm, Ch.bx n0 b1 0 [(I 0), (.slice none 0 0)] [] [], Ch.own 0 0 (Sl a11 s9.1.2 c12) s9.1.2, Ch.bx n0 b3 0 [(I s9.1.1), (Sl a11 s9.1.2 c12)] [] [], Ch.own n0 0 (Sl a30 xs28 c31) xs28, Ch.pr 0 (.pointer a23) x16.1, Ch.bx n0 b25 0 [(.pointer a23), (I x16.2)] [] []] := H.sel' [1, 2, 3, 4, 5, 6, 7] rfl rfl
     refine st_ex (ex_alloc (cs := [(I 0), (I 0)]) H hn0 ti38 rfl) wn ?_
     rintro _ σ62 ⟨b61, rfl, H, -⟩
     refine st_exS (ex_store_box (k := 0) (cs := [(I 0), (I 0)]) (vs := [(I r57.1), (I r57.2)]) (cs' := [(I r57.1), (I r57.2)]) H (i := 0) rfl ti38 rfl rfl rfl rfl rfl (Nat.le_of_ble_eq_true rfl) (by simp [plain]) rfl) wn ?_
     rintro σ63 ⟨H, -⟩
     refine w_end (q_then (c_seq (rg ?_)))
     have hc64 := H.cells 0 rfl
     refine st (v := (.agg #[(I r57.1), (I r57.2)])) (rv_load (cs := [(I r57.1), (I r57.2)]) Tryz.underlying38 rfl ti38 rfl rfl hc64) ?_
     revert h; refine br fun r65 hx66 h => ?_
     have hc67 := c_impl_nearestHits_offer (Cz := n0) (Da := b3) (Db := 0) (Dc := []) (Dd := []) (Cw := a11) (Cy := c12) hx66
     refine st_call (cx_call hc67 (ent_f hc67.fn rfl) hn0 (H.sel' [4, 3, 0, 1, 2, 5, 6, 7] rfl rfl : Hp S0 σ0 _ ([_, _] ++ _))) wn ?_
     rintro _ σ70 ⟨_, ⟨a68, c69, rfl, rfl⟩, H, -⟩
     replace H : Hp _ _ _ [_, _, _, _, _, _, _, _] := H
     refine w_end (q_then (c_seq (rg (st (v := (pt b25 0)) (rv_fieldAddr (off := 0) (ft := 56) Tryz.underlying89 rfl ti56 rfl rfl) ?_))))
     have hc71 := H.cell (u := (.pointer a23)) (o' := 0) 7 0 rfl rfl rfl
     refine st (v := (.pointer a23)) (rv_load1 Tryz.underlying56 rfl rfl hc71) (st (v := (pt b61 1)) (rv_fieldAddr (off := 1) (ft := 3) Tryz.underlying38 rfl ti3 rfl rfl) ?_)
     have hc72 := H.cell (u := (I r57.2)) (o' := 1) 2 1 rfl rfl rfl
     refine st (v := (I r57.2)) (rv_load1 Tryz.underlying3 rfl rfl hc72) ?_
     revert h; refine br fun r73 hx74 h => ?_
     have hc75 := c_impl_branch_turns (Dh := a23) hx74
     refine st_call (cx_call hc75 (ent_f hc75.fn rfl) hn0 (H.sel' [6, 0, 1, 2, 3, 4, 5, 6, 7] rfl rfl : Hp S0 σ0 _ ([_] ++ _))) wn ?_
     rintro _ σ78 ⟨_, ⟨a76, a77, rfl, rfl⟩, H, -⟩
     replace H : Hp _ _ _ [_, _, _, _, _, _, _, _, _, _] := H
     replace H : Hp S0 σ0 σ78 [Ch.pr 0 (.pointer a76) r73.1.1, Ch.pr 0 (.pointer a77) r73.2.1, Ch.bx n0 b3 0 [(I r65.1), (Sl a68 r65.2 c69)] [] [], Ch.own 0 0 (Sl a68 r65.2 c69) r65.2, Ch.ro 0 (Sl Bo Bm Bp) Bm, Ch.bx n0 b1 0 [(I 0), (.slice none 0 0)] [] [], Ch.own n0 0 (Sl a30 xs28 c31) xs28] := H.sel' [0, 1, 2, 3, 5, 6, 7] rfl rfl
     refine sm (.tuple #[(.agg #[(.pointer a76), (I r73.1.2)]), (.agg #[(.pointer a77), (I r73.2.2)])]) rfl (st (v := (.agg #[(.pointer a76), (I r73.1.2)])) (rv_extract rfl rfl) (st (v := (.agg #[(.pointer a77), (I r73.2.2)])) (rv_extract rfl rfl) (st_ex (ex_alloc (cs := [(.pointer none), (I 0)]) H hn0 ti89 rfl) wn ?_)))
     rintro _ σ80 ⟨b79, rfl, H, -⟩
     refine st_ex (ex_alloc (cs := [(.pointer none), (I 0)]) H hn0 ti89 rfl) wn ?_
     rintro _ σ82 ⟨b81, rfl, H, -⟩
     refine st_exS (ex_store_box (k := 0) (cs := [(.pointer none), (I 0)]) (vs := [(.pointer a76), (I r73.1.2)]) (cs' := [(.pointer a76), (I r73.1.2)]) H (i := 1) rfl ti89 rfl rfl rfl rfl rfl (Nat.le_of_ble_eq_true rfl) (by simp [plain]) rfl) wn ?_
     rintro σ83 ⟨H, -⟩
     refine st_exS (ex_store_box (k := 0) (cs := [(.pointer none), (I 0)]) (vs := [(.pointer a77), (I r73.2.2)]) (cs' := [(.pointer a77), (I r73.2.2)]) H (i := 1) rfl ti89 rfl rfl rfl rfl rfl (Nat.le_of_ble_eq_true rfl) (by simp [plain]) rfl) wn ?_
     rintro σ84 ⟨H, -⟩
     refine w_end (q_then (rg (sm (Sl a30 xs28 c31) rfl ?_)))
     have hc85 := H.cells 0 rfl
     refine st (v := (.agg #[(.pointer a77), (I r73.2.2)])) (rv_load (cs := [(.pointer a77), (I r73.2.2)]) Tryz.underlying89 rfl ti89 rfl rfl hc85) ?_
     have hc86 := H.cells 1 rfl
     refine st (v := (.agg #[(.pointer a76), (I r73.1.2)])) (rv_load (cs := [(.pointer a76), (I r73.1.2)]) Tryz.underlying89 rfl ti89 rfl rfl hc86) ?_
     refine st_ex (ex_buildSlice (el := 0) (xs := ([(r73.2.1, r73.2.2), (r73.1.1, r73.1.2)] : List ((Tr (Int × (List Int) × Int)) × Int))) (ps := [(0, (.agg #[(.pointer a77), (I r73.2.2)])), (1, (.agg #[(.pointer a76), (I r73.1.2)]))]) (cs := [(.pointer a77), (I r73.2.2), (.pointer a76), (I r73.1.2)]) H hn0 Tryz.underlying90 ti89 rfl rfl (by kernel_rfl) (.cons (c := [(.pointer a77), (I r73.2.2)]) ⟨[(.pointer a77)], [(I r73.2.2)], rfl, ⟨_, rfl, (H.pr 3 rfl)⟩, rfl⟩ (.cons (c := [(.pointer a76), (I r73.1.2)]) ⟨[(.pointer a76)], [(I r73.1.2)], rfl, ⟨_, rfl, (H.pr 2 rfl)⟩, rfl⟩ (.nil))) rfl) wn ?_
     rintro _ σ88 ⟨b87, rfl, H, -⟩
     replace H : Hp S0 σ0 σ88 [Ch.own n0 0 (Sl (some ⟨b87, 0, none⟩) ([(r73.2.1, r73.2.2), (r73.1.1, r73.1.2)] : List ((Tr (Int × (List Int) × Int)) × Int)) 2) ([(r73.2.1, r73.2.2), (r73.1.1, r73.1.2)] : List ((Tr (Int × (List Int) × Int)) × Int)), Ch.bx n0 b3 0 [(I r65.1), (Sl a68 r65.2 c69)] [] [], Ch.own 0 0 (Sl a68 r65.2 c69) r65.2, Ch.ro 0 (Sl Bo Bm Bp) Bm, Ch.bx n0 b1 0 [(I 0), (.slice none 0 0)] [] [], Ch.own n0 0 (Sl a30 xs28 c31) xs28] := H.sel' [0, 5, 6, 7, 8, 9] rfl rfl
     revert h; refine br fun xs89 hx90 h => ?_
     refine st_ex (ex_append H (i := 5) rfl Tryz.underlying90 Tryz.underlying90 ti89 rfl rfl (by decide) (H.own 0 rfl).rd hx90 hn0 rfl rfl) wn ?_
     rintro _ σ93 ⟨a91, c92, rfl, H, -⟩
     refine sa (Sl a91 xs89 c92) rfl (w_end (q_blk (q_then ?_)))
     obtain rfl := sj h
     exact ⟨_, rfl, _, σ93, a68, c69, a91, c92, fr_join ⟨rfl, rfl, rfl, rfl, rfl, rfl, trivial⟩, rfl, H.sel' [2, 3, 4, 5, 0] rfl rfl⟩
  ·replace h := bif_f hb15 h
   refine c_exit (q_then_x (q_then_x (q_blk_hit ?_)))
   obtain rfl := sj h
   obtain rfl := hres _ rfl
   exact ⟨rfl, _, σ10, a11, c12, fr_join ⟨rfl, rfl, rfl, trivial⟩, rfl, H.sel' [0, 1, 3] rfl rfl⟩
 ·clear hj
  have h := h'
  clear h' H
  rintro e a w ⟨rfl, ρ, σ94, a95, c96, rfl, rfl, H⟩
  refine q_then (c_seq (rg ?_))
  have hc97 := H.cells 0 rfl
  refine st (v := (.agg #[(I o8.1.1), (Sl a95 o8.1.2 c96)])) (rv_load (cs := [(I o8.1.1), (Sl a95 o8.1.2 c96)]) Tryz.underlying53 rfl ti53 rfl rfl hc97) (sm (I o8.2) rfl ?_)
  refine st_exS (ex_store_box (k := 0) (cs := [(I 0), (.slice none 0 0)]) (vs := [(I o8.1.1), (Sl a95 o8.1.2 c96)]) (cs' := [(I o8.1.1), (Sl a95 o8.1.2 c96)]) H (i := 2) rfl ti53 rfl rfl rfl rfl rfl (Nat.le_of_ble_eq_true rfl) (by simp [plain]) rfl) wn ?_
  rintro σ98 ⟨H, -⟩
  refine sa (I o8.2) rfl (w_end (q_then (c_ret ?_)))
  replace H := H.ownSc 2 0 n0 rfl (Nat.le_refl _)
  obtain rfl := sj h
  exact fin_ret (v := (.tuple #[(.agg #[(I o8.1.1), (Sl a95 o8.1.2 c96)]), (I o8.2)])) (results_ok Tryz.results33 (res_cell rfl (run_cellRes (cs := [(I o8.1.1), (Sl a95 o8.1.2 c96)]) Tryz.underlying53 rfl ti53 rfl (H.cells 1 rfl)) (res_tmp (v := (I o8.2)) rfl res_nil)) rfl) ⟨a95, c96, rfl, rfl⟩ (H.sel' [0] rfl rfl)

theorem c_slices_Clone_impl_Item_impl_Item {Dk : List (Int × (List Int) × Int)} {Dm : Option Addr} {Dn : Nat} {r : (List (Int × (List Int) × Int))} (h : M.slices_Clone_impl_Item_impl_Item Dk = some r) :
    Cal2 Tryz.prog 91 [(Sl Dm Dk Dn)] [Ch.ro 0 (Sl Dm Dk Dn) Dk] (fun n0 v L => ∃ (az1 : Option Addr), ∃ (cz2 : Nat), v = (Sl az1 r cz2) ∧ L = [Ch.own n0 0 (Sl az1 r cz2) r]) := by
 refine cal2 (n := 8) Tryz.func91 rfl rfl rfl rfl ?_
 intro S0 σ0 n0 hn0 H
 unfold M.slices_Clone_impl_Item_impl_Item at h
 refine c_seq (rg (sa (.slice none 0 0) rfl (w_end (q_then (c_seq (c_seq (rg (sm (Sl Dm Dk Dn) rfl (st (v := (B Dm.isNone)) (rv_nilS Tryz.underlying23 rfl rfl) (w_end (q_then ?_)))))))))))
 refine cd_cond Dm.isNone rfl (fun hb1 => ?_) (fun hb1 => ?_)
 ·have hq := RS.nilOf hb1 (H.ro 0 rfl)
  subst hq
  replace h : some [] = some r := by simpa [gapp] using h
  refine c_seq (rg (sa (.slice none 0 0) rfl (w_end (q_then (c_ret (q_then_r ?_))))))
  replace H := H.nilOwn (Int × (List Int) × Int) n0 0
  obtain rfl := sj h
  exact fin_ret (v := (.slice none 0 0)) (results_ok Tryz.results91 (res_tmp (v := (.slice none 0 0)) rfl res_nil) rfl) ⟨none, 0, rfl, rfl⟩ (H.sel' [0] rfl rfl)
 ·refine c_skip ?_
  refine q_then (c_seq (rg ?_))
  refine st_ex (ex_buildSlice (el := n0) (xs := ([] : List (Int × (List Int) × Int))) (ps := []) (cs := []) H hn0 Tryz.underlying23 ti79 rfl rfl (by kernel_rfl) (.nil) rfl) wn ?_
  rintro _ σ3 ⟨b2, rfl, H, -⟩
  refine sm (Sl Dm Dk Dn) rfl ?_
  replace H := H.ownLow 0 n0 0 rfl (Nat.le_refl _) (Nat.zero_le _)
  revert h; refine br fun xs4 hx5 h => ?_
  refine st_ex (ex_append H (i := 0) rfl Tryz.underlying23 Tryz.underlying23 ti79 rfl rfl (by decide) (H.ro 1 rfl).rd hx5 hn0 rfl rfl) wn ?_
  rintro _ σ8 ⟨a6, c7, rfl, H, -⟩
  refine sa (Sl a6 xs4 c7) rfl (w_end (q_then (c_ret ?_)))
  obtain rfl := sj h
  exact fin_ret (v := (Sl a6 xs4 c7)) (results_ok Tryz.results91 (res_tmp (v := (Sl a6 xs4 c7)) rfl res_nil) rfl) ⟨a6, c7, rfl, rfl⟩ (H.sel' [0] rfl rfl)

theorem c_math_bits_Len32 {Bd : Int}  {r : Int} (h : M.math_bits_Len32 Bd = some r) :
    Cal2 Tryz.prog 136 [(.int .u32 Bd)] [] (fun n0 v L => v = (I r) ∧ L = []) := by
 refine cal2 (n := 19) Tryz.func136 rfl rfl rfl rfl ?_
 intro S0 σ0 n0 hn0 H
 unfold M.math_bits_Len32 at h
 refine c_seq (rg (sa (I 0) rfl (w_end (q_then (c_seq (c_seq (rg (sm (.int .u32 Bd) rfl (st (v := (B (decide (65536 ≤ Bd)))) (rvk_geq (k := .u32) (a := Bd) (b := 65536) rfl rfl) (w_end (q_then ?_)))))))))))
 obtain ⟨o1, hj, h'⟩ := bind_some h
 clear h
 refine c_cut (fun e a w => e = .normal ∧ ∃ (ρ : Nat → Value) (σ : St), a = fr 19 (updL ρ [(0, (.int .u32 o1.1)), (2, (I o1.2))]) ∧ w = σ.w ∧ Hp S0 σ0 σ []) ?_ ?_
 ·clear h'
  rename _ = some o1 => h
  refine cd_cond (decide (65536 ≤ Bd)) rfl (fun hb2 => ?_) (fun hb2 => ?_)
  ·replace h := bif_t hb2 h
   refine c_seq (rg (sm (.int .u32 Bd) rfl ?_))
   refine st (v := (.int .u32 (gshr .u32 Bd 16))) (rvk_shr (k := .u32) (k' := .u64) (a := Bd) (b := 16) rfl rfl (by decide)) ?_
   refine sa (.int .u32 (gshr .u32 Bd 16)) rfl (w_end (q_then (rg (sa (I 16) rfl (w_end ?_)))))
   obtain rfl := sj h
   exact ⟨rfl, _, σ0, fr_join ⟨rfl, rfl, trivial⟩, rfl, H.sel' [] rfl rfl⟩
  ·replace h := bif_f hb2 h
   refine c_skip ?_
   obtain rfl := sj h
   exact ⟨rfl, _, σ0, fr_join ⟨rfl, rfl, trivial⟩, rfl, H.sel' [] rfl rfl⟩
 ·clear hj
  have h := h'
  clear h' H
  rintro e a w ⟨rfl, ρ, σ3, rfl, rfl, H⟩
  refine q_then (c_seq (c_seq (rg (sm (.int .u32 o1.1) rfl (st (v := (B (decide (256 ≤ o1.1)))) (rvk_geq (k := .u32) (a := o1.1) (b := 256) rfl rfl) (w_end (q_then ?_)))))))
  obtain ⟨o4, hj, h'⟩ := bind_some h
  clear h
  refine c_cut (fun e a w => e = .normal ∧ ∃ (ρ : Nat → Value) (σ : St), a = fr 19 (updL ρ [(0, (.int .u32 o4.1)), (2, (I o4.2))]) ∧ w = σ.w ∧ Hp S0 σ0 σ []) ?_ ?_
  ·clear h'
   rename _ = some o4 => h
   refine cd_cond (decide (256 ≤ o1.1)) rfl (fun hb5 => ?_) (fun hb5 => ?_)
   ·replace h := bif_t hb5 h
    refine c_seq (rg (sm (.int .u32 o1.1) rfl ?_))
    refine st (v := (.int .u32 (gshr .u32 o1.1 8))) (rvk_shr (k := .u32) (k' := .u64) (a := o1.1) (b := 8) rfl rfl (by decide)) ?_
    refine sa (.int .u32 (gshr .u32 o1.1 8)) rfl (w_end (q_then (rg (sm (I o1.2) rfl (st (v := (I (w64 (o1.2 + 8)))) (rv_add (a := o1.2) (b := 8) rfl rfl) (sa (I (w64 (o1.2 + 8))) rfl (w_end ?_)))))))
    obtain rfl := sj h
    exact ⟨rfl, _, σ3, fr_join ⟨rfl, rfl, trivial⟩, rfl, H.sel' [] rfl rfl⟩
   ·replace h := bif_f hb5 h
    refine c_skip ?_
    obtain rfl := sj h
    exact ⟨rfl, _, σ3, fr_join ⟨rfl, rfl, trivial⟩, rfl, H.sel' [] rfl rfl⟩
  ·clear hj
   have h := h'
   clear h' H
   rintro e a w ⟨rfl, ρ, σ6, rfl, rfl, H⟩
   refine q_then (c_seq (rg (sm (I o4.2) rfl (sm (.int .u32 o4.1) rfl (st (v := (.int .u8 (wk .u8 o4.1))) (rvk_conv (k := .u32) (k' := .u8) (a := o4.1) Tryz.underlying165 Tryz.underlying5 rfl) ?_)))))
   revert h; refine br fun x7 hx8 h => ?_
   refine st (v := (.int .u8 x7)) (rv_sidx (bs := [0, 1, 2, 2, 3, 3, 3, 3, 4, 4, 4, 4, 4, 4, 4, 4, 5, 5, 5, 5, 5, 5, 5, 5, 5, 5, 5, 5, 5, 5, 5, 5, 6, 6, 6, 6, 6, 6, 6, 6, 6, 6, 6, 6, 6, 6, 6, 6, 6, 6, 6, 6, 6, 6, 6, 6, 6, 6, 6, 6, 6, 6, 6, 6, 7, 7, 7, 7, 7, 7, 7, 7, 7, 7, 7, 7, 7, 7, 7, 7, 7, 7, 7, 7, 7, 7, 7, 7, 7, 7, 7, 7, 7, 7, 7, 7, 7, 7, 7, 7, 7, 7, 7, 7, 7, 7, 7, 7, 7, 7, 7, 7, 7, 7, 7, 7, 7, 7, 7, 7, 7, 7, 7, 7, 7, 7, 7, 7, 8, 8, 8, 8, 8, 8, 8, 8, 8, 8, 8, 8, 8, 8, 8, 8, 8, 8, 8, 8, 8, 8, 8, 8, 8, 8, 8, 8, 8, 8, 8, 8, 8, 8, 8, 8, 8, 8, 8, 8, 8, 8, 8, 8, 8, 8, 8, 8, 8, 8, 8, 8, 8, 8, 8, 8, 8, 8, 8, 8, 8, 8, 8, 8, 8, 8, 8, 8, 8, 8, 8, 8, 8, 8, 8, 8, 8, 8, 8, 8, 8, 8, 8, 8, 8, 8, 8, 8, 8, 8, 8, 8, 8, 8, 8, 8, 8, 8, 8, 8, 8, 8, 8, 8, 8, 8, 8, 8, 8, 8, 8, 8, 8, 8, 8, 8, 8, 8, 8, 8, 8, 8, 8, 8, 8, 8, 8, 8]) Tryz.underlying9 rfl rfl hx8) (st (v := (I (wk .i64 x7))) (rvk_conv (k := .u8) (k' := .i64) (a := x7) Tryz.underlying5 Tryz.underlying3 rfl) (st (v := (I (w64 (o4.2 + (wk .i64 x7))))) (rv_add (a := o4.2) (b := (wk .i64 x7)) rfl rfl) (sa (I (w64 (o4.2 + (wk .i64 x7)))) rfl (w_end (q_then (c_ret ?_))))))
   obtain rfl := sj h
   exact fin_ret (v := (I (w64 (o4.2 + (wk .i64 x7))))) (results_ok Tryz.results136 (res_tmp (v := (I (w64 (o4.2 + (wk .i64 x7))))) rfl res_nil) rfl) ⟨rfl, rfl⟩ (H.sel' [] rfl rfl)

theorem c_math_bits_Len64 {Bd : Int}  {r : Int} (h : M.math_bits_Len64 Bd = some r) :
    Cal2 Tryz.prog 137 [(.int .u64 Bd)] [] (fun n0 v L => v = (I r) ∧ L = []) := by
 refine cal2 (n := 25) Tryz.func137 rfl rfl rfl rfl ?_
 intro S0 σ0 n0 hn0 H
 unfold M.math_bits_Len64 at h
 refine c_seq (rg (sa (I 0) rfl (w_end (q_then (c_seq (c_seq (rg (sm (.int .u64 Bd) rfl (st (v := (B (decide (4294967296 ≤ Bd)))) (rvk_geq (k := .u64) (a := Bd) (b := 4294967296) rfl rfl) (w_end (q_then ?_)))))))))))
 obtain ⟨o1, hj, h'⟩ := bind_some h
 clear h
 refine c_cut (fun e a w => e = .normal ∧ ∃ (ρ : Nat → Value) (σ : St), a = fr 25 (updL ρ [(0, (.int .u64 o1.1)), (2, (I o1.2))]) ∧ w = σ.w ∧ Hp S0 σ0 σ []) ?_ ?_
 ·clear h'
  rename _ = some o1 => h
  refine cd_cond (decide (4294967296 ≤ Bd)) rfl (fun hb2 => ?_) (fun hb2 => ?_)
  ·replace h := bif_t hb2 h
   refine c_seq (rg (sm (.int .u64 Bd) rfl ?_))
   refine st (v := (.int .u64 (gshr .u64 Bd 32))) (rvk_shr (k := .u64) (k' := .u64) (a := Bd) (b := 32) rfl rfl (by decide)) ?_
   refine sa (.int .u64 (gshr .u64 Bd 32)) rfl (w_end (q_then (rg (sa (I 32) rfl (w_end ?_)))))
   obtain rfl := sj h
   exact ⟨rfl, _, σ0, fr_join ⟨rfl, rfl, trivial⟩, rfl, H.sel' [] rfl rfl⟩
  ·replace h := bif_f hb2 h
   refine c_skip ?_
   obtain rfl := sj h
   exact ⟨rfl, _, σ0, fr_join ⟨rfl, rfl, trivial⟩, rfl, H.sel' [] rfl rfl⟩
 ·clear hj
  have h := h'
  clear h' H
  rintro e a w ⟨rfl, ρ, σ3, rfl, rfl, H⟩
  refine q_then (c_seq (c_seq (rg (sm (.int .u64 o1.1) rfl (st (v := (B (decide (65536 ≤ o1.1)))) (rvk_geq (k := .u64) (a := o1.1) (b := 65536) rfl rfl) (w_end (q_then ?_)))))))
  obtain ⟨o4, hj, h'⟩ := bind_some h
  clear h
  refine c_cut (fun e a w => e = .normal ∧ ∃ (ρ : Nat → Value) (σ : St), a = fr 25 (updL ρ [(0, (.int .u64 o4.1)), (2, (I o4.2))]) ∧ w = σ.w ∧ Hp S0 σ0 σ []) ?_ ?_
  ·clear h'
   rename _ = some o4 => h
   refine cd_cond (decide (65536 ≤ o1.1)) rfl (fun hb5 => ?_) (fun hb5 => ?_)
   ·replace h := bif_t hb5 h
    refine c_seq (rg (sm (.int .u64 o1.1) rfl ?_))
    refine st (v := (.int .u64 (gshr .u64 o1.1 16))) (rvk_shr (k := .u64) (k' := .u64) (a := o1.1) (b := 16) rfl rfl (by decide)) ?_
    refine sa (.int .u64 (gshr .u64 o1.1 16)) rfl (w_end (q_then (rg (sm (I o1.2) rfl (st (v := (I (w64 (o1.2 + 16)))) (rv_add (a := o1.2) (b := 16) rfl rfl) (sa (I (w64 (o1.2 + 16))) rfl (w_end ?_)))))))
    obtain rfl := sj h
    exact ⟨rfl, _, σ3, fr_join ⟨rfl, rfl, trivial⟩, rfl, H.sel' [] rfl rfl⟩
   ·replace h := bif_f hb5 h
    refine c_skip ?_
    obtain rfl := sj h
    exact ⟨rfl, _, σ3, fr_join ⟨rfl, rfl, trivial⟩, rfl, H.sel' [] rfl rfl⟩
  ·clear hj
   have h := h'
   clear h' H
   rintro e a w ⟨rfl, ρ, σ6, rfl, rfl, H⟩
   refine q_then (c_seq (c_seq (rg (sm (.int .u64 o4.1) rfl (st (v := (B (decide (256 ≤ o4.1)))) (rvk_geq (k := .u64) (a := o4.1) (b := 256) rfl rfl) (w_end (q_then ?_)))))))
   obtain ⟨o7, hj, h'⟩ := bind_some h
   clear h
   refine c_cut (fun e a w => e = .normal ∧ ∃ (ρ : Nat → Value) (σ : St), a = fr 25 (updL ρ [(0, (.int .u64 o7.1)), (2, (I o7.2))]) ∧ w = σ.w ∧ Hp S0 σ0 σ []) ?_ ?_
   ·clear h'
    rename _ = some o7 => h
    refine cd_cond (decide (256 ≤ o4.1)) rfl (fun hb8 => ?_) (fun hb8 => ?_)
    ·replace h := bif_t hb8 h
     refine c_seq (rg (sm (.int .u64 o4.1) rfl ?_))
     refine st (v := (.int .u64 (gshr .u64 o4.1 8))) (rvk_shr (k := .u64) (k' := .u64) (a := o4.1) (b := 8) rfl rfl (by decide)) ?_
     refine sa (.int .u64 (gshr .u64 o4.1 8)) rfl (w_end (q_then (rg (sm (I o4.2) rfl (st (v := (I (w64 (o4.2 + 8)))) (rv_add (a := o4.2) (b := 8) rfl rfl) (sa (I (w64 (o4.2 + 8))) rfl (w_end ?_)))))))
     obtain rfl := sj h
     exact ⟨rfl, _, σ6, fr_join ⟨rfl, rfl, trivial⟩, rfl, H.sel' [] rfl rfl⟩
    ·replace h := bif_f hb8 h
     refine c_skip ?_
     obtain rfl := sj h
     exact ⟨rfl, _, σ6, fr_join ⟨rfl, rfl, trivial⟩, rfl, H.sel' [] rfl rfl⟩
   ·clear hj
    have h := h'
    clear h' H
    rintro e a w ⟨rfl, ρ, σ9, rfl, rfl, H⟩
    refine q_then (c_seq (rg (sm (I o7.2) rfl (sm (.int .u64 o7.1) rfl (st (v := (.int .u8 (wk .u8 o7.1))) (rvk_conv (k := .u64) (k' := .u8) (a := o7.1) Tryz.underlying167 Tryz.underlying5 rfl) ?_)))))
    revert h; refine br fun x10 hx11 h => ?_
    refine st (v := (.int .u8 x10)) (rv_sidx (bs := [0, 1, 2, 2, 3, 3, 3, 3, 4, 4, 4, 4, 4, 4, 4, 4, 5, 5, 5, 5, 5, 5, 5, 5, 5, 5, 5, 5, 5, 5, 5, 5, 6, 6, 6, 6, 6, 6, 6, 6, 6, 6, 6, 6, 6, 6, 6, 6, 6, 6, 6, 6, 6, 6, 6, 6, 6, 6, 6, 6, 6, 6, 6, 6, 7, 7, 7, 7, 7, 7, 7, 7, 7, 7, 7, 7, 7, 7, 7, 7, 7, 7, 7, 7, 7, 7, 7, 7, 7, 7, 7, 7, 7, 7, 7, 7, 7, 7, 7, 7, 7, 7, 7, 7, 7, 7, 7, 7, 7, 7, 7, 7, 7, 7, 7, 7, 7, 7, 7, 7, 7, 7, 7, 7, 7, 7, 7, 7, 8, 8, 8, 8, 8, 8, 8, 8, 8, 8, 8, 8, 8, 8, 8, 8, 8, 8, 8, 8, 8, 8, 8, 8, 8, 8, 8, 8, 8, 8, 8, 8, 8, 8, 8, 8, 8, 8, 8, 8, 8, 8, 8, 8, 8, 8, 8, 8, 8, 8, 8, 8, 8, 8, 8, 8, 8, 8, 8, 8, 8, 8, 8, 8, 8, 8, 8, 8, 8, 8, 8, 8, 8, 8, 8, 8, 8, 8, 8, 8, 8, 8, 8, 8, 8, 8, 8, 8, 8, 8, 8, 8, 8, 8, 8, 8, 8, 8, 8, 8, 8, 8, 8, 8, 8, 8, 8, 8, 8, 8, 8, 8, 8, 8, 8, 8, 8, 8, 8, 8, 8, 8, 8, 8, 8, 8, 8, 8]) Tryz.underlying9 rfl rfl hx11) (st (v := (I (wk .i64 x10))) (rvk_conv (k := .u8) (k' := .i64) (a := x10) Tryz.underlying5 Tryz.underlying3 rfl) (st (v := (I (w64 (o7.2 + (wk .i64 x10))))) (rv_add (a := o7.2) (b := (wk .i64 x10)) rfl rfl) (sa (I (w64 (o7.2 + (wk .i64 x10)))) rfl (w_end (q_then (c_ret ?_))))))
    obtain rfl := sj h
    exact fin_ret (v := (I (w64 (o7.2 + (wk .i64 x10))))) (results_ok Tryz.results137 (res_tmp (v := (I (w64 (o7.2 + (wk .i64 x10))))) rfl res_nil) rfl) ⟨rfl, rfl⟩ (H.sel' [] rfl rfl)

theorem c_math_bits_Len {Bd : Int}  {r : Int} (h : M.math_bits_Len Bd = some r) :
    Cal2 Tryz.prog 119 [(.int .u64 Bd)] [] (fun n0 v L => v = (I r) ∧ L = []) := by
 refine cal2 (n := 8) Tryz.func119 rfl rfl rfl rfl ?_
 intro S0 σ0 n0 hn0 H
 unfold M.math_bits_Len at h
 refine c_seq (rg (sa (I 0) rfl (w_end (q_then (c_seq (cd_false rfl ?_))))))
 refine c_skip (q_then (c_seq (rg (sm (.int .u64 Bd) rfl ?_))))
 revert h; refine br fun r1 hx2 h => ?_
 have hc3 := c_math_bits_Len64 hx2
 refine st_call (cx_call hc3 (ent_f hc3.fn rfl) hn0 (H.sel' [] rfl rfl : Hp S0 σ0 _ ([] ++ _))) wn ?_
 rintro _ σ4 ⟨_, ⟨rfl, rfl⟩, H, -⟩
 replace H : Hp _ _ _ [] := H
 refine sa (I r1) rfl (w_end (q_then (c_ret ?_)))
 obtain rfl := sj h
 exact fin_ret (v := (I r1)) (results_ok Tryz.results119 (res_tmp (v := (I r1)) rfl res_nil) rfl) ⟨rfl, rfl⟩ (H.sel' [] rfl rfl)

theorem c_slices_nextPowerOfTwo {Do : Int}  {r : Int} (h : M.slices_nextPowerOfTwo Do = some r) :
    Cal2 Tryz.prog 150 [(I Do)] [] (fun n0 v L => v = (.int .u64 r) ∧ L = []) := by
 refine cal2 (n := 7) Tryz.func150 rfl rfl rfl rfl ?_
 intro S0 σ0 n0 hn0 H
 unfold M.slices_nextPowerOfTwo at h
 refine c_seq (rg (sa (.int .u64 0) rfl (w_end (q_then (c_seq (rg (sm (I Do) rfl (st (v := (.int .u64 (wk .u64 Do))) (rvk_conv (k := .i64) (k' := .u64) (a := Do) Tryz.underlying3 Tryz.underlying149 rfl) ?_))))))))
 revert h; refine br fun r1 hx2 h => ?_
 have hc3 := c_math_bits_Len hx2
 refine st_call (cx_call hc3 (ent_f hc3.fn rfl) hn0 (H.sel' [] rfl rfl : Hp S0 σ0 _ ([] ++ _))) wn ?_
 rintro _ σ4 ⟨_, ⟨rfl, rfl⟩, H, -⟩
 replace H : Hp _ _ _ [] := H
 revert h; refine br fun q5 hx6 h => ?_
 refine st (v := (.int .u64 q5)) (rvk_shlG (k := .u64) (k' := .i64) (a := 1) (b := r1) hx6 rfl rfl) (sa (.int .u64 q5) rfl (w_end (q_then (c_ret ?_))))
 obtain rfl := sj h
 exact fin_ret (v := (.int .u64 q5)) (results_ok Tryz.results150 (res_tmp (v := (.int .u64 q5)) rfl res_nil) rfl) ⟨rfl, rfl⟩ (H.sel' [] rfl rfl)

theorem c_slices_xorshift_Next {Ae : Int} {Ai Aj Ak : Nat} {Am Ao : List Value} {r : Int × Int} (h : M.slices_xorshift_Next Ae = some r) :
    Cal2 Tryz.prog 151 [(pt Aj Ak)] [Ch.bx Ai Aj Ak [(.int .u64 Ae)] Am Ao] (fun n0 v L => v = (.int .u64 r.1) ∧ L = [Ch.bx Ai Aj Ak [(.int .u64 r.2)] Am Ao]) := by
 refine cal2 (n := 33) Tryz.func151 rfl rfl rfl rfl ?_
 intro S0 σ0 n0 hn0 H
 unfold M.slices_xorshift_Next at h
 refine c_seq (rg (sa (.int .u64 0) rfl (w_end (q_then (c_seq ?_)))))
 refine rgP (σ := σ0) 7 (by kernel_rfl) (by kernel_rfl) (by kernel_rfl) ?_
 refine sq (v := (pt Aj Ak)) (rv_move rfl) (sq (v := (pt Aj Ak)) (rv_nilCheck rfl) ?_)
 have hc1 := H.cell (u := (.int .u64 Ae)) (o' := Ak) 0 0 rfl rfl rfl
 refine sq (v := (.int .u64 Ae)) (rv_load1 Tryz.underlying176 rfl rfl hc1) (sq (v := (pt Aj Ak)) (rv_move rfl) (sq (v := (pt Aj Ak)) (rv_nilCheck rfl) ?_))
 have hc2 := H.cell (u := (.int .u64 Ae)) (o' := Ak) 0 0 rfl rfl rfl
 refine sq (v := (.int .u64 Ae)) (rv_load1 Tryz.underlying176 rfl rfl hc2) ?_
 refine sq (v := (.int .u64 (gshl .u64 Ae 13))) (rvk_shl (k := .u64) (k' := .u64) (a := Ae) (b := 13) rfl rfl (by decide)) ?_
 refine sq_end ?_
 intro σ3 hm4
 replace H := H.grow (hm4.mono fun _ h => h); clear hm4
 refine st (v := (.int .u64 (gxork .u64 Ae (gshl .u64 Ae 13)))) (rvk_xor (k := .u64) (a := Ae) (b := (gshl .u64 Ae 13)) rfl rfl) (st (v := (pt Aj Ak)) (rv_nilCheck rfl) ?_)
 refine st_exS (ex_store_box (k := 0) (cs := [(.int .u64 Ae)]) (vs := [(.int .u64 (gxork .u64 Ae (gshl .u64 Ae 13)))]) (cs' := [(.int .u64 (gxork .u64 Ae (gshl .u64 Ae 13)))]) H (i := 0) rfl ti176 rfl rfl rfl rfl rfl (Nat.le_of_ble_eq_true rfl) (by simp [plain]) rfl) wn ?_
 rintro σ5 ⟨H, -⟩
 refine w_end (q_then (c_seq ?_))
 refine rgP (σ := σ5) 7 (by kernel_rfl) (by kernel_rfl) (by kernel_rfl) ?_
 refine sq (v := (pt Aj Ak)) (rv_move rfl) (sq (v := (pt Aj Ak)) (rv_nilCheck rfl) ?_)
 have hc6 := H.cell (u := (.int .u64 (gxork .u64 Ae (gshl .u64 Ae 13)))) (o' := Ak) 0 0 rfl rfl rfl
 refine sq (v := (.int .u64 (gxork .u64 Ae (gshl .u64 Ae 13)))) (rv_load1 Tryz.underlying176 rfl rfl hc6) (sq (v := (pt Aj Ak)) (rv_move rfl) (sq (v := (pt Aj Ak)) (rv_nilCheck rfl) ?_))
 have hc7 := H.cell (u := (.int .u64 (gxork .u64 Ae (gshl .u64 Ae 13)))) (o' := Ak) 0 0 rfl rfl rfl
 refine sq (v := (.int .u64 (gxork .u64 Ae (gshl .u64 Ae 13)))) (rv_load1 Tryz.underlying176 rfl rfl hc7) ?_
 refine sq (v := (.int .u64 (gshr .u64 (gxork .u64 Ae (gshl .u64 Ae 13)) 7))) (rvk_shr (k := .u64) (k' := .u64) (a := (gxork .u64 Ae (gshl .u64 Ae 13))) (b := 7) rfl rfl (by decide)) ?_
 refine sq_end ?_
 intro σ8 hm9
 replace H := H.grow (hm9.mono fun _ h => h); clear hm9
 refine st (v := (.int .u64 (gxork .u64 (gxork .u64 Ae (gshl .u64 Ae 13)) (gshr .u64 (gxork .u64 Ae (gshl .u64 Ae 13)) 7)))) (rvk_xor (k := .u64) (a := (gxork .u64 Ae (gshl .u64 Ae 13))) (b := (gshr .u64 (gxork .u64 Ae (gshl .u64 Ae 13)) 7)) rfl rfl) (st (v := (pt Aj Ak)) (rv_nilCheck rfl) ?_)
 refine st_exS (ex_store_box (k := 0) (cs := [(.int .u64 (gxork .u64 Ae (gshl .u64 Ae 13)))]) (vs := [(.int .u64 (gxork .u64 (gxork .u64 Ae (gshl .u64 Ae 13)) (gshr .u64 (gxork .u64 Ae (gshl .u64 Ae 13)) 7)))]) (cs' := [(.int .u64 (gxork .u64 (gxork .u64 Ae (gshl .u64 Ae 13)) (gshr .u64 (gxork .u64 Ae (gshl .u64 Ae 13)) 7)))]) H (i := 0) rfl ti176 rfl rfl rfl rfl rfl (Nat.le_of_ble_eq_true rfl) (by simp [plain]) rfl) wn ?_
 rintro σ10 ⟨H, -⟩
 refine w_end (q_then (c_seq ?_))
 refine rgP (σ := σ10) 7 (by kernel_rfl) (by kernel_rfl) (by kernel_rfl) ?_
 refine sq (v := (pt Aj Ak)) (rv_move rfl) (sq (v := (pt Aj Ak)) (rv_nilCheck rfl) ?_)
 have hc11 := H.cell (u := (.int .u64 (gxork .u64 (gxork .u64 Ae (gshl .u64 Ae 13)) (gshr .u64 (gxork .u64 Ae (gshl .u64 Ae 13)) 7)))) (o' := Ak) 0 0 rfl rfl rfl
 refine sq (v := (.int .u64 (gxork .u64 (gxork .u64 Ae (gshl .u64 Ae 13)) (gshr .u64 (gxork .u64 Ae (gshl .u64 Ae 13)) 7)))) (rv_load1 Tryz.underlying176 rfl rfl hc11) (sq (v := (pt Aj Ak)) (rv_move rfl) (sq (v := (pt Aj Ak)) (rv_nilCheck rfl) ?_))
 have hc12 := H.cell (u := (.int .u64 (gxork .u64 (gxork .u64 Ae (gshl .u64 Ae 13)) (gshr .u64 (gxork .u64 Ae (gshl .u64 Ae 13)) 7)))) (o' := Ak) 0 0 rfl rfl rfl
 refine sq (v := (.int .u64 (gxork .u64 (gxork .u64 Ae (gshl .u64 Ae 13)) (gshr .u64 (gxork .u64 Ae (gshl .u64 Ae 13)) 7)))) (rv_load1 Tryz.underlying176 rfl rfl hc12) ?_
 refine sq (v := (.int .u64 (gshl .u64 (gxork .u64 (gxork .u64 Ae (gshl .u64 Ae 13)) (gshr .u64 (gxork .u64 Ae (gshl .u64 Ae 13)) 7)) 17))) (rvk_shl (k := .u64) (k' := .u64) (a := (gxork .u64 (gxork .u64 Ae (gshl .u64 Ae 13)) (gshr .u64 (gxork .u64 Ae (gshl .u64 Ae 13)) 7))) (b := 17) rfl rfl (by decide)) ?_
 refine sq_end ?_
 intro σ13 hm14
 replace H := H.grow (hm14.mono fun _ h => h); clear hm14
 refine st (v := (.int .u64 (gxork .u64 (gxork .u64 (gxork .u64 Ae (gshl .u64 Ae 13)) (gshr .u64 (gxork .u64 Ae (gshl .u64 Ae 13)) 7)) (gshl .u64 (gxork .u64 (gxork .u64 Ae (gshl .u64 Ae 13)) (gshr .u64 (gxork .u64 Ae (gshl .u64 Ae 13)) 7)) 17)))) (rvk_xor (k := .u64) (a := (gxork .u64 (gxork .u64 Ae (gshl .u64 Ae 13)) (gshr .u64 (gxork .u64 Ae (gshl .u64 Ae 13)) 7))) (b := (gshl .u64 (gxork .u64 (gxork .u64 Ae (gshl .u64 Ae 13)) (gshr .u64 (gxork .u64 Ae (gshl .u64 Ae 13)) 7)) 17)) rfl rfl) (st (v := (pt Aj Ak)) (rv_nilCheck rfl) ?_)
 refine st_exS (ex_store_box (k := 0) (cs := [(.int .u64 (gxork .u64 (gxork .u64 Ae (gshl .u64 Ae 13)) (gshr .u64 (gxork .u64 Ae (gshl .u64 Ae 13)) 7)))]) (vs := [(.int .u64 (gxork .u64 (gxork .u64 (gxork .u64 Ae (gshl .u64 Ae 13)) (gshr .u64 (gxork .u64 Ae (gshl .u64 Ae 13)) 7)) (gshl .u64 (gxork .u64 (gxork .u64 Ae (gshl .u64 Ae 13)) (gshr .u64 (gxork .u64 Ae (gshl .u64 Ae 13)) 7)) 17)))]) (cs' := [(.int .u64 (gxork .u64 (gxork .u64 (gxork .u64 Ae (gshl .u64 Ae 13)) (gshr .u64 (gxork .u64 Ae (gshl .u64 Ae 13)) 7)) (gshl .u64 (gxork .u64 (gxork .u64 Ae (gshl .u64 Ae 13)) (gshr .u64 (gxork .u64 Ae (gshl .u64 Ae 13)) 7)) 17)))]) H (i := 0) rfl ti176 rfl rfl rfl rfl rfl (Nat.le_of_ble_eq_true rfl) (by simp [plain]) rfl) wn ?_
 rintro σ15 ⟨H, -⟩
 refine w_end (q_then (c_seq (rg (sm (pt Aj Ak) rfl (st (v := (pt Aj Ak)) (rv_nilCheck rfl) ?_)))))
 have hc16 := H.cell (u := (.int .u64 (gxork .u64 (gxork .u64 (gxork .u64 Ae (gshl .u64 Ae 13)) (gshr .u64 (gxork .u64 Ae (gshl .u64 Ae 13)) 7)) (gshl .u64 (gxork .u64 (gxork .u64 Ae (gshl .u64 Ae 13)) (gshr .u64 (gxork .u64 Ae (gshl .u64 Ae 13)) 7)) 17)))) (o' := Ak) 0 0 rfl rfl rfl
 refine st (v := (.int .u64 (gxork .u64 (gxork .u64 (gxork .u64 Ae (gshl .u64 Ae 13)) (gshr .u64 (gxork .u64 Ae (gshl .u64 Ae 13)) 7)) (gshl .u64 (gxork .u64 (gxork .u64 Ae (gshl .u64 Ae 13)) (gshr .u64 (gxork .u64 Ae (gshl .u64 Ae 13)) 7)) 17)))) (rv_load1 Tryz.underlying176 rfl rfl hc16) (sa (.int .u64 (gxork .u64 (gxork .u64 (gxork .u64 Ae (gshl .u64 Ae 13)) (gshr .u64 (gxork .u64 Ae (gshl .u64 Ae 13)) 7)) (gshl .u64 (gxork .u64 (gxork .u64 Ae (gshl .u64 Ae 13)) (gshr .u64 (gxork .u64 Ae (gshl .u64 Ae 13)) 7)) 17))) rfl (w_end (q_then (c_ret ?_))))
 obtain rfl := sj h
 exact fin_ret (v := (.int .u64 (gxork .u64 (gxork .u64 (gxork .u64 Ae (gshl .u64 Ae 13)) (gshr .u64 (gxork .u64 Ae (gshl .u64 Ae 13)) 7)) (gshl .u64 (gxork .u64 (gxork .u64 Ae (gshl .u64 Ae 13)) (gshr .u64 (gxork .u64 Ae (gshl .u64 Ae 13)) 7)) 17)))) (results_ok Tryz.results151 (res_tmp (v := (.int .u64 (gxork .u64 (gxork .u64 (gxork .u64 Ae (gshl .u64 Ae 13)) (gshr .u64 (gxork .u64 Ae (gshl .u64 Ae 13)) 7)) (gshl .u64 (gxork .u64 (gxork .u64 Ae (gshl .u64 Ae 13)) (gshr .u64 (gxork .u64 Ae (gshl .u64 Ae 13)) 7)) 17)))) rfl res_nil) rfl) ⟨rfl, rfl⟩ (H.sel' [0] rfl rfl)

theorem c_impl_sortByDistance_1__p3__p24 {Bd : Int × (List Int) × Int} {Cm : Int × (List Int) × Int} {Dq : Int} {Dr : List Int} {Be : Option Addr} {Bf : Nat} {Ds : Option Addr} {Dt : Nat} {Du Dv : Nat} {Dw Dx : Nat} {r : Int} (h : M.impl_sortByDistance_1__p3__p24 Bd Cm Dq Dr = some r) :
    Cal2 Tryz.prog 93 [(.agg #[(I Bd.1), (Sl Be Bd.2.1 Bf), (I Bd.2.2)]), (.agg #[(I Cm.1), (Sl Ds Cm.2.1 Dt), (I Cm.2.2)]), (pt Du Dv), (pt Dw Dx)] [Ch.ro 0 (Sl Be Bd.2.1 Bf) Bd.2.1, Ch.ro 0 (Sl Ds Cm.2.1 Dt) Cm.2.1, Ch.ro 0 (Sl (some ⟨Du, Dv, none⟩) ([Dq] : List Int) 1) ([Dq] : List Int), Ch.ro 0 (Sl (some ⟨Dw, Dx, none⟩) ([Dr] : List (List Int)) 1) ([Dr] : List (List Int))] (fun n0 v L => v = (I r) ∧ L = []) := by
 refine cal2 (n := 16) Tryz.func93 rfl rfl rfl rfl ?_
 intro S0 σ0 n0 hn0 H
 unfold M.impl_sortByDistance_1__p3__p24 at h
 have hxp_2 : gidx ([Dq] : List Int) 0 = some Dq := rfl
 have hip_2 : Ix (Sl (some ⟨Du, Dv, none⟩) ([Dq] : List Int) 1) 0 1 Du Dv := ix_one
 have hxp_3 : gidx ([Dr] : List (List Int)) 0 = some Dr := rfl
 have hip_3 : Ix (Sl (some ⟨Dw, Dx, none⟩) ([Dr] : List (List Int)) 1) 0 1 Dw Dx := ix_one
 refine c_seq (rg (st_ex (ex_box (cs := [(I Bd.1), (Sl Be Bd.2.1 Bf), (I Bd.2.2)]) H hn0 rfl rfl) wn ?_))
 rintro _ σ2 ⟨b1, rfl, H, -⟩
 refine st_ex (ex_box (cs := [(I Cm.1), (Sl Ds Cm.2.1 Dt), (I Cm.2.2)]) H hn0 rfl rfl) wn ?_
 rintro _ σ4 ⟨b3, rfl, H, -⟩
 refine sa (I 0) rfl (w_end (q_then (c_seq ?_)))
 have hc5 := H.cells 1 rfl
 have hc6 := ((H.ro 4 rfl).at hxp_2 hip_2).int
 obtain ⟨v10, hc11, hR9⟩ := ((H.ro 5 rfl).at hxp_3 hip_3).slice
 obtain ⟨a7, c8, rfl⟩ := hR9.isSl
 replace H := H.add (d := Ch.ro 0 (Sl a7 Dr c8) Dr) hR9 (fun _ h => h)
 clear hR9
 revert h; refine br fun r12 hx13 h => ?_
 have hc14 := c_impl_hitOf (Be := Be) (Bf := Bf) (Bo := a7) (Bp := c8) hx13
 have hc15 := H.cells 1 rfl
 have hc16 := ((H.ro 5 rfl).at hxp_2 hip_2).int
 obtain ⟨v20, hc21, hR19⟩ := ((H.ro 6 rfl).at hxp_3 hip_3).slice
 obtain ⟨a17, c18, rfl⟩ := hR19.isSl
 replace H := H.add (d := Ch.ro 0 (Sl a17 Dr c18) Dr) hR19 (fun _ h => h)
 clear hR19
 have Hs := H
 refine rg2 (σ := σ4) (Nm := Unit) 7 [3] [[false], [true]] [[(0, 0)], [(0, 0)], [(0, 0)], [(0, 1)], [(0, 0), (1, 1)], [(0, 0), (1, 1)], [(0, 0), (1, 1)]] 1 [fun _ => fun σm => Hp S0 σ0 σm [Ch.ro 0 (Sl a17 Dr c18) Dr, Ch.ro 0 (Sl a7 Dr c8) Dr, Ch.bx n0 b3 0 [(I Cm.1), (Sl Ds Cm.2.1 Dt), (I Cm.2.2)] [] [], Ch.bx n0 b1 0 [(I Bd.1), (Sl Be Bd.2.1 Bf), (I Bd.2.2)] [] [], Ch.ro 0 (Sl Be Bd.2.1 Bf) Bd.2.1, Ch.ro 0 (Sl Ds Cm.2.1 Dt) Cm.2.1, Ch.ro 0 (Sl (some ⟨Du, Dv, none⟩) ([Dq] : List Int) 1) ([Dq] : List Int), Ch.ro 0 (Sl (some ⟨Dw, Dx, none⟩) ([Dr] : List (List Int)) 1) ([Dr] : List (List Int))] ∧ Md (cov []) σ4 σm, fun _ => fun σm => Hp S0 σ0 σm [Ch.ro 0 (Sl a17 Dr c18) Dr, Ch.ro 0 (Sl a7 Dr c8) Dr, Ch.bx n0 b3 0 [(I Cm.1), (Sl Ds Cm.2.1 Dt), (I Cm.2.2)] [] [], Ch.bx n0 b1 0 [(I Bd.1), (Sl Be Bd.2.1 Bf), (I Bd.2.2)] [] [], Ch.ro 0 (Sl Be Bd.2.1 Bf) Bd.2.1, Ch.ro 0 (Sl Ds Cm.2.1 Dt) Cm.2.1, Ch.ro 0 (Sl (some ⟨Du, Dv, none⟩) ([Dq] : List Int) 1) ([Dq] : List Int), Ch.ro 0 (Sl (some ⟨Dw, Dx, none⟩) ([Dr] : List (List Int)) 1) ([Dr] : List (List Int))] ∧ Md (cov []) σ4 σm] [fun _ => (.agg #[(I Bd.1), (Sl Be Bd.2.1 Bf), (I Bd.2.2)]), fun _ => (I Dq), fun _ => (Sl a7 Dr c8), fun _ => (.agg #[(I r12.1), (I r12.2)]), fun _ => (.agg #[(I Cm.1), (Sl Ds Cm.2.1 Dt), (I Cm.2.2)]), fun _ => (I Dq), fun _ => (Sl a17 Dr c18)] () (by kernel_rfl) (by kernel_rfl) ?_ ?_ ?_
 ·intro σm m0
  exact ⟨H.grow (m0.mono fun _ h => h.elim), m0⟩
 ·refine all_cons (by
    refine ⟨?_, ?_⟩
    ·intro _nm ρ σm hJ hoff hdep
     have e4 := look_off (N := 16) (hoff 4 rfl) rfl
     obtain ⟨H, m⟩ := id hJ
     have hc5 := H.cells 3 rfl
     exact dp_v (v := (.agg #[(I Bd.1), (Sl Be Bd.2.1 Bf), (I Bd.2.2)])) wn (rv_load (cs := [(I Bd.1), (Sl Be Bd.2.1 Bf), (I Bd.2.2)]) Tryz.underlying79 rfl ti79 e4 rfl hc5) rfl hJ
    trivial) ?_
  refine all_cons (by
    refine ⟨?_, ?_⟩
    ·intro _nm ρ σm hJ hoff hdep
     have e2 := look_off (N := 16) (hoff 2 rfl) rfl
     obtain ⟨H, m⟩ := id hJ
     replace hc6 := (Hs.ro 6 rfl).hmd hxp_2 hip_2 (k := 0) (by decide) hc6 m
     exact dp_v (v := (I Dq)) wn (rv_load1 Tryz.underlying3 rfl e2 hc6) rfl hJ
    trivial) ?_
  refine all_cons (by
    refine ⟨?_, ?_⟩
    ·intro _nm ρ σm hJ hoff hdep
     have e3 := look_off (N := 16) (hoff 3 rfl) rfl
     obtain ⟨H, m⟩ := id hJ
     replace hc11 := (Hs.ro 7 rfl).hmd hxp_3 hip_3 (k := 0) (by decide) hc11 m
     exact dp_v (v := (Sl a7 Dr c8)) wn (rv_load1 Tryz.underlying24 rfl e3 hc11) rfl hJ
    trivial) ?_
  refine all_cons (by
    refine ⟨?_, ?_⟩
    ·intro _nm ρ σm hJ hoff hdep
     have e7 : look 16 ρ 7 = (.agg #[(I Bd.1), (Sl Be Bd.2.1 Bf), (I Bd.2.2)]) := hdep 0 rfl rfl 7 rfl
     have e8 : look 16 ρ 8 = (I Dq) := hdep 1 rfl rfl 8 rfl
     have e9 : look 16 ρ 9 = (Sl a7 Dr c8) := hdep 2 rfl rfl 9 rfl
     obtain ⟨H, m⟩ := id hJ
     refine dp_cx wn (cx_call hc14 (ent_f hc14.fn (by show [look 16 ρ 7, look 16 ρ 8, look 16 ρ 9] = _; rw [e7, e8, e9])) hn0 (H.sel' [4, 1, 0, 1, 2, 3, 4, 5, 6, 7] rfl rfl : Hp S0 σ0 _ ([_, _] ++ _))) ?_
     rintro _ σq ⟨_, ⟨rfl, rfl⟩, H2, m2⟩
     exact ⟨_, (), rfl, rfl, ⟨H2.sel' [0, 1, 2, 3, 4, 5, 6, 7] rfl rfl, m.comp0 (m2.mono (fun i h => by simp [cov, Ch.ro] at h))⟩, stab [0, 1, 2, 4, 5, 6] (by kernel_rfl) ⟨rfl, rfl, rfl, rfl, rfl, rfl, trivial⟩⟩
    trivial) ?_
  refine all_cons (by
    refine ⟨?_, ?_⟩
    ·intro _nm ρ σm hJ hoff hdep
     have e5 := look_off (N := 16) (hoff 5 rfl) rfl
     obtain ⟨H, m⟩ := id hJ
     have hc15 := H.cells 2 rfl
     exact dp_v (v := (.agg #[(I Cm.1), (Sl Ds Cm.2.1 Dt), (I Cm.2.2)])) wn (rv_load (cs := [(I Cm.1), (Sl Ds Cm.2.1 Dt), (I Cm.2.2)]) Tryz.underlying79 rfl ti79 e5 rfl hc15) rfl hJ
    refine ⟨?_, ?_⟩
    ·intro _nm ρ σm hJ hoff hdep
     have e5 := look_off (N := 16) (hoff 5 rfl) rfl
     obtain ⟨H, m⟩ := id hJ
     have hc15 := H.cells 2 rfl
     exact dp_v (v := (.agg #[(I Cm.1), (Sl Ds Cm.2.1 Dt), (I Cm.2.2)])) wn (rv_load (cs := [(I Cm.1), (Sl Ds Cm.2.1 Dt), (I Cm.2.2)]) Tryz.underlying79 rfl ti79 e5 rfl hc15) rfl hJ
    trivial) ?_
  refine all_cons (by
    refine ⟨?_, ?_⟩
    ·intro _nm ρ σm hJ hoff hdep
     have e2 := look_off (N := 16) (hoff 2 rfl) rfl
     obtain ⟨H, m⟩ := id hJ
     replace hc16 := (Hs.ro 6 rfl).hmd hxp_2 hip_2 (k := 0) (by decide) hc16 m
     exact dp_v (v := (I Dq)) wn (rv_load1 Tryz.underlying3 rfl e2 hc16) rfl hJ
    refine ⟨?_, ?_⟩
    ·intro _nm ρ σm hJ hoff hdep
     have e2 := look_off (N := 16) (hoff 2 rfl) rfl
     obtain ⟨H, m⟩ := id hJ
     replace hc16 := (Hs.ro 6 rfl).hmd hxp_2 hip_2 (k := 0) (by decide) hc16 m
     exact dp_v (v := (I Dq)) wn (rv_load1 Tryz.underlying3 rfl e2 hc16) rfl hJ
    trivial) ?_
  refine all_cons (by
    refine ⟨?_, ?_⟩
    ·intro _nm ρ σm hJ hoff hdep
     have e3 := look_off (N := 16) (hoff 3 rfl) rfl
     obtain ⟨H, m⟩ := id hJ
     replace hc21 := (Hs.ro 7 rfl).hmd hxp_3 hip_3 (k := 0) (by decide) hc21 m
     exact dp_v (v := (Sl a17 Dr c18)) wn (rv_load1 Tryz.underlying24 rfl e3 hc21) rfl hJ
    refine ⟨?_, ?_⟩
    ·intro _nm ρ σm hJ hoff hdep
     have e3 := look_off (N := 16) (hoff 3 rfl) rfl
     obtain ⟨H, m⟩ := id hJ
     replace hc21 := (Hs.ro 7 rfl).hmd hxp_3 hip_3 (k := 0) (by decide) hc21 m
     exact dp_v (v := (Sl a17 Dr c18)) wn (rv_load1 Tryz.underlying24 rfl e3 hc21) rfl hJ
    trivial) ?_
  exact all_nil
 ·intro _nm ρ σ22 hJ hoff hrel
  have e10 := hrel 3 rfl 10 rfl
  have e11 := hrel 4 rfl 11 rfl
  have e12 := hrel 5 rfl 12 rfl
  have e13 := hrel 6 rfl 13 rfl
  obtain ⟨H, -⟩ := (show Hp S0 σ0 σ22 [Ch.ro 0 (Sl a17 Dr c18) Dr, Ch.ro 0 (Sl a7 Dr c8) Dr, Ch.bx n0 b3 0 [(I Cm.1), (Sl Ds Cm.2.1 Dt), (I Cm.2.2)] [] [], Ch.bx n0 b1 0 [(I Bd.1), (Sl Be Bd.2.1 Bf), (I Bd.2.2)] [] [], Ch.ro 0 (Sl Be Bd.2.1 Bf) Bd.2.1, Ch.ro 0 (Sl Ds Cm.2.1 Dt) Cm.2.1, Ch.ro 0 (Sl (some ⟨Du, Dv, none⟩) ([Dq] : List Int) 1) ([Dq] : List Int), Ch.ro 0 (Sl (some ⟨Dw, Dx, none⟩) ([Dr] : List (List Int)) 1) ([Dr] : List (List Int))] ∧ Md (cov []) σ4 σ22 from hJ)
  clear hJ Hs
  rw [fr_lookL (L := [(10, (.agg #[(I r12.1), (I r12.2)])), (11, (.agg #[(I Cm.1), (Sl Ds Cm.2.1 Dt), (I Cm.2.2)])), (12, (I Dq)), (13, (Sl a17 Dr c18))]) ⟨e10, e11, e12, e13, trivial⟩]
  clear hoff hrel e10 e11 e12 e13
  revert h; refine br fun r23 hx24 h => ?_
  have hc25 := c_impl_hitOf (Be := Ds) (Bf := Dt) (Bo := a17) (Bp := c18) hx24
  refine st_call (cx_call hc25 (ent_f hc25.fn rfl) hn0 (H.sel' [5, 0, 0, 1, 2, 3, 4, 5, 6, 7] rfl rfl : Hp S0 σ0 _ ([_, _] ++ _))) wn ?_
  rintro _ σ26 ⟨_, ⟨rfl, rfl⟩, H, -⟩
  replace H : Hp _ _ _ [_, _, _, _, _, _, _, _] := H
  replace H : Hp S0 σ0 σ26 [] := H.sel' [] rfl rfl
  revert h; refine br fun r27 hx28 h => ?_
  have hc29 := c_impl_compareHits hx28
  refine st_call (cx_call hc29 (ent_f hc29.fn rfl) hn0 (H.sel' [] rfl rfl : Hp S0 σ0 _ ([] ++ _))) wn ?_
  rintro _ σ30 ⟨_, ⟨rfl, rfl⟩, H, -⟩
  replace H : Hp _ _ _ [] := H
  refine sa (I r27) rfl (w_end (q_then (c_ret ?_)))
  obtain rfl := sj h
  exact fin_ret (v := (I r27)) (results_ok Tryz.results93 (res_tmp (v := (I r27)) rfl res_nil) rfl) ⟨rfl, rfl⟩ (H.sel' [] rfl rfl)

end Go.Vs
