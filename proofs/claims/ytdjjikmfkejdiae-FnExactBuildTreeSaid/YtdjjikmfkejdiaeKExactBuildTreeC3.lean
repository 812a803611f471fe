/- The functions compute what their models say. -/
import Derived.Test.YtdjjikmfkejdiaeKExactBuildTreeC2
set_option linter.unusedVariables false
set_option linter.unusedSimpArgs false
set_option maxRecDepth 20000
namespace Go.Vs
open Go Go.Proofs
attribute [local irreducible] Code.wp Code.wpIn wpList wpListIn wpQuiet Calls CallsIn

theorem c_impl_compareHits {a_0 : Int × Int} {b_1 : Int × Int}  {r : Int} (h : M.impl_compareHits a_0 b_1 = some r) :
    Cal2 Try.prog 113 [(.agg #[(I a_0.1), (I a_0.2)]), (.agg #[(I b_1.1), (I b_1.2)])] [] (fun n0 v L => v = (I r) ∧ L = []) := by
 refine cal2 (n := 17) Try.func113 rfl rfl rfl rfl ?_
 intro S0 σ0 n0 hn0 H
 unfold M.impl_compareHits at h
 refine c_seq ?_
 refine rg ?_
 refine st_ex (ex_box (cs := [(I a_0.1), (I a_0.2)]) H hn0 rfl rfl) wn ?_
 rintro _ σ2 ⟨b1, rfl, H, -⟩
 refine st_ex (ex_box (cs := [(I b_1.1), (I b_1.2)]) H hn0 rfl rfl) wn ?_
 rintro _ σ4 ⟨b3, rfl, H, -⟩
 refine st (v := (I 0)) (rv_assign rfl) ?_
 refine w_end ?_
 refine q_then ?_
 refine c_seq ?_
 have hc5 := H.cell (u := (I a_0.2)) (o' := 1) 1 1 rfl rfl rfl
 have hc6 := H.cell (u := (I b_1.2)) (o' := 1) 0 1 rfl rfl rfl
 obtain ⟨r7, hx8, h'⟩ := bind_some h
 clear h
 have h := h'; clear h'
 have hc9 := c_cmp_Compare_int hx8
 have hc10 := H.cell (u := (I a_0.1)) (o' := 0) 1 0 rfl rfl rfl
 have hc11 := H.cell (u := (I b_1.1)) (o' := 0) 0 0 rfl rfl rfl
 have Hs := H
 refine rg2 (σ := σ4) (Nm := Unit) 9 [4] [[false], [true]] [[(0, 0)], [(0, 0)], [(0, 0)], [(0, 0)], [(0, 1)], [(0, 0), (1, 1)], [(0, 0), (1, 1)], [(0, 0), (1, 1)], [(0, 0), (1, 1)]] 1 [fun _ => fun σm => Hp S0 σ0 σm [Ch.bx n0 b3 0 [(I b_1.1), (I b_1.2)] [] [], Ch.bx n0 b1 0 [(I a_0.1), (I a_0.2)] [] []] ∧ Md (cov []) σ4 σm, fun _ => fun σm => Hp S0 σ0 σm [Ch.bx n0 b3 0 [(I b_1.1), (I b_1.2)] [] [], Ch.bx n0 b1 0 [(I a_0.1), (I a_0.2)] [] []] ∧ Md (cov []) σ4 σm] [fun _ => (pt b1 1), fun _ => (I a_0.2), fun _ => (pt b3 1), fun _ => (I b_1.2), fun _ => (I r7), fun _ => (pt b1 0), fun _ => (I a_0.1), fun _ => (pt b3 0), fun _ => (I b_1.1)] () (by kernel_rfl) (by kernel_rfl) ?_ ?_ ?_
 ·intro σm m0
  exact ⟨H.grow (m0.mono fun _ h => h.elim), m0⟩
 ·refine ac rfl (by
    intro k _nm ρ σm hJ hoff hdep
    have e2 := look_off (N := 17) (hoff 2 rfl) rfl
    exact dp_v (v := (pt b1 1)) wn (rv_fieldAddr (off := 1) (ft := 3) Try.underlying62 rfl ti3 rfl e2) rfl hJ) ?_
  refine all_cons (by
    refine ⟨?_, ?_⟩
    ·intro _nm ρ σm hJ hoff hdep
     have e5 := hdep 0 rfl rfl 5 rfl
     obtain ⟨H, m⟩ := id hJ
     have hc5 := H.cell (u := (I a_0.2)) (o' := 1) 1 1 rfl rfl rfl
     exact dp_v (v := (I a_0.2)) wn (rv_load1 Try.underlying3 rfl e5 hc5) rfl hJ
    trivial) ?_
  refine ac rfl (by
    intro k _nm ρ σm hJ hoff hdep
    have e3 := look_off (N := 17) (hoff 3 rfl) rfl
    exact dp_v (v := (pt b3 1)) wn (rv_fieldAddr (off := 1) (ft := 3) Try.underlying62 rfl ti3 rfl e3) rfl hJ) ?_
  refine all_cons (by
    refine ⟨?_, ?_⟩
    ·intro _nm ρ σm hJ hoff hdep
     have e7 := hdep 2 rfl rfl 7 rfl
     obtain ⟨H, m⟩ := id hJ
     have hc6 := H.cell (u := (I b_1.2)) (o' := 1) 0 1 rfl rfl rfl
     exact dp_v (v := (I b_1.2)) wn (rv_load1 Try.underlying3 rfl e7 hc6) rfl hJ
    trivial) ?_
  refine all_cons (by
    refine ⟨?_, ?_⟩
    ·intro _nm ρ σm hJ hoff hdep
     have e6 : look 17 ρ 6 = (I a_0.2) := hdep 1 rfl rfl 6 rfl
     have e8 : look 17 ρ 8 = (I b_1.2) := hdep 3 rfl rfl 8 rfl
     obtain ⟨H, m⟩ := id hJ
     refine dp_cx wn (cx_call hc9 (ent_f hc9.fn (by show [look 17 ρ 6, look 17 ρ 8] = _; rw [e6, e8])) hn0 (show Hp S0 σ0 _ ([] ++ [Ch.bx n0 b3 0 [(I b_1.1), (I b_1.2)] [] [], Ch.bx n0 b1 0 [(I a_0.1), (I a_0.2)] [] []]) from (H.sel' [0, 1] rfl rfl))) ?_
     rintro _ σq ⟨_, ⟨rfl, rfl⟩, H2, m2⟩
     exact ⟨_, (), rfl, rfl, ⟨H2.sel' [0, 1] rfl rfl, m.comp0 m2⟩, stab [0, 1, 2, 3, 5, 6, 7, 8] (by kernel_rfl) ⟨rfl, rfl, rfl, rfl, rfl, rfl, rfl, rfl, trivial⟩⟩
    trivial) ?_
  refine ac rfl (by
    intro k _nm ρ σm hJ hoff hdep
    have e2 := look_off (N := 17) (hoff 2 rfl) rfl
    exact dp_v (v := (pt b1 0)) wn (rv_fieldAddr (off := 0) (ft := 3) Try.underlying62 rfl ti3 rfl e2) rfl hJ) ?_
  refine all_cons (by
    refine ⟨?_, ?_⟩
    ·intro _nm ρ σm hJ hoff hdep
     have e10 := hdep 5 rfl rfl 10 rfl
     obtain ⟨H, m⟩ := id hJ
     have hc10 := H.cell (u := (I a_0.1)) (o' := 0) 1 0 rfl rfl rfl
     exact dp_v (v := (I a_0.1)) wn (rv_load1 Try.underlying3 rfl e10 hc10) rfl hJ
    refine ⟨?_, ?_⟩
    ·intro _nm ρ σm hJ hoff hdep
     have e10 := hdep 5 rfl rfl 10 rfl
     obtain ⟨H, m⟩ := id hJ
     have hc10 := H.cell (u := (I a_0.1)) (o' := 0) 1 0 rfl rfl rfl
     exact dp_v (v := (I a_0.1)) wn (rv_load1 Try.underlying3 rfl e10 hc10) rfl hJ
    trivial) ?_
  refine ac rfl (by
    intro k _nm ρ σm hJ hoff hdep
    have e3 := look_off (N := 17) (hoff 3 rfl) rfl
    exact dp_v (v := (pt b3 0)) wn (rv_fieldAddr (off := 0) (ft := 3) Try.underlying62 rfl ti3 rfl e3) rfl hJ) ?_
  refine all_cons (by
    refine ⟨?_, ?_⟩
    ·intro _nm ρ σm hJ hoff hdep
     have e12 := hdep 7 rfl rfl 12 rfl
     obtain ⟨H, m⟩ := id hJ
     have hc11 := H.cell (u := (I b_1.1)) (o' := 0) 0 0 rfl rfl rfl
     exact dp_v (v := (I b_1.1)) wn (rv_load1 Try.underlying3 rfl e12 hc11) rfl hJ
    refine ⟨?_, ?_⟩
    ·intro _nm ρ σm hJ hoff hdep
     have e12 := hdep 7 rfl rfl 12 rfl
     obtain ⟨H, m⟩ := id hJ
     have hc11 := H.cell (u := (I b_1.1)) (o' := 0) 0 0 rfl rfl rfl
     exact dp_v (v := (I b_1.1)) wn (rv_load1 Try.underlying3 rfl e12 hc11) rfl hJ
    trivial) ?_
  exact all_nil
 ·intro _nm ρ σ12 hJ hoff hrel
  have e9 := hrel 4 rfl 9 rfl
  have e11 := hrel 6 rfl 11 rfl
  have e13 := hrel 8 rfl 13 rfl
  obtain ⟨H, -⟩ := (show Hp S0 σ0 σ12 [Ch.bx n0 b3 0 [(I b_1.1), (I b_1.2)] [] [], Ch.bx n0 b1 0 [(I a_0.1), (I a_0.2)] [] []] ∧ Md (cov []) σ4 σ12 from hJ)
  clear hJ Hs
  rw [fr_lookL (L := [(9, (I r7)), (11, (I a_0.1)), (13, (I b_1.1))]) ⟨e9, e11, e13, trivial⟩]
  clear hoff hrel e9 e11 e13
  obtain ⟨r13, hx14, h'⟩ := bind_some h
  clear h
  have h := h'; clear h'
  have hc15 := c_cmp_Compare_int hx14
  refine st_call (cx_call hc15 (ent_f hc15.fn rfl) hn0 (show Hp S0 σ0 _ ([] ++ [Ch.bx n0 b3 0 [(I b_1.1), (I b_1.2)] [] [], Ch.bx n0 b1 0 [(I a_0.1), (I a_0.2)] [] []]) from (H.sel' [0, 1] rfl rfl))) wn ?_
  rintro _ σ16 ⟨_, ⟨rfl, rfl⟩, H, -⟩
  replace H : Hp S0 σ0 σ16 [Ch.bx n0 b3 0 [(I b_1.1), (I b_1.2)] [] [], Ch.bx n0 b1 0 [(I a_0.1), (I a_0.2)] [] []] := H
  refine st_ex (ex_buildSlice (el := n0) (xs := ([r7, r13] : List Int)) (ps := [(0, (I r7)), (1, (I r13))]) (cs := [(I r7), (I r13)]) H hn0 Try.underlying23 ti3 rfl rfl (by kernel_rfl) (.cons (c := [(I r7)]) rfl (.cons (c := [(I r13)]) rfl (.nil))) rfl) wn ?_
  rintro _ σ18 ⟨b17, rfl, H, -⟩
  obtain ⟨σ19, hw20, H, -⟩ := H.pub 0 rfl (Nat.le_refl _)
  rw [← hw20]; clear hw20
  replace H := H.roLow 0 0 rfl (Nat.zero_le _)
  obtain ⟨r21, hx22, h'⟩ := bind_some h
  clear h
  have h := h'; clear h'
  have hc23 := c_cmp_Or_int (avals_0 := (some ⟨b17, 0, none⟩)) (cvals_0 := 2) hx22
  refine st_call (cx_call hc23 (ent_f hc23.fn rfl) hn0 (show Hp S0 σ0 _ ([Ch.ro 0 (Sl (some ⟨b17, 0, none⟩) ([r7, r13] : List Int) 2) ([r7, r13] : List Int)] ++ [Ch.ro 0 (Sl (some ⟨b17, 0, none⟩) ([r7, r13] : List Int) 2) ([r7, r13] : List Int), Ch.ro n0 (Sl (some ⟨b17, 0, none⟩) ([r7, r13] : List Int) 2) ([r7, r13] : List Int), Ch.bx n0 b3 0 [(I b_1.1), (I b_1.2)] [] [], Ch.bx n0 b1 0 [(I a_0.1), (I a_0.2)] [] []]) from (H.sel' [0, 0, 1, 2, 3] rfl rfl))) wn ?_
  rintro _ σ24 ⟨_, ⟨rfl, rfl⟩, H, -⟩
  replace H : Hp S0 σ0 σ24 [Ch.ro 0 (Sl (some ⟨b17, 0, none⟩) ([r7, r13] : List Int) 2) ([r7, r13] : List Int), Ch.ro n0 (Sl (some ⟨b17, 0, none⟩) ([r7, r13] : List Int) 2) ([r7, r13] : List Int), Ch.bx n0 b3 0 [(I b_1.1), (I b_1.2)] [] [], Ch.bx n0 b1 0 [(I a_0.1), (I a_0.2)] [] []] := H
  refine st (v := (I r21)) (rv_assign rfl) ?_
  refine w_end ?_
  refine q_then ?_
  refine c_ret ?_
  obtain rfl := Option.some.inj h
  exact fin_ret (v := (I r21)) (results_ok Try.results113 (res_tmp (v := (I r21)) rfl res_nil) rfl) ⟨rfl, rfl⟩ (H.sel' [] rfl rfl)

theorem c_impl_sortByDistance_1__p3__p24 {x_0 : Int × (List Int) × Int} {y_1 : Int × (List Int) × Int} {p_2 : Int} {p_3 : List Int} {ax_0_1 : Option Addr} {cx_0_1 : Nat} {ay_1_1 : Option Addr} {cy_1_1 : Nat} {bp_2 op_2 : Nat} {bp_3 op_3 : Nat} {r : Int} (h : M.impl_sortByDistance_1__p3__p24 x_0 y_1 p_2 p_3 = some r) :
    Cal2 Try.prog 112 [(.agg #[(I x_0.1), (Sl ax_0_1 x_0.2.1 cx_0_1), (I x_0.2.2)]), (.agg #[(I y_1.1), (Sl ay_1_1 y_1.2.1 cy_1_1), (I y_1.2.2)]), (pt bp_2 op_2), (pt bp_3 op_3)] [Ch.ro 0 (Sl ax_0_1 x_0.2.1 cx_0_1) x_0.2.1, Ch.ro 0 (Sl ay_1_1 y_1.2.1 cy_1_1) y_1.2.1, Ch.ro 0 (Sl (some ⟨bp_2, op_2, none⟩) ([p_2] : List Int) 1) ([p_2] : List Int), Ch.ro 0 (Sl (some ⟨bp_3, op_3, none⟩) ([p_3] : List (List Int)) 1) ([p_3] : List (List Int))] (fun n0 v L => v = (I r) ∧ L = []) := by
 refine cal2 (n := 16) Try.func112 rfl rfl rfl rfl ?_
 intro S0 σ0 n0 hn0 H
 unfold M.impl_sortByDistance_1__p3__p24 at h
 have hxp_2 : gidx ([p_2] : List Int) 0 = some p_2 := rfl
 have hip_2 : Ix (Sl (some ⟨bp_2, op_2, none⟩) ([p_2] : List Int) 1) 0 1 bp_2 op_2 := ix_one
 have hxp_3 : gidx ([p_3] : List (List Int)) 0 = some p_3 := rfl
 have hip_3 : Ix (Sl (some ⟨bp_3, op_3, none⟩) ([p_3] : List (List Int)) 1) 0 1 bp_3 op_3 := ix_one
 refine c_seq ?_
 refine rg ?_
 refine st_ex (ex_box (cs := [(I x_0.1), (Sl ax_0_1 x_0.2.1 cx_0_1), (I x_0.2.2)]) H hn0 rfl rfl) wn ?_
 rintro _ σ2 ⟨b1, rfl, H, -⟩
 refine st_ex (ex_box (cs := [(I y_1.1), (Sl ay_1_1 y_1.2.1 cy_1_1), (I y_1.2.2)]) H hn0 rfl rfl) wn ?_
 rintro _ σ4 ⟨b3, rfl, H, -⟩
 refine st (v := (I 0)) (rv_assign rfl) ?_
 refine w_end ?_
 refine q_then ?_
 refine c_seq ?_
 have hc5 := H.cells 1 rfl
 have hc6 := ((H.ro 4 rfl).at hxp_2 hip_2).int
 obtain ⟨v10, hc11, hR9⟩ := ((H.ro 5 rfl).at hxp_3 hip_3).slice
 obtain ⟨a7, c8, rfl⟩ := hR9.isSl
 replace H := H.add (d := Ch.ro 0 (Sl a7 p_3 c8) p_3) hR9 (fun _ h => h)
 clear hR9
 obtain ⟨r12, hx13, h'⟩ := bind_some h
 clear h
 have h := h'; clear h'
 have hc14 := c_impl_hitOf (ax_0_1 := ax_0_1) (cx_0_1 := cx_0_1) (aat_2 := a7) (cat_2 := c8) hx13
 have hc15 := H.cells 1 rfl
 have hc16 := ((H.ro 5 rfl).at hxp_2 hip_2).int
 obtain ⟨v20, hc21, hR19⟩ := ((H.ro 6 rfl).at hxp_3 hip_3).slice
 obtain ⟨a17, c18, rfl⟩ := hR19.isSl
 replace H := H.add (d := Ch.ro 0 (Sl a17 p_3 c18) p_3) hR19 (fun _ h => h)
 clear hR19
 have Hs := H
 refine rg2 (σ := σ4) (Nm := Unit) 7 [3] [[false], [true]] [[(0, 0)], [(0, 0)], [(0, 0)], [(0, 1)], [(0, 0), (1, 1)], [(0, 0), (1, 1)], [(0, 0), (1, 1)]] 1 [fun _ => fun σm => Hp S0 σ0 σm [Ch.ro 0 (Sl a17 p_3 c18) p_3, Ch.ro 0 (Sl a7 p_3 c8) p_3, Ch.bx n0 b3 0 [(I y_1.1), (Sl ay_1_1 y_1.2.1 cy_1_1), (I y_1.2.2)] [] [], Ch.bx n0 b1 0 [(I x_0.1), (Sl ax_0_1 x_0.2.1 cx_0_1), (I x_0.2.2)] [] [], Ch.ro 0 (Sl ax_0_1 x_0.2.1 cx_0_1) x_0.2.1, Ch.ro 0 (Sl ay_1_1 y_1.2.1 cy_1_1) y_1.2.1, Ch.ro 0 (Sl (some ⟨bp_2, op_2, none⟩) ([p_2] : List Int) 1) ([p_2] : List Int), Ch.ro 0 (Sl (some ⟨bp_3, op_3, none⟩) ([p_3] : List (List Int)) 1) ([p_3] : List (List Int))] ∧ Md (cov []) σ4 σm, fun _ => fun σm => Hp S0 σ0 σm [Ch.ro 0 (Sl a17 p_3 c18) p_3, Ch.ro 0 (Sl a7 p_3 c8) p_3, Ch.bx n0 b3 0 [(I y_1.1), (Sl ay_1_1 y_1.2.1 cy_1_1), (I y_1.2.2)] [] [], Ch.bx n0 b1 0 [(I x_0.1), (Sl ax_0_1 x_0.2.1 cx_0_1), (I x_0.2.2)] [] [], Ch.ro 0 (Sl ax_0_1 x_0.2.1 cx_0_1) x_0.2.1, Ch.ro 0 (Sl ay_1_1 y_1.2.1 cy_1_1) y_1.2.1, Ch.ro 0 (Sl (some ⟨bp_2, op_2, none⟩) ([p_2] : List Int) 1) ([p_2] : List Int), Ch.ro 0 (Sl (some ⟨bp_3, op_3, none⟩) ([p_3] : List (List Int)) 1) ([p_3] : List (List Int))] ∧ Md (cov []) σ4 σm] [fun _ => (.agg #[(I x_0.1), (Sl ax_0_1 x_0.2.1 cx_0_1), (I x_0.2.2)]), fun _ => (I p_2), fun _ => (Sl a7 p_3 c8), fun _ => (.agg #[(I r12.1), (I r12.2)]), fun _ => (.agg #[(I y_1.1), (Sl ay_1_1 y_1.2.1 cy_1_1), (I y_1.2.2)]), fun _ => (I p_2), fun _ => (Sl a17 p_3 c18)] () (by kernel_rfl) (by kernel_rfl) ?_ ?_ ?_
 ·intro σm m0
  exact ⟨H.grow (m0.mono fun _ h => h.elim), m0⟩
 ·refine all_cons (by
    refine ⟨?_, ?_⟩
    ·intro _nm ρ σm hJ hoff hdep
     have e4 := look_off (N := 16) (hoff 4 rfl) rfl
     obtain ⟨H, m⟩ := id hJ
     have hc5 := H.cells 3 rfl
     exact dp_v (v := (.agg #[(I x_0.1), (Sl ax_0_1 x_0.2.1 cx_0_1), (I x_0.2.2)])) wn (rv_load (cs := [(I x_0.1), (Sl ax_0_1 x_0.2.1 cx_0_1), (I x_0.2.2)]) Try.underlying63 rfl ti63 e4 rfl hc5) rfl hJ
    trivial) ?_
  refine all_cons (by
    refine ⟨?_, ?_⟩
    ·intro _nm ρ σm hJ hoff hdep
     have e2 := look_off (N := 16) (hoff 2 rfl) rfl
     obtain ⟨H, m⟩ := id hJ
     replace hc6 := (Hs.ro 6 rfl).hmd hxp_2 hip_2 (k := 0) (by decide) hc6 m
     exact dp_v (v := (I p_2)) wn (rv_load1 Try.underlying3 rfl e2 hc6) rfl hJ
    trivial) ?_
  refine all_cons (by
    refine ⟨?_, ?_⟩
    ·intro _nm ρ σm hJ hoff hdep
     have e3 := look_off (N := 16) (hoff 3 rfl) rfl
     obtain ⟨H, m⟩ := id hJ
     replace hc11 := (Hs.ro 7 rfl).hmd hxp_3 hip_3 (k := 0) (by decide) hc11 m
     exact dp_v (v := (Sl a7 p_3 c8)) wn (rv_load1 Try.underlying23 rfl e3 hc11) rfl hJ
    trivial) ?_
  refine all_cons (by
    refine ⟨?_, ?_⟩
    ·intro _nm ρ σm hJ hoff hdep
     have e7 : look 16 ρ 7 = (.agg #[(I x_0.1), (Sl ax_0_1 x_0.2.1 cx_0_1), (I x_0.2.2)]) := hdep 0 rfl rfl 7 rfl
     have e8 : look 16 ρ 8 = (I p_2) := hdep 1 rfl rfl 8 rfl
     have e9 : look 16 ρ 9 = (Sl a7 p_3 c8) := hdep 2 rfl rfl 9 rfl
     obtain ⟨H, m⟩ := id hJ
     refine dp_cx wn (cx_call hc14 (ent_f hc14.fn (by show [look 16 ρ 7, look 16 ρ 8, look 16 ρ 9] = _; rw [e7, e8, e9])) hn0 (show Hp S0 σ0 _ ([Ch.ro 0 (Sl ax_0_1 x_0.2.1 cx_0_1) x_0.2.1, Ch.ro 0 (Sl a7 p_3 c8) p_3] ++ [Ch.ro 0 (Sl a17 p_3 c18) p_3, Ch.ro 0 (Sl a7 p_3 c8) p_3, Ch.bx n0 b3 0 [(I y_1.1), (Sl ay_1_1 y_1.2.1 cy_1_1), (I y_1.2.2)] [] [], Ch.bx n0 b1 0 [(I x_0.1), (Sl ax_0_1 x_0.2.1 cx_0_1), (I x_0.2.2)] [] [], Ch.ro 0 (Sl ax_0_1 x_0.2.1 cx_0_1) x_0.2.1, Ch.ro 0 (Sl ay_1_1 y_1.2.1 cy_1_1) y_1.2.1, Ch.ro 0 (Sl (some ⟨bp_2, op_2, none⟩) ([p_2] : List Int) 1) ([p_2] : List Int), Ch.ro 0 (Sl (some ⟨bp_3, op_3, none⟩) ([p_3] : List (List Int)) 1) ([p_3] : List (List Int))]) from (H.sel' [4, 1, 0, 1, 2, 3, 4, 5, 6, 7] rfl rfl))) ?_
     rintro _ σq ⟨_, ⟨rfl, rfl⟩, H2, m2⟩
     exact ⟨_, (), rfl, rfl, ⟨H2.sel' [0, 1, 2, 3, 4, 5, 6, 7] rfl rfl, m.comp0 (m2.mono (fun i h => by simp [cov, Ch.ro] at h))⟩, stab [0, 1, 2, 4, 5, 6] (by kernel_rfl) ⟨rfl, rfl, rfl, rfl, rfl, rfl, trivial⟩⟩
    trivial) ?_
  refine all_cons (by
    refine ⟨?_, ?_⟩
    ·intro _nm ρ σm hJ hoff hdep
     have e5 := look_off (N := 16) (hoff 5 rfl) rfl
     obtain ⟨H, m⟩ := id hJ
     have hc15 := H.cells 2 rfl
     exact dp_v (v := (.agg #[(I y_1.1), (Sl ay_1_1 y_1.2.1 cy_1_1), (I y_1.2.2)])) wn (rv_load (cs := [(I y_1.1), (Sl ay_1_1 y_1.2.1 cy_1_1), (I y_1.2.2)]) Try.underlying63 rfl ti63 e5 rfl hc15) rfl hJ
    refine ⟨?_, ?_⟩
    ·intro _nm ρ σm hJ hoff hdep
     have e5 := look_off (N := 16) (hoff 5 rfl) rfl
     obtain ⟨H, m⟩ := id hJ
     have hc15 := H.cells 2 rfl
     exact dp_v (v := (.agg #[(I y_1.1), (Sl ay_1_1 y_1.2.1 cy_1_1), (I y_1.2.2)])) wn (rv_load (cs := [(I y_1.1), (Sl ay_1_1 y_1.2.1 cy_1_1), (I y_1.2.2)]) Try.underlying63 rfl ti63 e5 rfl hc15) rfl hJ
    trivial) ?_
  refine all_cons (by
    refine ⟨?_, ?_⟩
    ·intro _nm ρ σm hJ hoff hdep
     have e2 := look_off (N := 16) (hoff 2 rfl) rfl
     obtain ⟨H, m⟩ := id hJ
     replace hc16 := (Hs.ro 6 rfl).hmd hxp_2 hip_2 (k := 0) (by decide) hc16 m
     exact dp_v (v := (I p_2)) wn (rv_load1 Try.underlying3 rfl e2 hc16) rfl hJ
    refine ⟨?_, ?_⟩
    ·intro _nm ρ σm hJ hoff hdep
     have e2 := look_off (N := 16) (hoff 2 rfl) rfl
     obtain ⟨H, m⟩ := id hJ
     replace hc16 := (Hs.ro 6 rfl).hmd hxp_2 hip_2 (k := 0) (by decide) hc16 m
     exact dp_v (v := (I p_2)) wn (rv_load1 Try.underlying3 rfl e2 hc16) rfl hJ
    trivial) ?_
  refine all_cons (by
    refine ⟨?_, ?_⟩
    ·intro _nm ρ σm hJ hoff hdep
     have e3 := look_off (N := 16) (hoff 3 rfl) rfl
     obtain ⟨H, m⟩ := id hJ
     replace hc21 := (Hs.ro 7 rfl).hmd hxp_3 hip_3 (k := 0) (by decide) hc21 m
     exact dp_v (v := (Sl a17 p_3 c18)) wn (rv_load1 Try.underlying23 rfl e3 hc21) rfl hJ
    refine ⟨?_, ?_⟩
    ·intro _nm ρ σm hJ hoff hdep
     have e3 := look_off (N := 16) (hoff 3 rfl) rfl
     obtain ⟨H, m⟩ := id hJ
     replace hc21 := (Hs.ro 7 rfl).hmd hxp_3 hip_3 (k := 0) (by decide) hc21 m
     exact dp_v (v := (Sl a17 p_3 c18)) wn (rv_load1 Try.underlying23 rfl e3 hc21) rfl hJ
    trivial) ?_
  exact all_nil
 ·intro _nm ρ σ22 hJ hoff hrel
  have e10 := hrel 3 rfl 10 rfl
  have e11 := hrel 4 rfl 11 rfl
  have e12 := hrel 5 rfl 12 rfl
  have e13 := hrel 6 rfl 13 rfl
  obtain ⟨H, -⟩ := (show Hp S0 σ0 σ22 [Ch.ro 0 (Sl a17 p_3 c18) p_3, Ch.ro 0 (Sl a7 p_3 c8) p_3, Ch.bx n0 b3 0 [(I y_1.1), (Sl ay_1_1 y_1.2.1 cy_1_1), (I y_1.2.2)] [] [], Ch.bx n0 b1 0 [(I x_0.1), (Sl ax_0_1 x_0.2.1 cx_0_1), (I x_0.2.2)] [] [], Ch.ro 0 (Sl ax_0_1 x_0.2.1 cx_0_1) x_0.2.1, Ch.ro 0 (Sl ay_1_1 y_1.2.1 cy_1_1) y_1.2.1, Ch.ro 0 (Sl (some ⟨bp_2, op_2, none⟩) ([p_2] : List Int) 1) ([p_2] : List Int), Ch.ro 0 (Sl (some ⟨bp_3, op_3, none⟩) ([p_3] : List (List Int)) 1) ([p_3] : List (List Int))] ∧ Md (cov []) σ4 σ22 from hJ)
  clear hJ Hs
  rw [fr_lookL (L := [(10, (.agg #[(I r12.1), (I r12.2)])), (11, (.agg #[(I y_1.1), (Sl ay_1_1 y_1.2.1 cy_1_1), (I y_1.2.2)])), (12, (I p_2)), (13, (Sl a17 p_3 c18))]) ⟨e10, e11, e12, e13, trivial⟩]
  clear hoff hrel e10 e11 e12 e13
  obtain ⟨r23, hx24, h'⟩ := bind_some h
  clear h
  have h := h'; clear h'
  have hc25 := c_impl_hitOf (ax_0_1 := ay_1_1) (cx_0_1 := cy_1_1) (aat_2 := a17) (cat_2 := c18) hx24
  refine st_call (cx_call hc25 (ent_f hc25.fn rfl) hn0 (show Hp S0 σ0 _ ([Ch.ro 0 (Sl ay_1_1 y_1.2.1 cy_1_1) y_1.2.1, Ch.ro 0 (Sl a17 p_3 c18) p_3] ++ [Ch.ro 0 (Sl a17 p_3 c18) p_3, Ch.ro 0 (Sl a7 p_3 c8) p_3, Ch.bx n0 b3 0 [(I y_1.1), (Sl ay_1_1 y_1.2.1 cy_1_1), (I y_1.2.2)] [] [], Ch.bx n0 b1 0 [(I x_0.1), (Sl ax_0_1 x_0.2.1 cx_0_1), (I x_0.2.2)] [] [], Ch.ro 0 (Sl ax_0_1 x_0.2.1 cx_0_1) x_0.2.1, Ch.ro 0 (Sl ay_1_1 y_1.2.1 cy_1_1) y_1.2.1, Ch.ro 0 (Sl (some ⟨bp_2, op_2, none⟩) ([p_2] : List Int) 1) ([p_2] : List Int), Ch.ro 0 (Sl (some ⟨bp_3, op_3, none⟩) ([p_3] : List (List Int)) 1) ([p_3] : List (List Int))]) from (H.sel' [5, 0, 0, 1, 2, 3, 4, 5, 6, 7] rfl rfl))) wn ?_
  rintro _ σ26 ⟨_, ⟨rfl, rfl⟩, H, -⟩
  replace H : Hp S0 σ0 σ26 [Ch.ro 0 (Sl a17 p_3 c18) p_3, Ch.ro 0 (Sl a7 p_3 c8) p_3, Ch.bx n0 b3 0 [(I y_1.1), (Sl ay_1_1 y_1.2.1 cy_1_1), (I y_1.2.2)] [] [], Ch.bx n0 b1 0 [(I x_0.1), (Sl ax_0_1 x_0.2.1 cx_0_1), (I x_0.2.2)] [] [], Ch.ro 0 (Sl ax_0_1 x_0.2.1 cx_0_1) x_0.2.1, Ch.ro 0 (Sl ay_1_1 y_1.2.1 cy_1_1) y_1.2.1, Ch.ro 0 (Sl (some ⟨bp_2, op_2, none⟩) ([p_2] : List Int) 1) ([p_2] : List Int), Ch.ro 0 (Sl (some ⟨bp_3, op_3, none⟩) ([p_3] : List (List Int)) 1) ([p_3] : List (List Int))] := H
  replace H : Hp S0 σ0 σ26 [] := H.sel' [] rfl rfl
  obtain ⟨r27, hx28, h'⟩ := bind_some h
  clear h
  have h := h'; clear h'
  have hc29 := c_impl_compareHits hx28
  refine st_call (cx_call hc29 (ent_f hc29.fn rfl) hn0 (show Hp S0 σ0 _ ([] ++ []) from (H.sel' [] rfl rfl))) wn ?_
  rintro _ σ30 ⟨_, ⟨rfl, rfl⟩, H, -⟩
  replace H : Hp S0 σ0 σ30 [] := H
  refine st (v := (I r27)) (rv_assign rfl) ?_
  refine w_end ?_
  refine q_then ?_
  refine c_ret ?_
  obtain rfl := Option.some.inj h
  exact fin_ret (v := (I r27)) (results_ok Try.results112 (res_tmp (v := (I r27)) rfl res_nil) rfl) ⟨rfl, rfl⟩ (H.sel' [] rfl rfl)

def sort111_ren : Go.Shelf.Ren := ⟨fun | 6 => 111 | 15 => 122 | 14 => 121 | 28 => 137 | 29 => 138 | 20 => 129 | 21 => 130 | 22 => 131 | 23 => 132 | 24 => 133 | 25 => 134 | 26 => 135 | 27 => 136 | 46 => 143 | 47 => 144 | 48 => 145 | 49 => 146 | 50 => 147 | 57 => 150 | n => n, fun | 22 => 27 | 24 => 63 | 25 => 124 | 3 => 3 | 39 => 134 | 0 => 0 | 53 => 156 | 55 => 158 | 4 => 4 | 46 => 149 | 45 => 148 | 50 => 153 | 5 => 5 | 9 => 9 | 66 => 162 | 70 => 166 | 76 => 170 | 77 => 171 | n => n, fun | n => n⟩
theorem sort111 : Go.Proofs.SlLaysF0.n6 Try.prog sort111_ren := {
  mixed := by kernel_rfl
  f6 := ⟨Try.f111.name, by decide, Try.func111.trans (congrArg some (by kernel_rfl))⟩
  f14 := ⟨Try.f121.name, by decide, Try.func121.trans (congrArg some (by kernel_rfl))⟩
  f15 := Try.func122.trans (congrArg some (by kernel_rfl))
  f20 := ⟨Try.f129.name, by decide, Try.func129.trans (congrArg some (by kernel_rfl))⟩
  f21 := ⟨Try.f130.name, by decide, Try.func130.trans (congrArg some (by kernel_rfl))⟩
  f22 := ⟨Try.f131.name, by decide, Try.func131.trans (congrArg some (by kernel_rfl))⟩
  f23 := ⟨Try.f132.name, by decide, Try.func132.trans (congrArg some (by kernel_rfl))⟩
  f24 := ⟨Try.f133.name, by decide, Try.func133.trans (congrArg some (by kernel_rfl))⟩
  f25 := ⟨Try.f134.name, by decide, Try.func134.trans (congrArg some (by kernel_rfl))⟩
  f26 := ⟨Try.f135.name, by decide, Try.func135.trans (congrArg some (by kernel_rfl))⟩
  f27 := ⟨Try.f136.name, by decide, Try.func136.trans (congrArg some (by kernel_rfl))⟩
  f28 := Try.func137.trans (congrArg some (by kernel_rfl))
  f29 := Try.func138.trans (congrArg some (by kernel_rfl))
  f46 := ⟨Try.f143.name, by decide, Try.func143.trans (congrArg some (by kernel_rfl))⟩
  f47 := Try.func144.trans (congrArg some (by kernel_rfl))
  f48 := Try.func145.trans (congrArg some (by kernel_rfl))
  f49 := ⟨Try.f146.name, by decide, Try.func146.trans (congrArg some (by kernel_rfl))⟩
  f50 := ⟨Try.f147.name, by decide, Try.func147.trans (congrArg some (by kernel_rfl))⟩
  f57 := ⟨Try.f150.name, by decide, Try.func150.trans (congrArg some (by kernel_rfl))⟩
  t0 := Try.underlying0
  a0 := Try.isAgg0
  z0 := Try.sizeOf0
  v0 := Try.zeroValue0
  t3 := Try.underlying3
  a3 := Try.isAgg3
  z3 := Try.sizeOf3
  v3 := Try.zeroValue3
  t4 := Try.underlying4
  a4 := Try.isAgg4
  z4 := Try.sizeOf4
  v4 := Try.zeroValue4
  t5 := Try.underlying5
  a5 := Try.isAgg5
  z5 := Try.sizeOf5
  v5 := Try.zeroValue5
  t9 := Try.underlying9
  a9 := Try.isAgg9
  z9 := Try.sizeOf9
  v9 := Try.zeroValue9
  t22 := Try.underlying27
  a22 := Try.isAgg27
  z22 := Try.sizeOf27
  v22 := Try.zeroValue27
  t25 := Try.underlying124
  a25 := Try.isAgg124
  z25 := Try.sizeOf124
  v25 := Try.zeroValue124
  t39 := Try.underlying134
  a39 := Try.isAgg134
  z39 := Try.sizeOf134
  v39 := Try.zeroValue134
  t45 := Try.underlying148
  a45 := Try.isAgg148
  z45 := Try.sizeOf148
  v45 := Try.zeroValue148
  t46 := Try.underlying149
  a46 := Try.isAgg149
  z46 := Try.sizeOf149
  v46 := Try.zeroValue149
  t50 := Try.underlying153
  a50 := Try.isAgg153
  z50 := Try.sizeOf153
  v50 := Try.zeroValue153
  t53 := Try.underlying156
  a53 := Try.isAgg156
  z53 := Try.sizeOf156
  v53 := Try.zeroValue156
  t55 := Try.underlying158
  a55 := Try.isAgg158
  z55 := Try.sizeOf158
  v55 := Try.zeroValue158
  t66 := Try.underlying162
  a66 := Try.isAgg162
  z66 := Try.sizeOf162
  v66 := Try.zeroValue162
  t70 := Try.underlying166
  a70 := Try.isAgg166
  z70 := Try.sizeOf166
  v70 := Try.zeroValue166
  t76 := Try.underlying170
  a76 := Try.isAgg170
  z76 := Try.sizeOf170
  v76 := Try.zeroValue170
  t77 := Try.underlying171
  a77 := Try.isAgg171
  z77 := Try.sizeOf171
  v77 := Try.zeroValue171 }

theorem c_slices_SortFunc_impl_Item_impl_Item__impl_sortByDistance_1 {x_0 : List (Int × (List Int) × Int)} {cmp_1_0 : Int} {cmp_1_1 : List Int} {ax_0 : Option Addr} {cx_0 : Nat} {locmp_1_0 bcmp_1_0 ocmp_1_0 : Nat} {precmp_1_0 sufcmp_1_0 : List Value} {acmp_1_1 : Option Addr} {ccmp_1_1 : Nat} {locmp_1_1 bcmp_1_1 ocmp_1_1 : Nat} {precmp_1_1 sufcmp_1_1 : List Value} {r : List (Int × (List Int) × Int)} (h : M.slices_SortFunc_impl_Item_impl_Item__impl_sortByDistance_1 x_0 cmp_1_0 cmp_1_1 = some r) :
    Cal2 Try.prog 111 [(Sl ax_0 x_0 cx_0), (.func (.func 112) #[] #[(pt bcmp_1_0 ocmp_1_0), (pt bcmp_1_1 ocmp_1_1)])] [Ch.own 0 0 (Sl ax_0 x_0 cx_0) x_0, Ch.bx locmp_1_0 bcmp_1_0 ocmp_1_0 [(I cmp_1_0)] precmp_1_0 sufcmp_1_0, Ch.bx locmp_1_1 bcmp_1_1 ocmp_1_1 [(Sl acmp_1_1 cmp_1_1 ccmp_1_1)] precmp_1_1 sufcmp_1_1, Ch.ro 0 (Sl acmp_1_1 cmp_1_1 ccmp_1_1) cmp_1_1] (fun n0 v L => v = (.tuple #[]) ∧ L = [Ch.own 0 0 (Sl ax_0 r cx_0) r, Ch.bx locmp_1_0 bcmp_1_0 ocmp_1_0 [(I cmp_1_0)] precmp_1_0 sufcmp_1_0, Ch.bx locmp_1_1 bcmp_1_1 ocmp_1_1 [(Sl acmp_1_1 cmp_1_1 ccmp_1_1)] precmp_1_1 sufcmp_1_1] ∧ r.length = x_0.length) := by
 obtain ⟨hn, hs, hL, rfl⟩ := sortD_some h
 have hE : ∀ σ σ' : St, Ext σ σ' → (RS 0 σ (Sl (some ⟨bcmp_1_0, ocmp_1_0, none⟩) ([cmp_1_0] : List Int) 1) ([cmp_1_0] : List Int) ∧ RS 0 σ (Sl (some ⟨bcmp_1_1, ocmp_1_1, none⟩) ([cmp_1_1] : List (List Int)) 1) ([cmp_1_1] : List (List Int)) ∧ RS 0 σ (Sl acmp_1_1 cmp_1_1 ccmp_1_1) cmp_1_1) → (RS 0 σ' (Sl (some ⟨bcmp_1_0, ocmp_1_0, none⟩) ([cmp_1_0] : List Int) 1) ([cmp_1_0] : List Int) ∧ RS 0 σ' (Sl (some ⟨bcmp_1_1, ocmp_1_1, none⟩) ([cmp_1_1] : List (List Int)) 1) ([cmp_1_1] : List (List Int)) ∧ RS 0 σ' (Sl acmp_1_1 cmp_1_1 ccmp_1_1) cmp_1_1) := fun σ σ' hE hp => ⟨hp.1.ext hE, hp.2.1.ext hE, hp.2.2.ext hE⟩
 have hB : ∀ σ : St, allAs σ [Ch.bx locmp_1_0 bcmp_1_0 ocmp_1_0 [(I cmp_1_0)] precmp_1_0 sufcmp_1_0, Ch.bx locmp_1_1 bcmp_1_1 ocmp_1_1 [(Sl acmp_1_1 cmp_1_1 ccmp_1_1)] precmp_1_1 sufcmp_1_1, Ch.ro 0 (Sl acmp_1_1 cmp_1_1 ccmp_1_1) cmp_1_1] → apart [Ch.bx locmp_1_0 bcmp_1_0 ocmp_1_0 [(I cmp_1_0)] precmp_1_0 sufcmp_1_0, Ch.bx locmp_1_1 bcmp_1_1 ocmp_1_1 [(Sl acmp_1_1 cmp_1_1 ccmp_1_1)] precmp_1_1 sufcmp_1_1, Ch.ro 0 (Sl acmp_1_1 cmp_1_1 ccmp_1_1) cmp_1_1] → ∃ σp, Pb (cov [Ch.bx locmp_1_0 bcmp_1_0 ocmp_1_0 [(I cmp_1_0)] precmp_1_0 sufcmp_1_0, Ch.bx locmp_1_1 bcmp_1_1 ocmp_1_1 [(Sl acmp_1_1 cmp_1_1 ccmp_1_1)] precmp_1_1 sufcmp_1_1, Ch.ro 0 (Sl acmp_1_1 cmp_1_1 ccmp_1_1) cmp_1_1]) σ σp ∧ (RS 0 σp (Sl (some ⟨bcmp_1_0, ocmp_1_0, none⟩) ([cmp_1_0] : List Int) 1) ([cmp_1_0] : List Int) ∧ RS 0 σp (Sl (some ⟨bcmp_1_1, ocmp_1_1, none⟩) ([cmp_1_1] : List (List Int)) 1) ([cmp_1_1] : List (List Int)) ∧ RS 0 σp (Sl acmp_1_1 cmp_1_1 ccmp_1_1) cmp_1_1) := by
     intro σ hA hP
     obtain ⟨σ0, p0, r0, a0⟩ := pubBox (α := Int) (x := cmp_1_0) hA hP (by exact rfl)
     obtain ⟨σ1, p1, r1, a1⟩ := pubBox (α := List Int) (x := cmp_1_1) a0 hP.2 (by exact ⟨_, rfl, (a0.2.1 : RS 0 σ0 (Sl acmp_1_1 cmp_1_1 ccmp_1_1) cmp_1_1)⟩)
     exact ⟨σ1, (p0.trans p1).mono (fun i h => h.elim (fun h => .inl h) (fun h => .inr (.inl h))), (r0.ext p1.md.ext), r1, a1.1⟩
 have hC : ∀ σ : St, (RS 0 σ (Sl (some ⟨bcmp_1_0, ocmp_1_0, none⟩) ([cmp_1_0] : List Int) 1) ([cmp_1_0] : List Int) ∧ RS 0 σ (Sl (some ⟨bcmp_1_1, ocmp_1_1, none⟩) ([cmp_1_1] : List (List Int)) 1) ([cmp_1_1] : List (List Int)) ∧ RS 0 σ (Sl acmp_1_1 cmp_1_1 ccmp_1_1) cmp_1_1) → ∀ x ∈ x_0, ∀ y ∈ x_0, ∀ cx cy, Rp.rp 0 σ cx x → Rp.rp 0 σ cy y → Calls Try.prog 112 ([Value.agg cx.toArray, Value.agg cy.toArray] ++ [(pt bcmp_1_0 ocmp_1_0), (pt bcmp_1_1 ocmp_1_1)]).toArray σ.w fun e w' => e = .returned (I ((M.impl_sortByDistance_1__p3__p24 (x.1, x.2.1, x.2.2) (y.1, y.2.1, y.2.2) cmp_1_0 cmp_1_1).getD 0)) ∧ ∃ q os, w' = Go.Sort.grow (σ.w.drewN q) os := by
     intro σ hp x hx y hy cx cy rx ry
     obtain ⟨r, hr⟩ := hs x hx y hy
     obtain ⟨_, _, rfl, rfl, ⟨_, _, rfl, ⟨_, rfl, hRx_1⟩, rfl⟩⟩ := rx
     obtain ⟨_, _, rfl, rfl, ⟨_, _, rfl, ⟨_, rfl, hRy_1⟩, rfl⟩⟩ := ry
     obtain ⟨ax_1, cx_1, rfl⟩ := hRx_1.isSl
     obtain ⟨ay_1, cy_1, rfl⟩ := hRy_1.isSl
     have hc := c_impl_sortByDistance_1__p3__p24 (ax_0_1 := ax_1) (cx_0_1 := cx_1) (ay_1_1 := ay_1) (cy_1_1 := cy_1) (bp_2 := bcmp_1_0) (op_2 := ocmp_1_0) (bp_3 := bcmp_1_1) (op_3 := ocmp_1_1) hr
     refine (hc.runs σ 0 (Nat.zero_le _) (Hp.begin ⟨hRx_1, ⟨hRy_1, ⟨hp.1, ⟨hp.2.1, trivial⟩⟩⟩⟩ ⟨fun _ h => h.elim, ⟨fun _ h => h.elim, ⟨fun _ h => h.elim, ⟨fun _ h => h.elim, trivial⟩⟩⟩⟩)).mono ?_
     rintro e w' ⟨v, σ', L', rfl, rfl, ⟨rfl, -⟩, H⟩
     exact ⟨by rw [hr]; rfl, (H.md.mono fun i => fun h => h.elim (fun h => h.elim) (fun h => h.elim (fun h => h.elim) (fun h => h.elim (fun h => h.elim) (fun h => h.elim (fun h => h.elim) (fun h => h))))).grown⟩
 refine (sort_cal2 (α := (Int × (List Int) × Int)) sort111 Try.isAgg63 Try.sizeOf63 (xs := x_0) (a := ax_0) (c := cx_0) (g := 112) (cb := [(pt bcmp_1_0 ocmp_1_0), (pt bcmp_1_1 ocmp_1_1)]) (B := [Ch.bx locmp_1_0 bcmp_1_0 ocmp_1_0 [(I cmp_1_0)] precmp_1_0 sufcmp_1_0, Ch.bx locmp_1_1 bcmp_1_1 ocmp_1_1 [(Sl acmp_1_1 cmp_1_1 ccmp_1_1)] precmp_1_1 sufcmp_1_1, Ch.ro 0 (Sl acmp_1_1 cmp_1_1 ccmp_1_1) cmp_1_1]) (fun x y => (M.impl_sortByDistance_1__p3__p24 (x.1, x.2.1, x.2.2) (y.1, y.2.1, y.2.2) cmp_1_0 cmp_1_1).getD 0) hL hn ⟨_, _, Try.func112, rfl, rfl⟩ _ hE hB hC).conv ?_
 rintro m v L ⟨rfl, rfl⟩
 exact ⟨_, ⟨rfl, rfl, sortL_len⟩, fun H => H.sel' [0, 1, 2] rfl rfl⟩

theorem c_impl_sortByDistance {list_0 : List (Int × (List Int) × Int)} {kind_1 : Int} {at_2 : List Int} {alist_0 : Option Addr} {clist_0 : Nat} {aat_2 : Option Addr} {cat_2 : Nat} {r : (List (Int × (List Int) × Int))} (h : M.impl_sortByDistance list_0 kind_1 at_2 = some r) :
    Cal2 Try.prog 89 [(Sl alist_0 list_0 clist_0), (I kind_1), (Sl aat_2 at_2 cat_2)] [Ch.ro 0 (Sl alist_0 list_0 clist_0) list_0, Ch.ro 0 (Sl aat_2 at_2 cat_2) at_2] (fun n0 v L => ∃ (az1 : Option Addr), ∃ (cz2 : Nat), v = (Sl az1 r cz2) ∧ L = [Ch.own 0 0 (Sl az1 r cz2) r]) := by
 refine cal2 (n := 14) Try.func89 rfl rfl rfl rfl ?_
 intro S0 σ0 n0 hn0 H
 unfold M.impl_sortByDistance at h
 refine c_seq ?_
 refine rg ?_
 refine st_ex (ex_box (cs := [(I kind_1)]) H hn0 rfl rfl) wn ?_
 rintro _ σ2 ⟨b1, rfl, H, -⟩
 refine st_ex (ex_box (cs := [(Sl aat_2 at_2 cat_2)]) H hn0 rfl rfl) wn ?_
 rintro _ σ4 ⟨b3, rfl, H, -⟩
 refine st (v := (.slice none 0 0)) (rv_assign rfl) ?_
 refine w_end ?_
 refine q_then ?_
 refine c_seq ?_
 refine rg ?_
 refine st (v := (Sl alist_0 list_0 clist_0)) (rv_move rfl) ?_
 obtain ⟨r5, hx6, h'⟩ := bind_some h
 clear h
 have h := h'; clear h'
 have hc7 := c_slices_Clone_impl_Item_impl_Item (as_0 := alist_0) (cs_0 := clist_0) hx6
 refine st_call (cx_call hc7 (ent_f hc7.fn rfl) hn0 (show Hp S0 σ0 _ ([Ch.ro 0 (Sl alist_0 list_0 clist_0) list_0] ++ [Ch.bx n0 b3 0 [(Sl aat_2 at_2 cat_2)] [] [], Ch.bx n0 b1 0 [(I kind_1)] [] [], Ch.ro 0 (Sl alist_0 list_0 clist_0) list_0, Ch.ro 0 (Sl aat_2 at_2 cat_2) at_2]) from (H.sel' [2, 0, 1, 2, 3] rfl rfl))) wn ?_
 rintro _ σ10 ⟨_, ⟨a8, c9, rfl, rfl⟩, H, -⟩
 replace H : Hp S0 σ0 σ10 [Ch.own n0 0 (Sl a8 r5 c9) r5, Ch.bx n0 b3 0 [(Sl aat_2 at_2 cat_2)] [] [], Ch.bx n0 b1 0 [(I kind_1)] [] [], Ch.ro 0 (Sl alist_0 list_0 clist_0) list_0, Ch.ro 0 (Sl aat_2 at_2 cat_2) at_2] := H
 refine st (v := (Sl a8 r5 c9)) (rv_assign rfl) ?_
 refine w_end ?_
 refine q_then ?_
 refine c_seq ?_
 refine rg ?_
 refine st (v := (Sl a8 r5 c9)) (rv_move rfl) ?_
 refine st (v := (.func (.func 112) #[] #[(pt b1 0), (pt b3 0)])) (rv_makeFunc (vs := [(pt b1 0), (pt b3 0)]) rfl) ?_
 replace H := H.ownLow 0 0 0 rfl (Nat.zero_le _) (Nat.zero_le _)
 obtain ⟨r11, hx12, h'⟩ := bind_some h
 clear h
 have h := h'; clear h'
 have hc13 := c_slices_SortFunc_impl_Item_impl_Item__impl_sortByDistance_1 (ax_0 := a8) (cx_0 := c9) (locmp_1_0 := n0) (bcmp_1_0 := b1) (ocmp_1_0 := 0) (precmp_1_0 := []) (sufcmp_1_0 := []) (locmp_1_1 := n0) (bcmp_1_1 := b3) (ocmp_1_1 := 0) (precmp_1_1 := []) (sufcmp_1_1 := []) (acmp_1_1 := aat_2) (ccmp_1_1 := cat_2) hx12
 refine st_call (cx_call hc13 (ent_f hc13.fn rfl) hn0 (show Hp S0 σ0 _ ([Ch.own 0 0 (Sl a8 r5 c9) r5, Ch.bx n0 b1 0 [(I kind_1)] [] [], Ch.bx n0 b3 0 [(Sl aat_2 at_2 cat_2)] [] [], Ch.ro 0 (Sl aat_2 at_2 cat_2) at_2] ++ [Ch.ro 0 (Sl alist_0 list_0 clist_0) list_0, Ch.ro 0 (Sl aat_2 at_2 cat_2) at_2]) from (H.sel' [0, 2, 1, 4, 3, 4] rfl rfl))) wn ?_
 rintro _ σ15 ⟨_, ⟨rfl, rfl, hn14⟩, H, -⟩
 replace H : Hp S0 σ0 σ15 [Ch.own 0 0 (Sl a8 r11 c9) r11, Ch.bx n0 b1 0 [(I kind_1)] [] [], Ch.bx n0 b3 0 [(Sl aat_2 at_2 cat_2)] [] [], Ch.ro 0 (Sl alist_0 list_0 clist_0) list_0, Ch.ro 0 (Sl aat_2 at_2 cat_2) at_2] := H
 have hsl : (Sl a8 r5 c9) = (Sl a8 r11 c9) := sl_len hn14.symm
 try rw [hsl]
 try rw [hsl] at H
 clear hsl
 refine w_end ?_
 refine q_then ?_
 refine c_seq ?_
 refine rg ?_
 refine st (v := (Sl a8 r11 c9)) (rv_move rfl) ?_
 refine st (v := (Sl a8 r11 c9)) (rv_assign rfl) ?_
 refine w_end ?_
 refine q_then ?_
 refine c_ret ?_
 obtain rfl := Option.some.inj h
 exact fin_ret (v := (Sl a8 r11 c9)) (results_ok Try.results89 (res_tmp (v := (Sl a8 r11 c9)) rfl res_nil) rfl) ⟨a8, c9, rfl, rfl⟩ (H.sel' [0] rfl rfl)

theorem c_impl_growTree : ∀ (fuel : Nat) {list_0 : List (Int × (List Int) × Int)} {kind_1 : Int} {alist_0 : Option Addr} {clist_0 : Nat} {r : (Tr (Int × (List Int) × Int))} (h : M.impl_growTree fuel list_0 kind_1 = some r),
    Cal2 Try.prog 58 [(Sl alist_0 list_0 clist_0), (I kind_1)] [Ch.ro 0 (Sl alist_0 list_0 clist_0) list_0] (fun n0 v L => ∃ (az1 : Option Addr), v = (.pointer az1) ∧ L = [Ch.pr 0 (.pointer az1) r]) := by
 intro fuel
 induction fuel with
 | zero => intro _ _ _ _ r h; cases h
 | succ fuel ih =>
 ·intro list_0 kind_1 alist_0 clist_0 r h
  replace h : M.impl_growTree_F (M.impl_growTree fuel) list_0 kind_1 = some r := h
  refine cal2 (n := 54) Try.func58 rfl rfl rfl rfl ?_
  intro S0 σ0 n0 hn0 H
  unfold M.impl_growTree_F at h
  refine c_seq ?_
  refine rg ?_
  refine st (v := (.pointer none)) (rv_assign rfl) ?_
  refine w_end ?_
  refine q_then ?_
  refine c_seq ?_
  refine c_seq ?_
  refine rg ?_
  refine st (v := (Sl alist_0 list_0 clist_0)) (rv_move rfl) ?_
  refine st (v := (I (list_0.length : Int))) (rv_len Try.underlying27 rfl) ?_
  refine st (v := (B ((list_0.length : Int) == 0))) (rv_eql (a := (list_0.length : Int)) (b := 0) rfl rfl) ?_
  refine w_end ?_
  refine q_then ?_
  refine cd_cond ((list_0.length : Int) == 0) rfl (fun hb1 => ?_) (fun hb1 => ?_)
  ·replace h := bif_t hb1 h
   refine c_seq ?_
   refine rg ?_
   refine st (v := (.pointer none)) (rv_assign rfl) ?_
   refine w_end ?_
   refine q_then ?_
   refine c_ret ?_
   refine q_then_r ?_
   replace H := H.nilPr (Int × (List Int) × Int) 0
   obtain rfl := Option.some.inj h
   exact fin_ret (v := (.pointer none)) (results_ok Try.results58 (res_tmp (v := (.pointer none)) rfl res_nil) rfl) ⟨none, rfl, rfl⟩ (H.sel' [0] rfl rfl)
  ·replace h := bif_f hb1 h
   refine c_skip ?_
   refine q_then ?_
   refine c_seq ?_
   refine rg ?_
   refine st (v := (Sl alist_0 list_0 clist_0)) (rv_move rfl) ?_
   obtain ⟨x2, hx3, h'⟩ := bind_some h
   clear h
   have h := h'; clear h'
   obtain ⟨b5, o6, hi4, -⟩ := (H.ro 0 rfl).ix hx3
   refine st (v := (pt b5 o6)) (rv_ix Try.underlying27 ti63 rfl rfl hi4) ?_
   obtain ⟨_, ⟨_, _, rfl, rfl, ⟨_, _, rfl, ⟨_, rfl, hR11⟩, rfl⟩⟩, hl7, hc8⟩ := ((H.ro 0 rfl).at hx3 hi4).cells
   obtain ⟨a9, c10, rfl⟩ := hR11.isSl
   replace H := H.add (d := Ch.ro 0 (Sl a9 x2.2.1 c10) x2.2.1) hR11 (fun _ h => h)
   clear hR11
   refine st (v := (.agg #[(I x2.1), (Sl a9 x2.2.1 c10), (I x2.2.2)])) (rv_load Try.underlying63 rfl ti63 rfl hl7 hc8) ?_
   refine st_ex (ex_alloc (cs := [(I 0), (.slice none 0 0), (I 0)]) H hn0 ti63 rfl) wn ?_
   rintro _ σ13 ⟨b12, rfl, H, -⟩
   refine st_exS (ex_store_box (k := 0) (cs := [(I 0), (.slice none 0 0), (I 0)]) (vs := [(I x2.1), (Sl a9 x2.2.1 c10), (I x2.2.2)]) (cs' := [(I x2.1), (Sl a9 x2.2.1 c10), (I x2.2.2)]) H (i := 0) rfl ti63 rfl rfl rfl rfl rfl (Nat.le_of_ble_eq_true rfl) (by simp [plain]) rfl) wn ?_
   rintro σ14 ⟨H, -⟩
   refine w_end ?_
   refine q_then ?_
   refine c_seq ?_
   refine rgP (σ := σ14) 5 (by kernel_rfl) (by kernel_rfl) (by kernel_rfl) ?_
   refine sq (v := (Sl alist_0 list_0 clist_0)) (rv_move rfl) ?_
   obtain ⟨xs15, hx16, h'⟩ := bind_some h
   clear h
   have h := h'; clear h'
   obtain ⟨a17, c18, hs19, hR20⟩ := (H.ro 2 rfl).slice hx16
   replace H := H.add (d := Ch.ro 0 (Sl a17 xs15 c18) xs15) hR20 (fun _ h => h)
   clear hR20
   refine sq (v := (Sl a17 xs15 c18)) (rv_slice_l Try.underlying27 ti63 hs19 rfl rfl) ?_
   refine sq (v := (I kind_1)) (rv_move rfl) ?_
   refine sq (v := (pt b12 1)) (rv_fieldAddr (off := 1) (ft := 23) Try.underlying63 rfl ti23 rfl rfl) ?_
   have hc21 := H.cell (u := (Sl a9 x2.2.1 c10)) (o' := 1) 1 1 rfl rfl rfl
   refine sq (v := (Sl a9 x2.2.1 c10)) (rv_load1 Try.underlying23 rfl rfl hc21) ?_
   refine sq_end ?_
   intro σ22 hm23
   replace H := H.grow (hm23.mono fun _ h => h); clear hm23
   obtain ⟨r24, hx25, h'⟩ := bind_some h
   clear h
   have h := h'; clear h'
   have hc26 := c_impl_sortByDistance (alist_0 := a17) (clist_0 := c18) (aat_2 := a9) (cat_2 := c10) hx25
   refine st_call (cx_call hc26 (ent_f hc26.fn rfl) hn0 (show Hp S0 σ0 _ ([Ch.ro 0 (Sl a17 xs15 c18) xs15, Ch.ro 0 (Sl a9 x2.2.1 c10) x2.2.1] ++ [Ch.ro 0 (Sl a17 xs15 c18) xs15, Ch.bx n0 b12 0 [(I x2.1), (Sl a9 x2.2.1 c10), (I x2.2.2)] [] [], Ch.ro 0 (Sl a9 x2.2.1 c10) x2.2.1, Ch.ro 0 (Sl alist_0 list_0 clist_0) list_0]) from (H.sel' [0, 2, 0, 1, 2, 3] rfl rfl))) wn ?_
   rintro _ σ29 ⟨_, ⟨a27, c28, rfl, rfl⟩, H, -⟩
   replace H : Hp S0 σ0 σ29 [Ch.own 0 0 (Sl a27 r24 c28) r24, Ch.ro 0 (Sl a17 xs15 c18) xs15, Ch.bx n0 b12 0 [(I x2.1), (Sl a9 x2.2.1 c10), (I x2.2.2)] [] [], Ch.ro 0 (Sl a9 x2.2.1 c10) x2.2.1, Ch.ro 0 (Sl alist_0 list_0 clist_0) list_0] := H
   refine st (v := (Sl a27 r24 c28)) (rv_assign rfl) ?_
   refine w_end ?_
   refine q_then ?_
   refine c_seq ?_
   refine rg ?_
   refine st (v := (Sl a27 r24 c28)) (rv_move rfl) ?_
   refine st (v := (I (r24.length : Int))) (rv_len Try.underlying27 rfl) ?_
   refine st (v := (I (w64 ((r24.length : Int) + 1)))) (rv_add (a := (r24.length : Int)) (b := 1) rfl rfl) ?_
   refine st (v := (I (w64 ((w64 ((r24.length : Int) + 1)).tdiv 2)))) (rv_quo (a := (w64 ((r24.length : Int) + 1))) (b := 2) rfl rfl (by decide)) ?_
   refine st (v := (I (w64 ((w64 ((r24.length : Int) + 1)).tdiv 2)))) (rv_assign rfl) ?_
   refine w_end ?_
   refine q_then ?_
   refine c_seq ?_
   obtain ⟨σ30, hw31, H, -⟩ := H.pub 0 rfl (Nat.le_refl _)
   rw [← hw31]; clear hw31
   have hc32 := H.cells 2 rfl
   obtain ⟨xs33, hx34, h'⟩ := bind_some h
   clear h
   have h := h'; clear h'
   obtain ⟨a35, c36, hs37, hR38⟩ := (H.ro 0 rfl).slice hx34
   replace H := H.add (d := Ch.ro 0 (Sl a35 xs33 c36) xs33) hR38 (fun _ h => h)
   clear hR38
   obtain ⟨r39, hx40, h'⟩ := bind_some h
   clear h
   have h := h'; clear h'
   have hc41 := ih (alist_0 := a35) (clist_0 := c36) hx40
   obtain ⟨xs43, hx44, h'⟩ := bind_some h
   clear h
   have h := h'; clear h'
   obtain ⟨a45, c46, hs47, hR48⟩ := (H.ro 1 rfl).slice hx44
   replace H := H.add (d := Ch.ro 0 (Sl a45 xs43 c46) xs43) hR48 (fun _ h => h)
   clear hR48
   obtain ⟨r49, hx50, h'⟩ := bind_some h
   clear h
   have h := h'; clear h'
   have hc51 := ih (alist_0 := a45) (clist_0 := c46) hx50
   have Hs := H
   refine rg2 (σ := σ30) (Nm := (Option Addr) × (Option Addr)) 11 [5, 10] [[false, false], [true, false], [true, true]] [[(0, 0), (1, 1), (2, 2)], [(0, 0)], [(0, 0)], [(0, 0)], [(0, 0)], [(0, 1)], [(0, 0), (1, 1)], [(0, 0), (1, 1)], [(0, 0), (1, 1)], [(0, 0), (1, 1)], [(1, 2)]] 2 [fun ((a42, a52) : (Option Addr) × (Option Addr)) => fun σm => Hp S0 σ0 σm [Ch.ro 0 (Sl a45 xs43 c46) xs43, Ch.ro 0 (Sl a35 xs33 c36) xs33, Ch.ro 0 (Sl a27 r24 c28) r24, Ch.ro 0 (Sl a17 xs15 c18) xs15, Ch.bx n0 b12 0 [(I x2.1), (Sl a9 x2.2.1 c10), (I x2.2.2)] [] [], Ch.ro 0 (Sl a9 x2.2.1 c10) x2.2.1, Ch.ro 0 (Sl alist_0 list_0 clist_0) list_0] ∧ Md (cov []) σ30 σm, fun ((a42, a52) : (Option Addr) × (Option Addr)) => fun σm => Hp S0 σ0 σm [Ch.pr 0 (.pointer a42) r39, Ch.ro 0 (Sl a45 xs43 c46) xs43, Ch.ro 0 (Sl a35 xs33 c36) xs33, Ch.ro 0 (Sl a27 r24 c28) r24, Ch.ro 0 (Sl a17 xs15 c18) xs15, Ch.bx n0 b12 0 [(I x2.1), (Sl a9 x2.2.1 c10), (I x2.2.2)] [] [], Ch.ro 0 (Sl a9 x2.2.1 c10) x2.2.1, Ch.ro 0 (Sl alist_0 list_0 clist_0) list_0] ∧ Md (cov []) σ30 σm, fun ((a42, a52) : (Option Addr) × (Option Addr)) => fun σm => Hp S0 σ0 σm [Ch.pr 0 (.pointer a52) r49, Ch.pr 0 (.pointer a42) r39, Ch.ro 0 (Sl a45 xs43 c46) xs43, Ch.ro 0 (Sl a35 xs33 c36) xs33, Ch.ro 0 (Sl a27 r24 c28) r24, Ch.ro 0 (Sl a17 xs15 c18) xs15, Ch.bx n0 b12 0 [(I x2.1), (Sl a9 x2.2.1 c10), (I x2.2.2)] [] [], Ch.ro 0 (Sl a9 x2.2.1 c10) x2.2.1, Ch.ro 0 (Sl alist_0 list_0 clist_0) list_0] ∧ Md (cov []) σ30 σm] [fun ((a42, a52) : (Option Addr) × (Option Addr)) => (.agg #[(I x2.1), (Sl a9 x2.2.1 c10), (I x2.2.2)]), fun ((a42, a52) : (Option Addr) × (Option Addr)) => (Sl a27 r24 c28), fun ((a42, a52) : (Option Addr) × (Option Addr)) => (I (w64 ((w64 ((r24.length : Int) + 1)).tdiv 2))), fun ((a42, a52) : (Option Addr) × (Option Addr)) => (Sl a35 xs33 c36), fun ((a42, a52) : (Option Addr) × (Option Addr)) => (I kind_1), fun ((a42, a52) : (Option Addr) × (Option Addr)) => (.pointer a42), fun ((a42, a52) : (Option Addr) × (Option Addr)) => (Sl a27 r24 c28), fun ((a42, a52) : (Option Addr) × (Option Addr)) => (I (w64 ((w64 ((r24.length : Int) + 1)).tdiv 2))), fun ((a42, a52) : (Option Addr) × (Option Addr)) => (Sl a45 xs43 c46), fun ((a42, a52) : (Option Addr) × (Option Addr)) => (I kind_1), fun ((a42, a52) : (Option Addr) × (Option Addr)) => (.pointer a52)] (none, none) (by kernel_rfl) (by kernel_rfl) ?_ ?_ ?_
   ·intro σm m0
    exact ⟨H.grow (m0.mono fun _ h => h.elim), m0⟩
   ·refine all_cons (by
      refine ⟨?_, ?_⟩
      ·rintro ⟨a42, a52⟩ ρ σm hJ hoff hdep
       have e5 := look_off (N := 54) (hoff 5 rfl) rfl
       obtain ⟨H, m⟩ := id hJ
       have hc32 := H.cells 4 rfl
       exact dp_v (v := (.agg #[(I x2.1), (Sl a9 x2.2.1 c10), (I x2.2.2)])) wn (rv_load (cs := [(I x2.1), (Sl a9 x2.2.1 c10), (I x2.2.2)]) Try.underlying63 rfl ti63 e5 rfl hc32) rfl hJ
      refine ⟨?_, ?_⟩
      ·rintro ⟨a42, a52⟩ ρ σm hJ hoff hdep
       have e5 := look_off (N := 54) (hoff 5 rfl) rfl
       obtain ⟨H, m⟩ := id hJ
       have hc32 := H.cells 5 rfl
       exact dp_v (v := (.agg #[(I x2.1), (Sl a9 x2.2.1 c10), (I x2.2.2)])) wn (rv_load (cs := [(I x2.1), (Sl a9 x2.2.1 c10), (I x2.2.2)]) Try.underlying63 rfl ti63 e5 rfl hc32) rfl hJ
      refine ⟨?_, ?_⟩
      ·rintro ⟨a42, a52⟩ ρ σm hJ hoff hdep
       have e5 := look_off (N := 54) (hoff 5 rfl) rfl
       obtain ⟨H, m⟩ := id hJ
       have hc32 := H.cells 6 rfl
       exact dp_v (v := (.agg #[(I x2.1), (Sl a9 x2.2.1 c10), (I x2.2.2)])) wn (rv_load (cs := [(I x2.1), (Sl a9 x2.2.1 c10), (I x2.2.2)]) Try.underlying63 rfl ti63 e5 rfl hc32) rfl hJ
      trivial) ?_
    refine ac rfl (by
      intro k; rintro ⟨a42, a52⟩ ρ σm hJ hoff hdep
      have e6 := look_off (N := 54) (hoff 6 rfl) rfl
      exact dp_v (v := (Sl a27 r24 c28)) wn (rv_move e6) rfl hJ) ?_
    refine ac rfl (by
      intro k; rintro ⟨a42, a52⟩ ρ σm hJ hoff hdep
      have e7 := look_off (N := 54) (hoff 7 rfl) rfl
      exact dp_v (v := (I (w64 ((w64 ((r24.length : Int) + 1)).tdiv 2)))) wn (rv_move e7) rfl hJ) ?_
    refine ac rfl (by
      intro k; rintro ⟨a42, a52⟩ ρ σm hJ hoff hdep
      have e26 := hdep 1 rfl rfl 26 rfl
      have e27 := hdep 2 rfl rfl 27 rfl
      exact dp_v (v := (Sl a35 xs33 c36)) wn (rv_slice_h Try.underlying27 ti63 hs37 e26 e27) rfl hJ) ?_
    refine ac rfl (by
      intro k; rintro ⟨a42, a52⟩ ρ σm hJ hoff hdep
      have e1 := look_off (N := 54) (hoff 1 rfl) rfl
      exact dp_v (v := (I kind_1)) wn (rv_move e1) rfl hJ) ?_
    refine all_cons (by
      refine ⟨?_, ?_⟩
      ·rintro ⟨a42, a52⟩ ρ σm hJ hoff hdep
       have e28 : look 54 ρ 28 = (Sl a35 xs33 c36) := hdep 3 rfl rfl 28 rfl
       have e29 : look 54 ρ 29 = (I kind_1) := hdep 4 rfl rfl 29 rfl
       obtain ⟨H, m⟩ := id hJ
       refine dp_cx wn (cx_call hc41 (ent_f hc41.fn (by show [look 54 ρ 28, look 54 ρ 29] = _; rw [e28, e29])) hn0 (show Hp S0 σ0 _ ([Ch.ro 0 (Sl a35 xs33 c36) xs33] ++ [Ch.ro 0 (Sl a45 xs43 c46) xs43, Ch.ro 0 (Sl a35 xs33 c36) xs33, Ch.ro 0 (Sl a27 r24 c28) r24, Ch.ro 0 (Sl a17 xs15 c18) xs15, Ch.bx n0 b12 0 [(I x2.1), (Sl a9 x2.2.1 c10), (I x2.2.2)] [] [], Ch.ro 0 (Sl a9 x2.2.1 c10) x2.2.1, Ch.ro 0 (Sl alist_0 list_0 clist_0) list_0]) from (H.sel' [1, 0, 1, 2, 3, 4, 5, 6] rfl rfl))) ?_
       rintro _ σq ⟨_, ⟨a42x, rfl, rfl⟩, H2, m2⟩
       exact ⟨_, (a42x, a52), rfl, rfl, ⟨H2.sel' [0, 1, 2, 3, 4, 5, 6, 7] rfl rfl, m.comp0 (m2.mono (fun i h => by simp [cov, Ch.ro] at h))⟩, stab [0, 1, 2, 3, 4, 6, 7, 8, 9] (by kernel_rfl) ⟨rfl, rfl, rfl, rfl, rfl, rfl, rfl, rfl, rfl, trivial⟩⟩
      trivial) ?_
    refine ac rfl (by
      intro k; rintro ⟨a42, a52⟩ ρ σm hJ hoff hdep
      have e6 := look_off (N := 54) (hoff 6 rfl) rfl
      exact dp_v (v := (Sl a27 r24 c28)) wn (rv_move e6) rfl hJ) ?_
    refine ac rfl (by
      intro k; rintro ⟨a42, a52⟩ ρ σm hJ hoff hdep
      have e7 := look_off (N := 54) (hoff 7 rfl) rfl
      exact dp_v (v := (I (w64 ((w64 ((r24.length : Int) + 1)).tdiv 2)))) wn (rv_move e7) rfl hJ) ?_
    refine ac rfl (by
      intro k; rintro ⟨a42, a52⟩ ρ σm hJ hoff hdep
      have e31 := hdep 6 rfl rfl 31 rfl
      have e32 := hdep 7 rfl rfl 32 rfl
      exact dp_v (v := (Sl a45 xs43 c46)) wn (rv_slice_l Try.underlying27 ti63 hs47 e31 e32) rfl hJ) ?_
    refine ac rfl (by
      intro k; rintro ⟨a42, a52⟩ ρ σm hJ hoff hdep
      have e1 := look_off (N := 54) (hoff 1 rfl) rfl
      exact dp_v (v := (I kind_1)) wn (rv_move e1) rfl hJ) ?_
    refine all_cons (by
      refine ⟨?_, ?_⟩
      ·rintro ⟨a42, a52⟩ ρ σm hJ hoff hdep
       have e33 : look 54 ρ 33 = (Sl a45 xs43 c46) := hdep 8 rfl rfl 33 rfl
       have e34 : look 54 ρ 34 = (I kind_1) := hdep 9 rfl rfl 34 rfl
       obtain ⟨H, m⟩ := id hJ
       refine dp_cx wn (cx_call hc51 (ent_f hc51.fn (by show [look 54 ρ 33, look 54 ρ 34] = _; rw [e33, e34])) hn0 (show Hp S0 σ0 _ ([Ch.ro 0 (Sl a45 xs43 c46) xs43] ++ [Ch.pr 0 (.pointer a42) r39, Ch.ro 0 (Sl a45 xs43 c46) xs43, Ch.ro 0 (Sl a35 xs33 c36) xs33, Ch.ro 0 (Sl a27 r24 c28) r24, Ch.ro 0 (Sl a17 xs15 c18) xs15, Ch.bx n0 b12 0 [(I x2.1), (Sl a9 x2.2.1 c10), (I x2.2.2)] [] [], Ch.ro 0 (Sl a9 x2.2.1 c10) x2.2.1, Ch.ro 0 (Sl alist_0 list_0 clist_0) list_0]) from (H.sel' [1, 0, 1, 2, 3, 4, 5, 6, 7] rfl rfl))) ?_
       rintro _ σq ⟨_, ⟨a52x, rfl, rfl⟩, H2, m2⟩
       exact ⟨_, (a42, a52x), rfl, rfl, ⟨H2.sel' [0, 1, 2, 3, 4, 5, 6, 7, 8] rfl rfl, m.comp0 (m2.mono (fun i h => by simp [cov, Ch.ro] at h))⟩, stab [0, 1, 2, 3, 4, 5, 6, 7, 8, 9] (by kernel_rfl) ⟨rfl, rfl, rfl, rfl, rfl, rfl, rfl, rfl, rfl, rfl, trivial⟩⟩
      trivial) ?_
    exact all_nil
   ·rintro ⟨a42, a52⟩ ρ σ53 hJ hoff hrel
    have e1 := look_off (N := 54) (hoff 1 rfl) rfl
    have e5 := look_off (N := 54) (hoff 5 rfl) rfl
    have e6 := look_off (N := 54) (hoff 6 rfl) rfl
    have e7 := look_off (N := 54) (hoff 7 rfl) rfl
    have e25 := hrel 0 rfl 25 rfl
    have e30 := hrel 5 rfl 30 rfl
    have e35 := hrel 10 rfl 35 rfl
    obtain ⟨H, -⟩ := (show Hp S0 σ0 σ53 [Ch.pr 0 (.pointer a52) r49, Ch.pr 0 (.pointer a42) r39, Ch.ro 0 (Sl a45 xs43 c46) xs43, Ch.ro 0 (Sl a35 xs33 c36) xs33, Ch.ro 0 (Sl a27 r24 c28) r24, Ch.ro 0 (Sl a17 xs15 c18) xs15, Ch.bx n0 b12 0 [(I x2.1), (Sl a9 x2.2.1 c10), (I x2.2.2)] [] [], Ch.ro 0 (Sl a9 x2.2.1 c10) x2.2.1, Ch.ro 0 (Sl alist_0 list_0 clist_0) list_0] ∧ Md (cov []) σ30 σ53 from hJ)
    clear hJ Hs
    rw [fr_lookL (L := [(1, (I kind_1)), (5, (pt b12 0)), (6, (Sl a27 r24 c28)), (7, (I (w64 ((w64 ((r24.length : Int) + 1)).tdiv 2)))), (25, (.agg #[(I x2.1), (Sl a9 x2.2.1 c10), (I x2.2.2)])), (30, (.pointer a42)), (35, (.pointer a52))]) ⟨e1, e5, e6, e7, e25, e30, e35, trivial⟩]
    clear hoff hrel e1 e5 e6 e7 e25 e30 e35
    refine st (v := (.agg #[(I x2.1), (Sl a9 x2.2.1 c10), (I x2.2.2), (I 0), (.pointer a42), (.pointer a52)])) (rv_build (ps := [(0, (.agg #[(I x2.1), (Sl a9 x2.2.1 c10), (I x2.2.2)])), (2, (.pointer a42)), (3, (.pointer a52))]) Try.underlying101 ti101 (bp101 Try.underlying101) rfl (by kernel_rfl)) ?_
    refine st_ex (ex_box (cs := [(I x2.1), (Sl a9 x2.2.1 c10), (I x2.2.2), (I 0), (.pointer a42), (.pointer a52)]) H hn0 rfl rfl) wn ?_
    rintro _ σ55 ⟨b54, rfl, H, -⟩
    replace H : Hp S0 σ0 σ55 [Ch.bx n0 b54 0 [(I x2.1), (Sl a9 x2.2.1 c10), (I x2.2.2), (I 0), (.pointer a42), (.pointer a52)] [] [], Ch.pr 0 (.pointer a52) r49, Ch.pr 0 (.pointer a42) r39, Ch.ro 0 (Sl a27 r24 c28) r24, Ch.bx n0 b12 0 [(I x2.1), (Sl a9 x2.2.1 c10), (I x2.2.2)] [] [], Ch.ro 0 (Sl a9 x2.2.1 c10) x2.2.1] := H.sel' [0, 1, 2, 5, 7, 8] rfl rfl
    refine st (v := (pt b54 0)) (rv_assign rfl) ?_
    refine w_end ?_
    refine q_then ?_
    refine c_seq ?_
    refine c_seq ?_
    refine rg ?_
    refine st (v := (I (w64 ((w64 ((r24.length : Int) + 1)).tdiv 2)))) (rv_move rfl) ?_
    refine st (v := (B (decide (0 < (w64 ((w64 ((r24.length : Int) + 1)).tdiv 2)))))) (rv_gtr (a := (w64 ((w64 ((r24.length : Int) + 1)).tdiv 2))) (b := 0) rfl rfl) ?_
    refine w_end ?_
    refine q_then ?_
    obtain ⟨o56, hj, h'⟩ := bind_some h
    clear h
    refine c_cut (fun e a w => e = .normal ∧ ∃ (ρ : Nat → Value) (σ : St) (aj1 : Option Addr) (cj2 : Nat) (aj3 : Option Addr) (aj4 : Option Addr), a = fr 54 (updL ρ [(8, (pt b54 0))]) ∧ w = σ.w ∧ Hp S0 σ0 σ [Ch.bx n0 b54 0 [(I o56.1.1), (Sl aj1 o56.1.2.1 cj2), (I o56.1.2.2), (I o56.2.1), (.pointer aj3), (.pointer aj4)] [] [], Ch.ro 0 (Sl aj1 o56.1.2.1 cj2) o56.1.2.1, Ch.pr 0 (.pointer aj3) o56.2.2.1, Ch.pr 0 (.pointer aj4) o56.2.2.2]) ?_ ?_
    ·clear h'
     rename _ = some o56 => h
     refine cd_cond (decide (0 < (w64 ((w64 ((r24.length : Int) + 1)).tdiv 2)))) rfl (fun hb57 => ?_) (fun hb57 => ?_)
     ·replace h := bif_t hb57 h
      have hc58 := H.cell (u := (Sl a9 x2.2.1 c10)) (o' := 1) 4 1 rfl rfl rfl
      obtain ⟨x59, hx60, h'⟩ := bind_some h
      clear h
      have h := h'; clear h'
      obtain ⟨b62, o63, hi61, -⟩ := (H.ro 3 rfl).ix hx60
      obtain ⟨v67, hc68, hR66⟩ := ((H.ro 3 rfl).at hx60 hi61).snd.fst.slice
      obtain ⟨a64, c65, rfl⟩ := hR66.isSl
      replace H := H.add (d := Ch.ro 0 (Sl a64 x59.2.1 c65) x59.2.1) hR66 (fun _ h => h)
      clear hR66
      obtain ⟨r69, hx70, h'⟩ := bind_some h
      clear h
      have h := h'; clear h'
      have hc71 := c_impl_Distance (aa_1 := a9) (ca_1 := c10) (ab_2 := a64) (cb_2 := c65) hx70
      have Hs := H
      refine rg2 (σ := σ55) (Nm := Unit) 11 [10] [[false], [true]] [[(0, 0), (1, 1)], [(0, 0)], [(0, 0)], [(0, 0)], [(0, 0)], [(0, 0)], [(0, 0)], [(0, 0)], [(0, 0)], [(0, 0)], [(0, 1)]] 1 [fun _ => fun σm => Hp S0 σ0 σm [Ch.ro 0 (Sl a64 x59.2.1 c65) x59.2.1, Ch.bx n0 b54 0 [(I x2.1), (Sl a9 x2.2.1 c10), (I x2.2.2), (I 0), (.pointer a42), (.pointer a52)] [] [], Ch.pr 0 (.pointer a52) r49, Ch.pr 0 (.pointer a42) r39, Ch.ro 0 (Sl a27 r24 c28) r24, Ch.bx n0 b12 0 [(I x2.1), (Sl a9 x2.2.1 c10), (I x2.2.2)] [] [], Ch.ro 0 (Sl a9 x2.2.1 c10) x2.2.1] ∧ Md (cov []) σ55 σm, fun _ => fun σm => Hp S0 σ0 σm [Ch.ro 0 (Sl a64 x59.2.1 c65) x59.2.1, Ch.bx n0 b54 0 [(I x2.1), (Sl a9 x2.2.1 c10), (I x2.2.2), (I 0), (.pointer a42), (.pointer a52)] [] [], Ch.pr 0 (.pointer a52) r49, Ch.pr 0 (.pointer a42) r39, Ch.ro 0 (Sl a27 r24 c28) r24, Ch.bx n0 b12 0 [(I x2.1), (Sl a9 x2.2.1 c10), (I x2.2.2)] [] [], Ch.ro 0 (Sl a9 x2.2.1 c10) x2.2.1] ∧ Md (cov []) σ55 σm] [fun _ => (pt b54 0), fun _ => (I kind_1), fun _ => (pt b12 1), fun _ => (Sl a9 x2.2.1 c10), fun _ => (Sl a27 r24 c28), fun _ => (I (w64 ((w64 ((r24.length : Int) + 1)).tdiv 2))), fun _ => (I (w64 ((w64 ((w64 ((r24.length : Int) + 1)).tdiv 2)) - 1))), fun _ => (pt b62 o63), fun _ => (pt b62 (o63 + 1)), fun _ => (Sl a64 x59.2.1 c65), fun _ => (I r69)] () (by kernel_rfl) (by kernel_rfl) ?_ ?_ ?_
      ·intro σm m0
       exact ⟨H.grow (m0.mono fun _ h => h.elim), m0⟩
      ·refine ac rfl (by
         intro k _nm ρ σm hJ hoff hdep
         have e8 := look_off (N := 54) (hoff 8 rfl) rfl
         exact dp_v (v := (pt b54 0)) wn (rv_move e8) rfl hJ) ?_
       refine ac rfl (by
         intro k _nm ρ σm hJ hoff hdep
         have e1 := look_off (N := 54) (hoff 1 rfl) rfl
         exact dp_v (v := (I kind_1)) wn (rv_move e1) rfl hJ) ?_
       refine ac rfl (by
         intro k _nm ρ σm hJ hoff hdep
         have e5 := look_off (N := 54) (hoff 5 rfl) rfl
         exact dp_v (v := (pt b12 1)) wn (rv_fieldAddr (off := 1) (ft := 23) Try.underlying63 rfl ti23 rfl e5) rfl hJ) ?_
       refine all_cons (by
         refine ⟨?_, ?_⟩
         ·intro _nm ρ σm hJ hoff hdep
          have e42 := hdep 2 rfl rfl 42 rfl
          obtain ⟨H, m⟩ := id hJ
          have hc58 := H.cell (u := (Sl a9 x2.2.1 c10)) (o' := 1) 5 1 rfl rfl rfl
          exact dp_v (v := (Sl a9 x2.2.1 c10)) wn (rv_load1 Try.underlying23 rfl e42 hc58) rfl hJ
         trivial) ?_
       refine ac rfl (by
         intro k _nm ρ σm hJ hoff hdep
         have e6 := look_off (N := 54) (hoff 6 rfl) rfl
         exact dp_v (v := (Sl a27 r24 c28)) wn (rv_move e6) rfl hJ) ?_
       refine ac rfl (by
         intro k _nm ρ σm hJ hoff hdep
         have e7 := look_off (N := 54) (hoff 7 rfl) rfl
         exact dp_v (v := (I (w64 ((w64 ((r24.length : Int) + 1)).tdiv 2)))) wn (rv_move e7) rfl hJ) ?_
       refine ac rfl (by
         intro k _nm ρ σm hJ hoff hdep
         have e45 := hdep 5 rfl rfl 45 rfl
         exact dp_v (v := (I (w64 ((w64 ((w64 ((r24.length : Int) + 1)).tdiv 2)) - 1)))) wn (rv_sub (a := (w64 ((w64 ((r24.length : Int) + 1)).tdiv 2))) (b := 1) e45 rfl) rfl hJ) ?_
       refine ac rfl (by
         intro k _nm ρ σm hJ hoff hdep
         have e44 := hdep 4 rfl rfl 44 rfl
         have e46 := hdep 6 rfl rfl 46 rfl
         exact dp_v (v := (pt b62 o63)) wn (rv_ix Try.underlying27 ti63 e44 e46 hi61) rfl hJ) ?_
       refine ac rfl (by
         intro k _nm ρ σm hJ hoff hdep
         have e47 := hdep 7 rfl rfl 47 rfl
         exact dp_v (v := (pt b62 (o63 + 1))) wn (rv_fieldAddr (off := 1) (ft := 23) Try.underlying63 rfl ti23 rfl e47) rfl hJ) ?_
       refine all_cons (by
         refine ⟨?_, ?_⟩
         ·intro _nm ρ σm hJ hoff hdep
          have e48 := hdep 8 rfl rfl 48 rfl
          obtain ⟨H, m⟩ := id hJ
          replace hc68 := (Hs.ro 4 rfl).hmd hx60 hi61 (k := 1) (by decide) hc68 m
          exact dp_v (v := (Sl a64 x59.2.1 c65)) wn (rv_load1 Try.underlying23 rfl e48 hc68) rfl hJ
         trivial) ?_
       refine all_cons (by
         refine ⟨?_, ?_⟩
         ·intro _nm ρ σm hJ hoff hdep
          have e41 : look 54 ρ 41 = (I kind_1) := hdep 1 rfl rfl 41 rfl
          have e43 : look 54 ρ 43 = (Sl a9 x2.2.1 c10) := hdep 3 rfl rfl 43 rfl
          have e49 : look 54 ρ 49 = (Sl a64 x59.2.1 c65) := hdep 9 rfl rfl 49 rfl
          obtain ⟨H, m⟩ := id hJ
          refine dp_cx wn (cx_call hc71 (ent_f hc71.fn (by show [look 54 ρ 41, look 54 ρ 43, look 54 ρ 49] = _; rw [e41, e43, e49])) hn0 (show Hp S0 σ0 _ ([Ch.ro 0 (Sl a9 x2.2.1 c10) x2.2.1, Ch.ro 0 (Sl a64 x59.2.1 c65) x59.2.1] ++ [Ch.ro 0 (Sl a64 x59.2.1 c65) x59.2.1, Ch.bx n0 b54 0 [(I x2.1), (Sl a9 x2.2.1 c10), (I x2.2.2), (I 0), (.pointer a42), (.pointer a52)] [] [], Ch.pr 0 (.pointer a52) r49, Ch.pr 0 (.pointer a42) r39, Ch.ro 0 (Sl a27 r24 c28) r24, Ch.bx n0 b12 0 [(I x2.1), (Sl a9 x2.2.1 c10), (I x2.2.2)] [] [], Ch.ro 0 (Sl a9 x2.2.1 c10) x2.2.1]) from (H.sel' [6, 0, 0, 1, 2, 3, 4, 5, 6] rfl rfl))) ?_
          rintro _ σq ⟨_, ⟨rfl, rfl⟩, H2, m2⟩
          exact ⟨_, (), rfl, rfl, ⟨H2.sel' [0, 1, 2, 3, 4, 5, 6] rfl rfl, m.comp0 (m2.mono (fun i h => by simp [cov, Ch.ro] at h))⟩, stab [0, 1, 2, 3, 4, 5, 6, 7, 8, 9] (by kernel_rfl) ⟨rfl, rfl, rfl, rfl, rfl, rfl, rfl, rfl, rfl, rfl, trivial⟩⟩
         trivial) ?_
       exact all_nil
      ·intro _nm ρ σ72 hJ hoff hrel
       have e8 := look_off (N := 54) (hoff 8 rfl) rfl
       have e40 := hrel 0 rfl 40 rfl
       have e50 := hrel 10 rfl 50 rfl
       obtain ⟨H, -⟩ := (show Hp S0 σ0 σ72 [Ch.ro 0 (Sl a64 x59.2.1 c65) x59.2.1, Ch.bx n0 b54 0 [(I x2.1), (Sl a9 x2.2.1 c10), (I x2.2.2), (I 0), (.pointer a42), (.pointer a52)] [] [], Ch.pr 0 (.pointer a52) r49, Ch.pr 0 (.pointer a42) r39, Ch.ro 0 (Sl a27 r24 c28) r24, Ch.bx n0 b12 0 [(I x2.1), (Sl a9 x2.2.1 c10), (I x2.2.2)] [] [], Ch.ro 0 (Sl a9 x2.2.1 c10) x2.2.1] ∧ Md (cov []) σ55 σ72 from hJ)
       clear hJ Hs
       rw [fr_lookL (L := [(8, (pt b54 0)), (40, (pt b54 0)), (50, (I r69))]) ⟨e8, e40, e50, trivial⟩]
       clear hoff hrel e8 e40 e50
       refine st (v := (pt b54 0)) (rv_nilCheck rfl) ?_
       refine st (v := (pt b54 3)) (rv_fieldAddr (off := 3) (ft := 3) Try.underlying101 rfl ti3 rfl rfl) ?_
       refine st_exS (ex_store_box (k := 3) (cs := [(I x2.1), (Sl a9 x2.2.1 c10), (I x2.2.2), (I 0), (.pointer a42), (.pointer a52)]) (vs := [(I r69)]) (cs' := [(I x2.1), (Sl a9 x2.2.1 c10), (I x2.2.2), (I r69), (.pointer a42), (.pointer a52)]) H (i := 1) rfl ti3 rfl rfl rfl rfl rfl (Nat.le_of_ble_eq_true rfl) (by simp [plain]) rfl) wn ?_
       rintro σ73 ⟨H, -⟩
       refine w_end ?_
       obtain rfl := Option.some.inj h
       exact ⟨rfl, _, σ73, a9, c10, a42, a52, fr_join ⟨rfl, trivial⟩, rfl, H.sel' [0, 6, 3, 2] rfl rfl⟩
     ·replace h := bif_f hb57 h
      refine c_skip ?_
      obtain rfl := Option.some.inj h
      exact ⟨rfl, _, σ55, a9, c10, a42, a52, fr_join ⟨rfl, trivial⟩, rfl, H.sel' [0, 5, 2, 1] rfl rfl⟩
    ·clear hj
     have h := h'
     clear h' H
     rintro e a w ⟨rfl, ρ, σ74, a75, c76, a77, a78, rfl, rfl, H⟩
     refine q_then ?_
     refine c_seq ?_
     refine rg ?_
     refine st (v := (pt b54 0)) (rv_move rfl) ?_
     refine st (v := (pt b54 0)) (rv_assign rfl) ?_
     refine w_end ?_
     refine q_then ?_
     refine c_ret ?_
     have hp81 : Rp.rp 0 σ74 [(I o56.1.1), (Sl a75 o56.1.2.1 c76), (I o56.1.2.2), (I o56.2.1), (.pointer a77), (.pointer a78)] (((o56.1.1, o56.1.2.1, o56.1.2.2), o56.2.1, o56.2.2.1, o56.2.2.2) : (Int × (List Int) × Int) × Int × (Tr (Int × (List Int) × Int)) × (Tr (Int × (List Int) × Int))) := ⟨[(I o56.1.1), (Sl a75 o56.1.2.1 c76), (I o56.1.2.2)], [(I o56.2.1), (.pointer a77), (.pointer a78)], rfl, ⟨[(I o56.1.1)], [(Sl a75 o56.1.2.1 c76), (I o56.1.2.2)], rfl, rfl, ⟨[(Sl a75 o56.1.2.1 c76)], [(I o56.1.2.2)], rfl, ⟨_, rfl, (H.ro 1 rfl)⟩, rfl⟩⟩, ⟨[(I o56.2.1)], [(.pointer a77), (.pointer a78)], rfl, rfl, ⟨[(.pointer a77)], [(.pointer a78)], rfl, ⟨_, rfl, (H.pr 2 rfl)⟩, ⟨_, rfl, (H.pr 3 rfl)⟩⟩⟩⟩
     obtain ⟨σ79, hw80, H, -⟩ := H.pubTr 0 rfl (Nat.zero_le _) hp81
     rw [← hw80]; clear hw80
     obtain rfl := Option.some.inj h
     exact fin_ret (v := (.pointer (some ⟨b54, 0, none⟩))) (results_ok Try.results58 (res_tmp (v := (.pointer (some ⟨b54, 0, none⟩))) rfl res_nil) rfl) ⟨(some ⟨b54, 0, none⟩), rfl, rfl⟩ (H.sel' [0] rfl rfl)

theorem c_impl_branch_appendTo : ∀ (fuel : Nat) {b_0 : Tr (Int × (List Int) × Int)} {nodes_1 : List (Int × Int × Int × Int)} {ab_0 : Option Addr} {anodes_1 : Option Addr} {cnodes_1 : Nat} {r : (List (Int × Int × Int × Int))} (h : M.impl_branch_appendTo fuel b_0 nodes_1 = some r),
    Cal2 Try.prog 59 [(.pointer ab_0), (Sl anodes_1 nodes_1 cnodes_1)] [Ch.pr 0 (.pointer ab_0) b_0, Ch.own 0 0 (Sl anodes_1 nodes_1 cnodes_1) nodes_1] (fun n0 v L => ∃ (az1 : Option Addr), ∃ (cz2 : Nat), v = (Sl az1 r cz2) ∧ L = [Ch.own 0 n0 (Sl az1 r cz2) r]) := by
 intro fuel
 induction fuel with
 | zero => intro _ _ _ _ _ r h; cases h
 | succ fuel ih =>
 ·intro b_0 nodes_1 ab_0 anodes_1 cnodes_1 r h
  replace h : M.impl_branch_appendTo_F (M.impl_branch_appendTo fuel) b_0 nodes_1 = some r := h
  refine cal2 (n := 59) Try.func59 rfl rfl rfl rfl ?_
  intro S0 σ0 n0 hn0 H
  unfold M.impl_branch_appendTo_F at h
  refine c_seq ?_
  refine rg ?_
  refine st (v := (.slice none 0 0)) (rv_assign rfl) ?_
  refine w_end ?_
  refine q_then ?_
  refine c_seq ?_
  refine c_seq ?_
  refine rg ?_
  refine st (v := (.pointer ab_0)) (rv_move rfl) ?_
  refine st (v := (B b_0.isNil)) (rv_eqlNil Try.underlying72 (H.pr 0 rfl) rfl rfl) ?_
  refine w_end ?_
  refine q_then ?_
  refine cd_cond b_0.isNil rfl (fun hb1 => ?_) (fun hb1 => ?_)
  ·replace h := bif_t hb1 h
   refine c_seq ?_
   refine rg ?_
   refine st (v := (Sl anodes_1 nodes_1 cnodes_1)) (rv_move rfl) ?_
   refine st (v := (Sl anodes_1 nodes_1 cnodes_1)) (rv_assign rfl) ?_
   refine w_end ?_
   refine q_then ?_
   refine c_ret ?_
   refine q_then_r ?_
   replace H := H.ownSc 1 0 n0 rfl (Nat.le_refl _)
   obtain rfl := Option.some.inj h
   exact fin_ret (v := (Sl anodes_1 nodes_1 cnodes_1)) (results_ok Try.results59 (res_tmp (v := (Sl anodes_1 nodes_1 cnodes_1)) rfl res_nil) rfl) ⟨anodes_1, cnodes_1, rfl, rfl⟩ (H.sel' [0] rfl rfl)
  ·replace h := bif_f hb1 h
   refine c_skip ?_
   refine q_then ?_
   refine c_seq ?_
   refine rg ?_
   refine st (v := (Sl anodes_1 nodes_1 cnodes_1)) (rv_move rfl) ?_
   refine st (v := (I (nodes_1.length : Int))) (rv_len Try.underlying37 rfl) ?_
   refine st (v := (I (nodes_1.length : Int))) (rv_assign rfl) ?_
   refine w_end ?_
   refine q_then ?_
   refine c_seq ?_
   obtain ⟨x2, hx3, h'⟩ := bind_some h
   clear h
   have h := h'; clear h'
   obtain ⟨b5, o6, hi4⟩ := (H.pr 0 rfl).ex hx3
   have hc7 := ((H.pr 0 rfl).at hx3 hi4).fst.fst.int
   obtain ⟨x8, hx9, h'⟩ := bind_some h
   clear h
   have h := h'; clear h'
   obtain ⟨b11, o12, hi10⟩ := (H.pr 0 rfl).ex hx9
   have hc13 := ((H.pr 0 rfl).at hx9 hi10).snd.fst.int
   have Hs := H
   refine rg2 (σ := σ0) (Nm := (Nat)) 12 [11] [[false], [true]] [[(0, 0), (1, 1)], [(0, 0)], [(0, 0)], [(0, 0)], [(0, 0)], [(0, 0)], [(0, 0)], [(0, 0)], [(0, 0)], [(0, 0)], [(0, 0)], [(0, 1)]] 1 [fun (b14 : (Nat)) => fun σm => Hp S0 σ0 σm [Ch.pr 0 (.pointer ab_0) b_0, Ch.own 0 0 (Sl anodes_1 nodes_1 cnodes_1) nodes_1] ∧ Md (cov []) σ0 σm, fun (b14 : (Nat)) => fun σm => Hp S0 σ0 σm [Ch.own n0 n0 (Sl (some ⟨b14, 0, none⟩) ([(x2.1.1, x8.2.1, -1, -1)] : List (Int × Int × Int × Int)) 1) ([(x2.1.1, x8.2.1, -1, -1)] : List (Int × Int × Int × Int)), Ch.pr 0 (.pointer ab_0) b_0, Ch.own 0 0 (Sl anodes_1 nodes_1 cnodes_1) nodes_1] ∧ Md (cov []) σ0 σm] [fun (b14 : (Nat)) => (Sl anodes_1 nodes_1 cnodes_1), fun (b14 : (Nat)) => (.pointer ab_0), fun (b14 : (Nat)) => (pt b5 o6), fun (b14 : (Nat)) => (pt b5 (o6 + 0)), fun (b14 : (Nat)) => (pt b5 (o6 + 0)), fun (b14 : (Nat)) => (I x2.1.1), fun (b14 : (Nat)) => (.pointer ab_0), fun (b14 : (Nat)) => (pt b11 o12), fun (b14 : (Nat)) => (pt b11 (o12 + 3)), fun (b14 : (Nat)) => (I x8.2.1), fun (b14 : (Nat)) => (.agg #[(I x2.1.1), (I x8.2.1), (I (-1)), (I (-1))]), fun (b14 : (Nat)) => (Sl (some ⟨b14, 0, none⟩) ([(x2.1.1, x8.2.1, -1, -1)] : List (Int × Int × Int × Int)) 1)] (0) (by kernel_rfl) (by kernel_rfl) ?_ ?_ ?_
   ·intro σm m0
    exact ⟨H.grow (m0.mono fun _ h => h.elim), m0⟩
   ·refine ac rfl (by
      intro k b14 ρ σm hJ hoff hdep
      have e1 := look_off (N := 59) (hoff 1 rfl) rfl
      exact dp_v (v := (Sl anodes_1 nodes_1 cnodes_1)) wn (rv_move e1) rfl hJ) ?_
    refine ac rfl (by
      intro k b14 ρ σm hJ hoff hdep
      have e0 := look_off (N := 59) (hoff 0 rfl) rfl
      exact dp_v (v := (.pointer ab_0)) wn (rv_move e0) rfl hJ) ?_
    refine ac rfl (by
      intro k b14 ρ σm hJ hoff hdep
      have e12 := hdep 1 rfl rfl 12 rfl
      exact dp_v (v := (pt b5 o6)) wn (rv_nilCheckT hi4 e12) rfl hJ) ?_
    refine ac rfl (by
      intro k b14 ρ σm hJ hoff hdep
      have e13 := hdep 2 rfl rfl 13 rfl
      exact dp_v (v := (pt b5 (o6 + 0))) wn (rv_fieldAddr (off := 0) (ft := 63) Try.underlying101 rfl ti63 rfl e13) rfl hJ) ?_
    refine ac rfl (by
      intro k b14 ρ σm hJ hoff hdep
      have e14 := hdep 3 rfl rfl 14 rfl
      exact dp_v (v := (pt b5 (o6 + 0))) wn (rv_fieldAddr (off := 0) (ft := 3) Try.underlying63 rfl ti3 rfl e14) rfl hJ) ?_
    refine all_cons (by
      refine ⟨?_, ?_⟩
      ·intro b14 ρ σm hJ hoff hdep
       have e15 := hdep 4 rfl rfl 15 rfl
       obtain ⟨H, m⟩ := id hJ
       replace hc7 := (Hs.pr 0 rfl).hmd hx3 hi4 (k := 0) (by decide) hc7 m
       exact dp_v (v := (I x2.1.1)) wn (rv_load1 Try.underlying3 rfl e15 hc7) rfl hJ
      trivial) ?_
    refine ac rfl (by
      intro k b14 ρ σm hJ hoff hdep
      have e0 := look_off (N := 59) (hoff 0 rfl) rfl
      exact dp_v (v := (.pointer ab_0)) wn (rv_move e0) rfl hJ) ?_
    refine ac rfl (by
      intro k b14 ρ σm hJ hoff hdep
      have e17 := hdep 6 rfl rfl 17 rfl
      exact dp_v (v := (pt b11 o12)) wn (rv_nilCheckT hi10 e17) rfl hJ) ?_
    refine ac rfl (by
      intro k b14 ρ σm hJ hoff hdep
      have e18 := hdep 7 rfl rfl 18 rfl
      exact dp_v (v := (pt b11 (o12 + 3))) wn (rv_fieldAddr (off := 3) (ft := 3) Try.underlying101 rfl ti3 rfl e18) rfl hJ) ?_
    refine all_cons (by
      refine ⟨?_, ?_⟩
      ·intro b14 ρ σm hJ hoff hdep
       have e19 := hdep 8 rfl rfl 19 rfl
       obtain ⟨H, m⟩ := id hJ
       replace hc13 := (Hs.pr 0 rfl).hmd hx9 hi10 (k := 3) (by decide) hc13 m
       exact dp_v (v := (I x8.2.1)) wn (rv_load1 Try.underlying3 rfl e19 hc13) rfl hJ
      trivial) ?_
    refine ac rfl (by
      intro k b14 ρ σm hJ hoff hdep
      have e16 : look 59 ρ 16 = (I x2.1.1) := hdep 5 rfl rfl 16 rfl
      have e20 : look 59 ρ 20 = (I x8.2.1) := hdep 9 rfl rfl 20 rfl
      exact dp_v (v := (.agg #[(I x2.1.1), (I x8.2.1), (I (-1)), (I (-1))])) wn (rv_build (ps := [(0, (I x2.1.1)), (1, (I x8.2.1)), (2, (I (-1))), (3, (I (-1)))]) Try.underlying77 ti77 (bp77 Try.underlying77) (by show [(0, look 59 ρ 16), (1, look 59 ρ 20), (2, (I (-1))), (3, (I (-1)))] = _; rw [e16, e20]) (by kernel_rfl)) rfl hJ) ?_
    refine all_cons (by
      refine ⟨?_, ?_⟩
      ·intro b14 ρ σm hJ hoff hdep
       have e21 : look 59 ρ 21 = (.agg #[(I x2.1.1), (I x8.2.1), (I (-1)), (I (-1))]) := hdep 10 rfl rfl 21 rfl
       obtain ⟨H, m⟩ := id hJ
       refine dp_ex wn (ex_buildSlice (el := n0) (xs := ([(x2.1.1, x8.2.1, -1, -1)] : List (Int × Int × Int × Int))) (ps := [(0, (.agg #[(I x2.1.1), (I x8.2.1), (I (-1)), (I (-1))]))]) (cs := [(I x2.1.1), (I x8.2.1), (I (-1)), (I (-1))]) H hn0 Try.underlying37 ti77 rfl (by show [(0, look 59 ρ 21)] = _; rw [e21]) (by kernel_rfl) (.cons (c := [(I x2.1.1), (I x8.2.1), (I (-1)), (I (-1))]) ⟨[(I x2.1.1)], [(I x8.2.1), (I (-1)), (I (-1))], rfl, rfl, ⟨[(I x8.2.1)], [(I (-1)), (I (-1))], rfl, rfl, ⟨[(I (-1))], [(I (-1))], rfl, rfl, rfl⟩⟩⟩ (.nil)) rfl) ?_
       rintro _ σq ⟨b14x, rfl, H2, m2⟩
       exact ⟨_, b14x, rfl, rfl, ⟨H2.sel' [0, 1, 2] rfl rfl, m.comp0 m2⟩, stab [0, 1, 2, 3, 4, 5, 6, 7, 8, 9, 10] (by kernel_rfl) ⟨rfl, rfl, rfl, rfl, rfl, rfl, rfl, rfl, rfl, rfl, rfl, trivial⟩⟩
      trivial) ?_
    exact all_nil
   ·intro b14 ρ σ15 hJ hoff hrel
    have e0 := look_off (N := 59) (hoff 0 rfl) rfl
    have e5 := look_off (N := 59) (hoff 5 rfl) rfl
    have e11 := hrel 0 rfl 11 rfl
    have e22 := hrel 11 rfl 22 rfl
    obtain ⟨H, -⟩ := (show Hp S0 σ0 σ15 [Ch.own n0 n0 (Sl (some ⟨b14, 0, none⟩) ([(x2.1.1, x8.2.1, -1, -1)] : List (Int × Int × Int × Int)) 1) ([(x2.1.1, x8.2.1, -1, -1)] : List (Int × Int × Int × Int)), Ch.pr 0 (.pointer ab_0) b_0, Ch.own 0 0 (Sl anodes_1 nodes_1 cnodes_1) nodes_1] ∧ Md (cov []) σ0 σ15 from hJ)
    clear hJ Hs
    rw [fr_lookL (L := [(0, (.pointer ab_0)), (5, (I (nodes_1.length : Int))), (11, (Sl anodes_1 nodes_1 cnodes_1)), (22, (Sl (some ⟨b14, 0, none⟩) ([(x2.1.1, x8.2.1, -1, -1)] : List (Int × Int × Int × Int)) 1))]) ⟨e0, e5, e11, e22, trivial⟩]
    clear hoff hrel e0 e5 e11 e22
    obtain ⟨xs16, hx17, h'⟩ := bind_some h
    clear h
    have h := h'; clear h'
    refine st_ex (ex_append H (i := 2) rfl Try.underlying37 Try.underlying37 ti77 rfl rfl (by decide) ((H.own 0 rfl).rd.sc) hx17 (Nat.zero_le _) rfl rfl) wn ?_
    rintro _ σ20 ⟨a18, c19, rfl, H, -⟩
    refine st (v := (Sl a18 xs16 c19)) (rv_assign rfl) ?_
    refine w_end ?_
    refine q_then ?_
    refine c_seq ?_
    refine c_seq ?_
    refine rg ?_
    refine st (v := (.pointer ab_0)) (rv_move rfl) ?_
    obtain ⟨x21, hx22, h'⟩ := bind_some h
    clear h
    have h := h'; clear h'
    obtain ⟨b24, o25, hi23⟩ := (H.pr 2 rfl).ex hx22
    refine st (v := (pt b24 o25)) (rv_nilCheckT hi23 rfl) ?_
    refine st (v := (pt b24 (o25 + 4))) (rv_fieldAddr (off := 4) (ft := 72) Try.underlying101 rfl ti72 rfl rfl) ?_
    obtain ⟨v29, hc28, hR27⟩ := ((H.pr 2 rfl).at hx22 hi23).snd.snd.fst.tree
    obtain ⟨a26, rfl⟩ := hR27.isPtr
    replace H := H.add (d := Ch.pr 0 (.pointer a26) x21.2.2.1) hR27 (fun _ h => h)
    clear hR27
    refine st (v := (.pointer a26)) (rv_load1 Try.underlying72 rfl rfl hc28) ?_
    refine st (v := (B (!x21.2.2.1.isNil))) (rv_neqNil Try.underlying72 (H.pr 0 rfl) rfl rfl) ?_
    refine w_end ?_
    refine q_then ?_
    obtain ⟨o30, hj, h'⟩ := bind_some h
    clear h
    refine c_cut (fun e a w => e = .normal ∧ ∃ (ρ : Nat → Value) (σ : St) (aj1 : Option Addr) (cj2 : Nat), a = fr 59 (updL ρ [(0, (.pointer ab_0)), (1, (Sl aj1 o30 cj2)), (5, (I (nodes_1.length : Int)))]) ∧ w = σ.w ∧ Hp S0 σ0 σ [Ch.pr 0 (.pointer ab_0) b_0, Ch.own 0 0 (Sl aj1 o30 cj2) o30]) ?_ ?_
    ·clear h'
     rename _ = some o30 => h
     refine cd_cond (!x21.2.2.1.isNil) rfl (fun hb31 => ?_) (fun hb31 => ?_)
     ·replace h := bif_t hb31 h
      refine c_seq ?_
      refine rg ?_
      refine st (v := (Sl a18 xs16 c19)) (rv_move rfl) ?_
      refine st (v := (I (nodes_1.length : Int))) (rv_move rfl) ?_
      refine st (v := (Sl a18 xs16 c19)) (rv_move rfl) ?_
      refine st (v := (I (xs16.length : Int))) (rv_len Try.underlying37 rfl) ?_
      obtain ⟨x32, hx33, h'⟩ := bind_some h
      clear h
      have h := h'; clear h'
      obtain ⟨b35, o36, hi34, -⟩ := (H.own 1 rfl).ix hx33
      refine st (v := (pt b35 o36)) (rv_ix Try.underlying37 ti77 rfl rfl hi34) ?_
      refine st (v := (pt b35 (o36 + 2))) (rv_fieldAddr (off := 2) (ft := 3) Try.underlying77 rfl ti3 rfl rfl) ?_
      refine st_exS (ex_store_own (e' := (x32.1, x32.2.1, (xs16.length : Int), x32.2.2.2)) (vs := [(I (xs16.length : Int))]) (k := 2) H (i := 1) rfl ti3 hx33 hi34 rfl rfl rfl rfl rfl (Nat.le_of_ble_eq_true rfl) (by simp [plain]) (by rintro _ ⟨_, _, rfl, rfl, ⟨_, _, rfl, rfl, ⟨_, _, rfl, rfl, rfl⟩⟩⟩; exact ⟨[(I x32.1)], [(I x32.2.1), (I (xs16.length : Int)), (I x32.2.2.2)], rfl, rfl, ⟨[(I x32.2.1)], [(I (xs16.length : Int)), (I x32.2.2.2)], rfl, rfl, ⟨[(I (xs16.length : Int))], [(I x32.2.2.2)], rfl, rfl, rfl⟩⟩⟩)) wn ?_
      rintro σ37 ⟨H, -⟩
      have hsl : (Sl a18 xs16 c19) = (Sl a18 (xs16.set (nodes_1.length : Int).toNat (x32.1, x32.2.1, (xs16.length : Int), x32.2.2.2)) c19) := sl_len List.length_set.symm
      rw [hsl]; rw [hsl] at H; clear hsl
      refine w_end ?_
      refine q_then ?_
      refine rg ?_
      refine st (v := (.pointer ab_0)) (rv_move rfl) ?_
      obtain ⟨x38, hx39, h'⟩ := bind_some h
      clear h
      have h := h'; clear h'
      obtain ⟨b41, o42, hi40⟩ := (H.pr 3 rfl).ex hx39
      refine st (v := (pt b41 o42)) (rv_nilCheckT hi40 rfl) ?_
      refine st (v := (pt b41 (o42 + 4))) (rv_fieldAddr (off := 4) (ft := 72) Try.underlying101 rfl ti72 rfl rfl) ?_
      obtain ⟨v46, hc45, hR44⟩ := ((H.pr 3 rfl).at hx39 hi40).snd.snd.fst.tree
      obtain ⟨a43, rfl⟩ := hR44.isPtr
      replace H := H.add (d := Ch.pr 0 (.pointer a43) x38.2.2.1) hR44 (fun _ h => h)
      clear hR44
      refine st (v := (.pointer a43)) (rv_load1 Try.underlying72 rfl rfl hc45) ?_
      refine st (v := (Sl a18 (xs16.set (nodes_1.length : Int).toNat (x32.1, x32.2.1, (xs16.length : Int), x32.2.2.2)) c19)) (rv_move rfl) ?_
      obtain ⟨r47, hx48, h'⟩ := bind_some h
      clear h
      have h := h'; clear h'
      have hc49 := ih (ab_0 := a43) (anodes_1 := a18) (cnodes_1 := c19) hx48
      refine st_call (cx_call hc49 (ent_f hc49.fn rfl) hn0 (show Hp S0 σ0 _ ([Ch.pr 0 (.pointer a43) x38.2.2.1, Ch.own 0 0 (Sl a18 (xs16.set (nodes_1.length : Int).toNat (x32.1, x32.2.1, (xs16.length : Int), x32.2.2.2)) c19) (xs16.set (nodes_1.length : Int).toNat (x32.1, x32.2.1, (xs16.length : Int), x32.2.2.2))] ++ [Ch.pr 0 (.pointer a43) x38.2.2.1, Ch.pr 0 (.pointer a26) x21.2.2.1, Ch.own n0 n0 (Sl (some ⟨b14, 0, none⟩) ([(x2.1.1, x8.2.1, -1, -1)] : List (Int × Int × Int × Int)) 1) ([(x2.1.1, x8.2.1, -1, -1)] : List (Int × Int × Int × Int)), Ch.pr 0 (.pointer ab_0) b_0]) from (H.sel' [0, 1, 0, 2, 3, 4] rfl rfl))) wn ?_
      rintro _ σ52 ⟨_, ⟨a50, c51, rfl, rfl⟩, H, -⟩
      replace H : Hp S0 σ0 σ52 [Ch.own 0 n0 (Sl a50 r47 c51) r47, Ch.pr 0 (.pointer a43) x38.2.2.1, Ch.pr 0 (.pointer a26) x21.2.2.1, Ch.own n0 n0 (Sl (some ⟨b14, 0, none⟩) ([(x2.1.1, x8.2.1, -1, -1)] : List (Int × Int × Int × Int)) 1) ([(x2.1.1, x8.2.1, -1, -1)] : List (Int × Int × Int × Int)), Ch.pr 0 (.pointer ab_0) b_0] := H
      refine st (v := (Sl a50 r47 c51)) (rv_assign rfl) ?_
      refine w_end ?_
      replace H := H.ownSc 0 0 0 rfl (Nat.le_refl _)
      obtain rfl := Option.some.inj h
      exact ⟨rfl, _, σ52, a50, c51, fr_join ⟨rfl, rfl, rfl, trivial⟩, rfl, H.sel' [4, 0] rfl rfl⟩
     ·replace h := bif_f hb31 h
      refine c_skip ?_
      obtain rfl := Option.some.inj h
      exact ⟨rfl, _, σ20, a18, c19, fr_join ⟨rfl, rfl, rfl, trivial⟩, rfl, H.sel' [3, 1] rfl rfl⟩
    ·clear hj
     have h := h'
     clear h' H
     rintro e a w ⟨rfl, ρ, σ53, a54, c55, rfl, rfl, H⟩
     refine q_then ?_
     refine c_seq ?_
     refine c_seq ?_
     refine rg ?_
     refine st (v := (.pointer ab_0)) (rv_move rfl) ?_
     obtain ⟨x56, hx57, h'⟩ := bind_some h
     clear h
     have h := h'; clear h'
     obtain ⟨b59, o60, hi58⟩ := (H.pr 0 rfl).ex hx57
     refine st (v := (pt b59 o60)) (rv_nilCheckT hi58 rfl) ?_
     refine st (v := (pt b59 (o60 + 5))) (rv_fieldAddr (off := 5) (ft := 72) Try.underlying101 rfl ti72 rfl rfl) ?_
     obtain ⟨v64, hc63, hR62⟩ := ((H.pr 0 rfl).at hx57 hi58).snd.snd.snd.tree
     obtain ⟨a61, rfl⟩ := hR62.isPtr
     replace H := H.add (d := Ch.pr 0 (.pointer a61) x56.2.2.2) hR62 (fun _ h => h)
     clear hR62
     refine st (v := (.pointer a61)) (rv_load1 Try.underlying72 rfl rfl hc63) ?_
     refine st (v := (B (!x56.2.2.2.isNil))) (rv_neqNil Try.underlying72 (H.pr 0 rfl) rfl rfl) ?_
     refine w_end ?_
     refine q_then ?_
     obtain ⟨o65, hj, h'⟩ := bind_some h
     clear h
     refine c_cut (fun e a w => e = .normal ∧ ∃ (ρ : Nat → Value) (σ : St) (aj1 : Option Addr) (cj2 : Nat), a = fr 59 (updL ρ [(1, (Sl aj1 o65 cj2))]) ∧ w = σ.w ∧ Hp S0 σ0 σ [Ch.own 0 0 (Sl aj1 o65 cj2) o65]) ?_ ?_
     ·clear h'
      rename _ = some o65 => h
      refine cd_cond (!x56.2.2.2.isNil) rfl (fun hb66 => ?_) (fun hb66 => ?_)
      ·replace h := bif_t hb66 h
       refine c_seq ?_
       refine rg ?_
       refine st (v := (Sl a54 o30 c55)) (rv_move rfl) ?_
       refine st (v := (I (nodes_1.length : Int))) (rv_move rfl) ?_
       refine st (v := (Sl a54 o30 c55)) (rv_move rfl) ?_
       refine st (v := (I (o30.length : Int))) (rv_len Try.underlying37 rfl) ?_
       obtain ⟨x67, hx68, h'⟩ := bind_some h
       clear h
       have h := h'; clear h'
       obtain ⟨b70, o71, hi69, -⟩ := (H.own 2 rfl).ix hx68
       refine st (v := (pt b70 o71)) (rv_ix Try.underlying37 ti77 rfl rfl hi69) ?_
       refine st (v := (pt b70 (o71 + 3))) (rv_fieldAddr (off := 3) (ft := 3) Try.underlying77 rfl ti3 rfl rfl) ?_
       refine st_exS (ex_store_own (e' := (x67.1, x67.2.1, x67.2.2.1, (o30.length : Int))) (vs := [(I (o30.length : Int))]) (k := 3) H (i := 2) rfl ti3 hx68 hi69 rfl rfl rfl rfl rfl (Nat.le_of_ble_eq_true rfl) (by simp [plain]) (by rintro _ ⟨_, _, rfl, rfl, ⟨_, _, rfl, rfl, ⟨_, _, rfl, rfl, rfl⟩⟩⟩; exact ⟨[(I x67.1)], [(I x67.2.1), (I x67.2.2.1), (I (o30.length : Int))], rfl, rfl, ⟨[(I x67.2.1)], [(I x67.2.2.1), (I (o30.length : Int))], rfl, rfl, ⟨[(I x67.2.2.1)], [(I (o30.length : Int))], rfl, rfl, rfl⟩⟩⟩)) wn ?_
       rintro σ72 ⟨H, -⟩
       have hsl : (Sl a54 o30 c55) = (Sl a54 (o30.set (nodes_1.length : Int).toNat (x67.1, x67.2.1, x67.2.2.1, (o30.length : Int))) c55) := sl_len List.length_set.symm
       rw [hsl]; rw [hsl] at H; clear hsl
       refine w_end ?_
       refine q_then ?_
       refine rg ?_
       refine st (v := (.pointer ab_0)) (rv_move rfl) ?_
       obtain ⟨x73, hx74, h'⟩ := bind_some h
       clear h
       have h := h'; clear h'
       obtain ⟨b76, o77, hi75⟩ := (H.pr 2 rfl).ex hx74
       refine st (v := (pt b76 o77)) (rv_nilCheckT hi75 rfl) ?_
       refine st (v := (pt b76 (o77 + 5))) (rv_fieldAddr (off := 5) (ft := 72) Try.underlying101 rfl ti72 rfl rfl) ?_
       obtain ⟨v81, hc80, hR79⟩ := ((H.pr 2 rfl).at hx74 hi75).snd.snd.snd.tree
       obtain ⟨a78, rfl⟩ := hR79.isPtr
       replace H := H.add (d := Ch.pr 0 (.pointer a78) x73.2.2.2) hR79 (fun _ h => h)
       clear hR79
       refine st (v := (.pointer a78)) (rv_load1 Try.underlying72 rfl rfl hc80) ?_
       refine st (v := (Sl a54 (o30.set (nodes_1.length : Int).toNat (x67.1, x67.2.1, x67.2.2.1, (o30.length : Int))) c55)) (rv_move rfl) ?_
       obtain ⟨r82, hx83, h'⟩ := bind_some h
       clear h
       have h := h'; clear h'
       have hc84 := ih (ab_0 := a78) (anodes_1 := a54) (cnodes_1 := c55) hx83
       refine st_call (cx_call hc84 (ent_f hc84.fn rfl) hn0 (show Hp S0 σ0 _ ([Ch.pr 0 (.pointer a78) x73.2.2.2, Ch.own 0 0 (Sl a54 (o30.set (nodes_1.length : Int).toNat (x67.1, x67.2.1, x67.2.2.1, (o30.length : Int))) c55) (o30.set (nodes_1.length : Int).toNat (x67.1, x67.2.1, x67.2.2.1, (o30.length : Int)))] ++ [Ch.pr 0 (.pointer a78) x73.2.2.2, Ch.pr 0 (.pointer a61) x56.2.2.2, Ch.pr 0 (.pointer ab_0) b_0]) from (H.sel' [0, 1, 0, 2, 3] rfl rfl))) wn ?_
       rintro _ σ87 ⟨_, ⟨a85, c86, rfl, rfl⟩, H, -⟩
       replace H : Hp S0 σ0 σ87 [Ch.own 0 n0 (Sl a85 r82 c86) r82, Ch.pr 0 (.pointer a78) x73.2.2.2, Ch.pr 0 (.pointer a61) x56.2.2.2, Ch.pr 0 (.pointer ab_0) b_0] := H
       refine st (v := (Sl a85 r82 c86)) (rv_assign rfl) ?_
       refine w_end ?_
       replace H := H.ownSc 0 0 0 rfl (Nat.le_refl _)
       obtain rfl := Option.some.inj h
       exact ⟨rfl, _, σ87, a85, c86, fr_join ⟨rfl, trivial⟩, rfl, H.sel' [0] rfl rfl⟩
      ·replace h := bif_f hb66 h
       refine c_skip ?_
       obtain rfl := Option.some.inj h
       exact ⟨rfl, _, σ53, a54, c55, fr_join ⟨rfl, trivial⟩, rfl, H.sel' [2] rfl rfl⟩
     ·clear hj
      have h := h'
      clear h' H
      rintro e a w ⟨rfl, ρ, σ88, a89, c90, rfl, rfl, H⟩
      refine q_then ?_
      refine c_seq ?_
      refine rg ?_
      refine st (v := (Sl a89 o65 c90)) (rv_move rfl) ?_
      refine st (v := (Sl a89 o65 c90)) (rv_assign rfl) ?_
      refine w_end ?_
      refine q_then ?_
      refine c_ret ?_
      replace H := H.ownSc 0 0 n0 rfl (Nat.le_refl _)
      obtain rfl := Option.some.inj h
      exact fin_ret (v := (Sl a89 o65 c90)) (results_ok Try.results59 (res_tmp (v := (Sl a89 o65 c90)) rfl res_nil) rfl) ⟨a89, c90, rfl, rfl⟩ (H.sel' [0] rfl rfl)

theorem c_impl_BuildTree {list_0 : List (Int × (List Int) × Int)} {kind_1 : Int} {alist_0 : Option Addr} {clist_0 : Nat} {r : (List (Int × Int × Int × Int))} (h : M.impl_BuildTree list_0 kind_1 = some r) :
    Cal2 Try.prog 23 [(Sl alist_0 list_0 clist_0), (I kind_1)] [Ch.ro 0 (Sl alist_0 list_0 clist_0) list_0] (fun n0 v L => ∃ (az1 : Option Addr), ∃ (cz2 : Nat), v = (Sl az1 r cz2) ∧ L = [Ch.own 0 n0 (Sl az1 r cz2) r]) := by
 refine cal2 (n := 17) Try.func23 rfl rfl rfl rfl ?_
 intro S0 σ0 n0 hn0 H
 unfold M.impl_BuildTree at h
 refine c_seq ?_
 refine rg ?_
 refine st (v := (.slice none 0 0)) (rv_assign rfl) ?_
 refine w_end ?_
 refine q_then ?_
 refine c_seq ?_
 refine c_seq ?_
 obtain ⟨o1, hj, h'⟩ := bind_some h
 clear h
 refine c_cut (fun e a w => e = .normal ∧ ∃ (ρ : Nat → Value) (σ : St), a = fr 17 (updL ρ [(0, (Sl alist_0 list_0 clist_0)), (1, (I kind_1)), (12, (B o1))]) ∧ w = σ.w ∧ Hp S0 σ0 σ [Ch.ro 0 (Sl alist_0 list_0 clist_0) list_0]) ?_ ?_
 ·clear h'
  rename _ = some o1 => h
  refine rg ?_
  refine st (v := (Sl alist_0 list_0 clist_0)) (rv_move rfl) ?_
  obtain ⟨r2, hx3, h'⟩ := bind_some h
  clear h
  have h := h'; clear h'
  have hc4 := c_impl_ValidStore (alist_0 := alist_0) (clist_0 := clist_0) hx3
  refine st_call (cx_call hc4 (ent_f hc4.fn rfl) hn0 (show Hp S0 σ0 _ ([Ch.ro 0 (Sl alist_0 list_0 clist_0) list_0] ++ [Ch.ro 0 (Sl alist_0 list_0 clist_0) list_0]) from (H.sel' [0, 0] rfl rfl))) wn ?_
  rintro _ σ5 ⟨_, ⟨rfl, rfl⟩, H, -⟩
  replace H : Hp S0 σ0 σ5 [Ch.ro 0 (Sl alist_0 list_0 clist_0) list_0] := H
  refine st (v := (B (!r2))) (rv_not rfl) ?_
  refine st (v := (B (!r2))) (rv_move rfl) ?_
  rcases Bool.eq_false_or_eq_true (!r2) with hb6 | hb6
  ·replace h := bif_t hb6 h
   refine st_skip (congrArg some hb6) ?_
   refine st_skip (congrArg some hb6) ?_
   refine st_skip (congrArg some hb6) ?_
   refine st (v := (B true)) (rv_pick_t (congrArg B hb6) rfl) ?_
   refine w_end ?_
   obtain rfl := Option.some.inj h
   exact ⟨rfl, _, σ5, fr_join ⟨rfl, rfl, rfl, trivial⟩, rfl, H.sel' [0] rfl rfl⟩
  ·replace h := bif_f hb6 h
   refine st_g (v := (I kind_1)) (congrArg some hb6) (rv_move rfl) ?_
   obtain ⟨r7, hx8, h'⟩ := bind_some h
   clear h
   have h := h'; clear h'
   have hc9 := c_impl_validTreeKind hx8
   refine st_call (cx_call hc9 (ent_f hc9.fn rfl) hn0 (show Hp S0 σ0 _ ([] ++ [Ch.ro 0 (Sl alist_0 list_0 clist_0) list_0]) from (H.sel' [0] rfl rfl))) (wanted_yes rfl (by exact (congrArg some hb6))) ?_
   rintro _ σ10 ⟨_, ⟨rfl, rfl⟩, H, -⟩
   replace H : Hp S0 σ0 σ10 [Ch.ro 0 (Sl alist_0 list_0 clist_0) list_0] := H
   refine st_g (v := (B (!r7))) (congrArg some hb6) (rv_not rfl) ?_
   refine st (v := (B (!r7))) (rv_pick_f (congrArg B hb6) rfl) ?_
   refine w_end ?_
   obtain rfl := Option.some.inj h
   exact ⟨rfl, _, σ10, fr_join ⟨rfl, rfl, rfl, trivial⟩, rfl, H.sel' [0] rfl rfl⟩
 ·clear hj
  have h := h'
  clear h' H
  rintro e a w ⟨rfl, ρ, σ11, rfl, rfl, H⟩
  refine q_then ?_
  refine cd_cond o1 rfl (fun hb12 => ?_) (fun hb12 => ?_)
  ·replace h := bif_t hb12 h
   refine c_seq ?_
   refine rg ?_
   refine st (v := (.slice none 0 0)) (rv_assign rfl) ?_
   refine w_end ?_
   refine q_then ?_
   refine c_ret ?_
   refine q_then_r ?_
   replace H := H.nilOwn (Int × Int × Int × Int) 0 n0
   obtain rfl := Option.some.inj h
   exact fin_ret (v := (.slice none 0 0)) (results_ok Try.results23 (res_tmp (v := (.slice none 0 0)) rfl res_nil) rfl) ⟨none, 0, rfl, rfl⟩ (H.sel' [0] rfl rfl)
  ·replace h := bif_f hb12 h
   refine c_skip ?_
   refine q_then ?_
   refine c_seq ?_
   refine rg ?_
   refine st (v := (Sl alist_0 list_0 clist_0)) (rv_move rfl) ?_
   refine st (v := (I kind_1)) (rv_move rfl) ?_
   obtain ⟨r13, hx14, h'⟩ := bind_some h
   clear h
   have h := h'; clear h'
   have hc15 := c_impl_growTree 100 (alist_0 := alist_0) (clist_0 := clist_0) hx14
   refine st_call (cx_call hc15 (ent_f hc15.fn rfl) hn0 (show Hp S0 σ0 _ ([Ch.ro 0 (Sl alist_0 list_0 clist_0) list_0] ++ [Ch.ro 0 (Sl alist_0 list_0 clist_0) list_0]) from (H.sel' [0, 0] rfl rfl))) wn ?_
   rintro _ σ17 ⟨_, ⟨a16, rfl, rfl⟩, H, -⟩
   replace H : Hp S0 σ0 σ17 [Ch.pr 0 (.pointer a16) r13, Ch.ro 0 (Sl alist_0 list_0 clist_0) list_0] := H
   replace H := H.nilOwn (Int × Int × Int × Int) 0 0
   obtain ⟨r18, hx19, h'⟩ := bind_some h
   clear h
   have h := h'; clear h'
   have hc20 := c_impl_branch_appendTo 100 (ab_0 := a16) (anodes_1 := none) (cnodes_1 := 0) hx19
   refine st_call (cx_call hc20 (ent_f hc20.fn rfl) hn0 (show Hp S0 σ0 _ ([Ch.pr 0 (.pointer a16) r13, Ch.own 0 0 (Sl none ([] : List (Int × Int × Int × Int)) 0) ([] : List (Int × Int × Int × Int))] ++ [Ch.pr 0 (.pointer a16) r13, Ch.ro 0 (Sl alist_0 list_0 clist_0) list_0]) from (H.sel' [1, 0, 1, 2] rfl rfl))) wn ?_
   rintro _ σ23 ⟨_, ⟨a21, c22, rfl, rfl⟩, H, -⟩
   replace H : Hp S0 σ0 σ23 [Ch.own 0 n0 (Sl a21 r18 c22) r18, Ch.pr 0 (.pointer a16) r13, Ch.ro 0 (Sl alist_0 list_0 clist_0) list_0] := H
   refine st (v := (Sl a21 r18 c22)) (rv_assign rfl) ?_
   refine w_end ?_
   refine q_then ?_
   refine c_ret ?_
   obtain rfl := Option.some.inj h
   exact fin_ret (v := (Sl a21 r18 c22)) (results_ok Try.results23 (res_tmp (v := (Sl a21 r18 c22)) rfl res_nil) rfl) ⟨a21, c22, rfl, rfl⟩ (H.sel' [0] rfl rfl)

theorem c_laws_eqNode {a_0 : Int × Int × Int × Int} {b_1 : Int × Int × Int × Int}  {r : Bool} (h : M.laws_eqNode a_0 b_1 = some r) :
    Cal2 Try.prog 60 [(.agg #[(I a_0.1), (I a_0.2.1), (I a_0.2.2.1), (I a_0.2.2.2)]), (.agg #[(I b_1.1), (I b_1.2.1), (I b_1.2.2.1), (I b_1.2.2.2)])] [] (fun n0 v L => v = (B r) ∧ L = []) := by
 refine cal2 (n := 25) Try.func60 rfl rfl rfl rfl ?_
 intro S0 σ0 n0 hn0 H
 unfold M.laws_eqNode at h
 refine c_seq ?_
 refine rg ?_
 refine st_ex (ex_box (cs := [(I a_0.1), (I a_0.2.1), (I a_0.2.2.1), (I a_0.2.2.2)]) H hn0 rfl rfl) wn ?_
 rintro _ σ2 ⟨b1, rfl, H, -⟩
 refine st_ex (ex_box (cs := [(I b_1.1), (I b_1.2.1), (I b_1.2.2.1), (I b_1.2.2.2)]) H hn0 rfl rfl) wn ?_
 rintro _ σ4 ⟨b3, rfl, H, -⟩
 refine st (v := (B false)) (rv_assign rfl) ?_
 refine w_end ?_
 refine q_then ?_
 refine c_seq ?_
 refine c_seq ?_
 refine rg ?_
 refine st (v := (pt b1 0)) (rv_fieldAddr (off := 0) (ft := 3) Try.underlying77 rfl ti3 rfl rfl) ?_
 have hc5 := H.cell (u := (I a_0.1)) (o' := 0) 1 0 rfl rfl rfl
 refine st (v := (I a_0.1)) (rv_load1 Try.underlying3 rfl rfl hc5) ?_
 refine st (v := (pt b3 0)) (rv_fieldAddr (off := 0) (ft := 3) Try.underlying77 rfl ti3 rfl rfl) ?_
 have hc6 := H.cell (u := (I b_1.1)) (o' := 0) 0 0 rfl rfl rfl
 refine st (v := (I b_1.1)) (rv_load1 Try.underlying3 rfl rfl hc6) ?_
 refine st (v := (B (a_0.1 != b_1.1))) (rv_neq (a := a_0.1) (b := b_1.1) rfl rfl) ?_
 refine w_end ?_
 refine q_then ?_
 refine cd_cond (a_0.1 != b_1.1) rfl (fun hb7 => ?_) (fun hb7 => ?_)
 ·replace h := bif_t hb7 h
  refine c_seq ?_
  refine rg ?_
  refine st (v := (B false)) (rv_assign rfl) ?_
  refine w_end ?_
  refine q_then ?_
  refine c_ret ?_
  refine q_then_r ?_
  obtain rfl := Option.some.inj h
  exact fin_ret (v := (B false)) (results_ok Try.results60 (res_tmp (v := (B false)) rfl res_nil) rfl) ⟨rfl, rfl⟩ (H.sel' [] rfl rfl)
 ·replace h := bif_f hb7 h
  refine c_skip ?_
  refine q_then ?_
  refine c_seq ?_
  refine c_seq ?_
  refine rg ?_
  refine st (v := (pt b1 1)) (rv_fieldAddr (off := 1) (ft := 3) Try.underlying77 rfl ti3 rfl rfl) ?_
  have hc8 := H.cell (u := (I a_0.2.1)) (o' := 1) 1 1 rfl rfl rfl
  refine st (v := (I a_0.2.1)) (rv_load1 Try.underlying3 rfl rfl hc8) ?_
  refine st (v := (pt b3 1)) (rv_fieldAddr (off := 1) (ft := 3) Try.underlying77 rfl ti3 rfl rfl) ?_
  have hc9 := H.cell (u := (I b_1.2.1)) (o' := 1) 0 1 rfl rfl rfl
  refine st (v := (I b_1.2.1)) (rv_load1 Try.underlying3 rfl rfl hc9) ?_
  refine st (v := (B (a_0.2.1 != b_1.2.1))) (rv_neq (a := a_0.2.1) (b := b_1.2.1) rfl rfl) ?_
  refine w_end ?_
  refine q_then ?_
  refine cd_cond (a_0.2.1 != b_1.2.1) rfl (fun hb10 => ?_) (fun hb10 => ?_)
  ·replace h := bif_t hb10 h
   refine c_seq ?_
   refine rg ?_
   refine st (v := (B false)) (rv_assign rfl) ?_
   refine w_end ?_
   refine q_then ?_
   refine c_ret ?_
   refine q_then_r ?_
   obtain rfl := Option.some.inj h
   exact fin_ret (v := (B false)) (results_ok Try.results60 (res_tmp (v := (B false)) rfl res_nil) rfl) ⟨rfl, rfl⟩ (H.sel' [] rfl rfl)
  ·replace h := bif_f hb10 h
   refine c_skip ?_
   refine q_then ?_
   refine c_seq ?_
   refine c_seq ?_
   refine rg ?_
   refine st (v := (pt b1 2)) (rv_fieldAddr (off := 2) (ft := 3) Try.underlying77 rfl ti3 rfl rfl) ?_
   have hc11 := H.cell (u := (I a_0.2.2.1)) (o' := 2) 1 2 rfl rfl rfl
   refine st (v := (I a_0.2.2.1)) (rv_load1 Try.underlying3 rfl rfl hc11) ?_
   refine st (v := (pt b3 2)) (rv_fieldAddr (off := 2) (ft := 3) Try.underlying77 rfl ti3 rfl rfl) ?_
   have hc12 := H.cell (u := (I b_1.2.2.1)) (o' := 2) 0 2 rfl rfl rfl
   refine st (v := (I b_1.2.2.1)) (rv_load1 Try.underlying3 rfl rfl hc12) ?_
   refine st (v := (B (a_0.2.2.1 != b_1.2.2.1))) (rv_neq (a := a_0.2.2.1) (b := b_1.2.2.1) rfl rfl) ?_
   refine w_end ?_
   refine q_then ?_
   refine cd_cond (a_0.2.2.1 != b_1.2.2.1) rfl (fun hb13 => ?_) (fun hb13 => ?_)
   ·replace h := bif_t hb13 h
    refine c_seq ?_
    refine rg ?_
    refine st (v := (B false)) (rv_assign rfl) ?_
    refine w_end ?_
    refine q_then ?_
    refine c_ret ?_
    refine q_then_r ?_
    obtain rfl := Option.some.inj h
    exact fin_ret (v := (B false)) (results_ok Try.results60 (res_tmp (v := (B false)) rfl res_nil) rfl) ⟨rfl, rfl⟩ (H.sel' [] rfl rfl)
   ·replace h := bif_f hb13 h
    refine c_skip ?_
    refine q_then ?_
    refine c_seq ?_
    refine c_seq ?_
    refine rg ?_
    refine st (v := (pt b1 3)) (rv_fieldAddr (off := 3) (ft := 3) Try.underlying77 rfl ti3 rfl rfl) ?_
    have hc14 := H.cell (u := (I a_0.2.2.2)) (o' := 3) 1 3 rfl rfl rfl
    refine st (v := (I a_0.2.2.2)) (rv_load1 Try.underlying3 rfl rfl hc14) ?_
    refine st (v := (pt b3 3)) (rv_fieldAddr (off := 3) (ft := 3) Try.underlying77 rfl ti3 rfl rfl) ?_
    have hc15 := H.cell (u := (I b_1.2.2.2)) (o' := 3) 0 3 rfl rfl rfl
    refine st (v := (I b_1.2.2.2)) (rv_load1 Try.underlying3 rfl rfl hc15) ?_
    refine st (v := (B (a_0.2.2.2 != b_1.2.2.2))) (rv_neq (a := a_0.2.2.2) (b := b_1.2.2.2) rfl rfl) ?_
    refine w_end ?_
    refine q_then ?_
    refine cd_cond (a_0.2.2.2 != b_1.2.2.2) rfl (fun hb16 => ?_) (fun hb16 => ?_)
    ·replace h := bif_t hb16 h
     refine c_seq ?_
     refine rg ?_
     refine st (v := (B false)) (rv_assign rfl) ?_
     refine w_end ?_
     refine q_then ?_
     refine c_ret ?_
     refine q_then_r ?_
     obtain rfl := Option.some.inj h
     exact fin_ret (v := (B false)) (results_ok Try.results60 (res_tmp (v := (B false)) rfl res_nil) rfl) ⟨rfl, rfl⟩ (H.sel' [] rfl rfl)
    ·replace h := bif_f hb16 h
     refine c_skip ?_
     refine q_then ?_
     refine c_seq ?_
     refine rg ?_
     refine st (v := (B true)) (rv_assign rfl) ?_
     refine w_end ?_
     refine q_then ?_
     refine c_ret ?_
     obtain rfl := Option.some.inj h
     exact fin_ret (v := (B true)) (results_ok Try.results60 (res_tmp (v := (B true)) rfl res_nil) rfl) ⟨rfl, rfl⟩ (H.sel' [] rfl rfl)

theorem c_laws_eqNodeS {a_0 : List (Int × Int × Int × Int)} {b_1 : List (Int × Int × Int × Int)} {aa_0 : Option Addr} {ca_0 : Nat} {ab_1 : Option Addr} {cb_1 : Nat} {r : Bool} (h : M.laws_eqNodeS a_0 b_1 = some r) :
    Cal2 Try.prog 24 [(Sl aa_0 a_0 ca_0), (Sl ab_1 b_1 cb_1)] [Ch.ro 0 (Sl aa_0 a_0 ca_0) a_0, Ch.ro 0 (Sl ab_1 b_1 cb_1) b_1] (fun n0 v L => v = (B r) ∧ L = []) := by
 refine cal2 (n := 27) Try.func24 rfl rfl rfl rfl ?_
 intro S0 σ0 n0 hn0 H
 unfold M.laws_eqNodeS at h
 refine c_seq ?_
 refine rg ?_
 refine st (v := (B false)) (rv_assign rfl) ?_
 refine w_end ?_
 refine q_then ?_
 refine c_seq ?_
 refine c_seq ?_
 refine rg ?_
 refine st (v := (Sl aa_0 a_0 ca_0)) (rv_move rfl) ?_
 refine st (v := (I (a_0.length : Int))) (rv_len Try.underlying37 rfl) ?_
 refine st (v := (Sl ab_1 b_1 cb_1)) (rv_move rfl) ?_
 refine st (v := (I (b_1.length : Int))) (rv_len Try.underlying37 rfl) ?_
 refine st (v := (B ((a_0.length : Int) != (b_1.length : Int)))) (rv_neq (a := (a_0.length : Int)) (b := (b_1.length : Int)) rfl rfl) ?_
 refine w_end ?_
 refine q_then ?_
 refine cd_cond ((a_0.length : Int) != (b_1.length : Int)) rfl (fun hb1 => ?_) (fun hb1 => ?_)
 ·replace h := bif_t hb1 h
  refine c_seq ?_
  refine rg ?_
  refine st (v := (B false)) (rv_assign rfl) ?_
  refine w_end ?_
  refine q_then ?_
  refine c_ret ?_
  refine q_then_r ?_
  obtain rfl := Option.some.inj h
  exact fin_ret (v := (B false)) (results_ok Try.results24 (res_tmp (v := (B false)) rfl res_nil) rfl) ⟨rfl, rfl⟩ (H.sel' [] rfl rfl)
 ·replace h := bif_f hb1 h
  refine c_skip ?_
  refine q_then ?_
  refine c_seq ?_
  refine c_seq ?_
  refine rg ?_
  refine st (v := (I 0)) (rv_assign rfl) ?_
  refine w_end ?_
  refine q_then ?_
  obtain ⟨o2, hj, h'⟩ := bind_some h
  clear h
  refine c_cut (fun e a w => (∃ t, o2 = (.inl t) ∧ e = .normal ∧ ∃ (ρ : Nat → Value) (σ : St), a = fr 27 (updL ρ []) ∧ w = σ.w ∧ Hp S0 σ0 σ []) ∨ (∃ t, o2 = (.inr t) ∧ e = .ret ∧ ∃ (ρ : Nat → Value) (σ : St), a = fr 27 (updL ρ [(4, (B t))]) ∧ w = σ.w ∧ Hp S0 σ0 σ [])) ?_ ?_
  ·clear h'
   rename _ = some o2 => h
   refine c_blk ?_
   refine wp_loopM _ h (fun s3 a w => ∃ (ρ : Nat → Value) (σ : St), a = fr 27 (updL ρ [(0, (Sl aa_0 a_0 ca_0)), (1, (Sl ab_1 b_1 cb_1)), (5, (I s3))]) ∧ w = σ.w ∧ Hp S0 σ0 σ [Ch.ro 0 (Sl aa_0 a_0 ca_0) a_0, Ch.ro 0 (Sl ab_1 b_1 cb_1) b_1]) ⟨_, σ0, fr_join ⟨rfl, rfl, rfl, trivial⟩, rfl, H.sel' [0, 1] rfl rfl⟩ ?_
   clear h H
   rintro s3 a w o ⟨ρ, σ4, rfl, rfl, H⟩ h hres
   refine c_seq ?_
   refine c_seq ?_
   refine rg ?_
   refine st (v := (I s3)) (rv_move rfl) ?_
   refine st (v := (Sl aa_0 a_0 ca_0)) (rv_move rfl) ?_
   refine st (v := (I (a_0.length : Int))) (rv_len Try.underlying37 rfl) ?_
   refine st (v := (B (decide (s3 < (a_0.length : Int))))) (rv_lss (a := s3) (b := (a_0.length : Int)) rfl rfl) ?_
   refine w_end ?_
   refine q_then ?_
   refine cd_cond (decide (s3 < (a_0.length : Int))) rfl (fun hb5 => ?_) (fun hb5 => ?_)
   ·replace h := bif_t hb5 h
    refine c_skip ?_
    refine q_then ?_
    refine c_seq ?_
    refine c_blk ?_
    refine c_seq ?_
    refine rgP (σ := σ4) 8 (by kernel_rfl) (by kernel_rfl) (by kernel_rfl) ?_
    refine sq (v := (Sl aa_0 a_0 ca_0)) (rv_move rfl) ?_
    refine sq (v := (I s3)) (rv_move rfl) ?_
    obtain ⟨x6, hx7, h'⟩ := bind_some h
    clear h
    have h := h'; clear h'
    obtain ⟨b9, o10, hi8, -⟩ := (H.ro 0 rfl).ix hx7
    refine sq (v := (pt b9 o10)) (rv_ix Try.underlying37 ti77 rfl rfl hi8) ?_
    obtain ⟨_, ⟨_, _, rfl, rfl, ⟨_, _, rfl, rfl, ⟨_, _, rfl, rfl, rfl⟩⟩⟩, hl11, hc12⟩ := ((H.ro 0 rfl).at hx7 hi8).cells
    refine sq (v := (.agg #[(I x6.1), (I x6.2.1), (I x6.2.2.1), (I x6.2.2.2)])) (rv_load Try.underlying77 rfl ti77 rfl hl11 hc12) ?_
    refine sq (v := (Sl ab_1 b_1 cb_1)) (rv_move rfl) ?_
    refine sq (v := (I s3)) (rv_move rfl) ?_
    obtain ⟨x13, hx14, h'⟩ := bind_some h
    clear h
    have h := h'; clear h'
    obtain ⟨b16, o17, hi15, -⟩ := (H.ro 1 rfl).ix hx14
    refine sq (v := (pt b16 o17)) (rv_ix Try.underlying37 ti77 rfl rfl hi15) ?_
    obtain ⟨_, ⟨_, _, rfl, rfl, ⟨_, _, rfl, rfl, ⟨_, _, rfl, rfl, rfl⟩⟩⟩, hl18, hc19⟩ := ((H.ro 1 rfl).at hx14 hi15).cells
    refine sq (v := (.agg #[(I x13.1), (I x13.2.1), (I x13.2.2.1), (I x13.2.2.2)])) (rv_load Try.underlying77 rfl ti77 rfl hl18 hc19) ?_
    refine sq_end ?_
    intro σ20 hm21
    replace H := H.grow (hm21.mono fun _ h => h); clear hm21
    obtain ⟨r22, hx23, h'⟩ := bind_some h
    clear h
    have h := h'; clear h'
    have hc24 := c_laws_eqNode hx23
    refine st_call (cx_call hc24 (ent_f hc24.fn rfl) hn0 (show Hp S0 σ0 _ ([] ++ [Ch.ro 0 (Sl aa_0 a_0 ca_0) a_0, Ch.ro 0 (Sl ab_1 b_1 cb_1) b_1]) from (H.sel' [0, 1] rfl rfl))) wn ?_
    rintro _ σ25 ⟨_, ⟨rfl, rfl⟩, H, -⟩
    replace H : Hp S0 σ0 σ25 [Ch.ro 0 (Sl aa_0 a_0 ca_0) a_0, Ch.ro 0 (Sl ab_1 b_1 cb_1) b_1] := H
    refine st (v := (B (!r22))) (rv_not rfl) ?_
    refine w_end ?_
    refine q_then ?_
    refine cd_cond (!r22) rfl (fun hb26 => ?_) (fun hb26 => ?_)
    ·replace h := bif_t hb26 h
     refine c_seq ?_
     refine rg ?_
     refine st (v := (B false)) (rv_assign rfl) ?_
     refine w_end ?_
     refine q_then ?_
     refine c_ret ?_
     refine q_blk_r ?_
     refine q_then_r ?_
     refine q_then_r ?_
     refine q_blk_r ?_
     obtain rfl := Option.some.inj h
     obtain rfl := hres _ rfl
     exact .inr (⟨_, rfl, rfl, _, σ25, fr_join ⟨rfl, trivial⟩, rfl, H.sel' [] rfl rfl⟩)
    ·replace h := bif_f hb26 h
     refine c_skip ?_
     refine q_blk ?_
     refine q_then ?_
     refine rg ?_
     refine st (v := (I s3)) (rv_move rfl) ?_
     refine st (v := (I (w64 (s3 + 1)))) (rv_add (a := s3) (b := 1) rfl rfl) ?_
     refine st (v := (I (w64 (s3 + 1)))) (rv_assign rfl) ?_
     refine w_end ?_
     refine q_then ?_
     obtain rfl := Option.some.inj h
     exact ⟨_, rfl, _, σ25, fr_join ⟨rfl, rfl, rfl, trivial⟩, rfl, H.sel' [0, 1] rfl rfl⟩
   ·replace h := bif_f hb5 h
    refine c_exit ?_
    refine q_then_x ?_
    refine q_then_x ?_
    refine q_blk_hit ?_
    obtain rfl := Option.some.inj h
    obtain rfl := hres _ rfl
    exact .inl ⟨_, rfl, rfl, _, σ4, fr_join trivial, rfl, H.sel' [] rfl rfl⟩
  ·clear hj
   have h := h'
   clear h' H
   rintro e a w (⟨t27, rfl, rfl, ρ, σ28, rfl, rfl, H⟩ | ⟨t29, rfl, rfl, ρ, σ30, rfl, rfl, H⟩)
   ·replace h := selim_l h
    refine q_then ?_
    refine c_seq ?_
    refine rg ?_
    refine st (v := (B true)) (rv_assign rfl) ?_
    refine w_end ?_
    refine q_then ?_
    refine c_ret ?_
    obtain rfl := Option.some.inj h
    exact fin_ret (v := (B true)) (results_ok Try.results24 (res_tmp (v := (B true)) rfl res_nil) rfl) ⟨rfl, rfl⟩ (H.sel' [] rfl rfl)
   ·replace h := selim_r h
    refine q_then_r ?_
    obtain rfl := Option.some.inj h
    exact fin_ret (v := (B t29)) (results_ok Try.results24 (res_tmp (v := (B t29)) rfl res_nil) rfl) ⟨rfl, rfl⟩ (H.sel' [] rfl rfl)

theorem c_laws_markNodeS {a_0 : List (Int × Int × Int × Int)} {k_1 : Int} {aa_0 : Option Addr} {ca_0 : Nat} {r : Int × (List (Int × Int × Int × Int))} (h : M.laws_markNodeS a_0 k_1 = some r) :
    Cal2 Try.prog 25 [(Sl aa_0 a_0 ca_0), (I k_1)] [Ch.own 0 0 (Sl aa_0 a_0 ca_0) a_0] (fun n0 v L => v = (I r.1) ∧ L = [Ch.own 0 0 (Sl aa_0 r.2 ca_0) r.2] ∧ r.2.length = a_0.length) := by
 refine cal2 (n := 41) Try.func25 rfl rfl rfl rfl ?_
 intro S0 σ0 n0 hn0 H
 unfold M.laws_markNodeS at h
 refine c_seq ?_
 refine rg ?_
 refine st (v := (I 0)) (rv_assign rfl) ?_
 refine w_end ?_
 refine q_then ?_
 refine c_seq ?_
 refine c_seq ?_
 refine rg ?_
 refine st (v := (I 0)) (rv_assign rfl) ?_
 refine w_end ?_
 refine q_then ?_
 obtain ⟨o1, hj, h'⟩ := bind_some h
 clear h
 refine c_cut (fun e a w => e = .normal ∧ ∃ (ρ : Nat → Value) (σ : St), a = fr 41 (updL ρ [(0, (Sl aa_0 o1.1 ca_0)), (1, (I o1.2))]) ∧ w = σ.w ∧ Hp S0 σ0 σ [Ch.own 0 0 (Sl aa_0 o1.1 ca_0) o1.1] ∧ o1.1.length = a_0.length) ?_ ?_
 ·clear h'
  rename _ = some o1 => h
  refine c_blk ?_
  refine wp_loopM _ h (fun s2 a w => ∃ (ρ : Nat → Value) (σ : St), a = fr 41 (updL ρ [(0, (Sl aa_0 s2.1 ca_0)), (1, (I s2.2.1)), (5, (I s2.2.2))]) ∧ w = σ.w ∧ Hp S0 σ0 σ [Ch.own 0 0 (Sl aa_0 s2.1 ca_0) s2.1] ∧ s2.1.length = a_0.length) ⟨_, σ0, fr_join ⟨rfl, rfl, rfl, trivial⟩, rfl, H.sel' [0] rfl rfl, rfl⟩ ?_
  clear h H
  rintro s2 a w o ⟨ρ, σ3, rfl, rfl, H, hn4⟩ h hres
  refine c_seq ?_
  refine c_seq ?_
  refine rg ?_
  refine st (v := (I s2.2.2)) (rv_move rfl) ?_
  refine st (v := (Sl aa_0 s2.1 ca_0)) (rv_move rfl) ?_
  refine st (v := (I (s2.1.length : Int))) (rv_len Try.underlying37 rfl) ?_
  refine st (v := (B (decide (s2.2.2 < (s2.1.length : Int))))) (rv_lss (a := s2.2.2) (b := (s2.1.length : Int)) rfl rfl) ?_
  refine w_end ?_
  refine q_then ?_
  refine cd_cond (decide (s2.2.2 < (s2.1.length : Int))) rfl (fun hb5 => ?_) (fun hb5 => ?_)
  ·replace h := bif_t hb5 h
   refine c_skip ?_
   refine q_then ?_
   refine c_seq ?_
   refine c_blk ?_
   refine c_seq ?_
   refine rg ?_
   refine st (v := (Sl aa_0 s2.1 ca_0)) (rv_move rfl) ?_
   refine st (v := (I s2.2.2)) (rv_move rfl) ?_
   refine st (v := (I s2.2.1)) (rv_move rfl) ?_
   obtain ⟨x6, hx7, h'⟩ := bind_some h
   clear h
   have h := h'; clear h'
   obtain ⟨b9, o10, hi8, -⟩ := (H.own 0 rfl).ix hx7
   refine st (v := (pt b9 o10)) (rv_ix Try.underlying37 ti77 rfl rfl hi8) ?_
   refine st (v := (pt b9 (o10 + 0))) (rv_fieldAddr (off := 0) (ft := 3) Try.underlying77 rfl ti3 rfl rfl) ?_
   refine st_exS (ex_store_own (e' := (s2.2.1, x6.2.1, x6.2.2.1, x6.2.2.2)) (vs := [(I s2.2.1)]) (k := 0) H (i := 0) rfl ti3 hx7 hi8 rfl rfl rfl rfl rfl (Nat.le_of_ble_eq_true rfl) (by simp [plain]) (by rintro _ ⟨_, _, rfl, rfl, ⟨_, _, rfl, rfl, ⟨_, _, rfl, rfl, rfl⟩⟩⟩; exact ⟨[(I s2.2.1)], [(I x6.2.1), (I x6.2.2.1), (I x6.2.2.2)], rfl, rfl, ⟨[(I x6.2.1)], [(I x6.2.2.1), (I x6.2.2.2)], rfl, rfl, ⟨[(I x6.2.2.1)], [(I x6.2.2.2)], rfl, rfl, rfl⟩⟩⟩)) wn ?_
   rintro σ11 ⟨H, -⟩
   have hsl : (Sl aa_0 s2.1 ca_0) = (Sl aa_0 (s2.1.set s2.2.2.toNat (s2.2.1, x6.2.1, x6.2.2.1, x6.2.2.2)) ca_0) := sl_len List.length_set.symm
   rw [hsl]; rw [hsl] at H; clear hsl
   refine w_end ?_
   refine q_then ?_
   refine c_seq ?_
   refine rg ?_
   refine st (v := (I s2.2.1)) (rv_move rfl) ?_
   refine st (v := (I (w64 (s2.2.1 + 1)))) (rv_add (a := s2.2.1) (b := 1) rfl rfl) ?_
   refine st (v := (I (w64 (s2.2.1 + 1)))) (rv_assign rfl) ?_
   refine w_end ?_
   refine q_then ?_
   refine c_seq ?_
   refine rg ?_
   refine st (v := (Sl aa_0 (s2.1.set s2.2.2.toNat (s2.2.1, x6.2.1, x6.2.2.1, x6.2.2.2)) ca_0)) (rv_move rfl) ?_
   refine st (v := (I s2.2.2)) (rv_move rfl) ?_
   refine st (v := (I (w64 (s2.2.1 + 1)))) (rv_move rfl) ?_
   obtain ⟨x12, hx13, h'⟩ := bind_some h
   clear h
   have h := h'; clear h'
   obtain ⟨b15, o16, hi14, -⟩ := (H.own 0 rfl).ix hx13
   refine st (v := (pt b15 o16)) (rv_ix Try.underlying37 ti77 rfl rfl hi14) ?_
   refine st (v := (pt b15 (o16 + 1))) (rv_fieldAddr (off := 1) (ft := 3) Try.underlying77 rfl ti3 rfl rfl) ?_
   refine st_exS (ex_store_own (e' := (x12.1, w64 (s2.2.1 + 1), x12.2.2.1, x12.2.2.2)) (vs := [(I (w64 (s2.2.1 + 1)))]) (k := 1) H (i := 0) rfl ti3 hx13 hi14 rfl rfl rfl rfl rfl (Nat.le_of_ble_eq_true rfl) (by simp [plain]) (by rintro _ ⟨_, _, rfl, rfl, ⟨_, _, rfl, rfl, ⟨_, _, rfl, rfl, rfl⟩⟩⟩; exact ⟨[(I x12.1)], [(I (w64 (s2.2.1 + 1))), (I x12.2.2.1), (I x12.2.2.2)], rfl, rfl, ⟨[(I (w64 (s2.2.1 + 1)))], [(I x12.2.2.1), (I x12.2.2.2)], rfl, rfl, ⟨[(I x12.2.2.1)], [(I x12.2.2.2)], rfl, rfl, rfl⟩⟩⟩)) wn ?_
   rintro σ17 ⟨H, -⟩
   have hsl : (Sl aa_0 (s2.1.set s2.2.2.toNat (s2.2.1, x6.2.1, x6.2.2.1, x6.2.2.2)) ca_0) = (Sl aa_0 ((s2.1.set s2.2.2.toNat (s2.2.1, x6.2.1, x6.2.2.1, x6.2.2.2)).set s2.2.2.toNat (x12.1, w64 (s2.2.1 + 1), x12.2.2.1, x12.2.2.2)) ca_0) := sl_len List.length_set.symm
   rw [hsl]; rw [hsl] at H; clear hsl
   refine w_end ?_
   refine q_then ?_
   refine c_seq ?_
   refine rg ?_
   refine st (v := (I (w64 (s2.2.1 + 1)))) (rv_move rfl) ?_
   refine st (v := (I (w64 ((w64 (s2.2.1 + 1)) + 1)))) (rv_add (a := (w64 (s2.2.1 + 1))) (b := 1) rfl rfl) ?_
   refine st (v := (I (w64 ((w64 (s2.2.1 + 1)) + 1)))) (rv_assign rfl) ?_
   refine w_end ?_
   refine q_then ?_
   refine c_seq ?_
   refine rg ?_
   refine st (v := (Sl aa_0 ((s2.1.set s2.2.2.toNat (s2.2.1, x6.2.1, x6.2.2.1, x6.2.2.2)).set s2.2.2.toNat (x12.1, w64 (s2.2.1 + 1), x12.2.2.1, x12.2.2.2)) ca_0)) (rv_move rfl) ?_
   refine st (v := (I s2.2.2)) (rv_move rfl) ?_
   refine st (v := (I (w64 ((w64 (s2.2.1 + 1)) + 1)))) (rv_move rfl) ?_
   obtain ⟨x18, hx19, h'⟩ := bind_some h
   clear h
   have h := h'; clear h'
   obtain ⟨b21, o22, hi20, -⟩ := (H.own 0 rfl).ix hx19
   refine st (v := (pt b21 o22)) (rv_ix Try.underlying37 ti77 rfl rfl hi20) ?_
   refine st (v := (pt b21 (o22 + 2))) (rv_fieldAddr (off := 2) (ft := 3) Try.underlying77 rfl ti3 rfl rfl) ?_
   refine st_exS (ex_store_own (e' := (x18.1, x18.2.1, w64 ((w64 (s2.2.1 + 1)) + 1), x18.2.2.2)) (vs := [(I (w64 ((w64 (s2.2.1 + 1)) + 1)))]) (k := 2) H (i := 0) rfl ti3 hx19 hi20 rfl rfl rfl rfl rfl (Nat.le_of_ble_eq_true rfl) (by simp [plain]) (by rintro _ ⟨_, _, rfl, rfl, ⟨_, _, rfl, rfl, ⟨_, _, rfl, rfl, rfl⟩⟩⟩; exact ⟨[(I x18.1)], [(I x18.2.1), (I (w64 ((w64 (s2.2.1 + 1)) + 1))), (I x18.2.2.2)], rfl, rfl, ⟨[(I x18.2.1)], [(I (w64 ((w64 (s2.2.1 + 1)) + 1))), (I x18.2.2.2)], rfl, rfl, ⟨[(I (w64 ((w64 (s2.2.1 + 1)) + 1)))], [(I x18.2.2.2)], rfl, rfl, rfl⟩⟩⟩)) wn ?_
   rintro σ23 ⟨H, -⟩
   have hsl : (Sl aa_0 ((s2.1.set s2.2.2.toNat (s2.2.1, x6.2.1, x6.2.2.1, x6.2.2.2)).set s2.2.2.toNat (x12.1, w64 (s2.2.1 + 1), x12.2.2.1, x12.2.2.2)) ca_0) = (Sl aa_0 (((s2.1.set s2.2.2.toNat (s2.2.1, x6.2.1, x6.2.2.1, x6.2.2.2)).set s2.2.2.toNat (x12.1, w64 (s2.2.1 + 1), x12.2.2.1, x12.2.2.2)).set s2.2.2.toNat (x18.1, x18.2.1, w64 ((w64 (s2.2.1 + 1)) + 1), x18.2.2.2)) ca_0) := sl_len List.length_set.symm
   rw [hsl]; rw [hsl] at H; clear hsl
   refine w_end ?_
   refine q_then ?_
   refine c_seq ?_
   refine rg ?_
   refine st (v := (I (w64 ((w64 (s2.2.1 + 1)) + 1)))) (rv_move rfl) ?_
   refine st (v := (I (w64 ((w64 ((w64 (s2.2.1 + 1)) + 1)) + 1)))) (rv_add (a := (w64 ((w64 (s2.2.1 + 1)) + 1))) (b := 1) rfl rfl) ?_
   refine st (v := (I (w64 ((w64 ((w64 (s2.2.1 + 1)) + 1)) + 1)))) (rv_assign rfl) ?_
   refine w_end ?_
   refine q_then ?_
   refine c_seq ?_
   refine rg ?_
   refine st (v := (Sl aa_0 (((s2.1.set s2.2.2.toNat (s2.2.1, x6.2.1, x6.2.2.1, x6.2.2.2)).set s2.2.2.toNat (x12.1, w64 (s2.2.1 + 1), x12.2.2.1, x12.2.2.2)).set s2.2.2.toNat (x18.1, x18.2.1, w64 ((w64 (s2.2.1 + 1)) + 1), x18.2.2.2)) ca_0)) (rv_move rfl) ?_
   refine st (v := (I s2.2.2)) (rv_move rfl) ?_
   refine st (v := (I (w64 ((w64 ((w64 (s2.2.1 + 1)) + 1)) + 1)))) (rv_move rfl) ?_
   obtain ⟨x24, hx25, h'⟩ := bind_some h
   clear h
   have h := h'; clear h'
   obtain ⟨b27, o28, hi26, -⟩ := (H.own 0 rfl).ix hx25
   refine st (v := (pt b27 o28)) (rv_ix Try.underlying37 ti77 rfl rfl hi26) ?_
   refine st (v := (pt b27 (o28 + 3))) (rv_fieldAddr (off := 3) (ft := 3) Try.underlying77 rfl ti3 rfl rfl) ?_
   refine st_exS (ex_store_own (e' := (x24.1, x24.2.1, x24.2.2.1, w64 ((w64 ((w64 (s2.2.1 + 1)) + 1)) + 1))) (vs := [(I (w64 ((w64 ((w64 (s2.2.1 + 1)) + 1)) + 1)))]) (k := 3) H (i := 0) rfl ti3 hx25 hi26 rfl rfl rfl rfl rfl (Nat.le_of_ble_eq_true rfl) (by simp [plain]) (by rintro _ ⟨_, _, rfl, rfl, ⟨_, _, rfl, rfl, ⟨_, _, rfl, rfl, rfl⟩⟩⟩; exact ⟨[(I x24.1)], [(I x24.2.1), (I x24.2.2.1), (I (w64 ((w64 ((w64 (s2.2.1 + 1)) + 1)) + 1)))], rfl, rfl, ⟨[(I x24.2.1)], [(I x24.2.2.1), (I (w64 ((w64 ((w64 (s2.2.1 + 1)) + 1)) + 1)))], rfl, rfl, ⟨[(I x24.2.2.1)], [(I (w64 ((w64 ((w64 (s2.2.1 + 1)) + 1)) + 1)))], rfl, rfl, rfl⟩⟩⟩)) wn ?_
   rintro σ29 ⟨H, -⟩
   have hsl : (Sl aa_0 (((s2.1.set s2.2.2.toNat (s2.2.1, x6.2.1, x6.2.2.1, x6.2.2.2)).set s2.2.2.toNat (x12.1, w64 (s2.2.1 + 1), x12.2.2.1, x12.2.2.2)).set s2.2.2.toNat (x18.1, x18.2.1, w64 ((w64 (s2.2.1 + 1)) + 1), x18.2.2.2)) ca_0) = (Sl aa_0 ((((s2.1.set s2.2.2.toNat (s2.2.1, x6.2.1, x6.2.2.1, x6.2.2.2)).set s2.2.2.toNat (x12.1, w64 (s2.2.1 + 1), x12.2.2.1, x12.2.2.2)).set s2.2.2.toNat (x18.1, x18.2.1, w64 ((w64 (s2.2.1 + 1)) + 1), x18.2.2.2)).set s2.2.2.toNat (x24.1, x24.2.1, x24.2.2.1, w64 ((w64 ((w64 (s2.2.1 + 1)) + 1)) + 1))) ca_0) := sl_len List.length_set.symm
   rw [hsl]; rw [hsl] at H; clear hsl
   refine w_end ?_
   refine q_then ?_
   refine rg ?_
   refine st (v := (I (w64 ((w64 ((w64 (s2.2.1 + 1)) + 1)) + 1)))) (rv_move rfl) ?_
   refine st (v := (I (w64 ((w64 ((w64 ((w64 (s2.2.1 + 1)) + 1)) + 1)) + 1)))) (rv_add (a := (w64 ((w64 ((w64 (s2.2.1 + 1)) + 1)) + 1))) (b := 1) rfl rfl) ?_
   refine st (v := (I (w64 ((w64 ((w64 ((w64 (s2.2.1 + 1)) + 1)) + 1)) + 1)))) (rv_assign rfl) ?_
   refine w_end ?_
   refine q_blk ?_
   refine q_then ?_
   refine rg ?_
   refine st (v := (I s2.2.2)) (rv_move rfl) ?_
   refine st (v := (I (w64 (s2.2.2 + 1)))) (rv_add (a := s2.2.2) (b := 1) rfl rfl) ?_
   refine st (v := (I (w64 (s2.2.2 + 1)))) (rv_assign rfl) ?_
   refine w_end ?_
   refine q_then ?_
   obtain rfl := Option.some.inj h
   exact ⟨_, rfl, _, σ29, fr_join ⟨rfl, rfl, rfl, trivial⟩, rfl, H.sel' [0] rfl rfl, (List.length_set.trans (List.length_set.trans (List.length_set.trans (List.length_set.trans hn4))))⟩
  ·replace h := bif_f hb5 h
   refine c_exit ?_
   refine q_then_x ?_
   refine q_then_x ?_
   refine q_blk_hit ?_
   obtain rfl := Option.some.inj h
   obtain rfl := hres _ rfl
   exact ⟨rfl, _, σ3, fr_join ⟨rfl, rfl, trivial⟩, rfl, H.sel' [0] rfl rfl, hn4⟩
 ·clear hj
  have h := h'
  clear h' H
  rintro e a w ⟨rfl, ρ, σ30, rfl, rfl, H, hn31⟩
  refine q_then ?_
  refine c_seq ?_
  refine rg ?_
  refine st (v := (I o1.2)) (rv_move rfl) ?_
  refine st (v := (I o1.2)) (rv_assign rfl) ?_
  refine w_end ?_
  refine q_then ?_
  refine c_ret ?_
  obtain rfl := Option.some.inj h
  exact fin_ret (v := (I o1.2)) (results_ok Try.results25 (res_tmp (v := (I o1.2)) rfl res_nil) rfl) ⟨rfl, rfl, hn31⟩ (H.sel' [0] rfl rfl)

theorem c_laws_heldNodeS {a_0 : List (Int × Int × Int × Int)} {k_1 : Int} {aa_0 : Option Addr} {ca_0 : Nat} {r : Int} (h : M.laws_heldNodeS a_0 k_1 = some r) :
    Cal2 Try.prog 26 [(Sl aa_0 a_0 ca_0), (I k_1)] [Ch.ro 0 (Sl aa_0 a_0 ca_0) a_0] (fun n0 v L => v = (I r) ∧ L = []) := by
 refine cal2 (n := 49) Try.func26 rfl rfl rfl rfl ?_
 intro S0 σ0 n0 hn0 H
 unfold M.laws_heldNodeS at h
 refine c_seq ?_
 refine rg ?_
 refine st (v := (I 0)) (rv_assign rfl) ?_
 refine w_end ?_
 refine q_then ?_
 refine c_seq ?_
 refine c_seq ?_
 refine rg ?_
 refine st (v := (I 0)) (rv_assign rfl) ?_
 refine w_end ?_
 refine q_then ?_
 obtain ⟨o1, hj, h'⟩ := bind_some h
 clear h
 refine c_cut (fun e a w => (∃ t, o1 = (.inl t) ∧ e = .normal ∧ ∃ (ρ : Nat → Value) (σ : St), a = fr 49 (updL ρ [(1, (I t))]) ∧ w = σ.w ∧ Hp S0 σ0 σ []) ∨ (∃ t, o1 = (.inr t) ∧ e = .ret ∧ ∃ (ρ : Nat → Value) (σ : St), a = fr 49 (updL ρ [(4, (I t))]) ∧ w = σ.w ∧ Hp S0 σ0 σ [])) ?_ ?_
 ·clear h'
  rename _ = some o1 => h
  refine c_blk ?_
  refine wp_loopM _ h (fun s2 a w => ∃ (ρ : Nat → Value) (σ : St), a = fr 49 (updL ρ [(0, (Sl aa_0 a_0 ca_0)), (1, (I s2.1)), (5, (I s2.2))]) ∧ w = σ.w ∧ Hp S0 σ0 σ [Ch.ro 0 (Sl aa_0 a_0 ca_0) a_0]) ⟨_, σ0, fr_join ⟨rfl, rfl, rfl, trivial⟩, rfl, H.sel' [0] rfl rfl⟩ ?_
  clear h H
  rintro s2 a w o ⟨ρ, σ3, rfl, rfl, H⟩ h hres
  refine c_seq ?_
  refine c_seq ?_
  refine rg ?_
  refine st (v := (I s2.2)) (rv_move rfl) ?_
  refine st (v := (Sl aa_0 a_0 ca_0)) (rv_move rfl) ?_
  refine st (v := (I (a_0.length : Int))) (rv_len Try.underlying37 rfl) ?_
  refine st (v := (B (decide (s2.2 < (a_0.length : Int))))) (rv_lss (a := s2.2) (b := (a_0.length : Int)) rfl rfl) ?_
  refine w_end ?_
  refine q_then ?_
  refine cd_cond (decide (s2.2 < (a_0.length : Int))) rfl (fun hb4 => ?_) (fun hb4 => ?_)
  ·replace h := bif_t hb4 h
   refine c_skip ?_
   refine q_then ?_
   refine c_seq ?_
   refine c_blk ?_
   refine c_seq ?_
   refine c_seq ?_
   refine rg ?_
   refine st (v := (Sl aa_0 a_0 ca_0)) (rv_move rfl) ?_
   refine st (v := (I s2.2)) (rv_move rfl) ?_
   obtain ⟨x5, hx6, h'⟩ := bind_some h
   clear h
   have h := h'; clear h'
   obtain ⟨b8, o9, hi7, -⟩ := (H.ro 0 rfl).ix hx6
   refine st (v := (pt b8 o9)) (rv_ix Try.underlying37 ti77 rfl rfl hi7) ?_
   refine st (v := (pt b8 (o9 + 0))) (rv_fieldAddr (off := 0) (ft := 3) Try.underlying77 rfl ti3 rfl rfl) ?_
   have hc10 := ((H.ro 0 rfl).at hx6 hi7).fst.int
   refine st (v := (I x5.1)) (rv_load1 Try.underlying3 rfl rfl hc10) ?_
   refine st (v := (I s2.1)) (rv_move rfl) ?_
   refine st (v := (B (x5.1 != s2.1))) (rv_neq (a := x5.1) (b := s2.1) rfl rfl) ?_
   refine w_end ?_
   refine q_then ?_
   refine cd_cond (x5.1 != s2.1) rfl (fun hb11 => ?_) (fun hb11 => ?_)
   ·replace h := bif_t hb11 h
    refine c_seq ?_
    refine rg ?_
    refine st (v := (I (-1))) (rv_assign rfl) ?_
    refine w_end ?_
    refine q_then ?_
    refine c_ret ?_
    refine q_then_r ?_
    refine q_blk_r ?_
    refine q_then_r ?_
    refine q_then_r ?_
    refine q_blk_r ?_
    obtain rfl := Option.some.inj h
    obtain rfl := hres _ rfl
    exact .inr (⟨_, rfl, rfl, _, σ3, fr_join ⟨rfl, trivial⟩, rfl, H.sel' [] rfl rfl⟩)
   ·replace h := bif_f hb11 h
    refine c_skip ?_
    refine q_then ?_
    refine c_seq ?_
    refine rg ?_
    refine st (v := (I s2.1)) (rv_move rfl) ?_
    refine st (v := (I (w64 (s2.1 + 1)))) (rv_add (a := s2.1) (b := 1) rfl rfl) ?_
    refine st (v := (I (w64 (s2.1 + 1)))) (rv_assign rfl) ?_
    refine w_end ?_
    refine q_then ?_
    refine c_seq ?_
    refine c_seq ?_
    refine rg ?_
    refine st (v := (Sl aa_0 a_0 ca_0)) (rv_move rfl) ?_
    refine st (v := (I s2.2)) (rv_move rfl) ?_
    obtain ⟨x12, hx13, h'⟩ := bind_some h
    clear h
    have h := h'; clear h'
    obtain ⟨b15, o16, hi14, -⟩ := (H.ro 0 rfl).ix hx13
    refine st (v := (pt b15 o16)) (rv_ix Try.underlying37 ti77 rfl rfl hi14) ?_
    refine st (v := (pt b15 (o16 + 1))) (rv_fieldAddr (off := 1) (ft := 3) Try.underlying77 rfl ti3 rfl rfl) ?_
    have hc17 := ((H.ro 0 rfl).at hx13 hi14).snd.fst.int
    refine st (v := (I x12.2.1)) (rv_load1 Try.underlying3 rfl rfl hc17) ?_
    refine st (v := (I (w64 (s2.1 + 1)))) (rv_move rfl) ?_
    refine st (v := (B (x12.2.1 != (w64 (s2.1 + 1))))) (rv_neq (a := x12.2.1) (b := (w64 (s2.1 + 1))) rfl rfl) ?_
    refine w_end ?_
    refine q_then ?_
    refine cd_cond (x12.2.1 != (w64 (s2.1 + 1))) rfl (fun hb18 => ?_) (fun hb18 => ?_)
    ·replace h := bif_t hb18 h
     refine c_seq ?_
     refine rg ?_
     refine st (v := (I (-1))) (rv_assign rfl) ?_
     refine w_end ?_
     refine q_then ?_
     refine c_ret ?_
     refine q_then_r ?_
     refine q_blk_r ?_
     refine q_then_r ?_
     refine q_then_r ?_
     refine q_blk_r ?_
     obtain rfl := Option.some.inj h
     obtain rfl := hres _ rfl
     exact .inr (⟨_, rfl, rfl, _, σ3, fr_join ⟨rfl, trivial⟩, rfl, H.sel' [] rfl rfl⟩)
    ·replace h := bif_f hb18 h
     refine c_skip ?_
     refine q_then ?_
     refine c_seq ?_
     refine rg ?_
     refine st (v := (I (w64 (s2.1 + 1)))) (rv_move rfl) ?_
     refine st (v := (I (w64 ((w64 (s2.1 + 1)) + 1)))) (rv_add (a := (w64 (s2.1 + 1))) (b := 1) rfl rfl) ?_
     refine st (v := (I (w64 ((w64 (s2.1 + 1)) + 1)))) (rv_assign rfl) ?_
     refine w_end ?_
     refine q_then ?_
     refine c_seq ?_
     refine c_seq ?_
     refine rg ?_
     refine st (v := (Sl aa_0 a_0 ca_0)) (rv_move rfl) ?_
     refine st (v := (I s2.2)) (rv_move rfl) ?_
     obtain ⟨x19, hx20, h'⟩ := bind_some h
     clear h
     have h := h'; clear h'
     obtain ⟨b22, o23, hi21, -⟩ := (H.ro 0 rfl).ix hx20
     refine st (v := (pt b22 o23)) (rv_ix Try.underlying37 ti77 rfl rfl hi21) ?_
     refine st (v := (pt b22 (o23 + 2))) (rv_fieldAddr (off := 2) (ft := 3) Try.underlying77 rfl ti3 rfl rfl) ?_
     have hc24 := ((H.ro 0 rfl).at hx20 hi21).snd.snd.fst.int
     refine st (v := (I x19.2.2.1)) (rv_load1 Try.underlying3 rfl rfl hc24) ?_
     refine st (v := (I (w64 ((w64 (s2.1 + 1)) + 1)))) (rv_move rfl) ?_
     refine st (v := (B (x19.2.2.1 != (w64 ((w64 (s2.1 + 1)) + 1))))) (rv_neq (a := x19.2.2.1) (b := (w64 ((w64 (s2.1 + 1)) + 1))) rfl rfl) ?_
     refine w_end ?_
     refine q_then ?_
     refine cd_cond (x19.2.2.1 != (w64 ((w64 (s2.1 + 1)) + 1))) rfl (fun hb25 => ?_) (fun hb25 => ?_)
     ·replace h := bif_t hb25 h
      refine c_seq ?_
      refine rg ?_
      refine st (v := (I (-1))) (rv_assign rfl) ?_
      refine w_end ?_
      refine q_then ?_
      refine c_ret ?_
      refine q_then_r ?_
      refine q_blk_r ?_
      refine q_then_r ?_
      refine q_then_r ?_
      refine q_blk_r ?_
      obtain rfl := Option.some.inj h
      obtain rfl := hres _ rfl
      exact .inr (⟨_, rfl, rfl, _, σ3, fr_join ⟨rfl, trivial⟩, rfl, H.sel' [] rfl rfl⟩)
     ·replace h := bif_f hb25 h
      refine c_skip ?_
      refine q_then ?_
      refine c_seq ?_
      refine rg ?_
      refine st (v := (I (w64 ((w64 (s2.1 + 1)) + 1)))) (rv_move rfl) ?_
      refine st (v := (I (w64 ((w64 ((w64 (s2.1 + 1)) + 1)) + 1)))) (rv_add (a := (w64 ((w64 (s2.1 + 1)) + 1))) (b := 1) rfl rfl) ?_
      refine st (v := (I (w64 ((w64 ((w64 (s2.1 + 1)) + 1)) + 1)))) (rv_assign rfl) ?_
      refine w_end ?_
      refine q_then ?_
      refine c_seq ?_
      refine c_seq ?_
      refine rg ?_
      refine st (v := (Sl aa_0 a_0 ca_0)) (rv_move rfl) ?_
      refine st (v := (I s2.2)) (rv_move rfl) ?_
      obtain ⟨x26, hx27, h'⟩ := bind_some h
      clear h
      have h := h'; clear h'
      obtain ⟨b29, o30, hi28, -⟩ := (H.ro 0 rfl).ix hx27
      refine st (v := (pt b29 o30)) (rv_ix Try.underlying37 ti77 rfl rfl hi28) ?_
      refine st (v := (pt b29 (o30 + 3))) (rv_fieldAddr (off := 3) (ft := 3) Try.underlying77 rfl ti3 rfl rfl) ?_
      have hc31 := ((H.ro 0 rfl).at hx27 hi28).snd.snd.snd.int
      refine st (v := (I x26.2.2.2)) (rv_load1 Try.underlying3 rfl rfl hc31) ?_
      refine st (v := (I (w64 ((w64 ((w64 (s2.1 + 1)) + 1)) + 1)))) (rv_move rfl) ?_
      refine st (v := (B (x26.2.2.2 != (w64 ((w64 ((w64 (s2.1 + 1)) + 1)) + 1))))) (rv_neq (a := x26.2.2.2) (b := (w64 ((w64 ((w64 (s2.1 + 1)) + 1)) + 1))) rfl rfl) ?_
      refine w_end ?_
      refine q_then ?_
      refine cd_cond (x26.2.2.2 != (w64 ((w64 ((w64 (s2.1 + 1)) + 1)) + 1))) rfl (fun hb32 => ?_) (fun hb32 => ?_)
      ·replace h := bif_t hb32 h
       refine c_seq ?_
       refine rg ?_
       refine st (v := (I (-1))) (rv_assign rfl) ?_
       refine w_end ?_
       refine q_then ?_
       refine c_ret ?_
       refine q_then_r ?_
       refine q_blk_r ?_
       refine q_then_r ?_
       refine q_then_r ?_
       refine q_blk_r ?_
       obtain rfl := Option.some.inj h
       obtain rfl := hres _ rfl
       exact .inr (⟨_, rfl, rfl, _, σ3, fr_join ⟨rfl, trivial⟩, rfl, H.sel' [] rfl rfl⟩)
      ·replace h := bif_f hb32 h
       refine c_skip ?_
       refine q_then ?_
       refine rg ?_
       refine st (v := (I (w64 ((w64 ((w64 (s2.1 + 1)) + 1)) + 1)))) (rv_move rfl) ?_
       refine st (v := (I (w64 ((w64 ((w64 ((w64 (s2.1 + 1)) + 1)) + 1)) + 1)))) (rv_add (a := (w64 ((w64 ((w64 (s2.1 + 1)) + 1)) + 1))) (b := 1) rfl rfl) ?_
       refine st (v := (I (w64 ((w64 ((w64 ((w64 (s2.1 + 1)) + 1)) + 1)) + 1)))) (rv_assign rfl) ?_
       refine w_end ?_
       refine q_blk ?_
       refine q_then ?_
       refine rg ?_
       refine st (v := (I s2.2)) (rv_move rfl) ?_
       refine st (v := (I (w64 (s2.2 + 1)))) (rv_add (a := s2.2) (b := 1) rfl rfl) ?_
       refine st (v := (I (w64 (s2.2 + 1)))) (rv_assign rfl) ?_
       refine w_end ?_
       refine q_then ?_
       obtain rfl := Option.some.inj h
       exact ⟨_, rfl, _, σ3, fr_join ⟨rfl, rfl, rfl, trivial⟩, rfl, H.sel' [0] rfl rfl⟩
  ·replace h := bif_f hb4 h
   refine c_exit ?_
   refine q_then_x ?_
   refine q_then_x ?_
   refine q_blk_hit ?_
   obtain rfl := Option.some.inj h
   obtain rfl := hres _ rfl
   exact .inl ⟨_, rfl, rfl, _, σ3, fr_join ⟨rfl, trivial⟩, rfl, H.sel' [] rfl rfl⟩
 ·clear hj
  have h := h'
  clear h' H
  rintro e a w (⟨t33, rfl, rfl, ρ, σ34, rfl, rfl, H⟩ | ⟨t35, rfl, rfl, ρ, σ36, rfl, rfl, H⟩)
  ·replace h := selim_l h
   refine q_then ?_
   refine c_seq ?_
   refine rg ?_
   refine st (v := (I t33)) (rv_move rfl) ?_
   refine st (v := (I t33)) (rv_assign rfl) ?_
   refine w_end ?_
   refine q_then ?_
   refine c_ret ?_
   obtain rfl := Option.some.inj h
   exact fin_ret (v := (I t33)) (results_ok Try.results26 (res_tmp (v := (I t33)) rfl res_nil) rfl) ⟨rfl, rfl⟩ (H.sel' [] rfl rfl)
  ·replace h := selim_r h
   refine q_then_r ?_
   obtain rfl := Option.some.inj h
   exact fin_ret (v := (I t35)) (results_ok Try.results26 (res_tmp (v := (I t35)) rfl res_nil) rfl) ⟨rfl, rfl⟩ (H.sel' [] rfl rfl)

theorem c_laws_FnExactBuildTree {aList_0 : List (Int × (List Int) × Int)} {aKind_1 : Int} {aaList_0 : Option Addr} {caList_0 : Nat} {r : Bool} (h : M.laws_FnExactBuildTree aList_0 aKind_1 = some r) :
    Cal2 Try.prog 4 [(Sl aaList_0 aList_0 caList_0), (I aKind_1)] [Ch.ro 0 (Sl aaList_0 aList_0 caList_0) aList_0] (fun n0 v L => v = (B r) ∧ L = []) := by
 refine cal2 (n := 74) Try.func4 rfl rfl rfl rfl ?_
 intro S0 σ0 n0 hn0 H
 unfold M.laws_FnExactBuildTree at h
 refine c_seq ?_
 refine rg ?_
 refine st (v := (B false)) (rv_assign rfl) ?_
 refine w_end ?_
 refine q_then ?_
 refine c_seq ?_
 refine rg ?_
 refine st (v := (I 1048576)) (rv_assign rfl) ?_
 refine w_end ?_
 refine q_then ?_
 refine c_seq ?_
 refine rg ?_
 refine st (v := (Sl aaList_0 aList_0 caList_0)) (rv_move rfl) ?_
 refine st (v := (I 1048576)) (rv_move rfl) ?_
 obtain ⟨r1, hx2, h'⟩ := bind_some h
 clear h
 have h := h'; clear h'
 have hc3 := c_laws_szItemS (aa_0 := aaList_0) (ca_0 := caList_0) hx2
 refine st_call (cx_call hc3 (ent_f hc3.fn rfl) hn0 (show Hp S0 σ0 _ ([Ch.ro 0 (Sl aaList_0 aList_0 caList_0) aList_0] ++ [Ch.ro 0 (Sl aaList_0 aList_0 caList_0) aList_0]) from (H.sel' [0, 0] rfl rfl))) wn ?_
 rintro _ σ4 ⟨_, ⟨rfl, rfl⟩, H, -⟩
 replace H : Hp S0 σ0 σ4 [Ch.ro 0 (Sl aaList_0 aList_0 caList_0) aList_0] := H
 refine st (v := (I r1)) (rv_assign rfl) ?_
 refine w_end ?_
 refine q_then ?_
 refine c_seq ?_
 refine c_seq ?_
 refine rg ?_
 refine st (v := (I r1)) (rv_move rfl) ?_
 refine st (v := (B (decide (r1 < 0)))) (rv_lss (a := r1) (b := 0) rfl rfl) ?_
 refine w_end ?_
 refine q_then ?_
 refine cd_cond (decide (r1 < 0)) rfl (fun hb5 => ?_) (fun hb5 => ?_)
 ·replace h := bif_t hb5 h
  refine c_seq ?_
  refine rg ?_
  refine st (v := (B true)) (rv_assign rfl) ?_
  refine w_end ?_
  refine q_then ?_
  refine c_ret ?_
  refine q_then_r ?_
  obtain rfl := Option.some.inj h
  exact fin_ret (v := (B true)) (results_ok Try.results4 (res_tmp (v := (B true)) rfl res_nil) rfl) ⟨rfl, rfl⟩ (H.sel' [] rfl rfl)
 ·replace h := bif_f hb5 h
  refine c_skip ?_
  refine q_then ?_
  refine c_seq ?_
  refine rg ?_
  refine st (v := (Sl aaList_0 aList_0 caList_0)) (rv_move rfl) ?_
  obtain ⟨r6, hx7, h'⟩ := bind_some h
  clear h
  have h := h'; clear h'
  have hc8 := c_laws_toItemS (aa_0 := aaList_0) (ca_0 := caList_0) hx7
  refine st_call (cx_call hc8 (ent_f hc8.fn rfl) hn0 (show Hp S0 σ0 _ ([Ch.ro 0 (Sl aaList_0 aList_0 caList_0) aList_0] ++ [Ch.ro 0 (Sl aaList_0 aList_0 caList_0) aList_0]) from (H.sel' [0, 0] rfl rfl))) wn ?_
  rintro _ σ13 ⟨_, ⟨a9, c10, K11, rfl, rfl, hK12⟩, H, -⟩
  replace H : Hp S0 σ0 σ13 [Ch.big K11, Ch.ro 0 (Sl aaList_0 aList_0 caList_0) aList_0] := H
  refine st (v := (I aKind_1)) (rv_move rfl) ?_
  obtain ⟨r14, hx15, h'⟩ := bind_some h
  clear h
  have h := h'; clear h'
  have hc16 := c_spec_BuildTree (alist_0 := a9) (clist_0 := c10) hx15
  have hle := Nat.le_trans hn0 H.size
  refine st_call (cx_lend (Loan.lendB hK12.lends Loan.nil) hc16 (ent_f hc16.fn rfl) (show Hp S0 σ0 _ ([Ch.big K11] ++ ([] ++ [Ch.ro 0 (Sl aaList_0 aList_0 caList_0) aList_0])) from (H.sel' [0, 1] rfl rfl)) (by rintro _ _ _ ⟨_, _, rfl, rfl⟩; exact ⟨Ab.ownSc, trivial⟩)) wn ?_
  rintro _ σ19 ⟨_, ⟨a17, c18, rfl, rfl⟩, H, -, -⟩
  replace H : Hp S0 σ0 σ19 [Ch.own 0 σ13.size (Sl a17 r14 c18) r14, Ch.big K11, Ch.ro 0 (Sl aaList_0 aList_0 caList_0) aList_0] := H
  replace H := H.ownLow 0 0 n0 rfl (Nat.le_refl _) hle
  clear hle
  replace H : Hp S0 σ0 σ19 [Ch.own 0 n0 (Sl a17 r14 c18) r14, Ch.big K11, Ch.ro 0 (Sl aaList_0 aList_0 caList_0) aList_0] := H
  refine st (v := (Sl a17 r14 c18)) (rv_assign rfl) ?_
  refine w_end ?_
  refine q_then ?_
  refine c_seq ?_
  refine rg ?_
  refine st (v := (Sl aaList_0 aList_0 caList_0)) (rv_move rfl) ?_
  obtain ⟨r20, hx21, h'⟩ := bind_some h
  clear h
  have h := h'; clear h'
  have hc22 := c_laws_toItemS (aa_0 := aaList_0) (ca_0 := caList_0) hx21
  refine st_call (cx_call hc22 (ent_f hc22.fn rfl) hn0 (show Hp S0 σ0 _ ([Ch.ro 0 (Sl aaList_0 aList_0 caList_0) aList_0] ++ [Ch.own 0 n0 (Sl a17 r14 c18) r14, Ch.big K11, Ch.ro 0 (Sl aaList_0 aList_0 caList_0) aList_0]) from (H.sel' [2, 0, 1, 2] rfl rfl))) wn ?_
  rintro _ σ27 ⟨_, ⟨a23, c24, K25, rfl, rfl, hK26⟩, H, -⟩
  replace H : Hp S0 σ0 σ27 [Ch.big K25, Ch.own 0 n0 (Sl a17 r14 c18) r14, Ch.big K11, Ch.ro 0 (Sl aaList_0 aList_0 caList_0) aList_0] := H
  refine st (v := (Sl a23 r20 c24)) (rv_assign rfl) ?_
  refine w_end ?_
  refine q_then ?_
  refine c_seq ?_
  refine rg ?_
  refine st (v := (Sl a23 r20 c24)) (rv_move rfl) ?_
  refine st (v := (I aKind_1)) (rv_move rfl) ?_
  obtain ⟨r28, hx29, h'⟩ := bind_some h
  clear h
  have h := h'; clear h'
  have hc30 := c_impl_BuildTree (alist_0 := a23) (clist_0 := c24) hx29
  have hle := Nat.le_trans hn0 H.size
  refine st_call (cx_lend (Loan.lendB hK26.lends Loan.nil) hc30 (ent_f hc30.fn rfl) (show Hp S0 σ0 _ ([Ch.big K25] ++ ([] ++ [Ch.own 0 n0 (Sl a17 r14 c18) r14, Ch.big K11, Ch.ro 0 (Sl aaList_0 aList_0 caList_0) aList_0])) from (H.sel' [0, 1, 2, 3] rfl rfl)) (by rintro _ _ _ ⟨_, _, rfl, rfl⟩; exact ⟨Ab.ownSc, trivial⟩)) wn ?_
  rintro _ σ33 ⟨_, ⟨a31, c32, rfl, rfl⟩, H, -, -⟩
  replace H : Hp S0 σ0 σ33 [Ch.own 0 σ27.size (Sl a31 r28 c32) r28, Ch.big K25, Ch.own 0 n0 (Sl a17 r14 c18) r14, Ch.big K11, Ch.ro 0 (Sl aaList_0 aList_0 caList_0) aList_0] := H
  replace H := H.ownLow 0 0 n0 rfl (Nat.le_refl _) hle
  clear hle
  replace H : Hp S0 σ0 σ33 [Ch.own 0 n0 (Sl a31 r28 c32) r28, Ch.big K25, Ch.own 0 n0 (Sl a17 r14 c18) r14, Ch.big K11, Ch.ro 0 (Sl aaList_0 aList_0 caList_0) aList_0] := H
  refine st (v := (Sl a31 r28 c32)) (rv_assign rfl) ?_
  refine w_end ?_
  refine q_then ?_
  refine c_seq ?_
  refine c_seq ?_
  refine rg ?_
  refine st (v := (Sl a31 r28 c32)) (rv_move rfl) ?_
  refine st (v := (Sl a17 r14 c18)) (rv_move rfl) ?_
  obtain ⟨r34, hx35, h'⟩ := bind_some h
  clear h
  have h := h'; clear h'
  have hc36 := c_laws_eqNodeS (aa_0 := a31) (ca_0 := c32) (ab_1 := a17) (cb_1 := c18) hx35
  have hle := Nat.le_trans hn0 H.size
  refine st_call (cx_lend (Loan.lend (Loan.lend Loan.nil)) hc36 (ent_f hc36.fn rfl) (show Hp S0 σ0 _ ([Ch.own 0 n0 (Sl a31 r28 c32) r28, Ch.own 0 n0 (Sl a17 r14 c18) r14] ++ ([] ++ [Ch.big K25, Ch.big K11, Ch.ro 0 (Sl aaList_0 aList_0 caList_0) aList_0])) from (H.sel' [0, 2, 1, 3, 4] rfl rfl)) (by rintro _ _ _ ⟨rfl, rfl⟩; exact trivial)) wn ?_
  rintro _ σ37 ⟨_, ⟨rfl, rfl⟩, H, -, -⟩
  replace H : Hp S0 σ0 σ37 [Ch.own 0 n0 (Sl a31 r28 c32) r28, Ch.own 0 n0 (Sl a17 r14 c18) r14, Ch.big K25, Ch.big K11, Ch.ro 0 (Sl aaList_0 aList_0 caList_0) aList_0] := H
  clear hle
  replace H : Hp S0 σ0 σ37 [Ch.own 0 n0 (Sl a31 r28 c32) r28, Ch.own 0 n0 (Sl a17 r14 c18) r14, Ch.big K25, Ch.big K11, Ch.ro 0 (Sl aaList_0 aList_0 caList_0) aList_0] := H
  refine st (v := (B (!r34))) (rv_not rfl) ?_
  refine w_end ?_
  refine q_then ?_
  refine cd_cond (!r34) rfl (fun hb38 => ?_) (fun hb38 => ?_)
  ·replace h := bif_t hb38 h
   refine c_seq ?_
   refine rg ?_
   refine st (v := (B false)) (rv_assign rfl) ?_
   refine w_end ?_
   refine q_then ?_
   refine c_ret ?_
   refine q_then_r ?_
   obtain rfl := Option.some.inj h
   exact fin_ret (v := (B false)) (results_ok Try.results4 (res_tmp (v := (B false)) rfl res_nil) rfl) ⟨rfl, rfl⟩ (H.sel' [] rfl rfl)
  ·replace h := bif_f hb38 h
   refine c_skip ?_
   refine q_then ?_
   refine c_seq ?_
   refine c_seq ?_
   refine rg ?_
   refine st (v := (Sl a23 r20 c24)) (rv_move rfl) ?_
   refine st (v := (Sl aaList_0 aList_0 caList_0)) (rv_move rfl) ?_
   obtain ⟨r39, hx40, h'⟩ := bind_some h
   clear h
   have h := h'; clear h'
   have hc41 := c_laws_toItemS (aa_0 := aaList_0) (ca_0 := caList_0) hx40
   refine st_call (cx_call hc41 (ent_f hc41.fn rfl) hn0 (show Hp S0 σ0 _ ([Ch.ro 0 (Sl aaList_0 aList_0 caList_0) aList_0] ++ [Ch.own 0 n0 (Sl a31 r28 c32) r28, Ch.own 0 n0 (Sl a17 r14 c18) r14, Ch.big K25, Ch.big K11, Ch.ro 0 (Sl aaList_0 aList_0 caList_0) aList_0]) from (H.sel' [4, 0, 1, 2, 3, 4] rfl rfl))) wn ?_
   rintro _ σ46 ⟨_, ⟨a42, c43, K44, rfl, rfl, hK45⟩, H, -⟩
   replace H : Hp S0 σ0 σ46 [Ch.big K44, Ch.own 0 n0 (Sl a31 r28 c32) r28, Ch.own 0 n0 (Sl a17 r14 c18) r14, Ch.big K25, Ch.big K11, Ch.ro 0 (Sl aaList_0 aList_0 caList_0) aList_0] := H
   obtain ⟨r47, hx48, h'⟩ := bind_some h
   clear h
   have h := h'; clear h'
   have hc49 := c_laws_eqItemS (aa_0 := a23) (ca_0 := c24) (ab_1 := a42) (cb_1 := c43) hx48
   have hle := Nat.le_trans hn0 H.size
   refine st_call (cx_lend (Loan.lendB hK26.lends (Loan.lendB hK45.lends Loan.nil)) hc49 (ent_f hc49.fn rfl) (show Hp S0 σ0 _ ([Ch.big K25, Ch.big K44] ++ ([] ++ [Ch.own 0 n0 (Sl a31 r28 c32) r28, Ch.own 0 n0 (Sl a17 r14 c18) r14, Ch.big K11, Ch.ro 0 (Sl aaList_0 aList_0 caList_0) aList_0])) from (H.sel' [3, 0, 1, 2, 4, 5] rfl rfl)) (by rintro _ _ _ ⟨rfl, rfl⟩; exact trivial)) wn ?_
   rintro _ σ50 ⟨_, ⟨rfl, rfl⟩, H, -, -⟩
   replace H : Hp S0 σ0 σ50 [Ch.big K25, Ch.big K44, Ch.own 0 n0 (Sl a31 r28 c32) r28, Ch.own 0 n0 (Sl a17 r14 c18) r14, Ch.big K11, Ch.ro 0 (Sl aaList_0 aList_0 caList_0) aList_0] := H
   clear hle
   replace H : Hp S0 σ0 σ50 [Ch.big K25, Ch.big K44, Ch.own 0 n0 (Sl a31 r28 c32) r28, Ch.own 0 n0 (Sl a17 r14 c18) r14, Ch.big K11, Ch.ro 0 (Sl aaList_0 aList_0 caList_0) aList_0] := H
   refine st (v := (B (!r47))) (rv_not rfl) ?_
   refine w_end ?_
   refine q_then ?_
   refine cd_cond (!r47) rfl (fun hb51 => ?_) (fun hb51 => ?_)
   ·replace h := bif_t hb51 h
    refine c_seq ?_
    refine rg ?_
    refine st (v := (B false)) (rv_assign rfl) ?_
    refine w_end ?_
    refine q_then ?_
    refine c_ret ?_
    refine q_then_r ?_
    obtain rfl := Option.some.inj h
    exact fin_ret (v := (B false)) (results_ok Try.results4 (res_tmp (v := (B false)) rfl res_nil) rfl) ⟨rfl, rfl⟩ (H.sel' [] rfl rfl)
   ·replace h := bif_f hb51 h
    refine c_skip ?_
    refine q_then ?_
    refine c_seq ?_
    refine rg ?_
    refine st (v := (I 1)) (rv_assign rfl) ?_
    refine w_end ?_
    refine q_then ?_
    refine c_seq ?_
    refine rg ?_
    refine st (v := (Sl a23 r20 c24)) (rv_move rfl) ?_
    refine st (v := (I 1)) (rv_move rfl) ?_
    obtain ⟨r52, hx53, h'⟩ := bind_some h
    clear h
    have h := h'; clear h'
    have hc54 := c_laws_markItemS (aa_0 := a23) (ca_0 := c24) (hK := hK26) hx53
    refine st_call (cx_call hc54 (ent_f hc54.fn rfl) hn0 (show Hp S0 σ0 _ ([Ch.big K25] ++ [Ch.big K44, Ch.own 0 n0 (Sl a31 r28 c32) r28, Ch.own 0 n0 (Sl a17 r14 c18) r14, Ch.big K11, Ch.ro 0 (Sl aaList_0 aList_0 caList_0) aList_0]) from (H.sel' [0, 1, 2, 3, 4, 5] rfl rfl))) wn ?_
    rintro _ σ55 ⟨_, ⟨rfl, rfl⟩, H, -⟩
    replace H : Hp S0 σ0 σ55 [Ch.big K44, Ch.own 0 n0 (Sl a31 r28 c32) r28, Ch.own 0 n0 (Sl a17 r14 c18) r14, Ch.big K11, Ch.ro 0 (Sl aaList_0 aList_0 caList_0) aList_0] := H
    refine st (v := (I r52)) (rv_assign rfl) ?_
    refine w_end ?_
    refine q_then ?_
    refine c_seq ?_
    refine c_seq ?_
    obtain ⟨o56, hj, h'⟩ := bind_some h
    clear h
    refine c_cut (fun e a w => e = .normal ∧ ∃ (ρ : Nat → Value) (σ : St), a = fr 74 (updL ρ [(0, (Sl aaList_0 aList_0 caList_0)), (1, (I aKind_1)), (6, (Sl a17 r14 c18)), (8, (Sl a31 r28 c32)), (46, (B o56))]) ∧ w = σ.w ∧ Hp S0 σ0 σ [Ch.ro 0 (Sl aaList_0 aList_0 caList_0) aList_0, Ch.own 0 n0 (Sl a17 r14 c18) r14, Ch.own 0 n0 (Sl a31 r28 c32) r28]) ?_ ?_
    ·clear h'
     rename _ = some o56 => h
     refine rg ?_
     refine st (v := (I r52)) (rv_move rfl) ?_
     refine st (v := (B (decide (r52 < 0)))) (rv_lss (a := r52) (b := 0) rfl rfl) ?_
     refine st (v := (B (decide (r52 < 0)))) (rv_move rfl) ?_
     rcases Bool.eq_false_or_eq_true (decide (r52 < 0)) with hb57 | hb57
     ·replace h := bif_t hb57 h
      refine st_skip (congrArg some hb57) ?_
      refine st_skip (congrArg some hb57) ?_
      refine st_skip (congrArg some hb57) ?_
      refine st_skip (congrArg some hb57) ?_
      refine st (v := (B true)) (rv_pick_t (congrArg B hb57) rfl) ?_
      refine w_end ?_
      obtain rfl := Option.some.inj h
      exact ⟨rfl, _, σ55, fr_join ⟨rfl, rfl, rfl, rfl, rfl, trivial⟩, rfl, H.sel' [4, 2, 1] rfl rfl⟩
     ·replace h := bif_f hb57 h
      refine st_g (v := (Sl a31 r28 c32)) (congrArg some hb57) (rv_move rfl) ?_
      refine st_g (v := (Sl a17 r14 c18)) (congrArg some hb57) (rv_move rfl) ?_
      obtain ⟨r58, hx59, h'⟩ := bind_some h
      clear h
      have h := h'; clear h'
      have hc60 := c_laws_eqNodeS (aa_0 := a31) (ca_0 := c32) (ab_1 := a17) (cb_1 := c18) hx59
      have hle := Nat.le_trans hn0 H.size
      refine st_call (cx_lend (Loan.lend (Loan.lend Loan.nil)) hc60 (ent_f hc60.fn rfl) (show Hp S0 σ0 _ ([Ch.own 0 n0 (Sl a31 r28 c32) r28, Ch.own 0 n0 (Sl a17 r14 c18) r14] ++ ([] ++ [Ch.big K44, Ch.big K11, Ch.ro 0 (Sl aaList_0 aList_0 caList_0) aList_0])) from (H.sel' [1, 2, 0, 3, 4] rfl rfl)) (by rintro _ _ _ ⟨rfl, rfl⟩; exact trivial)) (wanted_yes rfl (by exact (congrArg some hb57))) ?_
      rintro _ σ61 ⟨_, ⟨rfl, rfl⟩, H, -, -⟩
      replace H : Hp S0 σ0 σ61 [Ch.own 0 n0 (Sl a31 r28 c32) r28, Ch.own 0 n0 (Sl a17 r14 c18) r14, Ch.big K44, Ch.big K11, Ch.ro 0 (Sl aaList_0 aList_0 caList_0) aList_0] := H
      clear hle
      replace H : Hp S0 σ0 σ61 [Ch.own 0 n0 (Sl a31 r28 c32) r28, Ch.own 0 n0 (Sl a17 r14 c18) r14, Ch.big K44, Ch.big K11, Ch.ro 0 (Sl aaList_0 aList_0 caList_0) aList_0] := H
      refine st_g (v := (B (!r58))) (congrArg some hb57) (rv_not rfl) ?_
      refine st (v := (B (!r58))) (rv_pick_f (congrArg B hb57) rfl) ?_
      refine w_end ?_
      obtain rfl := Option.some.inj h
      exact ⟨rfl, _, σ61, fr_join ⟨rfl, rfl, rfl, rfl, rfl, trivial⟩, rfl, H.sel' [4, 1, 0] rfl rfl⟩
    ·clear hj
     have h := h'
     clear h' H
     rintro e a w ⟨rfl, ρ, σ62, rfl, rfl, H⟩
     refine q_then ?_
     refine cd_cond o56 rfl (fun hb63 => ?_) (fun hb63 => ?_)
     ·replace h := bif_t hb63 h
      refine c_seq ?_
      refine rg ?_
      refine st (v := (B false)) (rv_assign rfl) ?_
      refine w_end ?_
      refine q_then ?_
      refine c_ret ?_
      refine q_then_r ?_
      obtain rfl := Option.some.inj h
      exact fin_ret (v := (B false)) (results_ok Try.results4 (res_tmp (v := (B false)) rfl res_nil) rfl) ⟨rfl, rfl⟩ (H.sel' [] rfl rfl)
     ·replace h := bif_f hb63 h
      refine c_skip ?_
      refine q_then ?_
      refine c_seq ?_
      refine rg ?_
      refine st (v := (I 1)) (rv_assign rfl) ?_
      refine w_end ?_
      refine q_then ?_
      refine c_seq ?_
      refine rg ?_
      refine st (v := (Sl a31 r28 c32)) (rv_move rfl) ?_
      refine st (v := (I 1)) (rv_move rfl) ?_
      replace H := H.ownLow 2 0 0 rfl (Nat.zero_le _) (Nat.zero_le _)
      obtain ⟨r64, hx65, h'⟩ := bind_some h
      clear h
      have h := h'; clear h'
      have hc66 := c_laws_markNodeS (aa_0 := a31) (ca_0 := c32) hx65
      refine st_call (cx_call hc66 (ent_f hc66.fn rfl) hn0 (show Hp S0 σ0 _ ([Ch.own 0 0 (Sl a31 r28 c32) r28] ++ [Ch.ro 0 (Sl aaList_0 aList_0 caList_0) aList_0, Ch.own 0 n0 (Sl a17 r14 c18) r14]) from (H.sel' [0, 1, 2] rfl rfl))) wn ?_
      rintro _ σ68 ⟨_, ⟨rfl, rfl, hn67⟩, H, -⟩
      replace H : Hp S0 σ0 σ68 [Ch.own 0 0 (Sl a31 r64.2 c32) r64.2, Ch.ro 0 (Sl aaList_0 aList_0 caList_0) aList_0, Ch.own 0 n0 (Sl a17 r14 c18) r14] := H
      have hsl : (Sl a31 r28 c32) = (Sl a31 r64.2 c32) := sl_len hn67.symm
      try rw [hsl]
      try rw [hsl] at H
      clear hsl
      refine st (v := (I r64.1)) (rv_assign rfl) ?_
      refine w_end ?_
      refine q_then ?_
      refine c_seq ?_
      refine rg ?_
      refine st (v := (I 1)) (rv_assign rfl) ?_
      refine w_end ?_
      refine q_then ?_
      refine c_seq ?_
      refine rg ?_
      refine st (v := (Sl a31 r64.2 c32)) (rv_move rfl) ?_
      refine st (v := (I 1)) (rv_move rfl) ?_
      obtain ⟨r69, hx70, h'⟩ := bind_some h
      clear h
      have h := h'; clear h'
      have hc71 := c_laws_heldNodeS (aa_0 := a31) (ca_0 := c32) hx70
      have hle := Nat.le_trans hn0 H.size
      refine st_call (cx_lend (Loan.lend Loan.nil) hc71 (ent_f hc71.fn rfl) (show Hp S0 σ0 _ ([Ch.own 0 0 (Sl a31 r64.2 c32) r64.2] ++ ([] ++ [Ch.ro 0 (Sl aaList_0 aList_0 caList_0) aList_0, Ch.own 0 n0 (Sl a17 r14 c18) r14])) from (H.sel' [0, 1, 2] rfl rfl)) (by rintro _ _ _ ⟨rfl, rfl⟩; exact trivial)) wn ?_
      rintro _ σ72 ⟨_, ⟨rfl, rfl⟩, H, -, -⟩
      replace H : Hp S0 σ0 σ72 [Ch.own 0 0 (Sl a31 r64.2 c32) r64.2, Ch.ro 0 (Sl aaList_0 aList_0 caList_0) aList_0, Ch.own 0 n0 (Sl a17 r14 c18) r14] := H
      clear hle
      replace H : Hp S0 σ0 σ72 [Ch.own 0 0 (Sl a31 r64.2 c32) r64.2, Ch.ro 0 (Sl aaList_0 aList_0 caList_0) aList_0, Ch.own 0 n0 (Sl a17 r14 c18) r14] := H
      refine st (v := (I r69)) (rv_assign rfl) ?_
      refine w_end ?_
      refine q_then ?_
      refine c_seq ?_
      refine c_seq ?_
      refine rg ?_
      refine st (v := (I r69)) (rv_move rfl) ?_
      refine st (v := (B (decide (r69 < 0)))) (rv_lss (a := r69) (b := 0) rfl rfl) ?_
      refine w_end ?_
      refine q_then ?_
      refine cd_cond (decide (r69 < 0)) rfl (fun hb73 => ?_) (fun hb73 => ?_)
      ·replace h := bif_t hb73 h
       refine c_seq ?_
       refine rg ?_
       refine st (v := (B false)) (rv_assign rfl) ?_
       refine w_end ?_
       refine q_then ?_
       refine c_ret ?_
       refine q_then_r ?_
       obtain rfl := Option.some.inj h
       exact fin_ret (v := (B false)) (results_ok Try.results4 (res_tmp (v := (B false)) rfl res_nil) rfl) ⟨rfl, rfl⟩ (H.sel' [] rfl rfl)
      ·replace h := bif_f hb73 h
       refine c_skip ?_
       refine q_then ?_
       refine c_seq ?_
       refine c_seq ?_
       refine rg ?_
       refine st (v := (I r69)) (rv_move rfl) ?_
       refine st (v := (I r64.1)) (rv_move rfl) ?_
       refine st (v := (B (r69 != r64.1))) (rv_neq (a := r69) (b := r64.1) rfl rfl) ?_
       refine w_end ?_
       refine q_then ?_
       refine cd_cond (r69 != r64.1) rfl (fun hb74 => ?_) (fun hb74 => ?_)
       ·replace h := bif_t hb74 h
        refine c_seq ?_
        refine rg ?_
        refine st (v := (B false)) (rv_assign rfl) ?_
        refine w_end ?_
        refine q_then ?_
        refine c_ret ?_
        refine q_then_r ?_
        obtain rfl := Option.some.inj h
        exact fin_ret (v := (B false)) (results_ok Try.results4 (res_tmp (v := (B false)) rfl res_nil) rfl) ⟨rfl, rfl⟩ (H.sel' [] rfl rfl)
       ·replace h := bif_f hb74 h
        refine c_skip ?_
        refine q_then ?_
        refine c_seq ?_
        refine rg ?_
        refine st (v := (Sl aaList_0 aList_0 caList_0)) (rv_move rfl) ?_
        obtain ⟨r75, hx76, h'⟩ := bind_some h
        clear h
        have h := h'; clear h'
        have hc77 := c_laws_toItemS (aa_0 := aaList_0) (ca_0 := caList_0) hx76
        refine st_call (cx_call hc77 (ent_f hc77.fn rfl) hn0 (show Hp S0 σ0 _ ([Ch.ro 0 (Sl aaList_0 aList_0 caList_0) aList_0] ++ [Ch.own 0 0 (Sl a31 r64.2 c32) r64.2, Ch.ro 0 (Sl aaList_0 aList_0 caList_0) aList_0, Ch.own 0 n0 (Sl a17 r14 c18) r14]) from (H.sel' [1, 0, 1, 2] rfl rfl))) wn ?_
        rintro _ σ82 ⟨_, ⟨a78, c79, K80, rfl, rfl, hK81⟩, H, -⟩
        replace H : Hp S0 σ0 σ82 [Ch.big K80, Ch.own 0 0 (Sl a31 r64.2 c32) r64.2, Ch.ro 0 (Sl aaList_0 aList_0 caList_0) aList_0, Ch.own 0 n0 (Sl a17 r14 c18) r14] := H
        refine st (v := (I aKind_1)) (rv_move rfl) ?_
        obtain ⟨r83, hx84, h'⟩ := bind_some h
        clear h
        have h := h'; clear h'
        have hc85 := c_impl_BuildTree (alist_0 := a78) (clist_0 := c79) hx84
        have hle := Nat.le_trans hn0 H.size
        refine st_call (cx_lend (Loan.lendB hK81.lends Loan.nil) hc85 (ent_f hc85.fn rfl) (show Hp S0 σ0 _ ([Ch.big K80] ++ ([] ++ [Ch.own 0 0 (Sl a31 r64.2 c32) r64.2, Ch.ro 0 (Sl aaList_0 aList_0 caList_0) aList_0, Ch.own 0 n0 (Sl a17 r14 c18) r14])) from (H.sel' [0, 1, 2, 3] rfl rfl)) (by rintro _ _ _ ⟨_, _, rfl, rfl⟩; exact ⟨Ab.ownSc, trivial⟩)) wn ?_
        rintro _ σ88 ⟨_, ⟨a86, c87, rfl, rfl⟩, H, -, -⟩
        replace H : Hp S0 σ0 σ88 [Ch.own 0 σ82.size (Sl a86 r83 c87) r83, Ch.big K80, Ch.own 0 0 (Sl a31 r64.2 c32) r64.2, Ch.ro 0 (Sl aaList_0 aList_0 caList_0) aList_0, Ch.own 0 n0 (Sl a17 r14 c18) r14] := H
        replace H := H.ownLow 0 0 n0 rfl (Nat.le_refl _) hle
        clear hle
        replace H : Hp S0 σ0 σ88 [Ch.own 0 n0 (Sl a86 r83 c87) r83, Ch.big K80, Ch.own 0 0 (Sl a31 r64.2 c32) r64.2, Ch.ro 0 (Sl aaList_0 aList_0 caList_0) aList_0, Ch.own 0 n0 (Sl a17 r14 c18) r14] := H
        refine st (v := (Sl a86 r83 c87)) (rv_assign rfl) ?_
        refine w_end ?_
        refine q_then ?_
        refine c_seq ?_
        refine c_seq ?_
        refine rg ?_
        refine st (v := (Sl a86 r83 c87)) (rv_move rfl) ?_
        refine st (v := (Sl a17 r14 c18)) (rv_move rfl) ?_
        replace H := H.ownLow 0 0 0 rfl (Nat.le_refl _) (Nat.zero_le _)
        obtain ⟨σ89, hw90, H, -⟩ := H.pub 0 rfl (Nat.le_refl _)
        rw [← hw90]; clear hw90
        replace H := H.ownLow 4 0 0 rfl (Nat.le_refl _) (Nat.zero_le _)
        obtain ⟨σ91, hw92, H, -⟩ := H.pub 0 rfl (Nat.le_refl _)
        rw [← hw92]; clear hw92
        obtain ⟨r93, hx94, h'⟩ := bind_some h
        clear h
        have h := h'; clear h'
        have hc95 := c_laws_eqNodeS (aa_0 := a86) (ca_0 := c87) (ab_1 := a17) (cb_1 := c18) hx94
        refine st_call (cx_call hc95 (ent_f hc95.fn rfl) hn0 (show Hp S0 σ0 _ ([Ch.ro 0 (Sl a86 r83 c87) r83, Ch.ro 0 (Sl a17 r14 c18) r14] ++ [Ch.ro 0 (Sl a17 r14 c18) r14, Ch.ro 0 (Sl a86 r83 c87) r83, Ch.big K80, Ch.own 0 0 (Sl a31 r64.2 c32) r64.2, Ch.ro 0 (Sl aaList_0 aList_0 caList_0) aList_0]) from (H.sel' [1, 0, 0, 1, 2, 3, 4] rfl rfl))) wn ?_
        rintro _ σ96 ⟨_, ⟨rfl, rfl⟩, H, -⟩
        replace H : Hp S0 σ0 σ96 [Ch.ro 0 (Sl a17 r14 c18) r14, Ch.ro 0 (Sl a86 r83 c87) r83, Ch.big K80, Ch.own 0 0 (Sl a31 r64.2 c32) r64.2, Ch.ro 0 (Sl aaList_0 aList_0 caList_0) aList_0] := H
        refine st (v := (B (!r93))) (rv_not rfl) ?_
        refine w_end ?_
        refine q_then ?_
        refine cd_cond (!r93) rfl (fun hb97 => ?_) (fun hb97 => ?_)
        ·replace h := bif_t hb97 h
         refine c_seq ?_
         refine rg ?_
         refine st (v := (B false)) (rv_assign rfl) ?_
         refine w_end ?_
         refine q_then ?_
         refine c_ret ?_
         refine q_then_r ?_
         obtain rfl := Option.some.inj h
         exact fin_ret (v := (B false)) (results_ok Try.results4 (res_tmp (v := (B false)) rfl res_nil) rfl) ⟨rfl, rfl⟩ (H.sel' [] rfl rfl)
        ·replace h := bif_f hb97 h
         refine c_skip ?_
         refine q_then ?_
         refine c_seq ?_
         refine rg ?_
         refine st (v := (I 1)) (rv_assign rfl) ?_
         refine w_end ?_
         refine q_then ?_
         refine c_seq ?_
         refine rg ?_
         refine st (v := (Sl a31 r64.2 c32)) (rv_move rfl) ?_
         refine st (v := (I 1)) (rv_move rfl) ?_
         obtain ⟨σ98, hw99, H, -⟩ := H.pub 3 rfl (Nat.le_refl _)
         rw [← hw99]; clear hw99
         obtain ⟨r100, hx101, h'⟩ := bind_some h
         clear h
         have h := h'; clear h'
         have hc102 := c_laws_heldNodeS (aa_0 := a31) (ca_0 := c32) hx101
         refine st_call (cx_call hc102 (ent_f hc102.fn rfl) hn0 (show Hp S0 σ0 _ ([Ch.ro 0 (Sl a31 r64.2 c32) r64.2] ++ [Ch.ro 0 (Sl a31 r64.2 c32) r64.2, Ch.ro 0 (Sl a17 r14 c18) r14, Ch.ro 0 (Sl a86 r83 c87) r83, Ch.big K80, Ch.ro 0 (Sl aaList_0 aList_0 caList_0) aList_0]) from (H.sel' [0, 0, 1, 2, 3, 4] rfl rfl))) wn ?_
         rintro _ σ103 ⟨_, ⟨rfl, rfl⟩, H, -⟩
         replace H : Hp S0 σ0 σ103 [Ch.ro 0 (Sl a31 r64.2 c32) r64.2, Ch.ro 0 (Sl a17 r14 c18) r14, Ch.ro 0 (Sl a86 r83 c87) r83, Ch.big K80, Ch.ro 0 (Sl aaList_0 aList_0 caList_0) aList_0] := H
         refine st (v := (I r100)) (rv_assign rfl) ?_
         refine w_end ?_
         refine q_then ?_
         refine c_seq ?_
         refine c_seq ?_
         refine rg ?_
         refine st (v := (I r100)) (rv_move rfl) ?_
         refine st (v := (B (decide (r100 < 0)))) (rv_lss (a := r100) (b := 0) rfl rfl) ?_
         refine w_end ?_
         refine q_then ?_
         refine cd_cond (decide (r100 < 0)) rfl (fun hb104 => ?_) (fun hb104 => ?_)
         ·replace h := bif_t hb104 h
          refine c_seq ?_
          refine rg ?_
          refine st (v := (B false)) (rv_assign rfl) ?_
          refine w_end ?_
          refine q_then ?_
          refine c_ret ?_
          refine q_then_r ?_
          obtain rfl := Option.some.inj h
          exact fin_ret (v := (B false)) (results_ok Try.results4 (res_tmp (v := (B false)) rfl res_nil) rfl) ⟨rfl, rfl⟩ (H.sel' [] rfl rfl)
         ·replace h := bif_f hb104 h
          refine c_skip ?_
          refine q_then ?_
          refine c_seq ?_
          refine c_seq ?_
          refine rg ?_
          refine st (v := (I r100)) (rv_move rfl) ?_
          refine st (v := (I r64.1)) (rv_move rfl) ?_
          refine st (v := (B (r100 != r64.1))) (rv_neq (a := r100) (b := r64.1) rfl rfl) ?_
          refine w_end ?_
          refine q_then ?_
          refine cd_cond (r100 != r64.1) rfl (fun hb105 => ?_) (fun hb105 => ?_)
          ·replace h := bif_t hb105 h
           refine c_seq ?_
           refine rg ?_
           refine st (v := (B false)) (rv_assign rfl) ?_
           refine w_end ?_
           refine q_then ?_
           refine c_ret ?_
           refine q_then_r ?_
           obtain rfl := Option.some.inj h
           exact fin_ret (v := (B false)) (results_ok Try.results4 (res_tmp (v := (B false)) rfl res_nil) rfl) ⟨rfl, rfl⟩ (H.sel' [] rfl rfl)
          ·replace h := bif_f hb105 h
           refine c_skip ?_
           refine q_then ?_
           refine c_seq ?_
           refine rg ?_
           refine st (v := (B true)) (rv_assign rfl) ?_
           refine w_end ?_
           refine q_then ?_
           refine c_ret ?_
           obtain rfl := Option.some.inj h
           exact fin_ret (v := (B true)) (results_ok Try.results4 (res_tmp (v := (B true)) rfl res_nil) rfl) ⟨rfl, rfl⟩ (H.sel' [] rfl rfl)

end Go.Vs
