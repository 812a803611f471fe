/- The functions compute what their models say. -/
import Derived.Test.YtjmaadoeholmiaaGreatKReachedFromC2
set_option linter.unusedVariables false
set_option linter.unusedSimpArgs false
set_option maxRecDepth 20000
namespace Go.Vs
open Go Go.Proofs
attribute [local irreducible] Code.wp Code.wpIn wpList wpListIn wpQuiet Calls CallsIn

theorem c_impl_compareHits {Aa : Int × Int} {Ac : Int × Int}  {r : Int} (h : M.impl_compareHits Aa Ac = some r) :
    Cal2 Tryz.prog 47 [(.agg #[(I Aa.1), (I Aa.2)]), (.agg #[(I Ac.1), (I Ac.2)])] [] (fun n0 v L => v = (I r) ∧ L = []) := by
 refine cal2 (n := 17) Tryz.func47 rfl rfl rfl rfl ?_
 intro S0 σ0 n0 hn0 H
 unfold M.impl_compareHits at h
 refine c_seq (rg (st_ex (ex_box (cs := [(I Aa.1), (I Aa.2)]) H hn0 rfl rfl) wn ?_))
 rintro _ σ2 ⟨b1, rfl, H, -⟩
 refine st_ex (ex_box (cs := [(I Ac.1), (I Ac.2)]) H hn0 rfl rfl) wn ?_
 rintro _ σ4 ⟨b3, rfl, H, -⟩
 refine sa (I 0) rfl (w_end (q_then (c_seq ?_)))
 have hc5 := H.cell (u := (I Aa.2)) (o' := 1) 1 1 rfl rfl rfl
 have hc6 := H.cell (u := (I Ac.2)) (o' := 1) 0 1 rfl rfl rfl
 revert h; refine br fun r7 hx8 h => ?_
 have hc9 := c_cmp_Compare_int hx8
 have hc10 := H.cell (u := (I Aa.1)) (o' := 0) 1 0 rfl rfl rfl
 have hc11 := H.cell (u := (I Ac.1)) (o' := 0) 0 0 rfl rfl rfl
 have Hs := H
 refine rg2 (σ := σ4) (Nm := Unit) 9 [4] [[false], [true]] [[(0, 0)], [(0, 0)], [(0, 0)], [(0, 0)], [(0, 1)], [(0, 0), (1, 1)], [(0, 0), (1, 1)], [(0, 0), (1, 1)], [(0, 0), (1, 1)]] 1 [fun _ => fun σm => Hp S0 σ0 σm [Ch.bx n0 b3 0 [(I Ac.1), (I Ac.2)] [] [], Ch.bx n0 b1 0 [(I Aa.1), (I Aa.2)] [] []] ∧ Md (cov []) σ4 σm, fun _ => fun σm => Hp S0 σ0 σm [Ch.bx n0 b3 0 [(I Ac.1), (I Ac.2)] [] [], Ch.bx n0 b1 0 [(I Aa.1), (I Aa.2)] [] []] ∧ Md (cov []) σ4 σm] [fun _ => (pt b1 1), fun _ => (I Aa.2), fun _ => (pt b3 1), fun _ => (I Ac.2), fun _ => (I r7), fun _ => (pt b1 0), fun _ => (I Aa.1), fun _ => (pt b3 0), fun _ => (I Ac.1)] () (by kernel_rfl) (by kernel_rfl) ?_ ?_ ?_
 ·intro σm m0
  exact ⟨H.grow (m0.mono fun _ h => h.elim), m0⟩
 ·refine ac rfl (by
    intro k _nm ρ σm hJ hoff hdep
    have e2 := look_off (N := 17) (hoff 2 rfl) rfl
    exact dp_v (v := (pt b1 1)) wn (rv_fieldAddr (off := 1) (ft := 3) Tryz.underlying47 rfl ti3 rfl e2) rfl hJ) ?_
  refine all_cons (by
    refine ⟨?_, ?_⟩
    ·intro _nm ρ σm hJ hoff hdep
     have e5 := hdep 0 rfl rfl 5 rfl
     obtain ⟨H, m⟩ := id hJ
     have hc5 := H.cell (u := (I Aa.2)) (o' := 1) 1 1 rfl rfl rfl
     exact dp_v (v := (I Aa.2)) wn (rv_load1 Tryz.underlying3 rfl e5 hc5) rfl hJ
    trivial) ?_
  refine ac rfl (by
    intro k _nm ρ σm hJ hoff hdep
    have e3 := look_off (N := 17) (hoff 3 rfl) rfl
    exact dp_v (v := (pt b3 1)) wn (rv_fieldAddr (off := 1) (ft := 3) Tryz.underlying47 rfl ti3 rfl e3) rfl hJ) ?_
  refine all_cons (by
    refine ⟨?_, ?_⟩
    ·intro _nm ρ σm hJ hoff hdep
     have e7 := hdep 2 rfl rfl 7 rfl
     obtain ⟨H, m⟩ := id hJ
     have hc6 := H.cell (u := (I Ac.2)) (o' := 1) 0 1 rfl rfl rfl
     exact dp_v (v := (I Ac.2)) wn (rv_load1 Tryz.underlying3 rfl e7 hc6) rfl hJ
    trivial) ?_
  refine all_cons (by
    refine ⟨?_, ?_⟩
    ·intro _nm ρ σm hJ hoff hdep
     have e6 : look 17 ρ 6 = (I Aa.2) := hdep 1 rfl rfl 6 rfl
     have e8 : look 17 ρ 8 = (I Ac.2) := hdep 3 rfl rfl 8 rfl
     obtain ⟨H, m⟩ := id hJ
     refine dp_cx wn (cx_call hc9 (ent_f hc9.fn (by show [look 17 ρ 6, look 17 ρ 8] = _; rw [e6, e8])) hn0 (H.sel' [0, 1] rfl rfl : Hp S0 σ0 _ ([] ++ _))) ?_
     rintro _ σq ⟨_, ⟨rfl, rfl⟩, H2, m2⟩
     exact ⟨_, (), rfl, rfl, ⟨H2.sel' [0, 1] rfl rfl, m.comp0 m2⟩, stab [0, 1, 2, 3, 5, 6, 7, 8] (by kernel_rfl) ⟨rfl, rfl, rfl, rfl, rfl, rfl, rfl, rfl, trivial⟩⟩
    trivial) ?_
  refine ac rfl (by
    intro k _nm ρ σm hJ hoff hdep
    have e2 := look_off (N := 17) (hoff 2 rfl) rfl
    exact dp_v (v := (pt b1 0)) wn (rv_fieldAddr (off := 0) (ft := 3) Tryz.underlying47 rfl ti3 rfl e2) rfl hJ) ?_
  refine all_cons (by
    refine ⟨?_, ?_⟩
    ·intro _nm ρ σm hJ hoff hdep
     have e10 := hdep 5 rfl rfl 10 rfl
     obtain ⟨H, m⟩ := id hJ
     have hc10 := H.cell (u := (I Aa.1)) (o' := 0) 1 0 rfl rfl rfl
     exact dp_v (v := (I Aa.1)) wn (rv_load1 Tryz.underlying3 rfl e10 hc10) rfl hJ
    refine ⟨?_, ?_⟩
    ·intro _nm ρ σm hJ hoff hdep
     have e10 := hdep 5 rfl rfl 10 rfl
     obtain ⟨H, m⟩ := id hJ
     have hc10 := H.cell (u := (I Aa.1)) (o' := 0) 1 0 rfl rfl rfl
     exact dp_v (v := (I Aa.1)) wn (rv_load1 Tryz.underlying3 rfl e10 hc10) rfl hJ
    trivial) ?_
  refine ac rfl (by
    intro k _nm ρ σm hJ hoff hdep
    have e3 := look_off (N := 17) (hoff 3 rfl) rfl
    exact dp_v (v := (pt b3 0)) wn (rv_fieldAddr (off := 0) (ft := 3) Tryz.underlying47 rfl ti3 rfl e3) rfl hJ) ?_
  refine all_cons (by
    refine ⟨?_, ?_⟩
    ·intro _nm ρ σm hJ hoff hdep
     have e12 := hdep 7 rfl rfl 12 rfl
     obtain ⟨H, m⟩ := id hJ
     have hc11 := H.cell (u := (I Ac.1)) (o' := 0) 0 0 rfl rfl rfl
     exact dp_v (v := (I Ac.1)) wn (rv_load1 Tryz.underlying3 rfl e12 hc11) rfl hJ
    refine ⟨?_, ?_⟩
    ·intro _nm ρ σm hJ hoff hdep
     have e12 := hdep 7 rfl rfl 12 rfl
     obtain ⟨H, m⟩ := id hJ
     have hc11 := H.cell (u := (I Ac.1)) (o' := 0) 0 0 rfl rfl rfl
     exact dp_v (v := (I Ac.1)) wn (rv_load1 Tryz.underlying3 rfl e12 hc11) rfl hJ
    trivial) ?_
  exact all_nil
 ·intro _nm ρ σ12 hJ hoff hrel
  have e9 := hrel 4 rfl 9 rfl
  have e11 := hrel 6 rfl 11 rfl
  have e13 := hrel 8 rfl 13 rfl
  obtain ⟨H, -⟩ := (show Hp S0 σ0 σ12 [Ch.bx n0 b3 0 [(I Ac.1), (I Ac.2)] [] [], Ch.bx n0 b1 0 [(I Aa.1), (I Aa.2)] [] []] ∧ Md (cov []) σ4 σ12 from hJ)
  clear hJ Hs
  rw [fr_lookL (L := [(9, (I r7)), (11, (I Aa.1)), (13, (I Ac.1))]) ⟨e9, e11, e13, trivial⟩]
  clear hoff hrel e9 e11 e13
  revert h; refine br fun r13 hx14 h => ?_
  have hc15 := c_cmp_Compare_int hx14
  refine st_call (cx_call hc15 (ent_f hc15.fn rfl) hn0 (H.sel' [0, 1] rfl rfl : Hp S0 σ0 _ ([] ++ _))) wn ?_
  rintro _ σ16 ⟨_, ⟨rfl, rfl⟩, H, -⟩
  replace H : Hp _ _ _ [_, _] := H
  refine st_ex (ex_buildSlice (el := n0) (xs := ([r7, r13] : List Int)) (ps := [(0, (I r7)), (1, (I r13))]) (cs := [(I r7), (I r13)]) H hn0 Tryz.underlying31 ti3 rfl rfl (by kernel_rfl) (.cons (c := [(I r7)]) rfl (.cons (c := [(I r13)]) rfl (.nil))) rfl) wn ?_
  rintro _ σ18 ⟨b17, rfl, H, -⟩
  obtain ⟨σ19, hw20, H, -⟩ := H.pub 0 rfl (Nat.le_refl _)
  rw [← hw20]; clear hw20
  replace H := H.roLow 0 0 rfl (Nat.zero_le _)
  revert h; refine br fun r21 hx22 h => ?_
  have hc23 := c_cmp_Or_int (Cs := (some ⟨b17, 0, none⟩)) (Ct := 2) hx22
  refine st_call (cx_call hc23 (ent_f hc23.fn rfl) hn0 (H.sel' [0, 0, 1, 2, 3] rfl rfl : Hp S0 σ0 _ ([_] ++ _))) wn ?_
  rintro _ σ24 ⟨_, ⟨rfl, rfl⟩, H, -⟩
  replace H : Hp _ _ _ [_, _, _, _] := H
  refine sa (I r21) rfl (w_end (q_then (c_ret ?_)))
  obtain rfl := sj h
  exact fin_ret (v := (I r21)) (results_ok Tryz.results47 (res_tmp (v := (I r21)) rfl res_nil) rfl) ⟨rfl, rfl⟩ (H.sel' [] rfl rfl)

theorem c_impl_sortByDistance_1__p3__p24 {Bj : Int × (List Int) × Int} {Cq : Int × (List Int) × Int} {Cu : Int} {Cv : List Int} {Bk : Option Addr} {Bl : Nat} {Cw : Option Addr} {Cy : Nat} {Cz Da : Nat} {Db Dc : Nat} {r : Int} (h : M.impl_sortByDistance_1__p3__p24 Bj Cq Cu Cv = some r) :
    Cal2 Tryz.prog 88 [(.agg #[(I Bj.1), (Sl Bk Bj.2.1 Bl), (I Bj.2.2)]), (.agg #[(I Cq.1), (Sl Cw Cq.2.1 Cy), (I Cq.2.2)]), (pt Cz Da), (pt Db Dc)] [Ch.ro 0 (Sl Bk Bj.2.1 Bl) Bj.2.1, Ch.ro 0 (Sl Cw Cq.2.1 Cy) Cq.2.1, Ch.ro 0 (Sl (some ⟨Cz, Da, none⟩) ([Cu] : List Int) 1) ([Cu] : List Int), Ch.ro 0 (Sl (some ⟨Db, Dc, none⟩) ([Cv] : List (List Int)) 1) ([Cv] : List (List Int))] (fun n0 v L => v = (I r) ∧ L = []) := by
 refine cal2 (n := 16) Tryz.func88 rfl rfl rfl rfl ?_
 intro S0 σ0 n0 hn0 H
 unfold M.impl_sortByDistance_1__p3__p24 at h
 have hxp_2 : gidx ([Cu] : List Int) 0 = some Cu := rfl
 have hip_2 : Ix (Sl (some ⟨Cz, Da, none⟩) ([Cu] : List Int) 1) 0 1 Cz Da := ix_one
 have hxp_3 : gidx ([Cv] : List (List Int)) 0 = some Cv := rfl
 have hip_3 : Ix (Sl (some ⟨Db, Dc, none⟩) ([Cv] : List (List Int)) 1) 0 1 Db Dc := ix_one
 refine c_seq (rg (st_ex (ex_box (cs := [(I Bj.1), (Sl Bk Bj.2.1 Bl), (I Bj.2.2)]) H hn0 rfl rfl) wn ?_))
 rintro _ σ2 ⟨b1, rfl, H, -⟩
 refine st_ex (ex_box (cs := [(I Cq.1), (Sl Cw Cq.2.1 Cy), (I Cq.2.2)]) H hn0 rfl rfl) wn ?_
 rintro _ σ4 ⟨b3, rfl, H, -⟩
 refine sa (I 0) rfl (w_end (q_then (c_seq ?_)))
 have hc5 := H.cells 1 rfl
 have hc6 := ((H.ro 4 rfl).at hxp_2 hip_2).int
 obtain ⟨v10, hc11, hR9⟩ := ((H.ro 5 rfl).at hxp_3 hip_3).slice
 obtain ⟨a7, c8, rfl⟩ := hR9.isSl
 replace H := H.add (d := Ch.ro 0 (Sl a7 Cv c8) Cv) hR9 (fun _ h => h)
 clear hR9
 revert h; refine br fun r12 hx13 h => ?_
 have hc14 := c_impl_hitOf (Bk := Bk) (Bl := Bl) (Cn := a7) (Cp := c8) hx13
 have hc15 := H.cells 1 rfl
 have hc16 := ((H.ro 5 rfl).at hxp_2 hip_2).int
 obtain ⟨v20, hc21, hR19⟩ := ((H.ro 6 rfl).at hxp_3 hip_3).slice
 obtain ⟨a17, c18, rfl⟩ := hR19.isSl
 replace H := H.add (d := Ch.ro 0 (Sl a17 Cv c18) Cv) hR19 (fun _ h => h)
 clear hR19
 have Hs := H
 refine rg2 (σ := σ4) (Nm := Unit) 7 [3] [[false], [true]] [[(0, 0)], [(0, 0)], [(0, 0)], [(0, 1)], [(0, 0), (1, 1)], [(0, 0), (1, 1)], [(0, 0), (1, 1)]] 1 [fun _ => fun σm => Hp S0 σ0 σm [Ch.ro 0 (Sl a17 Cv c18) Cv, Ch.ro 0 (Sl a7 Cv c8) Cv, Ch.bx n0 b3 0 [(I Cq.1), (Sl Cw Cq.2.1 Cy), (I Cq.2.2)] [] [], Ch.bx n0 b1 0 [(I Bj.1), (Sl Bk Bj.2.1 Bl), (I Bj.2.2)] [] [], Ch.ro 0 (Sl Bk Bj.2.1 Bl) Bj.2.1, Ch.ro 0 (Sl Cw Cq.2.1 Cy) Cq.2.1, Ch.ro 0 (Sl (some ⟨Cz, Da, none⟩) ([Cu] : List Int) 1) ([Cu] : List Int), Ch.ro 0 (Sl (some ⟨Db, Dc, none⟩) ([Cv] : List (List Int)) 1) ([Cv] : List (List Int))] ∧ Md (cov []) σ4 σm, fun _ => fun σm => Hp S0 σ0 σm [Ch.ro 0 (Sl a17 Cv c18) Cv, Ch.ro 0 (Sl a7 Cv c8) Cv, Ch.bx n0 b3 0 [(I Cq.1), (Sl Cw Cq.2.1 Cy), (I Cq.2.2)] [] [], Ch.bx n0 b1 0 [(I Bj.1), (Sl Bk Bj.2.1 Bl), (I Bj.2.2)] [] [], Ch.ro 0 (Sl Bk Bj.2.1 Bl) Bj.2.1, Ch.ro 0 (Sl Cw Cq.2.1 Cy) Cq.2.1, Ch.ro 0 (Sl (some ⟨Cz, Da, none⟩) ([Cu] : List Int) 1) ([Cu] : List Int), Ch.ro 0 (Sl (some ⟨Db, Dc, none⟩) ([Cv] : List (List Int)) 1) ([Cv] : List (List Int))] ∧ Md (cov []) σ4 σm] [fun _ => (.agg #[(I Bj.1), (Sl Bk Bj.2.1 Bl), (I Bj.2.2)]), fun _ => (I Cu), fun _ => (Sl a7 Cv c8), fun _ => (.agg #[(I r12.1), (I r12.2)]), fun _ => (.agg #[(I Cq.1), (Sl Cw Cq.2.1 Cy), (I Cq.2.2)]), fun _ => (I Cu), fun _ => (Sl a17 Cv c18)] () (by kernel_rfl) (by kernel_rfl) ?_ ?_ ?_
 ·intro σm m0
  exact ⟨H.grow (m0.mono fun _ h => h.elim), m0⟩
 ·refine all_cons (by
    refine ⟨?_, ?_⟩
    ·intro _nm ρ σm hJ hoff hdep
     have e4 := look_off (N := 16) (hoff 4 rfl) rfl
     obtain ⟨H, m⟩ := id hJ
     have hc5 := H.cells 3 rfl
     exact dp_v (v := (.agg #[(I Bj.1), (Sl Bk Bj.2.1 Bl), (I Bj.2.2)])) wn (rv_load (cs := [(I Bj.1), (Sl Bk Bj.2.1 Bl), (I Bj.2.2)]) Tryz.underlying33 rfl ti33 e4 rfl hc5) rfl hJ
    trivial) ?_
  refine all_cons (by
    refine ⟨?_, ?_⟩
    ·intro _nm ρ σm hJ hoff hdep
     have e2 := look_off (N := 16) (hoff 2 rfl) rfl
     obtain ⟨H, m⟩ := id hJ
     replace hc6 := (Hs.ro 6 rfl).hmd hxp_2 hip_2 (k := 0) (by decide) hc6 m
     exact dp_v (v := (I Cu)) wn (rv_load1 Tryz.underlying3 rfl e2 hc6) rfl hJ
    trivial) ?_
  refine all_cons (by
    refine ⟨?_, ?_⟩
    ·intro _nm ρ σm hJ hoff hdep
     have e3 := look_off (N := 16) (hoff 3 rfl) rfl
     obtain ⟨H, m⟩ := id hJ
     replace hc11 := (Hs.ro 7 rfl).hmd hxp_3 hip_3 (k := 0) (by decide) hc11 m
     exact dp_v (v := (Sl a7 Cv c8)) wn (rv_load1 Tryz.underlying31 rfl e3 hc11) rfl hJ
    trivial) ?_
  refine all_cons (by
    refine ⟨?_, ?_⟩
    ·intro _nm ρ σm hJ hoff hdep
     have e7 : look 16 ρ 7 = (.agg #[(I Bj.1), (Sl Bk Bj.2.1 Bl), (I Bj.2.2)]) := hdep 0 rfl rfl 7 rfl
     have e8 : look 16 ρ 8 = (I Cu) := hdep 1 rfl rfl 8 rfl
     have e9 : look 16 ρ 9 = (Sl a7 Cv c8) := hdep 2 rfl rfl 9 rfl
     obtain ⟨H, m⟩ := id hJ
     refine dp_cx wn (cx_call hc14 (ent_f hc14.fn (by show [look 16 ρ 7, look 16 ρ 8, look 16 ρ 9] = _; rw [e7, e8, e9])) hn0 (H.sel' [4, 1, 0, 1, 2, 3, 4, 5, 6, 7] rfl rfl : Hp S0 σ0 _ ([_, _] ++ _))) ?_
     rintro _ σq ⟨_, ⟨rfl, rfl⟩, H2, m2⟩
     exact ⟨_, (), rfl, rfl, ⟨H2.sel' [0, 1, 2, 3, 4, 5, 6, 7] rfl rfl, m.comp0 (m2.mono (fun i h => by simp [cov, Ch.ro] at h))⟩, stab [0, 1, 2, 4, 5, 6] (by kernel_rfl) ⟨rfl, rfl, rfl, rfl, rfl, rfl, trivial⟩⟩
    trivial) ?_
  refine all_cons (by
    refine ⟨?_, ?_⟩
    ·intro _nm ρ σm hJ hoff hdep
     have e5 := look_off (N := 16) (hoff 5 rfl) rfl
     obtain ⟨H, m⟩ := id hJ
     have hc15 := H.cells 2 rfl
     exact dp_v (v := (.agg #[(I Cq.1), (Sl Cw Cq.2.1 Cy), (I Cq.2.2)])) wn (rv_load (cs := [(I Cq.1), (Sl Cw Cq.2.1 Cy), (I Cq.2.2)]) Tryz.underlying33 rfl ti33 e5 rfl hc15) rfl hJ
    refine ⟨?_, ?_⟩
    ·intro _nm ρ σm hJ hoff hdep
     have e5 := look_off (N := 16) (hoff 5 rfl) rfl
     obtain ⟨H, m⟩ := id hJ
     have hc15 := H.cells 2 rfl
     exact dp_v (v := (.agg #[(I Cq.1), (Sl Cw Cq.2.1 Cy), (I Cq.2.2)])) wn (rv_load (cs := [(I Cq.1), (Sl Cw Cq.2.1 Cy), (I Cq.2.2)]) Tryz.underlying33 rfl ti33 e5 rfl hc15) rfl hJ
    trivial) ?_
  refine all_cons (by
    refine ⟨?_, ?_⟩
    ·intro _nm ρ σm hJ hoff hdep
     have e2 := look_off (N := 16) (hoff 2 rfl) rfl
     obtain ⟨H, m⟩ := id hJ
     replace hc16 := (Hs.ro 6 rfl).hmd hxp_2 hip_2 (k := 0) (by decide) hc16 m
     exact dp_v (v := (I Cu)) wn (rv_load1 Tryz.underlying3 rfl e2 hc16) rfl hJ
    refine ⟨?_, ?_⟩
    ·intro _nm ρ σm hJ hoff hdep
     have e2 := look_off (N := 16) (hoff 2 rfl) rfl
     obtain ⟨H, m⟩ := id hJ
     replace hc16 := (Hs.ro 6 rfl).hmd hxp_2 hip_2 (k := 0) (by decide) hc16 m
     exact dp_v (v := (I Cu)) wn (rv_load1 Tryz.underlying3 rfl e2 hc16) rfl hJ
    trivial) ?_
  refine all_cons (by
    refine ⟨?_, ?_⟩
    ·intro _nm ρ σm hJ hoff hdep
     have e3 := look_off (N := 16) (hoff 3 rfl) rfl
     obtain ⟨H, m⟩ := id hJ
     replace hc21 := (Hs.ro 7 rfl).hmd hxp_3 hip_3 (k := 0) (by decide) hc21 m
     exact dp_v (v := (Sl a17 Cv c18)) wn (rv_load1 Tryz.underlying31 rfl e3 hc21) rfl hJ
    refine ⟨?_, ?_⟩
    ·intro _nm ρ σm hJ hoff hdep
     have e3 := look_off (N := 16) (hoff 3 rfl) rfl
     obtain ⟨H, m⟩ := id hJ
     replace hc21 := (Hs.ro 7 rfl).hmd hxp_3 hip_3 (k := 0) (by decide) hc21 m
     exact dp_v (v := (Sl a17 Cv c18)) wn (rv_load1 Tryz.underlying31 rfl e3 hc21) rfl hJ
    trivial) ?_
  exact all_nil
 ·intro _nm ρ σ22 hJ hoff hrel
  have e10 := hrel 3 rfl 10 rfl
  have e11 := hrel 4 rfl 11 rfl
  have e12 := hrel 5 rfl 12 rfl
  have e13 := hrel 6 rfl 13 rfl
  obtain ⟨H, -⟩ := (show Hp S0 σ0 σ22 [Ch.ro 0 (Sl a17 Cv c18) Cv, Ch.ro 0 (Sl a7 Cv c8) Cv, Ch.bx n0 b3 0 [(I Cq.1), (Sl Cw Cq.2.1 Cy), (I Cq.2.2)] [] [], Ch.bx n0 b1 0 [(I Bj.1), (Sl Bk Bj.2.1 Bl), (I Bj.2.2)] [] [], Ch.ro 0 (Sl Bk Bj.2.1 Bl) Bj.2.1, Ch.ro 0 (Sl Cw Cq.2.1 Cy) Cq.2.1, Ch.ro 0 (Sl (some ⟨Cz, Da, none⟩) ([Cu] : List Int) 1) ([Cu] : List Int), Ch.ro 0 (Sl (some ⟨Db, Dc, none⟩) ([Cv] : List (List Int)) 1) ([Cv] : List (List Int))] ∧ Md (cov []) σ4 σ22 from hJ)
  clear hJ Hs
  rw [fr_lookL (L := [(10, (.agg #[(I r12.1), (I r12.2)])), (11, (.agg #[(I Cq.1), (Sl Cw Cq.2.1 Cy), (I Cq.2.2)])), (12, (I Cu)), (13, (Sl a17 Cv c18))]) ⟨e10, e11, e12, e13, trivial⟩]
  clear hoff hrel e10 e11 e12 e13
  revert h; refine br fun r23 hx24 h => ?_
  have hc25 := c_impl_hitOf (Bk := Cw) (Bl := Cy) (Cn := a17) (Cp := c18) hx24
  refine st_call (cx_call hc25 (ent_f hc25.fn rfl) hn0 (H.sel' [5, 0, 0, 1, 2, 3, 4, 5, 6, 7] rfl rfl : Hp S0 σ0 _ ([_, _] ++ _))) wn ?_
  rintro _ σ26 ⟨_, ⟨rfl, rfl⟩, H, -⟩
  replace H : Hp _ _ _ [_, _, _, _, _, _, _, _] := H
  replace H : Hp S0 σ0 σ26 [] := H.sel' [] rfl rfl
  revert h; refine br fun r27 hx28 h => ?_
  have hc29 := c_impl_compareHits hx28
  refine st_call (cx_call hc29 (ent_f hc29.fn rfl) hn0 (H.sel' [] rfl rfl : Hp S0 σ0 _ ([] ++ _))) wn ?_
  rintro _ σ30 ⟨_, ⟨rfl, rfl⟩, H, -⟩
  replace H : Hp _ _ _ [] := H
  refine sa (I r27) rfl (w_end (q_then (c_ret ?_)))
  obtain rfl := sj h
  exact fin_ret (v := (I r27)) (results_ok Tryz.results88 (res_tmp (v := (I r27)) rfl res_nil) rfl) ⟨rfl, rfl⟩ (H.sel' [] rfl rfl)

def sort87_ren : Go.Shelf.Ren := ⟨fun | 6 => 87 | 15 => 83 | 14 => 112 | 28 => 109 | 29 => 110 | 20 => 123 | 21 => 124 | 22 => 125 | 23 => 126 | 24 => 127 | 25 => 128 | 26 => 129 | 27 => 130 | 46 => 137 | 47 => 118 | 48 => 119 | 49 => 138 | 50 => 139 | 57 => 142 | n => n, fun | 22 => 23 | 24 => 33 | 25 => 104 | 3 => 3 | 39 => 101 | 0 => 0 | 53 => 121 | 55 => 123 | 4 => 4 | 46 => 115 | 45 => 114 | 50 => 63 | 5 => 5 | 9 => 9 | 66 => 134 | 70 => 138 | 76 => 156 | 77 => 157 | n => n, fun | n => n⟩
theorem sort87 : Go.Proofs.SlLaysF0.n6 Tryz.prog sort87_ren := {
  mixed := by kernel_rfl
  f6 := ⟨Tryz.f87.name, by decide, Tryz.func87.trans (congrArg some (by kernel_rfl))⟩
  f14 := ⟨Tryz.f112.name, by decide, Tryz.func112.trans (congrArg some (by kernel_rfl))⟩
  f15 := Tryz.func83.trans (congrArg some (by kernel_rfl))
  f20 := ⟨Tryz.f123.name, by decide, Tryz.func123.trans (congrArg some (by kernel_rfl))⟩
  f21 := ⟨Tryz.f124.name, by decide, Tryz.func124.trans (congrArg some (by kernel_rfl))⟩
  f22 := ⟨Tryz.f125.name, by decide, Tryz.func125.trans (congrArg some (by kernel_rfl))⟩
  f23 := ⟨Tryz.f126.name, by decide, Tryz.func126.trans (congrArg some (by kernel_rfl))⟩
  f24 := ⟨Tryz.f127.name, by decide, Tryz.func127.trans (congrArg some (by kernel_rfl))⟩
  f25 := ⟨Tryz.f128.name, by decide, Tryz.func128.trans (congrArg some (by kernel_rfl))⟩
  f26 := ⟨Tryz.f129.name, by decide, Tryz.func129.trans (congrArg some (by kernel_rfl))⟩
  f27 := ⟨Tryz.f130.name, by decide, Tryz.func130.trans (congrArg some (by kernel_rfl))⟩
  f28 := Tryz.func109.trans (congrArg some (by kernel_rfl))
  f29 := Tryz.func110.trans (congrArg some (by kernel_rfl))
  f46 := ⟨Tryz.f137.name, by decide, Tryz.func137.trans (congrArg some (by kernel_rfl))⟩
  f47 := Tryz.func118.trans (congrArg some (by kernel_rfl))
  f48 := Tryz.func119.trans (congrArg some (by kernel_rfl))
  f49 := ⟨Tryz.f138.name, by decide, Tryz.func138.trans (congrArg some (by kernel_rfl))⟩
  f50 := ⟨Tryz.f139.name, by decide, Tryz.func139.trans (congrArg some (by kernel_rfl))⟩
  f57 := ⟨Tryz.f142.name, by decide, Tryz.func142.trans (congrArg some (by kernel_rfl))⟩
  t0 := Tryz.underlying0
  a0 := Tryz.isAgg0
  z0 := Tryz.sizeOf0
  v0 := Tryz.zeroValue0
  t3 := Tryz.underlying3
  a3 := Tryz.isAgg3
  z3 := Tryz.sizeOf3
  v3 := Tryz.zeroValue3
  t4 := Tryz.underlying4
  a4 := Tryz.isAgg4
  z4 := Tryz.sizeOf4
  v4 := Tryz.zeroValue4
  t5 := Tryz.underlying5
  a5 := Tryz.isAgg5
  z5 := Tryz.sizeOf5
  v5 := Tryz.zeroValue5
  t9 := Tryz.underlying9
  a9 := Tryz.isAgg9
  z9 := Tryz.sizeOf9
  v9 := Tryz.zeroValue9
  t22 := Tryz.underlying23
  a22 := Tryz.isAgg23
  z22 := Tryz.sizeOf23
  v22 := Tryz.zeroValue23
  t25 := Tryz.underlying104
  a25 := Tryz.isAgg104
  z25 := Tryz.sizeOf104
  v25 := Tryz.zeroValue104
  t39 := Tryz.underlying101
  a39 := Tryz.isAgg101
  z39 := Tryz.sizeOf101
  v39 := Tryz.zeroValue101
  t45 := Tryz.underlying114
  a45 := Tryz.isAgg114
  z45 := Tryz.sizeOf114
  v45 := Tryz.zeroValue114
  t46 := Tryz.underlying115
  a46 := Tryz.isAgg115
  z46 := Tryz.sizeOf115
  v46 := Tryz.zeroValue115
  t50 := Tryz.underlying63
  a50 := Tryz.isAgg63
  z50 := Tryz.sizeOf63
  v50 := Tryz.zeroValue63
  t53 := Tryz.underlying121
  a53 := Tryz.isAgg121
  z53 := Tryz.sizeOf121
  v53 := Tryz.zeroValue121
  t55 := Tryz.underlying123
  a55 := Tryz.isAgg123
  z55 := Tryz.sizeOf123
  v55 := Tryz.zeroValue123
  t66 := Tryz.underlying134
  a66 := Tryz.isAgg134
  z66 := Tryz.sizeOf134
  v66 := Tryz.zeroValue134
  t70 := Tryz.underlying138
  a70 := Tryz.isAgg138
  z70 := Tryz.sizeOf138
  v70 := Tryz.zeroValue138
  t76 := Tryz.underlying156
  a76 := Tryz.isAgg156
  z76 := Tryz.sizeOf156
  v76 := Tryz.zeroValue156
  t77 := Tryz.underlying157
  a77 := Tryz.isAgg157
  z77 := Tryz.sizeOf157
  v77 := Tryz.zeroValue157 }

theorem c_slices_SortFunc_impl_Item_impl_Item__impl_sortByDistance_1 {Bj : List (Int × (List Int) × Int)} {Dd : Int} {De : List Int} {Dg : Option Addr} {Dh : Nat} {Di Dj Dk : Nat} {Dm Dn : List Value} {Do : Option Addr} {Dq : Nat} {Dr Ds Dt : Nat} {Du Dv : List Value} {r : List (Int × (List Int) × Int)} (h : M.slices_SortFunc_impl_Item_impl_Item__impl_sortByDistance_1 Bj Dd De = some r) :
    Cal2 Tryz.prog 87 [(Sl Dg Bj Dh), (.func (.func 88) #[] #[(pt Dj Dk), (pt Ds Dt)])] [Ch.own 0 0 (Sl Dg Bj Dh) Bj, Ch.bx Di Dj Dk [(I Dd)] Dm Dn, Ch.bx Dr Ds Dt [(Sl Do De Dq)] Du Dv, Ch.ro 0 (Sl Do De Dq) De] (fun n0 v L => v = (.tuple #[]) ∧ L = [Ch.own 0 0 (Sl Dg r Dh) r, Ch.bx Di Dj Dk [(I Dd)] Dm Dn, Ch.bx Dr Ds Dt [(Sl Do De Dq)] Du Dv] ∧ r.length = Bj.length) := by
 obtain ⟨hn, hs, hL, rfl⟩ := sortD_some h
 have hE : ∀ σ σ' : St, Ext σ σ' → (RS 0 σ (Sl (some ⟨Dj, Dk, none⟩) ([Dd] : List Int) 1) ([Dd] : List Int) ∧ RS 0 σ (Sl (some ⟨Ds, Dt, none⟩) ([De] : List (List Int)) 1) ([De] : List (List Int)) ∧ RS 0 σ (Sl Do De Dq) De) → (RS 0 σ' (Sl (some ⟨Dj, Dk, none⟩) ([Dd] : List Int) 1) ([Dd] : List Int) ∧ RS 0 σ' (Sl (some ⟨Ds, Dt, none⟩) ([De] : List (List Int)) 1) ([De] : List (List Int)) ∧ RS 0 σ' (Sl Do De Dq) De) := fun σ σ' hE hp => ⟨hp.1.ext hE, hp.2.1.ext hE, hp.2.2.ext hE⟩
 have hB : ∀ σ : St, allAs σ [Ch.bx Di Dj Dk [(I Dd)] Dm Dn, Ch.bx Dr Ds Dt [(Sl Do De Dq)] Du Dv, Ch.ro 0 (Sl Do De Dq) De] → apart [Ch.bx Di Dj Dk [(I Dd)] Dm Dn, Ch.bx Dr Ds Dt [(Sl Do De Dq)] Du Dv, Ch.ro 0 (Sl Do De Dq) De] → ∃ σp, Pb (cov [Ch.bx Di Dj Dk [(I Dd)] Dm Dn, Ch.bx Dr Ds Dt [(Sl Do De Dq)] Du Dv, Ch.ro 0 (Sl Do De Dq) De]) σ σp ∧ (RS 0 σp (Sl (some ⟨Dj, Dk, none⟩) ([Dd] : List Int) 1) ([Dd] : List Int) ∧ RS 0 σp (Sl (some ⟨Ds, Dt, none⟩) ([De] : List (List Int)) 1) ([De] : List (List Int)) ∧ RS 0 σp (Sl Do De Dq) De) := by
     intro σ hA hP
     obtain ⟨σ0, p0, r0, a0⟩ := pubBox (α := Int) (x := Dd) hA hP (by exact rfl)
     obtain ⟨σ1, p1, r1, a1⟩ := pubBox (α := List Int) (x := De) a0 hP.2 (by exact ⟨_, rfl, (a0.2.1 : RS 0 σ0 (Sl Do De Dq) De)⟩)
     exact ⟨σ1, (p0.trans p1).mono (fun i h => h.elim (fun h => .inl h) (fun h => .inr (.inl h))), (r0.ext p1.md.ext), r1, a1.1⟩
 have hC : ∀ σ : St, (RS 0 σ (Sl (some ⟨Dj, Dk, none⟩) ([Dd] : List Int) 1) ([Dd] : List Int) ∧ RS 0 σ (Sl (some ⟨Ds, Dt, none⟩) ([De] : List (List Int)) 1) ([De] : List (List Int)) ∧ RS 0 σ (Sl Do De Dq) De) → ∀ x ∈ Bj, ∀ y ∈ Bj, ∀ cx cy, Rp.rp 0 σ cx x → Rp.rp 0 σ cy y → Calls Tryz.prog 88 ([Value.agg cx.toArray, Value.agg cy.toArray] ++ [(pt Dj Dk), (pt Ds Dt)]).toArray σ.w fun e w' => e = .returned (I ((M.impl_sortByDistance_1__p3__p24 (x.1, x.2.1, x.2.2) (y.1, y.2.1, y.2.2) Dd De).getD 0)) ∧ ∃ q os, w' = Go.Sort.grow (σ.w.drewN q) os := by
     intro σ hp x hx y hy cx cy rx ry
     obtain ⟨r, hr⟩ := hs x hx y hy
     obtain ⟨_, _, rfl, rfl, ⟨_, _, rfl, ⟨_, rfl, hRx_1⟩, rfl⟩⟩ := rx
     obtain ⟨_, _, rfl, rfl, ⟨_, _, rfl, ⟨_, rfl, hRy_1⟩, rfl⟩⟩ := ry
     obtain ⟨ax_1, cx_1, rfl⟩ := hRx_1.isSl
     obtain ⟨ay_1, cy_1, rfl⟩ := hRy_1.isSl
     have hc := c_impl_sortByDistance_1__p3__p24 (Bk := ax_1) (Bl := cx_1) (Cw := ay_1) (Cy := cy_1) (Cz := Dj) (Da := Dk) (Db := Ds) (Dc := Dt) hr
     refine (hc.runs σ 0 (Nat.zero_le _) (Hp.begin ⟨hRx_1, ⟨hRy_1, ⟨hp.1, ⟨hp.2.1, trivial⟩⟩⟩⟩ ⟨fun _ h => h.elim, ⟨fun _ h => h.elim, ⟨fun _ h => h.elim, ⟨fun _ h => h.elim, trivial⟩⟩⟩⟩)).mono ?_
     rintro e w' ⟨v, σ', L', rfl, rfl, ⟨rfl, -⟩, H⟩
     exact ⟨by rw [hr]; rfl, (H.md.mono fun i => fun h => h.elim (fun h => h.elim) (fun h => h.elim (fun h => h.elim) (fun h => h.elim (fun h => h.elim) (fun h => h.elim (fun h => h.elim) (fun h => h))))).grown⟩
 refine (sort_cal2 (α := (Int × (List Int) × Int)) sort87 Tryz.isAgg33 Tryz.sizeOf33 (xs := Bj) (a := Dg) (c := Dh) (g := 88) (cb := [(pt Dj Dk), (pt Ds Dt)]) (B := [Ch.bx Di Dj Dk [(I Dd)] Dm Dn, Ch.bx Dr Ds Dt [(Sl Do De Dq)] Du Dv, Ch.ro 0 (Sl Do De Dq) De]) (fun x y => (M.impl_sortByDistance_1__p3__p24 (x.1, x.2.1, x.2.2) (y.1, y.2.1, y.2.2) Dd De).getD 0) hL hn ⟨_, _, Tryz.func88, rfl, rfl⟩ _ hE hB hC).conv ?_
 rintro m v L ⟨rfl, rfl⟩
 exact ⟨_, ⟨rfl, rfl, sortL_len⟩, fun H => H.sel' [0, 1, 2] rfl rfl⟩

theorem c_impl_sortByDistance {Az : List (Int × (List Int) × Int)} {Bv : Int} {Cm : List Int} {Ba : Option Addr} {Bb : Nat} {Cn : Option Addr} {Cp : Nat} {r : (List (Int × (List Int) × Int))} (h : M.impl_sortByDistance Az Bv Cm = some r) :
    Cal2 Tryz.prog 64 [(Sl Ba Az Bb), (I Bv), (Sl Cn Cm Cp)] [Ch.ro 0 (Sl Ba Az Bb) Az, Ch.ro 0 (Sl Cn Cm Cp) Cm] (fun n0 v L => ∃ (az1 : Option Addr), ∃ (cz2 : Nat), v = (Sl az1 r cz2) ∧ L = [Ch.own 0 0 (Sl az1 r cz2) r]) := by
 refine cal2 (n := 14) Tryz.func64 rfl rfl rfl rfl ?_
 intro S0 σ0 n0 hn0 H
 unfold M.impl_sortByDistance at h
 refine c_seq (rg (st_ex (ex_box (cs := [(I Bv)]) H hn0 rfl rfl) wn ?_))
 rintro _ σ2 ⟨b1, rfl, H, -⟩
 refine st_ex (ex_box (cs := [(Sl Cn Cm Cp)]) H hn0 rfl rfl) wn ?_
 rintro _ σ4 ⟨b3, rfl, H, -⟩
 refine sa (.slice none 0 0) rfl (w_end (q_then (c_seq (rg (sm (Sl Ba Az Bb) rfl ?_)))))
 revert h; refine br fun r5 hx6 h => ?_
 have hc7 := c_slices_Clone_impl_Item_impl_Item (Bz := Ba) (Ca := Bb) hx6
 refine st_call (cx_call hc7 (ent_f hc7.fn rfl) hn0 (H.sel' [2, 0, 1, 2, 3] rfl rfl : Hp S0 σ0 _ ([_] ++ _))) wn ?_
 rintro _ σ10 ⟨_, ⟨a8, c9, rfl, rfl⟩, H, -⟩
 replace H : Hp _ _ _ [_, _, _, _, _] := H
 refine sa (Sl a8 r5 c9) rfl (w_end (q_then (c_seq (rg (sm (Sl a8 r5 c9) rfl (st (v := (.func (.func 88) #[] #[(pt b1 0), (pt b3 0)])) (rv_makeFunc (vs := [(pt b1 0), (pt b3 0)]) rfl) ?_))))))
 replace H := H.ownLow 0 0 0 rfl (Nat.zero_le _) (Nat.zero_le _)
 revert h; refine br fun r11 hx12 h => ?_
 have hc13 := c_slices_SortFunc_impl_Item_impl_Item__impl_sortByDistance_1 (Dg := a8) (Dh := c9) (Di := n0) (Dj := b1) (Dk := 0) (Dm := []) (Dn := []) (Dr := n0) (Ds := b3) (Dt := 0) (Du := []) (Dv := []) (Do := Cn) (Dq := Cp) hx12
 refine st_call (cx_call hc13 (ent_f hc13.fn rfl) hn0 (H.sel' [0, 2, 1, 4, 3, 4] rfl rfl : Hp S0 σ0 _ ([_, _, _, _] ++ _))) wn ?_
 rintro _ σ15 ⟨_, ⟨rfl, rfl, hn14⟩, H, -⟩
 replace H : Hp _ _ _ [_, _, _, _, _] := H
 have hsl : (Sl a8 r5 c9) = (Sl a8 r11 c9) := sl_len hn14.symm
 try rw [hsl]
 try rw [hsl] at H
 clear hsl
 refine w_end (q_then (c_seq (rg (sm (Sl a8 r11 c9) rfl (sa (Sl a8 r11 c9) rfl (w_end (q_then (c_ret ?_))))))))
 obtain rfl := sj h
 exact fin_ret (v := (Sl a8 r11 c9)) (results_ok Tryz.results64 (res_tmp (v := (Sl a8 r11 c9)) rfl res_nil) rfl) ⟨a8, c9, rfl, rfl⟩ (H.sel' [0] rfl rfl)

theorem c_impl_linkItems_1__p_impl_Item {Dw : Int × (List Int) × Int} {Dx : Int × (List Int) × Int} {Dy : Option Addr} {Dz : Nat} {Ea : Option Addr} {Eb : Nat} {Ec Ed Ee : Nat} {Ef Eg : List Value} {r : Bool} (h : M.impl_linkItems_1__p_impl_Item Dw Dx = some r) :
    Cal2 Tryz.prog 63 [(.agg #[(I Dw.1), (Sl Dy Dw.2.1 Dz), (I Dw.2.2)]), (pt Ed Ee)] [Ch.ro 0 (Sl Dy Dw.2.1 Dz) Dw.2.1, Ch.bx Ec Ed Ee [(I Dx.1), (Sl Ea Dx.2.1 Eb), (I Dx.2.2)] Ef Eg, Ch.ro 0 (Sl Ea Dx.2.1 Eb) Dx.2.1] (fun n0 v L => v = (B r) ∧ L = [Ch.bx Ec Ed Ee [(I Dx.1), (Sl Ea Dx.2.1 Eb), (I Dx.2.2)] Ef Eg]) := by
 refine cal2 (n := 9) Tryz.func63 rfl rfl rfl rfl ?_
 intro S0 σ0 n0 hn0 H
 unfold M.impl_linkItems_1__p_impl_Item at h
 refine c_seq (rg (st_ex (ex_box (cs := [(I Dw.1), (Sl Dy Dw.2.1 Dz), (I Dw.2.2)]) H hn0 rfl rfl) wn ?_))
 rintro _ σ2 ⟨b1, rfl, H, -⟩
 refine sa (B false) rfl (w_end (q_then (c_seq (rg (st (v := (pt b1 0)) (rv_fieldAddr (off := 0) (ft := 3) Tryz.underlying33 rfl ti3 rfl rfl) ?_)))))
 have hc3 := H.cell (u := (I Dw.1)) (o' := 0) 0 0 rfl rfl rfl
 refine st (v := (I Dw.1)) (rv_load1 Tryz.underlying3 rfl rfl hc3) (st (v := (pt Ed Ee)) (rv_fieldAddr (off := 0) (ft := 3) Tryz.underlying33 rfl ti3 rfl rfl) ?_)
 have hc4 := H.cell (u := (I Dx.1)) (o' := Ee) 2 0 rfl rfl rfl
 refine st (v := (I Dx.1)) (rv_load1 Tryz.underlying3 rfl rfl hc4) (st (v := (B (Dw.1 != Dx.1))) (rv_neq (a := Dw.1) (b := Dx.1) rfl rfl) (sa (B (Dw.1 != Dx.1)) rfl (w_end (q_then (c_ret ?_)))))
 obtain rfl := sj h
 exact fin_ret (v := (B (Dw.1 != Dx.1))) (results_ok Tryz.results63 (res_tmp (v := (B (Dw.1 != Dx.1))) rfl res_nil) rfl) ⟨rfl, rfl⟩ (H.sel' [2] rfl rfl)

theorem c_impl_itemsThat__impl_linkItems_1 {Az : List (Int × (List Int) × Int)} {Eh : Int × (List Int) × Int} {Ba : Option Addr} {Bb : Nat} {Ei : Option Addr} {Ej : Nat} {Ek El Em : Nat} {En Eo : List Value} {r : (List (Int × (List Int) × Int))} (h : M.impl_itemsThat__impl_linkItems_1 Az Eh = some r) :
    Cal2 Tryz.prog 62 [(Sl Ba Az Bb), (.func (.func 63) #[] #[(pt El Em)])] [Ch.ro 0 (Sl Ba Az Bb) Az, Ch.bx Ek El Em [(I Eh.1), (Sl Ei Eh.2.1 Ej), (I Eh.2.2)] En Eo, Ch.ro 0 (Sl Ei Eh.2.1 Ej) Eh.2.1] (fun n0 v L => ∃ (az1 : Option Addr), ∃ (cz2 : Nat), v = (Sl az1 r cz2) ∧ L = [Ch.own n0 0 (Sl az1 r cz2) r, Ch.bx Ek El Em [(I Eh.1), (Sl Ei Eh.2.1 Ej), (I Eh.2.2)] En Eo]) := by
 refine cal2 (n := 23) Tryz.func62 rfl rfl rfl rfl ?_
 intro S0 σ0 n0 hn0 H
 unfold M.impl_itemsThat__impl_linkItems_1 at h
 refine c_seq (rg (sa (.slice none 0 0) rfl (w_end (q_then (c_seq (rg (sa (.slice none 0 0) rfl (w_end (q_then (c_seq (c_seq ?_)))))))))))
 refine rg (sm (Sl Ba Az Bb) rfl (st (v := (I (Az.length : Int))) (rv_len Tryz.underlying23 rfl) (sm (I 0) rfl (w_end (q_then ?_)))))
 obtain ⟨o1, hj, h'⟩ := bind_some h
 clear h
 refine c_cut (fun e a w => e = .normal ∧ ∃ (ρ : Nat → Value) (σ : St) (aj1 : Option Addr) (cj2 : Nat), a = fr 23 (updL ρ [(1, (.func (.func 63) #[] #[(pt El Em)])), (5, (Sl aj1 o1 cj2))]) ∧ w = σ.w ∧ Hp S0 σ0 σ [Ch.ro 0 (Sl Ei Eh.2.1 Ej) Eh.2.1, Ch.bx Ek El Em [(I Eh.1), (Sl Ei Eh.2.1 Ej), (I Eh.2.2)] En Eo, Ch.own n0 0 (Sl aj1 o1 cj2) o1]) ?_ ?_
 ·clear h'
  rename _ = some o1 => h
  refine c_blk ?_
  replace H := H.nilOwn (Int × (List Int) × Int) n0 0
  refine wp_loopM _ h (fun s2 a w => ∃ (ρ : Nat → Value) (σ : St) (aj1 : Option Addr) (cj2 : Nat), a = fr 23 (updL ρ [(1, (.func (.func 63) #[] #[(pt El Em)])), (5, (Sl aj1 s2.1 cj2)), (8, (Sl Ba Az Bb)), (9, (I (Az.length : Int))), (10, (I s2.2))]) ∧ w = σ.w ∧ Hp S0 σ0 σ [Ch.ro 0 (Sl Ei Eh.2.1 Ej) Eh.2.1, Ch.bx Ek El Em [(I Eh.1), (Sl Ei Eh.2.1 Ej), (I Eh.2.2)] En Eo, Ch.own n0 0 (Sl aj1 s2.1 cj2) s2.1, Ch.ro 0 (Sl Ba Az Bb) Az]) ⟨_, σ0, none, 0, fr_join ⟨rfl, rfl, rfl, rfl, rfl, trivial⟩, rfl, H.sel' [3, 2, 0, 1] rfl rfl⟩ ?_
  clear h H
  rintro s2 a w o ⟨ρ, σ3, a4, c5, rfl, rfl, H⟩ h hres
  refine c_seq (rg (st (v := (B (decide (s2.2 < (Az.length : Int))))) (rv_lss (a := s2.2) (b := (Az.length : Int)) rfl rfl) (w_end (q_then (c_seq ?_)))))
  refine cd_cond (decide (s2.2 < (Az.length : Int))) rfl (fun hb6 => ?_) (fun hb6 => ?_)
  ·replace h := bif_t hb6 h
   refine c_skip (q_then (c_seq ?_))
   obtain ⟨o7, hj, h'⟩ := bind_some h
   clear h
   refine c_cut (fun e a w => e = .normal ∧ ∃ (ρ : Nat → Value) (σ : St) (aj1 : Option Addr) (cj2 : Nat), a = fr 23 (updL ρ [(1, (.func (.func 63) #[] #[(pt El Em)])), (5, (Sl aj1 o7 cj2)), (8, (Sl Ba Az Bb)), (9, (I (Az.length : Int))), (10, (I s2.2))]) ∧ w = σ.w ∧ Hp S0 σ0 σ [Ch.ro 0 (Sl Ei Eh.2.1 Ej) Eh.2.1, Ch.bx Ek El Em [(I Eh.1), (Sl Ei Eh.2.1 Ej), (I Eh.2.2)] En Eo, Ch.own n0 0 (Sl aj1 o7 cj2) o7, Ch.ro 0 (Sl Ba Az Bb) Az]) ?_ ?_
   ·clear h'
    rename _ = some o7 => h
    refine c_blk (c_seq (rg ?_))
    revert h; refine br fun x8 hx9 h => ?_
    obtain ⟨b11, o12, hi10, -⟩ := (H.ro 3 rfl).ix hx9
    refine st (v := (pt b11 o12)) (rv_ix Tryz.underlying23 ti33 rfl rfl hi10) ?_
    obtain ⟨_, ⟨_, _, rfl, rfl, ⟨_, _, rfl, ⟨_, rfl, hR17⟩, rfl⟩⟩, hl13, hc14⟩ := ((H.ro 3 rfl).at hx9 hi10).cells
    obtain ⟨a15, c16, rfl⟩ := hR17.isSl
    replace H := H.add (d := Ch.ro 0 (Sl a15 x8.2.1 c16) x8.2.1) hR17 (fun _ h => h)
    clear hR17
    refine st (v := (.agg #[(I x8.1), (Sl a15 x8.2.1 c16), (I x8.2.2)])) (rv_load Tryz.underlying33 rfl ti33 rfl hl13 hc14) (st_ex (ex_alloc (cs := [(I 0), (.slice none 0 0), (I 0)]) H hn0 ti33 rfl) wn ?_)
    rintro _ σ19 ⟨b18, rfl, H, -⟩
    refine st_exS (ex_store_box (k := 0) (cs := [(I 0), (.slice none 0 0), (I 0)]) (vs := [(I x8.1), (Sl a15 x8.2.1 c16), (I x8.2.2)]) (cs' := [(I x8.1), (Sl a15 x8.2.1 c16), (I x8.2.2)]) H (i := 0) rfl ti33 rfl rfl rfl rfl rfl (Nat.le_of_ble_eq_true rfl) (by simp [plain]) rfl) wn ?_
    rintro σ20 ⟨H, -⟩
    refine w_end (q_then (c_seq (rg (sm (.func (.func 63) #[] #[(pt El Em)]) rfl ?_))))
    have hc21 := H.cells 0 rfl
    refine st (v := (.agg #[(I x8.1), (Sl a15 x8.2.1 c16), (I x8.2.2)])) (rv_load (cs := [(I x8.1), (Sl a15 x8.2.1 c16), (I x8.2.2)]) Tryz.underlying33 rfl ti33 rfl rfl hc21) ?_
    revert h; refine br fun r22 hx23 h => ?_
    have hc24 := c_impl_linkItems_1__p_impl_Item (Dy := a15) (Dz := c16) (Ec := Ek) (Ed := El) (Ee := Em) (Ef := En) (Eg := Eo) (Ea := Ei) (Eb := Ej) hx23
    refine st_call (cx_call hc24 (ent_v (cap := [(pt El Em)]) hc24.fn rfl rfl) hn0 (H.sel' [1, 3, 2, 0, 1, 2, 4, 5] rfl rfl : Hp S0 σ0 _ ([_, _, _] ++ _))) wn ?_
    rintro _ σ25 ⟨_, ⟨rfl, rfl⟩, H, -⟩
    replace H : Hp _ _ _ [_, _, _, _, _, _] := H
    refine w_end (q_then ?_)
    refine cd_cond r22 rfl (fun hb26 => ?_) (fun hb26 => ?_)
    ·replace h := bif_t hb26 h
     refine rg (sm (Sl a4 s2.1 c5) rfl ?_)
     have hc27 := H.cells 1 rfl
     refine st (v := (.agg #[(I x8.1), (Sl a15 x8.2.1 c16), (I x8.2.2)])) (rv_load (cs := [(I x8.1), (Sl a15 x8.2.1 c16), (I x8.2.2)]) Tryz.underlying33 rfl ti33 rfl rfl hc27) ?_
     refine st_ex (ex_buildSlice (el := 0) (xs := ([(x8.1, x8.2.1, x8.2.2)] : List (Int × (List Int) × Int))) (ps := [(0, (.agg #[(I x8.1), (Sl a15 x8.2.1 c16), (I x8.2.2)]))]) (cs := [(I x8.1), (Sl a15 x8.2.1 c16), (I x8.2.2)]) H hn0 Tryz.underlying23 ti33 rfl rfl (by kernel_rfl) (.cons (c := [(I x8.1), (Sl a15 x8.2.1 c16), (I x8.2.2)]) ⟨[(I x8.1)], [(Sl a15 x8.2.1 c16), (I x8.2.2)], rfl, rfl, ⟨[(Sl a15 x8.2.1 c16)], [(I x8.2.2)], rfl, ⟨_, rfl, (H.ro 2 rfl)⟩, rfl⟩⟩ (.nil)) rfl) wn ?_
     rintro _ σ29 ⟨b28, rfl, H, -⟩
     revert h; refine br fun xs30 hx31 h => ?_
     refine st_ex (ex_append H (i := 5) rfl Tryz.underlying23 Tryz.underlying23 ti33 rfl rfl (by decide) (H.own 0 rfl).rd hx31 hn0 rfl rfl) wn ?_
     rintro _ σ34 ⟨a32, c33, rfl, H, -⟩
     refine sa (Sl a32 xs30 c33) rfl (w_end (q_blk ?_))
     obtain rfl := sj h
     exact ⟨rfl, _, σ34, a32, c33, fr_join ⟨rfl, rfl, rfl, rfl, rfl, trivial⟩, rfl, H.sel' [5, 2, 0, 6] rfl rfl⟩
    ·replace h := bif_f hb26 h
     refine c_skip (q_blk ?_)
     obtain rfl := sj h
     exact ⟨rfl, _, σ25, a4, c5, fr_join ⟨rfl, rfl, rfl, rfl, rfl, trivial⟩, rfl, H.sel' [3, 0, 4, 5] rfl rfl⟩
   ·clear hj
    have h := h'
    clear h' H
    rintro e a w ⟨rfl, ρ, σ35, a36, c37, rfl, rfl, H⟩
    refine q_then (rg (st (v := (I (w64 (s2.2 + 1)))) (rv_add (a := s2.2) (b := 1) rfl rfl) (sm (I (w64 (s2.2 + 1))) rfl (w_end (q_then ?_)))))
    obtain rfl := sj h
    exact ⟨_, rfl, _, σ35, a36, c37, fr_join ⟨rfl, rfl, rfl, rfl, rfl, trivial⟩, rfl, H.sel' [0, 1, 2, 3] rfl rfl⟩
  ·replace h := bif_f hb6 h
   refine c_exit (q_then_x (q_then_x (q_blk_hit ?_)))
   obtain rfl := sj h
   obtain rfl := hres _ rfl
   exact ⟨rfl, _, σ3, a4, c5, fr_join ⟨rfl, rfl, trivial⟩, rfl, H.sel' [0, 1, 2] rfl rfl⟩
 ·clear hj
  have h := h'
  clear h' H
  rintro e a w ⟨rfl, ρ, σ38, a39, c40, rfl, rfl, H⟩
  refine q_then (c_seq (rg (sm (Sl a39 o1 c40) rfl (sa (Sl a39 o1 c40) rfl (w_end (q_then (c_ret ?_)))))))
  obtain rfl := sj h
  exact fin_ret (v := (Sl a39 o1 c40)) (results_ok Tryz.results62 (res_tmp (v := (Sl a39 o1 c40)) rfl res_nil) rfl) ⟨a39, c40, rfl, rfl⟩ (H.sel' [2, 1] rfl rfl)

theorem c_impl_linkItems {Az : List (Int × (List Int) × Int)} {Bv : Int} {Bw : Int} {Ba : Option Addr} {Bb : Nat} {r : (List (Int × (List (Int × (List Int) × Int))))} (h : M.impl_linkItems Az Bv Bw = some r) :
    Cal2 Tryz.prog 31 [(Sl Ba Az Bb), (I Bv), (I Bw)] [Ch.ro 0 (Sl Ba Az Bb) Az] (fun n0 v L => ∃ (bz1 : Nat), ∃ (Kz2 : List Ch), v = (.map (some bz1)) ∧ L = [Ch.big Kz2] ∧ Mp 0 0 bz1 r Kz2) := by
 refine cal2 (n := 38) Tryz.func31 rfl rfl rfl rfl ?_
 intro S0 σ0 n0 hn0 H
 unfold M.impl_linkItems at h
 refine c_seq (rg (sa (.map none) rfl (w_end (q_then (c_seq (rg (st_ex (ex_makeMap (lo := 0) (Int × (List Int) × Int) 0 H (Nat.zero_le _)) wn ?_)))))))
 rintro _ σ4 ⟨b1, K2, rfl, hK3, H, -⟩
 refine sa (.map (some b1)) rfl (w_end (q_then (c_seq (c_seq (rg (sm (Sl Ba Az Bb) rfl (st (v := (I (Az.length : Int))) (rv_len Tryz.underlying23 rfl) (sm (I 0) rfl (w_end (q_then ?_))))))))))
 obtain ⟨o5, hj, h'⟩ := bind_some h
 clear h
 refine c_cut (fun e a w => e = .normal ∧ ∃ (ρ : Nat → Value) (σ : St) (bj1 : Nat) (Kj2 : List Ch), a = fr 38 (updL ρ [(7, (.map (some bj1)))]) ∧ w = σ.w ∧ Hp S0 σ0 σ [Ch.big Kj2] ∧ Mp 0 0 bj1 o5 Kj2) ?_ ?_
 ·clear h'
  rename _ = some o5 => h
  refine c_blk (wp_loopM _ h (fun s6 a w => ∃ (ρ : Nat → Value) (σ : St) (bj1 : Nat) (Kj2 : List Ch), a = fr 38 (updL ρ [(0, (Sl Ba Az Bb)), (1, (I Bv)), (2, (I Bw)), (7, (.map (some bj1))), (13, (Sl Ba Az Bb)), (14, (I (Az.length : Int))), (15, (I s6.2))]) ∧ w = σ.w ∧ Hp S0 σ0 σ [Ch.ro 0 (Sl Ba Az Bb) Az, Ch.big Kj2] ∧ Mp 0 0 bj1 s6.1 Kj2) ⟨_, σ4, b1, K2, fr_join ⟨rfl, rfl, rfl, rfl, rfl, rfl, rfl, trivial⟩, rfl, H.sel' [1, 0] rfl rfl, hK3⟩ ?_)
  clear h H
  rintro s6 a w o ⟨ρ, σ7, b8, K9, rfl, rfl, H, hK10⟩ h hres
  refine c_seq (rg (st (v := (B (decide (s6.2 < (Az.length : Int))))) (rv_lss (a := s6.2) (b := (Az.length : Int)) rfl rfl) (w_end (q_then (c_seq ?_)))))
  refine cd_cond (decide (s6.2 < (Az.length : Int))) rfl (fun hb11 => ?_) (fun hb11 => ?_)
  ·replace h := bif_t hb11 h
   refine c_skip (q_then (c_seq (c_blk (c_seq (rg ?_)))))
   revert h; refine br fun x12 hx13 h => ?_
   obtain ⟨b15, o16, hi14, -⟩ := (H.ro 0 rfl).ix hx13
   refine st (v := (pt b15 o16)) (rv_ix Tryz.underlying23 ti33 rfl rfl hi14) ?_
   obtain ⟨_, ⟨_, _, rfl, rfl, ⟨_, _, rfl, ⟨_, rfl, hR21⟩, rfl⟩⟩, hl17, hc18⟩ := ((H.ro 0 rfl).at hx13 hi14).cells
   obtain ⟨a19, c20, rfl⟩ := hR21.isSl
   replace H := H.add (d := Ch.ro 0 (Sl a19 x12.2.1 c20) x12.2.1) hR21 (fun _ h => h)
   clear hR21
   refine st (v := (.agg #[(I x12.1), (Sl a19 x12.2.1 c20), (I x12.2.2)])) (rv_load Tryz.underlying33 rfl ti33 rfl hl17 hc18) (st_ex (ex_alloc (cs := [(I 0), (.slice none 0 0), (I 0)]) H hn0 ti33 rfl) wn ?_)
   rintro _ σ23 ⟨b22, rfl, H, -⟩
   refine st_exS (ex_store_box (k := 0) (cs := [(I 0), (.slice none 0 0), (I 0)]) (vs := [(I x12.1), (Sl a19 x12.2.1 c20), (I x12.2.2)]) (cs' := [(I x12.1), (Sl a19 x12.2.1 c20), (I x12.2.2)]) H (i := 0) rfl ti33 rfl rfl rfl rfl rfl (Nat.le_of_ble_eq_true rfl) (by simp [plain]) rfl) wn ?_
   rintro σ24 ⟨H, -⟩
   refine w_end (q_then (c_seq (rg (sm (Sl Ba Az Bb) rfl (st (v := (.func (.func 63) #[] #[(pt b22 0)])) (rv_makeFunc (vs := [(pt b22 0)]) rfl) ?_)))))
   revert h; refine br fun r25 hx26 h => ?_
   have hc27 := c_impl_itemsThat__impl_linkItems_1 (Ba := Ba) (Bb := Bb) (Ek := n0) (El := b22) (Em := 0) (En := []) (Eo := []) (Ei := a19) (Ej := c20) hx26
   refine st_call (cx_call hc27 (ent_f hc27.fn rfl) hn0 (H.sel' [2, 0, 1, 1, 2, 3] rfl rfl : Hp S0 σ0 _ ([_, _, _] ++ _))) wn ?_
   rintro _ σ30 ⟨_, ⟨a28, c29, rfl, rfl⟩, H, -⟩
   replace H : Hp _ _ _ [_, _, _, _, _] := H
   refine sa (Sl a28 r25 c29) rfl (w_end (q_then (c_seq (rg (sm (Sl a28 r25 c29) rfl (sm (I Bv) rfl (st (v := (pt b22 1)) (rv_fieldAddr (off := 1) (ft := 31) Tryz.underlying33 rfl ti31 rfl rfl) ?_)))))))
   have hc31 := H.cell (u := (Sl a19 x12.2.1 c20)) (o' := 1) 1 1 rfl rfl rfl
   refine st (v := (Sl a19 x12.2.1 c20)) (rv_load1 Tryz.underlying31 rfl rfl hc31) ?_
   obtain ⟨σ32, hw33, H, -⟩ := H.pub 0 rfl (Nat.zero_le _)
   rw [← hw33]; clear hw33
   revert h; refine br fun r34 hx35 h => ?_
   have hc36 := c_impl_sortByDistance (Ba := a28) (Bb := c29) (Cn := a19) (Cp := c20) hx35
   refine st_call (cx_call hc36 (ent_f hc36.fn rfl) hn0 (H.sel' [0, 2, 0, 1, 2, 3, 4] rfl rfl : Hp S0 σ0 _ ([_, _] ++ _))) wn ?_
   rintro _ σ39 ⟨_, ⟨a37, c38, rfl, rfl⟩, H, -⟩
   replace H : Hp _ _ _ [_, _, _, _, _, _] := H
   refine sa (Sl a37 r34 c38) rfl (w_end (q_then ?_))
   refine rgP (σ := σ39) 9 (by kernel_rfl) (by kernel_rfl) (by kernel_rfl) ?_
   refine sq (v := (.map (some b8))) (rv_move rfl) (sq (v := (pt b22 0)) (rv_fieldAddr (off := 0) (ft := 3) Tryz.underlying33 rfl ti3 rfl rfl) ?_)
   have hc40 := H.cell (u := (I x12.1)) (o' := 0) 2 0 rfl rfl rfl
   refine sq (v := (I x12.1)) (rv_load1 Tryz.underlying3 rfl rfl hc40) (sq (v := (Sl a37 r34 c38)) (rv_move rfl) (sq (v := (I Bw)) (rv_move rfl) (sq (v := (Sl a37 r34 c38)) (rv_move rfl) (sq (v := (I (r34.length : Int))) (rv_len Tryz.underlying23 rfl) (sq (v := (I (min Bw (r34.length : Int)))) (rv_min rfl rfl) ?_)))))
   revert h; refine br fun xs41 hx42 h => ?_
   obtain ⟨a43, c44, hs45, hR46, hb47⟩ := (H.own 0 rfl).slice hx42
   replace H := (H.front (i := 0) rfl).turn (d := Ch.own 0 0 (Sl a43 xs41 c44) xs41) (fun _ => hR46) hb47; clear hR46 hb47
   refine sq (v := (Sl a43 xs41 c44)) (rv_slice_h Tryz.underlying23 ti33 hs45 rfl rfl) (sq_end ?_)
   intro σ48 hm49
   replace H := H.grow (hm49.mono fun _ h => h); clear hm49
   obtain ⟨v50, K51, H, hK52⟩ := H.mpOut x12.1 5 rfl hK10
   replace H := H.sel' [1, 2, 3, 4, 5, 6] rfl rfl
   replace H := H.sel' [0, 1, 2, 3, 4, 5] rfl rfl
   obtain ⟨K53, hK54, he55⟩ := hK52.put (Sl a43 xs41 c44) xs41
   refine st_exS (he55 (ty := _) H Tryz.underlying57 Tryz.underlying3 rfl rfl rfl) wn ?_
   rintro σ56 ⟨H, -⟩
   refine w_end (q_blk (q_then (rg (st (v := (I (w64 (s6.2 + 1)))) (rv_add (a := s6.2) (b := 1) rfl rfl) (sm (I (w64 (s6.2 + 1))) rfl (w_end (q_then ?_)))))))
   obtain rfl := sj h
   exact ⟨_, rfl, _, σ56, b8, K53, fr_join ⟨rfl, rfl, rfl, rfl, rfl, rfl, rfl, trivial⟩, rfl, H.sel' [4, 0] rfl rfl, hK54⟩
  ·replace h := bif_f hb11 h
   refine c_exit (q_then_x (q_then_x (q_blk_hit ?_)))
   obtain rfl := sj h
   obtain rfl := hres _ rfl
   exact ⟨rfl, _, σ7, b8, K9, fr_join ⟨rfl, trivial⟩, rfl, H.sel' [1] rfl rfl, hK10⟩
 ·clear hj
  have h := h'
  clear h' H
  rintro e a w ⟨rfl, ρ, σ57, b58, K59, rfl, rfl, H, hK60⟩
  refine q_then (c_seq (rg (sm (.map (some b58)) rfl (sa (.map (some b58)) rfl (w_end (q_then (c_ret ?_)))))))
  obtain rfl := sj h
  exact fin_ret (v := (.map (some b58))) (results_ok Tryz.results31 (res_tmp (v := (.map (some b58))) rfl res_nil) rfl) ⟨b58, K59, rfl, rfl, hK60⟩ (H.sel' [0] rfl rfl)

theorem c_impl_placeOf_1 {Bj : Int × (List Int) × Int} {Ep : Int} {Bk : Option Addr} {Bl : Nat} {r : Int} (h : M.impl_placeOf_1 Bj Ep = some r) :
    Cal2 Tryz.prog 69 [(.agg #[(I Bj.1), (Sl Bk Bj.2.1 Bl), (I Bj.2.2)]), (I Ep)] [Ch.ro 0 (Sl Bk Bj.2.1 Bl) Bj.2.1] (fun n0 v L => v = (I r) ∧ L = []) := by
 refine cal2 (n := 9) Tryz.func69 rfl rfl rfl rfl ?_
 intro S0 σ0 n0 hn0 H
 unfold M.impl_placeOf_1 at h
 refine c_seq (rg (st_ex (ex_box (cs := [(I Bj.1), (Sl Bk Bj.2.1 Bl), (I Bj.2.2)]) H hn0 rfl rfl) wn ?_))
 rintro _ σ2 ⟨b1, rfl, H, -⟩
 refine sa (I 0) rfl (w_end (q_then (c_seq (rg (st (v := (pt b1 0)) (rv_fieldAddr (off := 0) (ft := 3) Tryz.underlying33 rfl ti3 rfl rfl) ?_)))))
 have hc3 := H.cell (u := (I Bj.1)) (o' := 0) 0 0 rfl rfl rfl
 refine st (v := (I Bj.1)) (rv_load1 Tryz.underlying3 rfl rfl hc3) (sm (I Ep) rfl ?_)
 revert h; refine br fun r4 hx5 h => ?_
 have hc6 := c_cmp_Compare_int hx5
 refine st_call (cx_call hc6 (ent_f hc6.fn rfl) hn0 (H.sel' [0, 1] rfl rfl : Hp S0 σ0 _ ([] ++ _))) wn ?_
 rintro _ σ7 ⟨_, ⟨rfl, rfl⟩, H, -⟩
 replace H : Hp _ _ _ [_, _] := H
 refine sa (I r4) rfl (w_end (q_then (c_ret ?_)))
 obtain rfl := sj h
 exact fin_ret (v := (I r4)) (results_ok Tryz.results69 (res_tmp (v := (I r4)) rfl res_nil) rfl) ⟨rfl, rfl⟩ (H.sel' [] rfl rfl)

theorem c_slices_BinarySearchFunc_impl_Item_impl_Item_int__impl_placeOf_1 {Bj : List (Int × (List Int) × Int)} {Er : Int} {Dg : Option Addr} {Dh : Nat} {r : Int × Bool} (h : M.slices_BinarySearchFunc_impl_Item_impl_Item_int__impl_placeOf_1 Bj Er = some r) :
    Cal2 Tryz.prog 68 [(Sl Dg Bj Dh), (I Er), (.func (.func 69) #[] #[])] [Ch.ro 0 (Sl Dg Bj Dh) Bj] (fun n0 v L => v = (.tuple #[(I r.1), (B r.2)]) ∧ L = []) := by
 refine cal2 (n := 49) Tryz.func68 rfl rfl rfl rfl ?_
 intro S0 σ0 n0 hn0 H
 unfold M.slices_BinarySearchFunc_impl_Item_impl_Item_int__impl_placeOf_1 at h
 refine c_seq (rg (sa (I 0) rfl (sa (B false) rfl (w_end (q_then (c_seq (rg (sm (Sl Dg Bj Dh) rfl (st (v := (I (Bj.length : Int))) (rv_len Tryz.underlying23 rfl) (sa (I (Bj.length : Int)) rfl (w_end ?_)))))))))))
 refine q_then (c_seq (rg (sm (I (Bj.length : Int)) rfl (sa (I 0) rfl (sa (I (Bj.length : Int)) rfl (w_end (q_then (c_seq ?_))))))))
 obtain ⟨o1, hj, h'⟩ := bind_some h
 clear h
 refine c_cut (fun e a w => e = .normal ∧ ∃ (ρ : Nat → Value) (σ : St), a = fr 49 (updL ρ [(0, (Sl Dg Bj Dh)), (1, (I Er)), (2, (.func (.func 69) #[] #[])), (8, (I (Bj.length : Int))), (9, (I o1))]) ∧ w = σ.w ∧ Hp S0 σ0 σ [Ch.ro 0 (Sl Dg Bj Dh) Bj]) ?_ ?_
 ·clear h'
  rename _ = some o1 => h
  refine c_blk (wp_loopM _ h (fun s2 a w => ∃ (ρ : Nat → Value) (σ : St), a = fr 49 (updL ρ [(0, (Sl Dg Bj Dh)), (1, (I Er)), (2, (.func (.func 69) #[] #[])), (8, (I (Bj.length : Int))), (9, (I s2.1)), (10, (I s2.2))]) ∧ w = σ.w ∧ Hp S0 σ0 σ [Ch.ro 0 (Sl Dg Bj Dh) Bj]) ⟨_, σ0, fr_join ⟨rfl, rfl, rfl, rfl, rfl, rfl, trivial⟩, rfl, H.sel' [0] rfl rfl⟩ ?_)
  clear h H
  rintro s2 a w o ⟨ρ, σ3, rfl, rfl, H⟩ h hres
  refine c_seq (c_seq (rg (sm (I s2.1) rfl (sm (I s2.2) rfl (st (v := (B (decide (s2.1 < s2.2)))) (rv_lss (a := s2.1) (b := s2.2) rfl rfl) (w_end (q_then ?_)))))))
  refine cd_cond (decide (s2.1 < s2.2)) rfl (fun hb4 => ?_) (fun hb4 => ?_)
  ·replace h := bif_t hb4 h
   refine c_skip (q_then (c_blk (c_seq (rg (sm (I s2.1) rfl (sm (I s2.2) rfl (st (v := (I (w64 (s2.1 + s2.2)))) (rv_add (a := s2.1) (b := s2.2) rfl rfl) (st (v := (.int .u64 (wk .u64 (w64 (s2.1 + s2.2))))) (rvk_conv (k := .i64) (k' := .u64) (a := (w64 (s2.1 + s2.2))) Tryz.underlying3 Tryz.underlying101 rfl) ?_))))))))
   refine st (v := (.int .u64 (gshr .u64 (wk .u64 (w64 (s2.1 + s2.2))) 1))) (rvk_shr (k := .u64) (k' := .u64) (a := (wk .u64 (w64 (s2.1 + s2.2)))) (b := 1) rfl rfl (by decide)) ?_
   refine st (v := (I (wk .i64 (gshr .u64 (wk .u64 (w64 (s2.1 + s2.2))) 1)))) (rvk_conv (k := .u64) (k' := .i64) (a := (gshr .u64 (wk .u64 (w64 (s2.1 + s2.2))) 1)) Tryz.underlying101 Tryz.underlying3 rfl) (sa (I (wk .i64 (gshr .u64 (wk .u64 (w64 (s2.1 + s2.2))) 1))) rfl (w_end (q_then (c_seq (rg (sm (.func (.func 69) #[] #[]) rfl (sm (Sl Dg Bj Dh) rfl (sm (I (wk .i64 (gshr .u64 (wk .u64 (w64 (s2.1 + s2.2))) 1))) rfl ?_))))))))
   revert h; refine br fun x5 hx6 h => ?_
   obtain ⟨b8, o9, hi7, -⟩ := (H.ro 0 rfl).ix hx6
   refine st (v := (pt b8 o9)) (rv_ix Tryz.underlying23 ti33 rfl rfl hi7) ?_
   obtain ⟨_, ⟨_, _, rfl, rfl, ⟨_, _, rfl, ⟨_, rfl, hR14⟩, rfl⟩⟩, hl10, hc11⟩ := ((H.ro 0 rfl).at hx6 hi7).cells
   obtain ⟨a12, c13, rfl⟩ := hR14.isSl
   replace H := H.add (d := Ch.ro 0 (Sl a12 x5.2.1 c13) x5.2.1) hR14 (fun _ h => h)
   clear hR14
   refine st (v := (.agg #[(I x5.1), (Sl a12 x5.2.1 c13), (I x5.2.2)])) (rv_load Tryz.underlying33 rfl ti33 rfl hl10 hc11) (sm (I Er) rfl ?_)
   revert h; refine br fun r15 hx16 h => ?_
   have hc17 := c_impl_placeOf_1 (Bk := a12) (Bl := c13) hx16
   refine st_call (cx_call hc17 (ent_v (cap := []) hc17.fn rfl rfl) hn0 (H.sel' [0, 0, 1] rfl rfl : Hp S0 σ0 _ ([_] ++ _))) wn ?_
   rintro _ σ18 ⟨_, ⟨rfl, rfl⟩, H, -⟩
   replace H : Hp _ _ _ [_, _] := H
   refine st (v := (B (decide (r15 < 0)))) (rv_lss (a := r15) (b := 0) rfl rfl) (w_end (q_then ?_))
   refine cd_cond (decide (r15 < 0)) rfl (fun hb19 => ?_) (fun hb19 => ?_)
   ·replace h := bif_t hb19 h
    refine rg (sm (I (wk .i64 (gshr .u64 (wk .u64 (w64 (s2.1 + s2.2))) 1))) rfl (st (v := (I (w64 ((wk .i64 (gshr .u64 (wk .u64 (w64 (s2.1 + s2.2))) 1)) + 1)))) (rv_add (a := (wk .i64 (gshr .u64 (wk .u64 (w64 (s2.1 + s2.2))) 1))) (b := 1) rfl rfl) (sa (I (w64 ((wk .i64 (gshr .u64 (wk .u64 (w64 (s2.1 + s2.2))) 1)) + 1))) rfl (w_end (q_blk (q_then ?_))))))
    obtain rfl := sj h
    exact ⟨_, rfl, _, σ18, fr_join ⟨rfl, rfl, rfl, rfl, rfl, rfl, trivial⟩, rfl, H.sel' [1] rfl rfl⟩
   ·replace h := bif_f hb19 h
    refine rg (sm (I (wk .i64 (gshr .u64 (wk .u64 (w64 (s2.1 + s2.2))) 1))) rfl (sa (I (wk .i64 (gshr .u64 (wk .u64 (w64 (s2.1 + s2.2))) 1))) rfl (w_end (q_blk (q_then ?_)))))
    obtain rfl := sj h
    exact ⟨_, rfl, _, σ18, fr_join ⟨rfl, rfl, rfl, rfl, rfl, rfl, trivial⟩, rfl, H.sel' [1] rfl rfl⟩
  ·replace h := bif_f hb4 h
   refine c_exit (q_then_x (q_then_x (q_blk_hit ?_)))
   obtain rfl := sj h
   obtain rfl := hres _ rfl
   exact ⟨rfl, _, σ3, fr_join ⟨rfl, rfl, rfl, rfl, rfl, trivial⟩, rfl, H.sel' [0] rfl rfl⟩
 ·clear hj
  have h := h'
  clear h' H
  rintro e a w ⟨rfl, ρ, σ20, rfl, rfl, H⟩
  refine q_then (c_seq (rg (sm (I o1) rfl (sm (I o1) rfl (sm (I (Bj.length : Int)) rfl (st (v := (B (decide (o1 < (Bj.length : Int))))) (rv_lss (a := o1) (b := (Bj.length : Int)) rfl rfl) (sm (B (decide (o1 < (Bj.length : Int)))) rfl ?_)))))))
  rcases Bool.eq_false_or_eq_true (decide (o1 < (Bj.length : Int))) with hb21 | hb21
  ·replace h := bif_t hb21 h
   refine st_g (v := (.func (.func 69) #[] #[])) (congrArg some hb21) (rv_move rfl) (st_g (v := (Sl Dg Bj Dh)) (congrArg some hb21) (rv_move rfl) (st_g (v := (I o1)) (congrArg some hb21) (rv_move rfl) ?_))
   revert h; refine br fun x22 hx23 h => ?_
   obtain ⟨b25, o26, hi24, -⟩ := (H.ro 0 rfl).ix hx23
   refine st_g (v := (pt b25 o26)) (congrArg some hb21) (rv_ix Tryz.underlying23 ti33 rfl rfl hi24) ?_
   obtain ⟨_, ⟨_, _, rfl, rfl, ⟨_, _, rfl, ⟨_, rfl, hR31⟩, rfl⟩⟩, hl27, hc28⟩ := ((H.ro 0 rfl).at hx23 hi24).cells
   obtain ⟨a29, c30, rfl⟩ := hR31.isSl
   replace H := H.add (d := Ch.ro 0 (Sl a29 x22.2.1 c30) x22.2.1) hR31 (fun _ h => h)
   clear hR31
   refine st_g (v := (.agg #[(I x22.1), (Sl a29 x22.2.1 c30), (I x22.2.2)])) (congrArg some hb21) (rv_load Tryz.underlying33 rfl ti33 rfl hl27 hc28) (st_g (v := (I Er)) (congrArg some hb21) (rv_move rfl) ?_)
   revert h; refine br fun r32 hx33 h => ?_
   have hc34 := c_impl_placeOf_1 (Bk := a29) (Bl := c30) hx33
   refine st_call (cx_call hc34 (ent_v (cap := []) hc34.fn rfl rfl) hn0 (H.sel' [0, 0, 1] rfl rfl : Hp S0 σ0 _ ([_] ++ _))) (wanted_yes rfl (by exact (congrArg some hb21))) ?_
   rintro _ σ35 ⟨_, ⟨rfl, rfl⟩, H, -⟩
   replace H : Hp _ _ _ [_, _] := H
   refine st_g (v := (B (r32 == 0))) (congrArg some hb21) (rv_eql (a := r32) (b := 0) rfl rfl) (st (v := (B (r32 == 0))) (rv_pick_t (congrArg B hb21) rfl) (sa (I o1) rfl (sa (B (r32 == 0)) rfl (w_end (q_then (c_ret ?_))))))
   obtain rfl := sj h
   exact fin_ret (v := (.tuple #[(I o1), (B (r32 == 0))])) (results_ok Tryz.results68 (res_tmp (v := (I o1)) rfl (res_tmp (v := (B (r32 == 0))) rfl res_nil)) rfl) ⟨rfl, rfl⟩ (H.sel' [] rfl rfl)
  ·replace h := bif_f hb21 h
   refine st_skip (congrArg some hb21) (st_skip (congrArg some hb21) (st_skip (congrArg some hb21) (st_skip (congrArg some hb21) (st_skip (congrArg some hb21) (st_skip (congrArg some hb21) (st_skip (congrArg some hb21) (st_skip (congrArg some hb21) (st (v := (B false)) (rv_pick_f (congrArg B hb21) rfl) (sa (I o1) rfl (sa (B false) rfl (w_end ?_)))))))))))
   refine q_then (c_ret ?_)
   obtain rfl := sj h
   exact fin_ret (v := (.tuple #[(I o1), (B false)])) (results_ok Tryz.results68 (res_tmp (v := (I o1)) rfl (res_tmp (v := (B false)) rfl res_nil)) rfl) ⟨rfl, rfl⟩ (H.sel' [] rfl rfl)

theorem c_impl_placeOf {Az : List (Int × (List Int) × Int)} {Ep : Int} {Ba : Option Addr} {Bb : Nat} {r : Int × Bool} (h : M.impl_placeOf Az Ep = some r) :
    Cal2 Tryz.prog 38 [(Sl Ba Az Bb), (I Ep)] [Ch.ro 0 (Sl Ba Az Bb) Az] (fun n0 v L => v = (.tuple #[(I r.1), (B r.2)]) ∧ L = []) := by
 refine cal2 (n := 11) Tryz.func38 rfl rfl rfl rfl ?_
 intro S0 σ0 n0 hn0 H
 unfold M.impl_placeOf at h
 refine c_seq (rg (sa (I 0) rfl (sa (B false) rfl (w_end (q_then (c_seq (rg (sm (Sl Ba Az Bb) rfl (sm (I Ep) rfl ?_)))))))))
 revert h; refine br fun r1 hx2 h => ?_
 have hc3 := c_slices_BinarySearchFunc_impl_Item_impl_Item_int__impl_placeOf_1 (Dg := Ba) (Dh := Bb) hx2
 refine st_call (cx_call hc3 (ent_f hc3.fn rfl) hn0 (H.sel' [0, 0] rfl rfl : Hp S0 σ0 _ ([_] ++ _))) wn ?_
 rintro _ σ4 ⟨_, ⟨rfl, rfl⟩, H, -⟩
 replace H : Hp _ _ _ [_] := H
 refine st (v := (I r1.1)) (rv_extract rfl rfl) (st (v := (B r1.2)) (rv_extract rfl rfl) (sa (I r1.1) rfl (sa (B r1.2) rfl (w_end (q_then (c_ret ?_))))))
 obtain rfl := sj h
 exact fin_ret (v := (.tuple #[(I r1.1), (B r1.2)])) (results_ok Tryz.results38 (res_tmp (v := (I r1.1)) rfl (res_tmp (v := (B r1.2)) rfl res_nil)) rfl) ⟨rfl, rfl⟩ (H.sel' [] rfl rfl)

theorem c_impl_hitHeap_Push__impl_Hit {Es : List (Int × Int)} {Bm : Int × Int} {Et : Option Addr} {Eu : Nat} {Ev Ew Ey : Nat} {Ez Fa : List Value} {r : (List (Int × Int))} (h : M.impl_hitHeap_Push__impl_Hit Es Bm = some r) :
    Cal2 Tryz.prog 177 [(pt Ew Ey), (.iface 47 (.agg #[(I Bm.1), (I Bm.2)]))] [Ch.bx Ev Ew Ey [(Sl Et Es Eu)] Ez Fa, Ch.own 0 0 (Sl Et Es Eu) Es] (fun n0 v L => ∃ (az1 : Option Addr), ∃ (cz2 : Nat), v = (.tuple #[]) ∧ L = [Ch.bx Ev Ew Ey [(Sl az1 r cz2)] Ez Fa, Ch.own 0 0 (Sl az1 r cz2) r]) := by
 refine cal2 (n := 13) Tryz.func177 rfl rfl rfl rfl ?_
 intro S0 σ0 n0 hn0 H
 unfold M.impl_hitHeap_Push__impl_Hit at h
 have hc1 := H.cell (u := (Sl Et Es Eu)) (o' := Ey) 0 0 rfl rfl rfl
 revert h; refine br fun xs3 hx4 h => ?_
 have Hs := H
 refine rg2 (σ := σ0) (Nm := (Nat) × (Option Addr) × (Nat)) 8 [6, 7] [[false, false], [true, false], [true, true]] [[(0, 0), (1, 1), (2, 2)], [(0, 0), (1, 1)], [(0, 0), (1, 1)], [(0, 0), (1, 1)], [(0, 0)], [(0, 0)], [(0, 1)], [(1, 2)]] 2 [fun ((b2, a5, c6) : (Nat) × (Option Addr) × (Nat)) => fun σm => Hp S0 σ0 σm [Ch.bx Ev Ew Ey [(Sl Et Es Eu)] Ez Fa, Ch.own 0 0 (Sl Et Es Eu) Es] ∧ Md (cov []) σ0 σm, fun ((b2, a5, c6) : (Nat) × (Option Addr) × (Nat)) => fun σm => Hp S0 σ0 σm [Ch.own n0 n0 (Sl (some ⟨b2, 0, none⟩) ([(Bm.1, Bm.2)] : List (Int × Int)) 1) ([(Bm.1, Bm.2)] : List (Int × Int)), Ch.bx Ev Ew Ey [(Sl Et Es Eu)] Ez Fa, Ch.own 0 0 (Sl Et Es Eu) Es] ∧ Md (cov []) σ0 σm, fun ((b2, a5, c6) : (Nat) × (Option Addr) × (Nat)) => fun σm => Hp S0 σ0 σm [Ch.own 0 0 (Sl a5 xs3 c6) xs3, Ch.own n0 n0 (Sl (some ⟨b2, 0, none⟩) ([(Bm.1, Bm.2)] : List (Int × Int)) 1) ([(Bm.1, Bm.2)] : List (Int × Int)), Ch.bx Ev Ew Ey [(Sl Et Es Eu)] Ez Fa] ∧ Md (fun i => (cov []) i ∨ (fun b => blk (Sl Et Es Eu) = some b) i) σ0 σm] [fun ((b2, a5, c6) : (Nat) × (Option Addr) × (Nat)) => (pt Ew Ey), fun ((b2, a5, c6) : (Nat) × (Option Addr) × (Nat)) => (pt Ew Ey), fun ((b2, a5, c6) : (Nat) × (Option Addr) × (Nat)) => (pt Ew Ey), fun ((b2, a5, c6) : (Nat) × (Option Addr) × (Nat)) => (Sl Et Es Eu), fun ((b2, a5, c6) : (Nat) × (Option Addr) × (Nat)) => (.iface 47 (.agg #[(I Bm.1), (I Bm.2)])), fun ((b2, a5, c6) : (Nat) × (Option Addr) × (Nat)) => (.agg #[(I Bm.1), (I Bm.2)]), fun ((b2, a5, c6) : (Nat) × (Option Addr) × (Nat)) => (Sl (some ⟨b2, 0, none⟩) ([(Bm.1, Bm.2)] : List (Int × Int)) 1), fun ((b2, a5, c6) : (Nat) × (Option Addr) × (Nat)) => (Sl a5 xs3 c6)] (0, none, 0) (by kernel_rfl) (by kernel_rfl) ?_ ?_ ?_
 ·intro σm m0
  exact ⟨H.grow (m0.mono fun _ h => h.elim), m0⟩
 ·refine ac rfl (by
    intro k; rintro ⟨b2, a5, c6⟩ ρ σm hJ hoff hdep
    have e0 := look_off (N := 13) (hoff 0 rfl) rfl
    exact dp_v (v := (pt Ew Ey)) wn (rv_move e0) rfl hJ) ?_
  refine ac rfl (by
    intro k; rintro ⟨b2, a5, c6⟩ ρ σm hJ hoff hdep
    have e0 := look_off (N := 13) (hoff 0 rfl) rfl
    exact dp_v (v := (pt Ew Ey)) wn (rv_move e0) rfl hJ) ?_
  refine ac rfl (by
    intro k; rintro ⟨b2, a5, c6⟩ ρ σm hJ hoff hdep
    have e5 := hdep 1 rfl rfl 5 rfl
    exact dp_v (v := (pt Ew Ey)) wn (rv_nilCheck e5) rfl hJ) ?_
  refine all_cons (by
    refine ⟨?_, ?_⟩
    ·rintro ⟨b2, a5, c6⟩ ρ σm hJ hoff hdep
     have e6 := hdep 2 rfl rfl 6 rfl
     obtain ⟨H, m⟩ := id hJ
     have hc1 := H.cell (u := (Sl Et Es Eu)) (o' := Ey) 0 0 rfl rfl rfl
     exact dp_v (v := (Sl Et Es Eu)) wn (rv_load1 Tryz.underlying106 rfl e6 hc1) rfl hJ
    refine ⟨?_, ?_⟩
    ·rintro ⟨b2, a5, c6⟩ ρ σm hJ hoff hdep
     have e6 := hdep 2 rfl rfl 6 rfl
     obtain ⟨H, m⟩ := id hJ
     have hc1 := H.cell (u := (Sl Et Es Eu)) (o' := Ey) 1 0 rfl rfl rfl
     exact dp_v (v := (Sl Et Es Eu)) wn (rv_load1 Tryz.underlying106 rfl e6 hc1) rfl hJ
    trivial) ?_
  refine ac rfl (by
    intro k; rintro ⟨b2, a5, c6⟩ ρ σm hJ hoff hdep
    have e1 := look_off (N := 13) (hoff 1 rfl) rfl
    exact dp_v (v := (.iface 47 (.agg #[(I Bm.1), (I Bm.2)]))) wn (rv_move e1) rfl hJ) ?_
  refine ac rfl (by
    intro k; rintro ⟨b2, a5, c6⟩ ρ σm hJ hoff hdep
    have e8 := hdep 4 rfl rfl 8 rfl
    exact dp_v (v := (.agg #[(I Bm.1), (I Bm.2)])) wn (rv_typeAssert Tryz.underlying47 rfl e8) rfl hJ) ?_
  refine all_cons (by
    refine ⟨?_, ?_⟩
    ·rintro ⟨b2, a5, c6⟩ ρ σm hJ hoff hdep
     have e9 : look 13 ρ 9 = (.agg #[(I Bm.1), (I Bm.2)]) := hdep 5 rfl rfl 9 rfl
     obtain ⟨H, m⟩ := id hJ
     refine dp_ex wn (ex_buildSlice (el := n0) (xs := ([(Bm.1, Bm.2)] : List (Int × Int))) (ps := [(0, (.agg #[(I Bm.1), (I Bm.2)]))]) (cs := [(I Bm.1), (I Bm.2)]) H hn0 Tryz.underlying106 ti47 rfl (by show [(0, look 13 ρ 9)] = _; rw [e9]) (by kernel_rfl) (.cons (c := [(I Bm.1), (I Bm.2)]) ⟨[(I Bm.1)], [(I Bm.2)], rfl, rfl, rfl⟩ (.nil)) rfl) ?_
     rintro _ σq ⟨b2x, rfl, H2, m2⟩
     exact ⟨_, (b2x, a5, c6), rfl, rfl, ⟨H2.sel' [0, 1, 2] rfl rfl, m.comp0 m2⟩, stab [0, 1, 2, 3, 4, 5] (by kernel_rfl) ⟨rfl, rfl, rfl, rfl, rfl, rfl, trivial⟩⟩
    trivial) ?_
  refine all_cons (by
    refine ⟨?_, ?_⟩
    ·rintro ⟨b2, a5, c6⟩ ρ σm hJ hoff hdep
     have e7 := hdep 3 rfl rfl 7 rfl
     have e10 := hdep 6 rfl rfl 10 rfl
     obtain ⟨H, m⟩ := id hJ
     refine dp_ex wn (ex_append H (i := 2) rfl Tryz.underlying106 Tryz.underlying106 ti47 rfl rfl (by decide) ((H.own 0 rfl).rd.sc) hx4 (Nat.zero_le _) e7 e10) ?_
     rintro _ σq ⟨a5x, c6x, rfl, H2, m2⟩
     exact ⟨_, (b2, a5x, c6x), rfl, rfl, ⟨H2.sel' [0, 1, 2] rfl rfl, m.comp m2⟩, stab [0, 1, 2, 3, 4, 5, 6] (by kernel_rfl) ⟨rfl, rfl, rfl, rfl, rfl, rfl, rfl, trivial⟩⟩
    trivial) ?_
  exact all_nil
 ·rintro ⟨b2, a5, c6⟩ ρ σ7 hJ hoff hrel
  have e0 := look_off (N := 13) (hoff 0 rfl) rfl
  have e4 := hrel 0 rfl 4 rfl
  have e11 := hrel 7 rfl 11 rfl
  obtain ⟨H, -⟩ := (show Hp S0 σ0 σ7 [Ch.own 0 0 (Sl a5 xs3 c6) xs3, Ch.own n0 n0 (Sl (some ⟨b2, 0, none⟩) ([(Bm.1, Bm.2)] : List (Int × Int)) 1) ([(Bm.1, Bm.2)] : List (Int × Int)), Ch.bx Ev Ew Ey [(Sl Et Es Eu)] Ez Fa] ∧ Md (fun i => (cov []) i ∨ (fun b => blk (Sl Et Es Eu) = some b) i) σ0 σ7 from hJ)
  clear hJ Hs
  rw [fr_lookL (L := [(0, (pt Ew Ey)), (4, (pt Ew Ey)), (11, (Sl a5 xs3 c6))]) ⟨e0, e4, e11, trivial⟩]
  clear hoff hrel e0 e4 e11
  refine st (v := (pt Ew Ey)) (rv_nilCheck rfl) ?_
  refine st_exS (ex_store_box (k := 0) (cs := [(Sl Et Es Eu)]) (vs := [(Sl a5 xs3 c6)]) (cs' := [(Sl a5 xs3 c6)]) H (i := 2) rfl ti106 rfl rfl rfl rfl rfl (Nat.le_of_ble_eq_true rfl) (by simp [plain]) rfl) wn ?_
  rintro σ8 ⟨H, -⟩
  refine w_end ?_
  obtain rfl := sj h
  exact fin_end (v := (.tuple #[])) (results_ok Tryz.results177 res_nil rfl) ⟨a5, c6, rfl, rfl⟩ (H.sel' [0, 1] rfl rfl)

theorem c_impl_hitHeap_Len {Es : List (Int × Int)} {Et : Option Addr} {Eu : Nat} {r : Int} (h : M.impl_hitHeap_Len Es = some r) :
    Cal2 Tryz.prog 172 [(Sl Et Es Eu)] [Ch.ro 0 (Sl Et Es Eu) Es] (fun n0 v L => v = (I r) ∧ L = []) := by
 refine cal2 (n := 5) Tryz.func172 rfl rfl rfl rfl ?_
 intro S0 σ0 n0 hn0 H
 unfold M.impl_hitHeap_Len at h
 refine c_seq (rg (sa (I 0) rfl (w_end (q_then (c_seq (rg (sm (Sl Et Es Eu) rfl (st (v := (I (Es.length : Int))) (rv_len Tryz.underlying106 rfl) (sa (I (Es.length : Int)) rfl (w_end (q_then ?_)))))))))))
 refine c_ret ?_
 obtain rfl := sj h
 exact fin_ret (v := (I (Es.length : Int))) (results_ok Tryz.results172 (res_tmp (v := (I (Es.length : Int))) rfl res_nil) rfl) ⟨rfl, rfl⟩ (H.sel' [] rfl rfl)

theorem c_impl_hitHeap_Less {Es : List (Int × Int)} {Fb : Int} {Fc : Int} {Et : Option Addr} {Eu : Nat} {r : Bool} (h : M.impl_hitHeap_Less Es Fb Fc = some r) :
    Cal2 Tryz.prog 173 [(Sl Et Es Eu), (I Fb), (I Fc)] [Ch.ro 0 (Sl Et Es Eu) Es] (fun n0 v L => v = (B r) ∧ L = []) := by
 refine cal2 (n := 17) Tryz.func173 rfl rfl rfl rfl ?_
 intro S0 σ0 n0 hn0 H
 unfold M.impl_hitHeap_Less at h
 refine c_seq (rg (sa (B false) rfl (w_end (q_then (c_seq ?_)))))
 refine rgP (σ := σ0) 8 (by kernel_rfl) (by kernel_rfl) (by kernel_rfl) ?_
 refine sq (v := (Sl Et Es Eu)) (rv_move rfl) (sq (v := (I Fb)) (rv_move rfl) ?_)
 revert h; refine br fun x1 hx2 h => ?_
 obtain ⟨b4, o5, hi3, -⟩ := (H.ro 0 rfl).ix hx2
 refine sq (v := (pt b4 o5)) (rv_ix Tryz.underlying106 ti47 rfl rfl hi3) ?_
 obtain ⟨_, ⟨_, _, rfl, rfl, rfl⟩, hl6, hc7⟩ := ((H.ro 0 rfl).at hx2 hi3).cells
 refine sq (v := (.agg #[(I x1.1), (I x1.2)])) (rv_load Tryz.underlying47 rfl ti47 rfl hl6 hc7) (sq (v := (Sl Et Es Eu)) (rv_move rfl) (sq (v := (I Fc)) (rv_move rfl) ?_))
 revert h; refine br fun x8 hx9 h => ?_
 obtain ⟨b11, o12, hi10, -⟩ := (H.ro 0 rfl).ix hx9
 refine sq (v := (pt b11 o12)) (rv_ix Tryz.underlying106 ti47 rfl rfl hi10) ?_
 obtain ⟨_, ⟨_, _, rfl, rfl, rfl⟩, hl13, hc14⟩ := ((H.ro 0 rfl).at hx9 hi10).cells
 refine sq (v := (.agg #[(I x8.1), (I x8.2)])) (rv_load Tryz.underlying47 rfl ti47 rfl hl13 hc14) (sq_end ?_)
 intro σ15 hm16
 replace H := H.grow (hm16.mono fun _ h => h); clear hm16
 revert h; refine br fun r17 hx18 h => ?_
 have hc19 := c_impl_compareHits hx18
 refine st_call (cx_call hc19 (ent_f hc19.fn rfl) hn0 (H.sel' [0] rfl rfl : Hp S0 σ0 _ ([] ++ _))) wn ?_
 rintro _ σ20 ⟨_, ⟨rfl, rfl⟩, H, -⟩
 replace H : Hp _ _ _ [_] := H
 refine st (v := (B (decide (0 < r17)))) (rv_gtr (a := r17) (b := 0) rfl rfl) (sa (B (decide (0 < r17))) rfl (w_end (q_then (c_ret ?_))))
 obtain rfl := sj h
 exact fin_ret (v := (B (decide (0 < r17)))) (results_ok Tryz.results173 (res_tmp (v := (B (decide (0 < r17)))) rfl res_nil) rfl) ⟨rfl, rfl⟩ (H.sel' [] rfl rfl)

theorem c_impl_hitHeap_Swap {Es : List (Int × Int)} {Fb : Int} {Fc : Int} {Et : Option Addr} {Eu : Nat} {r : (List (Int × Int))} (h : M.impl_hitHeap_Swap Es Fb Fc = some r) :
    Cal2 Tryz.prog 174 [(Sl Et Es Eu), (I Fb), (I Fc)] [Ch.own 0 0 (Sl Et Es Eu) Es] (fun n0 v L => v = (.tuple #[]) ∧ L = [Ch.own 0 0 (Sl Et r Eu) r] ∧ r.length = Es.length) := by
 refine cal2 (n := 20) Tryz.func174 rfl rfl rfl rfl ?_
 intro S0 σ0 n0 hn0 H
 unfold M.impl_hitHeap_Swap at h
 revert h; refine br fun x1 hx2 h => ?_
 obtain ⟨b4, o5, hi3, -⟩ := (H.own 0 rfl).ix hx2
 obtain ⟨_, ⟨_, _, rfl, rfl, rfl⟩, hl6, hc7⟩ := ((H.own 0 rfl).at hx2 hi3).cells
 revert h; refine br fun x8 hx9 h => ?_
 obtain ⟨b11, o12, hi10, -⟩ := (H.own 0 rfl).ix hx9
 obtain ⟨_, ⟨_, _, rfl, rfl, rfl⟩, hl13, hc14⟩ := ((H.own 0 rfl).at hx9 hi10).cells
 revert h; refine br fun x15 hx16 h => ?_
 obtain ⟨b18, o19, hi17, -⟩ := (H.own 0 rfl).ix hx16
 have Hs := H
 refine rg2 (σ := σ0) (Nm := Unit) 14 [13] [[false], [true]] [[(0, 0)], [(0, 0)], [(0, 0), (1, 1)], [(0, 0), (1, 1)], [(0, 0)], [(0, 0)], [(0, 0)], [(0, 0)], [(0, 0)], [(0, 0)], [(0, 0)], [(0, 0)], [(0, 0)], [(0, 1)]] 1 [fun _ => fun σm => Hp S0 σ0 σm [Ch.own 0 0 (Sl Et Es Eu) Es] ∧ Md (cov []) σ0 σm, fun _ => fun σm => Hp S0 σ0 σm [Ch.own 0 0 (Sl Et Es Eu) (Es.set Fb.toNat (x1.1, x1.2))] ∧ Md (fun i => (cov []) i ∨ (fun b => blk (Sl Et Es Eu) = some b) i) σ0 σm] [fun _ => (Sl Et Es Eu), fun _ => (I Fb), fun _ => (Sl Et Es Eu), fun _ => (I Fc), fun _ => (Sl Et Es Eu), fun _ => (I Fc), fun _ => (pt b4 o5), fun _ => (.agg #[(I x1.1), (I x1.2)]), fun _ => (Sl Et Es Eu), fun _ => (I Fb), fun _ => (pt b11 o12), fun _ => (.agg #[(I x8.1), (I x8.2)]), fun _ => (pt b18 o19), fun _ => undef] () (by kernel_rfl) (by kernel_rfl) ?_ ?_ ?_
 ·intro σm m0
  exact ⟨H.grow (m0.mono fun _ h => h.elim), m0⟩
 ·refine ac rfl (by
    intro k _nm ρ σm hJ hoff hdep
    have e0 := look_off (N := 20) (hoff 0 rfl) rfl
    exact dp_v (v := (Sl Et Es Eu)) wn (rv_move e0) rfl hJ) ?_
  refine ac rfl (by
    intro k _nm ρ σm hJ hoff hdep
    have e1 := look_off (N := 20) (hoff 1 rfl) rfl
    exact dp_v (v := (I Fb)) wn (rv_move e1) rfl hJ) ?_
  refine ac rfl (by
    intro k _nm ρ σm hJ hoff hdep
    have e0 := look_off (N := 20) (hoff 0 rfl) rfl
    exact dp_v (v := (Sl Et Es Eu)) wn (rv_move e0) rfl hJ) ?_
  refine ac rfl (by
    intro k _nm ρ σm hJ hoff hdep
    have e2 := look_off (N := 20) (hoff 2 rfl) rfl
    exact dp_v (v := (I Fc)) wn (rv_move e2) rfl hJ) ?_
  refine ac rfl (by
    intro k _nm ρ σm hJ hoff hdep
    have e0 := look_off (N := 20) (hoff 0 rfl) rfl
    exact dp_v (v := (Sl Et Es Eu)) wn (rv_move e0) rfl hJ) ?_
  refine ac rfl (by
    intro k _nm ρ σm hJ hoff hdep
    have e2 := look_off (N := 20) (hoff 2 rfl) rfl
    exact dp_v (v := (I Fc)) wn (rv_move e2) rfl hJ) ?_
  refine ac rfl (by
    intro k _nm ρ σm hJ hoff hdep
    have e10 := hdep 4 rfl rfl 10 rfl
    have e11 := hdep 5 rfl rfl 11 rfl
    exact dp_v (v := (pt b4 o5)) wn (rv_ix Tryz.underlying106 ti47 e10 e11 hi3) rfl hJ) ?_
  refine all_cons (by
    refine ⟨?_, ?_⟩
    ·intro _nm ρ σm hJ hoff hdep
     have e12 := hdep 6 rfl rfl 12 rfl
     obtain ⟨H, m⟩ := id hJ
     obtain ⟨_, ⟨_, _, rfl, rfl, rfl⟩, hl6, hc7⟩ := ((H.own 0 rfl).at hx2 hi3).cells
     exact dp_v (v := (.agg #[(I x1.1), (I x1.2)])) wn (rv_load Tryz.underlying47 rfl ti47 e12 hl6 hc7) rfl hJ
    trivial) ?_
  refine ac rfl (by
    intro k _nm ρ σm hJ hoff hdep
    have e0 := look_off (N := 20) (hoff 0 rfl) rfl
    exact dp_v (v := (Sl Et Es Eu)) wn (rv_move e0) rfl hJ) ?_
  refine ac rfl (by
    intro k _nm ρ σm hJ hoff hdep
    have e1 := look_off (N := 20) (hoff 1 rfl) rfl
    exact dp_v (v := (I Fb)) wn (rv_move e1) rfl hJ) ?_
  refine ac rfl (by
    intro k _nm ρ σm hJ hoff hdep
    have e14 := hdep 8 rfl rfl 14 rfl
    have e15 := hdep 9 rfl rfl 15 rfl
    exact dp_v (v := (pt b11 o12)) wn (rv_ix Tryz.underlying106 ti47 e14 e15 hi10) rfl hJ) ?_
  refine all_cons (by
    refine ⟨?_, ?_⟩
    ·intro _nm ρ σm hJ hoff hdep
     have e16 := hdep 10 rfl rfl 16 rfl
     obtain ⟨H, m⟩ := id hJ
     obtain ⟨_, ⟨_, _, rfl, rfl, rfl⟩, hl13, hc14⟩ := ((H.own 0 rfl).at hx9 hi10).cells
     exact dp_v (v := (.agg #[(I x8.1), (I x8.2)])) wn (rv_load Tryz.underlying47 rfl ti47 e16 hl13 hc14) rfl hJ
    trivial) ?_
  refine ac rfl (by
    intro k _nm ρ σm hJ hoff hdep
    have e6 := hdep 0 rfl rfl 6 rfl
    have e7 := hdep 1 rfl rfl 7 rfl
    exact dp_v (v := (pt b18 o19)) wn (rv_ix Tryz.underlying106 ti47 e6 e7 hi17) rfl hJ) ?_
  refine all_cons (by
    refine ⟨?_, ?_⟩
    ·intro _nm ρ σm hJ hoff hdep
     have e18 := hdep 12 rfl rfl 18 rfl
     have e13 := hdep 7 rfl rfl 13 rfl
     obtain ⟨H, m⟩ := id hJ
     refine dp_exS wn rfl (ex_store_own (e' := (x1.1, x1.2)) (vs := [(I x1.1), (I x1.2)]) (k := 0) H (i := 0) rfl ti47 hx16 hi17 e18 rfl e13 rfl rfl (Nat.le_of_ble_eq_true rfl) (by simp [plain]) (by rintro _ ⟨_, _, rfl, rfl, rfl⟩; exact ⟨[(I x1.1)], [(I x1.2)], rfl, rfl, rfl⟩)) ?_
     rintro σq ⟨H2, m2⟩
     exact ⟨_, (), rfl, ⟨H2.sel' [0] rfl rfl, m.comp m2⟩, stab [0, 1, 2, 3, 4, 5, 6, 7, 8, 9, 10, 11, 12] (by kernel_rfl) ⟨rfl, rfl, rfl, rfl, rfl, rfl, rfl, rfl, rfl, rfl, rfl, rfl, rfl, trivial⟩⟩
    trivial) ?_
  exact all_nil
 ·intro _nm ρ σ20 hJ hoff hrel
  have e0 := look_off (N := 20) (hoff 0 rfl) rfl
  have e8 := hrel 2 rfl 8 rfl
  have e9 := hrel 3 rfl 9 rfl
  have e17 := hrel 11 rfl 17 rfl
  obtain ⟨H, -⟩ := (show Hp S0 σ0 σ20 [Ch.own 0 0 (Sl Et Es Eu) (Es.set Fb.toNat (x1.1, x1.2))] ∧ Md (fun i => (cov []) i ∨ (fun b => blk (Sl Et Es Eu) = some b) i) σ0 σ20 from hJ)
  clear hJ Hs
  rw [fr_lookL (L := [(0, (Sl Et Es Eu)), (8, (Sl Et Es Eu)), (9, (I Fc)), (17, (.agg #[(I x8.1), (I x8.2)]))]) ⟨e0, e8, e9, e17, trivial⟩]
  clear hoff hrel e0 e8 e9 e17
  have hsl : (Sl Et Es Eu) = (Sl Et (Es.set Fb.toNat (x1.1, x1.2)) Eu) := sl_len (by simp)
  rw [hsl]; rw [hsl] at H; clear hsl
  revert h; refine br fun x21 hx22 h => ?_
  obtain ⟨b24, o25, hi23, -⟩ := (H.own 0 rfl).ix hx22
  refine st (v := (pt b24 o25)) (rv_ix Tryz.underlying106 ti47 rfl rfl hi23) ?_
  refine st_exS (ex_store_own (e' := (x8.1, x8.2)) (vs := [(I x8.1), (I x8.2)]) (k := 0) H (i := 0) rfl ti47 hx22 hi23 rfl rfl rfl rfl rfl (Nat.le_of_ble_eq_true rfl) (by simp [plain]) (by rintro _ ⟨_, _, rfl, rfl, rfl⟩; exact ⟨[(I x8.1)], [(I x8.2)], rfl, rfl, rfl⟩)) wn ?_
  rintro σ26 ⟨H, -⟩
  have hsl : (Sl Et (Es.set Fb.toNat (x1.1, x1.2)) Eu) = (Sl Et ((Es.set Fb.toNat (x1.1, x1.2)).set Fc.toNat (x8.1, x8.2)) Eu) := sl_len List.length_set.symm
  rw [hsl]; rw [hsl] at H; clear hsl
  refine w_end ?_
  obtain rfl := sj h
  exact fin_end (v := (.tuple #[])) (results_ok Tryz.results174 res_nil rfl) ⟨rfl, rfl, (List.length_set.trans List.length_set)⟩ (H.sel' [0] rfl rfl)

theorem c_container_heap_up__impl_hitHeap {Es : List (Int × Int)} {Fd : Int} {Et : Option Addr} {Eu : Nat} {Ev Ew Ey : Nat} {Ez Fa : List Value} {r : (List (Int × Int))} (h : M.container_heap_up__impl_hitHeap Es Fd = some r) :
    Cal2 Tryz.prog 131 [(.iface 128 (pt Ew Ey)), (I Fd)] [Ch.bx Ev Ew Ey [(Sl Et Es Eu)] Ez Fa, Ch.own 0 0 (Sl Et Es Eu) Es] (fun n0 v L => ∃ (az1 : Option Addr), ∃ (cz2 : Nat), v = (.tuple #[]) ∧ L = [Ch.bx Ev Ew Ey [(Sl az1 r cz2)] Ez Fa, Ch.own 0 0 (Sl az1 r cz2) r]) := by
 refine cal2 (n := 23) Tryz.func131 rfl rfl rfl rfl ?_
 intro S0 σ0 n0 hn0 H
 unfold M.container_heap_up__impl_hitHeap at h
 obtain ⟨o1, hj, h'⟩ := bind_some h
 clear h
 refine c_cut (fun e a w => e = .normal ∧ ∃ (ρ : Nat → Value) (σ : St) (aj1 : Option Addr) (cj2 : Nat), a = fr 23 (updL ρ [(0, (.iface 128 (pt Ew Ey)))]) ∧ w = σ.w ∧ Hp S0 σ0 σ [Ch.bx Ev Ew Ey [(Sl aj1 o1 cj2)] Ez Fa, Ch.own 0 0 (Sl aj1 o1 cj2) o1]) ?_ ?_
 ·clear h'
  rename _ = some o1 => h
  refine c_blk (wp_loopM _ h (fun s2 a w => ∃ (ρ : Nat → Value) (σ : St) (aj1 : Option Addr) (cj2 : Nat), a = fr 23 (updL ρ [(0, (.iface 128 (pt Ew Ey))), (1, (I s2.2))]) ∧ w = σ.w ∧ Hp S0 σ0 σ [Ch.bx Ev Ew Ey [(Sl aj1 s2.1 cj2)] Ez Fa, Ch.own 0 0 (Sl aj1 s2.1 cj2) s2.1]) ⟨_, σ0, Et, Eu, fr_join ⟨rfl, rfl, trivial⟩, rfl, H.sel' [0, 1] rfl rfl⟩ ?_)
  clear h H
  rintro s2 a w o ⟨ρ, σ3, a4, c5, rfl, rfl, H⟩ h hres
  refine c_blk (c_seq (rg (sm (I s2.2) rfl (st (v := (I (w64 (s2.2 - 1)))) (rv_sub (a := s2.2) (b := 1) rfl rfl) ?_))))
  refine st (v := (I (w64 ((w64 (s2.2 - 1)).tdiv 2)))) (rv_quo (a := (w64 (s2.2 - 1))) (b := 2) rfl rfl (by decide)) ?_
  refine sa (I (w64 ((w64 (s2.2 - 1)).tdiv 2))) rfl (w_end (q_then (c_seq (c_seq ?_))))
  obtain ⟨o6, hj, h'⟩ := bind_some h
  clear h
  refine c_cut (fun e a w => e = .normal ∧ ∃ (ρ : Nat → Value) (σ : St), a = fr 23 (updL ρ [(0, (.iface 128 (pt Ew Ey))), (1, (I s2.2)), (4, (I (w64 ((w64 (s2.2 - 1)).tdiv 2)))), (17, (B o6))]) ∧ w = σ.w ∧ Hp S0 σ0 σ [Ch.own 0 0 (Sl a4 s2.1 c5) s2.1, Ch.bx Ev Ew Ey [(Sl a4 s2.1 c5)] Ez Fa]) ?_ ?_
  ·clear h'
   rename _ = some o6 => h
   refine rg (sm (I (w64 ((w64 (s2.2 - 1)).tdiv 2))) rfl (sm (I s2.2) rfl (st (v := (B ((w64 ((w64 (s2.2 - 1)).tdiv 2)) == s2.2))) (rv_eql (a := (w64 ((w64 (s2.2 - 1)).tdiv 2))) (b := s2.2) rfl rfl) (sm (B ((w64 ((w64 (s2.2 - 1)).tdiv 2)) == s2.2)) rfl ?_))))
   rcases Bool.eq_false_or_eq_true ((w64 ((w64 (s2.2 - 1)).tdiv 2)) == s2.2) with hb7 | hb7
   ·replace h := bif_t hb7 h
    refine st_skip (congrArg some hb7) (st_skip (congrArg some hb7) (st_skip (congrArg some hb7) (st_skip (congrArg some hb7) (st_skip (congrArg some hb7) (st (v := (B true)) (rv_pick_t (congrArg B hb7) rfl) (w_end ?_))))))
    obtain rfl := sj h
    exact ⟨rfl, _, σ3, fr_join ⟨rfl, rfl, rfl, rfl, trivial⟩, rfl, H.sel' [1, 0] rfl rfl⟩
   ·replace h := bif_f hb7 h
    refine st_g (v := (.iface 128 (pt Ew Ey))) (congrArg some hb7) (rv_move rfl) (st_g (v := (I s2.2)) (congrArg some hb7) (rv_move rfl) (st_g (v := (I (w64 ((w64 (s2.2 - 1)).tdiv 2)))) (congrArg some hb7) (rv_move rfl) ?_))
    revert h; refine br fun r8 hx9 h => ?_
    have hc10 := c_impl_hitHeap_Less (Et := a4) (Eu := c5) hx9
    have hle := Nat.le_trans hn0 H.size
    refine st_call (cx_lend (Loan.lend Loan.nil) hc10 (ent_iv hc10.fn (by kernel_rfl) Tryz.underlying128 Tryz.underlying106 rfl rfl (H.cell (u := (Sl a4 s2.1 c5)) (o' := Ey) 0 0 rfl rfl rfl) rfl) (show Hp S0 σ0 _ ([Ch.own 0 0 (Sl a4 s2.1 c5) s2.1] ++ ([] ++ [Ch.bx Ev Ew Ey [(Sl a4 s2.1 c5)] Ez Fa])) from (H.sel' [1, 0] rfl rfl)) (by rintro _ _ _ ⟨rfl, rfl⟩; exact trivial)) (wanted_yes rfl (by exact (congrArg some hb7))) ?_
    rintro _ σ11 ⟨_, ⟨rfl, rfl⟩, H, -, -⟩
    replace H : Hp _ _ _ [_, _] := H
    clear hle
    replace H : Hp _ _ _ [_, _] := H
    refine st_g (v := (B (!r8))) (congrArg some hb7) (rv_not rfl) (st (v := (B (!r8))) (rv_pick_f (congrArg B hb7) rfl) (w_end ?_))
    obtain rfl := sj h
    exact ⟨rfl, _, σ11, fr_join ⟨rfl, rfl, rfl, rfl, trivial⟩, rfl, H.sel' [0, 1] rfl rfl⟩
  ·clear hj
   have h := h'
   clear h' H
   rintro e a w ⟨rfl, ρ, σ12, rfl, rfl, H⟩
   refine q_then ?_
   refine cd_cond o6 rfl (fun hb13 => ?_) (fun hb13 => ?_)
   ·replace h := bif_t hb13 h
    refine c_exit (q_then_x ?_)
    refine q_blk_x (by decide) ?_
    refine q_then_x (q_blk_hit ?_)
    obtain rfl := sj h
    obtain rfl := hres _ rfl
    exact ⟨rfl, _, σ12, a4, c5, fr_join ⟨rfl, trivial⟩, rfl, H.sel' [1, 0] rfl rfl⟩
   ·replace h := bif_f hb13 h
    refine c_skip (q_then (c_seq (rg (sm (.iface 128 (pt Ew Ey)) rfl (sm (I (w64 ((w64 (s2.2 - 1)).tdiv 2))) rfl (sm (I s2.2) rfl ?_))))))
    revert h; refine br fun r14 hx15 h => ?_
    have hc16 := c_impl_hitHeap_Swap (Et := a4) (Eu := c5) hx15
    refine st_call (cx_call hc16 (ent_iv hc16.fn (by kernel_rfl) Tryz.underlying128 Tryz.underlying106 rfl rfl (H.cell (u := (Sl a4 s2.1 c5)) (o' := Ey) 1 0 rfl rfl rfl) rfl) hn0 (H.sel' [0, 1] rfl rfl : Hp S0 σ0 _ ([_] ++ _))) wn ?_
    rintro _ σ18 ⟨_, ⟨rfl, rfl, hn17⟩, H, -⟩
    replace H : Hp _ _ _ [_, _] := H
    have hsl : (Sl a4 s2.1 c5) = (Sl a4 r14 c5) := sl_len hn17.symm
    try rw [hsl]
    try rw [hsl] at H
    clear hsl
    refine w_end (q_then (rg (sm (I (w64 ((w64 (s2.2 - 1)).tdiv 2))) rfl (sa (I (w64 ((w64 (s2.2 - 1)).tdiv 2))) rfl (w_end (q_blk (q_then ?_)))))))
    obtain rfl := sj h
    exact ⟨_, rfl, _, σ18, a4, c5, fr_join ⟨rfl, rfl, trivial⟩, rfl, H.sel' [1, 0] rfl rfl⟩
 ·clear hj
  have h := h'
  clear h' H
  rintro e a w ⟨rfl, ρ, σ19, a20, c21, rfl, rfl, H⟩
  obtain rfl := sj h
  exact fin_end (v := (.tuple #[])) (results_ok Tryz.results131 res_nil rfl) ⟨a20, c21, rfl, rfl⟩ (H.sel' [0, 1] rfl rfl)

theorem c_container_heap_Push__impl_hitHeap__impl_Hit {Es : List (Int × Int)} {Bm : Int × Int} {Et : Option Addr} {Eu : Nat} {Ev Ew Ey : Nat} {Ez Fa : List Value} {r : (List (Int × Int))} (h : M.container_heap_Push__impl_hitHeap__impl_Hit Es Bm = some r) :
    Cal2 Tryz.prog 113 [(.iface 128 (pt Ew Ey)), (.iface 47 (.agg #[(I Bm.1), (I Bm.2)]))] [Ch.bx Ev Ew Ey [(Sl Et Es Eu)] Ez Fa, Ch.own 0 0 (Sl Et Es Eu) Es] (fun n0 v L => ∃ (az1 : Option Addr), ∃ (cz2 : Nat), v = (.tuple #[]) ∧ L = [Ch.bx Ev Ew Ey [(Sl az1 r cz2)] Ez Fa, Ch.own 0 0 (Sl az1 r cz2) r]) := by
 refine cal2 (n := 12) Tryz.func113 rfl rfl rfl rfl ?_
 intro S0 σ0 n0 hn0 H
 unfold M.container_heap_Push__impl_hitHeap__impl_Hit at h
 refine c_seq (rg (sm (.iface 128 (pt Ew Ey)) rfl (sm (.iface 47 (.agg #[(I Bm.1), (I Bm.2)])) rfl ?_)))
 revert h; refine br fun r1 hx2 h => ?_
 have hc3 := c_impl_hitHeap_Push__impl_Hit (Ev := Ev) (Ew := Ew) (Ey := Ey) (Ez := Ez) (Fa := Fa) (Et := Et) (Eu := Eu) hx2
 refine st_call (cx_call hc3 (ent_ip hc3.fn (by kernel_rfl) Tryz.underlying128 rfl rfl) hn0 (H.sel' [0, 1] rfl rfl : Hp S0 σ0 _ ([_, _] ++ _))) wn ?_
 rintro _ σ6 ⟨_, ⟨a4, c5, rfl, rfl⟩, H, -⟩
 replace H : Hp _ _ _ [_, _] := H
 refine w_end (q_then (rg (sm (.iface 128 (pt Ew Ey)) rfl (sm (.iface 128 (pt Ew Ey)) rfl ?_))))
 revert h; refine br fun r7 hx8 h => ?_
 have hc9 := c_impl_hitHeap_Len (Et := a4) (Eu := c5) hx8
 have hle := Nat.le_trans hn0 H.size
 refine st_call (cx_lend (Loan.lend Loan.nil) hc9 (ent_iv hc9.fn (by kernel_rfl) Tryz.underlying128 Tryz.underlying106 rfl rfl (H.cell (u := (Sl a4 r1 c5)) (o' := Ey) 0 0 rfl rfl rfl) rfl) (show Hp S0 σ0 _ ([Ch.own 0 0 (Sl a4 r1 c5) r1] ++ ([] ++ [Ch.bx Ev Ew Ey [(Sl a4 r1 c5)] Ez Fa])) from (H.sel' [1, 0] rfl rfl)) (by rintro _ _ _ ⟨rfl, rfl⟩; exact trivial)) wn ?_
 rintro _ σ10 ⟨_, ⟨rfl, rfl⟩, H, -, -⟩
 replace H : Hp _ _ _ [_, _] := H
 clear hle
 replace H : Hp _ _ _ [_, _] := H
 refine st (v := (I (w64 (r7 - 1)))) (rv_sub (a := r7) (b := 1) rfl rfl) ?_
 revert h; refine br fun r11 hx12 h => ?_
 have hc13 := c_container_heap_up__impl_hitHeap (Ev := Ev) (Ew := Ew) (Ey := Ey) (Ez := Ez) (Fa := Fa) (Et := a4) (Eu := c5) hx12
 refine st_call (cx_call hc13 (ent_f hc13.fn rfl) hn0 (H.sel' [1, 0] rfl rfl : Hp S0 σ0 _ ([_, _] ++ _))) wn ?_
 rintro _ σ16 ⟨_, ⟨a14, c15, rfl, rfl⟩, H, -⟩
 replace H : Hp _ _ _ [_, _] := H
 refine w_end ?_
 obtain rfl := sj h
 exact fin_end (v := (.tuple #[])) (results_ok Tryz.results113 res_nil rfl) ⟨a14, c15, rfl, rfl⟩ (H.sel' [0, 1] rfl rfl)

theorem c_container_heap_down__impl_hitHeap {Es : List (Int × Int)} {Fe : Int} {Bc : Int} {Et : Option Addr} {Eu : Nat} {Ev Ew Ey : Nat} {Ez Fa : List Value} {r : Bool × (List (Int × Int))} (h : M.container_heap_down__impl_hitHeap Es Fe Bc = some r) :
    Cal2 Tryz.prog 132 [(.iface 128 (pt Ew Ey)), (I Fe), (I Bc)] [Ch.bx Ev Ew Ey [(Sl Et Es Eu)] Ez Fa, Ch.own 0 0 (Sl Et Es Eu) Es] (fun n0 v L => ∃ (az1 : Option Addr), ∃ (cz2 : Nat), v = (B r.1) ∧ L = [Ch.bx Ev Ew Ey [(Sl az1 r.2 cz2)] Ez Fa, Ch.own 0 0 (Sl az1 r.2 cz2) r.2]) := by
 refine cal2 (n := 48) Tryz.func132 rfl rfl rfl rfl ?_
 intro S0 σ0 n0 hn0 H
 unfold M.container_heap_down__impl_hitHeap at h
 refine c_seq (rg (sa (B false) rfl (w_end (q_then (c_seq (rg (sm (I Fe) rfl (sa (I Fe) rfl (w_end (q_then (c_seq ?_)))))))))))
 obtain ⟨o1, hj, h'⟩ := bind_some h
 clear h
 refine c_cut (fun e a w => e = .normal ∧ ∃ (ρ : Nat → Value) (σ : St) (aj1 : Option Addr) (cj2 : Nat), a = fr 48 (updL ρ [(0, (.iface 128 (pt Ew Ey))), (1, (I Fe)), (7, (I o1.2))]) ∧ w = σ.w ∧ Hp S0 σ0 σ [Ch.bx Ev Ew Ey [(Sl aj1 o1.1 cj2)] Ez Fa, Ch.own 0 0 (Sl aj1 o1.1 cj2) o1.1]) ?_ ?_
 ·clear h'
  rename _ = some o1 => h
  refine c_blk (wp_loopM _ h (fun s2 a w => ∃ (ρ : Nat → Value) (σ : St) (aj1 : Option Addr) (cj2 : Nat), a = fr 48 (updL ρ [(0, (.iface 128 (pt Ew Ey))), (1, (I Fe)), (2, (I Bc)), (7, (I s2.2))]) ∧ w = σ.w ∧ Hp S0 σ0 σ [Ch.bx Ev Ew Ey [(Sl aj1 s2.1 cj2)] Ez Fa, Ch.own 0 0 (Sl aj1 s2.1 cj2) s2.1]) ⟨_, σ0, Et, Eu, fr_join ⟨rfl, rfl, rfl, rfl, trivial⟩, rfl, H.sel' [0, 1] rfl rfl⟩ ?_)
  clear h H
  rintro s2 a w o ⟨ρ, σ3, a4, c5, rfl, rfl, H⟩ h hres
  refine c_blk (c_seq (rg (sm (I s2.2) rfl (st (v := (I (w64 (2 * s2.2)))) (rv_mul (a := 2) (b := s2.2) rfl rfl) (st (v := (I (w64 ((w64 (2 * s2.2)) + 1)))) (rv_add (a := (w64 (2 * s2.2))) (b := 1) rfl rfl) (sa (I (w64 ((w64 (2 * s2.2)) + 1))) rfl (w_end (q_then (c_seq (c_seq ?_))))))))))
  obtain ⟨o6, hj, h'⟩ := bind_some h
  clear h
  refine c_cut (fun e a w => e = .normal ∧ ∃ (ρ : Nat → Value) (σ : St), a = fr 48 (updL ρ [(0, (.iface 128 (pt Ew Ey))), (1, (I Fe)), (2, (I Bc)), (7, (I s2.2)), (8, (I (w64 ((w64 (2 * s2.2)) + 1)))), (21, (B o6))]) ∧ w = σ.w ∧ Hp S0 σ0 σ [Ch.own 0 0 (Sl a4 s2.1 c5) s2.1, Ch.bx Ev Ew Ey [(Sl a4 s2.1 c5)] Ez Fa]) ?_ ?_
  ·clear h'
   rename _ = some o6 => h
   refine rg (sm (I (w64 ((w64 (2 * s2.2)) + 1))) rfl (sm (I Bc) rfl (st (v := (B (decide (Bc ≤ (w64 ((w64 (2 * s2.2)) + 1)))))) (rv_geq (a := (w64 ((w64 (2 * s2.2)) + 1))) (b := Bc) rfl rfl) (sm (B (decide (Bc ≤ (w64 ((w64 (2 * s2.2)) + 1))))) rfl ?_))))
   rcases Bool.eq_false_or_eq_true (decide (Bc ≤ (w64 ((w64 (2 * s2.2)) + 1)))) with hb7 | hb7
   ·replace h := bif_t hb7 h
    refine st_skip (congrArg some hb7) (st_skip (congrArg some hb7) (st (v := (B true)) (rv_pick_t (congrArg B hb7) rfl) (w_end ?_)))
    obtain rfl := sj h
    exact ⟨rfl, _, σ3, fr_join ⟨rfl, rfl, rfl, rfl, rfl, rfl, trivial⟩, rfl, H.sel' [1, 0] rfl rfl⟩
   ·replace h := bif_f hb7 h
    refine st_g (v := (I (w64 ((w64 (2 * s2.2)) + 1)))) (congrArg some hb7) (rv_move rfl) (st_g (v := (B (decide ((w64 ((w64 (2 * s2.2)) + 1)) < 0)))) (congrArg some hb7) (rv_lss (a := (w64 ((w64 (2 * s2.2)) + 1))) (b := 0) rfl rfl) (st (v := (B (decide ((w64 ((w64 (2 * s2.2)) + 1)) < 0)))) (rv_pick_f (congrArg B hb7) rfl) (w_end ?_)))
    obtain rfl := sj h
    exact ⟨rfl, _, σ3, fr_join ⟨rfl, rfl, rfl, rfl, rfl, rfl, trivial⟩, rfl, H.sel' [1, 0] rfl rfl⟩
  ·clear hj
   have h := h'
   clear h' H
   rintro e a w ⟨rfl, ρ, σ8, rfl, rfl, H⟩
   refine q_then ?_
   refine cd_cond o6 rfl (fun hb9 => ?_) (fun hb9 => ?_)
   ·replace h := bif_t hb9 h
    refine c_exit (q_then_x ?_)
    refine q_blk_x (by decide) ?_
    refine q_then_x (q_blk_hit ?_)
    obtain rfl := sj h
    obtain rfl := hres _ rfl
    exact ⟨rfl, _, σ8, a4, c5, fr_join ⟨rfl, rfl, rfl, trivial⟩, rfl, H.sel' [1, 0] rfl rfl⟩
   ·replace h := bif_f hb9 h
    refine c_skip (q_then (c_seq (rg (sm (I (w64 ((w64 (2 * s2.2)) + 1))) rfl (sa (I (w64 ((w64 (2 * s2.2)) + 1))) rfl (w_end (q_then (c_seq (c_seq (rg (sm (I (w64 ((w64 (2 * s2.2)) + 1))) rfl ?_)))))))))))
    refine st (v := (I (w64 ((w64 ((w64 (2 * s2.2)) + 1)) + 1)))) (rv_add (a := (w64 ((w64 (2 * s2.2)) + 1))) (b := 1) rfl rfl) (sa (I (w64 ((w64 ((w64 (2 * s2.2)) + 1)) + 1))) rfl (w_end (q_then (c_seq ?_))))
    obtain ⟨o10, hj, h'⟩ := bind_some h
    clear h
    refine c_cut (fun e a w => e = .normal ∧ ∃ (ρ : Nat → Value) (σ : St), a = fr 48 (updL ρ [(0, (.iface 128 (pt Ew Ey))), (1, (I Fe)), (2, (I Bc)), (7, (I s2.2)), (9, (I (w64 ((w64 (2 * s2.2)) + 1)))), (10, (I (w64 ((w64 ((w64 (2 * s2.2)) + 1)) + 1)))), (33, (B o10))]) ∧ w = σ.w ∧ Hp S0 σ0 σ [Ch.own 0 0 (Sl a4 s2.1 c5) s2.1, Ch.bx Ev Ew Ey [(Sl a4 s2.1 c5)] Ez Fa]) ?_ ?_
    ·clear h'
     rename _ = some o10 => h
     refine rg (sm (I (w64 ((w64 ((w64 (2 * s2.2)) + 1)) + 1))) rfl (sm (I Bc) rfl (st (v := (B (decide ((w64 ((w64 ((w64 (2 * s2.2)) + 1)) + 1)) < Bc)))) (rv_lss (a := (w64 ((w64 ((w64 (2 * s2.2)) + 1)) + 1))) (b := Bc) rfl rfl) (sm (B (decide ((w64 ((w64 ((w64 (2 * s2.2)) + 1)) + 1)) < Bc))) rfl ?_))))
     rcases Bool.eq_false_or_eq_true (decide ((w64 ((w64 ((w64 (2 * s2.2)) + 1)) + 1)) < Bc)) with hb11 | hb11
     ·replace h := bif_t hb11 h
      refine st_g (v := (.iface 128 (pt Ew Ey))) (congrArg some hb11) (rv_move rfl) (st_g (v := (I (w64 ((w64 ((w64 (2 * s2.2)) + 1)) + 1)))) (congrArg some hb11) (rv_move rfl) (st_g (v := (I (w64 ((w64 (2 * s2.2)) + 1)))) (congrArg some hb11) (rv_move rfl) ?_))
      revert h; refine br fun r12 hx13 h => ?_
      have hc14 := c_impl_hitHeap_Less (Et := a4) (Eu := c5) hx13
      have hle := Nat.le_trans hn0 H.size
      refine st_call (cx_lend (Loan.lend Loan.nil) hc14 (ent_iv hc14.fn (by kernel_rfl) Tryz.underlying128 Tryz.underlying106 rfl rfl (H.cell (u := (Sl a4 s2.1 c5)) (o' := Ey) 1 0 rfl rfl rfl) rfl) (show Hp S0 σ0 _ ([Ch.own 0 0 (Sl a4 s2.1 c5) s2.1] ++ ([] ++ [Ch.bx Ev Ew Ey [(Sl a4 s2.1 c5)] Ez Fa])) from (H.sel' [0, 1] rfl rfl)) (by rintro _ _ _ ⟨rfl, rfl⟩; exact trivial)) (wanted_yes rfl (by exact (congrArg some hb11))) ?_
      rintro _ σ15 ⟨_, ⟨rfl, rfl⟩, H, -, -⟩
      replace H : Hp _ _ _ [_, _] := H
      clear hle
      replace H : Hp _ _ _ [_, _] := H
      refine st (v := (B r12)) (rv_pick_t (congrArg B hb11) rfl) (w_end ?_)
      obtain rfl := sj h
      exact ⟨rfl, _, σ15, fr_join ⟨rfl, rfl, rfl, rfl, rfl, rfl, rfl, trivial⟩, rfl, H.sel' [0, 1] rfl rfl⟩
     ·replace h := bif_f hb11 h
      refine st_skip (congrArg some hb11) (st_skip (congrArg some hb11) (st_skip (congrArg some hb11) (st_skip (congrArg some hb11) (st (v := (B false)) (rv_pick_f (congrArg B hb11) rfl) (w_end ?_)))))
      obtain rfl := sj h
      exact ⟨rfl, _, σ8, fr_join ⟨rfl, rfl, rfl, rfl, rfl, rfl, rfl, trivial⟩, rfl, H.sel' [0, 1] rfl rfl⟩
    ·clear hj
     have h := h'
     clear h' H
     rintro e a w ⟨rfl, ρ, σ16, rfl, rfl, H⟩
     refine q_then ?_
     obtain ⟨o17, hj, h'⟩ := bind_some h
     clear h
     refine c_cut (fun e a w => e = .normal ∧ ∃ (ρ : Nat → Value) (σ : St), a = fr 48 (updL ρ [(0, (.iface 128 (pt Ew Ey))), (1, (I Fe)), (2, (I Bc)), (7, (I s2.2)), (9, (I o17))]) ∧ w = σ.w ∧ Hp S0 σ0 σ [Ch.own 0 0 (Sl a4 s2.1 c5) s2.1, Ch.bx Ev Ew Ey [(Sl a4 s2.1 c5)] Ez Fa]) ?_ ?_
     ·clear h'
      rename _ = some o17 => h
      refine cd_cond o10 rfl (fun hb18 => ?_) (fun hb18 => ?_)
      ·replace h := bif_t hb18 h
       refine rg (sm (I (w64 ((w64 ((w64 (2 * s2.2)) + 1)) + 1))) rfl (sa (I (w64 ((w64 ((w64 (2 * s2.2)) + 1)) + 1))) rfl (w_end ?_)))
       obtain rfl := sj h
       exact ⟨rfl, _, σ16, fr_join ⟨rfl, rfl, rfl, rfl, rfl, trivial⟩, rfl, H.sel' [0, 1] rfl rfl⟩
      ·replace h := bif_f hb18 h
       refine c_skip ?_
       obtain rfl := sj h
       exact ⟨rfl, _, σ16, fr_join ⟨rfl, rfl, rfl, rfl, rfl, trivial⟩, rfl, H.sel' [0, 1] rfl rfl⟩
     ·clear hj
      have h := h'
      clear h' H
      rintro e a w ⟨rfl, ρ, σ19, rfl, rfl, H⟩
      refine q_then (c_seq (c_seq (rg (sm (.iface 128 (pt Ew Ey)) rfl (sm (I o17) rfl (sm (I s2.2) rfl ?_))))))
      revert h; refine br fun r20 hx21 h => ?_
      have hc22 := c_impl_hitHeap_Less (Et := a4) (Eu := c5) hx21
      have hle := Nat.le_trans hn0 H.size
      refine st_call (cx_lend (Loan.lend Loan.nil) hc22 (ent_iv hc22.fn (by kernel_rfl) Tryz.underlying128 Tryz.underlying106 rfl rfl (H.cell (u := (Sl a4 s2.1 c5)) (o' := Ey) 1 0 rfl rfl rfl) rfl) (show Hp S0 σ0 _ ([Ch.own 0 0 (Sl a4 s2.1 c5) s2.1] ++ ([] ++ [Ch.bx Ev Ew Ey [(Sl a4 s2.1 c5)] Ez Fa])) from (H.sel' [0, 1] rfl rfl)) (by rintro _ _ _ ⟨rfl, rfl⟩; exact trivial)) wn ?_
      rintro _ σ23 ⟨_, ⟨rfl, rfl⟩, H, -, -⟩
      replace H : Hp _ _ _ [_, _] := H
      clear hle
      replace H : Hp _ _ _ [_, _] := H
      refine st (v := (B (!r20))) (rv_not rfl) (w_end (q_then ?_))
      refine cd_cond (!r20) rfl (fun hb24 => ?_) (fun hb24 => ?_)
      ·replace h := bif_t hb24 h
       refine c_exit (q_then_x ?_)
       refine q_blk_x (by decide) ?_
       refine q_then_x (q_blk_hit ?_)
       obtain rfl := sj h
       obtain rfl := hres _ rfl
       exact ⟨rfl, _, σ23, a4, c5, fr_join ⟨rfl, rfl, rfl, trivial⟩, rfl, H.sel' [1, 0] rfl rfl⟩
      ·replace h := bif_f hb24 h
       refine c_skip (q_then (c_seq (rg (sm (.iface 128 (pt Ew Ey)) rfl (sm (I s2.2) rfl (sm (I o17) rfl ?_))))))
       revert h; refine br fun r25 hx26 h => ?_
       have hc27 := c_impl_hitHeap_Swap (Et := a4) (Eu := c5) hx26
       refine st_call (cx_call hc27 (ent_iv hc27.fn (by kernel_rfl) Tryz.underlying128 Tryz.underlying106 rfl rfl (H.cell (u := (Sl a4 s2.1 c5)) (o' := Ey) 1 0 rfl rfl rfl) rfl) hn0 (H.sel' [0, 1] rfl rfl : Hp S0 σ0 _ ([_] ++ _))) wn ?_
       rintro _ σ29 ⟨_, ⟨rfl, rfl, hn28⟩, H, -⟩
       replace H : Hp _ _ _ [_, _] := H
       have hsl : (Sl a4 s2.1 c5) = (Sl a4 r25 c5) := sl_len hn28.symm
       try rw [hsl]
       try rw [hsl] at H
       clear hsl
       refine w_end (q_then (rg (sm (I o17) rfl (sa (I o17) rfl (w_end (q_blk (q_then ?_)))))))
       obtain rfl := sj h
       exact ⟨_, rfl, _, σ29, a4, c5, fr_join ⟨rfl, rfl, rfl, rfl, trivial⟩, rfl, H.sel' [1, 0] rfl rfl⟩
 ·clear hj
  have h := h'
  clear h' H
  rintro e a w ⟨rfl, ρ, σ30, a31, c32, rfl, rfl, H⟩
  refine q_then (c_seq (rg (sm (I o1.2) rfl (sm (I Fe) rfl (st (v := (B (decide (Fe < o1.2)))) (rv_gtr (a := o1.2) (b := Fe) rfl rfl) (sa (B (decide (Fe < o1.2))) rfl (w_end (q_then (c_ret ?_)))))))))
  obtain rfl := sj h
  exact fin_ret (v := (B (decide (Fe < o1.2)))) (results_ok Tryz.results132 (res_tmp (v := (B (decide (Fe < o1.2)))) rfl res_nil) rfl) ⟨a31, c32, rfl, rfl⟩ (H.sel' [0, 1] rfl rfl)

theorem c_impl_hitHeap_Pop {Es : List (Int × Int)} {Et : Option Addr} {Eu : Nat} {Ev Ew Ey : Nat} {Ez Fa : List Value} {r : ((Int) × (Int)) × (List (Int × Int))} (h : M.impl_hitHeap_Pop Es = some r) :
    Cal2 Tryz.prog 176 [(pt Ew Ey)] [Ch.bx Ev Ew Ey [(Sl Et Es Eu)] Ez Fa, Ch.own 0 0 (Sl Et Es Eu) Es] (fun n0 v L => ∃ (az1 : Option Addr), ∃ (cz2 : Nat), v = (.iface 47 (.agg #[(I r.1.1), (I r.1.2)])) ∧ L = [Ch.bx Ev Ew Ey [(Sl az1 r.2 cz2)] Ez Fa, Ch.own 0 0 (Sl az1 r.2 cz2) r.2]) := by
 refine cal2 (n := 25) Tryz.func176 rfl rfl rfl rfl ?_
 intro S0 σ0 n0 hn0 H
 unfold M.impl_hitHeap_Pop at h
 refine c_seq (rg (sa (.nilIface) rfl (w_end (q_then (c_seq (rg (sm (pt Ew Ey) rfl (st (v := (pt Ew Ey)) (rv_nilCheck rfl) ?_))))))))
 have hc1 := H.cell (u := (Sl Et Es Eu)) (o' := Ey) 0 0 rfl rfl rfl
 refine st (v := (Sl Et Es Eu)) (rv_load1 Tryz.underlying106 rfl rfl hc1) (st (v := (I (Es.length : Int))) (rv_len Tryz.underlying106 rfl) (st (v := (I (w64 ((Es.length : Int) - 1)))) (rv_sub (a := (Es.length : Int)) (b := 1) rfl rfl) (sa (I (w64 ((Es.length : Int) - 1))) rfl (w_end (q_then (c_seq (rg (sm (pt Ew Ey) rfl (st (v := (pt Ew Ey)) (rv_nilCheck rfl) ?_)))))))))
 have hc2 := H.cell (u := (Sl Et Es Eu)) (o' := Ey) 0 0 rfl rfl rfl
 refine st (v := (Sl Et Es Eu)) (rv_load1 Tryz.underlying106 rfl rfl hc2) (sm (I (w64 ((Es.length : Int) - 1))) rfl ?_)
 revert h; refine br fun x3 hx4 h => ?_
 obtain ⟨b6, o7, hi5, -⟩ := (H.own 1 rfl).ix hx4
 refine st (v := (pt b6 o7)) (rv_ix Tryz.underlying106 ti47 rfl rfl hi5) ?_
 obtain ⟨_, ⟨_, _, rfl, rfl, rfl⟩, hl8, hc9⟩ := ((H.own 1 rfl).at hx4 hi5).cells
 refine st (v := (.agg #[(I x3.1), (I x3.2)])) (rv_load Tryz.underlying47 rfl ti47 rfl hl8 hc9) (st_ex (ex_alloc (cs := [(I 0), (I 0)]) H hn0 ti47 rfl) wn ?_)
 rintro _ σ11 ⟨b10, rfl, H, -⟩
 refine st_exS (ex_store_box (k := 0) (cs := [(I 0), (I 0)]) (vs := [(I x3.1), (I x3.2)]) (cs' := [(I x3.1), (I x3.2)]) H (i := 0) rfl ti47 rfl rfl rfl rfl rfl (Nat.le_of_ble_eq_true rfl) (by simp [plain]) rfl) wn ?_
 rintro σ12 ⟨H, -⟩
 refine w_end (q_then (c_seq (rg (sm (pt Ew Ey) rfl (sm (pt Ew Ey) rfl (st (v := (pt Ew Ey)) (rv_nilCheck rfl) ?_))))))
 have hc13 := H.cell (u := (Sl Et Es Eu)) (o' := Ey) 1 0 rfl rfl rfl
 refine st (v := (Sl Et Es Eu)) (rv_load1 Tryz.underlying106 rfl rfl hc13) (sm (I (w64 ((Es.length : Int) - 1))) rfl ?_)
 revert h; refine br fun xs14 hx15 h => ?_
 obtain ⟨a16, c17, hs18, -⟩ := (H.own 2 rfl).slice hx15
 refine st (v := (Sl a16 xs14 c17)) (rv_slice_h Tryz.underlying106 ti47 hs18 rfl rfl) (st (v := (pt Ew Ey)) (rv_nilCheck rfl) ?_)
 have hv20 := (H.own 2 rfl).view hx15 hs18
 replace H := (H.front (i := 2) rfl).turn (d := Ch.own 0 0 (Sl a16 xs14 c17) xs14) (fun _ => hv20.1) hv20.2; clear hv20
 refine st_exS (ex_store_box (k := 0) (cs := [(Sl Et Es Eu)]) (vs := [(Sl a16 xs14 c17)]) (cs' := [(Sl a16 xs14 c17)]) H (i := 2) rfl ti106 rfl rfl rfl rfl rfl (Nat.le_of_ble_eq_true rfl) (by simp [plain]) rfl) wn ?_
 rintro σ21 ⟨H, -⟩
 refine w_end (q_then (c_seq (rg ?_)))
 have hc22 := H.cells 2 rfl
 refine st (v := (.agg #[(I x3.1), (I x3.2)])) (rv_load (cs := [(I x3.1), (I x3.2)]) Tryz.underlying47 rfl ti47 rfl rfl hc22) (st (v := (.iface 47 (.agg #[(I x3.1), (I x3.2)]))) (rv_makeInterface Tryz.underlying47 rfl rfl) (sa (.iface 47 (.agg #[(I x3.1), (I x3.2)])) rfl (w_end (q_then (c_ret ?_)))))
 obtain rfl := sj h
 exact fin_ret (v := (.iface 47 (.agg #[(I x3.1), (I x3.2)]))) (results_ok Tryz.results176 (res_tmp (v := (.iface 47 (.agg #[(I x3.1), (I x3.2)]))) rfl res_nil) rfl) ⟨a16, c17, rfl, rfl⟩ (H.sel' [0, 1] rfl rfl)

theorem c_container_heap_Pop__impl_hitHeap {Es : List (Int × Int)} {Et : Option Addr} {Eu : Nat} {Ev Ew Ey : Nat} {Ez Fa : List Value} {r : ((Int) × (Int)) × (List (Int × Int))} (h : M.container_heap_Pop__impl_hitHeap Es = some r) :
    Cal2 Tryz.prog 114 [(.iface 128 (pt Ew Ey))] [Ch.bx Ev Ew Ey [(Sl Et Es Eu)] Ez Fa, Ch.own 0 0 (Sl Et Es Eu) Es] (fun n0 v L => ∃ (az1 : Option Addr), ∃ (cz2 : Nat), v = (.iface 47 (.agg #[(I r.1.1), (I r.1.2)])) ∧ L = [Ch.bx Ev Ew Ey [(Sl az1 r.2 cz2)] Ez Fa, Ch.own 0 0 (Sl az1 r.2 cz2) r.2]) := by
 refine cal2 (n := 15) Tryz.func114 rfl rfl rfl rfl ?_
 intro S0 σ0 n0 hn0 H
 unfold M.container_heap_Pop__impl_hitHeap at h
 refine c_seq (rg (sa (.nilIface) rfl (w_end (q_then (c_seq (rg (sm (.iface 128 (pt Ew Ey)) rfl ?_)))))))
 revert h; refine br fun r1 hx2 h => ?_
 have hc3 := c_impl_hitHeap_Len (Et := Et) (Eu := Eu) hx2
 have hle := Nat.le_trans hn0 H.size
 refine st_call (cx_lend (Loan.lend Loan.nil) hc3 (ent_iv hc3.fn (by kernel_rfl) Tryz.underlying128 Tryz.underlying106 rfl rfl (H.cell (u := (Sl Et Es Eu)) (o' := Ey) 0 0 rfl rfl rfl) rfl) (show Hp S0 σ0 _ ([Ch.own 0 0 (Sl Et Es Eu) Es] ++ ([] ++ [Ch.bx Ev Ew Ey [(Sl Et Es Eu)] Ez Fa])) from (H.sel' [1, 0] rfl rfl)) (by rintro _ _ _ ⟨rfl, rfl⟩; exact trivial)) wn ?_
 rintro _ σ4 ⟨_, ⟨rfl, rfl⟩, H, -, -⟩
 replace H : Hp _ _ _ [_, _] := H
 clear hle
 replace H : Hp _ _ _ [_, _] := H
 refine st (v := (I (w64 (r1 - 1)))) (rv_sub (a := r1) (b := 1) rfl rfl) (sa (I (w64 (r1 - 1))) rfl (w_end (q_then (c_seq (rg (sm (.iface 128 (pt Ew Ey)) rfl (sm (I (w64 (r1 - 1))) rfl ?_)))))))
 revert h; refine br fun r5 hx6 h => ?_
 have hc7 := c_impl_hitHeap_Swap (Et := Et) (Eu := Eu) hx6
 refine st_call (cx_call hc7 (ent_iv hc7.fn (by kernel_rfl) Tryz.underlying128 Tryz.underlying106 rfl rfl (H.cell (u := (Sl Et Es Eu)) (o' := Ey) 1 0 rfl rfl rfl) rfl) hn0 (H.sel' [0, 1] rfl rfl : Hp S0 σ0 _ ([_] ++ _))) wn ?_
 rintro _ σ9 ⟨_, ⟨rfl, rfl, hn8⟩, H, -⟩
 replace H : Hp _ _ _ [_, _] := H
 have hsl : (Sl Et Es Eu) = (Sl Et r5 Eu) := sl_len hn8.symm
 try rw [hsl]
 try rw [hsl] at H
 clear hsl
 refine w_end (q_then (c_seq (rg (sm (.iface 128 (pt Ew Ey)) rfl (sm (I (w64 (r1 - 1))) rfl ?_)))))
 revert h; refine br fun r10 hx11 h => ?_
 have hc12 := c_container_heap_down__impl_hitHeap (Ev := Ev) (Ew := Ew) (Ey := Ey) (Ez := Ez) (Fa := Fa) (Et := Et) (Eu := Eu) hx11
 refine st_call (cx_call hc12 (ent_f hc12.fn rfl) hn0 (H.sel' [1, 0] rfl rfl : Hp S0 σ0 _ ([_, _] ++ _))) wn ?_
 rintro _ σ15 ⟨_, ⟨a13, c14, rfl, rfl⟩, H, -⟩
 replace H : Hp _ _ _ [_, _] := H
 refine w_end (q_then (c_seq (rg (sm (.iface 128 (pt Ew Ey)) rfl ?_))))
 revert h; refine br fun r16 hx17 h => ?_
 have hc18 := c_impl_hitHeap_Pop (Ev := Ev) (Ew := Ew) (Ey := Ey) (Ez := Ez) (Fa := Fa) (Et := a13) (Eu := c14) hx17
 refine st_call (cx_call hc18 (ent_ip hc18.fn (by kernel_rfl) Tryz.underlying128 rfl rfl) hn0 (H.sel' [0, 1] rfl rfl : Hp S0 σ0 _ ([_, _] ++ _))) wn ?_
 rintro _ σ21 ⟨_, ⟨a19, c20, rfl, rfl⟩, H, -⟩
 replace H : Hp _ _ _ [_, _] := H
 refine sa (.iface 47 (.agg #[(I r16.1.1), (I r16.1.2)])) rfl (w_end (q_then (c_ret ?_)))
 obtain rfl := sj h
 exact fin_ret (v := (.iface 47 (.agg #[(I r16.1.1), (I r16.1.2)]))) (results_ok Tryz.results114 (res_tmp (v := (.iface 47 (.agg #[(I r16.1.1), (I r16.1.2)]))) rfl res_nil) rfl) ⟨a19, c20, rfl, rfl⟩ (H.sel' [0, 1] rfl rfl)

theorem c_impl_nearestHits_offer {Bd : Int × (List (Int × Int))} {Ff : Int × Int} {Fg : Option Addr} {Fh : Nat} {Fi Fj Fk : Nat} {Fl Fm : List Value} {r : (Int × (List (Int × Int)))} (h : M.impl_nearestHits_offer Bd Ff = some r) :
    Cal2 Tryz.prog 93 [(pt Fj Fk), (.agg #[(I Ff.1), (I Ff.2)])] [Ch.bx Fi Fj Fk [(I Bd.1), (Sl Fg Bd.2 Fh)] Fl Fm, Ch.own 0 0 (Sl Fg Bd.2 Fh) Bd.2] (fun n0 v L => ∃ (az1 : Option Addr), ∃ (cz2 : Nat), v = (.tuple #[]) ∧ L = [Ch.bx Fi Fj Fk [(I r.1), (Sl az1 r.2 cz2)] Fl Fm, Ch.own 0 0 (Sl az1 r.2 cz2) r.2]) := by
 refine cal2 (n := 26) Tryz.func93 rfl rfl rfl rfl ?_
 intro S0 σ0 n0 hn0 H
 unfold M.impl_nearestHits_offer at h
 refine c_seq (rg (st_ex (ex_box (cs := [(I Ff.1), (I Ff.2)]) H hn0 rfl rfl) wn ?_))
 rintro _ σ2 ⟨b1, rfl, H, -⟩
 refine w_end (q_then (c_seq ?_))
 refine rgP (σ := σ2) 6 (by kernel_rfl) (by kernel_rfl) (by kernel_rfl) ?_
 refine sq (v := (pt Fj Fk)) (rv_move rfl) (sq (v := (pt Fj Fk)) (rv_nilCheck rfl) (sq (v := (pt Fj (Fk + 1))) (rv_fieldAddr (off := 1) (ft := 106) Tryz.underlying108 rfl ti106 rfl rfl) (sq (v := (.iface 128 (pt Fj (Fk + 1)))) (rv_makeInterface Tryz.underlying128 rfl rfl) ?_)))
 have hc3 := H.cells 0 rfl
 refine sq (v := (.agg #[(I Ff.1), (I Ff.2)])) (rv_load (cs := [(I Ff.1), (I Ff.2)]) Tryz.underlying47 rfl ti47 rfl rfl hc3) (sq (v := (.iface 47 (.agg #[(I Ff.1), (I Ff.2)]))) (rv_makeInterface Tryz.underlying47 rfl rfl) (sq_end ?_))
 intro σ4 hm5
 replace H := H.grow (hm5.mono fun _ h => h); clear hm5
 replace H := Hp.focus (c1 := [(I Bd.1)]) (c2 := [(Sl Fg Bd.2 Fh)]) (c3 := []) (o' := (Fk + 1)) H 1 rfl rfl
 revert h; refine br fun r6 hx7 h => ?_
 have hc8 := c_container_heap_Push__impl_hitHeap__impl_Hit (Ev := Fi) (Ew := Fj) (Ey := (Fk + 1)) (Ez := (Fl ++ [(I Bd.1)])) (Fa := ([] ++ Fm)) (Et := Fg) (Eu := Fh) hx7
 refine st_call (cx_call hc8 (ent_f hc8.fn rfl) hn0 (H.sel' [0, 2, 1] rfl rfl : Hp S0 σ0 _ ([_, _] ++ _))) wn ?_
 rintro _ σ11 ⟨_, ⟨a9, c10, rfl, rfl⟩, H, -⟩
 replace H : Hp _ _ _ [_, _, _] := H
 replace H : Hp S0 σ0 σ11 [Ch.bx Fi Fj Fk [(I Bd.1), (Sl a9 r6 c10)] Fl Fm, Ch.own 0 0 (Sl a9 r6 c10) r6, Ch.bx n0 b1 0 [(I Ff.1), (I Ff.2)] [] []] := Hp.unfocus (o := Fk) (c1 := [(I Bd.1)]) (c2 := [(Sl a9 r6 c10)]) (c3 := []) (pre := Fl) (suf := Fm) H 0 rfl rfl
 refine w_end (q_then (c_seq ?_))
 refine rgP (σ := σ11) 9 (by kernel_rfl) (by kernel_rfl) (by kernel_rfl) ?_
 refine sq (v := (pt Fj Fk)) (rv_move rfl) (sq (v := (pt Fj Fk)) (rv_nilCheck rfl) (sq (v := (pt Fj (Fk + 1))) (rv_fieldAddr (off := 1) (ft := 106) Tryz.underlying108 rfl ti106 rfl rfl) ?_))
 have hc12 := H.cell (u := (Sl a9 r6 c10)) (o' := (Fk + 1)) 0 1 rfl rfl rfl
 refine sq (v := (Sl a9 r6 c10)) (rv_load1 Tryz.underlying106 rfl rfl hc12) (sq (v := (I (r6.length : Int))) (rv_len Tryz.underlying106 rfl) (sq (v := (pt Fj Fk)) (rv_move rfl) (sq (v := (pt Fj Fk)) (rv_nilCheck rfl) (sq (v := (pt Fj Fk)) (rv_fieldAddr (off := 0) (ft := 3) Tryz.underlying108 rfl ti3 rfl rfl) ?_))))
 have hc13 := H.cell (u := (I Bd.1)) (o' := Fk) 0 0 rfl rfl rfl
 refine sq (v := (I Bd.1)) (rv_load1 Tryz.underlying3 rfl rfl hc13) (sq_end ?_)
 intro σ14 hm15
 replace H := H.grow (hm15.mono fun _ h => h); clear hm15
 refine st (v := (B (decide (Bd.1 < (r6.length : Int))))) (rv_gtr (a := (r6.length : Int)) (b := Bd.1) rfl rfl) (w_end (q_then ?_))
 refine cd_cond (decide (Bd.1 < (r6.length : Int))) rfl (fun hb16 => ?_) (fun hb16 => ?_)
 ·replace h := bif_t hb16 h
  refine rg (sm (pt Fj Fk) rfl (st (v := (pt Fj Fk)) (rv_nilCheck rfl) (st (v := (pt Fj (Fk + 1))) (rv_fieldAddr (off := 1) (ft := 106) Tryz.underlying108 rfl ti106 rfl rfl) (st (v := (.iface 128 (pt Fj (Fk + 1)))) (rv_makeInterface Tryz.underlying128 rfl rfl) ?_))))
  replace H := Hp.focus (c1 := [(I Bd.1)]) (c2 := [(Sl a9 r6 c10)]) (c3 := []) (o' := (Fk + 1)) H 0 rfl rfl
  revert h; refine br fun r17 hx18 h => ?_
  have hc19 := c_container_heap_Pop__impl_hitHeap (Ev := Fi) (Ew := Fj) (Ey := (Fk + 1)) (Ez := (Fl ++ [(I Bd.1)])) (Fa := ([] ++ Fm)) (Et := a9) (Eu := c10) hx18
  refine st_call (cx_call hc19 (ent_f hc19.fn rfl) hn0 (H.sel' [0, 1, 2] rfl rfl : Hp S0 σ0 _ ([_, _] ++ _))) wn ?_
  rintro _ σ22 ⟨_, ⟨a20, c21, rfl, rfl⟩, H, -⟩
  replace H : Hp _ _ _ [_, _, _] := H
  replace H : Hp S0 σ0 σ22 [Ch.bx Fi Fj Fk [(I Bd.1), (Sl a20 r17.2 c21)] Fl Fm, Ch.own 0 0 (Sl a20 r17.2 c21) r17.2, Ch.bx n0 b1 0 [(I Ff.1), (I Ff.2)] [] []] := Hp.unfocus (o := Fk) (c1 := [(I Bd.1)]) (c2 := [(Sl a20 r17.2 c21)]) (c3 := []) (pre := Fl) (suf := Fm) H 0 rfl rfl
  refine w_end ?_
  obtain rfl := sj h
  exact fin_end (v := (.tuple #[])) (results_ok Tryz.results93 res_nil rfl) ⟨a20, c21, rfl, rfl⟩ (H.sel' [0, 1] rfl rfl)
 ·replace h := bif_f hb16 h
  refine c_skip ?_
  obtain rfl := sj h
  exact fin_end (v := (.tuple #[])) (results_ok Tryz.results93 res_nil rfl) ⟨a9, c10, rfl, rfl⟩ (H.sel' [0, 1] rfl rfl)

theorem c_slices_Values_impl_hitHeap_impl_Hit {By : List (Int × Int)} {Bz : Option Addr} {Ca : Nat} {r : Unit} (h : M.slices_Values_impl_hitHeap_impl_Hit By = some r) :
    Cal2 Tryz.prog 116 [(Sl Bz By Ca)] [Ch.ro 0 (Sl Bz By Ca) By] (fun n0 v L => ∃ (bz1 : Nat), v = (.func (.func 135) #[] #[(pt bz1 0)]) ∧ L = [Ch.bx n0 bz1 0 [(Sl Bz By Ca)] [] []]) := by
 refine cal2 (n := 4) Tryz.func116 rfl rfl rfl rfl ?_
 intro S0 σ0 n0 hn0 H
 unfold M.slices_Values_impl_hitHeap_impl_Hit at h
 refine c_seq (rg (st_ex (ex_box (cs := [(Sl Bz By Ca)]) H hn0 rfl rfl) wn ?_))
 rintro _ σ2 ⟨b1, rfl, H, -⟩
 refine sa (.nilFunc) rfl (w_end (q_then (c_seq (rg (st (v := (.func (.func 135) #[] #[(pt b1 0)])) (rv_makeFunc (vs := [(pt b1 0)]) rfl) (sa (.func (.func 135) #[] #[(pt b1 0)]) rfl (w_end (q_then (c_ret ?_)))))))))
 obtain rfl := sj h
 exact fin_ret (v := (.func (.func 135) #[] #[(pt b1 0)])) (results_ok Tryz.results116 (res_tmp (v := (.func (.func 135) #[] #[(pt b1 0)])) rfl res_nil) rfl) ⟨b1, rfl, rfl⟩ (H.sel' [0] rfl rfl)

theorem it_slices_AppendSeq_impl_Hit_impl_Hit__slices_Values_impl_hitHeap_impl_Hit_1 {b o c l : Nat} {a : Option Addr} {xs : List (Int × Int)} {J : Nat → St → Prop} (hst : ∀ {i σ σ'}, J i σ → Md (fun _ => False) σ σ' → J i σ')
    (hbx : ∀ {i σ}, J i σ → HCell σ.w.heap b o = some (Sl a xs c) ∧ Rd 0 σ (Sl a xs c) xs) (hn : xs.length ≤ 2147483648)
    (hy : ∀ i, (h : i < xs.length) → ∀ σ, J i σ → YieldAt Fence.wide 0 Tryz.prog l [(.agg #[(I (xs[i]).1), (I (xs[i]).2)])].toArray σ.w fun e W' => e = .returned (.bool true) ∧ ∃ σ', W' = σ'.w ∧ J (i + 1) σ')
    (σ : St) (h0 : J 0 σ) : CallsIn Fence.wide 0 Tryz.prog 135 [.func (.yield l) #[] #[], (pt b o)].toArray σ.w fun e W' => (∃ v, e = .returned v) ∧ ∃ σ', W' = σ'.w ∧ J xs.length σ' := by
  refine enterI (n := 16) Tryz.func135 rfl rfl rfl ?_
  refine wpIn_seq ?_
  obtain ⟨hc, -⟩ := hbx h0
  refine rgI ?_
  refine stI nofun (v := (Sl a xs c)) (rv_load1 Tryz.underlying106 rfl rfl hc) ?_
  refine stI nofun (v := (I (xs.length : Int))) (rv_len Tryz.underlying106 rfl) ?_
  refine stI nofun (v := (I 0)) (rv_move rfl) ?_
  refine endI ?_
  refine q_then (wpIn_block ?_)
  refine wpIn_loop_ghost (fun k a' w' => ∃ i ρ σ, i + k = xs.length ∧ a' = fr 16 (updL ρ [(0, .func (.yield l) #[] #[]), (1, pt b o), (5, Sl a xs c), (6, I (xs.length : Int)), (7, I (i : Int))]) ∧ w' = σ.w ∧ J i σ) xs.length ⟨0, _, σ, by omega, fr_join ⟨rfl, rfl, rfl, rfl, rfl, trivial⟩, rfl, h0⟩ ?_
  clear hc h0
  rintro k _ _ ⟨i, ρ, σ, hik, rfl, rfl, hJ⟩
  refine wpIn_seq ?_
  refine rgI ?_
  refine stI nofun (v := (B (decide ((i : Int) < (xs.length : Int))))) (rv_lss (a := (i : Int)) (b := (xs.length : Int)) rfl rfl) ?_
  refine endI ?_
  refine q_then (wpIn_seq ?_)
  refine cdI_cond (decide ((i : Int) < (xs.length : Int))) rfl (fun hb => ?_) (fun hb => ?_)
  · have hlt : i < xs.length := by have := of_decide_eq_true hb; omega
    refine wpIn_skip ?_
    refine q_then (wpIn_seq ?_)
    refine wpIn_block ?_
    refine wpIn_seq ?_
    refine rgI ?_
    have hg : gidx xs (i : Int) = some xs[i] := gidx_at hlt
    obtain ⟨-, hR⟩ := hbx hJ
    obtain ⟨bx, ox, hi, hat⟩ := hR.ix hg
    obtain ⟨_, ⟨_, _, rfl, rfl, rfl⟩, hl, hcx⟩ := hat.cells
    refine stI nofun (v := (pt bx ox)) (rv_ix Tryz.underlying106 ti47 rfl rfl hi) ?_
    refine stI nofun (v := (.agg #[(I (xs[i]).1), (I (xs[i]).2)])) (rv_load (cs := [(I (xs[i]).1), (I (xs[i]).2)]) Tryz.underlying47 rfl ti47 rfl hl hcx) ?_
    have H : Hp (cov []) σ σ [] := Hp.begin trivial trivial
    refine stI_ex nofun (ex_alloc (lo := 0) H (Nat.zero_le _) ti47 rfl) ?_
    rintro _ σ2 ⟨b4, rfl, H, -⟩
    refine stI_exS nofun (ex_store_box (vs := [(I (xs[i]).1), (I (xs[i]).2)]) (k := 0) H (i := 0) rfl ti47 rfl rfl rfl rfl rfl (Nat.le_of_ble_eq_true rfl) (by simp [plain]) rfl) ?_
    rintro σ3 ⟨H, -⟩
    refine endI ?_
    refine q_then (wpIn_seq ?_)
    refine rgI ?_
    refine stI nofun (v := (.func (.yield l) #[] #[])) (rv_move rfl) ?_
    have hc4 := H.cells 0 rfl
    refine stI nofun (v := (.agg #[(I (xs[i]).1), (I (xs[i]).2)])) (rv_load (cs := [(I (xs[i]).1), (I (xs[i]).2)]) Tryz.underlying47 rfl ti47 rfl rfl hc4) ?_
    refine stI_yield (args := [(.agg #[(I (xs[i]).1), (I (xs[i]).2)])]) rfl rfl (hy i hlt σ3 (hst hJ H.md)) ?_
    rintro e w' ⟨rfl, σ4, rfl, hJ4⟩
    refine ⟨_, rfl, ?_⟩
    refine stI nofun (v := (B (!true))) (rv_not rfl) ?_
    refine endI ?_
    refine q_then ?_
    refine cdI_cond false rfl (fun hb => by cases hb) (fun _ => ?_)
    refine wpIn_skip ?_
    refine q_blk (q_then (rgI ?_))
    refine stI nofun (v := (I (w64 ((i : Int) + 1)))) (rv_add (a := (i : Int)) (b := 1) rfl rfl) ?_
    refine stI nofun (v := (I (w64 ((i : Int) + 1)))) (rv_move rfl) ?_
    refine endI ?_
    have e1 : w64 ((i : Int) + 1) = ((i + 1 : Nat) : Int) := w64_id (by omega) (by omega)
    rw [e1]
    refine q_then ?_
    exact ⟨k - 1, by omega, i + 1, _, σ4, by omega, fr_join ⟨rfl, rfl, rfl, rfl, rfl, trivial⟩, rfl, hJ4⟩
  · have hlt : ¬ i < xs.length := by have := of_decide_eq_false hb; omega
    have : i = xs.length := by omega
    subst this
    refine wpIn_exit ?_
    refine q_then_x (q_then_x (q_blk_hit ?_))
    exact fin_plain' (v := .tuple #[]) (results_ok Tryz.results135 res_nil rfl) ⟨⟨_, rfl⟩, σ, rfl, hJ⟩
theorem c_slices_AppendSeq_impl_Hit_impl_Hit__slices_Values_impl_hitHeap_impl_Hit_1 {Fn : List (Int × Int)} {Fo : Option Addr} {Fp : Nat} {Fq Fr Fs : Nat} {Ft Fu : List Value} {r : List (Int × Int)} (h : M.slices_AppendSeq_impl_Hit_impl_Hit__slices_Values_impl_hitHeap_impl_Hit_1 Fn = some r) :
    Cal2 Tryz.prog 140 [.slice none 0 0, (.func (.func 135) #[] #[(pt Fr Fs)])] [Ch.bx Fq Fr Fs [(Sl Fo Fn Fp)] Ft Fu, Ch.ro 0 (Sl Fo Fn Fp) Fn] (fun n0 v L => ∃ (az1 : Option Addr), ∃ (cz2 : Nat), v = (Sl az1 r cz2) ∧ L = [Ch.own n0 n0 (Sl az1 r cz2) r, Ch.bx Fq Fr Fs [(Sl Fo Fn Fp)] Ft Fu]) := by
  obtain ⟨hn, rfl⟩ := coll_some (show M.coll Fn = some r from h)
  refine ⟨⟨_, _, Tryz.func140, rfl, rfl⟩, fun σ0 n0 hn0 H => ?_⟩
  refine callsIn_wide.1 (enterI (n := 13) Tryz.func140 rfl rfl rfl ?_)
  refine wpIn_seq ?_
  refine rgI ?_
  refine stI_ex nofun (ex_box (cs := [.slice none 0 0]) H hn0 rfl rfl) ?_
  rintro _ σ1 ⟨b1, rfl, H, -⟩
  refine stI nofun (v := (.slice none 0 0)) (rv_assign rfl) ?_
  refine endI ?_
  refine q_then (wpIn_seq ?_)
  refine wpIn_seq ?_
  refine rgI ?_
  refine stI nofun (v := (.func (.func 135) #[] #[(pt Fr Fs)])) (rv_move rfl) ?_
  refine endI ?_
  refine q_then (wpIn_block ?_)
  replace H := H.nilOwn (Int × Int) n0 n0
  refine wp_rangeF (gf := 135) (lb := #[(pt Fr Fs)]) (N := r.length) (encs := fun i => [(.agg #[(I (r.getD i (0, 0)).1), (I (r.getD i (0, 0)).2)])].toArray) (by rw [fr_eval]; rfl) (eg_of ⟨_, _, Tryz.func135, rfl, rfl⟩) (fun _ _ => rfl)
    (fun i L => ∃ a' c', L = [Ch.own n0 n0 (Sl a' (r.take i) c') (r.take i), Ch.bx n0 b1 0 [(Sl a' (r.take i) c')] [] [], Ch.bx Fq Fr Fs [(Sl Fo r Fp)] Ft Fu, Ch.ro 0 (Sl Fo r Fp) r]) ⟨none, 0, rfl⟩ H ?_ ?_ ?_
  · intro l J hst hJ hy σ h0
    refine it_slices_AppendSeq_impl_Hit_impl_Hit__slices_Values_impl_hitHeap_impl_Hit_1 (J := J) (a := Fo) (c := Fp) hst (fun {i σ} h => ?_) hn (fun i hi σ h => ?_) σ h0
    · obtain ⟨L, R, ⟨a', c', rfl⟩, H⟩ := hJ h
      have H2 := H.drop R
      exact ⟨H2.cells 2 rfl 0 (by simp), (H2.ro 3 rfl).rd⟩
    · have := hy i hi σ h
      simpa [List.getD, hi] using this
  · rintro l D i rc rc' hi σ _ ⟨a', c', rfl⟩ H
    have hgd : r.getD i (0, 0) = r[i] := by simp [List.getD, hi]
    simp only [hgd]
    rw [round_fr]
    refine rgI ?_
    refine stI_ex nofun (ex_alloc (lo := n0) H hn0 ti47 rfl) ?_
    rintro _ σ2 ⟨b5, rfl, H, -⟩
    refine stI_exS nofun (ex_store_box (vs := [(I (r[i]).1), (I (r[i]).2)]) (cs' := [(I (r[i]).1), (I (r[i]).2)]) (k := 0) H (i := 0) rfl ti47 rfl rfl rfl rfl rfl (Nat.le_of_ble_eq_true rfl) (by simp [plain]) rfl) ?_
    rintro σ3 ⟨H, -⟩
    refine endI ?_
    refine q_then ?_
    refine ⟨σ3, _, rfl, H.sel' [1, 2, 0, 3, 4, 5, 6] rfl rfl, ?_⟩
    clear H
    intro σ4 H
    refine wpIn_block ?_
    refine rgI ?_
    have hc1 := H.cells 4 rfl
    refine stI nofun (v := (Sl a' (r.take i) c')) (rv_load1 Tryz.underlying36 rfl rfl (hc1 0 (by simp))) ?_
    have hc5 := H.cells 2 rfl
    refine stI nofun (v := (.agg #[(I (r[i]).1), (I (r[i]).2)])) (rv_load (cs := [(I (r[i]).1), (I (r[i]).2)]) Tryz.underlying47 rfl ti47 rfl rfl hc5) ?_
    refine stI_ex nofun (ex_buildSlice (lo := n0) (el := n0) (xs := ([((r[i]).1, (r[i]).2)] : List (Int × Int))) (ps := [(0, (.agg #[(I (r[i]).1), (I (r[i]).2)]))]) (cs := [(I (r[i]).1), (I (r[i]).2)]) H hn0 Tryz.underlying36 ti47 rfl rfl (by kernel_rfl) (.cons (c := [(I (r[i]).1), (I (r[i]).2)]) ⟨_, _, rfl, rfl, rfl⟩ .nil) rfl) ?_
    rintro _ σ5 ⟨b10, rfl, H, -⟩
    refine stI_ex nofun (ex_append H (i := 4) rfl Tryz.underlying36 Tryz.underlying36 ti47 rfl rfl (by decide) (H.own 0 rfl).rd (take_gapp hi hn) hn0 rfl rfl) ?_
    rintro _ σ6 ⟨a2, c2, rfl, H, -⟩
    refine stI_exS nofun (ex_store_box (vs := [(Sl a2 (r.take (i + 1)) c2)]) (cs' := [(Sl a2 (r.take (i + 1)) c2)]) (k := 0) H (i := 5) rfl ti36 rfl rfl rfl rfl rfl (Nat.le_of_ble_eq_true rfl) (by simp [plain, Sl]) rfl) ?_
    rintro σ7 ⟨H, -⟩
    refine endI ?_
    refine q_blk ?_
    exact ⟨rfl, σ7, _, rfl, ⟨a2, c2, rfl⟩, H.sel' [3, 4, 1, 0, 6, 7] rfl rfl⟩
  · rintro D σ _ ⟨a', c', rfl⟩ H
    rw [List.take_length] at H
    refine q_blk (q_then (wpIn_seq ?_))
    refine rgD (ds := [{ target := .collected D, args := #[] }]) ?_
    have hc1 := H.cells 2 rfl
    refine stD nofun (v := (Sl a' r c')) (rv_load1 Tryz.underlying36 rfl rfl (hc1 0 (by simp))) ?_
    refine stD nofun (v := (Sl a' r c')) (rv_assign rfl) ?_
    refine endD ?_
    refine q_then (wpIn_ret ?_)
    exact fin_mark (v := Sl a' r c') H (results_ok Tryz.results140 (res_tmp (v := Sl a' r c') rfl res_nil) rfl) ⟨_, _, _, rfl, rfl, ⟨a', c', rfl, rfl⟩, (H.putDf _).sel' [0, 2] rfl rfl⟩

theorem c_slices_Collect_impl_Hit__slices_Values_impl_hitHeap_impl_Hit_1 {Fv : List (Int × Int)} {Fw : Option Addr} {Fx : Nat} {Fy Ga Gb : Nat} {Gc Gd : List Value} {r : (List (Int × Int))} (h : M.slices_Collect_impl_Hit__slices_Values_impl_hitHeap_impl_Hit_1 Fv = some r) :
    Cal2 Tryz.prog 133 [(.func (.func 135) #[] #[(pt Ga Gb)])] [Ch.bx Fy Ga Gb [(Sl Fw Fv Fx)] Gc Gd, Ch.ro 0 (Sl Fw Fv Fx) Fv] (fun n0 v L => ∃ (az1 : Option Addr), ∃ (cz2 : Nat), v = (Sl az1 r cz2) ∧ L = [Ch.own n0 n0 (Sl az1 r cz2) r, Ch.bx Fy Ga Gb [(Sl Fw Fv Fx)] Gc Gd]) := by
 refine cal2 (n := 5) Tryz.func133 rfl rfl rfl rfl ?_
 intro S0 σ0 n0 hn0 H
 unfold M.slices_Collect_impl_Hit__slices_Values_impl_hitHeap_impl_Hit_1 at h
 refine c_seq (rg (sa (.slice none 0 0) rfl (w_end (q_then (c_seq (rg (sm (.func (.func 135) #[] #[(pt Ga Gb)]) rfl ?_)))))))
 revert h; refine br fun r1 hx2 h => ?_
 have hc3 := c_slices_AppendSeq_impl_Hit_impl_Hit__slices_Values_impl_hitHeap_impl_Hit_1 (Fq := Fy) (Fr := Ga) (Fs := Gb) (Ft := Gc) (Fu := Gd) (Fo := Fw) (Fp := Fx) hx2
 refine st_call (cx_call hc3 (ent_f hc3.fn rfl) hn0 (H.sel' [0, 1, 1] rfl rfl : Hp S0 σ0 _ ([_, _] ++ _))) wn ?_
 rintro _ σ6 ⟨_, ⟨a4, c5, rfl, rfl⟩, H, -⟩
 replace H : Hp _ _ _ [_, _, _] := H
 refine sa (Sl a4 r1 c5) rfl (w_end (q_then (c_ret ?_)))
 obtain rfl := sj h
 exact fin_ret (v := (Sl a4 r1 c5)) (results_ok Tryz.results133 (res_tmp (v := (Sl a4 r1 c5)) rfl res_nil) rfl) ⟨a4, c5, rfl, rfl⟩ (H.sel' [0, 1] rfl rfl)

def sort134_ren : Go.Shelf.Ren := ⟨fun | 6 => 134 | 15 => 83 | 14 => 141 | 28 => 109 | 29 => 110 | 20 => 143 | 21 => 144 | 22 => 145 | 23 => 146 | 24 => 147 | 25 => 148 | 26 => 149 | 27 => 150 | 46 => 151 | 47 => 118 | 48 => 119 | 49 => 152 | 50 => 153 | 57 => 154 | n => n, fun | 22 => 36 | 24 => 47 | 25 => 72 | 3 => 3 | 39 => 101 | 0 => 0 | 53 => 121 | 55 => 123 | 4 => 4 | 46 => 115 | 45 => 114 | 50 => 63 | 5 => 5 | 9 => 9 | 66 => 134 | 70 => 138 | 76 => 156 | 77 => 157 | n => n, fun | n => n⟩
theorem sort134 : Go.Proofs.SlLaysF0.n6 Tryz.prog sort134_ren := {
  mixed := by kernel_rfl
  f6 := ⟨Tryz.f134.name, by decide, Tryz.func134.trans (congrArg some (by kernel_rfl))⟩
  f14 := ⟨Tryz.f141.name, by decide, Tryz.func141.trans (congrArg some (by kernel_rfl))⟩
  f15 := Tryz.func83.trans (congrArg some (by kernel_rfl))
  f20 := ⟨Tryz.f143.name, by decide, Tryz.func143.trans (congrArg some (by kernel_rfl))⟩
  f21 := ⟨Tryz.f144.name, by decide, Tryz.func144.trans (congrArg some (by kernel_rfl))⟩
  f22 := ⟨Tryz.f145.name, by decide, Tryz.func145.trans (congrArg some (by kernel_rfl))⟩
  f23 := ⟨Tryz.f146.name, by decide, Tryz.func146.trans (congrArg some (by kernel_rfl))⟩
  f24 := ⟨Tryz.f147.name, by decide, Tryz.func147.trans (congrArg some (by kernel_rfl))⟩
  f25 := ⟨Tryz.f148.name, by decide, Tryz.func148.trans (congrArg some (by kernel_rfl))⟩
  f26 := ⟨Tryz.f149.name, by decide, Tryz.func149.trans (congrArg some (by kernel_rfl))⟩
  f27 := ⟨Tryz.f150.name, by decide, Tryz.func150.trans (congrArg some (by kernel_rfl))⟩
  f28 := Tryz.func109.trans (congrArg some (by kernel_rfl))
  f29 := Tryz.func110.trans (congrArg some (by kernel_rfl))
  f46 := ⟨Tryz.f151.name, by decide, Tryz.func151.trans (congrArg some (by kernel_rfl))⟩
  f47 := Tryz.func118.trans (congrArg some (by kernel_rfl))
  f48 := Tryz.func119.trans (congrArg some (by kernel_rfl))
  f49 := ⟨Tryz.f152.name, by decide, Tryz.func152.trans (congrArg some (by kernel_rfl))⟩
  f50 := ⟨Tryz.f153.name, by decide, Tryz.func153.trans (congrArg some (by kernel_rfl))⟩
  f57 := ⟨Tryz.f154.name, by decide, Tryz.func154.trans (congrArg some (by kernel_rfl))⟩
  t0 := Tryz.underlying0
  a0 := Tryz.isAgg0
  z0 := Tryz.sizeOf0
  v0 := Tryz.zeroValue0
  t3 := Tryz.underlying3
  a3 := Tryz.isAgg3
  z3 := Tryz.sizeOf3
  v3 := Tryz.zeroValue3
  t4 := Tryz.underlying4
  a4 := Tryz.isAgg4
  z4 := Tryz.sizeOf4
  v4 := Tryz.zeroValue4
  t5 := Tryz.underlying5
  a5 := Tryz.isAgg5
  z5 := Tryz.sizeOf5
  v5 := Tryz.zeroValue5
  t9 := Tryz.underlying9
  a9 := Tryz.isAgg9
  z9 := Tryz.sizeOf9
  v9 := Tryz.zeroValue9
  t22 := Tryz.underlying36
  a22 := Tryz.isAgg36
  z22 := Tryz.sizeOf36
  v22 := Tryz.zeroValue36
  t25 := Tryz.underlying72
  a25 := Tryz.isAgg72
  z25 := Tryz.sizeOf72
  v25 := Tryz.zeroValue72
  t39 := Tryz.underlying101
  a39 := Tryz.isAgg101
  z39 := Tryz.sizeOf101
  v39 := Tryz.zeroValue101
  t45 := Tryz.underlying114
  a45 := Tryz.isAgg114
  z45 := Tryz.sizeOf114
  v45 := Tryz.zeroValue114
  t46 := Tryz.underlying115
  a46 := Tryz.isAgg115
  z46 := Tryz.sizeOf115
  v46 := Tryz.zeroValue115
  t50 := Tryz.underlying63
  a50 := Tryz.isAgg63
  z50 := Tryz.sizeOf63
  v50 := Tryz.zeroValue63
  t53 := Tryz.underlying121
  a53 := Tryz.isAgg121
  z53 := Tryz.sizeOf121
  v53 := Tryz.zeroValue121
  t55 := Tryz.underlying123
  a55 := Tryz.isAgg123
  z55 := Tryz.sizeOf123
  v55 := Tryz.zeroValue123
  t66 := Tryz.underlying134
  a66 := Tryz.isAgg134
  z66 := Tryz.sizeOf134
  v66 := Tryz.zeroValue134
  t70 := Tryz.underlying138
  a70 := Tryz.isAgg138
  z70 := Tryz.sizeOf138
  v70 := Tryz.zeroValue138
  t76 := Tryz.underlying156
  a76 := Tryz.isAgg156
  z76 := Tryz.sizeOf156
  v76 := Tryz.zeroValue156
  t77 := Tryz.underlying157
  a77 := Tryz.isAgg157
  z77 := Tryz.sizeOf157
  v77 := Tryz.zeroValue157 }

theorem c_slices_SortFunc_impl_Hit_impl_Hit__impl_compareHits {Bj : List (Int × Int)} {Dg : Option Addr} {Dh : Nat} {r : List (Int × Int)} (h : M.slices_SortFunc_impl_Hit_impl_Hit__impl_compareHits Bj = some r) :
    Cal2 Tryz.prog 134 [(Sl Dg Bj Dh), (.func (.func 47) #[] #[])] [Ch.own 0 0 (Sl Dg Bj Dh) Bj] (fun n0 v L => v = (.tuple #[]) ∧ L = [Ch.own 0 0 (Sl Dg r Dh) r] ∧ r.length = Bj.length) := by
 obtain ⟨hn, hs, hL, rfl⟩ := sortD_some h
 have hE : ∀ σ σ' : St, Ext σ σ' → (True) → (True) := fun _ _ _ hp => hp
 have hB : ∀ σ : St, allAs σ [] → apart [] → ∃ σp, Pb (cov []) σ σp ∧ True := fun σ _ _ => ⟨σ, ⟨rfl, fun _ _ => rfl, fun _ => Nat.le_refl _⟩, trivial⟩
 have hC : ∀ σ : St, (True) → ∀ x ∈ Bj, ∀ y ∈ Bj, ∀ cx cy, Rp.rp 0 σ cx x → Rp.rp 0 σ cy y → Calls Tryz.prog 47 ([Value.agg cx.toArray, Value.agg cy.toArray] ++ []).toArray σ.w fun e w' => e = .returned (I ((M.impl_compareHits (x.1, x.2) (y.1, y.2)).getD 0)) ∧ ∃ q os, w' = Go.Sort.grow (σ.w.drewN q) os := by
     intro σ hp x hx y hy cx cy rx ry
     obtain ⟨r, hr⟩ := hs x hx y hy
     obtain ⟨_, _, rfl, rfl, rfl⟩ := rx
     obtain ⟨_, _, rfl, rfl, rfl⟩ := ry
     have hc := c_impl_compareHits  hr
     refine (hc.runs σ 0 (Nat.zero_le _) (Hp.begin trivial trivial)).mono ?_
     rintro e w' ⟨v, σ', L', rfl, rfl, ⟨rfl, -⟩, H⟩
     exact ⟨by rw [hr]; rfl, (H.md.mono fun i => fun h => h).grown⟩
 refine (sort_cal2 (α := (Int × Int)) sort134 Tryz.isAgg47 Tryz.sizeOf47 (xs := Bj) (a := Dg) (c := Dh) (g := 47) (cb := []) (B := []) (fun x y => (M.impl_compareHits (x.1, x.2) (y.1, y.2)).getD 0) hL hn ⟨_, _, Tryz.func47, rfl, rfl⟩ _ hE hB hC).conv ?_
 rintro m v L ⟨rfl, rfl⟩
 exact ⟨_, ⟨rfl, rfl, sortL_len⟩, fun H => H.sel' [0] rfl rfl⟩

theorem c_slices_SortedFunc_impl_Hit__slices_Values_impl_hitHeap_impl_Hit_1__impl_compareHits {Fv : List (Int × Int)} {Fw : Option Addr} {Fx : Nat} {Fy Ga Gb : Nat} {Gc Gd : List Value} {r : (List (Int × Int))} (h : M.slices_SortedFunc_impl_Hit__slices_Values_impl_hitHeap_impl_Hit_1__impl_compareHits Fv = some r) :
    Cal2 Tryz.prog 115 [(.func (.func 135) #[] #[(pt Ga Gb)]), (.func (.func 47) #[] #[])] [Ch.bx Fy Ga Gb [(Sl Fw Fv Fx)] Gc Gd, Ch.ro 0 (Sl Fw Fv Fx) Fv] (fun n0 v L => ∃ (az1 : Option Addr), ∃ (cz2 : Nat), v = (Sl az1 r cz2) ∧ L = [Ch.own 0 n0 (Sl az1 r cz2) r, Ch.bx Fy Ga Gb [(Sl Fw Fv Fx)] Gc Gd]) := by
 refine cal2 (n := 12) Tryz.func115 rfl rfl rfl rfl ?_
 intro S0 σ0 n0 hn0 H
 unfold M.slices_SortedFunc_impl_Hit__slices_Values_impl_hitHeap_impl_Hit_1__impl_compareHits at h
 refine c_seq (rg (sa (.slice none 0 0) rfl (w_end (q_then (c_seq (rg (sm (.func (.func 135) #[] #[(pt Ga Gb)]) rfl ?_)))))))
 revert h; refine br fun r1 hx2 h => ?_
 have hc3 := c_slices_Collect_impl_Hit__slices_Values_impl_hitHeap_impl_Hit_1 (Fy := Fy) (Ga := Ga) (Gb := Gb) (Gc := Gc) (Gd := Gd) (Fw := Fw) (Fx := Fx) hx2
 refine st_call (cx_call hc3 (ent_f hc3.fn rfl) hn0 (H.sel' [0, 1, 1] rfl rfl : Hp S0 σ0 _ ([_, _] ++ _))) wn ?_
 rintro _ σ6 ⟨_, ⟨a4, c5, rfl, rfl⟩, H, -⟩
 replace H : Hp _ _ _ [_, _, _] := H
 refine sa (Sl a4 r1 c5) rfl (w_end (q_then (c_seq (rg (sm (Sl a4 r1 c5) rfl (sm (.func (.func 47) #[] #[]) rfl ?_))))))
 replace H := H.ownLow 0 0 0 rfl (Nat.zero_le _) (Nat.zero_le _)
 revert h; refine br fun r7 hx8 h => ?_
 have hc9 := c_slices_SortFunc_impl_Hit_impl_Hit__impl_compareHits (Dg := a4) (Dh := c5) hx8
 refine st_call (cx_call hc9 (ent_f hc9.fn rfl) hn0 (H.sel' [0, 1, 2] rfl rfl : Hp S0 σ0 _ ([_] ++ _))) wn ?_
 rintro _ σ11 ⟨_, ⟨rfl, rfl, hn10⟩, H, -⟩
 replace H : Hp _ _ _ [_, _, _] := H
 have hsl : (Sl a4 r1 c5) = (Sl a4 r7 c5) := sl_len hn10.symm
 try rw [hsl]
 try rw [hsl] at H
 clear hsl
 refine w_end (q_then (c_seq (rg (sm (Sl a4 r7 c5) rfl (sa (Sl a4 r7 c5) rfl (w_end (q_then (c_ret ?_))))))))
 replace H := H.ownSc 0 0 n0 rfl (Nat.le_refl _)
 obtain rfl := sj h
 exact fin_ret (v := (Sl a4 r7 c5)) (results_ok Tryz.results115 (res_tmp (v := (Sl a4 r7 c5)) rfl res_nil) rfl) ⟨a4, c5, rfl, rfl⟩ (H.sel' [0, 1] rfl rfl)

end Go.Vs
