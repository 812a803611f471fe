/- The functions compute what their models say. -/
import Derived.Test.YtdjjikmfkejdiadKBuildTreeOneC2
set_option linter.unusedVariables false
set_option linter.unusedSimpArgs false
set_option maxRecDepth 20000
namespace Go.Vs
open Go Go.Proofs
attribute [local irreducible] Code.wp Code.wpIn wpList wpListIn wpQuiet Calls CallsIn

theorem c_impl_sortByDistance_1__p3__p24 {x_0 : Int × (List Int) × Int} {y_1 : Int × (List Int) × Int} {p_2 : Int} {p_3 : List Int} {ax_0_1 : Option Addr} {cx_0_1 : Nat} {ay_1_1 : Option Addr} {cy_1_1 : Nat} {bp_2 op_2 : Nat} {bp_3 op_3 : Nat} {r : Int} (h : M.impl_sortByDistance_1__p3__p24 x_0 y_1 p_2 p_3 = some r) :
    Cal2 Try.prog 153 [(.agg #[(I x_0.1), (Sl ax_0_1 x_0.2.1 cx_0_1), (I x_0.2.2)]), (.agg #[(I y_1.1), (Sl ay_1_1 y_1.2.1 cy_1_1), (I y_1.2.2)]), (pt bp_2 op_2), (pt bp_3 op_3)] [Ch.ro 0 (Sl ax_0_1 x_0.2.1 cx_0_1) x_0.2.1, Ch.ro 0 (Sl ay_1_1 y_1.2.1 cy_1_1) y_1.2.1, Ch.ro 0 (Sl (some ⟨bp_2, op_2, none⟩) ([p_2] : List Int) 1) ([p_2] : List Int), Ch.ro 0 (Sl (some ⟨bp_3, op_3, none⟩) ([p_3] : List (List Int)) 1) ([p_3] : List (List Int))] (fun n0 v L => v = (I r) ∧ L = []) := by
 refine cal2 (n := 16) Try.func153 rfl rfl rfl rfl ?_
 intro S0 σ0 n0 hn0 H
 unfold M.impl_sortByDistance_1__p3__p24 at h
 have hxp_2 : gidx ([p_2] : List Int) 0 = some p_2 := rfl
 have hip_2 : Ix (Sl (some ⟨bp_2, op_2, none⟩) ([p_2] : List Int) 1) 0 1 bp_2 op_2 := ix_one
 have hxp_3 : gidx ([p_3] : List (List Int)) 0 = some p_3 := rfl
 have hip_3 : Ix (Sl (some ⟨bp_3, op_3, none⟩) ([p_3] : List (List Int)) 1) 0 1 bp_3 op_3 := ix_one
 refine c_seq ?_
 refine rg ?_
 refine st_ex (ex_box (cs := [(I x_0.1), (Sl ax_0_1 x_0.2.1 cx_0_1), (I x_0.2.2)]) H hn0 rfl rfl) wn ?_
 rintro _ σ2 ⟨b1, rfl, H, -⟩
 refine st_ex (ex_box (cs := [(I y_1.1), (Sl ay_1_1 y_1.2.1 cy_1_1), (I y_1.2.2)]) H hn0 rfl rfl) wn ?_
 rintro _ σ4 ⟨b3, rfl, H, -⟩
 refine st (v := (I 0)) (rv_assign rfl) ?_
 refine w_end ?_
 refine q_then ?_
 refine c_seq ?_
 have hc5 := H.cells 1 rfl
 have hc6 := ((H.ro 4 rfl).at hxp_2 hip_2).int
 obtain ⟨v10, hc11, hR9⟩ := ((H.ro 5 rfl).at hxp_3 hip_3).slice
 obtain ⟨a7, c8, rfl⟩ := hR9.isSl
 replace H := H.add (d := Ch.ro 0 (Sl a7 p_3 c8) p_3) hR9 (fun _ h => h)
 clear hR9
 obtain ⟨r12, hx13, h'⟩ := bind_some h
 clear h
 have h := h'; clear h'
 have hc14 := c_impl_hitOf (ax_0_1 := ax_0_1) (cx_0_1 := cx_0_1) (aat_2 := a7) (cat_2 := c8) hx13
 have hc15 := H.cells 1 rfl
 have hc16 := ((H.ro 5 rfl).at hxp_2 hip_2).int
 obtain ⟨v20, hc21, hR19⟩ := ((H.ro 6 rfl).at hxp_3 hip_3).slice
 obtain ⟨a17, c18, rfl⟩ := hR19.isSl
 replace H := H.add (d := Ch.ro 0 (Sl a17 p_3 c18) p_3) hR19 (fun _ h => h)
 clear hR19
 have Hs := H
 refine rg2 (σ := σ4) (Nm := Unit) 7 [3] [[false], [true]] [[(0, 0)], [(0, 0)], [(0, 0)], [(0, 1)], [(0, 0), (1, 1)], [(0, 0), (1, 1)], [(0, 0), (1, 1)]] 1 [fun _ => fun σm => Hp S0 σ0 σm [Ch.ro 0 (Sl a17 p_3 c18) p_3, Ch.ro 0 (Sl a7 p_3 c8) p_3, Ch.bx n0 b3 0 [(I y_1.1), (Sl ay_1_1 y_1.2.1 cy_1_1), (I y_1.2.2)] [] [], Ch.bx n0 b1 0 [(I x_0.1), (Sl ax_0_1 x_0.2.1 cx_0_1), (I x_0.2.2)] [] [], Ch.ro 0 (Sl ax_0_1 x_0.2.1 cx_0_1) x_0.2.1, Ch.ro 0 (Sl ay_1_1 y_1.2.1 cy_1_1) y_1.2.1, Ch.ro 0 (Sl (some ⟨bp_2, op_2, none⟩) ([p_2] : List Int) 1) ([p_2] : List Int), Ch.ro 0 (Sl (some ⟨bp_3, op_3, none⟩) ([p_3] : List (List Int)) 1) ([p_3] : List (List Int))] ∧ Md (cov []) σ4 σm, fun _ => fun σm => Hp S0 σ0 σm [Ch.ro 0 (Sl a17 p_3 c18) p_3, Ch.ro 0 (Sl a7 p_3 c8) p_3, Ch.bx n0 b3 0 [(I y_1.1), (Sl ay_1_1 y_1.2.1 cy_1_1), (I y_1.2.2)] [] [], Ch.bx n0 b1 0 [(I x_0.1), (Sl ax_0_1 x_0.2.1 cx_0_1), (I x_0.2.2)] [] [], Ch.ro 0 (Sl ax_0_1 x_0.2.1 cx_0_1) x_0.2.1, Ch.ro 0 (Sl ay_1_1 y_1.2.1 cy_1_1) y_1.2.1, Ch.ro 0 (Sl (some ⟨bp_2, op_2, none⟩) ([p_2] : List Int) 1) ([p_2] : List Int), Ch.ro 0 (Sl (some ⟨bp_3, op_3, none⟩) ([p_3] : List (List Int)) 1) ([p_3] : List (List Int))] ∧ Md (cov []) σ4 σm] [fun _ => (.agg #[(I x_0.1), (Sl ax_0_1 x_0.2.1 cx_0_1), (I x_0.2.2)]), fun _ => (I p_2), fun _ => (Sl a7 p_3 c8), fun _ => (.agg #[(I r12.1), (I r12.2)]), fun _ => (.agg #[(I y_1.1), (Sl ay_1_1 y_1.2.1 cy_1_1), (I y_1.2.2)]), fun _ => (I p_2), fun _ => (Sl a17 p_3 c18)] () (by kernel_rfl) (by kernel_rfl) ?_ ?_ ?_
 ·intro σm m0
  exact ⟨H.grow (m0.mono fun _ h => h.elim), m0⟩
 ·refine all_cons (by
    refine ⟨?_, ?_⟩
    ·intro _nm ρ σm hJ hoff hdep
     have e4 := look_off (N := 16) (hoff 4 rfl) rfl
     obtain ⟨H, m⟩ := id hJ
     have hc5 := H.cells 3 rfl
     exact dp_v (v := (.agg #[(I x_0.1), (Sl ax_0_1 x_0.2.1 cx_0_1), (I x_0.2.2)])) wn (rv_load (cs := [(I x_0.1), (Sl ax_0_1 x_0.2.1 cx_0_1), (I x_0.2.2)]) Try.underlying40 rfl ti40 e4 rfl hc5) rfl hJ
    trivial) ?_
  refine all_cons (by
    refine ⟨?_, ?_⟩
    ·intro _nm ρ σm hJ hoff hdep
     have e2 := look_off (N := 16) (hoff 2 rfl) rfl
     obtain ⟨H, m⟩ := id hJ
     replace hc6 := (Hs.ro 6 rfl).hmd hxp_2 hip_2 (k := 0) (by decide) hc6 m
     exact dp_v (v := (I p_2)) wn (rv_load1 Try.underlying3 rfl e2 hc6) rfl hJ
    trivial) ?_
  refine all_cons (by
    refine ⟨?_, ?_⟩
    ·intro _nm ρ σm hJ hoff hdep
     have e3 := look_off (N := 16) (hoff 3 rfl) rfl
     obtain ⟨H, m⟩ := id hJ
     replace hc11 := (Hs.ro 7 rfl).hmd hxp_3 hip_3 (k := 0) (by decide) hc11 m
     exact dp_v (v := (Sl a7 p_3 c8)) wn (rv_load1 Try.underlying24 rfl e3 hc11) rfl hJ
    trivial) ?_
  refine all_cons (by
    refine ⟨?_, ?_⟩
    ·intro _nm ρ σm hJ hoff hdep
     have e7 : look 16 ρ 7 = (.agg #[(I x_0.1), (Sl ax_0_1 x_0.2.1 cx_0_1), (I x_0.2.2)]) := hdep 0 rfl rfl 7 rfl
     have e8 : look 16 ρ 8 = (I p_2) := hdep 1 rfl rfl 8 rfl
     have e9 : look 16 ρ 9 = (Sl a7 p_3 c8) := hdep 2 rfl rfl 9 rfl
     obtain ⟨H, m⟩ := id hJ
     refine dp_cx wn (cx_call hc14 (ent_f hc14.fn (by show [look 16 ρ 7, look 16 ρ 8, look 16 ρ 9] = _; rw [e7, e8, e9])) hn0 (show Hp S0 σ0 _ ([Ch.ro 0 (Sl ax_0_1 x_0.2.1 cx_0_1) x_0.2.1, Ch.ro 0 (Sl a7 p_3 c8) p_3] ++ [Ch.ro 0 (Sl a17 p_3 c18) p_3, Ch.ro 0 (Sl a7 p_3 c8) p_3, Ch.bx n0 b3 0 [(I y_1.1), (Sl ay_1_1 y_1.2.1 cy_1_1), (I y_1.2.2)] [] [], Ch.bx n0 b1 0 [(I x_0.1), (Sl ax_0_1 x_0.2.1 cx_0_1), (I x_0.2.2)] [] [], Ch.ro 0 (Sl ax_0_1 x_0.2.1 cx_0_1) x_0.2.1, Ch.ro 0 (Sl ay_1_1 y_1.2.1 cy_1_1) y_1.2.1, Ch.ro 0 (Sl (some ⟨bp_2, op_2, none⟩) ([p_2] : List Int) 1) ([p_2] : List Int), Ch.ro 0 (Sl (some ⟨bp_3, op_3, none⟩) ([p_3] : List (List Int)) 1) ([p_3] : List (List Int))]) from (H.sel' [4, 1, 0, 1, 2, 3, 4, 5, 6, 7] rfl rfl))) ?_
     rintro _ σq ⟨_, ⟨rfl, rfl⟩, H2, m2⟩
     exact ⟨_, (), rfl, rfl, ⟨H2.sel' [0, 1, 2, 3, 4, 5, 6, 7] rfl rfl, m.comp0 (m2.mono (fun i h => by simp [cov, Ch.ro] at h))⟩, stab [0, 1, 2, 4, 5, 6] (by kernel_rfl) ⟨rfl, rfl, rfl, rfl, rfl, rfl, trivial⟩⟩
    trivial) ?_
  refine all_cons (by
    refine ⟨?_, ?_⟩
    ·intro _nm ρ σm hJ hoff hdep
     have e5 := look_off (N := 16) (hoff 5 rfl) rfl
     obtain ⟨H, m⟩ := id hJ
     have hc15 := H.cells 2 rfl
     exact dp_v (v := (.agg #[(I y_1.1), (Sl ay_1_1 y_1.2.1 cy_1_1), (I y_1.2.2)])) wn (rv_load (cs := [(I y_1.1), (Sl ay_1_1 y_1.2.1 cy_1_1), (I y_1.2.2)]) Try.underlying40 rfl ti40 e5 rfl hc15) rfl hJ
    refine ⟨?_, ?_⟩
    ·intro _nm ρ σm hJ hoff hdep
     have e5 := look_off (N := 16) (hoff 5 rfl) rfl
     obtain ⟨H, m⟩ := id hJ
     have hc15 := H.cells 2 rfl
     exact dp_v (v := (.agg #[(I y_1.1), (Sl ay_1_1 y_1.2.1 cy_1_1), (I y_1.2.2)])) wn (rv_load (cs := [(I y_1.1), (Sl ay_1_1 y_1.2.1 cy_1_1), (I y_1.2.2)]) Try.underlying40 rfl ti40 e5 rfl hc15) rfl hJ
    trivial) ?_
  refine all_cons (by
    refine ⟨?_, ?_⟩
    ·intro _nm ρ σm hJ hoff hdep
     have e2 := look_off (N := 16) (hoff 2 rfl) rfl
     obtain ⟨H, m⟩ := id hJ
     replace hc16 := (Hs.ro 6 rfl).hmd hxp_2 hip_2 (k := 0) (by decide) hc16 m
     exact dp_v (v := (I p_2)) wn (rv_load1 Try.underlying3 rfl e2 hc16) rfl hJ
    refine ⟨?_, ?_⟩
    ·intro _nm ρ σm hJ hoff hdep
     have e2 := look_off (N := 16) (hoff 2 rfl) rfl
     obtain ⟨H, m⟩ := id hJ
     replace hc16 := (Hs.ro 6 rfl).hmd hxp_2 hip_2 (k := 0) (by decide) hc16 m
     exact dp_v (v := (I p_2)) wn (rv_load1 Try.underlying3 rfl e2 hc16) rfl hJ
    trivial) ?_
  refine all_cons (by
    refine ⟨?_, ?_⟩
    ·intro _nm ρ σm hJ hoff hdep
     have e3 := look_off (N := 16) (hoff 3 rfl) rfl
     obtain ⟨H, m⟩ := id hJ
     replace hc21 := (Hs.ro 7 rfl).hmd hxp_3 hip_3 (k := 0) (by decide) hc21 m
     exact dp_v (v := (Sl a17 p_3 c18)) wn (rv_load1 Try.underlying24 rfl e3 hc21) rfl hJ
    refine ⟨?_, ?_⟩
    ·intro _nm ρ σm hJ hoff hdep
     have e3 := look_off (N := 16) (hoff 3 rfl) rfl
     obtain ⟨H, m⟩ := id hJ
     replace hc21 := (Hs.ro 7 rfl).hmd hxp_3 hip_3 (k := 0) (by decide) hc21 m
     exact dp_v (v := (Sl a17 p_3 c18)) wn (rv_load1 Try.underlying24 rfl e3 hc21) rfl hJ
    trivial) ?_
  exact all_nil
 ·intro _nm ρ σ22 hJ hoff hrel
  have e10 := hrel 3 rfl 10 rfl
  have e11 := hrel 4 rfl 11 rfl
  have e12 := hrel 5 rfl 12 rfl
  have e13 := hrel 6 rfl 13 rfl
  obtain ⟨H, -⟩ := (show Hp S0 σ0 σ22 [Ch.ro 0 (Sl a17 p_3 c18) p_3, Ch.ro 0 (Sl a7 p_3 c8) p_3, Ch.bx n0 b3 0 [(I y_1.1), (Sl ay_1_1 y_1.2.1 cy_1_1), (I y_1.2.2)] [] [], Ch.bx n0 b1 0 [(I x_0.1), (Sl ax_0_1 x_0.2.1 cx_0_1), (I x_0.2.2)] [] [], Ch.ro 0 (Sl ax_0_1 x_0.2.1 cx_0_1) x_0.2.1, Ch.ro 0 (Sl ay_1_1 y_1.2.1 cy_1_1) y_1.2.1, Ch.ro 0 (Sl (some ⟨bp_2, op_2, none⟩) ([p_2] : List Int) 1) ([p_2] : List Int), Ch.ro 0 (Sl (some ⟨bp_3, op_3, none⟩) ([p_3] : List (List Int)) 1) ([p_3] : List (List Int))] ∧ Md (cov []) σ4 σ22 from hJ)
  clear hJ Hs
  rw [fr_lookL (L := [(10, (.agg #[(I r12.1), (I r12.2)])), (11, (.agg #[(I y_1.1), (Sl ay_1_1 y_1.2.1 cy_1_1), (I y_1.2.2)])), (12, (I p_2)), (13, (Sl a17 p_3 c18))]) ⟨e10, e11, e12, e13, trivial⟩]
  clear hoff hrel e10 e11 e12 e13
  obtain ⟨r23, hx24, h'⟩ := bind_some h
  clear h
  have h := h'; clear h'
  have hc25 := c_impl_hitOf (ax_0_1 := ay_1_1) (cx_0_1 := cy_1_1) (aat_2 := a17) (cat_2 := c18) hx24
  refine st_call (cx_call hc25 (ent_f hc25.fn rfl) hn0 (show Hp S0 σ0 _ ([Ch.ro 0 (Sl ay_1_1 y_1.2.1 cy_1_1) y_1.2.1, Ch.ro 0 (Sl a17 p_3 c18) p_3] ++ [Ch.ro 0 (Sl a17 p_3 c18) p_3, Ch.ro 0 (Sl a7 p_3 c8) p_3, Ch.bx n0 b3 0 [(I y_1.1), (Sl ay_1_1 y_1.2.1 cy_1_1), (I y_1.2.2)] [] [], Ch.bx n0 b1 0 [(I x_0.1), (Sl ax_0_1 x_0.2.1 cx_0_1), (I x_0.2.2)] [] [], Ch.ro 0 (Sl ax_0_1 x_0.2.1 cx_0_1) x_0.2.1, Ch.ro 0 (Sl ay_1_1 y_1.2.1 cy_1_1) y_1.2.1, Ch.ro 0 (Sl (some ⟨bp_2, op_2, none⟩) ([p_2] : List Int) 1) ([p_2] : List Int), Ch.ro 0 (Sl (some ⟨bp_3, op_3, none⟩) ([p_3] : List (List Int)) 1) ([p_3] : List (List Int))]) from (H.sel' [5, 0, 0, 1, 2, 3, 4, 5, 6, 7] rfl rfl))) wn ?_
  rintro _ σ26 ⟨_, ⟨rfl, rfl⟩, H, -⟩
  replace H : Hp S0 σ0 σ26 [Ch.ro 0 (Sl a17 p_3 c18) p_3, Ch.ro 0 (Sl a7 p_3 c8) p_3, Ch.bx n0 b3 0 [(I y_1.1), (Sl ay_1_1 y_1.2.1 cy_1_1), (I y_1.2.2)] [] [], Ch.bx n0 b1 0 [(I x_0.1), (Sl ax_0_1 x_0.2.1 cx_0_1), (I x_0.2.2)] [] [], Ch.ro 0 (Sl ax_0_1 x_0.2.1 cx_0_1) x_0.2.1, Ch.ro 0 (Sl ay_1_1 y_1.2.1 cy_1_1) y_1.2.1, Ch.ro 0 (Sl (some ⟨bp_2, op_2, none⟩) ([p_2] : List Int) 1) ([p_2] : List Int), Ch.ro 0 (Sl (some ⟨bp_3, op_3, none⟩) ([p_3] : List (List Int)) 1) ([p_3] : List (List Int))] := H
  replace H : Hp S0 σ0 σ26 [] := H.sel' [] rfl rfl
  obtain ⟨r27, hx28, h'⟩ := bind_some h
  clear h
  have h := h'; clear h'
  have hc29 := c_impl_compareHits hx28
  refine st_call (cx_call hc29 (ent_f hc29.fn rfl) hn0 (show Hp S0 σ0 _ ([] ++ []) from (H.sel' [] rfl rfl))) wn ?_
  rintro _ σ30 ⟨_, ⟨rfl, rfl⟩, H, -⟩
  replace H : Hp S0 σ0 σ30 [] := H
  refine st (v := (I r27)) (rv_assign rfl) ?_
  refine w_end ?_
  refine q_then ?_
  refine c_ret ?_
  obtain rfl := Option.some.inj h
  exact fin_ret (v := (I r27)) (results_ok Try.results153 (res_tmp (v := (I r27)) rfl res_nil) rfl) ⟨rfl, rfl⟩ (H.sel' [] rfl rfl)

def sort152_ren : Go.Shelf.Ren := ⟨fun | 6 => 152 | 15 => 166 | 14 => 165 | 28 => 182 | 29 => 183 | 20 => 174 | 21 => 175 | 22 => 176 | 23 => 177 | 24 => 178 | 25 => 179 | 26 => 180 | 27 => 181 | 46 => 189 | 47 => 190 | 48 => 191 | 49 => 192 | 50 => 193 | 57 => 197 | n => n, fun | 22 => 23 | 24 => 40 | 25 => 163 | 3 => 3 | 39 => 160 | 0 => 0 | 53 => 194 | 55 => 196 | 4 => 4 | 46 => 188 | 45 => 187 | 50 => 91 | 5 => 5 | 9 => 9 | 66 => 202 | 70 => 206 | 76 => 210 | 77 => 211 | n => n, fun | n => n⟩
theorem sort152 : Go.Proofs.SlLaysF0.n6 Try.prog sort152_ren := {
  mixed := by kernel_rfl
  f6 := ⟨Try.f152.name, by decide, Try.func152.trans (congrArg some (by kernel_rfl))⟩
  f14 := ⟨Try.f165.name, by decide, Try.func165.trans (congrArg some (by kernel_rfl))⟩
  f15 := Try.func166.trans (congrArg some (by kernel_rfl))
  f20 := ⟨Try.f174.name, by decide, Try.func174.trans (congrArg some (by kernel_rfl))⟩
  f21 := ⟨Try.f175.name, by decide, Try.func175.trans (congrArg some (by kernel_rfl))⟩
  f22 := ⟨Try.f176.name, by decide, Try.func176.trans (congrArg some (by kernel_rfl))⟩
  f23 := ⟨Try.f177.name, by decide, Try.func177.trans (congrArg some (by kernel_rfl))⟩
  f24 := ⟨Try.f178.name, by decide, Try.func178.trans (congrArg some (by kernel_rfl))⟩
  f25 := ⟨Try.f179.name, by decide, Try.func179.trans (congrArg some (by kernel_rfl))⟩
  f26 := ⟨Try.f180.name, by decide, Try.func180.trans (congrArg some (by kernel_rfl))⟩
  f27 := ⟨Try.f181.name, by decide, Try.func181.trans (congrArg some (by kernel_rfl))⟩
  f28 := Try.func182.trans (congrArg some (by kernel_rfl))
  f29 := Try.func183.trans (congrArg some (by kernel_rfl))
  f46 := ⟨Try.f189.name, by decide, Try.func189.trans (congrArg some (by kernel_rfl))⟩
  f47 := Try.func190.trans (congrArg some (by kernel_rfl))
  f48 := Try.func191.trans (congrArg some (by kernel_rfl))
  f49 := ⟨Try.f192.name, by decide, Try.func192.trans (congrArg some (by kernel_rfl))⟩
  f50 := ⟨Try.f193.name, by decide, Try.func193.trans (congrArg some (by kernel_rfl))⟩
  f57 := ⟨Try.f197.name, by decide, Try.func197.trans (congrArg some (by kernel_rfl))⟩
  t0 := Try.underlying0
  a0 := Try.isAgg0
  z0 := Try.sizeOf0
  v0 := Try.zeroValue0
  t3 := Try.underlying3
  a3 := Try.isAgg3
  z3 := Try.sizeOf3
  v3 := Try.zeroValue3
  t4 := Try.underlying4
  a4 := Try.isAgg4
  z4 := Try.sizeOf4
  v4 := Try.zeroValue4
  t5 := Try.underlying5
  a5 := Try.isAgg5
  z5 := Try.sizeOf5
  v5 := Try.zeroValue5
  t9 := Try.underlying9
  a9 := Try.isAgg9
  z9 := Try.sizeOf9
  v9 := Try.zeroValue9
  t22 := Try.underlying23
  a22 := Try.isAgg23
  z22 := Try.sizeOf23
  v22 := Try.zeroValue23
  t25 := Try.underlying163
  a25 := Try.isAgg163
  z25 := Try.sizeOf163
  v25 := Try.zeroValue163
  t39 := Try.underlying160
  a39 := Try.isAgg160
  z39 := Try.sizeOf160
  v39 := Try.zeroValue160
  t45 := Try.underlying187
  a45 := Try.isAgg187
  z45 := Try.sizeOf187
  v45 := Try.zeroValue187
  t46 := Try.underlying188
  a46 := Try.isAgg188
  z46 := Try.sizeOf188
  v46 := Try.zeroValue188
  t50 := Try.underlying91
  a50 := Try.isAgg91
  z50 := Try.sizeOf91
  v50 := Try.zeroValue91
  t53 := Try.underlying194
  a53 := Try.isAgg194
  z53 := Try.sizeOf194
  v53 := Try.zeroValue194
  t55 := Try.underlying196
  a55 := Try.isAgg196
  z55 := Try.sizeOf196
  v55 := Try.zeroValue196
  t66 := Try.underlying202
  a66 := Try.isAgg202
  z66 := Try.sizeOf202
  v66 := Try.zeroValue202
  t70 := Try.underlying206
  a70 := Try.isAgg206
  z70 := Try.sizeOf206
  v70 := Try.zeroValue206
  t76 := Try.underlying210
  a76 := Try.isAgg210
  z76 := Try.sizeOf210
  v76 := Try.zeroValue210
  t77 := Try.underlying211
  a77 := Try.isAgg211
  z77 := Try.sizeOf211
  v77 := Try.zeroValue211 }

theorem c_slices_SortFunc_impl_Item_impl_Item__impl_sortByDistance_1 {x_0 : List (Int × (List Int) × Int)} {cmp_1_0 : Int} {cmp_1_1 : List Int} {ax_0 : Option Addr} {cx_0 : Nat} {locmp_1_0 bcmp_1_0 ocmp_1_0 : Nat} {precmp_1_0 sufcmp_1_0 : List Value} {acmp_1_1 : Option Addr} {ccmp_1_1 : Nat} {locmp_1_1 bcmp_1_1 ocmp_1_1 : Nat} {precmp_1_1 sufcmp_1_1 : List Value} {r : List (Int × (List Int) × Int)} (h : M.slices_SortFunc_impl_Item_impl_Item__impl_sortByDistance_1 x_0 cmp_1_0 cmp_1_1 = some r) :
    Cal2 Try.prog 152 [(Sl ax_0 x_0 cx_0), (.func (.func 153) #[] #[(pt bcmp_1_0 ocmp_1_0), (pt bcmp_1_1 ocmp_1_1)])] [Ch.own 0 0 (Sl ax_0 x_0 cx_0) x_0, Ch.bx locmp_1_0 bcmp_1_0 ocmp_1_0 [(I cmp_1_0)] precmp_1_0 sufcmp_1_0, Ch.bx locmp_1_1 bcmp_1_1 ocmp_1_1 [(Sl acmp_1_1 cmp_1_1 ccmp_1_1)] precmp_1_1 sufcmp_1_1, Ch.ro 0 (Sl acmp_1_1 cmp_1_1 ccmp_1_1) cmp_1_1] (fun n0 v L => v = (.tuple #[]) ∧ L = [Ch.own 0 0 (Sl ax_0 r cx_0) r, Ch.bx locmp_1_0 bcmp_1_0 ocmp_1_0 [(I cmp_1_0)] precmp_1_0 sufcmp_1_0, Ch.bx locmp_1_1 bcmp_1_1 ocmp_1_1 [(Sl acmp_1_1 cmp_1_1 ccmp_1_1)] precmp_1_1 sufcmp_1_1] ∧ r.length = x_0.length) := by
 obtain ⟨hn, hs, hL, rfl⟩ := sortD_some h
 have hE : ∀ σ σ' : St, Ext σ σ' → (RS 0 σ (Sl (some ⟨bcmp_1_0, ocmp_1_0, none⟩) ([cmp_1_0] : List Int) 1) ([cmp_1_0] : List Int) ∧ RS 0 σ (Sl (some ⟨bcmp_1_1, ocmp_1_1, none⟩) ([cmp_1_1] : List (List Int)) 1) ([cmp_1_1] : List (List Int)) ∧ RS 0 σ (Sl acmp_1_1 cmp_1_1 ccmp_1_1) cmp_1_1) → (RS 0 σ' (Sl (some ⟨bcmp_1_0, ocmp_1_0, none⟩) ([cmp_1_0] : List Int) 1) ([cmp_1_0] : List Int) ∧ RS 0 σ' (Sl (some ⟨bcmp_1_1, ocmp_1_1, none⟩) ([cmp_1_1] : List (List Int)) 1) ([cmp_1_1] : List (List Int)) ∧ RS 0 σ' (Sl acmp_1_1 cmp_1_1 ccmp_1_1) cmp_1_1) := fun σ σ' hE hp => ⟨hp.1.ext hE, hp.2.1.ext hE, hp.2.2.ext hE⟩
 have hB : ∀ σ : St, allAs σ [Ch.bx locmp_1_0 bcmp_1_0 ocmp_1_0 [(I cmp_1_0)] precmp_1_0 sufcmp_1_0, Ch.bx locmp_1_1 bcmp_1_1 ocmp_1_1 [(Sl acmp_1_1 cmp_1_1 ccmp_1_1)] precmp_1_1 sufcmp_1_1, Ch.ro 0 (Sl acmp_1_1 cmp_1_1 ccmp_1_1) cmp_1_1] → apart [Ch.bx locmp_1_0 bcmp_1_0 ocmp_1_0 [(I cmp_1_0)] precmp_1_0 sufcmp_1_0, Ch.bx locmp_1_1 bcmp_1_1 ocmp_1_1 [(Sl acmp_1_1 cmp_1_1 ccmp_1_1)] precmp_1_1 sufcmp_1_1, Ch.ro 0 (Sl acmp_1_1 cmp_1_1 ccmp_1_1) cmp_1_1] → ∃ σp, Pb (cov [Ch.bx locmp_1_0 bcmp_1_0 ocmp_1_0 [(I cmp_1_0)] precmp_1_0 sufcmp_1_0, Ch.bx locmp_1_1 bcmp_1_1 ocmp_1_1 [(Sl acmp_1_1 cmp_1_1 ccmp_1_1)] precmp_1_1 sufcmp_1_1, Ch.ro 0 (Sl acmp_1_1 cmp_1_1 ccmp_1_1) cmp_1_1]) σ σp ∧ (RS 0 σp (Sl (some ⟨bcmp_1_0, ocmp_1_0, none⟩) ([cmp_1_0] : List Int) 1) ([cmp_1_0] : List Int) ∧ RS 0 σp (Sl (some ⟨bcmp_1_1, ocmp_1_1, none⟩) ([cmp_1_1] : List (List Int)) 1) ([cmp_1_1] : List (List Int)) ∧ RS 0 σp (Sl acmp_1_1 cmp_1_1 ccmp_1_1) cmp_1_1) := by
     intro σ hA hP
     obtain ⟨σ0, p0, r0, a0⟩ := pubBox (α := Int) (x := cmp_1_0) hA hP (by exact rfl)
     obtain ⟨σ1, p1, r1, a1⟩ := pubBox (α := List Int) (x := cmp_1_1) a0 hP.2 (by exact ⟨_, rfl, (a0.2.1 : RS 0 σ0 (Sl acmp_1_1 cmp_1_1 ccmp_1_1) cmp_1_1)⟩)
     exact ⟨σ1, (p0.trans p1).mono (fun i h => h.elim (fun h => .inl h) (fun h => .inr (.inl h))), (r0.ext p1.md.ext), r1, a1.1⟩
 have hC : ∀ σ : St, (RS 0 σ (Sl (some ⟨bcmp_1_0, ocmp_1_0, none⟩) ([cmp_1_0] : List Int) 1) ([cmp_1_0] : List Int) ∧ RS 0 σ (Sl (some ⟨bcmp_1_1, ocmp_1_1, none⟩) ([cmp_1_1] : List (List Int)) 1) ([cmp_1_1] : List (List Int)) ∧ RS 0 σ (Sl acmp_1_1 cmp_1_1 ccmp_1_1) cmp_1_1) → ∀ x ∈ x_0, ∀ y ∈ x_0, ∀ cx cy, Rp.rp 0 σ cx x → Rp.rp 0 σ cy y → Calls Try.prog 153 ([Value.agg cx.toArray, Value.agg cy.toArray] ++ [(pt bcmp_1_0 ocmp_1_0), (pt bcmp_1_1 ocmp_1_1)]).toArray σ.w fun e w' => e = .returned (I ((M.impl_sortByDistance_1__p3__p24 (x.1, x.2.1, x.2.2) (y.1, y.2.1, y.2.2) cmp_1_0 cmp_1_1).getD 0)) ∧ ∃ q os, w' = Go.Sort.grow (σ.w.drewN q) os := by
     intro σ hp x hx y hy cx cy rx ry
     obtain ⟨r, hr⟩ := hs x hx y hy
     obtain ⟨_, _, rfl, rfl, ⟨_, _, rfl, ⟨_, rfl, hRx_1⟩, rfl⟩⟩ := rx
     obtain ⟨_, _, rfl, rfl, ⟨_, _, rfl, ⟨_, rfl, hRy_1⟩, rfl⟩⟩ := ry
     obtain ⟨ax_1, cx_1, rfl⟩ := hRx_1.isSl
     obtain ⟨ay_1, cy_1, rfl⟩ := hRy_1.isSl
     have hc := c_impl_sortByDistance_1__p3__p24 (ax_0_1 := ax_1) (cx_0_1 := cx_1) (ay_1_1 := ay_1) (cy_1_1 := cy_1) (bp_2 := bcmp_1_0) (op_2 := ocmp_1_0) (bp_3 := bcmp_1_1) (op_3 := ocmp_1_1) hr
     refine (hc.runs σ 0 (Nat.zero_le _) (Hp.begin ⟨hRx_1, ⟨hRy_1, ⟨hp.1, ⟨hp.2.1, trivial⟩⟩⟩⟩ ⟨fun _ h => h.elim, ⟨fun _ h => h.elim, ⟨fun _ h => h.elim, ⟨fun _ h => h.elim, trivial⟩⟩⟩⟩)).mono ?_
     rintro e w' ⟨v, σ', L', rfl, rfl, ⟨rfl, -⟩, H⟩
     exact ⟨by rw [hr]; rfl, (H.md.mono fun i => fun h => h.elim (fun h => h.elim) (fun h => h.elim (fun h => h.elim) (fun h => h.elim (fun h => h.elim) (fun h => h.elim (fun h => h.elim) (fun h => h))))).grown⟩
 refine (sort_cal2 (α := (Int × (List Int) × Int)) sort152 Try.isAgg40 Try.sizeOf40 (xs := x_0) (a := ax_0) (c := cx_0) (g := 153) (cb := [(pt bcmp_1_0 ocmp_1_0), (pt bcmp_1_1 ocmp_1_1)]) (B := [Ch.bx locmp_1_0 bcmp_1_0 ocmp_1_0 [(I cmp_1_0)] precmp_1_0 sufcmp_1_0, Ch.bx locmp_1_1 bcmp_1_1 ocmp_1_1 [(Sl acmp_1_1 cmp_1_1 ccmp_1_1)] precmp_1_1 sufcmp_1_1, Ch.ro 0 (Sl acmp_1_1 cmp_1_1 ccmp_1_1) cmp_1_1]) (fun x y => (M.impl_sortByDistance_1__p3__p24 (x.1, x.2.1, x.2.2) (y.1, y.2.1, y.2.2) cmp_1_0 cmp_1_1).getD 0) hL hn ⟨_, _, Try.func153, rfl, rfl⟩ _ hE hB hC).conv ?_
 rintro m v L ⟨rfl, rfl⟩
 exact ⟨_, ⟨rfl, rfl, sortL_len⟩, fun H => H.sel' [0, 1, 2] rfl rfl⟩

theorem c_impl_sortByDistance {list_0 : List (Int × (List Int) × Int)} {kind_1 : Int} {at_2 : List Int} {alist_0 : Option Addr} {clist_0 : Nat} {aat_2 : Option Addr} {cat_2 : Nat} {r : (List (Int × (List Int) × Int))} (h : M.impl_sortByDistance list_0 kind_1 at_2 = some r) :
    Cal2 Try.prog 129 [(Sl alist_0 list_0 clist_0), (I kind_1), (Sl aat_2 at_2 cat_2)] [Ch.ro 0 (Sl alist_0 list_0 clist_0) list_0, Ch.ro 0 (Sl aat_2 at_2 cat_2) at_2] (fun n0 v L => ∃ (az1 : Option Addr), ∃ (cz2 : Nat), v = (Sl az1 r cz2) ∧ L = [Ch.own 0 0 (Sl az1 r cz2) r]) := by
 refine cal2 (n := 14) Try.func129 rfl rfl rfl rfl ?_
 intro S0 σ0 n0 hn0 H
 unfold M.impl_sortByDistance at h
 refine c_seq ?_
 refine rg ?_
 refine st_ex (ex_box (cs := [(I kind_1)]) H hn0 rfl rfl) wn ?_
 rintro _ σ2 ⟨b1, rfl, H, -⟩
 refine st_ex (ex_box (cs := [(Sl aat_2 at_2 cat_2)]) H hn0 rfl rfl) wn ?_
 rintro _ σ4 ⟨b3, rfl, H, -⟩
 refine st (v := (.slice none 0 0)) (rv_assign rfl) ?_
 refine w_end ?_
 refine q_then ?_
 refine c_seq ?_
 refine rg ?_
 refine st (v := (Sl alist_0 list_0 clist_0)) (rv_move rfl) ?_
 obtain ⟨r5, hx6, h'⟩ := bind_some h
 clear h
 have h := h'; clear h'
 have hc7 := c_slices_Clone_impl_Item_impl_Item (as_0 := alist_0) (cs_0 := clist_0) hx6
 refine st_call (cx_call hc7 (ent_f hc7.fn rfl) hn0 (show Hp S0 σ0 _ ([Ch.ro 0 (Sl alist_0 list_0 clist_0) list_0] ++ [Ch.bx n0 b3 0 [(Sl aat_2 at_2 cat_2)] [] [], Ch.bx n0 b1 0 [(I kind_1)] [] [], Ch.ro 0 (Sl alist_0 list_0 clist_0) list_0, Ch.ro 0 (Sl aat_2 at_2 cat_2) at_2]) from (H.sel' [2, 0, 1, 2, 3] rfl rfl))) wn ?_
 rintro _ σ10 ⟨_, ⟨a8, c9, rfl, rfl⟩, H, -⟩
 replace H : Hp S0 σ0 σ10 [Ch.own n0 0 (Sl a8 r5 c9) r5, Ch.bx n0 b3 0 [(Sl aat_2 at_2 cat_2)] [] [], Ch.bx n0 b1 0 [(I kind_1)] [] [], Ch.ro 0 (Sl alist_0 list_0 clist_0) list_0, Ch.ro 0 (Sl aat_2 at_2 cat_2) at_2] := H
 refine st (v := (Sl a8 r5 c9)) (rv_assign rfl) ?_
 refine w_end ?_
 refine q_then ?_
 refine c_seq ?_
 refine rg ?_
 refine st (v := (Sl a8 r5 c9)) (rv_move rfl) ?_
 refine st (v := (.func (.func 153) #[] #[(pt b1 0), (pt b3 0)])) (rv_makeFunc (vs := [(pt b1 0), (pt b3 0)]) rfl) ?_
 replace H := H.ownLow 0 0 0 rfl (Nat.zero_le _) (Nat.zero_le _)
 obtain ⟨r11, hx12, h'⟩ := bind_some h
 clear h
 have h := h'; clear h'
 have hc13 := c_slices_SortFunc_impl_Item_impl_Item__impl_sortByDistance_1 (ax_0 := a8) (cx_0 := c9) (locmp_1_0 := n0) (bcmp_1_0 := b1) (ocmp_1_0 := 0) (precmp_1_0 := []) (sufcmp_1_0 := []) (locmp_1_1 := n0) (bcmp_1_1 := b3) (ocmp_1_1 := 0) (precmp_1_1 := []) (sufcmp_1_1 := []) (acmp_1_1 := aat_2) (ccmp_1_1 := cat_2) hx12
 refine st_call (cx_call hc13 (ent_f hc13.fn rfl) hn0 (show Hp S0 σ0 _ ([Ch.own 0 0 (Sl a8 r5 c9) r5, Ch.bx n0 b1 0 [(I kind_1)] [] [], Ch.bx n0 b3 0 [(Sl aat_2 at_2 cat_2)] [] [], Ch.ro 0 (Sl aat_2 at_2 cat_2) at_2] ++ [Ch.ro 0 (Sl alist_0 list_0 clist_0) list_0, Ch.ro 0 (Sl aat_2 at_2 cat_2) at_2]) from (H.sel' [0, 2, 1, 4, 3, 4] rfl rfl))) wn ?_
 rintro _ σ15 ⟨_, ⟨rfl, rfl, hn14⟩, H, -⟩
 replace H : Hp S0 σ0 σ15 [Ch.own 0 0 (Sl a8 r11 c9) r11, Ch.bx n0 b1 0 [(I kind_1)] [] [], Ch.bx n0 b3 0 [(Sl aat_2 at_2 cat_2)] [] [], Ch.ro 0 (Sl alist_0 list_0 clist_0) list_0, Ch.ro 0 (Sl aat_2 at_2 cat_2) at_2] := H
 have hsl : (Sl a8 r5 c9) = (Sl a8 r11 c9) := sl_len hn14.symm
 try rw [hsl]
 try rw [hsl] at H
 clear hsl
 refine w_end ?_
 refine q_then ?_
 refine c_seq ?_
 refine rg ?_
 refine st (v := (Sl a8 r11 c9)) (rv_move rfl) ?_
 refine st (v := (Sl a8 r11 c9)) (rv_assign rfl) ?_
 refine w_end ?_
 refine q_then ?_
 refine c_ret ?_
 obtain rfl := Option.some.inj h
 exact fin_ret (v := (Sl a8 r11 c9)) (results_ok Try.results129 (res_tmp (v := (Sl a8 r11 c9)) rfl res_nil) rfl) ⟨a8, c9, rfl, rfl⟩ (H.sel' [0] rfl rfl)

theorem c_impl_growTree : ∀ (fuel : Nat) {list_0 : List (Int × (List Int) × Int)} {kind_1 : Int} {alist_0 : Option Addr} {clist_0 : Nat} {r : (Tr (Int × (List Int) × Int))} (h : M.impl_growTree fuel list_0 kind_1 = some r),
    Cal2 Try.prog 83 [(Sl alist_0 list_0 clist_0), (I kind_1)] [Ch.ro 0 (Sl alist_0 list_0 clist_0) list_0] (fun n0 v L => ∃ (az1 : Option Addr), v = (.pointer az1) ∧ L = [Ch.pr 0 (.pointer az1) r]) := by
 intro fuel
 induction fuel with
 | zero => intro _ _ _ _ r h; cases h
 | succ fuel ih =>
 ·intro list_0 kind_1 alist_0 clist_0 r h
  replace h : M.impl_growTree_F (M.impl_growTree fuel) list_0 kind_1 = some r := h
  refine cal2 (n := 54) Try.func83 rfl rfl rfl rfl ?_
  intro S0 σ0 n0 hn0 H
  unfold M.impl_growTree_F at h
  refine c_seq ?_
  refine rg ?_
  refine st (v := (.pointer none)) (rv_assign rfl) ?_
  refine w_end ?_
  refine q_then ?_
  refine c_seq ?_
  refine c_seq ?_
  refine rg ?_
  refine st (v := (Sl alist_0 list_0 clist_0)) (rv_move rfl) ?_
  refine st (v := (I (list_0.length : Int))) (rv_len Try.underlying23 rfl) ?_
  refine st (v := (B ((list_0.length : Int) == 0))) (rv_eql (a := (list_0.length : Int)) (b := 0) rfl rfl) ?_
  refine w_end ?_
  refine q_then ?_
  refine cd_cond ((list_0.length : Int) == 0) rfl (fun hb1 => ?_) (fun hb1 => ?_)
  ·replace h := bif_t hb1 h
   refine c_seq ?_
   refine rg ?_
   refine st (v := (.pointer none)) (rv_assign rfl) ?_
   refine w_end ?_
   refine q_then ?_
   refine c_ret ?_
   refine q_then_r ?_
   replace H := H.nilPr (Int × (List Int) × Int) 0
   obtain rfl := Option.some.inj h
   exact fin_ret (v := (.pointer none)) (results_ok Try.results83 (res_tmp (v := (.pointer none)) rfl res_nil) rfl) ⟨none, rfl, rfl⟩ (H.sel' [0] rfl rfl)
  ·replace h := bif_f hb1 h
   refine c_skip ?_
   refine q_then ?_
   refine c_seq ?_
   refine rg ?_
   refine st (v := (Sl alist_0 list_0 clist_0)) (rv_move rfl) ?_
   obtain ⟨x2, hx3, h'⟩ := bind_some h
   clear h
   have h := h'; clear h'
   obtain ⟨b5, o6, hi4, -⟩ := (H.ro 0 rfl).ix hx3
   refine st (v := (pt b5 o6)) (rv_ix Try.underlying23 ti40 rfl rfl hi4) ?_
   obtain ⟨_, ⟨_, _, rfl, rfl, ⟨_, _, rfl, ⟨_, rfl, hR11⟩, rfl⟩⟩, hl7, hc8⟩ := ((H.ro 0 rfl).at hx3 hi4).cells
   obtain ⟨a9, c10, rfl⟩ := hR11.isSl
   replace H := H.add (d := Ch.ro 0 (Sl a9 x2.2.1 c10) x2.2.1) hR11 (fun _ h => h)
   clear hR11
   refine st (v := (.agg #[(I x2.1), (Sl a9 x2.2.1 c10), (I x2.2.2)])) (rv_load Try.underlying40 rfl ti40 rfl hl7 hc8) ?_
   refine st_ex (ex_alloc (cs := [(I 0), (.slice none 0 0), (I 0)]) H hn0 ti40 rfl) wn ?_
   rintro _ σ13 ⟨b12, rfl, H, -⟩
   refine st_exS (ex_store_box (k := 0) (cs := [(I 0), (.slice none 0 0), (I 0)]) (vs := [(I x2.1), (Sl a9 x2.2.1 c10), (I x2.2.2)]) (cs' := [(I x2.1), (Sl a9 x2.2.1 c10), (I x2.2.2)]) H (i := 0) rfl ti40 rfl rfl rfl rfl rfl (Nat.le_of_ble_eq_true rfl) (by simp [plain]) rfl) wn ?_
   rintro σ14 ⟨H, -⟩
   refine w_end ?_
   refine q_then ?_
   refine c_seq ?_
   refine rgP (σ := σ14) 5 (by kernel_rfl) (by kernel_rfl) (by kernel_rfl) ?_
   refine sq (v := (Sl alist_0 list_0 clist_0)) (rv_move rfl) ?_
   obtain ⟨xs15, hx16, h'⟩ := bind_some h
   clear h
   have h := h'; clear h'
   obtain ⟨a17, c18, hs19, hR20⟩ := (H.ro 2 rfl).slice hx16
   replace H := H.add (d := Ch.ro 0 (Sl a17 xs15 c18) xs15) hR20 (fun _ h => h)
   clear hR20
   refine sq (v := (Sl a17 xs15 c18)) (rv_slice_l Try.underlying23 ti40 hs19 rfl rfl) ?_
   refine sq (v := (I kind_1)) (rv_move rfl) ?_
   refine sq (v := (pt b12 1)) (rv_fieldAddr (off := 1) (ft := 24) Try.underlying40 rfl ti24 rfl rfl) ?_
   have hc21 := H.cell (u := (Sl a9 x2.2.1 c10)) (o' := 1) 1 1 rfl rfl rfl
   refine sq (v := (Sl a9 x2.2.1 c10)) (rv_load1 Try.underlying24 rfl rfl hc21) ?_
   refine sq_end ?_
   intro σ22 hm23
   replace H := H.grow (hm23.mono fun _ h => h); clear hm23
   obtain ⟨r24, hx25, h'⟩ := bind_some h
   clear h
   have h := h'; clear h'
   have hc26 := c_impl_sortByDistance (alist_0 := a17) (clist_0 := c18) (aat_2 := a9) (cat_2 := c10) hx25
   refine st_call (cx_call hc26 (ent_f hc26.fn rfl) hn0 (show Hp S0 σ0 _ ([Ch.ro 0 (Sl a17 xs15 c18) xs15, Ch.ro 0 (Sl a9 x2.2.1 c10) x2.2.1] ++ [Ch.ro 0 (Sl a17 xs15 c18) xs15, Ch.bx n0 b12 0 [(I x2.1), (Sl a9 x2.2.1 c10), (I x2.2.2)] [] [], Ch.ro 0 (Sl a9 x2.2.1 c10) x2.2.1, Ch.ro 0 (Sl alist_0 list_0 clist_0) list_0]) from (H.sel' [0, 2, 0, 1, 2, 3] rfl rfl))) wn ?_
   rintro _ σ29 ⟨_, ⟨a27, c28, rfl, rfl⟩, H, -⟩
   replace H : Hp S0 σ0 σ29 [Ch.own 0 0 (Sl a27 r24 c28) r24, Ch.ro 0 (Sl a17 xs15 c18) xs15, Ch.bx n0 b12 0 [(I x2.1), (Sl a9 x2.2.1 c10), (I x2.2.2)] [] [], Ch.ro 0 (Sl a9 x2.2.1 c10) x2.2.1, Ch.ro 0 (Sl alist_0 list_0 clist_0) list_0] := H
   refine st (v := (Sl a27 r24 c28)) (rv_assign rfl) ?_
   refine w_end ?_
   refine q_then ?_
   refine c_seq ?_
   refine rg ?_
   refine st (v := (Sl a27 r24 c28)) (rv_move rfl) ?_
   refine st (v := (I (r24.length : Int))) (rv_len Try.underlying23 rfl) ?_
   refine st (v := (I (w64 ((r24.length : Int) + 1)))) (rv_add (a := (r24.length : Int)) (b := 1) rfl rfl) ?_
   refine st (v := (I (w64 ((w64 ((r24.length : Int) + 1)).tdiv 2)))) (rv_quo (a := (w64 ((r24.length : Int) + 1))) (b := 2) rfl rfl (by decide)) ?_
   refine st (v := (I (w64 ((w64 ((r24.length : Int) + 1)).tdiv 2)))) (rv_assign rfl) ?_
   refine w_end ?_
   refine q_then ?_
   refine c_seq ?_
   obtain ⟨σ30, hw31, H, -⟩ := H.pub 0 rfl (Nat.le_refl _)
   rw [← hw31]; clear hw31
   have hc32 := H.cells 2 rfl
   obtain ⟨xs33, hx34, h'⟩ := bind_some h
   clear h
   have h := h'; clear h'
   obtain ⟨a35, c36, hs37, hR38⟩ := (H.ro 0 rfl).slice hx34
   replace H := H.add (d := Ch.ro 0 (Sl a35 xs33 c36) xs33) hR38 (fun _ h => h)
   clear hR38
   obtain ⟨r39, hx40, h'⟩ := bind_some h
   clear h
   have h := h'; clear h'
   have hc41 := ih (alist_0 := a35) (clist_0 := c36) hx40
   obtain ⟨xs43, hx44, h'⟩ := bind_some h
   clear h
   have h := h'; clear h'
   obtain ⟨a45, c46, hs47, hR48⟩ := (H.ro 1 rfl).slice hx44
   replace H := H.add (d := Ch.ro 0 (Sl a45 xs43 c46) xs43) hR48 (fun _ h => h)
   clear hR48
   obtain ⟨r49, hx50, h'⟩ := bind_some h
   clear h
   have h := h'; clear h'
   have hc51 := ih (alist_0 := a45) (clist_0 := c46) hx50
   have Hs := H
   refine rg2 (σ := σ30) (Nm := (Option Addr) × (Option Addr)) 11 [5, 10] [[false, false], [true, false], [true, true]] [[(0, 0), (1, 1), (2, 2)], [(0, 0)], [(0, 0)], [(0, 0)], [(0, 0)], [(0, 1)], [(0, 0), (1, 1)], [(0, 0), (1, 1)], [(0, 0), (1, 1)], [(0, 0), (1, 1)], [(1, 2)]] 2 [fun ((a42, a52) : (Option Addr) × (Option Addr)) => fun σm => Hp S0 σ0 σm [Ch.ro 0 (Sl a45 xs43 c46) xs43, Ch.ro 0 (Sl a35 xs33 c36) xs33, Ch.ro 0 (Sl a27 r24 c28) r24, Ch.ro 0 (Sl a17 xs15 c18) xs15, Ch.bx n0 b12 0 [(I x2.1), (Sl a9 x2.2.1 c10), (I x2.2.2)] [] [], Ch.ro 0 (Sl a9 x2.2.1 c10) x2.2.1, Ch.ro 0 (Sl alist_0 list_0 clist_0) list_0] ∧ Md (cov []) σ30 σm, fun ((a42, a52) : (Option Addr) × (Option Addr)) => fun σm => Hp S0 σ0 σm [Ch.pr 0 (.pointer a42) r39, Ch.ro 0 (Sl a45 xs43 c46) xs43, Ch.ro 0 (Sl a35 xs33 c36) xs33, Ch.ro 0 (Sl a27 r24 c28) r24, Ch.ro 0 (Sl a17 xs15 c18) xs15, Ch.bx n0 b12 0 [(I x2.1), (Sl a9 x2.2.1 c10), (I x2.2.2)] [] [], Ch.ro 0 (Sl a9 x2.2.1 c10) x2.2.1, Ch.ro 0 (Sl alist_0 list_0 clist_0) list_0] ∧ Md (cov []) σ30 σm, fun ((a42, a52) : (Option Addr) × (Option Addr)) => fun σm => Hp S0 σ0 σm [Ch.pr 0 (.pointer a52) r49, Ch.pr 0 (.pointer a42) r39, Ch.ro 0 (Sl a45 xs43 c46) xs43, Ch.ro 0 (Sl a35 xs33 c36) xs33, Ch.ro 0 (Sl a27 r24 c28) r24, Ch.ro 0 (Sl a17 xs15 c18) xs15, Ch.bx n0 b12 0 [(I x2.1), (Sl a9 x2.2.1 c10), (I x2.2.2)] [] [], Ch.ro 0 (Sl a9 x2.2.1 c10) x2.2.1, Ch.ro 0 (Sl alist_0 list_0 clist_0) list_0] ∧ Md (cov []) σ30 σm] [fun ((a42, a52) : (Option Addr) × (Option Addr)) => (.agg #[(I x2.1), (Sl a9 x2.2.1 c10), (I x2.2.2)]), fun ((a42, a52) : (Option Addr) × (Option Addr)) => (Sl a27 r24 c28), fun ((a42, a52) : (Option Addr) × (Option Addr)) => (I (w64 ((w64 ((r24.length : Int) + 1)).tdiv 2))), fun ((a42, a52) : (Option Addr) × (Option Addr)) => (Sl a35 xs33 c36), fun ((a42, a52) : (Option Addr) × (Option Addr)) => (I kind_1), fun ((a42, a52) : (Option Addr) × (Option Addr)) => (.pointer a42), fun ((a42, a52) : (Option Addr) × (Option Addr)) => (Sl a27 r24 c28), fun ((a42, a52) : (Option Addr) × (Option Addr)) => (I (w64 ((w64 ((r24.length : Int) + 1)).tdiv 2))), fun ((a42, a52) : (Option Addr) × (Option Addr)) => (Sl a45 xs43 c46), fun ((a42, a52) : (Option Addr) × (Option Addr)) => (I kind_1), fun ((a42, a52) : (Option Addr) × (Option Addr)) => (.pointer a52)] (none, none) (by kernel_rfl) (by kernel_rfl) ?_ ?_ ?_
   ·intro σm m0
    exact ⟨H.grow (m0.mono fun _ h => h.elim), m0⟩
   ·refine all_cons (by
      refine ⟨?_, ?_⟩
      ·rintro ⟨a42, a52⟩ ρ σm hJ hoff hdep
       have e5 := look_off (N := 54) (hoff 5 rfl) rfl
       obtain ⟨H, m⟩ := id hJ
       have hc32 := H.cells 4 rfl
       exact dp_v (v := (.agg #[(I x2.1), (Sl a9 x2.2.1 c10), (I x2.2.2)])) wn (rv_load (cs := [(I x2.1), (Sl a9 x2.2.1 c10), (I x2.2.2)]) Try.underlying40 rfl ti40 e5 rfl hc32) rfl hJ
      refine ⟨?_, ?_⟩
      ·rintro ⟨a42, a52⟩ ρ σm hJ hoff hdep
       have e5 := look_off (N := 54) (hoff 5 rfl) rfl
       obtain ⟨H, m⟩ := id hJ
       have hc32 := H.cells 5 rfl
       exact dp_v (v := (.agg #[(I x2.1), (Sl a9 x2.2.1 c10), (I x2.2.2)])) wn (rv_load (cs := [(I x2.1), (Sl a9 x2.2.1 c10), (I x2.2.2)]) Try.underlying40 rfl ti40 e5 rfl hc32) rfl hJ
      refine ⟨?_, ?_⟩
      ·rintro ⟨a42, a52⟩ ρ σm hJ hoff hdep
       have e5 := look_off (N := 54) (hoff 5 rfl) rfl
       obtain ⟨H, m⟩ := id hJ
       have hc32 := H.cells 6 rfl
       exact dp_v (v := (.agg #[(I x2.1), (Sl a9 x2.2.1 c10), (I x2.2.2)])) wn (rv_load (cs := [(I x2.1), (Sl a9 x2.2.1 c10), (I x2.2.2)]) Try.underlying40 rfl ti40 e5 rfl hc32) rfl hJ
      trivial) ?_
    refine ac rfl (by
      intro k; rintro ⟨a42, a52⟩ ρ σm hJ hoff hdep
      have e6 := look_off (N := 54) (hoff 6 rfl) rfl
      exact dp_v (v := (Sl a27 r24 c28)) wn (rv_move e6) rfl hJ) ?_
    refine ac rfl (by
      intro k; rintro ⟨a42, a52⟩ ρ σm hJ hoff hdep
      have e7 := look_off (N := 54) (hoff 7 rfl) rfl
      exact dp_v (v := (I (w64 ((w64 ((r24.length : Int) + 1)).tdiv 2)))) wn (rv_move e7) rfl hJ) ?_
    refine ac rfl (by
      intro k; rintro ⟨a42, a52⟩ ρ σm hJ hoff hdep
      have e26 := hdep 1 rfl rfl 26 rfl
      have e27 := hdep 2 rfl rfl 27 rfl
      exact dp_v (v := (Sl a35 xs33 c36)) wn (rv_slice_h Try.underlying23 ti40 hs37 e26 e27) rfl hJ) ?_
    refine ac rfl (by
      intro k; rintro ⟨a42, a52⟩ ρ σm hJ hoff hdep
      have e1 := look_off (N := 54) (hoff 1 rfl) rfl
      exact dp_v (v := (I kind_1)) wn (rv_move e1) rfl hJ) ?_
    refine all_cons (by
      refine ⟨?_, ?_⟩
      ·rintro ⟨a42, a52⟩ ρ σm hJ hoff hdep
       have e28 : look 54 ρ 28 = (Sl a35 xs33 c36) := hdep 3 rfl rfl 28 rfl
       have e29 : look 54 ρ 29 = (I kind_1) := hdep 4 rfl rfl 29 rfl
       obtain ⟨H, m⟩ := id hJ
       refine dp_cx wn (cx_call hc41 (ent_f hc41.fn (by show [look 54 ρ 28, look 54 ρ 29] = _; rw [e28, e29])) hn0 (show Hp S0 σ0 _ ([Ch.ro 0 (Sl a35 xs33 c36) xs33] ++ [Ch.ro 0 (Sl a45 xs43 c46) xs43, Ch.ro 0 (Sl a35 xs33 c36) xs33, Ch.ro 0 (Sl a27 r24 c28) r24, Ch.ro 0 (Sl a17 xs15 c18) xs15, Ch.bx n0 b12 0 [(I x2.1), (Sl a9 x2.2.1 c10), (I x2.2.2)] [] [], Ch.ro 0 (Sl a9 x2.2.1 c10) x2.2.1, Ch.ro 0 (Sl alist_0 list_0 clist_0) list_0]) from (H.sel' [1, 0, 1, 2, 3, 4, 5, 6] rfl rfl))) ?_
       rintro _ σq ⟨_, ⟨a42x, rfl, rfl⟩, H2, m2⟩
       exact ⟨_, (a42x, a52), rfl, rfl, ⟨H2.sel' [0, 1, 2, 3, 4, 5, 6, 7] rfl rfl, m.comp0 (m2.mono (fun i h => by simp [cov, Ch.ro] at h))⟩, stab [0, 1, 2, 3, 4, 6, 7, 8, 9] (by kernel_rfl) ⟨rfl, rfl, rfl, rfl, rfl, rfl, rfl, rfl, rfl, trivial⟩⟩
      trivial) ?_
    refine ac rfl (by
      intro k; rintro ⟨a42, a52⟩ ρ σm hJ hoff hdep
      have e6 := look_off (N := 54) (hoff 6 rfl) rfl
      exact dp_v (v := (Sl a27 r24 c28)) wn (rv_move e6) rfl hJ) ?_
    refine ac rfl (by
      intro k; rintro ⟨a42, a52⟩ ρ σm hJ hoff hdep
      have e7 := look_off (N := 54) (hoff 7 rfl) rfl
      exact dp_v (v := (I (w64 ((w64 ((r24.length : Int) + 1)).tdiv 2)))) wn (rv_move e7) rfl hJ) ?_
    refine ac rfl (by
      intro k; rintro ⟨a42, a52⟩ ρ σm hJ hoff hdep
      have e31 := hdep 6 rfl rfl 31 rfl
      have e32 := hdep 7 rfl rfl 32 rfl
      exact dp_v (v := (Sl a45 xs43 c46)) wn (rv_slice_l Try.underlying23 ti40 hs47 e31 e32) rfl hJ) ?_
    refine ac rfl (by
      intro k; rintro ⟨a42, a52⟩ ρ σm hJ hoff hdep
      have e1 := look_off (N := 54) (hoff 1 rfl) rfl
      exact dp_v (v := (I kind_1)) wn (rv_move e1) rfl hJ) ?_
    refine all_cons (by
      refine ⟨?_, ?_⟩
      ·rintro ⟨a42, a52⟩ ρ σm hJ hoff hdep
       have e33 : look 54 ρ 33 = (Sl a45 xs43 c46) := hdep 8 rfl rfl 33 rfl
       have e34 : look 54 ρ 34 = (I kind_1) := hdep 9 rfl rfl 34 rfl
       obtain ⟨H, m⟩ := id hJ
       refine dp_cx wn (cx_call hc51 (ent_f hc51.fn (by show [look 54 ρ 33, look 54 ρ 34] = _; rw [e33, e34])) hn0 (show Hp S0 σ0 _ ([Ch.ro 0 (Sl a45 xs43 c46) xs43] ++ [Ch.pr 0 (.pointer a42) r39, Ch.ro 0 (Sl a45 xs43 c46) xs43, Ch.ro 0 (Sl a35 xs33 c36) xs33, Ch.ro 0 (Sl a27 r24 c28) r24, Ch.ro 0 (Sl a17 xs15 c18) xs15, Ch.bx n0 b12 0 [(I x2.1), (Sl a9 x2.2.1 c10), (I x2.2.2)] [] [], Ch.ro 0 (Sl a9 x2.2.1 c10) x2.2.1, Ch.ro 0 (Sl alist_0 list_0 clist_0) list_0]) from (H.sel' [1, 0, 1, 2, 3, 4, 5, 6, 7] rfl rfl))) ?_
       rintro _ σq ⟨_, ⟨a52x, rfl, rfl⟩, H2, m2⟩
       exact ⟨_, (a42, a52x), rfl, rfl, ⟨H2.sel' [0, 1, 2, 3, 4, 5, 6, 7, 8] rfl rfl, m.comp0 (m2.mono (fun i h => by simp [cov, Ch.ro] at h))⟩, stab [0, 1, 2, 3, 4, 5, 6, 7, 8, 9] (by kernel_rfl) ⟨rfl, rfl, rfl, rfl, rfl, rfl, rfl, rfl, rfl, rfl, trivial⟩⟩
      trivial) ?_
    exact all_nil
   ·rintro ⟨a42, a52⟩ ρ σ53 hJ hoff hrel
    have e1 := look_off (N := 54) (hoff 1 rfl) rfl
    have e5 := look_off (N := 54) (hoff 5 rfl) rfl
    have e6 := look_off (N := 54) (hoff 6 rfl) rfl
    have e7 := look_off (N := 54) (hoff 7 rfl) rfl
    have e25 := hrel 0 rfl 25 rfl
    have e30 := hrel 5 rfl 30 rfl
    have e35 := hrel 10 rfl 35 rfl
    obtain ⟨H, -⟩ := (show Hp S0 σ0 σ53 [Ch.pr 0 (.pointer a52) r49, Ch.pr 0 (.pointer a42) r39, Ch.ro 0 (Sl a45 xs43 c46) xs43, Ch.ro 0 (Sl a35 xs33 c36) xs33, Ch.ro 0 (Sl a27 r24 c28) r24, Ch.ro 0 (Sl a17 xs15 c18) xs15, Ch.bx n0 b12 0 [(I x2.1), (Sl a9 x2.2.1 c10), (I x2.2.2)] [] [], Ch.ro 0 (Sl a9 x2.2.1 c10) x2.2.1, Ch.ro 0 (Sl alist_0 list_0 clist_0) list_0] ∧ Md (cov []) σ30 σ53 from hJ)
    clear hJ Hs
    rw [fr_lookL (L := [(1, (I kind_1)), (5, (pt b12 0)), (6, (Sl a27 r24 c28)), (7, (I (w64 ((w64 ((r24.length : Int) + 1)).tdiv 2)))), (25, (.agg #[(I x2.1), (Sl a9 x2.2.1 c10), (I x2.2.2)])), (30, (.pointer a42)), (35, (.pointer a52))]) ⟨e1, e5, e6, e7, e25, e30, e35, trivial⟩]
    clear hoff hrel e1 e5 e6 e7 e25 e30 e35
    refine st (v := (.agg #[(I x2.1), (Sl a9 x2.2.1 c10), (I x2.2.2), (I 0), (.pointer a42), (.pointer a52)])) (rv_build (ps := [(0, (.agg #[(I x2.1), (Sl a9 x2.2.1 c10), (I x2.2.2)])), (2, (.pointer a42)), (3, (.pointer a52))]) Try.underlying145 ti145 (bp145 Try.underlying145) rfl (by kernel_rfl)) ?_
    refine st_ex (ex_box (cs := [(I x2.1), (Sl a9 x2.2.1 c10), (I x2.2.2), (I 0), (.pointer a42), (.pointer a52)]) H hn0 rfl rfl) wn ?_
    rintro _ σ55 ⟨b54, rfl, H, -⟩
    replace H : Hp S0 σ0 σ55 [Ch.bx n0 b54 0 [(I x2.1), (Sl a9 x2.2.1 c10), (I x2.2.2), (I 0), (.pointer a42), (.pointer a52)] [] [], Ch.pr 0 (.pointer a52) r49, Ch.pr 0 (.pointer a42) r39, Ch.ro 0 (Sl a27 r24 c28) r24, Ch.bx n0 b12 0 [(I x2.1), (Sl a9 x2.2.1 c10), (I x2.2.2)] [] [], Ch.ro 0 (Sl a9 x2.2.1 c10) x2.2.1] := H.sel' [0, 1, 2, 5, 7, 8] rfl rfl
    refine st (v := (pt b54 0)) (rv_assign rfl) ?_
    refine w_end ?_
    refine q_then ?_
    refine c_seq ?_
    refine c_seq ?_
    refine rg ?_
    refine st (v := (I (w64 ((w64 ((r24.length : Int) + 1)).tdiv 2)))) (rv_move rfl) ?_
    refine st (v := (B (decide (0 < (w64 ((w64 ((r24.length : Int) + 1)).tdiv 2)))))) (rv_gtr (a := (w64 ((w64 ((r24.length : Int) + 1)).tdiv 2))) (b := 0) rfl rfl) ?_
    refine w_end ?_
    refine q_then ?_
    obtain ⟨o56, hj, h'⟩ := bind_some h
    clear h
    refine c_cut (fun e a w => e = .normal ∧ ∃ (ρ : Nat → Value) (σ : St) (aj1 : Option Addr) (cj2 : Nat) (aj3 : Option Addr) (aj4 : Option Addr), a = fr 54 (updL ρ [(8, (pt b54 0))]) ∧ w = σ.w ∧ Hp S0 σ0 σ [Ch.bx n0 b54 0 [(I o56.1.1), (Sl aj1 o56.1.2.1 cj2), (I o56.1.2.2), (I o56.2.1), (.pointer aj3), (.pointer aj4)] [] [], Ch.ro 0 (Sl aj1 o56.1.2.1 cj2) o56.1.2.1, Ch.pr 0 (.pointer aj3) o56.2.2.1, Ch.pr 0 (.pointer aj4) o56.2.2.2]) ?_ ?_
    ·clear h'
     rename _ = some o56 => h
     refine cd_cond (decide (0 < (w64 ((w64 ((r24.length : Int) + 1)).tdiv 2)))) rfl (fun hb57 => ?_) (fun hb57 => ?_)
     ·replace h := bif_t hb57 h
      have hc58 := H.cell (u := (Sl a9 x2.2.1 c10)) (o' := 1) 4 1 rfl rfl rfl
      obtain ⟨x59, hx60, h'⟩ := bind_some h
      clear h
      have h := h'; clear h'
      obtain ⟨b62, o63, hi61, -⟩ := (H.ro 3 rfl).ix hx60
      obtain ⟨v67, hc68, hR66⟩ := ((H.ro 3 rfl).at hx60 hi61).snd.fst.slice
      obtain ⟨a64, c65, rfl⟩ := hR66.isSl
      replace H := H.add (d := Ch.ro 0 (Sl a64 x59.2.1 c65) x59.2.1) hR66 (fun _ h => h)
      clear hR66
      obtain ⟨r69, hx70, h'⟩ := bind_some h
      clear h
      have h := h'; clear h'
      have hc71 := c_impl_Distance (aa_1 := a9) (ca_1 := c10) (ab_2 := a64) (cb_2 := c65) hx70
      have Hs := H
      refine rg2 (σ := σ55) (Nm := Unit) 11 [10] [[false], [true]] [[(0, 0), (1, 1)], [(0, 0)], [(0, 0)], [(0, 0)], [(0, 0)], [(0, 0)], [(0, 0)], [(0, 0)], [(0, 0)], [(0, 0)], [(0, 1)]] 1 [fun _ => fun σm => Hp S0 σ0 σm [Ch.ro 0 (Sl a64 x59.2.1 c65) x59.2.1, Ch.bx n0 b54 0 [(I x2.1), (Sl a9 x2.2.1 c10), (I x2.2.2), (I 0), (.pointer a42), (.pointer a52)] [] [], Ch.pr 0 (.pointer a52) r49, Ch.pr 0 (.pointer a42) r39, Ch.ro 0 (Sl a27 r24 c28) r24, Ch.bx n0 b12 0 [(I x2.1), (Sl a9 x2.2.1 c10), (I x2.2.2)] [] [], Ch.ro 0 (Sl a9 x2.2.1 c10) x2.2.1] ∧ Md (cov []) σ55 σm, fun _ => fun σm => Hp S0 σ0 σm [Ch.ro 0 (Sl a64 x59.2.1 c65) x59.2.1, Ch.bx n0 b54 0 [(I x2.1), (Sl a9 x2.2.1 c10), (I x2.2.2), (I 0), (.pointer a42), (.pointer a52)] [] [], Ch.pr 0 (.pointer a52) r49, Ch.pr 0 (.pointer a42) r39, Ch.ro 0 (Sl a27 r24 c28) r24, Ch.bx n0 b12 0 [(I x2.1), (Sl a9 x2.2.1 c10), (I x2.2.2)] [] [], Ch.ro 0 (Sl a9 x2.2.1 c10) x2.2.1] ∧ Md (cov []) σ55 σm] [fun _ => (pt b54 0), fun _ => (I kind_1), fun _ => (pt b12 1), fun _ => (Sl a9 x2.2.1 c10), fun _ => (Sl a27 r24 c28), fun _ => (I (w64 ((w64 ((r24.length : Int) + 1)).tdiv 2))), fun _ => (I (w64 ((w64 ((w64 ((r24.length : Int) + 1)).tdiv 2)) - 1))), fun _ => (pt b62 o63), fun _ => (pt b62 (o63 + 1)), fun _ => (Sl a64 x59.2.1 c65), fun _ => (I r69)] () (by kernel_rfl) (by kernel_rfl) ?_ ?_ ?_
      ·intro σm m0
       exact ⟨H.grow (m0.mono fun _ h => h.elim), m0⟩
      ·refine ac rfl (by
         intro k _nm ρ σm hJ hoff hdep
         have e8 := look_off (N := 54) (hoff 8 rfl) rfl
         exact dp_v (v := (pt b54 0)) wn (rv_move e8) rfl hJ) ?_
       refine ac rfl (by
         intro k _nm ρ σm hJ hoff hdep
         have e1 := look_off (N := 54) (hoff 1 rfl) rfl
         exact dp_v (v := (I kind_1)) wn (rv_move e1) rfl hJ) ?_
       refine ac rfl (by
         intro k _nm ρ σm hJ hoff hdep
         have e5 := look_off (N := 54) (hoff 5 rfl) rfl
         exact dp_v (v := (pt b12 1)) wn (rv_fieldAddr (off := 1) (ft := 24) Try.underlying40 rfl ti24 rfl e5) rfl hJ) ?_
       refine all_cons (by
         refine ⟨?_, ?_⟩
         ·intro _nm ρ σm hJ hoff hdep
          have e42 := hdep 2 rfl rfl 42 rfl
          obtain ⟨H, m⟩ := id hJ
          have hc58 := H.cell (u := (Sl a9 x2.2.1 c10)) (o' := 1) 5 1 rfl rfl rfl
          exact dp_v (v := (Sl a9 x2.2.1 c10)) wn (rv_load1 Try.underlying24 rfl e42 hc58) rfl hJ
         trivial) ?_
       refine ac rfl (by
         intro k _nm ρ σm hJ hoff hdep
         have e6 := look_off (N := 54) (hoff 6 rfl) rfl
         exact dp_v (v := (Sl a27 r24 c28)) wn (rv_move e6) rfl hJ) ?_
       refine ac rfl (by
         intro k _nm ρ σm hJ hoff hdep
         have e7 := look_off (N := 54) (hoff 7 rfl) rfl
         exact dp_v (v := (I (w64 ((w64 ((r24.length : Int) + 1)).tdiv 2)))) wn (rv_move e7) rfl hJ) ?_
       refine ac rfl (by
         intro k _nm ρ σm hJ hoff hdep
         have e45 := hdep 5 rfl rfl 45 rfl
         exact dp_v (v := (I (w64 ((w64 ((w64 ((r24.length : Int) + 1)).tdiv 2)) - 1)))) wn (rv_sub (a := (w64 ((w64 ((r24.length : Int) + 1)).tdiv 2))) (b := 1) e45 rfl) rfl hJ) ?_
       refine ac rfl (by
         intro k _nm ρ σm hJ hoff hdep
         have e44 := hdep 4 rfl rfl 44 rfl
         have e46 := hdep 6 rfl rfl 46 rfl
         exact dp_v (v := (pt b62 o63)) wn (rv_ix Try.underlying23 ti40 e44 e46 hi61) rfl hJ) ?_
       refine ac rfl (by
         intro k _nm ρ σm hJ hoff hdep
         have e47 := hdep 7 rfl rfl 47 rfl
         exact dp_v (v := (pt b62 (o63 + 1))) wn (rv_fieldAddr (off := 1) (ft := 24) Try.underlying40 rfl ti24 rfl e47) rfl hJ) ?_
       refine all_cons (by
         refine ⟨?_, ?_⟩
         ·intro _nm ρ σm hJ hoff hdep
          have e48 := hdep 8 rfl rfl 48 rfl
          obtain ⟨H, m⟩ := id hJ
          replace hc68 := (Hs.ro 4 rfl).hmd hx60 hi61 (k := 1) (by decide) hc68 m
          exact dp_v (v := (Sl a64 x59.2.1 c65)) wn (rv_load1 Try.underlying24 rfl e48 hc68) rfl hJ
         trivial) ?_
       refine all_cons (by
         refine ⟨?_, ?_⟩
         ·intro _nm ρ σm hJ hoff hdep
          have e41 : look 54 ρ 41 = (I kind_1) := hdep 1 rfl rfl 41 rfl
          have e43 : look 54 ρ 43 = (Sl a9 x2.2.1 c10) := hdep 3 rfl rfl 43 rfl
          have e49 : look 54 ρ 49 = (Sl a64 x59.2.1 c65) := hdep 9 rfl rfl 49 rfl
          obtain ⟨H, m⟩ := id hJ
          refine dp_cx wn (cx_call hc71 (ent_f hc71.fn (by show [look 54 ρ 41, look 54 ρ 43, look 54 ρ 49] = _; rw [e41, e43, e49])) hn0 (show Hp S0 σ0 _ ([Ch.ro 0 (Sl a9 x2.2.1 c10) x2.2.1, Ch.ro 0 (Sl a64 x59.2.1 c65) x59.2.1] ++ [Ch.ro 0 (Sl a64 x59.2.1 c65) x59.2.1, Ch.bx n0 b54 0 [(I x2.1), (Sl a9 x2.2.1 c10), (I x2.2.2), (I 0), (.pointer a42), (.pointer a52)] [] [], Ch.pr 0 (.pointer a52) r49, Ch.pr 0 (.pointer a42) r39, Ch.ro 0 (Sl a27 r24 c28) r24, Ch.bx n0 b12 0 [(I x2.1), (Sl a9 x2.2.1 c10), (I x2.2.2)] [] [], Ch.ro 0 (Sl a9 x2.2.1 c10) x2.2.1]) from (H.sel' [6, 0, 0, 1, 2, 3, 4, 5, 6] rfl rfl))) ?_
          rintro _ σq ⟨_, ⟨rfl, rfl⟩, H2, m2⟩
          exact ⟨_, (), rfl, rfl, ⟨H2.sel' [0, 1, 2, 3, 4, 5, 6] rfl rfl, m.comp0 (m2.mono (fun i h => by simp [cov, Ch.ro] at h))⟩, stab [0, 1, 2, 3, 4, 5, 6, 7, 8, 9] (by kernel_rfl) ⟨rfl, rfl, rfl, rfl, rfl, rfl, rfl, rfl, rfl, rfl, trivial⟩⟩
         trivial) ?_
       exact all_nil
      ·intro _nm ρ σ72 hJ hoff hrel
       have e8 := look_off (N := 54) (hoff 8 rfl) rfl
       have e40 := hrel 0 rfl 40 rfl
       have e50 := hrel 10 rfl 50 rfl
       obtain ⟨H, -⟩ := (show Hp S0 σ0 σ72 [Ch.ro 0 (Sl a64 x59.2.1 c65) x59.2.1, Ch.bx n0 b54 0 [(I x2.1), (Sl a9 x2.2.1 c10), (I x2.2.2), (I 0), (.pointer a42), (.pointer a52)] [] [], Ch.pr 0 (.pointer a52) r49, Ch.pr 0 (.pointer a42) r39, Ch.ro 0 (Sl a27 r24 c28) r24, Ch.bx n0 b12 0 [(I x2.1), (Sl a9 x2.2.1 c10), (I x2.2.2)] [] [], Ch.ro 0 (Sl a9 x2.2.1 c10) x2.2.1] ∧ Md (cov []) σ55 σ72 from hJ)
       clear hJ Hs
       rw [fr_lookL (L := [(8, (pt b54 0)), (40, (pt b54 0)), (50, (I r69))]) ⟨e8, e40, e50, trivial⟩]
       clear hoff hrel e8 e40 e50
       refine st (v := (pt b54 0)) (rv_nilCheck rfl) ?_
       refine st (v := (pt b54 3)) (rv_fieldAddr (off := 3) (ft := 3) Try.underlying145 rfl ti3 rfl rfl) ?_
       refine st_exS (ex_store_box (k := 3) (cs := [(I x2.1), (Sl a9 x2.2.1 c10), (I x2.2.2), (I 0), (.pointer a42), (.pointer a52)]) (vs := [(I r69)]) (cs' := [(I x2.1), (Sl a9 x2.2.1 c10), (I x2.2.2), (I r69), (.pointer a42), (.pointer a52)]) H (i := 1) rfl ti3 rfl rfl rfl rfl rfl (Nat.le_of_ble_eq_true rfl) (by simp [plain]) rfl) wn ?_
       rintro σ73 ⟨H, -⟩
       refine w_end ?_
       obtain rfl := Option.some.inj h
       exact ⟨rfl, _, σ73, a9, c10, a42, a52, fr_join ⟨rfl, trivial⟩, rfl, H.sel' [0, 6, 3, 2] rfl rfl⟩
     ·replace h := bif_f hb57 h
      refine c_skip ?_
      obtain rfl := Option.some.inj h
      exact ⟨rfl, _, σ55, a9, c10, a42, a52, fr_join ⟨rfl, trivial⟩, rfl, H.sel' [0, 5, 2, 1] rfl rfl⟩
    ·clear hj
     have h := h'
     clear h' H
     rintro e a w ⟨rfl, ρ, σ74, a75, c76, a77, a78, rfl, rfl, H⟩
     refine q_then ?_
     refine c_seq ?_
     refine rg ?_
     refine st (v := (pt b54 0)) (rv_move rfl) ?_
     refine st (v := (pt b54 0)) (rv_assign rfl) ?_
     refine w_end ?_
     refine q_then ?_
     refine c_ret ?_
     have hp81 : Rp.rp 0 σ74 [(I o56.1.1), (Sl a75 o56.1.2.1 c76), (I o56.1.2.2), (I o56.2.1), (.pointer a77), (.pointer a78)] (((o56.1.1, o56.1.2.1, o56.1.2.2), o56.2.1, o56.2.2.1, o56.2.2.2) : (Int × (List Int) × Int) × Int × (Tr (Int × (List Int) × Int)) × (Tr (Int × (List Int) × Int))) := ⟨[(I o56.1.1), (Sl a75 o56.1.2.1 c76), (I o56.1.2.2)], [(I o56.2.1), (.pointer a77), (.pointer a78)], rfl, ⟨[(I o56.1.1)], [(Sl a75 o56.1.2.1 c76), (I o56.1.2.2)], rfl, rfl, ⟨[(Sl a75 o56.1.2.1 c76)], [(I o56.1.2.2)], rfl, ⟨_, rfl, (H.ro 1 rfl)⟩, rfl⟩⟩, ⟨[(I o56.2.1)], [(.pointer a77), (.pointer a78)], rfl, rfl, ⟨[(.pointer a77)], [(.pointer a78)], rfl, ⟨_, rfl, (H.pr 2 rfl)⟩, ⟨_, rfl, (H.pr 3 rfl)⟩⟩⟩⟩
     obtain ⟨σ79, hw80, H, -⟩ := H.pubTr 0 rfl (Nat.zero_le _) hp81
     rw [← hw80]; clear hw80
     obtain rfl := Option.some.inj h
     exact fin_ret (v := (.pointer (some ⟨b54, 0, none⟩))) (results_ok Try.results83 (res_tmp (v := (.pointer (some ⟨b54, 0, none⟩))) rfl res_nil) rfl) ⟨(some ⟨b54, 0, none⟩), rfl, rfl⟩ (H.sel' [0] rfl rfl)

theorem c_impl_branch_appendTo : ∀ (fuel : Nat) {b_0 : Tr (Int × (List Int) × Int)} {nodes_1 : List (Int × Int × Int × Int)} {ab_0 : Option Addr} {anodes_1 : Option Addr} {cnodes_1 : Nat} {r : (List (Int × Int × Int × Int))} (h : M.impl_branch_appendTo fuel b_0 nodes_1 = some r),
    Cal2 Try.prog 84 [(.pointer ab_0), (Sl anodes_1 nodes_1 cnodes_1)] [Ch.pr 0 (.pointer ab_0) b_0, Ch.own 0 0 (Sl anodes_1 nodes_1 cnodes_1) nodes_1] (fun n0 v L => ∃ (az1 : Option Addr), ∃ (cz2 : Nat), v = (Sl az1 r cz2) ∧ L = [Ch.own 0 n0 (Sl az1 r cz2) r]) := by
 intro fuel
 induction fuel with
 | zero => intro _ _ _ _ _ r h; cases h
 | succ fuel ih =>
 ·intro b_0 nodes_1 ab_0 anodes_1 cnodes_1 r h
  replace h : M.impl_branch_appendTo_F (M.impl_branch_appendTo fuel) b_0 nodes_1 = some r := h
  refine cal2 (n := 59) Try.func84 rfl rfl rfl rfl ?_
  intro S0 σ0 n0 hn0 H
  unfold M.impl_branch_appendTo_F at h
  refine c_seq ?_
  refine rg ?_
  refine st (v := (.slice none 0 0)) (rv_assign rfl) ?_
  refine w_end ?_
  refine q_then ?_
  refine c_seq ?_
  refine c_seq ?_
  refine rg ?_
  refine st (v := (.pointer ab_0)) (rv_move rfl) ?_
  refine st (v := (B b_0.isNil)) (rv_eqlNil Try.underlying95 (H.pr 0 rfl) rfl rfl) ?_
  refine w_end ?_
  refine q_then ?_
  refine cd_cond b_0.isNil rfl (fun hb1 => ?_) (fun hb1 => ?_)
  ·replace h := bif_t hb1 h
   refine c_seq ?_
   refine rg ?_
   refine st (v := (Sl anodes_1 nodes_1 cnodes_1)) (rv_move rfl) ?_
   refine st (v := (Sl anodes_1 nodes_1 cnodes_1)) (rv_assign rfl) ?_
   refine w_end ?_
   refine q_then ?_
   refine c_ret ?_
   refine q_then_r ?_
   replace H := H.ownSc 1 0 n0 rfl (Nat.le_refl _)
   obtain rfl := Option.some.inj h
   exact fin_ret (v := (Sl anodes_1 nodes_1 cnodes_1)) (results_ok Try.results84 (res_tmp (v := (Sl anodes_1 nodes_1 cnodes_1)) rfl res_nil) rfl) ⟨anodes_1, cnodes_1, rfl, rfl⟩ (H.sel' [0] rfl rfl)
  ·replace h := bif_f hb1 h
   refine c_skip ?_
   refine q_then ?_
   refine c_seq ?_
   refine rg ?_
   refine st (v := (Sl anodes_1 nodes_1 cnodes_1)) (rv_move rfl) ?_
   refine st (v := (I (nodes_1.length : Int))) (rv_len Try.underlying43 rfl) ?_
   refine st (v := (I (nodes_1.length : Int))) (rv_assign rfl) ?_
   refine w_end ?_
   refine q_then ?_
   refine c_seq ?_
   obtain ⟨x2, hx3, h'⟩ := bind_some h
   clear h
   have h := h'; clear h'
   obtain ⟨b5, o6, hi4⟩ := (H.pr 0 rfl).ex hx3
   have hc7 := ((H.pr 0 rfl).at hx3 hi4).fst.fst.int
   obtain ⟨x8, hx9, h'⟩ := bind_some h
   clear h
   have h := h'; clear h'
   obtain ⟨b11, o12, hi10⟩ := (H.pr 0 rfl).ex hx9
   have hc13 := ((H.pr 0 rfl).at hx9 hi10).snd.fst.int
   have Hs := H
   refine rg2 (σ := σ0) (Nm := (Nat)) 12 [11] [[false], [true]] [[(0, 0), (1, 1)], [(0, 0)], [(0, 0)], [(0, 0)], [(0, 0)], [(0, 0)], [(0, 0)], [(0, 0)], [(0, 0)], [(0, 0)], [(0, 0)], [(0, 1)]] 1 [fun (b14 : (Nat)) => fun σm => Hp S0 σ0 σm [Ch.pr 0 (.pointer ab_0) b_0, Ch.own 0 0 (Sl anodes_1 nodes_1 cnodes_1) nodes_1] ∧ Md (cov []) σ0 σm, fun (b14 : (Nat)) => fun σm => Hp S0 σ0 σm [Ch.own n0 n0 (Sl (some ⟨b14, 0, none⟩) ([(x2.1.1, x8.2.1, -1, -1)] : List (Int × Int × Int × Int)) 1) ([(x2.1.1, x8.2.1, -1, -1)] : List (Int × Int × Int × Int)), Ch.pr 0 (.pointer ab_0) b_0, Ch.own 0 0 (Sl anodes_1 nodes_1 cnodes_1) nodes_1] ∧ Md (cov []) σ0 σm] [fun (b14 : (Nat)) => (Sl anodes_1 nodes_1 cnodes_1), fun (b14 : (Nat)) => (.pointer ab_0), fun (b14 : (Nat)) => (pt b5 o6), fun (b14 : (Nat)) => (pt b5 (o6 + 0)), fun (b14 : (Nat)) => (pt b5 (o6 + 0)), fun (b14 : (Nat)) => (I x2.1.1), fun (b14 : (Nat)) => (.pointer ab_0), fun (b14 : (Nat)) => (pt b11 o12), fun (b14 : (Nat)) => (pt b11 (o12 + 3)), fun (b14 : (Nat)) => (I x8.2.1), fun (b14 : (Nat)) => (.agg #[(I x2.1.1), (I x8.2.1), (I (-1)), (I (-1))]), fun (b14 : (Nat)) => (Sl (some ⟨b14, 0, none⟩) ([(x2.1.1, x8.2.1, -1, -1)] : List (Int × Int × Int × Int)) 1)] (0) (by kernel_rfl) (by kernel_rfl) ?_ ?_ ?_
   ·intro σm m0
    exact ⟨H.grow (m0.mono fun _ h => h.elim), m0⟩
   ·refine ac rfl (by
      intro k b14 ρ σm hJ hoff hdep
      have e1 := look_off (N := 59) (hoff 1 rfl) rfl
      exact dp_v (v := (Sl anodes_1 nodes_1 cnodes_1)) wn (rv_move e1) rfl hJ) ?_
    refine ac rfl (by
      intro k b14 ρ σm hJ hoff hdep
      have e0 := look_off (N := 59) (hoff 0 rfl) rfl
      exact dp_v (v := (.pointer ab_0)) wn (rv_move e0) rfl hJ) ?_
    refine ac rfl (by
      intro k b14 ρ σm hJ hoff hdep
      have e12 := hdep 1 rfl rfl 12 rfl
      exact dp_v (v := (pt b5 o6)) wn (rv_nilCheckT hi4 e12) rfl hJ) ?_
    refine ac rfl (by
      intro k b14 ρ σm hJ hoff hdep
      have e13 := hdep 2 rfl rfl 13 rfl
      exact dp_v (v := (pt b5 (o6 + 0))) wn (rv_fieldAddr (off := 0) (ft := 40) Try.underlying145 rfl ti40 rfl e13) rfl hJ) ?_
    refine ac rfl (by
      intro k b14 ρ σm hJ hoff hdep
      have e14 := hdep 3 rfl rfl 14 rfl
      exact dp_v (v := (pt b5 (o6 + 0))) wn (rv_fieldAddr (off := 0) (ft := 3) Try.underlying40 rfl ti3 rfl e14) rfl hJ) ?_
    refine all_cons (by
      refine ⟨?_, ?_⟩
      ·intro b14 ρ σm hJ hoff hdep
       have e15 := hdep 4 rfl rfl 15 rfl
       obtain ⟨H, m⟩ := id hJ
       replace hc7 := (Hs.pr 0 rfl).hmd hx3 hi4 (k := 0) (by decide) hc7 m
       exact dp_v (v := (I x2.1.1)) wn (rv_load1 Try.underlying3 rfl e15 hc7) rfl hJ
      trivial) ?_
    refine ac rfl (by
      intro k b14 ρ σm hJ hoff hdep
      have e0 := look_off (N := 59) (hoff 0 rfl) rfl
      exact dp_v (v := (.pointer ab_0)) wn (rv_move e0) rfl hJ) ?_
    refine ac rfl (by
      intro k b14 ρ σm hJ hoff hdep
      have e17 := hdep 6 rfl rfl 17 rfl
      exact dp_v (v := (pt b11 o12)) wn (rv_nilCheckT hi10 e17) rfl hJ) ?_
    refine ac rfl (by
      intro k b14 ρ σm hJ hoff hdep
      have e18 := hdep 7 rfl rfl 18 rfl
      exact dp_v (v := (pt b11 (o12 + 3))) wn (rv_fieldAddr (off := 3) (ft := 3) Try.underlying145 rfl ti3 rfl e18) rfl hJ) ?_
    refine all_cons (by
      refine ⟨?_, ?_⟩
      ·intro b14 ρ σm hJ hoff hdep
       have e19 := hdep 8 rfl rfl 19 rfl
       obtain ⟨H, m⟩ := id hJ
       replace hc13 := (Hs.pr 0 rfl).hmd hx9 hi10 (k := 3) (by decide) hc13 m
       exact dp_v (v := (I x8.2.1)) wn (rv_load1 Try.underlying3 rfl e19 hc13) rfl hJ
      trivial) ?_
    refine ac rfl (by
      intro k b14 ρ σm hJ hoff hdep
      have e16 : look 59 ρ 16 = (I x2.1.1) := hdep 5 rfl rfl 16 rfl
      have e20 : look 59 ρ 20 = (I x8.2.1) := hdep 9 rfl rfl 20 rfl
      exact dp_v (v := (.agg #[(I x2.1.1), (I x8.2.1), (I (-1)), (I (-1))])) wn (rv_build (ps := [(0, (I x2.1.1)), (1, (I x8.2.1)), (2, (I (-1))), (3, (I (-1)))]) Try.underlying47 ti47 (bp47 Try.underlying47) (by show [(0, look 59 ρ 16), (1, look 59 ρ 20), (2, (I (-1))), (3, (I (-1)))] = _; rw [e16, e20]) (by kernel_rfl)) rfl hJ) ?_
    refine all_cons (by
      refine ⟨?_, ?_⟩
      ·intro b14 ρ σm hJ hoff hdep
       have e21 : look 59 ρ 21 = (.agg #[(I x2.1.1), (I x8.2.1), (I (-1)), (I (-1))]) := hdep 10 rfl rfl 21 rfl
       obtain ⟨H, m⟩ := id hJ
       refine dp_ex wn (ex_buildSlice (el := n0) (xs := ([(x2.1.1, x8.2.1, -1, -1)] : List (Int × Int × Int × Int))) (ps := [(0, (.agg #[(I x2.1.1), (I x8.2.1), (I (-1)), (I (-1))]))]) (cs := [(I x2.1.1), (I x8.2.1), (I (-1)), (I (-1))]) H hn0 Try.underlying43 ti47 rfl (by show [(0, look 59 ρ 21)] = _; rw [e21]) (by kernel_rfl) (.cons (c := [(I x2.1.1), (I x8.2.1), (I (-1)), (I (-1))]) ⟨[(I x2.1.1)], [(I x8.2.1), (I (-1)), (I (-1))], rfl, rfl, ⟨[(I x8.2.1)], [(I (-1)), (I (-1))], rfl, rfl, ⟨[(I (-1))], [(I (-1))], rfl, rfl, rfl⟩⟩⟩ (.nil)) rfl) ?_
       rintro _ σq ⟨b14x, rfl, H2, m2⟩
       exact ⟨_, b14x, rfl, rfl, ⟨H2.sel' [0, 1, 2] rfl rfl, m.comp0 m2⟩, stab [0, 1, 2, 3, 4, 5, 6, 7, 8, 9, 10] (by kernel_rfl) ⟨rfl, rfl, rfl, rfl, rfl, rfl, rfl, rfl, rfl, rfl, rfl, trivial⟩⟩
      trivial) ?_
    exact all_nil
   ·intro b14 ρ σ15 hJ hoff hrel
    have e0 := look_off (N := 59) (hoff 0 rfl) rfl
    have e5 := look_off (N := 59) (hoff 5 rfl) rfl
    have e11 := hrel 0 rfl 11 rfl
    have e22 := hrel 11 rfl 22 rfl
    obtain ⟨H, -⟩ := (show Hp S0 σ0 σ15 [Ch.own n0 n0 (Sl (some ⟨b14, 0, none⟩) ([(x2.1.1, x8.2.1, -1, -1)] : List (Int × Int × Int × Int)) 1) ([(x2.1.1, x8.2.1, -1, -1)] : List (Int × Int × Int × Int)), Ch.pr 0 (.pointer ab_0) b_0, Ch.own 0 0 (Sl anodes_1 nodes_1 cnodes_1) nodes_1] ∧ Md (cov []) σ0 σ15 from hJ)
    clear hJ Hs
    rw [fr_lookL (L := [(0, (.pointer ab_0)), (5, (I (nodes_1.length : Int))), (11, (Sl anodes_1 nodes_1 cnodes_1)), (22, (Sl (some ⟨b14, 0, none⟩) ([(x2.1.1, x8.2.1, -1, -1)] : List (Int × Int × Int × Int)) 1))]) ⟨e0, e5, e11, e22, trivial⟩]
    clear hoff hrel e0 e5 e11 e22
    obtain ⟨xs16, hx17, h'⟩ := bind_some h
    clear h
    have h := h'; clear h'
    refine st_ex (ex_append H (i := 2) rfl Try.underlying43 Try.underlying43 ti47 rfl rfl (by decide) ((H.own 0 rfl).rd.sc) hx17 (Nat.zero_le _) rfl rfl) wn ?_
    rintro _ σ20 ⟨a18, c19, rfl, H, -⟩
    refine st (v := (Sl a18 xs16 c19)) (rv_assign rfl) ?_
    refine w_end ?_
    refine q_then ?_
    refine c_seq ?_
    refine c_seq ?_
    refine rg ?_
    refine st (v := (.pointer ab_0)) (rv_move rfl) ?_
    obtain ⟨x21, hx22, h'⟩ := bind_some h
    clear h
    have h := h'; clear h'
    obtain ⟨b24, o25, hi23⟩ := (H.pr 2 rfl).ex hx22
    refine st (v := (pt b24 o25)) (rv_nilCheckT hi23 rfl) ?_
    refine st (v := (pt b24 (o25 + 4))) (rv_fieldAddr (off := 4) (ft := 95) Try.underlying145 rfl ti95 rfl rfl) ?_
    obtain ⟨v29, hc28, hR27⟩ := ((H.pr 2 rfl).at hx22 hi23).snd.snd.fst.tree
    obtain ⟨a26, rfl⟩ := hR27.isPtr
    replace H := H.add (d := Ch.pr 0 (.pointer a26) x21.2.2.1) hR27 (fun _ h => h)
    clear hR27
    refine st (v := (.pointer a26)) (rv_load1 Try.underlying95 rfl rfl hc28) ?_
    refine st (v := (B (!x21.2.2.1.isNil))) (rv_neqNil Try.underlying95 (H.pr 0 rfl) rfl rfl) ?_
    refine w_end ?_
    refine q_then ?_
    obtain ⟨o30, hj, h'⟩ := bind_some h
    clear h
    refine c_cut (fun e a w => e = .normal ∧ ∃ (ρ : Nat → Value) (σ : St) (aj1 : Option Addr) (cj2 : Nat), a = fr 59 (updL ρ [(0, (.pointer ab_0)), (1, (Sl aj1 o30 cj2)), (5, (I (nodes_1.length : Int)))]) ∧ w = σ.w ∧ Hp S0 σ0 σ [Ch.pr 0 (.pointer ab_0) b_0, Ch.own 0 0 (Sl aj1 o30 cj2) o30]) ?_ ?_
    ·clear h'
     rename _ = some o30 => h
     refine cd_cond (!x21.2.2.1.isNil) rfl (fun hb31 => ?_) (fun hb31 => ?_)
     ·replace h := bif_t hb31 h
      refine c_seq ?_
      refine rg ?_
      refine st (v := (Sl a18 xs16 c19)) (rv_move rfl) ?_
      refine st (v := (I (nodes_1.length : Int))) (rv_move rfl) ?_
      refine st (v := (Sl a18 xs16 c19)) (rv_move rfl) ?_
      refine st (v := (I (xs16.length : Int))) (rv_len Try.underlying43 rfl) ?_
      obtain ⟨x32, hx33, h'⟩ := bind_some h
      clear h
      have h := h'; clear h'
      obtain ⟨b35, o36, hi34, -⟩ := (H.own 1 rfl).ix hx33
      refine st (v := (pt b35 o36)) (rv_ix Try.underlying43 ti47 rfl rfl hi34) ?_
      refine st (v := (pt b35 (o36 + 2))) (rv_fieldAddr (off := 2) (ft := 3) Try.underlying47 rfl ti3 rfl rfl) ?_
      refine st_exS (ex_store_own (e' := (x32.1, x32.2.1, (xs16.length : Int), x32.2.2.2)) (vs := [(I (xs16.length : Int))]) (k := 2) H (i := 1) rfl ti3 hx33 hi34 rfl rfl rfl rfl rfl (Nat.le_of_ble_eq_true rfl) (by simp [plain]) (by rintro _ ⟨_, _, rfl, rfl, ⟨_, _, rfl, rfl, ⟨_, _, rfl, rfl, rfl⟩⟩⟩; exact ⟨[(I x32.1)], [(I x32.2.1), (I (xs16.length : Int)), (I x32.2.2.2)], rfl, rfl, ⟨[(I x32.2.1)], [(I (xs16.length : Int)), (I x32.2.2.2)], rfl, rfl, ⟨[(I (xs16.length : Int))], [(I x32.2.2.2)], rfl, rfl, rfl⟩⟩⟩)) wn ?_
      rintro σ37 ⟨H, -⟩
      have hsl : (Sl a18 xs16 c19) = (Sl a18 (xs16.set (nodes_1.length : Int).toNat (x32.1, x32.2.1, (xs16.length : Int), x32.2.2.2)) c19) := sl_len List.length_set.symm
      rw [hsl]; rw [hsl] at H; clear hsl
      refine w_end ?_
      refine q_then ?_
      refine rg ?_
      refine st (v := (.pointer ab_0)) (rv_move rfl) ?_
      obtain ⟨x38, hx39, h'⟩ := bind_some h
      clear h
      have h := h'; clear h'
      obtain ⟨b41, o42, hi40⟩ := (H.pr 3 rfl).ex hx39
      refine st (v := (pt b41 o42)) (rv_nilCheckT hi40 rfl) ?_
      refine st (v := (pt b41 (o42 + 4))) (rv_fieldAddr (off := 4) (ft := 95) Try.underlying145 rfl ti95 rfl rfl) ?_
      obtain ⟨v46, hc45, hR44⟩ := ((H.pr 3 rfl).at hx39 hi40).snd.snd.fst.tree
      obtain ⟨a43, rfl⟩ := hR44.isPtr
      replace H := H.add (d := Ch.pr 0 (.pointer a43) x38.2.2.1) hR44 (fun _ h => h)
      clear hR44
      refine st (v := (.pointer a43)) (rv_load1 Try.underlying95 rfl rfl hc45) ?_
      refine st (v := (Sl a18 (xs16.set (nodes_1.length : Int).toNat (x32.1, x32.2.1, (xs16.length : Int), x32.2.2.2)) c19)) (rv_move rfl) ?_
      obtain ⟨r47, hx48, h'⟩ := bind_some h
      clear h
      have h := h'; clear h'
      have hc49 := ih (ab_0 := a43) (anodes_1 := a18) (cnodes_1 := c19) hx48
      refine st_call (cx_call hc49 (ent_f hc49.fn rfl) hn0 (show Hp S0 σ0 _ ([Ch.pr 0 (.pointer a43) x38.2.2.1, Ch.own 0 0 (Sl a18 (xs16.set (nodes_1.length : Int).toNat (x32.1, x32.2.1, (xs16.length : Int), x32.2.2.2)) c19) (xs16.set (nodes_1.length : Int).toNat (x32.1, x32.2.1, (xs16.length : Int), x32.2.2.2))] ++ [Ch.pr 0 (.pointer a43) x38.2.2.1, Ch.pr 0 (.pointer a26) x21.2.2.1, Ch.own n0 n0 (Sl (some ⟨b14, 0, none⟩) ([(x2.1.1, x8.2.1, -1, -1)] : List (Int × Int × Int × Int)) 1) ([(x2.1.1, x8.2.1, -1, -1)] : List (Int × Int × Int × Int)), Ch.pr 0 (.pointer ab_0) b_0]) from (H.sel' [0, 1, 0, 2, 3, 4] rfl rfl))) wn ?_
      rintro _ σ52 ⟨_, ⟨a50, c51, rfl, rfl⟩, H, -⟩
      replace H : Hp S0 σ0 σ52 [Ch.own 0 n0 (Sl a50 r47 c51) r47, Ch.pr 0 (.pointer a43) x38.2.2.1, Ch.pr 0 (.pointer a26) x21.2.2.1, Ch.own n0 n0 (Sl (some ⟨b14, 0, none⟩) ([(x2.1.1, x8.2.1, -1, -1)] : List (Int × Int × Int × Int)) 1) ([(x2.1.1, x8.2.1, -1, -1)] : List (Int × Int × Int × Int)), Ch.pr 0 (.pointer ab_0) b_0] := H
      refine st (v := (Sl a50 r47 c51)) (rv_assign rfl) ?_
      refine w_end ?_
      replace H := H.ownSc 0 0 0 rfl (Nat.le_refl _)
      obtain rfl := Option.some.inj h
      exact ⟨rfl, _, σ52, a50, c51, fr_join ⟨rfl, rfl, rfl, trivial⟩, rfl, H.sel' [4, 0] rfl rfl⟩
     ·replace h := bif_f hb31 h
      refine c_skip ?_
      obtain rfl := Option.some.inj h
      exact ⟨rfl, _, σ20, a18, c19, fr_join ⟨rfl, rfl, rfl, trivial⟩, rfl, H.sel' [3, 1] rfl rfl⟩
    ·clear hj
     have h := h'
     clear h' H
     rintro e a w ⟨rfl, ρ, σ53, a54, c55, rfl, rfl, H⟩
     refine q_then ?_
     refine c_seq ?_
     refine c_seq ?_
     refine rg ?_
     refine st (v := (.pointer ab_0)) (rv_move rfl) ?_
     obtain ⟨x56, hx57, h'⟩ := bind_some h
     clear h
     have h := h'; clear h'
     obtain ⟨b59, o60, hi58⟩ := (H.pr 0 rfl).ex hx57
     refine st (v := (pt b59 o60)) (rv_nilCheckT hi58 rfl) ?_
     refine st (v := (pt b59 (o60 + 5))) (rv_fieldAddr (off := 5) (ft := 95) Try.underlying145 rfl ti95 rfl rfl) ?_
     obtain ⟨v64, hc63, hR62⟩ := ((H.pr 0 rfl).at hx57 hi58).snd.snd.snd.tree
     obtain ⟨a61, rfl⟩ := hR62.isPtr
     replace H := H.add (d := Ch.pr 0 (.pointer a61) x56.2.2.2) hR62 (fun _ h => h)
     clear hR62
     refine st (v := (.pointer a61)) (rv_load1 Try.underlying95 rfl rfl hc63) ?_
     refine st (v := (B (!x56.2.2.2.isNil))) (rv_neqNil Try.underlying95 (H.pr 0 rfl) rfl rfl) ?_
     refine w_end ?_
     refine q_then ?_
     obtain ⟨o65, hj, h'⟩ := bind_some h
     clear h
     refine c_cut (fun e a w => e = .normal ∧ ∃ (ρ : Nat → Value) (σ : St) (aj1 : Option Addr) (cj2 : Nat), a = fr 59 (updL ρ [(1, (Sl aj1 o65 cj2))]) ∧ w = σ.w ∧ Hp S0 σ0 σ [Ch.own 0 0 (Sl aj1 o65 cj2) o65]) ?_ ?_
     ·clear h'
      rename _ = some o65 => h
      refine cd_cond (!x56.2.2.2.isNil) rfl (fun hb66 => ?_) (fun hb66 => ?_)
      ·replace h := bif_t hb66 h
       refine c_seq ?_
       refine rg ?_
       refine st (v := (Sl a54 o30 c55)) (rv_move rfl) ?_
       refine st (v := (I (nodes_1.length : Int))) (rv_move rfl) ?_
       refine st (v := (Sl a54 o30 c55)) (rv_move rfl) ?_
       refine st (v := (I (o30.length : Int))) (rv_len Try.underlying43 rfl) ?_
       obtain ⟨x67, hx68, h'⟩ := bind_some h
       clear h
       have h := h'; clear h'
       obtain ⟨b70, o71, hi69, -⟩ := (H.own 2 rfl).ix hx68
       refine st (v := (pt b70 o71)) (rv_ix Try.underlying43 ti47 rfl rfl hi69) ?_
       refine st (v := (pt b70 (o71 + 3))) (rv_fieldAddr (off := 3) (ft := 3) Try.underlying47 rfl ti3 rfl rfl) ?_
       refine st_exS (ex_store_own (e' := (x67.1, x67.2.1, x67.2.2.1, (o30.length : Int))) (vs := [(I (o30.length : Int))]) (k := 3) H (i := 2) rfl ti3 hx68 hi69 rfl rfl rfl rfl rfl (Nat.le_of_ble_eq_true rfl) (by simp [plain]) (by rintro _ ⟨_, _, rfl, rfl, ⟨_, _, rfl, rfl, ⟨_, _, rfl, rfl, rfl⟩⟩⟩; exact ⟨[(I x67.1)], [(I x67.2.1), (I x67.2.2.1), (I (o30.length : Int))], rfl, rfl, ⟨[(I x67.2.1)], [(I x67.2.2.1), (I (o30.length : Int))], rfl, rfl, ⟨[(I x67.2.2.1)], [(I (o30.length : Int))], rfl, rfl, rfl⟩⟩⟩)) wn ?_
       rintro σ72 ⟨H, -⟩
       have hsl : (Sl a54 o30 c55) = (Sl a54 (o30.set (nodes_1.length : Int).toNat (x67.1, x67.2.1, x67.2.2.1, (o30.length : Int))) c55) := sl_len List.length_set.symm
       rw [hsl]; rw [hsl] at H; clear hsl
       refine w_end ?_
       refine q_then ?_
       refine rg ?_
       refine st (v := (.pointer ab_0)) (rv_move rfl) ?_
       obtain ⟨x73, hx74, h'⟩ := bind_some h
       clear h
       have h := h'; clear h'
       obtain ⟨b76, o77, hi75⟩ := (H.pr 2 rfl).ex hx74
       refine st (v := (pt b76 o77)) (rv_nilCheckT hi75 rfl) ?_
       refine st (v := (pt b76 (o77 + 5))) (rv_fieldAddr (off := 5) (ft := 95) Try.underlying145 rfl ti95 rfl rfl) ?_
       obtain ⟨v81, hc80, hR79⟩ := ((H.pr 2 rfl).at hx74 hi75).snd.snd.snd.tree
       obtain ⟨a78, rfl⟩ := hR79.isPtr
       replace H := H.add (d := Ch.pr 0 (.pointer a78) x73.2.2.2) hR79 (fun _ h => h)
       clear hR79
       refine st (v := (.pointer a78)) (rv_load1 Try.underlying95 rfl rfl hc80) ?_
       refine st (v := (Sl a54 (o30.set (nodes_1.length : Int).toNat (x67.1, x67.2.1, x67.2.2.1, (o30.length : Int))) c55)) (rv_move rfl) ?_
       obtain ⟨r82, hx83, h'⟩ := bind_some h
       clear h
       have h := h'; clear h'
       have hc84 := ih (ab_0 := a78) (anodes_1 := a54) (cnodes_1 := c55) hx83
       refine st_call (cx_call hc84 (ent_f hc84.fn rfl) hn0 (show Hp S0 σ0 _ ([Ch.pr 0 (.pointer a78) x73.2.2.2, Ch.own 0 0 (Sl a54 (o30.set (nodes_1.length : Int).toNat (x67.1, x67.2.1, x67.2.2.1, (o30.length : Int))) c55) (o30.set (nodes_1.length : Int).toNat (x67.1, x67.2.1, x67.2.2.1, (o30.length : Int)))] ++ [Ch.pr 0 (.pointer a78) x73.2.2.2, Ch.pr 0 (.pointer a61) x56.2.2.2, Ch.pr 0 (.pointer ab_0) b_0]) from (H.sel' [0, 1, 0, 2, 3] rfl rfl))) wn ?_
       rintro _ σ87 ⟨_, ⟨a85, c86, rfl, rfl⟩, H, -⟩
       replace H : Hp S0 σ0 σ87 [Ch.own 0 n0 (Sl a85 r82 c86) r82, Ch.pr 0 (.pointer a78) x73.2.2.2, Ch.pr 0 (.pointer a61) x56.2.2.2, Ch.pr 0 (.pointer ab_0) b_0] := H
       refine st (v := (Sl a85 r82 c86)) (rv_assign rfl) ?_
       refine w_end ?_
       replace H := H.ownSc 0 0 0 rfl (Nat.le_refl _)
       obtain rfl := Option.some.inj h
       exact ⟨rfl, _, σ87, a85, c86, fr_join ⟨rfl, trivial⟩, rfl, H.sel' [0] rfl rfl⟩
      ·replace h := bif_f hb66 h
       refine c_skip ?_
       obtain rfl := Option.some.inj h
       exact ⟨rfl, _, σ53, a54, c55, fr_join ⟨rfl, trivial⟩, rfl, H.sel' [2] rfl rfl⟩
     ·clear hj
      have h := h'
      clear h' H
      rintro e a w ⟨rfl, ρ, σ88, a89, c90, rfl, rfl, H⟩
      refine q_then ?_
      refine c_seq ?_
      refine rg ?_
      refine st (v := (Sl a89 o65 c90)) (rv_move rfl) ?_
      refine st (v := (Sl a89 o65 c90)) (rv_assign rfl) ?_
      refine w_end ?_
      refine q_then ?_
      refine c_ret ?_
      replace H := H.ownSc 0 0 n0 rfl (Nat.le_refl _)
      obtain rfl := Option.some.inj h
      exact fin_ret (v := (Sl a89 o65 c90)) (results_ok Try.results84 (res_tmp (v := (Sl a89 o65 c90)) rfl res_nil) rfl) ⟨a89, c90, rfl, rfl⟩ (H.sel' [0] rfl rfl)

theorem c_impl_BuildTree {list_0 : List (Int × (List Int) × Int)} {kind_1 : Int} {alist_0 : Option Addr} {clist_0 : Nat} {r : (List (Int × Int × Int × Int))} (h : M.impl_BuildTree list_0 kind_1 = some r) :
    Cal2 Try.prog 27 [(Sl alist_0 list_0 clist_0), (I kind_1)] [Ch.ro 0 (Sl alist_0 list_0 clist_0) list_0] (fun n0 v L => ∃ (az1 : Option Addr), ∃ (cz2 : Nat), v = (Sl az1 r cz2) ∧ L = [Ch.own 0 n0 (Sl az1 r cz2) r]) := by
 refine cal2 (n := 17) Try.func27 rfl rfl rfl rfl ?_
 intro S0 σ0 n0 hn0 H
 unfold M.impl_BuildTree at h
 refine c_seq ?_
 refine rg ?_
 refine st (v := (.slice none 0 0)) (rv_assign rfl) ?_
 refine w_end ?_
 refine q_then ?_
 refine c_seq ?_
 refine c_seq ?_
 obtain ⟨o1, hj, h'⟩ := bind_some h
 clear h
 refine c_cut (fun e a w => e = .normal ∧ ∃ (ρ : Nat → Value) (σ : St), a = fr 17 (updL ρ [(0, (Sl alist_0 list_0 clist_0)), (1, (I kind_1)), (12, (B o1))]) ∧ w = σ.w ∧ Hp S0 σ0 σ [Ch.ro 0 (Sl alist_0 list_0 clist_0) list_0]) ?_ ?_
 ·clear h'
  rename _ = some o1 => h
  refine rg ?_
  refine st (v := (Sl alist_0 list_0 clist_0)) (rv_move rfl) ?_
  obtain ⟨r2, hx3, h'⟩ := bind_some h
  clear h
  have h := h'; clear h'
  have hc4 := c_impl_ValidStore (alist_0 := alist_0) (clist_0 := clist_0) hx3
  refine st_call (cx_call hc4 (ent_f hc4.fn rfl) hn0 (show Hp S0 σ0 _ ([Ch.ro 0 (Sl alist_0 list_0 clist_0) list_0] ++ [Ch.ro 0 (Sl alist_0 list_0 clist_0) list_0]) from (H.sel' [0, 0] rfl rfl))) wn ?_
  rintro _ σ5 ⟨_, ⟨rfl, rfl⟩, H, -⟩
  replace H : Hp S0 σ0 σ5 [Ch.ro 0 (Sl alist_0 list_0 clist_0) list_0] := H
  refine st (v := (B (!r2))) (rv_not rfl) ?_
  refine st (v := (B (!r2))) (rv_move rfl) ?_
  rcases Bool.eq_false_or_eq_true (!r2) with hb6 | hb6
  ·replace h := bif_t hb6 h
   refine st_skip (congrArg some hb6) ?_
   refine st_skip (congrArg some hb6) ?_
   refine st_skip (congrArg some hb6) ?_
   refine st (v := (B true)) (rv_pick_t (congrArg B hb6) rfl) ?_
   refine w_end ?_
   obtain rfl := Option.some.inj h
   exact ⟨rfl, _, σ5, fr_join ⟨rfl, rfl, rfl, trivial⟩, rfl, H.sel' [0] rfl rfl⟩
  ·replace h := bif_f hb6 h
   refine st_g (v := (I kind_1)) (congrArg some hb6) (rv_move rfl) ?_
   obtain ⟨r7, hx8, h'⟩ := bind_some h
   clear h
   have h := h'; clear h'
   have hc9 := c_impl_validTreeKind hx8
   refine st_call (cx_call hc9 (ent_f hc9.fn rfl) hn0 (show Hp S0 σ0 _ ([] ++ [Ch.ro 0 (Sl alist_0 list_0 clist_0) list_0]) from (H.sel' [0] rfl rfl))) (wanted_yes rfl (by exact (congrArg some hb6))) ?_
   rintro _ σ10 ⟨_, ⟨rfl, rfl⟩, H, -⟩
   replace H : Hp S0 σ0 σ10 [Ch.ro 0 (Sl alist_0 list_0 clist_0) list_0] := H
   refine st_g (v := (B (!r7))) (congrArg some hb6) (rv_not rfl) ?_
   refine st (v := (B (!r7))) (rv_pick_f (congrArg B hb6) rfl) ?_
   refine w_end ?_
   obtain rfl := Option.some.inj h
   exact ⟨rfl, _, σ10, fr_join ⟨rfl, rfl, rfl, trivial⟩, rfl, H.sel' [0] rfl rfl⟩
 ·clear hj
  have h := h'
  clear h' H
  rintro e a w ⟨rfl, ρ, σ11, rfl, rfl, H⟩
  refine q_then ?_
  refine cd_cond o1 rfl (fun hb12 => ?_) (fun hb12 => ?_)
  ·replace h := bif_t hb12 h
   refine c_seq ?_
   refine rg ?_
   refine st (v := (.slice none 0 0)) (rv_assign rfl) ?_
   refine w_end ?_
   refine q_then ?_
   refine c_ret ?_
   refine q_then_r ?_
   replace H := H.nilOwn (Int × Int × Int × Int) 0 n0
   obtain rfl := Option.some.inj h
   exact fin_ret (v := (.slice none 0 0)) (results_ok Try.results27 (res_tmp (v := (.slice none 0 0)) rfl res_nil) rfl) ⟨none, 0, rfl, rfl⟩ (H.sel' [0] rfl rfl)
  ·replace h := bif_f hb12 h
   refine c_skip ?_
   refine q_then ?_
   refine c_seq ?_
   refine rg ?_
   refine st (v := (Sl alist_0 list_0 clist_0)) (rv_move rfl) ?_
   refine st (v := (I kind_1)) (rv_move rfl) ?_
   obtain ⟨r13, hx14, h'⟩ := bind_some h
   clear h
   have h := h'; clear h'
   have hc15 := c_impl_growTree 100 (alist_0 := alist_0) (clist_0 := clist_0) hx14
   refine st_call (cx_call hc15 (ent_f hc15.fn rfl) hn0 (show Hp S0 σ0 _ ([Ch.ro 0 (Sl alist_0 list_0 clist_0) list_0] ++ [Ch.ro 0 (Sl alist_0 list_0 clist_0) list_0]) from (H.sel' [0, 0] rfl rfl))) wn ?_
   rintro _ σ17 ⟨_, ⟨a16, rfl, rfl⟩, H, -⟩
   replace H : Hp S0 σ0 σ17 [Ch.pr 0 (.pointer a16) r13, Ch.ro 0 (Sl alist_0 list_0 clist_0) list_0] := H
   replace H := H.nilOwn (Int × Int × Int × Int) 0 0
   obtain ⟨r18, hx19, h'⟩ := bind_some h
   clear h
   have h := h'; clear h'
   have hc20 := c_impl_branch_appendTo 100 (ab_0 := a16) (anodes_1 := none) (cnodes_1 := 0) hx19
   refine st_call (cx_call hc20 (ent_f hc20.fn rfl) hn0 (show Hp S0 σ0 _ ([Ch.pr 0 (.pointer a16) r13, Ch.own 0 0 (Sl none ([] : List (Int × Int × Int × Int)) 0) ([] : List (Int × Int × Int × Int))] ++ [Ch.pr 0 (.pointer a16) r13, Ch.ro 0 (Sl alist_0 list_0 clist_0) list_0]) from (H.sel' [1, 0, 1, 2] rfl rfl))) wn ?_
   rintro _ σ23 ⟨_, ⟨a21, c22, rfl, rfl⟩, H, -⟩
   replace H : Hp S0 σ0 σ23 [Ch.own 0 n0 (Sl a21 r18 c22) r18, Ch.pr 0 (.pointer a16) r13, Ch.ro 0 (Sl alist_0 list_0 clist_0) list_0] := H
   refine st (v := (Sl a21 r18 c22)) (rv_assign rfl) ?_
   refine w_end ?_
   refine q_then ?_
   refine c_ret ?_
   obtain rfl := Option.some.inj h
   exact fin_ret (v := (Sl a21 r18 c22)) (results_ok Try.results27 (res_tmp (v := (Sl a21 r18 c22)) rfl res_nil) rfl) ⟨a21, c22, rfl, rfl⟩ (H.sel' [0] rfl rfl)

theorem c_laws_equalNodes {a_0 : List (Int × Int × Int × Int)} {b_1 : List (Int × Int × Int × Int)} {aa_0 : Option Addr} {ca_0 : Nat} {ab_1 : Option Addr} {cb_1 : Nat} {r : Bool} (h : M.laws_equalNodes a_0 b_1 = some r) :
    Cal2 Try.prog 28 [(Sl aa_0 a_0 ca_0), (Sl ab_1 b_1 cb_1)] [Ch.ro 0 (Sl aa_0 a_0 ca_0) a_0, Ch.ro 0 (Sl ab_1 b_1 cb_1) b_1] (fun n0 v L => v = (B r) ∧ L = []) := by
 refine cal2 (n := 26) Try.func28 rfl rfl rfl rfl ?_
 intro S0 σ0 n0 hn0 H
 unfold M.laws_equalNodes at h
 refine c_seq ?_
 refine rg ?_
 refine st (v := (B false)) (rv_assign rfl) ?_
 refine w_end ?_
 refine q_then ?_
 refine c_seq ?_
 refine c_seq ?_
 refine rg ?_
 refine st (v := (Sl aa_0 a_0 ca_0)) (rv_move rfl) ?_
 refine st (v := (I (a_0.length : Int))) (rv_len Try.underlying43 rfl) ?_
 refine st (v := (Sl ab_1 b_1 cb_1)) (rv_move rfl) ?_
 refine st (v := (I (b_1.length : Int))) (rv_len Try.underlying43 rfl) ?_
 refine st (v := (B ((a_0.length : Int) != (b_1.length : Int)))) (rv_neq (a := (a_0.length : Int)) (b := (b_1.length : Int)) rfl rfl) ?_
 refine w_end ?_
 refine q_then ?_
 refine cd_cond ((a_0.length : Int) != (b_1.length : Int)) rfl (fun hb1 => ?_) (fun hb1 => ?_)
 ·replace h := bif_t hb1 h
  refine c_seq ?_
  refine rg ?_
  refine st (v := (B false)) (rv_assign rfl) ?_
  refine w_end ?_
  refine q_then ?_
  refine c_ret ?_
  refine q_then_r ?_
  obtain rfl := Option.some.inj h
  exact fin_ret (v := (B false)) (results_ok Try.results28 (res_tmp (v := (B false)) rfl res_nil) rfl) ⟨rfl, rfl⟩ (H.sel' [] rfl rfl)
 ·replace h := bif_f hb1 h
  refine c_skip ?_
  refine q_then ?_
  refine c_seq ?_
  refine c_seq ?_
  refine rg ?_
  refine st (v := (I 0)) (rv_assign rfl) ?_
  refine w_end ?_
  refine q_then ?_
  obtain ⟨o2, hj, h'⟩ := bind_some h
  clear h
  refine c_cut (fun e a w => (∃ t, o2 = (.inl t) ∧ e = .normal ∧ ∃ (ρ : Nat → Value) (σ : St), a = fr 26 (updL ρ []) ∧ w = σ.w ∧ Hp S0 σ0 σ []) ∨ (∃ t, o2 = (.inr t) ∧ e = .ret ∧ ∃ (ρ : Nat → Value) (σ : St), a = fr 26 (updL ρ [(4, (B t))]) ∧ w = σ.w ∧ Hp S0 σ0 σ [])) ?_ ?_
  ·clear h'
   rename _ = some o2 => h
   refine c_blk ?_
   refine wp_loopM _ h (fun s3 a w => ∃ (ρ : Nat → Value) (σ : St), a = fr 26 (updL ρ [(0, (Sl aa_0 a_0 ca_0)), (1, (Sl ab_1 b_1 cb_1)), (5, (I s3))]) ∧ w = σ.w ∧ Hp S0 σ0 σ [Ch.ro 0 (Sl aa_0 a_0 ca_0) a_0, Ch.ro 0 (Sl ab_1 b_1 cb_1) b_1]) ⟨_, σ0, fr_join ⟨rfl, rfl, rfl, trivial⟩, rfl, H.sel' [0, 1] rfl rfl⟩ ?_
   clear h H
   rintro s3 a w o ⟨ρ, σ4, rfl, rfl, H⟩ h hres
   refine c_seq ?_
   refine c_seq ?_
   refine rg ?_
   refine st (v := (I s3)) (rv_move rfl) ?_
   refine st (v := (Sl aa_0 a_0 ca_0)) (rv_move rfl) ?_
   refine st (v := (I (a_0.length : Int))) (rv_len Try.underlying43 rfl) ?_
   refine st (v := (B (decide (s3 < (a_0.length : Int))))) (rv_lss (a := s3) (b := (a_0.length : Int)) rfl rfl) ?_
   refine w_end ?_
   refine q_then ?_
   refine cd_cond (decide (s3 < (a_0.length : Int))) rfl (fun hb5 => ?_) (fun hb5 => ?_)
   ·replace h := bif_t hb5 h
    refine c_skip ?_
    refine q_then ?_
    refine c_seq ?_
    refine c_blk ?_
    refine c_seq ?_
    refine rgP (σ := σ4) 8 (by kernel_rfl) (by kernel_rfl) (by kernel_rfl) ?_
    refine sq (v := (Sl aa_0 a_0 ca_0)) (rv_move rfl) ?_
    refine sq (v := (I s3)) (rv_move rfl) ?_
    obtain ⟨x6, hx7, h'⟩ := bind_some h
    clear h
    have h := h'; clear h'
    obtain ⟨b9, o10, hi8, -⟩ := (H.ro 0 rfl).ix hx7
    refine sq (v := (pt b9 o10)) (rv_ix Try.underlying43 ti47 rfl rfl hi8) ?_
    obtain ⟨_, ⟨_, _, rfl, rfl, ⟨_, _, rfl, rfl, ⟨_, _, rfl, rfl, rfl⟩⟩⟩, hl11, hc12⟩ := ((H.ro 0 rfl).at hx7 hi8).cells
    refine sq (v := (.agg #[(I x6.1), (I x6.2.1), (I x6.2.2.1), (I x6.2.2.2)])) (rv_load Try.underlying47 rfl ti47 rfl hl11 hc12) ?_
    refine sq (v := (Sl ab_1 b_1 cb_1)) (rv_move rfl) ?_
    refine sq (v := (I s3)) (rv_move rfl) ?_
    obtain ⟨x13, hx14, h'⟩ := bind_some h
    clear h
    have h := h'; clear h'
    obtain ⟨b16, o17, hi15, -⟩ := (H.ro 1 rfl).ix hx14
    refine sq (v := (pt b16 o17)) (rv_ix Try.underlying43 ti47 rfl rfl hi15) ?_
    obtain ⟨_, ⟨_, _, rfl, rfl, ⟨_, _, rfl, rfl, ⟨_, _, rfl, rfl, rfl⟩⟩⟩, hl18, hc19⟩ := ((H.ro 1 rfl).at hx14 hi15).cells
    refine sq (v := (.agg #[(I x13.1), (I x13.2.1), (I x13.2.2.1), (I x13.2.2.2)])) (rv_load Try.underlying47 rfl ti47 rfl hl18 hc19) ?_
    refine sq_end ?_
    intro σ20 hm21
    replace H := H.grow (hm21.mono fun _ h => h); clear hm21
    refine st (v := (B (!(([x6.1, x6.2.1, x6.2.2.1, x6.2.2.2] : List Int) == ([x13.1, x13.2.1, x13.2.2.1, x13.2.2.2] : List Int))))) (rv_neqI (xs := ([x6.1, x6.2.1, x6.2.2.1, x6.2.2.2] : List Int)) (ys := ([x13.1, x13.2.1, x13.2.2.1, x13.2.2.2] : List Int)) (by kernel_rfl) (by kernel_rfl) (by kernel_rfl) rfl (by kernel_rfl) (by exact intfs47) rfl rfl) ?_
    refine w_end ?_
    refine q_then ?_
    refine cd_cond (!(([x6.1, x6.2.1, x6.2.2.1, x6.2.2.2] : List Int) == ([x13.1, x13.2.1, x13.2.2.1, x13.2.2.2] : List Int))) rfl (fun hb22 => ?_) (fun hb22 => ?_)
    ·replace h := bif_t hb22 h
     refine c_seq ?_
     refine rg ?_
     refine st (v := (B false)) (rv_assign rfl) ?_
     refine w_end ?_
     refine q_then ?_
     refine c_ret ?_
     refine q_blk_r ?_
     refine q_then_r ?_
     refine q_then_r ?_
     refine q_blk_r ?_
     obtain rfl := Option.some.inj h
     obtain rfl := hres _ rfl
     exact .inr (⟨_, rfl, rfl, _, σ20, fr_join ⟨rfl, trivial⟩, rfl, H.sel' [] rfl rfl⟩)
    ·replace h := bif_f hb22 h
     refine c_skip ?_
     refine q_blk ?_
     refine q_then ?_
     refine rg ?_
     refine st (v := (I s3)) (rv_move rfl) ?_
     refine st (v := (I (w64 (s3 + 1)))) (rv_add (a := s3) (b := 1) rfl rfl) ?_
     refine st (v := (I (w64 (s3 + 1)))) (rv_assign rfl) ?_
     refine w_end ?_
     refine q_then ?_
     obtain rfl := Option.some.inj h
     exact ⟨_, rfl, _, σ20, fr_join ⟨rfl, rfl, rfl, trivial⟩, rfl, H.sel' [0, 1] rfl rfl⟩
   ·replace h := bif_f hb5 h
    refine c_exit ?_
    refine q_then_x ?_
    refine q_then_x ?_
    refine q_blk_hit ?_
    obtain rfl := Option.some.inj h
    obtain rfl := hres _ rfl
    exact .inl ⟨_, rfl, rfl, _, σ4, fr_join trivial, rfl, H.sel' [] rfl rfl⟩
  ·clear hj
   have h := h'
   clear h' H
   rintro e a w (⟨t23, rfl, rfl, ρ, σ24, rfl, rfl, H⟩ | ⟨t25, rfl, rfl, ρ, σ26, rfl, rfl, H⟩)
   ·replace h := selim_l h
    refine q_then ?_
    refine c_seq ?_
    refine rg ?_
    refine st (v := (B true)) (rv_assign rfl) ?_
    refine w_end ?_
    refine q_then ?_
    refine c_ret ?_
    obtain rfl := Option.some.inj h
    exact fin_ret (v := (B true)) (results_ok Try.results28 (res_tmp (v := (B true)) rfl res_nil) rfl) ⟨rfl, rfl⟩ (H.sel' [] rfl rfl)
   ·replace h := selim_r h
    refine q_then_r ?_
    obtain rfl := Option.some.inj h
    exact fin_ret (v := (B t25)) (results_ok Try.results28 (res_tmp (v := (B t25)) rfl res_nil) rfl) ⟨rfl, rfl⟩ (H.sel' [] rfl rfl)

theorem c_spec_validKind {kind_0 : Int}  {r : Bool} (h : M.spec_validKind kind_0 = some r) :
    Cal2 Try.prog 77 [(I kind_0)] [] (fun n0 v L => v = (B r) ∧ L = []) := by
 refine cal2 (n := 5) Try.func77 rfl rfl rfl rfl ?_
 intro S0 σ0 n0 hn0 H
 unfold M.spec_validKind at h
 refine c_seq ?_
 refine rg ?_
 refine st (v := (B false)) (rv_assign rfl) ?_
 refine w_end ?_
 refine q_then ?_
 refine c_seq ?_
 refine rg ?_
 refine st (v := (I kind_0)) (rv_move rfl) ?_
 obtain ⟨r1, hx2, h'⟩ := bind_some h
 clear h
 have h := h'; clear h'
 have hc3 := c_spec_inRange hx2
 refine st_call (cx_call hc3 (ent_f hc3.fn rfl) hn0 (show Hp S0 σ0 _ ([] ++ []) from (H.sel' [] rfl rfl))) wn ?_
 rintro _ σ4 ⟨_, ⟨rfl, rfl⟩, H, -⟩
 replace H : Hp S0 σ0 σ4 [] := H
 refine st (v := (B r1)) (rv_assign rfl) ?_
 refine w_end ?_
 refine q_then ?_
 refine c_ret ?_
 obtain rfl := Option.some.inj h
 exact fin_ret (v := (B r1)) (results_ok Try.results77 (res_tmp (v := (B r1)) rfl res_nil) rfl) ⟨rfl, rfl⟩ (H.sel' [] rfl rfl)

theorem c_spec_isMetric {kind_0 : Int}  {r : Bool} (h : M.spec_isMetric kind_0 = some r) :
    Cal2 Try.prog 85 [(I kind_0)] [] (fun n0 v L => v = (B r) ∧ L = []) := by
 refine cal2 (n := 9) Try.func85 rfl rfl rfl rfl ?_
 intro S0 σ0 n0 hn0 H
 unfold M.spec_isMetric at h
 refine c_seq ?_
 refine rg ?_
 refine st (v := (B false)) (rv_assign rfl) ?_
 refine w_end ?_
 refine q_then ?_
 refine c_seq ?_
 refine rg ?_
 refine st (v := (I kind_0)) (rv_move rfl) ?_
 obtain ⟨r1, hx2, h'⟩ := bind_some h
 clear h
 have h := h'; clear h'
 have hc3 := c_spec_validKind hx2
 refine st_call (cx_call hc3 (ent_f hc3.fn rfl) hn0 (show Hp S0 σ0 _ ([] ++ []) from (H.sel' [] rfl rfl))) wn ?_
 rintro _ σ4 ⟨_, ⟨rfl, rfl⟩, H, -⟩
 replace H : Hp S0 σ0 σ4 [] := H
 refine st (v := (B r1)) (rv_move rfl) ?_
 rcases Bool.eq_false_or_eq_true r1 with hb5 | hb5
 ·replace h := bif_t hb5 h
  refine st_g (v := (I kind_0)) (congrArg some hb5) (rv_move rfl) ?_
  refine st_g (v := (B (kind_0 != 3))) (congrArg some hb5) (rv_neq (a := kind_0) (b := 3) rfl rfl) ?_
  refine st (v := (B (kind_0 != 3))) (rv_pick_t (congrArg B hb5) rfl) ?_
  refine st (v := (B (kind_0 != 3))) (rv_assign rfl) ?_
  refine w_end ?_
  refine q_then ?_
  refine c_ret ?_
  obtain rfl := Option.some.inj h
  exact fin_ret (v := (B (kind_0 != 3))) (results_ok Try.results85 (res_tmp (v := (B (kind_0 != 3))) rfl res_nil) rfl) ⟨rfl, rfl⟩ (H.sel' [] rfl rfl)
 ·replace h := bif_f hb5 h
  refine st_skip (congrArg some hb5) ?_
  refine st_skip (congrArg some hb5) ?_
  refine st (v := (B false)) (rv_pick_f (congrArg B hb5) rfl) ?_
  refine st (v := (B false)) (rv_assign rfl) ?_
  refine w_end ?_
  refine q_then ?_
  refine c_ret ?_
  obtain rfl := Option.some.inj h
  exact fin_ret (v := (B false)) (results_ok Try.results85 (res_tmp (v := (B false)) rfl res_nil) rfl) ⟨rfl, rfl⟩ (H.sel' [] rfl rfl)

theorem c_spec_toInt {b_0 : Bool}  {r : Int} (h : M.spec_toInt b_0 = some r) :
    Cal2 Try.prog 106 [(B b_0)] [] (fun n0 v L => v = (I r) ∧ L = []) := by
 refine cal2 (n := 4) Try.func106 rfl rfl rfl rfl ?_
 intro S0 σ0 n0 hn0 H
 unfold M.spec_toInt at h
 refine c_seq ?_
 refine rg ?_
 refine st (v := (I 0)) (rv_assign rfl) ?_
 refine w_end ?_
 refine q_then ?_
 refine c_seq ?_
 refine c_seq ?_
 refine rg ?_
 refine st (v := (B b_0)) (rv_move rfl) ?_
 refine w_end ?_
 refine q_then ?_
 refine cd_cond b_0 rfl (fun hb1 => ?_) (fun hb1 => ?_)
 ·replace h := bif_t hb1 h
  refine c_seq ?_
  refine rg ?_
  refine st (v := (I 1)) (rv_assign rfl) ?_
  refine w_end ?_
  refine q_then ?_
  refine c_ret ?_
  refine q_then_r ?_
  obtain rfl := Option.some.inj h
  exact fin_ret (v := (I 1)) (results_ok Try.results106 (res_tmp (v := (I 1)) rfl res_nil) rfl) ⟨rfl, rfl⟩ (H.sel' [] rfl rfl)
 ·replace h := bif_f hb1 h
  refine c_skip ?_
  refine q_then ?_
  refine c_seq ?_
  refine rg ?_
  refine st (v := (I 0)) (rv_assign rfl) ?_
  refine w_end ?_
  refine q_then ?_
  refine c_ret ?_
  obtain rfl := Option.some.inj h
  exact fin_ret (v := (I 0)) (results_ok Try.results106 (res_tmp (v := (I 0)) rfl res_nil) rfl) ⟨rfl, rfl⟩ (H.sel' [] rfl rfl)

theorem c_spec_size {n_0 : Int}  {r : Int} (h : M.spec_size n_0 = some r) :
    Cal2 Try.prog 124 [(I n_0)] [] (fun n0 v L => v = (I r) ∧ L = []) := by
 refine cal2 (n := 7) Try.func124 rfl rfl rfl rfl ?_
 intro S0 σ0 n0 hn0 H
 unfold M.spec_size at h
 refine c_seq ?_
 refine rg ?_
 refine st (v := (I 0)) (rv_assign rfl) ?_
 refine w_end ?_
 refine q_then ?_
 refine c_seq ?_
 refine rg ?_
 refine st (v := (I n_0)) (rv_move rfl) ?_
 refine st (v := (I n_0)) (rv_move rfl) ?_
 refine st (v := (I (w64 (0 - n_0)))) (rv_neg (a := n_0) rfl) ?_
 refine st (v := (I (max n_0 (w64 (0 - n_0))))) (rv_max rfl rfl) ?_
 refine st (v := (I (max n_0 (w64 (0 - n_0))))) (rv_assign rfl) ?_
 refine w_end ?_
 refine q_then ?_
 refine c_ret ?_
 obtain rfl := Option.some.inj h
 exact fin_ret (v := (I (max n_0 (w64 (0 - n_0))))) (results_ok Try.results124 (res_tmp (v := (I (max n_0 (w64 (0 - n_0))))) rfl res_nil) rfl) ⟨rfl, rfl⟩ (H.sel' [] rfl rfl)

theorem c_spec_dist {kind_0 : Int} {a_1 : List Int} {b_2 : List Int} {aa_1 : Option Addr} {ca_1 : Nat} {ab_2 : Option Addr} {cb_2 : Nat} {r : Int} (h : M.spec_dist kind_0 a_1 b_2 = some r) :
    Cal2 Try.prog 78 [(I kind_0), (Sl aa_1 a_1 ca_1), (Sl ab_2 b_2 cb_2)] [Ch.ro 0 (Sl aa_1 a_1 ca_1) a_1, Ch.ro 0 (Sl ab_2 b_2 cb_2) b_2] (fun n0 v L => v = (I r) ∧ L = []) := by
 refine cal2 (n := 50) Try.func78 rfl rfl rfl rfl ?_
 intro S0 σ0 n0 hn0 H
 unfold M.spec_dist at h
 refine c_seq ?_
 refine rg ?_
 refine st (v := (I 0)) (rv_assign rfl) ?_
 refine w_end ?_
 refine q_then ?_
 refine c_seq ?_
 refine rg ?_
 refine st (v := (I 0)) (rv_assign rfl) ?_
 refine w_end ?_
 refine q_then ?_
 refine c_seq ?_
 refine c_seq ?_
 refine rg ?_
 refine st (v := (I 0)) (rv_assign rfl) ?_
 refine w_end ?_
 refine q_then ?_
 obtain ⟨o1, hj, h'⟩ := bind_some h
 clear h
 refine c_cut (fun e a w => e = .normal ∧ ∃ (ρ : Nat → Value) (σ : St), a = fr 50 (updL ρ [(7, (I o1))]) ∧ w = σ.w ∧ Hp S0 σ0 σ []) ?_ ?_
 ·clear h'
  rename _ = some o1 => h
  refine c_blk ?_
  refine wp_loopM _ h (fun s2 a w => ∃ (ρ : Nat → Value) (σ : St), a = fr 50 (updL ρ [(0, (I kind_0)), (1, (Sl aa_1 a_1 ca_1)), (2, (Sl ab_2 b_2 cb_2)), (7, (I s2.1)), (8, (I s2.2))]) ∧ w = σ.w ∧ Hp S0 σ0 σ [Ch.ro 0 (Sl aa_1 a_1 ca_1) a_1, Ch.ro 0 (Sl ab_2 b_2 cb_2) b_2]) ⟨_, σ0, fr_join ⟨rfl, rfl, rfl, rfl, rfl, trivial⟩, rfl, H.sel' [0, 1] rfl rfl⟩ ?_
  clear h H
  rintro s2 a w o ⟨ρ, σ3, rfl, rfl, H⟩ h hres
  refine c_seq ?_
  refine c_seq ?_
  refine rg ?_
  refine st (v := (I s2.2)) (rv_move rfl) ?_
  refine st (v := (Sl aa_1 a_1 ca_1)) (rv_move rfl) ?_
  refine st (v := (I (a_1.length : Int))) (rv_len Try.underlying24 rfl) ?_
  refine st (v := (B (decide (s2.2 < (a_1.length : Int))))) (rv_lss (a := s2.2) (b := (a_1.length : Int)) rfl rfl) ?_
  refine w_end ?_
  refine q_then ?_
  refine cd_cond (decide (s2.2 < (a_1.length : Int))) rfl (fun hb4 => ?_) (fun hb4 => ?_)
  ·replace h := bif_t hb4 h
   refine c_skip ?_
   refine q_then ?_
   refine c_seq ?_
   obtain ⟨o5, hj, h'⟩ := bind_some h
   clear h
   refine c_cut (fun e a w => e = .normal ∧ ∃ (ρ : Nat → Value) (σ : St), a = fr 50 (updL ρ [(0, (I kind_0)), (1, (Sl aa_1 a_1 ca_1)), (2, (Sl ab_2 b_2 cb_2)), (7, (I o5)), (8, (I s2.2))]) ∧ w = σ.w ∧ Hp S0 σ0 σ [Ch.ro 0 (Sl aa_1 a_1 ca_1) a_1, Ch.ro 0 (Sl ab_2 b_2 cb_2) b_2]) ?_ ?_
   ·clear h'
    rename _ = some o5 => h
    refine c_blk ?_
    refine c_seq ?_
    refine rgP (σ := σ3) 8 (by kernel_rfl) (by kernel_rfl) (by kernel_rfl) ?_
    refine sq (v := (Sl aa_1 a_1 ca_1)) (rv_move rfl) ?_
    refine sq (v := (I s2.2)) (rv_move rfl) ?_
    obtain ⟨x6, hx7, h'⟩ := bind_some h
    clear h
    have h := h'; clear h'
    obtain ⟨b9, o10, hi8, -⟩ := (H.ro 0 rfl).ix hx7
    refine sq (v := (pt b9 o10)) (rv_ix Try.underlying24 ti3 rfl rfl hi8) ?_
    have hc11 := ((H.ro 0 rfl).at hx7 hi8).int
    refine sq (v := (I x6)) (rv_load1 Try.underlying3 rfl rfl hc11) ?_
    refine sq (v := (Sl ab_2 b_2 cb_2)) (rv_move rfl) ?_
    refine sq (v := (I s2.2)) (rv_move rfl) ?_
    obtain ⟨x12, hx13, h'⟩ := bind_some h
    clear h
    have h := h'; clear h'
    obtain ⟨b15, o16, hi14, -⟩ := (H.ro 1 rfl).ix hx13
    refine sq (v := (pt b15 o16)) (rv_ix Try.underlying24 ti3 rfl rfl hi14) ?_
    have hc17 := ((H.ro 1 rfl).at hx13 hi14).int
    refine sq (v := (I x12)) (rv_load1 Try.underlying3 rfl rfl hc17) ?_
    refine sq_end ?_
    intro σ18 hm19
    replace H := H.grow (hm19.mono fun _ h => h); clear hm19
    refine st (v := (I (w64 (x6 - x12)))) (rv_sub (a := x6) (b := x12) rfl rfl) ?_
    obtain ⟨r20, hx21, h'⟩ := bind_some h
    clear h
    have h := h'; clear h'
    have hc22 := c_spec_size hx21
    refine st_call (cx_call hc22 (ent_f hc22.fn rfl) hn0 (show Hp S0 σ0 _ ([] ++ [Ch.ro 0 (Sl aa_1 a_1 ca_1) a_1, Ch.ro 0 (Sl ab_2 b_2 cb_2) b_2]) from (H.sel' [0, 1] rfl rfl))) wn ?_
    rintro _ σ23 ⟨_, ⟨rfl, rfl⟩, H, -⟩
    replace H : Hp S0 σ0 σ23 [Ch.ro 0 (Sl aa_1 a_1 ca_1) a_1, Ch.ro 0 (Sl ab_2 b_2 cb_2) b_2] := H
    refine st (v := (I r20)) (rv_assign rfl) ?_
    refine w_end ?_
    refine q_then ?_
    refine c_seq ?_
    refine rg ?_
    refine st (v := (I kind_0)) (rv_move rfl) ?_
    refine w_end ?_
    refine q_then ?_
    refine c_blk ?_
    refine c_seq ?_
    refine rg ?_
    refine st (v := (B (kind_0 == 1))) (rv_eql (a := kind_0) (b := 1) rfl rfl) ?_
    refine st (v := (B (kind_0 == 1))) (rv_assign rfl) ?_
    refine w_end ?_
    refine q_then ?_
    refine cd_cond (kind_0 == 1) rfl (fun hb24 => ?_) (fun hb24 => ?_)
    ·replace h := bif_t hb24 h
     refine rg ?_
     refine st (v := (I s2.1)) (rv_move rfl) ?_
     refine st (v := (I r20)) (rv_move rfl) ?_
     refine st (v := (I (w64 (s2.1 + r20)))) (rv_add (a := s2.1) (b := r20) rfl rfl) ?_
     refine st (v := (I (w64 (s2.1 + r20)))) (rv_assign rfl) ?_
     refine w_end ?_
     refine q_blk ?_
     refine q_blk ?_
     obtain rfl := Option.some.inj h
     exact ⟨rfl, _, σ23, fr_join ⟨rfl, rfl, rfl, rfl, rfl, trivial⟩, rfl, H.sel' [0, 1] rfl rfl⟩
    ·replace h := bif_f hb24 h
     refine c_seq ?_
     refine rg ?_
     refine st (v := (B (kind_0 == 2))) (rv_eql (a := kind_0) (b := 2) rfl rfl) ?_
     refine st (v := (B (kind_0 == 2))) (rv_assign rfl) ?_
     refine w_end ?_
     refine q_then ?_
     refine cd_cond (kind_0 == 2) rfl (fun hb25 => ?_) (fun hb25 => ?_)
     ·replace h := bif_t hb25 h
      refine rg ?_
      refine st (v := (I s2.1)) (rv_move rfl) ?_
      refine st (v := (I r20)) (rv_move rfl) ?_
      refine st (v := (I (max s2.1 r20))) (rv_max rfl rfl) ?_
      refine st (v := (I (max s2.1 r20))) (rv_assign rfl) ?_
      refine w_end ?_
      refine q_blk ?_
      refine q_blk ?_
      obtain rfl := Option.some.inj h
      exact ⟨rfl, _, σ23, fr_join ⟨rfl, rfl, rfl, rfl, rfl, trivial⟩, rfl, H.sel' [0, 1] rfl rfl⟩
     ·replace h := bif_f hb25 h
      refine c_seq ?_
      refine rg ?_
      refine st (v := (B (kind_0 == 3))) (rv_eql (a := kind_0) (b := 3) rfl rfl) ?_
      refine st (v := (B (kind_0 == 3))) (rv_assign rfl) ?_
      refine w_end ?_
      refine q_then ?_
      refine cd_cond (kind_0 == 3) rfl (fun hb26 => ?_) (fun hb26 => ?_)
      ·replace h := bif_t hb26 h
       refine rg ?_
       refine st (v := (I s2.1)) (rv_move rfl) ?_
       refine st (v := (I r20)) (rv_move rfl) ?_
       refine st (v := (I r20)) (rv_move rfl) ?_
       refine st (v := (I (w64 (r20 * r20)))) (rv_mul (a := r20) (b := r20) rfl rfl) ?_
       refine st (v := (I (w64 (s2.1 + (w64 (r20 * r20)))))) (rv_add (a := s2.1) (b := (w64 (r20 * r20))) rfl rfl) ?_
       refine st (v := (I (w64 (s2.1 + (w64 (r20 * r20)))))) (rv_assign rfl) ?_
       refine w_end ?_
       refine q_blk ?_
       refine q_blk ?_
       obtain rfl := Option.some.inj h
       exact ⟨rfl, _, σ23, fr_join ⟨rfl, rfl, rfl, rfl, rfl, trivial⟩, rfl, H.sel' [0, 1] rfl rfl⟩
      ·replace h := bif_f hb26 h
       refine rg ?_
       refine st (v := (I s2.1)) (rv_move rfl) ?_
       refine st (v := (I r20)) (rv_move rfl) ?_
       refine st (v := (B (decide (0 < r20)))) (rv_gtr (a := r20) (b := 0) rfl rfl) ?_
       obtain ⟨r27, hx28, h'⟩ := bind_some h
       clear h
       have h := h'; clear h'
       have hc29 := c_spec_toInt hx28
       refine st_call (cx_call hc29 (ent_f hc29.fn rfl) hn0 (show Hp S0 σ0 _ ([] ++ [Ch.ro 0 (Sl aa_1 a_1 ca_1) a_1, Ch.ro 0 (Sl ab_2 b_2 cb_2) b_2]) from (H.sel' [0, 1] rfl rfl))) wn ?_
       rintro _ σ30 ⟨_, ⟨rfl, rfl⟩, H, -⟩
       replace H : Hp S0 σ0 σ30 [Ch.ro 0 (Sl aa_1 a_1 ca_1) a_1, Ch.ro 0 (Sl ab_2 b_2 cb_2) b_2] := H
       refine st (v := (I (w64 (s2.1 + r27)))) (rv_add (a := s2.1) (b := r27) rfl rfl) ?_
       refine st (v := (I (w64 (s2.1 + r27)))) (rv_assign rfl) ?_
       refine w_end ?_
       refine q_blk ?_
       refine q_blk ?_
       obtain rfl := Option.some.inj h
       exact ⟨rfl, _, σ30, fr_join ⟨rfl, rfl, rfl, rfl, rfl, trivial⟩, rfl, H.sel' [0, 1] rfl rfl⟩
   ·clear hj
    have h := h'
    clear h' H
    rintro e a w ⟨rfl, ρ, σ31, rfl, rfl, H⟩
    refine q_then ?_
    refine rg ?_
    refine st (v := (I s2.2)) (rv_move rfl) ?_
    refine st (v := (I (w64 (s2.2 + 1)))) (rv_add (a := s2.2) (b := 1) rfl rfl) ?_
    refine st (v := (I (w64 (s2.2 + 1)))) (rv_assign rfl) ?_
    refine w_end ?_
    refine q_then ?_
    obtain rfl := Option.some.inj h
    exact ⟨_, rfl, _, σ31, fr_join ⟨rfl, rfl, rfl, rfl, rfl, trivial⟩, rfl, H.sel' [0, 1] rfl rfl⟩
  ·replace h := bif_f hb4 h
   refine c_exit ?_
   refine q_then_x ?_
   refine q_then_x ?_
   refine q_blk_hit ?_
   obtain rfl := Option.some.inj h
   obtain rfl := hres _ rfl
   exact ⟨rfl, _, σ3, fr_join ⟨rfl, trivial⟩, rfl, H.sel' [] rfl rfl⟩
 ·clear hj
  have h := h'
  clear h' H
  rintro e a w ⟨rfl, ρ, σ32, rfl, rfl, H⟩
  refine q_then ?_
  refine c_seq ?_
  refine rg ?_
  refine st (v := (I o1)) (rv_move rfl) ?_
  refine st (v := (I o1)) (rv_assign rfl) ?_
  refine w_end ?_
  refine q_then ?_
  refine c_ret ?_
  obtain rfl := Option.some.inj h
  exact fin_ret (v := (I o1)) (results_ok Try.results78 (res_tmp (v := (I o1)) rfl res_nil) rfl) ⟨rfl, rfl⟩ (H.sel' [] rfl rfl)

theorem c_spec_nearer {a_0 : Int × Int} {b_1 : Int × Int}  {r : Bool} (h : M.spec_nearer a_0 b_1 = some r) :
    Cal2 Try.prog 155 [(.agg #[(I a_0.1), (I a_0.2)]), (.agg #[(I b_1.1), (I b_1.2)])] [] (fun n0 v L => v = (B r) ∧ L = []) := by
 refine cal2 (n := 24) Try.func155 rfl rfl rfl rfl ?_
 intro S0 σ0 n0 hn0 H
 unfold M.spec_nearer at h
 refine c_seq ?_
 refine rg ?_
 refine st_ex (ex_box (cs := [(I a_0.1), (I a_0.2)]) H hn0 rfl rfl) wn ?_
 rintro _ σ2 ⟨b1, rfl, H, -⟩
 refine st_ex (ex_box (cs := [(I b_1.1), (I b_1.2)]) H hn0 rfl rfl) wn ?_
 rintro _ σ4 ⟨b3, rfl, H, -⟩
 refine st (v := (B false)) (rv_assign rfl) ?_
 refine w_end ?_
 refine q_then ?_
 refine c_seq ?_
 refine rg ?_
 refine st (v := (pt b1 1)) (rv_fieldAddr (off := 1) (ft := 3) Try.underlying86 rfl ti3 rfl rfl) ?_
 have hc5 := H.cell (u := (I a_0.2)) (o' := 1) 1 1 rfl rfl rfl
 refine st (v := (I a_0.2)) (rv_load1 Try.underlying3 rfl rfl hc5) ?_
 refine st (v := (pt b3 1)) (rv_fieldAddr (off := 1) (ft := 3) Try.underlying86 rfl ti3 rfl rfl) ?_
 have hc6 := H.cell (u := (I b_1.2)) (o' := 1) 0 1 rfl rfl rfl
 refine st (v := (I b_1.2)) (rv_load1 Try.underlying3 rfl rfl hc6) ?_
 refine st (v := (B (decide (a_0.2 < b_1.2)))) (rv_lss (a := a_0.2) (b := b_1.2) rfl rfl) ?_
 refine st (v := (B (decide (a_0.2 < b_1.2)))) (rv_move rfl) ?_
 rcases Bool.eq_false_or_eq_true (decide (a_0.2 < b_1.2)) with hb7 | hb7
 ·replace h := bif_t hb7 h
  refine st_skip (congrArg some hb7) ?_
  refine st_skip (congrArg some hb7) ?_
  refine st_skip (congrArg some hb7) ?_
  refine st_skip (congrArg some hb7) ?_
  refine st_skip (congrArg some hb7) ?_
  refine st_skip (congrArg some hb7) ?_
  refine st_skip_u rfl ?_
  refine st_skip_u rfl ?_
  refine st_skip_u rfl ?_
  refine st_skip_u rfl ?_
  refine st_skip_u rfl ?_
  refine st_skip (congrArg some hb7) ?_
  refine st (v := (B true)) (rv_pick_t (congrArg B hb7) rfl) ?_
  refine st (v := (B true)) (rv_assign rfl) ?_
  refine w_end ?_
  refine q_then ?_
  refine c_ret ?_
  obtain rfl := Option.some.inj h
  exact fin_ret (v := (B true)) (results_ok Try.results155 (res_tmp (v := (B true)) rfl res_nil) rfl) ⟨rfl, rfl⟩ (H.sel' [] rfl rfl)
 ·replace h := bif_f hb7 h
  refine st_g (v := (pt b1 1)) (congrArg some hb7) (rv_fieldAddr (off := 1) (ft := 3) Try.underlying86 rfl ti3 rfl rfl) ?_
  have hc8 := H.cell (u := (I a_0.2)) (o' := 1) 1 1 rfl rfl rfl
  refine st_g (v := (I a_0.2)) (congrArg some hb7) (rv_load1 Try.underlying3 rfl rfl hc8) ?_
  refine st_g (v := (pt b3 1)) (congrArg some hb7) (rv_fieldAddr (off := 1) (ft := 3) Try.underlying86 rfl ti3 rfl rfl) ?_
  have hc9 := H.cell (u := (I b_1.2)) (o' := 1) 0 1 rfl rfl rfl
  refine st_g (v := (I b_1.2)) (congrArg some hb7) (rv_load1 Try.underlying3 rfl rfl hc9) ?_
  refine st_g (v := (B (a_0.2 == b_1.2))) (congrArg some hb7) (rv_eql (a := a_0.2) (b := b_1.2) rfl rfl) ?_
  refine st_g (v := (B (a_0.2 == b_1.2))) (congrArg some hb7) (rv_move rfl) ?_
  rcases Bool.eq_false_or_eq_true (a_0.2 == b_1.2) with hb10 | hb10
  ·replace h := bif_t hb10 h
   refine st_g (v := (pt b1 0)) (congrArg some hb10) (rv_fieldAddr (off := 0) (ft := 3) Try.underlying86 rfl ti3 rfl rfl) ?_
   have hc11 := H.cell (u := (I a_0.1)) (o' := 0) 1 0 rfl rfl rfl
   refine st_g (v := (I a_0.1)) (congrArg some hb10) (rv_load1 Try.underlying3 rfl rfl hc11) ?_
   refine st_g (v := (pt b3 0)) (congrArg some hb10) (rv_fieldAddr (off := 0) (ft := 3) Try.underlying86 rfl ti3 rfl rfl) ?_
   have hc12 := H.cell (u := (I b_1.1)) (o' := 0) 0 0 rfl rfl rfl
   refine st_g (v := (I b_1.1)) (congrArg some hb10) (rv_load1 Try.underlying3 rfl rfl hc12) ?_
   refine st_g (v := (B (decide (a_0.1 < b_1.1)))) (congrArg some hb10) (rv_lss (a := a_0.1) (b := b_1.1) rfl rfl) ?_
   refine st_g (v := (B (decide (a_0.1 < b_1.1)))) (congrArg some hb7) (rv_pick_t (congrArg B hb10) rfl) ?_
   refine st (v := (B (decide (a_0.1 < b_1.1)))) (rv_pick_f (congrArg B hb7) rfl) ?_
   refine st (v := (B (decide (a_0.1 < b_1.1)))) (rv_assign rfl) ?_
   refine w_end ?_
   refine q_then ?_
   refine c_ret ?_
   obtain rfl := Option.some.inj h
   exact fin_ret (v := (B (decide (a_0.1 < b_1.1)))) (results_ok Try.results155 (res_tmp (v := (B (decide (a_0.1 < b_1.1)))) rfl res_nil) rfl) ⟨rfl, rfl⟩ (H.sel' [] rfl rfl)
  ·replace h := bif_f hb10 h
   refine st_skip (congrArg some hb10) ?_
   refine st_skip (congrArg some hb10) ?_
   refine st_skip (congrArg some hb10) ?_
   refine st_skip (congrArg some hb10) ?_
   refine st_skip (congrArg some hb10) ?_
   refine st_g (v := (B false)) (congrArg some hb7) (rv_pick_f (congrArg B hb10) rfl) ?_
   refine st (v := (B false)) (rv_pick_f (congrArg B hb7) rfl) ?_
   refine st (v := (B false)) (rv_assign rfl) ?_
   refine w_end ?_
   refine q_then ?_
   refine c_ret ?_
   obtain rfl := Option.some.inj h
   exact fin_ret (v := (B false)) (results_ok Try.results155 (res_tmp (v := (B false)) rfl res_nil) rfl) ⟨rfl, rfl⟩ (H.sel' [] rfl rfl)

theorem c_spec_hit {x_0 : Int × (List Int) × Int} {kind_1 : Int} {at_2 : List Int} {ax_0_1 : Option Addr} {cx_0_1 : Nat} {aat_2 : Option Addr} {cat_2 : Nat} {r : (Int × Int)} (h : M.spec_hit x_0 kind_1 at_2 = some r) :
    Cal2 Try.prog 156 [(.agg #[(I x_0.1), (Sl ax_0_1 x_0.2.1 cx_0_1), (I x_0.2.2)]), (I kind_1), (Sl aat_2 at_2 cat_2)] [Ch.ro 0 (Sl ax_0_1 x_0.2.1 cx_0_1) x_0.2.1, Ch.ro 0 (Sl aat_2 at_2 cat_2) at_2] (fun n0 v L => v = (.agg #[(I r.1), (I r.2)]) ∧ L = []) := by
 refine cal2 (n := 15) Try.func156 rfl rfl rfl rfl ?_
 intro S0 σ0 n0 hn0 H
 unfold M.spec_hit at h
 refine c_seq ?_
 refine rg ?_
 refine st_ex (ex_box (cs := [(I x_0.1), (Sl ax_0_1 x_0.2.1 cx_0_1), (I x_0.2.2)]) H hn0 rfl rfl) wn ?_
 rintro _ σ2 ⟨b1, rfl, H, -⟩
 refine st_ex (ex_alloc (cs := [(I 0), (I 0)]) H hn0 ti86 rfl) wn ?_
 rintro _ σ4 ⟨b3, rfl, H, -⟩
 refine w_end ?_
 refine q_then ?_
 refine c_seq ?_
 have hc5 := H.cell (u := (I x_0.1)) (o' := 0) 1 0 rfl rfl rfl
 have hc6 := H.cell (u := (Sl ax_0_1 x_0.2.1 cx_0_1)) (o' := 1) 1 1 rfl rfl rfl
 obtain ⟨r7, hx8, h'⟩ := bind_some h
 clear h
 have h := h'; clear h'
 have hc9 := c_spec_dist (aa_1 := ax_0_1) (ca_1 := cx_0_1) (ab_2 := aat_2) (cb_2 := cat_2) hx8
 have Hs := H
 refine rg2 (σ := σ4) (Nm := Unit) 7 [6] [[false], [true]] [[(0, 0), (1, 1)], [(0, 0), (1, 1)], [(0, 0)], [(0, 0)], [(0, 0)], [(0, 0)], [(0, 1)]] 1 [fun _ => fun σm => Hp S0 σ0 σm [Ch.bx n0 b3 0 [(I 0), (I 0)] [] [], Ch.bx n0 b1 0 [(I x_0.1), (Sl ax_0_1 x_0.2.1 cx_0_1), (I x_0.2.2)] [] [], Ch.ro 0 (Sl ax_0_1 x_0.2.1 cx_0_1) x_0.2.1, Ch.ro 0 (Sl aat_2 at_2 cat_2) at_2] ∧ Md (cov []) σ4 σm, fun _ => fun σm => Hp S0 σ0 σm [Ch.bx n0 b3 0 [(I 0), (I 0)] [] [], Ch.bx n0 b1 0 [(I x_0.1), (Sl ax_0_1 x_0.2.1 cx_0_1), (I x_0.2.2)] [] [], Ch.ro 0 (Sl ax_0_1 x_0.2.1 cx_0_1) x_0.2.1, Ch.ro 0 (Sl aat_2 at_2 cat_2) at_2] ∧ Md (cov []) σ4 σm] [fun _ => (pt b1 0), fun _ => (I x_0.1), fun _ => (I kind_1), fun _ => (pt b1 1), fun _ => (Sl ax_0_1 x_0.2.1 cx_0_1), fun _ => (Sl aat_2 at_2 cat_2), fun _ => (I r7)] () (by kernel_rfl) (by kernel_rfl) ?_ ?_ ?_
 ·intro σm m0
  exact ⟨H.grow (m0.mono fun _ h => h.elim), m0⟩
 ·refine ac rfl (by
    intro k _nm ρ σm hJ hoff hdep
    have e3 := look_off (N := 15) (hoff 3 rfl) rfl
    exact dp_v (v := (pt b1 0)) wn (rv_fieldAddr (off := 0) (ft := 3) Try.underlying40 rfl ti3 rfl e3) rfl hJ) ?_
  refine all_cons (by
    refine ⟨?_, ?_⟩
    ·intro _nm ρ σm hJ hoff hdep
     have e7 := hdep 0 rfl rfl 7 rfl
     obtain ⟨H, m⟩ := id hJ
     have hc5 := H.cell (u := (I x_0.1)) (o' := 0) 1 0 rfl rfl rfl
     exact dp_v (v := (I x_0.1)) wn (rv_load1 Try.underlying3 rfl e7 hc5) rfl hJ
    refine ⟨?_, ?_⟩
    ·intro _nm ρ σm hJ hoff hdep
     have e7 := hdep 0 rfl rfl 7 rfl
     obtain ⟨H, m⟩ := id hJ
     have hc5 := H.cell (u := (I x_0.1)) (o' := 0) 1 0 rfl rfl rfl
     exact dp_v (v := (I x_0.1)) wn (rv_load1 Try.underlying3 rfl e7 hc5) rfl hJ
    trivial) ?_
  refine ac rfl (by
    intro k _nm ρ σm hJ hoff hdep
    have e1 := look_off (N := 15) (hoff 1 rfl) rfl
    exact dp_v (v := (I kind_1)) wn (rv_move e1) rfl hJ) ?_
  refine ac rfl (by
    intro k _nm ρ σm hJ hoff hdep
    have e3 := look_off (N := 15) (hoff 3 rfl) rfl
    exact dp_v (v := (pt b1 1)) wn (rv_fieldAddr (off := 1) (ft := 24) Try.underlying40 rfl ti24 rfl e3) rfl hJ) ?_
  refine all_cons (by
    refine ⟨?_, ?_⟩
    ·intro _nm ρ σm hJ hoff hdep
     have e10 := hdep 3 rfl rfl 10 rfl
     obtain ⟨H, m⟩ := id hJ
     have hc6 := H.cell (u := (Sl ax_0_1 x_0.2.1 cx_0_1)) (o' := 1) 1 1 rfl rfl rfl
     exact dp_v (v := (Sl ax_0_1 x_0.2.1 cx_0_1)) wn (rv_load1 Try.underlying24 rfl e10 hc6) rfl hJ
    trivial) ?_
  refine ac rfl (by
    intro k _nm ρ σm hJ hoff hdep
    have e2 := look_off (N := 15) (hoff 2 rfl) rfl
    exact dp_v (v := (Sl aat_2 at_2 cat_2)) wn (rv_move e2) rfl hJ) ?_
  refine all_cons (by
    refine ⟨?_, ?_⟩
    ·intro _nm ρ σm hJ hoff hdep
     have e9 : look 15 ρ 9 = (I kind_1) := hdep 2 rfl rfl 9 rfl
     have e11 : look 15 ρ 11 = (Sl ax_0_1 x_0.2.1 cx_0_1) := hdep 4 rfl rfl 11 rfl
     have e12 : look 15 ρ 12 = (Sl aat_2 at_2 cat_2) := hdep 5 rfl rfl 12 rfl
     obtain ⟨H, m⟩ := id hJ
     refine dp_cx wn (cx_call hc9 (ent_f hc9.fn (by show [look 15 ρ 9, look 15 ρ 11, look 15 ρ 12] = _; rw [e9, e11, e12])) hn0 (show Hp S0 σ0 _ ([Ch.ro 0 (Sl ax_0_1 x_0.2.1 cx_0_1) x_0.2.1, Ch.ro 0 (Sl aat_2 at_2 cat_2) at_2] ++ [Ch.bx n0 b3 0 [(I 0), (I 0)] [] [], Ch.bx n0 b1 0 [(I x_0.1), (Sl ax_0_1 x_0.2.1 cx_0_1), (I x_0.2.2)] [] [], Ch.ro 0 (Sl ax_0_1 x_0.2.1 cx_0_1) x_0.2.1, Ch.ro 0 (Sl aat_2 at_2 cat_2) at_2]) from (H.sel' [2, 3, 0, 1, 2, 3] rfl rfl))) ?_
     rintro _ σq ⟨_, ⟨rfl, rfl⟩, H2, m2⟩
     exact ⟨_, (), rfl, rfl, ⟨H2.sel' [0, 1, 2, 3] rfl rfl, m.comp0 (m2.mono (fun i h => by simp [cov, Ch.ro] at h))⟩, stab [0, 1, 2, 3, 4, 5] (by kernel_rfl) ⟨rfl, rfl, rfl, rfl, rfl, rfl, trivial⟩⟩
    trivial) ?_
  exact all_nil
 ·intro _nm ρ σ10 hJ hoff hrel
  have e6 := look_off (N := 15) (hoff 6 rfl) rfl
  have e8 := hrel 1 rfl 8 rfl
  have e13 := hrel 6 rfl 13 rfl
  obtain ⟨H, -⟩ := (show Hp S0 σ0 σ10 [Ch.bx n0 b3 0 [(I 0), (I 0)] [] [], Ch.bx n0 b1 0 [(I x_0.1), (Sl ax_0_1 x_0.2.1 cx_0_1), (I x_0.2.2)] [] [], Ch.ro 0 (Sl ax_0_1 x_0.2.1 cx_0_1) x_0.2.1, Ch.ro 0 (Sl aat_2 at_2 cat_2) at_2] ∧ Md (cov []) σ4 σ10 from hJ)
  clear hJ Hs
  rw [fr_lookL (L := [(6, (pt b3 0)), (8, (I x_0.1)), (13, (I r7))]) ⟨e6, e8, e13, trivial⟩]
  clear hoff hrel e6 e8 e13
  refine st (v := (.agg #[(I x_0.1), (I r7)])) (rv_build (ps := [(0, (I x_0.1)), (1, (I r7))]) Try.underlying86 ti86 (bp86 Try.underlying86) rfl (by kernel_rfl)) ?_
  refine st_exS (ex_store_box (k := 0) (cs := [(I 0), (I 0)]) (vs := [(I x_0.1), (I r7)]) (cs' := [(I x_0.1), (I r7)]) H (i := 0) rfl ti86 rfl rfl rfl rfl rfl (Nat.le_of_ble_eq_true rfl) (by simp [plain]) rfl) wn ?_
  rintro σ11 ⟨H, -⟩
  refine w_end ?_
  refine q_then ?_
  refine c_ret ?_
  obtain rfl := Option.some.inj h
  exact fin_ret (v := (.agg #[(I x_0.1), (I r7)])) (results_ok Try.results156 (res_cell rfl (run_cellRes (cs := [(I x_0.1), (I r7)]) Try.underlying86 rfl ti86 rfl (H.cells 0 rfl)) res_nil) rfl) ⟨rfl, rfl⟩ (H.sel' [] rfl rfl)

theorem c_spec_byDist {list_0 : List (Int × (List Int) × Int)} {kind_1 : Int} {at_2 : List Int} {alist_0 : Option Addr} {clist_0 : Nat} {aat_2 : Option Addr} {cat_2 : Nat} {r : (List (Int × (List Int) × Int))} (h : M.spec_byDist list_0 kind_1 at_2 = some r) :
    Cal2 Try.prog 130 [(Sl alist_0 list_0 clist_0), (I kind_1), (Sl aat_2 at_2 cat_2)] [Ch.ro 0 (Sl alist_0 list_0 clist_0) list_0, Ch.ro 0 (Sl aat_2 at_2 cat_2) at_2] (fun n0 v L => ∃ (az1 : Option Addr), ∃ (cz2 : Nat), v = (Sl az1 r cz2) ∧ L = [Ch.own n0 0 (Sl az1 r cz2) r]) := by
 refine cal2 (n := 68) Try.func130 rfl rfl rfl rfl ?_
 intro S0 σ0 n0 hn0 H
 unfold M.spec_byDist at h
 refine c_seq ?_
 refine rg ?_
 refine st (v := (.slice none 0 0)) (rv_assign rfl) ?_
 refine w_end ?_
 refine q_then ?_
 refine c_seq ?_
 refine rg ?_
 refine st_ex (ex_buildSlice (el := n0) (xs := ([] : List (Int × (List Int) × Int))) (ps := []) (cs := []) H hn0 Try.underlying23 ti40 rfl rfl (by kernel_rfl) (.nil) rfl) wn ?_
 rintro _ σ2 ⟨b1, rfl, H, -⟩
 refine st (v := (Sl (some ⟨b1, 0, none⟩) ([] : List (Int × (List Int) × Int)) 0)) (rv_assign rfl) ?_
 refine w_end ?_
 refine q_then ?_
 refine c_seq ?_
 refine c_seq ?_
 refine rg ?_
 refine st (v := (I 0)) (rv_assign rfl) ?_
 refine w_end ?_
 refine q_then ?_
 obtain ⟨o3, hj, h'⟩ := bind_some h
 clear h
 refine c_cut (fun e a w => e = .normal ∧ ∃ (ρ : Nat → Value) (σ : St) (aj1 : Option Addr) (cj2 : Nat), a = fr 68 (updL ρ [(7, (Sl aj1 o3 cj2))]) ∧ w = σ.w ∧ Hp S0 σ0 σ [Ch.own n0 0 (Sl aj1 o3 cj2) o3]) ?_ ?_
 ·clear h'
  rename _ = some o3 => h
  refine c_blk ?_
  replace H := H.ownLow 0 n0 0 rfl (Nat.le_refl _) (Nat.zero_le _)
  refine wp_loopM _ h (fun s4 a w => ∃ (ρ : Nat → Value) (σ : St) (aj1 : Option Addr) (cj2 : Nat), a = fr 68 (updL ρ [(0, (Sl alist_0 list_0 clist_0)), (1, (I kind_1)), (2, (Sl aat_2 at_2 cat_2)), (7, (Sl aj1 s4.1 cj2)), (8, (I s4.2))]) ∧ w = σ.w ∧ Hp S0 σ0 σ [Ch.ro 0 (Sl alist_0 list_0 clist_0) list_0, Ch.ro 0 (Sl aat_2 at_2 cat_2) at_2, Ch.own n0 0 (Sl aj1 s4.1 cj2) s4.1]) ⟨_, σ2, (some ⟨b1, 0, none⟩), 0, fr_join ⟨rfl, rfl, rfl, rfl, rfl, trivial⟩, rfl, H.sel' [1, 2, 0] rfl rfl⟩ ?_
  clear h H
  rintro s4 a w o ⟨ρ, σ5, a6, c7, rfl, rfl, H⟩ h hres
  refine c_seq ?_
  refine c_seq ?_
  refine rg ?_
  refine st (v := (I s4.2)) (rv_move rfl) ?_
  refine st (v := (Sl alist_0 list_0 clist_0)) (rv_move rfl) ?_
  refine st (v := (I (list_0.length : Int))) (rv_len Try.underlying23 rfl) ?_
  refine st (v := (B (decide (s4.2 < (list_0.length : Int))))) (rv_lss (a := s4.2) (b := (list_0.length : Int)) rfl rfl) ?_
  refine w_end ?_
  refine q_then ?_
  refine cd_cond (decide (s4.2 < (list_0.length : Int))) rfl (fun hb8 => ?_) (fun hb8 => ?_)
  ·replace h := bif_t hb8 h
   refine c_skip ?_
   refine q_then ?_
   refine c_seq ?_
   refine c_blk ?_
   refine c_seq ?_
   refine rg ?_
   refine st (v := (Sl a6 s4.1 c7)) (rv_move rfl) ?_
   refine st (v := (Sl alist_0 list_0 clist_0)) (rv_move rfl) ?_
   refine st (v := (I s4.2)) (rv_move rfl) ?_
   obtain ⟨x9, hx10, h'⟩ := bind_some h
   clear h
   have h := h'; clear h'
   obtain ⟨b12, o13, hi11, -⟩ := (H.ro 0 rfl).ix hx10
   refine st (v := (pt b12 o13)) (rv_ix Try.underlying23 ti40 rfl rfl hi11) ?_
   obtain ⟨_, ⟨_, _, rfl, rfl, ⟨_, _, rfl, ⟨_, rfl, hR18⟩, rfl⟩⟩, hl14, hc15⟩ := ((H.ro 0 rfl).at hx10 hi11).cells
   obtain ⟨a16, c17, rfl⟩ := hR18.isSl
   replace H := H.add (d := Ch.ro 0 (Sl a16 x9.2.1 c17) x9.2.1) hR18 (fun _ h => h)
   clear hR18
   refine st (v := (.agg #[(I x9.1), (Sl a16 x9.2.1 c17), (I x9.2.2)])) (rv_load Try.underlying40 rfl ti40 rfl hl14 hc15) ?_
   refine st_ex (ex_buildSlice (el := 0) (xs := ([(x9.1, x9.2.1, x9.2.2)] : List (Int × (List Int) × Int))) (ps := [(0, (.agg #[(I x9.1), (Sl a16 x9.2.1 c17), (I x9.2.2)]))]) (cs := [(I x9.1), (Sl a16 x9.2.1 c17), (I x9.2.2)]) H hn0 Try.underlying23 ti40 rfl rfl (by kernel_rfl) (.cons (c := [(I x9.1), (Sl a16 x9.2.1 c17), (I x9.2.2)]) ⟨[(I x9.1)], [(Sl a16 x9.2.1 c17), (I x9.2.2)], rfl, rfl, ⟨[(Sl a16 x9.2.1 c17)], [(I x9.2.2)], rfl, ⟨_, rfl, (H.ro 0 rfl)⟩, rfl⟩⟩ (.nil)) rfl) wn ?_
   rintro _ σ20 ⟨b19, rfl, H, -⟩
   obtain ⟨xs21, hx22, h'⟩ := bind_some h
   clear h
   have h := h'; clear h'
   refine st_ex (ex_append H (i := 4) rfl Try.underlying23 Try.underlying23 ti40 rfl rfl (by decide) (H.own 0 rfl).rd hx22 hn0 rfl rfl) wn ?_
   rintro _ σ25 ⟨a23, c24, rfl, H, -⟩
   refine st (v := (Sl a23 xs21 c24)) (rv_assign rfl) ?_
   refine w_end ?_
   refine q_then ?_
   refine c_seq ?_
   refine rg ?_
   refine st (v := (Sl a23 xs21 c24)) (rv_move rfl) ?_
   refine st (v := (I (xs21.length : Int))) (rv_len Try.underlying23 rfl) ?_
   refine st (v := (I (w64 ((xs21.length : Int) - 1)))) (rv_sub (a := (xs21.length : Int)) (b := 1) rfl rfl) ?_
   refine st (v := (I (w64 ((xs21.length : Int) - 1)))) (rv_assign rfl) ?_
   refine w_end ?_
   refine q_then ?_
   obtain ⟨o26, hj, h'⟩ := bind_some h
   clear h
   refine c_cut (fun e a w => e = .normal ∧ ∃ (ρ : Nat → Value) (σ : St), a = fr 68 (updL ρ [(0, (Sl alist_0 list_0 clist_0)), (1, (I kind_1)), (2, (Sl aat_2 at_2 cat_2)), (7, (Sl a23 o26 c24)), (8, (I s4.2))]) ∧ w = σ.w ∧ Hp S0 σ0 σ [Ch.ro 0 (Sl alist_0 list_0 clist_0) list_0, Ch.ro 0 (Sl aat_2 at_2 cat_2) at_2, Ch.own n0 0 (Sl a23 o26 c24) o26] ∧ o26.length = xs21.length) ?_ ?_
   ·clear h'
    rename _ = some o26 => h
    refine c_blk ?_
    refine wp_loopM _ h (fun s27 a w => ∃ (ρ : Nat → Value) (σ : St), a = fr 68 (updL ρ [(0, (Sl alist_0 list_0 clist_0)), (1, (I kind_1)), (2, (Sl aat_2 at_2 cat_2)), (7, (Sl a23 s27.1 c24)), (8, (I s4.2)), (9, (I s27.2))]) ∧ w = σ.w ∧ Hp S0 σ0 σ [Ch.ro 0 (Sl alist_0 list_0 clist_0) list_0, Ch.ro 0 (Sl aat_2 at_2 cat_2) at_2, Ch.own n0 0 (Sl a23 s27.1 c24) s27.1] ∧ s27.1.length = xs21.length) ⟨_, σ25, fr_join ⟨rfl, rfl, rfl, rfl, rfl, rfl, trivial⟩, rfl, H.sel' [3, 4, 0] rfl rfl, rfl⟩ ?_
    clear h H
    rintro s27 a w o ⟨ρ, σ28, rfl, rfl, H, hn29⟩ h hres
    refine c_seq ?_
    refine c_seq ?_
    obtain ⟨o30, hj, h'⟩ := bind_some h
    clear h
    refine c_cut (fun e a w => e = .normal ∧ ∃ (ρ : Nat → Value) (σ : St), a = fr 68 (updL ρ [(0, (Sl alist_0 list_0 clist_0)), (1, (I kind_1)), (2, (Sl aat_2 at_2 cat_2)), (7, (Sl a23 s27.1 c24)), (8, (I s4.2)), (9, (I s27.2)), (47, (B o30))]) ∧ w = σ.w ∧ Hp S0 σ0 σ [Ch.ro 0 (Sl alist_0 list_0 clist_0) list_0, Ch.ro 0 (Sl aat_2 at_2 cat_2) at_2, Ch.own n0 0 (Sl a23 s27.1 c24) s27.1]) ?_ ?_
    ·clear h'
     rename _ = some o30 => h
     rcases Bool.eq_false_or_eq_true (decide (0 < s27.2)) with hb31 | hb31
     ·replace h := bif_t hb31 h
      obtain ⟨x32, hx33, h'⟩ := bind_some h
      clear h
      have h := h'; clear h'
      obtain ⟨b35, o36, hi34, -⟩ := (H.own 2 rfl).ix hx33
      obtain ⟨_, ⟨_, _, rfl, rfl, ⟨_, _, rfl, ⟨_, rfl, hR41⟩, rfl⟩⟩, hl37, hc38⟩ := ((H.own 2 rfl).at hx33 hi34).cells
      obtain ⟨a39, c40, rfl⟩ := hR41.isSl
      replace H := H.add (d := Ch.ro 0 (Sl a39 x32.2.1 c40) x32.2.1) hR41 (fun _ h => h)
      clear hR41
      obtain ⟨r42, hx43, h'⟩ := bind_some h
      clear h
      have h := h'; clear h'
      have hc44 := c_spec_hit (ax_0_1 := a39) (cx_0_1 := c40) (aat_2 := aat_2) (cat_2 := cat_2) hx43
      obtain ⟨x45, hx46, h'⟩ := bind_some h
      clear h
      have h := h'; clear h'
      obtain ⟨b48, o49, hi47, -⟩ := (H.own 3 rfl).ix hx46
      obtain ⟨_, ⟨_, _, rfl, rfl, ⟨_, _, rfl, ⟨_, rfl, hR54⟩, rfl⟩⟩, hl50, hc51⟩ := ((H.own 3 rfl).at hx46 hi47).cells
      obtain ⟨a52, c53, rfl⟩ := hR54.isSl
      replace H := H.add (d := Ch.ro 0 (Sl a52 x45.2.1 c53) x45.2.1) hR54 (fun _ h => h)
      clear hR54
      have Hs := H
      refine rg2 (σ := σ28) (Nm := Unit) 17 [9] [[false], [true]] [[(0, 0)], [(0, 0)], [(0, 0)], [(0, 0)], [(0, 0)], [(0, 0)], [(0, 0)], [(0, 0)], [(0, 0)], [(0, 1)], [(0, 0), (1, 1)], [(0, 0), (1, 1)], [(0, 0), (1, 1)], [(0, 0), (1, 1)], [(0, 0), (1, 1)], [(0, 0), (1, 1)], [(0, 0), (1, 1)]] 1 [fun _ => fun σm => Hp S0 σ0 σm [Ch.ro 0 (Sl a52 x45.2.1 c53) x45.2.1, Ch.ro 0 (Sl a39 x32.2.1 c40) x32.2.1, Ch.ro 0 (Sl alist_0 list_0 clist_0) list_0, Ch.ro 0 (Sl aat_2 at_2 cat_2) at_2, Ch.own n0 0 (Sl a23 s27.1 c24) s27.1] ∧ Md (cov []) σ28 σm, fun _ => fun σm => Hp S0 σ0 σm [Ch.ro 0 (Sl a52 x45.2.1 c53) x45.2.1, Ch.ro 0 (Sl a39 x32.2.1 c40) x32.2.1, Ch.ro 0 (Sl alist_0 list_0 clist_0) list_0, Ch.ro 0 (Sl aat_2 at_2 cat_2) at_2, Ch.own n0 0 (Sl a23 s27.1 c24) s27.1] ∧ Md (cov []) σ28 σm] [fun _ => (I s27.2), fun _ => (B (decide (0 < s27.2))), fun _ => (B (decide (0 < s27.2))), fun _ => (Sl a23 s27.1 c24), fun _ => (I s27.2), fun _ => (pt b35 o36), fun _ => (.agg #[(I x32.1), (Sl a39 x32.2.1 c40), (I x32.2.2)]), fun _ => (I kind_1), fun _ => (Sl aat_2 at_2 cat_2), fun _ => (.agg #[(I r42.1), (I r42.2)]), fun _ => (Sl a23 s27.1 c24), fun _ => (I s27.2), fun _ => (I (w64 (s27.2 - 1))), fun _ => (pt b48 o49), fun _ => (.agg #[(I x45.1), (Sl a52 x45.2.1 c53), (I x45.2.2)]), fun _ => (I kind_1), fun _ => (Sl aat_2 at_2 cat_2)] () (by kernel_rfl) (by kernel_rfl) ?_ ?_ ?_
      ·intro σm m0
       exact ⟨H.grow (m0.mono fun _ h => h.elim), m0⟩
      ·refine ac rfl (by
         intro k _nm ρ σm hJ hoff hdep
         have e9 := look_off (N := 68) (hoff 9 rfl) rfl
         exact dp_v (v := (I s27.2)) wn (rv_move e9) rfl hJ) ?_
       refine ac rfl (by
         intro k _nm ρ σm hJ hoff hdep
         have e28 := hdep 0 rfl rfl 28 rfl
         exact dp_v (v := (B (decide (0 < s27.2)))) wn (rv_gtr (a := s27.2) (b := 0) e28 rfl) rfl hJ) ?_
       refine ac rfl (by
         intro k _nm ρ σm hJ hoff hdep
         have e29 := hdep 1 rfl rfl 29 rfl
         exact dp_v (v := (B (decide (0 < s27.2)))) wn (rv_move e29) rfl hJ) ?_
       refine ac rfl (by
         intro k _nm ρ σm hJ hoff hdep
         have e7 := look_off (N := 68) (hoff 7 rfl) rfl
         have e30 := hdep 2 rfl rfl 30 rfl
         exact dp_v (v := (Sl a23 s27.1 c24)) (wanted_yes rfl (yv_of rfl (e30.trans (congrArg B hb31)))) (rv_move e7) rfl hJ) ?_
       refine ac rfl (by
         intro k _nm ρ σm hJ hoff hdep
         have e9 := look_off (N := 68) (hoff 9 rfl) rfl
         have e30 := hdep 2 rfl rfl 30 rfl
         exact dp_v (v := (I s27.2)) (wanted_yes rfl (yv_of rfl (e30.trans (congrArg B hb31)))) (rv_move e9) rfl hJ) ?_
       refine ac rfl (by
         intro k _nm ρ σm hJ hoff hdep
         have e31 := hdep 3 rfl rfl 31 rfl
         have e32 := hdep 4 rfl rfl 32 rfl
         have e30 := hdep 2 rfl rfl 30 rfl
         exact dp_v (v := (pt b35 o36)) (wanted_yes rfl (yv_of rfl (e30.trans (congrArg B hb31)))) (rv_ix Try.underlying23 ti40 e31 e32 hi34) rfl hJ) ?_
       refine all_cons (by
         refine ⟨?_, ?_⟩
         ·intro _nm ρ σm hJ hoff hdep
          have e33 := hdep 5 rfl rfl 33 rfl
          have e30 := hdep 2 rfl rfl 30 rfl
          obtain ⟨H, m⟩ := id hJ
          replace hc38 := fun j hj => m.hcell (hc38 j hj) nocov
          exact dp_v (v := (.agg #[(I x32.1), (Sl a39 x32.2.1 c40), (I x32.2.2)])) (wanted_yes rfl (yv_of rfl (e30.trans (congrArg B hb31)))) (rv_load Try.underlying40 rfl ti40 e33 hl37 hc38) rfl hJ
         trivial) ?_
       refine ac rfl (by
         intro k _nm ρ σm hJ hoff hdep
         have e1 := look_off (N := 68) (hoff 1 rfl) rfl
         have e30 := hdep 2 rfl rfl 30 rfl
         exact dp_v (v := (I kind_1)) (wanted_yes rfl (yv_of rfl (e30.trans (congrArg B hb31)))) (rv_move e1) rfl hJ) ?_
       refine ac rfl (by
         intro k _nm ρ σm hJ hoff hdep
         have e2 := look_off (N := 68) (hoff 2 rfl) rfl
         have e30 := hdep 2 rfl rfl 30 rfl
         exact dp_v (v := (Sl aat_2 at_2 cat_2)) (wanted_yes rfl (yv_of rfl (e30.trans (congrArg B hb31)))) (rv_move e2) rfl hJ) ?_
       refine all_cons (by
         refine ⟨?_, ?_⟩
         ·intro _nm ρ σm hJ hoff hdep
          have e34 : look 68 ρ 34 = (.agg #[(I x32.1), (Sl a39 x32.2.1 c40), (I x32.2.2)]) := hdep 6 rfl rfl 34 rfl
          have e35 : look 68 ρ 35 = (I kind_1) := hdep 7 rfl rfl 35 rfl
          have e36 : look 68 ρ 36 = (Sl aat_2 at_2 cat_2) := hdep 8 rfl rfl 36 rfl
          have e30 := hdep 2 rfl rfl 30 rfl
          obtain ⟨H, m⟩ := id hJ
          refine dp_cx (wanted_yes rfl (yv_of rfl (e30.trans (congrArg B hb31)))) (cx_call hc44 (ent_f hc44.fn (by show [look 68 ρ 34, look 68 ρ 35, look 68 ρ 36] = _; rw [e34, e35, e36])) hn0 (show Hp S0 σ0 _ ([Ch.ro 0 (Sl a39 x32.2.1 c40) x32.2.1, Ch.ro 0 (Sl aat_2 at_2 cat_2) at_2] ++ [Ch.ro 0 (Sl a52 x45.2.1 c53) x45.2.1, Ch.ro 0 (Sl a39 x32.2.1 c40) x32.2.1, Ch.ro 0 (Sl alist_0 list_0 clist_0) list_0, Ch.ro 0 (Sl aat_2 at_2 cat_2) at_2, Ch.own n0 0 (Sl a23 s27.1 c24) s27.1]) from (H.sel' [1, 3, 0, 1, 2, 3, 4] rfl rfl))) ?_
          rintro _ σq ⟨_, ⟨rfl, rfl⟩, H2, m2⟩
          exact ⟨_, (), rfl, rfl, ⟨H2.sel' [0, 1, 2, 3, 4] rfl rfl, m.comp0 (m2.mono (fun i h => by simp [cov, Ch.ro] at h))⟩, stab [0, 1, 2, 3, 4, 5, 6, 7, 8, 10, 11, 12, 13, 14, 15, 16] (by kernel_rfl) ⟨rfl, rfl, rfl, rfl, rfl, rfl, rfl, rfl, rfl, rfl, rfl, rfl, rfl, rfl, rfl, rfl, trivial⟩⟩
         trivial) ?_
       refine ac rfl (by
         intro k _nm ρ σm hJ hoff hdep
         have e7 := look_off (N := 68) (hoff 7 rfl) rfl
         have e30 := hdep 2 rfl rfl 30 rfl
         exact dp_v (v := (Sl a23 s27.1 c24)) (wanted_yes rfl (yv_of rfl (e30.trans (congrArg B hb31)))) (rv_move e7) rfl hJ) ?_
       refine ac rfl (by
         intro k _nm ρ σm hJ hoff hdep
         have e9 := look_off (N := 68) (hoff 9 rfl) rfl
         have e30 := hdep 2 rfl rfl 30 rfl
         exact dp_v (v := (I s27.2)) (wanted_yes rfl (yv_of rfl (e30.trans (congrArg B hb31)))) (rv_move e9) rfl hJ) ?_
       refine ac rfl (by
         intro k _nm ρ σm hJ hoff hdep
         have e39 := hdep 11 rfl rfl 39 rfl
         have e30 := hdep 2 rfl rfl 30 rfl
         exact dp_v (v := (I (w64 (s27.2 - 1)))) (wanted_yes rfl (yv_of rfl (e30.trans (congrArg B hb31)))) (rv_sub (a := s27.2) (b := 1) e39 rfl) rfl hJ) ?_
       refine ac rfl (by
         intro k _nm ρ σm hJ hoff hdep
         have e38 := hdep 10 rfl rfl 38 rfl
         have e40 := hdep 12 rfl rfl 40 rfl
         have e30 := hdep 2 rfl rfl 30 rfl
         exact dp_v (v := (pt b48 o49)) (wanted_yes rfl (yv_of rfl (e30.trans (congrArg B hb31)))) (rv_ix Try.underlying23 ti40 e38 e40 hi47) rfl hJ) ?_
       refine all_cons (by
         refine ⟨?_, ?_⟩
         ·intro _nm ρ σm hJ hoff hdep
          have e41 := hdep 13 rfl rfl 41 rfl
          have e30 := hdep 2 rfl rfl 30 rfl
          obtain ⟨H, m⟩ := id hJ
          replace hc51 := fun j hj => m.hcell (hc51 j hj) nocov
          exact dp_v (v := (.agg #[(I x45.1), (Sl a52 x45.2.1 c53), (I x45.2.2)])) (wanted_yes rfl (yv_of rfl (e30.trans (congrArg B hb31)))) (rv_load Try.underlying40 rfl ti40 e41 hl50 hc51) rfl hJ
         refine ⟨?_, ?_⟩
         ·intro _nm ρ σm hJ hoff hdep
          have e41 := hdep 13 rfl rfl 41 rfl
          have e30 := hdep 2 rfl rfl 30 rfl
          obtain ⟨H, m⟩ := id hJ
          replace hc51 := fun j hj => m.hcell (hc51 j hj) nocov
          exact dp_v (v := (.agg #[(I x45.1), (Sl a52 x45.2.1 c53), (I x45.2.2)])) (wanted_yes rfl (yv_of rfl (e30.trans (congrArg B hb31)))) (rv_load Try.underlying40 rfl ti40 e41 hl50 hc51) rfl hJ
         trivial) ?_
       refine ac rfl (by
         intro k _nm ρ σm hJ hoff hdep
         have e1 := look_off (N := 68) (hoff 1 rfl) rfl
         have e30 := hdep 2 rfl rfl 30 rfl
         exact dp_v (v := (I kind_1)) (wanted_yes rfl (yv_of rfl (e30.trans (congrArg B hb31)))) (rv_move e1) rfl hJ) ?_
       refine ac rfl (by
         intro k _nm ρ σm hJ hoff hdep
         have e2 := look_off (N := 68) (hoff 2 rfl) rfl
         have e30 := hdep 2 rfl rfl 30 rfl
         exact dp_v (v := (Sl aat_2 at_2 cat_2)) (wanted_yes rfl (yv_of rfl (e30.trans (congrArg B hb31)))) (rv_move e2) rfl hJ) ?_
       exact all_nil
      ·intro _nm ρ σ55 hJ hoff hrel
       have e0 := look_off (N := 68) (hoff 0 rfl) rfl
       have e1 := look_off (N := 68) (hoff 1 rfl) rfl
       have e2 := look_off (N := 68) (hoff 2 rfl) rfl
       have e7 := look_off (N := 68) (hoff 7 rfl) rfl
       have e8 := look_off (N := 68) (hoff 8 rfl) rfl
       have e9 := look_off (N := 68) (hoff 9 rfl) rfl
       have e30 := hrel 2 rfl 30 rfl
       have e37 := hrel 9 rfl 37 rfl
       have e42 := hrel 14 rfl 42 rfl
       have e43 := hrel 15 rfl 43 rfl
       have e44 := hrel 16 rfl 44 rfl
       obtain ⟨H, -⟩ := (show Hp S0 σ0 σ55 [Ch.ro 0 (Sl a52 x45.2.1 c53) x45.2.1, Ch.ro 0 (Sl a39 x32.2.1 c40) x32.2.1, Ch.ro 0 (Sl alist_0 list_0 clist_0) list_0, Ch.ro 0 (Sl aat_2 at_2 cat_2) at_2, Ch.own n0 0 (Sl a23 s27.1 c24) s27.1] ∧ Md (cov []) σ28 σ55 from hJ)
       clear hJ Hs
       rw [fr_lookL (L := [(0, (Sl alist_0 list_0 clist_0)), (1, (I kind_1)), (2, (Sl aat_2 at_2 cat_2)), (7, (Sl a23 s27.1 c24)), (8, (I s4.2)), (9, (I s27.2)), (30, (B (decide (0 < s27.2)))), (37, (.agg #[(I r42.1), (I r42.2)])), (42, (.agg #[(I x45.1), (Sl a52 x45.2.1 c53), (I x45.2.2)])), (43, (I kind_1)), (44, (Sl aat_2 at_2 cat_2))]) ⟨e0, e1, e2, e7, e8, e9, e30, e37, e42, e43, e44, trivial⟩]
       clear hoff hrel e0 e1 e2 e7 e8 e9 e30 e37 e42 e43 e44
       obtain ⟨r56, hx57, h'⟩ := bind_some h
       clear h
       have h := h'; clear h'
       have hc58 := c_spec_hit (ax_0_1 := a52) (cx_0_1 := c53) (aat_2 := aat_2) (cat_2 := cat_2) hx57
       refine st_call (cx_call hc58 (ent_f hc58.fn rfl) hn0 (show Hp S0 σ0 _ ([Ch.ro 0 (Sl a52 x45.2.1 c53) x45.2.1, Ch.ro 0 (Sl aat_2 at_2 cat_2) at_2] ++ [Ch.ro 0 (Sl a52 x45.2.1 c53) x45.2.1, Ch.ro 0 (Sl a39 x32.2.1 c40) x32.2.1, Ch.ro 0 (Sl alist_0 list_0 clist_0) list_0, Ch.ro 0 (Sl aat_2 at_2 cat_2) at_2, Ch.own n0 0 (Sl a23 s27.1 c24) s27.1]) from (H.sel' [0, 3, 0, 1, 2, 3, 4] rfl rfl))) (wanted_yes rfl (by exact (congrArg some hb31))) ?_
       rintro _ σ59 ⟨_, ⟨rfl, rfl⟩, H, -⟩
       replace H : Hp S0 σ0 σ59 [Ch.ro 0 (Sl a52 x45.2.1 c53) x45.2.1, Ch.ro 0 (Sl a39 x32.2.1 c40) x32.2.1, Ch.ro 0 (Sl alist_0 list_0 clist_0) list_0, Ch.ro 0 (Sl aat_2 at_2 cat_2) at_2, Ch.own n0 0 (Sl a23 s27.1 c24) s27.1] := H
       obtain ⟨r60, hx61, h'⟩ := bind_some h
       clear h
       have h := h'; clear h'
       have hc62 := c_spec_nearer hx61
       refine st_call (cx_call hc62 (ent_f hc62.fn rfl) hn0 (show Hp S0 σ0 _ ([] ++ [Ch.ro 0 (Sl a52 x45.2.1 c53) x45.2.1, Ch.ro 0 (Sl a39 x32.2.1 c40) x32.2.1, Ch.ro 0 (Sl alist_0 list_0 clist_0) list_0, Ch.ro 0 (Sl aat_2 at_2 cat_2) at_2, Ch.own n0 0 (Sl a23 s27.1 c24) s27.1]) from (H.sel' [0, 1, 2, 3, 4] rfl rfl))) (wanted_yes rfl (by exact (congrArg some hb31))) ?_
       rintro _ σ63 ⟨_, ⟨rfl, rfl⟩, H, -⟩
       replace H : Hp S0 σ0 σ63 [Ch.ro 0 (Sl a52 x45.2.1 c53) x45.2.1, Ch.ro 0 (Sl a39 x32.2.1 c40) x32.2.1, Ch.ro 0 (Sl alist_0 list_0 clist_0) list_0, Ch.ro 0 (Sl aat_2 at_2 cat_2) at_2, Ch.own n0 0 (Sl a23 s27.1 c24) s27.1] := H
       refine st (v := (B r60)) (rv_pick_t (congrArg B hb31) rfl) ?_
       refine w_end ?_
       obtain rfl := Option.some.inj h
       exact ⟨rfl, _, σ63, fr_join ⟨rfl, rfl, rfl, rfl, rfl, rfl, rfl, trivial⟩, rfl, H.sel' [2, 3, 4] rfl rfl⟩
     ·replace h := bif_f hb31 h
      have Hs := H
      refine rg2 (σ := σ28) (Nm := Unit) 17 [] [[]] [[(0, 0)], [(0, 0)], [(0, 0)], [(0, 0)], [(0, 0)], [(0, 0)], [(0, 0)], [(0, 0)], [(0, 0)], [(0, 0)], [(0, 0)], [(0, 0)], [(0, 0)], [(0, 0)], [(0, 0)], [(0, 0)], [(0, 0)]] 0 [fun _ => fun σm => Hp S0 σ0 σm [Ch.ro 0 (Sl alist_0 list_0 clist_0) list_0, Ch.ro 0 (Sl aat_2 at_2 cat_2) at_2, Ch.own n0 0 (Sl a23 s27.1 c24) s27.1] ∧ Md (cov []) σ28 σm] [fun _ => (I s27.2), fun _ => (B (decide (0 < s27.2))), fun _ => (B (decide (0 < s27.2))), fun _ => undef, fun _ => undef, fun _ => undef, fun _ => undef, fun _ => undef, fun _ => undef, fun _ => undef, fun _ => undef, fun _ => undef, fun _ => undef, fun _ => undef, fun _ => undef, fun _ => undef, fun _ => undef] () (by kernel_rfl) (by kernel_rfl) ?_ ?_ ?_
      ·intro σm m0
       exact ⟨H.grow (m0.mono fun _ h => h.elim), m0⟩
      ·refine ac rfl (by
         intro k _nm ρ σm hJ hoff hdep
         have e9 := look_off (N := 68) (hoff 9 rfl) rfl
         exact dp_v (v := (I s27.2)) wn (rv_move e9) rfl hJ) ?_
       refine ac rfl (by
         intro k _nm ρ σm hJ hoff hdep
         have e28 := hdep 0 rfl rfl 28 rfl
         exact dp_v (v := (B (decide (0 < s27.2)))) wn (rv_gtr (a := s27.2) (b := 0) e28 rfl) rfl hJ) ?_
       refine ac rfl (by
         intro k _nm ρ σm hJ hoff hdep
         have e29 := hdep 1 rfl rfl 29 rfl
         exact dp_v (v := (B (decide (0 < s27.2)))) wn (rv_move e29) rfl hJ) ?_
       refine ac rfl (by
         intro k _nm ρ σm hJ hoff hdep
         have e30 := hdep 2 rfl rfl 30 rfl
         exact dp_skip (wanted_no rfl (yv_of rfl (e30.trans (congrArg B hb31)))) rfl hJ) ?_
       refine ac rfl (by
         intro k _nm ρ σm hJ hoff hdep
         have e30 := hdep 2 rfl rfl 30 rfl
         exact dp_skip (wanted_no rfl (yv_of rfl (e30.trans (congrArg B hb31)))) rfl hJ) ?_
       refine ac rfl (by
         intro k _nm ρ σm hJ hoff hdep
         have e30 := hdep 2 rfl rfl 30 rfl
         exact dp_skip (wanted_no rfl (yv_of rfl (e30.trans (congrArg B hb31)))) rfl hJ) ?_
       refine ac rfl (by
         intro k _nm ρ σm hJ hoff hdep
         have e30 := hdep 2 rfl rfl 30 rfl
         exact dp_skip (wanted_no rfl (yv_of rfl (e30.trans (congrArg B hb31)))) rfl hJ) ?_
       refine ac rfl (by
         intro k _nm ρ σm hJ hoff hdep
         have e30 := hdep 2 rfl rfl 30 rfl
         exact dp_skip (wanted_no rfl (yv_of rfl (e30.trans (congrArg B hb31)))) rfl hJ) ?_
       refine ac rfl (by
         intro k _nm ρ σm hJ hoff hdep
         have e30 := hdep 2 rfl rfl 30 rfl
         exact dp_skip (wanted_no rfl (yv_of rfl (e30.trans (congrArg B hb31)))) rfl hJ) ?_
       refine ac rfl (by
         intro k _nm ρ σm hJ hoff hdep
         have e30 := hdep 2 rfl rfl 30 rfl
         exact dp_skip (wanted_no rfl (yv_of rfl (e30.trans (congrArg B hb31)))) rfl hJ) ?_
       refine ac rfl (by
         intro k _nm ρ σm hJ hoff hdep
         have e30 := hdep 2 rfl rfl 30 rfl
         exact dp_skip (wanted_no rfl (yv_of rfl (e30.trans (congrArg B hb31)))) rfl hJ) ?_
       refine ac rfl (by
         intro k _nm ρ σm hJ hoff hdep
         have e30 := hdep 2 rfl rfl 30 rfl
         exact dp_skip (wanted_no rfl (yv_of rfl (e30.trans (congrArg B hb31)))) rfl hJ) ?_
       refine ac rfl (by
         intro k _nm ρ σm hJ hoff hdep
         have e30 := hdep 2 rfl rfl 30 rfl
         exact dp_skip (wanted_no rfl (yv_of rfl (e30.trans (congrArg B hb31)))) rfl hJ) ?_
       refine ac rfl (by
         intro k _nm ρ σm hJ hoff hdep
         have e30 := hdep 2 rfl rfl 30 rfl
         exact dp_skip (wanted_no rfl (yv_of rfl (e30.trans (congrArg B hb31)))) rfl hJ) ?_
       refine ac rfl (by
         intro k _nm ρ σm hJ hoff hdep
         have e30 := hdep 2 rfl rfl 30 rfl
         exact dp_skip (wanted_no rfl (yv_of rfl (e30.trans (congrArg B hb31)))) rfl hJ) ?_
       refine ac rfl (by
         intro k _nm ρ σm hJ hoff hdep
         have e30 := hdep 2 rfl rfl 30 rfl
         exact dp_skip (wanted_no rfl (yv_of rfl (e30.trans (congrArg B hb31)))) rfl hJ) ?_
       refine ac rfl (by
         intro k _nm ρ σm hJ hoff hdep
         have e30 := hdep 2 rfl rfl 30 rfl
         exact dp_skip (wanted_no rfl (yv_of rfl (e30.trans (congrArg B hb31)))) rfl hJ) ?_
       exact all_nil
      ·intro _nm ρ σ64 hJ hoff hrel
       have e0 := look_off (N := 68) (hoff 0 rfl) rfl
       have e1 := look_off (N := 68) (hoff 1 rfl) rfl
       have e2 := look_off (N := 68) (hoff 2 rfl) rfl
       have e7 := look_off (N := 68) (hoff 7 rfl) rfl
       have e8 := look_off (N := 68) (hoff 8 rfl) rfl
       have e9 := look_off (N := 68) (hoff 9 rfl) rfl
       have e30 := hrel 2 rfl 30 rfl
       have e37 := hrel 9 rfl 37 rfl
       have e42 := hrel 14 rfl 42 rfl
       have e43 := hrel 15 rfl 43 rfl
       have e44 := hrel 16 rfl 44 rfl
       obtain ⟨H, -⟩ := (show Hp S0 σ0 σ64 [Ch.ro 0 (Sl alist_0 list_0 clist_0) list_0, Ch.ro 0 (Sl aat_2 at_2 cat_2) at_2, Ch.own n0 0 (Sl a23 s27.1 c24) s27.1] ∧ Md (cov []) σ28 σ64 from hJ)
       clear hJ Hs
       rw [fr_lookL (L := [(0, (Sl alist_0 list_0 clist_0)), (1, (I kind_1)), (2, (Sl aat_2 at_2 cat_2)), (7, (Sl a23 s27.1 c24)), (8, (I s4.2)), (9, (I s27.2)), (30, (B (decide (0 < s27.2)))), (37, undef), (42, undef), (43, undef), (44, undef)]) ⟨e0, e1, e2, e7, e8, e9, e30, e37, e42, e43, e44, trivial⟩]
       clear hoff hrel e0 e1 e2 e7 e8 e9 e30 e37 e42 e43 e44
       refine st_skip (congrArg some hb31) ?_
       refine st_skip (congrArg some hb31) ?_
       refine st (v := (B false)) (rv_pick_f (congrArg B hb31) rfl) ?_
       refine w_end ?_
       obtain rfl := Option.some.inj h
       exact ⟨rfl, _, σ64, fr_join ⟨rfl, rfl, rfl, rfl, rfl, rfl, rfl, trivial⟩, rfl, H.sel' [0, 1, 2] rfl rfl⟩
    ·clear hj
     have h := h'
     clear h' H
     rintro e a w ⟨rfl, ρ, σ65, rfl, rfl, H⟩
     refine q_then ?_
     refine cd_cond o30 rfl (fun hb66 => ?_) (fun hb66 => ?_)
     ·replace h := bif_t hb66 h
      refine c_skip ?_
      refine q_then ?_
      refine c_seq ?_
      refine c_blk ?_
      refine c_seq ?_
      refine rg ?_
      refine st (v := (Sl a23 s27.1 c24)) (rv_move rfl) ?_
      refine st (v := (I s27.2)) (rv_move rfl) ?_
      obtain ⟨x67, hx68, h'⟩ := bind_some h
      clear h
      have h := h'; clear h'
      obtain ⟨b70, o71, hi69, -⟩ := (H.own 2 rfl).ix hx68
      refine st (v := (pt b70 o71)) (rv_ix Try.underlying23 ti40 rfl rfl hi69) ?_
      obtain ⟨_, ⟨_, _, rfl, rfl, ⟨_, _, rfl, ⟨_, rfl, hR76⟩, rfl⟩⟩, hl72, hc73⟩ := ((H.own 2 rfl).at hx68 hi69).cells
      obtain ⟨a74, c75, rfl⟩ := hR76.isSl
      replace H := H.add (d := Ch.ro 0 (Sl a74 x67.2.1 c75) x67.2.1) hR76 (fun _ h => h)
      clear hR76
      refine st (v := (.agg #[(I x67.1), (Sl a74 x67.2.1 c75), (I x67.2.2)])) (rv_load Try.underlying40 rfl ti40 rfl hl72 hc73) ?_
      refine st_ex (ex_alloc (cs := [(I 0), (.slice none 0 0), (I 0)]) H hn0 ti40 rfl) wn ?_
      rintro _ σ78 ⟨b77, rfl, H, -⟩
      refine st_exS (ex_store_box (k := 0) (cs := [(I 0), (.slice none 0 0), (I 0)]) (vs := [(I x67.1), (Sl a74 x67.2.1 c75), (I x67.2.2)]) (cs' := [(I x67.1), (Sl a74 x67.2.1 c75), (I x67.2.2)]) H (i := 0) rfl ti40 rfl rfl rfl rfl rfl (Nat.le_of_ble_eq_true rfl) (by simp [plain]) rfl) wn ?_
      rintro σ79 ⟨H, -⟩
      refine w_end ?_
      refine q_then ?_
      refine c_seq ?_
      refine rg ?_
      refine st (v := (Sl a23 s27.1 c24)) (rv_move rfl) ?_
      refine st (v := (I s27.2)) (rv_move rfl) ?_
      refine st (v := (Sl a23 s27.1 c24)) (rv_move rfl) ?_
      refine st (v := (I s27.2)) (rv_move rfl) ?_
      refine st (v := (I (w64 (s27.2 - 1)))) (rv_sub (a := s27.2) (b := 1) rfl rfl) ?_
      obtain ⟨x80, hx81, h'⟩ := bind_some h
      clear h
      have h := h'; clear h'
      obtain ⟨b83, o84, hi82, -⟩ := (H.own 4 rfl).ix hx81
      refine st (v := (pt b83 o84)) (rv_ix Try.underlying23 ti40 rfl rfl hi82) ?_
      obtain ⟨_, ⟨_, _, rfl, rfl, ⟨_, _, rfl, ⟨_, rfl, hR89⟩, rfl⟩⟩, hl85, hc86⟩ := ((H.own 4 rfl).at hx81 hi82).cells
      obtain ⟨a87, c88, rfl⟩ := hR89.isSl
      replace H := H.add (d := Ch.ro 0 (Sl a87 x80.2.1 c88) x80.2.1) hR89 (fun _ h => h)
      clear hR89
      refine st (v := (.agg #[(I x80.1), (Sl a87 x80.2.1 c88), (I x80.2.2)])) (rv_load Try.underlying40 rfl ti40 rfl hl85 hc86) ?_
      obtain ⟨x90, hx91, h'⟩ := bind_some h
      clear h
      have h := h'; clear h'
      obtain ⟨b93, o94, hi92, -⟩ := (H.own 5 rfl).ix hx91
      refine st (v := (pt b93 o94)) (rv_ix Try.underlying23 ti40 rfl rfl hi92) ?_
      refine st_exS (ex_store_own (e' := (x80.1, x80.2.1, x80.2.2)) (vs := [(I x80.1), (Sl a87 x80.2.1 c88), (I x80.2.2)]) (k := 0) H (i := 5) rfl ti40 hx91 hi92 rfl rfl rfl rfl rfl (Nat.le_of_ble_eq_true rfl) (by simp [plain]) (by rintro _ ⟨_, _, rfl, rfl, ⟨_, _, rfl, ⟨_, rfl, hR97⟩, rfl⟩⟩; exact ⟨[(I x80.1)], [(Sl a87 x80.2.1 c88), (I x80.2.2)], rfl, rfl, ⟨[(Sl a87 x80.2.1 c88)], [(I x80.2.2)], rfl, ⟨_, rfl, (H.ro 0 rfl)⟩, rfl⟩⟩)) wn ?_
      rintro σ98 ⟨H, -⟩
      have hsl : (Sl a23 s27.1 c24) = (Sl a23 (s27.1.set s27.2.toNat (x80.1, x80.2.1, x80.2.2)) c24) := sl_len List.length_set.symm
      rw [hsl]; rw [hsl] at H; clear hsl
      refine w_end ?_
      refine q_then ?_
      refine rg ?_
      refine st (v := (Sl a23 (s27.1.set s27.2.toNat (x80.1, x80.2.1, x80.2.2)) c24)) (rv_move rfl) ?_
      refine st (v := (I s27.2)) (rv_move rfl) ?_
      refine st (v := (I (w64 (s27.2 - 1)))) (rv_sub (a := s27.2) (b := 1) rfl rfl) ?_
      have hc99 := H.cells 2 rfl
      refine st (v := (.agg #[(I x67.1), (Sl a74 x67.2.1 c75), (I x67.2.2)])) (rv_load (cs := [(I x67.1), (Sl a74 x67.2.1 c75), (I x67.2.2)]) Try.underlying40 rfl ti40 rfl rfl hc99) ?_
      obtain ⟨x100, hx101, h'⟩ := bind_some h
      clear h
      have h := h'; clear h'
      obtain ⟨b103, o104, hi102, -⟩ := (H.own 0 rfl).ix hx101
      refine st (v := (pt b103 o104)) (rv_ix Try.underlying23 ti40 rfl rfl hi102) ?_
      refine st_exS (ex_store_own (e' := (x67.1, x67.2.1, x67.2.2)) (vs := [(I x67.1), (Sl a74 x67.2.1 c75), (I x67.2.2)]) (k := 0) H (i := 0) rfl ti40 hx101 hi102 rfl rfl rfl rfl rfl (Nat.le_of_ble_eq_true rfl) (by simp [plain]) (by rintro _ ⟨_, _, rfl, rfl, ⟨_, _, rfl, ⟨_, rfl, hR107⟩, rfl⟩⟩; exact ⟨[(I x67.1)], [(Sl a74 x67.2.1 c75), (I x67.2.2)], rfl, rfl, ⟨[(Sl a74 x67.2.1 c75)], [(I x67.2.2)], rfl, ⟨_, rfl, (H.ro 3 rfl)⟩, rfl⟩⟩)) wn ?_
      rintro σ108 ⟨H, -⟩
      have hsl : (Sl a23 (s27.1.set s27.2.toNat (x80.1, x80.2.1, x80.2.2)) c24) = (Sl a23 ((s27.1.set s27.2.toNat (x80.1, x80.2.1, x80.2.2)).set (w64 (s27.2 - 1)).toNat (x67.1, x67.2.1, x67.2.2)) c24) := sl_len List.length_set.symm
      rw [hsl]; rw [hsl] at H; clear hsl
      refine w_end ?_
      refine q_blk ?_
      refine q_then ?_
      refine rg ?_
      refine st (v := (I s27.2)) (rv_move rfl) ?_
      refine st (v := (I (w64 (s27.2 - 1)))) (rv_sub (a := s27.2) (b := 1) rfl rfl) ?_
      refine st (v := (I (w64 (s27.2 - 1)))) (rv_assign rfl) ?_
      refine w_end ?_
      refine q_then ?_
      obtain rfl := Option.some.inj h
      exact ⟨_, rfl, _, σ108, fr_join ⟨rfl, rfl, rfl, rfl, rfl, rfl, trivial⟩, rfl, H.sel' [4, 5, 0] rfl rfl, (List.length_set.trans (List.length_set.trans hn29))⟩
     ·replace h := bif_f hb66 h
      refine c_exit ?_
      refine q_then_x ?_
      refine q_then_x ?_
      refine q_blk_hit ?_
      obtain rfl := Option.some.inj h
      obtain rfl := hres _ rfl
      exact ⟨rfl, _, σ65, fr_join ⟨rfl, rfl, rfl, rfl, rfl, trivial⟩, rfl, H.sel' [0, 1, 2] rfl rfl, hn29⟩
   ·clear hj
    have h := h'
    clear h' H
    rintro e a w ⟨rfl, ρ, σ109, rfl, rfl, H, hn110⟩
    refine q_blk ?_
    refine q_then ?_
    refine rg ?_
    refine st (v := (I s4.2)) (rv_move rfl) ?_
    refine st (v := (I (w64 (s4.2 + 1)))) (rv_add (a := s4.2) (b := 1) rfl rfl) ?_
    refine st (v := (I (w64 (s4.2 + 1)))) (rv_assign rfl) ?_
    refine w_end ?_
    refine q_then ?_
    obtain rfl := Option.some.inj h
    exact ⟨_, rfl, _, σ109, a23, c24, fr_join ⟨rfl, rfl, rfl, rfl, rfl, trivial⟩, rfl, H.sel' [0, 1, 2] rfl rfl⟩
  ·replace h := bif_f hb8 h
   refine c_exit ?_
   refine q_then_x ?_
   refine q_then_x ?_
   refine q_blk_hit ?_
   obtain rfl := Option.some.inj h
   obtain rfl := hres _ rfl
   exact ⟨rfl, _, σ5, a6, c7, fr_join ⟨rfl, trivial⟩, rfl, H.sel' [2] rfl rfl⟩
 ·clear hj
  have h := h'
  clear h' H
  rintro e a w ⟨rfl, ρ, σ111, a112, c113, rfl, rfl, H⟩
  refine q_then ?_
  refine c_seq ?_
  refine rg ?_
  refine st (v := (Sl a112 o3 c113)) (rv_move rfl) ?_
  refine st (v := (Sl a112 o3 c113)) (rv_assign rfl) ?_
  refine w_end ?_
  refine q_then ?_
  refine c_ret ?_
  obtain rfl := Option.some.inj h
  exact fin_ret (v := (Sl a112 o3 c113)) (results_ok Try.results130 (res_tmp (v := (Sl a112 o3 c113)) rfl res_nil) rfl) ⟨a112, c113, rfl, rfl⟩ (H.sel' [0] rfl rfl)

end Go.Vs
