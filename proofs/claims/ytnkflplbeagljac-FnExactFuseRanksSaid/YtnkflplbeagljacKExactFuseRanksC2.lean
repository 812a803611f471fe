/- The functions compute what their models say. -/
import Derived.Test.YtnkflplbeagljacKExactFuseRanksC1
set_option linter.unusedVariables false
set_option linter.unusedSimpArgs false
set_option maxRecDepth 20000
namespace Go.Vs
open Go Go.Proofs
attribute [local irreducible] Code.wp Code.wpIn wpList wpListIn wpQuiet Calls CallsIn

theorem c_cmp_Compare_int {x_0 : Int} {y_1 : Int}  {r : Int} (h : M.cmp_Compare_int x_0 y_1 = some r) :
    Cal2 Try.prog 63 [(I x_0), (I y_1)] [] (fun n0 v L => v = (I r) ∧ L = []) := by
 refine cal2 (n := 20) Try.func63 rfl rfl rfl rfl ?_
 intro S0 σ0 n0 hn0 H
 unfold M.cmp_Compare_int at h
 refine c_seq ?_
 refine rg ?_
 refine st (v := (I 0)) (rv_assign rfl) ?_
 refine w_end ?_
 refine q_then ?_
 refine c_seq ?_
 refine rg ?_
 refine st (v := (I x_0)) (rv_move rfl) ?_
 obtain ⟨r1, hx2, h'⟩ := bind_some h
 clear h
 have h := h'; clear h'
 have hc3 := c_cmp_isNaN_int hx2
 refine st_call (cx_call hc3 (ent_f hc3.fn rfl) hn0 (show Hp S0 σ0 _ ([] ++ []) from (H.sel' [] rfl rfl))) wn ?_
 rintro _ σ4 ⟨_, ⟨rfl, rfl⟩, H, -⟩
 replace H : Hp S0 σ0 σ4 [] := H
 refine st (v := (B r1)) (rv_assign rfl) ?_
 refine w_end ?_
 refine q_then ?_
 refine c_seq ?_
 refine rg ?_
 refine st (v := (I y_1)) (rv_move rfl) ?_
 obtain ⟨r5, hx6, h'⟩ := bind_some h
 clear h
 have h := h'; clear h'
 have hc7 := c_cmp_isNaN_int hx6
 refine st_call (cx_call hc7 (ent_f hc7.fn rfl) hn0 (show Hp S0 σ0 _ ([] ++ []) from (H.sel' [] rfl rfl))) wn ?_
 rintro _ σ8 ⟨_, ⟨rfl, rfl⟩, H, -⟩
 replace H : Hp S0 σ0 σ8 [] := H
 refine st (v := (B r5)) (rv_assign rfl) ?_
 refine w_end ?_
 refine q_then ?_
 refine c_seq ?_
 refine c_seq ?_
 refine rg ?_
 refine st (v := (B r1)) (rv_move rfl) ?_
 refine w_end ?_
 refine q_then ?_
 refine cd_cond r1 rfl (fun hb9 => ?_) (fun hb9 => ?_)
 ·replace h := bif_t hb9 h
  refine c_seq ?_
  refine c_seq ?_
  refine rg ?_
  refine st (v := (B r5)) (rv_move rfl) ?_
  refine w_end ?_
  refine q_then ?_
  refine cd_cond r5 rfl (fun hb10 => ?_) (fun hb10 => ?_)
  ·replace h := bif_t hb10 h
   refine c_seq ?_
   refine rg ?_
   refine st (v := (I 0)) (rv_assign rfl) ?_
   refine w_end ?_
   refine q_then ?_
   refine c_ret ?_
   refine q_then_r ?_
   refine q_then_r ?_
   obtain rfl := Option.some.inj h
   exact fin_ret (v := (I 0)) (results_ok Try.results63 (res_tmp (v := (I 0)) rfl res_nil) rfl) ⟨rfl, rfl⟩ (H.sel' [] rfl rfl)
  ·replace h := bif_f hb10 h
   refine c_skip ?_
   refine q_then ?_
   refine c_seq ?_
   refine rg ?_
   refine st (v := (I (-1))) (rv_assign rfl) ?_
   refine w_end ?_
   refine q_then ?_
   refine c_ret ?_
   refine q_then_r ?_
   obtain rfl := Option.some.inj h
   exact fin_ret (v := (I (-1))) (results_ok Try.results63 (res_tmp (v := (I (-1))) rfl res_nil) rfl) ⟨rfl, rfl⟩ (H.sel' [] rfl rfl)
 ·replace h := bif_f hb9 h
  refine c_skip ?_
  refine q_then ?_
  refine c_seq ?_
  refine c_seq ?_
  refine rg ?_
  refine st (v := (B r5)) (rv_move rfl) ?_
  refine w_end ?_
  refine q_then ?_
  refine cd_cond r5 rfl (fun hb11 => ?_) (fun hb11 => ?_)
  ·replace h := bif_t hb11 h
   refine c_seq ?_
   refine rg ?_
   refine st (v := (I 1)) (rv_assign rfl) ?_
   refine w_end ?_
   refine q_then ?_
   refine c_ret ?_
   refine q_then_r ?_
   obtain rfl := Option.some.inj h
   exact fin_ret (v := (I 1)) (results_ok Try.results63 (res_tmp (v := (I 1)) rfl res_nil) rfl) ⟨rfl, rfl⟩ (H.sel' [] rfl rfl)
  ·replace h := bif_f hb11 h
   refine c_skip ?_
   refine q_then ?_
   refine c_seq ?_
   refine c_seq ?_
   refine rg ?_
   refine st (v := (I x_0)) (rv_move rfl) ?_
   refine st (v := (I y_1)) (rv_move rfl) ?_
   refine st (v := (B (decide (x_0 < y_1)))) (rv_lss (a := x_0) (b := y_1) rfl rfl) ?_
   refine w_end ?_
   refine q_then ?_
   refine cd_cond (decide (x_0 < y_1)) rfl (fun hb12 => ?_) (fun hb12 => ?_)
   ·replace h := bif_t hb12 h
    refine c_seq ?_
    refine rg ?_
    refine st (v := (I (-1))) (rv_assign rfl) ?_
    refine w_end ?_
    refine q_then ?_
    refine c_ret ?_
    refine q_then_r ?_
    obtain rfl := Option.some.inj h
    exact fin_ret (v := (I (-1))) (results_ok Try.results63 (res_tmp (v := (I (-1))) rfl res_nil) rfl) ⟨rfl, rfl⟩ (H.sel' [] rfl rfl)
   ·replace h := bif_f hb12 h
    refine c_skip ?_
    refine q_then ?_
    refine c_seq ?_
    refine c_seq ?_
    refine rg ?_
    refine st (v := (I x_0)) (rv_move rfl) ?_
    refine st (v := (I y_1)) (rv_move rfl) ?_
    refine st (v := (B (decide (y_1 < x_0)))) (rv_gtr (a := x_0) (b := y_1) rfl rfl) ?_
    refine w_end ?_
    refine q_then ?_
    refine cd_cond (decide (y_1 < x_0)) rfl (fun hb13 => ?_) (fun hb13 => ?_)
    ·replace h := bif_t hb13 h
     refine c_seq ?_
     refine rg ?_
     refine st (v := (I 1)) (rv_assign rfl) ?_
     refine w_end ?_
     refine q_then ?_
     refine c_ret ?_
     refine q_then_r ?_
     obtain rfl := Option.some.inj h
     exact fin_ret (v := (I 1)) (results_ok Try.results63 (res_tmp (v := (I 1)) rfl res_nil) rfl) ⟨rfl, rfl⟩ (H.sel' [] rfl rfl)
    ·replace h := bif_f hb13 h
     refine c_skip ?_
     refine q_then ?_
     refine c_seq ?_
     refine rg ?_
     refine st (v := (I 0)) (rv_assign rfl) ?_
     refine w_end ?_
     refine q_then ?_
     refine c_ret ?_
     obtain rfl := Option.some.inj h
     exact fin_ret (v := (I 0)) (results_ok Try.results63 (res_tmp (v := (I 0)) rfl res_nil) rfl) ⟨rfl, rfl⟩ (H.sel' [] rfl rfl)

theorem c_impl_compareHits {a_0 : Int × Int} {b_1 : Int × Int}  {r : Int} (h : M.impl_compareHits a_0 b_1 = some r) :
    Cal2 Try.prog 49 [(.agg #[(I a_0.1), (I a_0.2)]), (.agg #[(I b_1.1), (I b_1.2)])] [] (fun n0 v L => v = (I r) ∧ L = []) := by
 refine cal2 (n := 17) Try.func49 rfl rfl rfl rfl ?_
 intro S0 σ0 n0 hn0 H
 unfold M.impl_compareHits at h
 refine c_seq ?_
 refine rg ?_
 refine st_ex (ex_box (cs := [(I a_0.1), (I a_0.2)]) H hn0 rfl rfl) wn ?_
 rintro _ σ2 ⟨b1, rfl, H, -⟩
 refine st_ex (ex_box (cs := [(I b_1.1), (I b_1.2)]) H hn0 rfl rfl) wn ?_
 rintro _ σ4 ⟨b3, rfl, H, -⟩
 refine st (v := (I 0)) (rv_assign rfl) ?_
 refine w_end ?_
 refine q_then ?_
 refine c_seq ?_
 have hc5 := H.cell (u := (I a_0.2)) (o' := 1) 1 1 rfl rfl rfl
 have hc6 := H.cell (u := (I b_1.2)) (o' := 1) 0 1 rfl rfl rfl
 obtain ⟨r7, hx8, h'⟩ := bind_some h
 clear h
 have h := h'; clear h'
 have hc9 := c_cmp_Compare_int hx8
 have hc10 := H.cell (u := (I a_0.1)) (o' := 0) 1 0 rfl rfl rfl
 have hc11 := H.cell (u := (I b_1.1)) (o' := 0) 0 0 rfl rfl rfl
 have Hs := H
 refine rg2 (σ := σ4) (Nm := Unit) 9 [4] [[false], [true]] [[(0, 0)], [(0, 0)], [(0, 0)], [(0, 0)], [(0, 1)], [(0, 0), (1, 1)], [(0, 0), (1, 1)], [(0, 0), (1, 1)], [(0, 0), (1, 1)]] 1 [fun _ => fun σm => Hp S0 σ0 σm [Ch.bx n0 b3 0 [(I b_1.1), (I b_1.2)] [] [], Ch.bx n0 b1 0 [(I a_0.1), (I a_0.2)] [] []] ∧ Md (cov []) σ4 σm, fun _ => fun σm => Hp S0 σ0 σm [Ch.bx n0 b3 0 [(I b_1.1), (I b_1.2)] [] [], Ch.bx n0 b1 0 [(I a_0.1), (I a_0.2)] [] []] ∧ Md (cov []) σ4 σm] [fun _ => (pt b1 1), fun _ => (I a_0.2), fun _ => (pt b3 1), fun _ => (I b_1.2), fun _ => (I r7), fun _ => (pt b1 0), fun _ => (I a_0.1), fun _ => (pt b3 0), fun _ => (I b_1.1)] () (by kernel_rfl) (by kernel_rfl) ?_ ?_ ?_
 ·intro σm m0
  exact ⟨H.grow (m0.mono fun _ h => h.elim), m0⟩
 ·refine ac rfl (by
    intro k _nm ρ σm hJ hoff hdep
    have e2 := look_off (N := 17) (hoff 2 rfl) rfl
    exact dp_v (v := (pt b1 1)) wn (rv_fieldAddr (off := 1) (ft := 3) Try.underlying58 rfl ti3 rfl e2) rfl hJ) ?_
  refine all_cons (by
    refine ⟨?_, ?_⟩
    ·intro _nm ρ σm hJ hoff hdep
     have e5 := hdep 0 rfl rfl 5 rfl
     obtain ⟨H, m⟩ := id hJ
     have hc5 := H.cell (u := (I a_0.2)) (o' := 1) 1 1 rfl rfl rfl
     exact dp_v (v := (I a_0.2)) wn (rv_load1 Try.underlying3 rfl e5 hc5) rfl hJ
    trivial) ?_
  refine ac rfl (by
    intro k _nm ρ σm hJ hoff hdep
    have e3 := look_off (N := 17) (hoff 3 rfl) rfl
    exact dp_v (v := (pt b3 1)) wn (rv_fieldAddr (off := 1) (ft := 3) Try.underlying58 rfl ti3 rfl e3) rfl hJ) ?_
  refine all_cons (by
    refine ⟨?_, ?_⟩
    ·intro _nm ρ σm hJ hoff hdep
     have e7 := hdep 2 rfl rfl 7 rfl
     obtain ⟨H, m⟩ := id hJ
     have hc6 := H.cell (u := (I b_1.2)) (o' := 1) 0 1 rfl rfl rfl
     exact dp_v (v := (I b_1.2)) wn (rv_load1 Try.underlying3 rfl e7 hc6) rfl hJ
    trivial) ?_
  refine all_cons (by
    refine ⟨?_, ?_⟩
    ·intro _nm ρ σm hJ hoff hdep
     have e6 : look 17 ρ 6 = (I a_0.2) := hdep 1 rfl rfl 6 rfl
     have e8 : look 17 ρ 8 = (I b_1.2) := hdep 3 rfl rfl 8 rfl
     obtain ⟨H, m⟩ := id hJ
     refine dp_cx wn (cx_call hc9 (ent_f hc9.fn (by show [look 17 ρ 6, look 17 ρ 8] = _; rw [e6, e8])) hn0 (show Hp S0 σ0 _ ([] ++ [Ch.bx n0 b3 0 [(I b_1.1), (I b_1.2)] [] [], Ch.bx n0 b1 0 [(I a_0.1), (I a_0.2)] [] []]) from (H.sel' [0, 1] rfl rfl))) ?_
     rintro _ σq ⟨_, ⟨rfl, rfl⟩, H2, m2⟩
     exact ⟨_, (), rfl, rfl, ⟨H2.sel' [0, 1] rfl rfl, m.comp0 m2⟩, stab [0, 1, 2, 3, 5, 6, 7, 8] (by kernel_rfl) ⟨rfl, rfl, rfl, rfl, rfl, rfl, rfl, rfl, trivial⟩⟩
    trivial) ?_
  refine ac rfl (by
    intro k _nm ρ σm hJ hoff hdep
    have e2 := look_off (N := 17) (hoff 2 rfl) rfl
    exact dp_v (v := (pt b1 0)) wn (rv_fieldAddr (off := 0) (ft := 3) Try.underlying58 rfl ti3 rfl e2) rfl hJ) ?_
  refine all_cons (by
    refine ⟨?_, ?_⟩
    ·intro _nm ρ σm hJ hoff hdep
     have e10 := hdep 5 rfl rfl 10 rfl
     obtain ⟨H, m⟩ := id hJ
     have hc10 := H.cell (u := (I a_0.1)) (o' := 0) 1 0 rfl rfl rfl
     exact dp_v (v := (I a_0.1)) wn (rv_load1 Try.underlying3 rfl e10 hc10) rfl hJ
    refine ⟨?_, ?_⟩
    ·intro _nm ρ σm hJ hoff hdep
     have e10 := hdep 5 rfl rfl 10 rfl
     obtain ⟨H, m⟩ := id hJ
     have hc10 := H.cell (u := (I a_0.1)) (o' := 0) 1 0 rfl rfl rfl
     exact dp_v (v := (I a_0.1)) wn (rv_load1 Try.underlying3 rfl e10 hc10) rfl hJ
    trivial) ?_
  refine ac rfl (by
    intro k _nm ρ σm hJ hoff hdep
    have e3 := look_off (N := 17) (hoff 3 rfl) rfl
    exact dp_v (v := (pt b3 0)) wn (rv_fieldAddr (off := 0) (ft := 3) Try.underlying58 rfl ti3 rfl e3) rfl hJ) ?_
  refine all_cons (by
    refine ⟨?_, ?_⟩
    ·intro _nm ρ σm hJ hoff hdep
     have e12 := hdep 7 rfl rfl 12 rfl
     obtain ⟨H, m⟩ := id hJ
     have hc11 := H.cell (u := (I b_1.1)) (o' := 0) 0 0 rfl rfl rfl
     exact dp_v (v := (I b_1.1)) wn (rv_load1 Try.underlying3 rfl e12 hc11) rfl hJ
    refine ⟨?_, ?_⟩
    ·intro _nm ρ σm hJ hoff hdep
     have e12 := hdep 7 rfl rfl 12 rfl
     obtain ⟨H, m⟩ := id hJ
     have hc11 := H.cell (u := (I b_1.1)) (o' := 0) 0 0 rfl rfl rfl
     exact dp_v (v := (I b_1.1)) wn (rv_load1 Try.underlying3 rfl e12 hc11) rfl hJ
    trivial) ?_
  exact all_nil
 ·intro _nm ρ σ12 hJ hoff hrel
  have e9 := hrel 4 rfl 9 rfl
  have e11 := hrel 6 rfl 11 rfl
  have e13 := hrel 8 rfl 13 rfl
  obtain ⟨H, -⟩ := (show Hp S0 σ0 σ12 [Ch.bx n0 b3 0 [(I b_1.1), (I b_1.2)] [] [], Ch.bx n0 b1 0 [(I a_0.1), (I a_0.2)] [] []] ∧ Md (cov []) σ4 σ12 from hJ)
  clear hJ Hs
  rw [fr_lookL (L := [(9, (I r7)), (11, (I a_0.1)), (13, (I b_1.1))]) ⟨e9, e11, e13, trivial⟩]
  clear hoff hrel e9 e11 e13
  obtain ⟨r13, hx14, h'⟩ := bind_some h
  clear h
  have h := h'; clear h'
  have hc15 := c_cmp_Compare_int hx14
  refine st_call (cx_call hc15 (ent_f hc15.fn rfl) hn0 (show Hp S0 σ0 _ ([] ++ [Ch.bx n0 b3 0 [(I b_1.1), (I b_1.2)] [] [], Ch.bx n0 b1 0 [(I a_0.1), (I a_0.2)] [] []]) from (H.sel' [0, 1] rfl rfl))) wn ?_
  rintro _ σ16 ⟨_, ⟨rfl, rfl⟩, H, -⟩
  replace H : Hp S0 σ0 σ16 [Ch.bx n0 b3 0 [(I b_1.1), (I b_1.2)] [] [], Ch.bx n0 b1 0 [(I a_0.1), (I a_0.2)] [] []] := H
  refine st_ex (ex_buildSlice (el := n0) (xs := ([r7, r13] : List Int)) (ps := [(0, (I r7)), (1, (I r13))]) (cs := [(I r7), (I r13)]) H hn0 Try.underlying37 ti3 rfl rfl (by kernel_rfl) (.cons (c := [(I r7)]) rfl (.cons (c := [(I r13)]) rfl (.nil))) rfl) wn ?_
  rintro _ σ18 ⟨b17, rfl, H, -⟩
  obtain ⟨σ19, hw20, H, -⟩ := H.pub 0 rfl (Nat.le_refl _)
  rw [← hw20]; clear hw20
  replace H := H.roLow 0 0 rfl (Nat.zero_le _)
  obtain ⟨r21, hx22, h'⟩ := bind_some h
  clear h
  have h := h'; clear h'
  have hc23 := c_cmp_Or_int (avals_0 := (some ⟨b17, 0, none⟩)) (cvals_0 := 2) hx22
  refine st_call (cx_call hc23 (ent_f hc23.fn rfl) hn0 (show Hp S0 σ0 _ ([Ch.ro 0 (Sl (some ⟨b17, 0, none⟩) ([r7, r13] : List Int) 2) ([r7, r13] : List Int)] ++ [Ch.ro 0 (Sl (some ⟨b17, 0, none⟩) ([r7, r13] : List Int) 2) ([r7, r13] : List Int), Ch.ro n0 (Sl (some ⟨b17, 0, none⟩) ([r7, r13] : List Int) 2) ([r7, r13] : List Int), Ch.bx n0 b3 0 [(I b_1.1), (I b_1.2)] [] [], Ch.bx n0 b1 0 [(I a_0.1), (I a_0.2)] [] []]) from (H.sel' [0, 0, 1, 2, 3] rfl rfl))) wn ?_
  rintro _ σ24 ⟨_, ⟨rfl, rfl⟩, H, -⟩
  replace H : Hp S0 σ0 σ24 [Ch.ro 0 (Sl (some ⟨b17, 0, none⟩) ([r7, r13] : List Int) 2) ([r7, r13] : List Int), Ch.ro n0 (Sl (some ⟨b17, 0, none⟩) ([r7, r13] : List Int) 2) ([r7, r13] : List Int), Ch.bx n0 b3 0 [(I b_1.1), (I b_1.2)] [] [], Ch.bx n0 b1 0 [(I a_0.1), (I a_0.2)] [] []] := H
  refine st (v := (I r21)) (rv_assign rfl) ?_
  refine w_end ?_
  refine q_then ?_
  refine c_ret ?_
  obtain rfl := Option.some.inj h
  exact fin_ret (v := (I r21)) (results_ok Try.results49 (res_tmp (v := (I r21)) rfl res_nil) rfl) ⟨rfl, rfl⟩ (H.sel' [] rfl rfl)

theorem c_impl_placeIn_1__p3 {h_0 : Int × Int} {p_1 : Int} {lop_1 bp_1 op_1 : Nat} {prep_1 sufp_1 : List Value} {r : Bool} (h : M.impl_placeIn_1__p3 h_0 p_1 = some r) :
    Cal2 Try.prog 74 [(.agg #[(I h_0.1), (I h_0.2)]), (pt bp_1 op_1)] [Ch.bx lop_1 bp_1 op_1 [(I p_1)] prep_1 sufp_1] (fun n0 v L => v = (B r) ∧ L = [Ch.bx lop_1 bp_1 op_1 [(I p_1)] prep_1 sufp_1]) := by
 refine cal2 (n := 8) Try.func74 rfl rfl rfl rfl ?_
 intro S0 σ0 n0 hn0 H
 unfold M.impl_placeIn_1__p3 at h
 refine c_seq ?_
 refine rg ?_
 refine st_ex (ex_box (cs := [(I h_0.1), (I h_0.2)]) H hn0 rfl rfl) wn ?_
 rintro _ σ2 ⟨b1, rfl, H, -⟩
 refine st (v := (B false)) (rv_assign rfl) ?_
 refine w_end ?_
 refine q_then ?_
 refine c_seq ?_
 refine rg ?_
 refine st (v := (pt b1 0)) (rv_fieldAddr (off := 0) (ft := 3) Try.underlying58 rfl ti3 rfl rfl) ?_
 have hc3 := H.cell (u := (I h_0.1)) (o' := 0) 0 0 rfl rfl rfl
 refine st (v := (I h_0.1)) (rv_load1 Try.underlying3 rfl rfl hc3) ?_
 have hc4 := H.cell (u := (I p_1)) (o' := op_1) 1 0 rfl rfl rfl
 refine st (v := (I p_1)) (rv_load1 Try.underlying3 rfl rfl hc4) ?_
 refine st (v := (B (h_0.1 == p_1))) (rv_eql (a := h_0.1) (b := p_1) rfl rfl) ?_
 refine st (v := (B (h_0.1 == p_1))) (rv_assign rfl) ?_
 refine w_end ?_
 refine q_then ?_
 refine c_ret ?_
 obtain rfl := Option.some.inj h
 exact fin_ret (v := (B (h_0.1 == p_1))) (results_ok Try.results74 (res_tmp (v := (B (h_0.1 == p_1))) rfl res_nil) rfl) ⟨rfl, rfl⟩ (H.sel' [1] rfl rfl)

theorem c_slices_IndexFunc_impl_Hit_impl_Hit__impl_placeIn_1 {s_0 : List (Int × Int)} {f_1_0 : Int} {as_0 : Option Addr} {cs_0 : Nat} {lof_1_0 bf_1_0 of_1_0 : Nat} {pref_1_0 suff_1_0 : List Value} {r : Int} (h : M.slices_IndexFunc_impl_Hit_impl_Hit__impl_placeIn_1 s_0 f_1_0 = some r) :
    Cal2 Try.prog 73 [(Sl as_0 s_0 cs_0), (.func (.func 74) #[] #[(pt bf_1_0 of_1_0)])] [Ch.ro 0 (Sl as_0 s_0 cs_0) s_0, Ch.bx lof_1_0 bf_1_0 of_1_0 [(I f_1_0)] pref_1_0 suff_1_0] (fun n0 v L => v = (I r) ∧ L = [Ch.bx lof_1_0 bf_1_0 of_1_0 [(I f_1_0)] pref_1_0 suff_1_0]) := by
 refine cal2 (n := 19) Try.func73 rfl rfl rfl rfl ?_
 intro S0 σ0 n0 hn0 H
 unfold M.slices_IndexFunc_impl_Hit_impl_Hit__impl_placeIn_1 at h
 refine c_seq ?_
 refine rg ?_
 refine st (v := (I 0)) (rv_assign rfl) ?_
 refine w_end ?_
 refine q_then ?_
 refine c_seq ?_
 refine c_seq ?_
 refine rg ?_
 refine st (v := (Sl as_0 s_0 cs_0)) (rv_move rfl) ?_
 refine st (v := (I (s_0.length : Int))) (rv_len Try.underlying29 rfl) ?_
 refine st (v := (I 0)) (rv_move rfl) ?_
 refine w_end ?_
 refine q_then ?_
 obtain ⟨o1, hj, h'⟩ := bind_some h
 clear h
 refine c_cut (fun e a w => (∃ t, o1 = (.inl t) ∧ e = .normal ∧ ∃ (ρ : Nat → Value) (σ : St), a = fr 19 (updL ρ [(1, (.func (.func 74) #[] #[(pt bf_1_0 of_1_0)]))]) ∧ w = σ.w ∧ Hp S0 σ0 σ [Ch.bx lof_1_0 bf_1_0 of_1_0 [(I f_1_0)] pref_1_0 suff_1_0]) ∨ (∃ t, o1 = (.inr t) ∧ e = .ret ∧ ∃ (ρ : Nat → Value) (σ : St), a = fr 19 (updL ρ [(1, (.func (.func 74) #[] #[(pt bf_1_0 of_1_0)])), (4, (I t))]) ∧ w = σ.w ∧ Hp S0 σ0 σ [Ch.bx lof_1_0 bf_1_0 of_1_0 [(I f_1_0)] pref_1_0 suff_1_0])) ?_ ?_
 ·clear h'
  rename _ = some o1 => h
  refine c_blk ?_
  refine wp_loopM _ h (fun s2 a w => ∃ (ρ : Nat → Value) (σ : St), a = fr 19 (updL ρ [(0, (Sl as_0 s_0 cs_0)), (1, (.func (.func 74) #[] #[(pt bf_1_0 of_1_0)])), (7, (I (s_0.length : Int))), (8, (I s2))]) ∧ w = σ.w ∧ Hp S0 σ0 σ [Ch.ro 0 (Sl as_0 s_0 cs_0) s_0, Ch.bx lof_1_0 bf_1_0 of_1_0 [(I f_1_0)] pref_1_0 suff_1_0]) ⟨_, σ0, fr_join ⟨rfl, rfl, rfl, rfl, trivial⟩, rfl, H.sel' [0, 1] rfl rfl⟩ ?_
  clear h H
  rintro s2 a w o ⟨ρ, σ3, rfl, rfl, H⟩ h hres
  refine c_seq ?_
  refine rg ?_
  refine st (v := (B (decide (s2 < (s_0.length : Int))))) (rv_lss (a := s2) (b := (s_0.length : Int)) rfl rfl) ?_
  refine w_end ?_
  refine q_then ?_
  refine c_seq ?_
  refine cd_cond (decide (s2 < (s_0.length : Int))) rfl (fun hb4 => ?_) (fun hb4 => ?_)
  ·replace h := bif_t hb4 h
   refine c_skip ?_
   refine q_then ?_
   refine c_seq ?_
   refine c_blk ?_
   refine c_seq ?_
   refine rg ?_
   refine st (v := (I s2)) (rv_move rfl) ?_
   refine st (v := (I s2)) (rv_assign rfl) ?_
   refine w_end ?_
   refine q_then ?_
   refine c_seq ?_
   refine rg ?_
   refine st (v := (.func (.func 74) #[] #[(pt bf_1_0 of_1_0)])) (rv_move rfl) ?_
   refine st (v := (Sl as_0 s_0 cs_0)) (rv_move rfl) ?_
   refine st (v := (I s2)) (rv_move rfl) ?_
   obtain ⟨x5, hx6, h'⟩ := bind_some h
   clear h
   have h := h'; clear h'
   obtain ⟨b8, o9, hi7, -⟩ := (H.ro 0 rfl).ix hx6
   refine st (v := (pt b8 o9)) (rv_ix Try.underlying29 ti58 rfl rfl hi7) ?_
   obtain ⟨_, ⟨_, _, rfl, rfl, rfl⟩, hl10, hc11⟩ := ((H.ro 0 rfl).at hx6 hi7).cells
   refine st (v := (.agg #[(I x5.1), (I x5.2)])) (rv_load Try.underlying58 rfl ti58 rfl hl10 hc11) ?_
   obtain ⟨r12, hx13, h'⟩ := bind_some h
   clear h
   have h := h'; clear h'
   have hc14 := c_impl_placeIn_1__p3 (lop_1 := lof_1_0) (bp_1 := bf_1_0) (op_1 := of_1_0) (prep_1 := pref_1_0) (sufp_1 := suff_1_0) hx13
   refine st_call (cx_call hc14 (ent_v (cap := [(pt bf_1_0 of_1_0)]) hc14.fn rfl rfl) hn0 (show Hp S0 σ0 _ ([Ch.bx lof_1_0 bf_1_0 of_1_0 [(I f_1_0)] pref_1_0 suff_1_0] ++ [Ch.ro 0 (Sl as_0 s_0 cs_0) s_0]) from (H.sel' [1, 0] rfl rfl))) wn ?_
   rintro _ σ15 ⟨_, ⟨rfl, rfl⟩, H, -⟩
   replace H : Hp S0 σ0 σ15 [Ch.bx lof_1_0 bf_1_0 of_1_0 [(I f_1_0)] pref_1_0 suff_1_0, Ch.ro 0 (Sl as_0 s_0 cs_0) s_0] := H
   refine w_end ?_
   refine q_then ?_
   refine cd_cond r12 rfl (fun hb16 => ?_) (fun hb16 => ?_)
   ·replace h := bif_t hb16 h
    refine c_seq ?_
    refine rg ?_
    refine st (v := (I s2)) (rv_move rfl) ?_
    refine st (v := (I s2)) (rv_assign rfl) ?_
    refine w_end ?_
    refine q_then ?_
    refine c_ret ?_
    refine q_blk_r ?_
    refine q_then_r ?_
    refine q_then_r ?_
    refine q_blk_r ?_
    obtain rfl := Option.some.inj h
    obtain rfl := hres _ rfl
    exact .inr (⟨_, rfl, rfl, _, σ15, fr_join ⟨rfl, rfl, trivial⟩, rfl, H.sel' [0] rfl rfl⟩)
   ·replace h := bif_f hb16 h
    refine c_skip ?_
    refine q_blk ?_
    refine q_then ?_
    refine rg ?_
    refine st (v := (I (w64 (s2 + 1)))) (rv_add (a := s2) (b := 1) rfl rfl) ?_
    refine st (v := (I (w64 (s2 + 1)))) (rv_move rfl) ?_
    refine w_end ?_
    refine q_then ?_
    obtain rfl := Option.some.inj h
    exact ⟨_, rfl, _, σ15, fr_join ⟨rfl, rfl, rfl, rfl, trivial⟩, rfl, H.sel' [1, 0] rfl rfl⟩
  ·replace h := bif_f hb4 h
   refine c_exit ?_
   refine q_then_x ?_
   refine q_then_x ?_
   refine q_blk_hit ?_
   obtain rfl := Option.some.inj h
   obtain rfl := hres _ rfl
   exact .inl ⟨_, rfl, rfl, _, σ3, fr_join ⟨rfl, trivial⟩, rfl, H.sel' [1] rfl rfl⟩
 ·clear hj
  have h := h'
  clear h' H
  rintro e a w (⟨t17, rfl, rfl, ρ, σ18, rfl, rfl, H⟩ | ⟨t19, rfl, rfl, ρ, σ20, rfl, rfl, H⟩)
  ·replace h := selim_l h
   refine q_then ?_
   refine c_seq ?_
   refine rg ?_
   refine st (v := (I (-1))) (rv_assign rfl) ?_
   refine w_end ?_
   refine q_then ?_
   refine c_ret ?_
   obtain rfl := Option.some.inj h
   exact fin_ret (v := (I (-1))) (results_ok Try.results73 (res_tmp (v := (I (-1))) rfl res_nil) rfl) ⟨rfl, rfl⟩ (H.sel' [0] rfl rfl)
  ·replace h := selim_r h
   refine q_then_r ?_
   obtain rfl := Option.some.inj h
   exact fin_ret (v := (I t19)) (results_ok Try.results73 (res_tmp (v := (I t19)) rfl res_nil) rfl) ⟨rfl, rfl⟩ (H.sel' [0] rfl rfl)

theorem c_impl_placeIn {list_0 : List (Int × Int)} {key_1 : Int} {alist_0 : Option Addr} {clist_0 : Nat} {r : Int} (h : M.impl_placeIn list_0 key_1 = some r) :
    Cal2 Try.prog 50 [(Sl alist_0 list_0 clist_0), (I key_1)] [Ch.ro 0 (Sl alist_0 list_0 clist_0) list_0] (fun n0 v L => v = (I r) ∧ L = []) := by
 refine cal2 (n := 8) Try.func50 rfl rfl rfl rfl ?_
 intro S0 σ0 n0 hn0 H
 unfold M.impl_placeIn at h
 refine c_seq ?_
 refine rg ?_
 refine st_ex (ex_box (cs := [(I key_1)]) H hn0 rfl rfl) wn ?_
 rintro _ σ2 ⟨b1, rfl, H, -⟩
 refine st (v := (I 0)) (rv_assign rfl) ?_
 refine w_end ?_
 refine q_then ?_
 refine c_seq ?_
 refine rg ?_
 refine st (v := (Sl alist_0 list_0 clist_0)) (rv_move rfl) ?_
 refine st (v := (.func (.func 74) #[] #[(pt b1 0)])) (rv_makeFunc (vs := [(pt b1 0)]) rfl) ?_
 obtain ⟨r3, hx4, h'⟩ := bind_some h
 clear h
 have h := h'; clear h'
 have hc5 := c_slices_IndexFunc_impl_Hit_impl_Hit__impl_placeIn_1 (as_0 := alist_0) (cs_0 := clist_0) (lof_1_0 := n0) (bf_1_0 := b1) (of_1_0 := 0) (pref_1_0 := []) (suff_1_0 := []) hx4
 refine st_call (cx_call hc5 (ent_f hc5.fn rfl) hn0 (show Hp S0 σ0 _ ([Ch.ro 0 (Sl alist_0 list_0 clist_0) list_0, Ch.bx n0 b1 0 [(I key_1)] [] []] ++ [Ch.ro 0 (Sl alist_0 list_0 clist_0) list_0]) from (H.sel' [1, 0, 1] rfl rfl))) wn ?_
 rintro _ σ6 ⟨_, ⟨rfl, rfl⟩, H, -⟩
 replace H : Hp S0 σ0 σ6 [Ch.bx n0 b1 0 [(I key_1)] [] [], Ch.ro 0 (Sl alist_0 list_0 clist_0) list_0] := H
 refine st (v := (I r3)) (rv_assign rfl) ?_
 refine w_end ?_
 refine q_then ?_
 refine c_ret ?_
 obtain rfl := Option.some.inj h
 exact fin_ret (v := (I r3)) (results_ok Try.results50 (res_tmp (v := (I r3)) rfl res_nil) rfl) ⟨rfl, rfl⟩ (H.sel' [] rfl rfl)

theorem c_impl_ValidHits {list_0 : List (Int × Int)} {alist_0 : Option Addr} {clist_0 : Nat} {r : Bool} (h : M.impl_ValidHits list_0 = some r) :
    Cal2 Try.prog 17 [(Sl alist_0 list_0 clist_0)] [Ch.ro 0 (Sl alist_0 list_0 clist_0) list_0] (fun n0 v L => v = (B r) ∧ L = []) := by
 refine cal2 (n := 40) Try.func17 rfl rfl rfl rfl ?_
 intro S0 σ0 n0 hn0 H
 unfold M.impl_ValidHits at h
 refine c_seq ?_
 refine rg ?_
 refine st (v := (B false)) (rv_assign rfl) ?_
 refine w_end ?_
 refine q_then ?_
 refine c_seq ?_
 refine c_seq ?_
 refine rg ?_
 refine st (v := (Sl alist_0 list_0 clist_0)) (rv_move rfl) ?_
 refine st (v := (I (list_0.length : Int))) (rv_len Try.underlying29 rfl) ?_
 refine st (v := (B (decide (16 < (list_0.length : Int))))) (rv_gtr (a := (list_0.length : Int)) (b := 16) rfl rfl) ?_
 refine w_end ?_
 refine q_then ?_
 refine cd_cond (decide (16 < (list_0.length : Int))) rfl (fun hb1 => ?_) (fun hb1 => ?_)
 ·replace h := bif_t hb1 h
  refine c_seq ?_
  refine rg ?_
  refine st (v := (B false)) (rv_assign rfl) ?_
  refine w_end ?_
  refine q_then ?_
  refine c_ret ?_
  refine q_then_r ?_
  obtain rfl := Option.some.inj h
  exact fin_ret (v := (B false)) (results_ok Try.results17 (res_tmp (v := (B false)) rfl res_nil) rfl) ⟨rfl, rfl⟩ (H.sel' [] rfl rfl)
 ·replace h := bif_f hb1 h
  refine c_skip ?_
  refine q_then ?_
  refine c_seq ?_
  refine c_seq ?_
  refine rg ?_
  refine st (v := (Sl alist_0 list_0 clist_0)) (rv_move rfl) ?_
  refine st (v := (I (list_0.length : Int))) (rv_len Try.underlying29 rfl) ?_
  refine st (v := (I 0)) (rv_move rfl) ?_
  refine w_end ?_
  refine q_then ?_
  obtain ⟨o2, hj, h'⟩ := bind_some h
  clear h
  refine c_cut (fun e a w => (∃ t, o2 = (.inl t) ∧ e = .normal ∧ ∃ (ρ : Nat → Value) (σ : St), a = fr 40 (updL ρ []) ∧ w = σ.w ∧ Hp S0 σ0 σ []) ∨ (∃ t, o2 = (.inr t) ∧ e = .ret ∧ ∃ (ρ : Nat → Value) (σ : St), a = fr 40 (updL ρ [(2, (B t))]) ∧ w = σ.w ∧ Hp S0 σ0 σ [])) ?_ ?_
  ·clear h'
   rename _ = some o2 => h
   refine c_blk ?_
   refine wp_loopM _ h (fun s3 a w => ∃ (ρ : Nat → Value) (σ : St), a = fr 40 (updL ρ [(0, (Sl alist_0 list_0 clist_0)), (8, (Sl alist_0 list_0 clist_0)), (9, (I (list_0.length : Int))), (10, (I s3))]) ∧ w = σ.w ∧ Hp S0 σ0 σ [Ch.ro 0 (Sl alist_0 list_0 clist_0) list_0]) ⟨_, σ0, fr_join ⟨rfl, rfl, rfl, rfl, trivial⟩, rfl, H.sel' [0] rfl rfl⟩ ?_
   clear h H
   rintro s3 a w o ⟨ρ, σ4, rfl, rfl, H⟩ h hres
   refine c_seq ?_
   refine rg ?_
   refine st (v := (B (decide (s3 < (list_0.length : Int))))) (rv_lss (a := s3) (b := (list_0.length : Int)) rfl rfl) ?_
   refine w_end ?_
   refine q_then ?_
   refine c_seq ?_
   refine cd_cond (decide (s3 < (list_0.length : Int))) rfl (fun hb5 => ?_) (fun hb5 => ?_)
   ·replace h := bif_t hb5 h
    refine c_skip ?_
    refine q_then ?_
    refine c_seq ?_
    refine c_blk ?_
    refine c_seq ?_
    refine rg ?_
    refine st (v := (I s3)) (rv_move rfl) ?_
    obtain ⟨x6, hx7, h'⟩ := bind_some h
    clear h
    have h := h'; clear h'
    obtain ⟨b9, o10, hi8, -⟩ := (H.ro 0 rfl).ix hx7
    refine st (v := (pt b9 o10)) (rv_ix Try.underlying29 ti58 rfl rfl hi8) ?_
    obtain ⟨_, ⟨_, _, rfl, rfl, rfl⟩, hl11, hc12⟩ := ((H.ro 0 rfl).at hx7 hi8).cells
    refine st (v := (.agg #[(I x6.1), (I x6.2)])) (rv_load Try.underlying58 rfl ti58 rfl hl11 hc12) ?_
    refine st_ex (ex_alloc (cs := [(I 0), (I 0)]) H hn0 ti58 rfl) wn ?_
    rintro _ σ14 ⟨b13, rfl, H, -⟩
    refine st (v := (I s3)) (rv_assign rfl) ?_
    refine st_exS (ex_store_box (k := 0) (cs := [(I 0), (I 0)]) (vs := [(I x6.1), (I x6.2)]) (cs' := [(I x6.1), (I x6.2)]) H (i := 0) rfl ti58 rfl rfl rfl rfl rfl (Nat.le_of_ble_eq_true rfl) (by simp [plain]) rfl) wn ?_
    rintro σ15 ⟨H, -⟩
    refine w_end ?_
    refine q_then ?_
    refine c_seq ?_
    refine c_seq ?_
    obtain ⟨o16, hj, h'⟩ := bind_some h
    clear h
    refine c_cut (fun e a w => e = .normal ∧ ∃ (ρ : Nat → Value) (σ : St), a = fr 40 (updL ρ [(0, (Sl alist_0 list_0 clist_0)), (3, (I s3)), (4, (pt b13 0)), (8, (Sl alist_0 list_0 clist_0)), (9, (I (list_0.length : Int))), (10, (I s3)), (31, (B o16))]) ∧ w = σ.w ∧ Hp S0 σ0 σ [Ch.ro 0 (Sl alist_0 list_0 clist_0) list_0, Ch.bx n0 b13 0 [(I x6.1), (I x6.2)] [] []]) ?_ ?_
    ·clear h'
     rename _ = some o16 => h
     have hc17 := H.cells 0 rfl
     obtain ⟨r18, hx19, h'⟩ := bind_some h
     clear h
     have h := h'; clear h'
     have hc20 := c_impl_validHit hx19
     rcases Bool.eq_false_or_eq_true (!r18) with hb21 | hb21
     ·replace h := bif_t hb21 h
      have Hs := H
      refine rg2 (σ := σ15) (Nm := Unit) 13 [1] [[false], [true]] [[(0, 0)], [(0, 1)], [(1, 1)], [(1, 1)], [(1, 1)], [(1, 1)], [(1, 1)], [(1, 1)], [(1, 1)], [(1, 1)], [(1, 1)], [(1, 1)], [(1, 1)]] 1 [fun _ => fun σm => Hp S0 σ0 σm [Ch.bx n0 b13 0 [(I x6.1), (I x6.2)] [] [], Ch.ro 0 (Sl alist_0 list_0 clist_0) list_0] ∧ Md (cov []) σ15 σm, fun _ => fun σm => Hp S0 σ0 σm [Ch.bx n0 b13 0 [(I x6.1), (I x6.2)] [] [], Ch.ro 0 (Sl alist_0 list_0 clist_0) list_0] ∧ Md (cov []) σ15 σm] [fun _ => (.agg #[(I x6.1), (I x6.2)]), fun _ => (B r18), fun _ => (B (!r18)), fun _ => (B (!r18)), fun _ => undef, fun _ => undef, fun _ => undef, fun _ => undef, fun _ => undef, fun _ => undef, fun _ => undef, fun _ => undef, fun _ => undef] () (by kernel_rfl) (by kernel_rfl) ?_ ?_ ?_
      ·intro σm m0
       exact ⟨H.grow (m0.mono fun _ h => h.elim), m0⟩
      ·refine all_cons (by
         refine ⟨?_, ?_⟩
         ·intro _nm ρ σm hJ hoff hdep
          have e4 := look_off (N := 40) (hoff 4 rfl) rfl
          obtain ⟨H, m⟩ := id hJ
          have hc17 := H.cells 0 rfl
          exact dp_v (v := (.agg #[(I x6.1), (I x6.2)])) wn (rv_load (cs := [(I x6.1), (I x6.2)]) Try.underlying58 rfl ti58 e4 rfl hc17) rfl hJ
         trivial) ?_
       refine all_cons (by
         refine ⟨?_, ?_⟩
         ·intro _nm ρ σm hJ hoff hdep
          have e15 : look 40 ρ 15 = (.agg #[(I x6.1), (I x6.2)]) := hdep 0 rfl rfl 15 rfl
          obtain ⟨H, m⟩ := id hJ
          refine dp_cx wn (cx_call hc20 (ent_f hc20.fn (by show [look 40 ρ 15] = _; rw [e15])) hn0 (show Hp S0 σ0 _ ([] ++ [Ch.bx n0 b13 0 [(I x6.1), (I x6.2)] [] [], Ch.ro 0 (Sl alist_0 list_0 clist_0) list_0]) from (H.sel' [0, 1] rfl rfl))) ?_
          rintro _ σq ⟨_, ⟨rfl, rfl⟩, H2, m2⟩
          exact ⟨_, (), rfl, rfl, ⟨H2.sel' [0, 1] rfl rfl, m.comp0 m2⟩, stab [0] (by kernel_rfl) ⟨rfl, trivial⟩⟩
         trivial) ?_
       refine ac rfl (by
         intro k _nm ρ σm hJ hoff hdep
         have e16 := hdep 1 rfl rfl 16 rfl
         exact dp_v (v := (B (!r18))) wn (rv_not e16) rfl hJ) ?_
       refine ac rfl (by
         intro k _nm ρ σm hJ hoff hdep
         have e17 := hdep 2 rfl rfl 17 rfl
         exact dp_v (v := (B (!r18))) wn (rv_move e17) rfl hJ) ?_
       refine ac rfl (by
         intro k _nm ρ σm hJ hoff hdep
         have e18 := hdep 3 rfl rfl 18 rfl
         exact dp_skip (wanted_no rfl (yv_of rfl (e18.trans (congrArg B hb21)))) rfl hJ) ?_
       refine ac rfl (by
         intro k _nm ρ σm hJ hoff hdep
         have e18 := hdep 3 rfl rfl 18 rfl
         exact dp_skip (wanted_no rfl (yv_of rfl (e18.trans (congrArg B hb21)))) rfl hJ) ?_
       refine ac rfl (by
         intro k _nm ρ σm hJ hoff hdep
         have e18 := hdep 3 rfl rfl 18 rfl
         exact dp_skip (wanted_no rfl (yv_of rfl (e18.trans (congrArg B hb21)))) rfl hJ) ?_
       refine ac rfl (by
         intro k _nm ρ σm hJ hoff hdep
         have e21 := hdep 6 rfl rfl 21 rfl
         exact dp_skip (wanted_u rfl (yv_undef rfl e21)) rfl hJ) ?_
       refine ac rfl (by
         intro k _nm ρ σm hJ hoff hdep
         have e21 := hdep 6 rfl rfl 21 rfl
         exact dp_skip (wanted_u rfl (yv_undef rfl e21)) rfl hJ) ?_
       refine ac rfl (by
         intro k _nm ρ σm hJ hoff hdep
         have e21 := hdep 6 rfl rfl 21 rfl
         exact dp_skip (wanted_u rfl (yv_undef rfl e21)) rfl hJ) ?_
       refine ac rfl (by
         intro k _nm ρ σm hJ hoff hdep
         have e21 := hdep 6 rfl rfl 21 rfl
         exact dp_skip (wanted_u rfl (yv_undef rfl e21)) rfl hJ) ?_
       refine ac rfl (by
         intro k _nm ρ σm hJ hoff hdep
         have e21 := hdep 6 rfl rfl 21 rfl
         exact dp_skip (wanted_u rfl (yv_undef rfl e21)) rfl hJ) ?_
       refine ac rfl (by
         intro k _nm ρ σm hJ hoff hdep
         have e21 := hdep 6 rfl rfl 21 rfl
         exact dp_skip (wanted_u rfl (yv_undef rfl e21)) rfl hJ) ?_
       exact all_nil
      ·intro _nm ρ σ22 hJ hoff hrel
       have e0 := look_off (N := 40) (hoff 0 rfl) rfl
       have e3 := look_off (N := 40) (hoff 3 rfl) rfl
       have e4 := look_off (N := 40) (hoff 4 rfl) rfl
       have e8 := look_off (N := 40) (hoff 8 rfl) rfl
       have e9 := look_off (N := 40) (hoff 9 rfl) rfl
       have e10 := look_off (N := 40) (hoff 10 rfl) rfl
       have e18 := hrel 3 rfl 18 rfl
       have e21 := hrel 6 rfl 21 rfl
       have e26 := hrel 11 rfl 26 rfl
       have e27 := hrel 12 rfl 27 rfl
       obtain ⟨H, -⟩ := (show Hp S0 σ0 σ22 [Ch.bx n0 b13 0 [(I x6.1), (I x6.2)] [] [], Ch.ro 0 (Sl alist_0 list_0 clist_0) list_0] ∧ Md (cov []) σ15 σ22 from hJ)
       clear hJ Hs
       rw [fr_lookL (L := [(0, (Sl alist_0 list_0 clist_0)), (3, (I s3)), (4, (pt b13 0)), (8, (Sl alist_0 list_0 clist_0)), (9, (I (list_0.length : Int))), (10, (I s3)), (18, (B (!r18))), (21, undef), (26, undef), (27, undef)]) ⟨e0, e3, e4, e8, e9, e10, e18, e21, e26, e27, trivial⟩]
       clear hoff hrel e0 e3 e4 e8 e9 e10 e18 e21 e26 e27
       refine st_skip_u rfl ?_
       refine st_skip_u rfl ?_
       refine st_skip (congrArg some hb21) ?_
       refine st (v := (B true)) (rv_pick_t (congrArg B hb21) rfl) ?_
       refine w_end ?_
       obtain rfl := Option.some.inj h
       exact ⟨rfl, _, σ22, fr_join ⟨rfl, rfl, rfl, rfl, rfl, rfl, rfl, trivial⟩, rfl, H.sel' [1, 0] rfl rfl⟩
     ·replace h := bif_f hb21 h
      rcases Bool.eq_false_or_eq_true (decide (0 < s3)) with hb23 | hb23
      ·replace h := bif_t hb23 h
       obtain ⟨x24, hx25, h'⟩ := bind_some h
       clear h
       have h := h'; clear h'
       obtain ⟨b27, o28, hi26, -⟩ := (H.ro 1 rfl).ix hx25
       obtain ⟨_, ⟨_, _, rfl, rfl, rfl⟩, hl29, hc30⟩ := ((H.ro 1 rfl).at hx25 hi26).cells
       have hc31 := H.cells 0 rfl
       have Hs := H
       refine rg2 (σ := σ15) (Nm := Unit) 13 [1] [[false], [true]] [[(0, 0)], [(0, 1)], [(1, 1)], [(1, 1)], [(1, 1)], [(1, 1)], [(1, 1)], [(1, 1)], [(1, 1)], [(1, 1)], [(1, 1)], [(1, 1)], [(1, 1)]] 1 [fun _ => fun σm => Hp S0 σ0 σm [Ch.bx n0 b13 0 [(I x6.1), (I x6.2)] [] [], Ch.ro 0 (Sl alist_0 list_0 clist_0) list_0] ∧ Md (cov []) σ15 σm, fun _ => fun σm => Hp S0 σ0 σm [Ch.bx n0 b13 0 [(I x6.1), (I x6.2)] [] [], Ch.ro 0 (Sl alist_0 list_0 clist_0) list_0] ∧ Md (cov []) σ15 σm] [fun _ => (.agg #[(I x6.1), (I x6.2)]), fun _ => (B r18), fun _ => (B (!r18)), fun _ => (B (!r18)), fun _ => (I s3), fun _ => (B (decide (0 < s3))), fun _ => (B (decide (0 < s3))), fun _ => (Sl alist_0 list_0 clist_0), fun _ => (I s3), fun _ => (I (w64 (s3 - 1))), fun _ => (pt b27 o28), fun _ => (.agg #[(I x24.1), (I x24.2)]), fun _ => (.agg #[(I x6.1), (I x6.2)])] () (by kernel_rfl) (by kernel_rfl) ?_ ?_ ?_
       ·intro σm m0
        exact ⟨H.grow (m0.mono fun _ h => h.elim), m0⟩
       ·refine all_cons (by
          refine ⟨?_, ?_⟩
          ·intro _nm ρ σm hJ hoff hdep
           have e4 := look_off (N := 40) (hoff 4 rfl) rfl
           obtain ⟨H, m⟩ := id hJ
           have hc17 := H.cells 0 rfl
           exact dp_v (v := (.agg #[(I x6.1), (I x6.2)])) wn (rv_load (cs := [(I x6.1), (I x6.2)]) Try.underlying58 rfl ti58 e4 rfl hc17) rfl hJ
          trivial) ?_
        refine all_cons (by
          refine ⟨?_, ?_⟩
          ·intro _nm ρ σm hJ hoff hdep
           have e15 : look 40 ρ 15 = (.agg #[(I x6.1), (I x6.2)]) := hdep 0 rfl rfl 15 rfl
           obtain ⟨H, m⟩ := id hJ
           refine dp_cx wn (cx_call hc20 (ent_f hc20.fn (by show [look 40 ρ 15] = _; rw [e15])) hn0 (show Hp S0 σ0 _ ([] ++ [Ch.bx n0 b13 0 [(I x6.1), (I x6.2)] [] [], Ch.ro 0 (Sl alist_0 list_0 clist_0) list_0]) from (H.sel' [0, 1] rfl rfl))) ?_
           rintro _ σq ⟨_, ⟨rfl, rfl⟩, H2, m2⟩
           exact ⟨_, (), rfl, rfl, ⟨H2.sel' [0, 1] rfl rfl, m.comp0 m2⟩, stab [0] (by kernel_rfl) ⟨rfl, trivial⟩⟩
          trivial) ?_
        refine ac rfl (by
          intro k _nm ρ σm hJ hoff hdep
          have e16 := hdep 1 rfl rfl 16 rfl
          exact dp_v (v := (B (!r18))) wn (rv_not e16) rfl hJ) ?_
        refine ac rfl (by
          intro k _nm ρ σm hJ hoff hdep
          have e17 := hdep 2 rfl rfl 17 rfl
          exact dp_v (v := (B (!r18))) wn (rv_move e17) rfl hJ) ?_
        refine ac rfl (by
          intro k _nm ρ σm hJ hoff hdep
          have e3 := look_off (N := 40) (hoff 3 rfl) rfl
          have e18 := hdep 3 rfl rfl 18 rfl
          exact dp_v (v := (I s3)) (wanted_yes rfl (yv_of rfl (e18.trans (congrArg B hb21)))) (rv_move e3) rfl hJ) ?_
        refine ac rfl (by
          intro k _nm ρ σm hJ hoff hdep
          have e19 := hdep 4 rfl rfl 19 rfl
          have e18 := hdep 3 rfl rfl 18 rfl
          exact dp_v (v := (B (decide (0 < s3)))) (wanted_yes rfl (yv_of rfl (e18.trans (congrArg B hb21)))) (rv_gtr (a := s3) (b := 0) e19 rfl) rfl hJ) ?_
        refine ac rfl (by
          intro k _nm ρ σm hJ hoff hdep
          have e20 := hdep 5 rfl rfl 20 rfl
          have e18 := hdep 3 rfl rfl 18 rfl
          exact dp_v (v := (B (decide (0 < s3)))) (wanted_yes rfl (yv_of rfl (e18.trans (congrArg B hb21)))) (rv_move e20) rfl hJ) ?_
        refine ac rfl (by
          intro k _nm ρ σm hJ hoff hdep
          have e0 := look_off (N := 40) (hoff 0 rfl) rfl
          have e21 := hdep 6 rfl rfl 21 rfl
          exact dp_v (v := (Sl alist_0 list_0 clist_0)) (wanted_yes rfl (yv_of rfl (e21.trans (congrArg B hb23)))) (rv_move e0) rfl hJ) ?_
        refine ac rfl (by
          intro k _nm ρ σm hJ hoff hdep
          have e3 := look_off (N := 40) (hoff 3 rfl) rfl
          have e21 := hdep 6 rfl rfl 21 rfl
          exact dp_v (v := (I s3)) (wanted_yes rfl (yv_of rfl (e21.trans (congrArg B hb23)))) (rv_move e3) rfl hJ) ?_
        refine ac rfl (by
          intro k _nm ρ σm hJ hoff hdep
          have e23 := hdep 8 rfl rfl 23 rfl
          have e21 := hdep 6 rfl rfl 21 rfl
          exact dp_v (v := (I (w64 (s3 - 1)))) (wanted_yes rfl (yv_of rfl (e21.trans (congrArg B hb23)))) (rv_sub (a := s3) (b := 1) e23 rfl) rfl hJ) ?_
        refine ac rfl (by
          intro k _nm ρ σm hJ hoff hdep
          have e22 := hdep 7 rfl rfl 22 rfl
          have e24 := hdep 9 rfl rfl 24 rfl
          have e21 := hdep 6 rfl rfl 21 rfl
          exact dp_v (v := (pt b27 o28)) (wanted_yes rfl (yv_of rfl (e21.trans (congrArg B hb23)))) (rv_ix Try.underlying29 ti58 e22 e24 hi26) rfl hJ) ?_
        refine all_cons (by
          refine ⟨?_, ?_⟩
          ·intro _nm ρ σm hJ hoff hdep
           have e25 := hdep 10 rfl rfl 25 rfl
           have e21 := hdep 6 rfl rfl 21 rfl
           obtain ⟨H, m⟩ := id hJ
           replace hc30 := fun j hj => (Hs.ro 1 rfl).hmd hx25 hi26 (k := j) (Nat.lt_of_lt_of_eq hj hl29) (hc30 j hj) m
           exact dp_v (v := (.agg #[(I x24.1), (I x24.2)])) (wanted_yes rfl (yv_of rfl (e21.trans (congrArg B hb23)))) (rv_load Try.underlying58 rfl ti58 e25 hl29 hc30) rfl hJ
          trivial) ?_
        refine all_cons (by
          refine ⟨?_, ?_⟩
          ·intro _nm ρ σm hJ hoff hdep
           have e4 := look_off (N := 40) (hoff 4 rfl) rfl
           have e21 := hdep 6 rfl rfl 21 rfl
           obtain ⟨H, m⟩ := id hJ
           have hc31 := H.cells 0 rfl
           exact dp_v (v := (.agg #[(I x6.1), (I x6.2)])) (wanted_yes rfl (yv_of rfl (e21.trans (congrArg B hb23)))) (rv_load (cs := [(I x6.1), (I x6.2)]) Try.underlying58 rfl ti58 e4 rfl hc31) rfl hJ
          trivial) ?_
        exact all_nil
       ·intro _nm ρ σ32 hJ hoff hrel
        have e0 := look_off (N := 40) (hoff 0 rfl) rfl
        have e3 := look_off (N := 40) (hoff 3 rfl) rfl
        have e4 := look_off (N := 40) (hoff 4 rfl) rfl
        have e8 := look_off (N := 40) (hoff 8 rfl) rfl
        have e9 := look_off (N := 40) (hoff 9 rfl) rfl
        have e10 := look_off (N := 40) (hoff 10 rfl) rfl
        have e18 := hrel 3 rfl 18 rfl
        have e21 := hrel 6 rfl 21 rfl
        have e26 := hrel 11 rfl 26 rfl
        have e27 := hrel 12 rfl 27 rfl
        obtain ⟨H, -⟩ := (show Hp S0 σ0 σ32 [Ch.bx n0 b13 0 [(I x6.1), (I x6.2)] [] [], Ch.ro 0 (Sl alist_0 list_0 clist_0) list_0] ∧ Md (cov []) σ15 σ32 from hJ)
        clear hJ Hs
        rw [fr_lookL (L := [(0, (Sl alist_0 list_0 clist_0)), (3, (I s3)), (4, (pt b13 0)), (8, (Sl alist_0 list_0 clist_0)), (9, (I (list_0.length : Int))), (10, (I s3)), (18, (B (!r18))), (21, (B (decide (0 < s3)))), (26, (.agg #[(I x24.1), (I x24.2)])), (27, (.agg #[(I x6.1), (I x6.2)]))]) ⟨e0, e3, e4, e8, e9, e10, e18, e21, e26, e27, trivial⟩]
        clear hoff hrel e0 e3 e4 e8 e9 e10 e18 e21 e26 e27
        obtain ⟨r33, hx34, h'⟩ := bind_some h
        clear h
        have h := h'; clear h'
        have hc35 := c_impl_compareHits hx34
        refine st_call (cx_call hc35 (ent_f hc35.fn rfl) hn0 (show Hp S0 σ0 _ ([] ++ [Ch.bx n0 b13 0 [(I x6.1), (I x6.2)] [] [], Ch.ro 0 (Sl alist_0 list_0 clist_0) list_0]) from (H.sel' [0, 1] rfl rfl))) (wanted_yes rfl (by exact (congrArg some hb23))) ?_
        rintro _ σ36 ⟨_, ⟨rfl, rfl⟩, H, -⟩
        replace H : Hp S0 σ0 σ36 [Ch.bx n0 b13 0 [(I x6.1), (I x6.2)] [] [], Ch.ro 0 (Sl alist_0 list_0 clist_0) list_0] := H
        refine st_g (v := (B (decide (0 ≤ r33)))) (congrArg some hb23) (rv_geq (a := r33) (b := 0) rfl rfl) ?_
        refine st_g (v := (B (decide (0 ≤ r33)))) (congrArg some hb21) (rv_pick_t (congrArg B hb23) rfl) ?_
        refine st (v := (B (decide (0 ≤ r33)))) (rv_pick_f (congrArg B hb21) rfl) ?_
        refine w_end ?_
        obtain rfl := Option.some.inj h
        exact ⟨rfl, _, σ36, fr_join ⟨rfl, rfl, rfl, rfl, rfl, rfl, rfl, trivial⟩, rfl, H.sel' [1, 0] rfl rfl⟩
      ·replace h := bif_f hb23 h
       have Hs := H
       refine rg2 (σ := σ15) (Nm := Unit) 13 [1] [[false], [true]] [[(0, 0)], [(0, 1)], [(1, 1)], [(1, 1)], [(1, 1)], [(1, 1)], [(1, 1)], [(1, 1)], [(1, 1)], [(1, 1)], [(1, 1)], [(1, 1)], [(1, 1)]] 1 [fun _ => fun σm => Hp S0 σ0 σm [Ch.bx n0 b13 0 [(I x6.1), (I x6.2)] [] [], Ch.ro 0 (Sl alist_0 list_0 clist_0) list_0] ∧ Md (cov []) σ15 σm, fun _ => fun σm => Hp S0 σ0 σm [Ch.bx n0 b13 0 [(I x6.1), (I x6.2)] [] [], Ch.ro 0 (Sl alist_0 list_0 clist_0) list_0] ∧ Md (cov []) σ15 σm] [fun _ => (.agg #[(I x6.1), (I x6.2)]), fun _ => (B r18), fun _ => (B (!r18)), fun _ => (B (!r18)), fun _ => (I s3), fun _ => (B (decide (0 < s3))), fun _ => (B (decide (0 < s3))), fun _ => undef, fun _ => undef, fun _ => undef, fun _ => undef, fun _ => undef, fun _ => undef] () (by kernel_rfl) (by kernel_rfl) ?_ ?_ ?_
       ·intro σm m0
        exact ⟨H.grow (m0.mono fun _ h => h.elim), m0⟩
       ·refine all_cons (by
          refine ⟨?_, ?_⟩
          ·intro _nm ρ σm hJ hoff hdep
           have e4 := look_off (N := 40) (hoff 4 rfl) rfl
           obtain ⟨H, m⟩ := id hJ
           have hc17 := H.cells 0 rfl
           exact dp_v (v := (.agg #[(I x6.1), (I x6.2)])) wn (rv_load (cs := [(I x6.1), (I x6.2)]) Try.underlying58 rfl ti58 e4 rfl hc17) rfl hJ
          trivial) ?_
        refine all_cons (by
          refine ⟨?_, ?_⟩
          ·intro _nm ρ σm hJ hoff hdep
           have e15 : look 40 ρ 15 = (.agg #[(I x6.1), (I x6.2)]) := hdep 0 rfl rfl 15 rfl
           obtain ⟨H, m⟩ := id hJ
           refine dp_cx wn (cx_call hc20 (ent_f hc20.fn (by show [look 40 ρ 15] = _; rw [e15])) hn0 (show Hp S0 σ0 _ ([] ++ [Ch.bx n0 b13 0 [(I x6.1), (I x6.2)] [] [], Ch.ro 0 (Sl alist_0 list_0 clist_0) list_0]) from (H.sel' [0, 1] rfl rfl))) ?_
           rintro _ σq ⟨_, ⟨rfl, rfl⟩, H2, m2⟩
           exact ⟨_, (), rfl, rfl, ⟨H2.sel' [0, 1] rfl rfl, m.comp0 m2⟩, stab [0] (by kernel_rfl) ⟨rfl, trivial⟩⟩
          trivial) ?_
        refine ac rfl (by
          intro k _nm ρ σm hJ hoff hdep
          have e16 := hdep 1 rfl rfl 16 rfl
          exact dp_v (v := (B (!r18))) wn (rv_not e16) rfl hJ) ?_
        refine ac rfl (by
          intro k _nm ρ σm hJ hoff hdep
          have e17 := hdep 2 rfl rfl 17 rfl
          exact dp_v (v := (B (!r18))) wn (rv_move e17) rfl hJ) ?_
        refine ac rfl (by
          intro k _nm ρ σm hJ hoff hdep
          have e3 := look_off (N := 40) (hoff 3 rfl) rfl
          have e18 := hdep 3 rfl rfl 18 rfl
          exact dp_v (v := (I s3)) (wanted_yes rfl (yv_of rfl (e18.trans (congrArg B hb21)))) (rv_move e3) rfl hJ) ?_
        refine ac rfl (by
          intro k _nm ρ σm hJ hoff hdep
          have e19 := hdep 4 rfl rfl 19 rfl
          have e18 := hdep 3 rfl rfl 18 rfl
          exact dp_v (v := (B (decide (0 < s3)))) (wanted_yes rfl (yv_of rfl (e18.trans (congrArg B hb21)))) (rv_gtr (a := s3) (b := 0) e19 rfl) rfl hJ) ?_
        refine ac rfl (by
          intro k _nm ρ σm hJ hoff hdep
          have e20 := hdep 5 rfl rfl 20 rfl
          have e18 := hdep 3 rfl rfl 18 rfl
          exact dp_v (v := (B (decide (0 < s3)))) (wanted_yes rfl (yv_of rfl (e18.trans (congrArg B hb21)))) (rv_move e20) rfl hJ) ?_
        refine ac rfl (by
          intro k _nm ρ σm hJ hoff hdep
          have e21 := hdep 6 rfl rfl 21 rfl
          exact dp_skip (wanted_no rfl (yv_of rfl (e21.trans (congrArg B hb23)))) rfl hJ) ?_
        refine ac rfl (by
          intro k _nm ρ σm hJ hoff hdep
          have e21 := hdep 6 rfl rfl 21 rfl
          exact dp_skip (wanted_no rfl (yv_of rfl (e21.trans (congrArg B hb23)))) rfl hJ) ?_
        refine ac rfl (by
          intro k _nm ρ σm hJ hoff hdep
          have e21 := hdep 6 rfl rfl 21 rfl
          exact dp_skip (wanted_no rfl (yv_of rfl (e21.trans (congrArg B hb23)))) rfl hJ) ?_
        refine ac rfl (by
          intro k _nm ρ σm hJ hoff hdep
          have e21 := hdep 6 rfl rfl 21 rfl
          exact dp_skip (wanted_no rfl (yv_of rfl (e21.trans (congrArg B hb23)))) rfl hJ) ?_
        refine ac rfl (by
          intro k _nm ρ σm hJ hoff hdep
          have e21 := hdep 6 rfl rfl 21 rfl
          exact dp_skip (wanted_no rfl (yv_of rfl (e21.trans (congrArg B hb23)))) rfl hJ) ?_
        refine ac rfl (by
          intro k _nm ρ σm hJ hoff hdep
          have e21 := hdep 6 rfl rfl 21 rfl
          exact dp_skip (wanted_no rfl (yv_of rfl (e21.trans (congrArg B hb23)))) rfl hJ) ?_
        exact all_nil
       ·intro _nm ρ σ37 hJ hoff hrel
        have e0 := look_off (N := 40) (hoff 0 rfl) rfl
        have e3 := look_off (N := 40) (hoff 3 rfl) rfl
        have e4 := look_off (N := 40) (hoff 4 rfl) rfl
        have e8 := look_off (N := 40) (hoff 8 rfl) rfl
        have e9 := look_off (N := 40) (hoff 9 rfl) rfl
        have e10 := look_off (N := 40) (hoff 10 rfl) rfl
        have e18 := hrel 3 rfl 18 rfl
        have e21 := hrel 6 rfl 21 rfl
        have e26 := hrel 11 rfl 26 rfl
        have e27 := hrel 12 rfl 27 rfl
        obtain ⟨H, -⟩ := (show Hp S0 σ0 σ37 [Ch.bx n0 b13 0 [(I x6.1), (I x6.2)] [] [], Ch.ro 0 (Sl alist_0 list_0 clist_0) list_0] ∧ Md (cov []) σ15 σ37 from hJ)
        clear hJ Hs
        rw [fr_lookL (L := [(0, (Sl alist_0 list_0 clist_0)), (3, (I s3)), (4, (pt b13 0)), (8, (Sl alist_0 list_0 clist_0)), (9, (I (list_0.length : Int))), (10, (I s3)), (18, (B (!r18))), (21, (B (decide (0 < s3)))), (26, undef), (27, undef)]) ⟨e0, e3, e4, e8, e9, e10, e18, e21, e26, e27, trivial⟩]
        clear hoff hrel e0 e3 e4 e8 e9 e10 e18 e21 e26 e27
        refine st_skip (congrArg some hb23) ?_
        refine st_skip (congrArg some hb23) ?_
        refine st_g (v := (B false)) (congrArg some hb21) (rv_pick_f (congrArg B hb23) rfl) ?_
        refine st (v := (B false)) (rv_pick_f (congrArg B hb21) rfl) ?_
        refine w_end ?_
        obtain rfl := Option.some.inj h
        exact ⟨rfl, _, σ37, fr_join ⟨rfl, rfl, rfl, rfl, rfl, rfl, rfl, trivial⟩, rfl, H.sel' [1, 0] rfl rfl⟩
    ·clear hj
     have h := h'
     clear h' H
     rintro e a w ⟨rfl, ρ, σ38, rfl, rfl, H⟩
     refine q_then ?_
     refine cd_cond o16 rfl (fun hb39 => ?_) (fun hb39 => ?_)
     ·replace h := bif_t hb39 h
      refine c_seq ?_
      refine rg ?_
      refine st (v := (B false)) (rv_assign rfl) ?_
      refine w_end ?_
      refine q_then ?_
      refine c_ret ?_
      refine q_then_r ?_
      refine q_blk_r ?_
      refine q_then_r ?_
      refine q_then_r ?_
      refine q_blk_r ?_
      obtain rfl := Option.some.inj h
      obtain rfl := hres _ rfl
      exact .inr (⟨_, rfl, rfl, _, σ38, fr_join ⟨rfl, trivial⟩, rfl, H.sel' [] rfl rfl⟩)
     ·replace h := bif_f hb39 h
      refine c_skip ?_
      refine q_then ?_
      refine c_seq ?_
      refine rgP (σ := σ38) 5 (by kernel_rfl) (by kernel_rfl) (by kernel_rfl) ?_
      refine sq (v := (Sl alist_0 list_0 clist_0)) (rv_move rfl) ?_
      refine sq (v := (I s3)) (rv_move rfl) ?_
      obtain ⟨xs40, hx41, h'⟩ := bind_some h
      clear h
      have h := h'; clear h'
      obtain ⟨a42, c43, hs44, hR45⟩ := (H.ro 0 rfl).slice hx41
      replace H := H.add (d := Ch.ro 0 (Sl a42 xs40 c43) xs40) hR45 (fun _ h => h)
      clear hR45
      refine sq (v := (Sl a42 xs40 c43)) (rv_slice_h Try.underlying29 ti58 hs44 rfl rfl) ?_
      refine sq (v := (pt b13 0)) (rv_fieldAddr (off := 0) (ft := 3) Try.underlying58 rfl ti3 rfl rfl) ?_
      have hc46 := H.cell (u := (I x6.1)) (o' := 0) 2 0 rfl rfl rfl
      refine sq (v := (I x6.1)) (rv_load1 Try.underlying3 rfl rfl hc46) ?_
      refine sq_end ?_
      intro σ47 hm48
      replace H := H.grow (hm48.mono fun _ h => h); clear hm48
      obtain ⟨r49, hx50, h'⟩ := bind_some h
      clear h
      have h := h'; clear h'
      have hc51 := c_impl_placeIn (alist_0 := a42) (clist_0 := c43) hx50
      refine st_call (cx_call hc51 (ent_f hc51.fn rfl) hn0 (show Hp S0 σ0 _ ([Ch.ro 0 (Sl a42 xs40 c43) xs40] ++ [Ch.ro 0 (Sl a42 xs40 c43) xs40, Ch.ro 0 (Sl alist_0 list_0 clist_0) list_0, Ch.bx n0 b13 0 [(I x6.1), (I x6.2)] [] []]) from (H.sel' [0, 0, 1, 2] rfl rfl))) wn ?_
      rintro _ σ52 ⟨_, ⟨rfl, rfl⟩, H, -⟩
      replace H : Hp S0 σ0 σ52 [Ch.ro 0 (Sl a42 xs40 c43) xs40, Ch.ro 0 (Sl alist_0 list_0 clist_0) list_0, Ch.bx n0 b13 0 [(I x6.1), (I x6.2)] [] []] := H
      refine st (v := (B (decide (0 ≤ r49)))) (rv_geq (a := r49) (b := 0) rfl rfl) ?_
      refine w_end ?_
      refine q_then ?_
      refine cd_cond (decide (0 ≤ r49)) rfl (fun hb53 => ?_) (fun hb53 => ?_)
      ·replace h := bif_t hb53 h
       refine c_seq ?_
       refine rg ?_
       refine st (v := (B false)) (rv_assign rfl) ?_
       refine w_end ?_
       refine q_then ?_
       refine c_ret ?_
       refine q_blk_r ?_
       refine q_then_r ?_
       refine q_then_r ?_
       refine q_blk_r ?_
       obtain rfl := Option.some.inj h
       obtain rfl := hres _ rfl
       exact .inr (⟨_, rfl, rfl, _, σ52, fr_join ⟨rfl, trivial⟩, rfl, H.sel' [] rfl rfl⟩)
      ·replace h := bif_f hb53 h
       refine c_skip ?_
       refine q_blk ?_
       refine q_then ?_
       refine rg ?_
       refine st (v := (I (w64 (s3 + 1)))) (rv_add (a := s3) (b := 1) rfl rfl) ?_
       refine st (v := (I (w64 (s3 + 1)))) (rv_move rfl) ?_
       refine w_end ?_
       refine q_then ?_
       obtain rfl := Option.some.inj h
       exact ⟨_, rfl, _, σ52, fr_join ⟨rfl, rfl, rfl, rfl, trivial⟩, rfl, H.sel' [1] rfl rfl⟩
   ·replace h := bif_f hb5 h
    refine c_exit ?_
    refine q_then_x ?_
    refine q_then_x ?_
    refine q_blk_hit ?_
    obtain rfl := Option.some.inj h
    obtain rfl := hres _ rfl
    exact .inl ⟨_, rfl, rfl, _, σ4, fr_join trivial, rfl, H.sel' [] rfl rfl⟩
  ·clear hj
   have h := h'
   clear h' H
   rintro e a w (⟨t54, rfl, rfl, ρ, σ55, rfl, rfl, H⟩ | ⟨t56, rfl, rfl, ρ, σ57, rfl, rfl, H⟩)
   ·replace h := selim_l h
    refine q_then ?_
    refine c_seq ?_
    refine rg ?_
    refine st (v := (B true)) (rv_assign rfl) ?_
    refine w_end ?_
    refine q_then ?_
    refine c_ret ?_
    obtain rfl := Option.some.inj h
    exact fin_ret (v := (B true)) (results_ok Try.results17 (res_tmp (v := (B true)) rfl res_nil) rfl) ⟨rfl, rfl⟩ (H.sel' [] rfl rfl)
   ·replace h := selim_r h
    refine q_then_r ?_
    obtain rfl := Option.some.inj h
    exact fin_ret (v := (B t56)) (results_ok Try.results17 (res_tmp (v := (B t56)) rfl res_nil) rfl) ⟨rfl, rfl⟩ (H.sel' [] rfl rfl)

theorem c_impl_RankScore {list_0 : List (Int × Int)} {key_1 : Int} {alist_0 : Option Addr} {clist_0 : Nat} {r : Int} (h : M.impl_RankScore list_0 key_1 = some r) :
    Cal2 Try.prog 24 [(Sl alist_0 list_0 clist_0), (I key_1)] [Ch.ro 0 (Sl alist_0 list_0 clist_0) list_0] (fun n0 v L => v = (I r) ∧ L = []) := by
 refine cal2 (n := 18) Try.func24 rfl rfl rfl rfl ?_
 intro S0 σ0 n0 hn0 H
 unfold M.impl_RankScore at h
 refine c_seq ?_
 refine rg ?_
 refine st (v := (I 0)) (rv_assign rfl) ?_
 refine w_end ?_
 refine q_then ?_
 refine c_seq ?_
 refine c_seq ?_
 refine rg ?_
 refine st (v := (Sl alist_0 list_0 clist_0)) (rv_move rfl) ?_
 obtain ⟨r1, hx2, h'⟩ := bind_some h
 clear h
 have h := h'; clear h'
 have hc3 := c_impl_ValidHits (alist_0 := alist_0) (clist_0 := clist_0) hx2
 refine st_call (cx_call hc3 (ent_f hc3.fn rfl) hn0 (show Hp S0 σ0 _ ([Ch.ro 0 (Sl alist_0 list_0 clist_0) list_0] ++ [Ch.ro 0 (Sl alist_0 list_0 clist_0) list_0]) from (H.sel' [0, 0] rfl rfl))) wn ?_
 rintro _ σ4 ⟨_, ⟨rfl, rfl⟩, H, -⟩
 replace H : Hp S0 σ0 σ4 [Ch.ro 0 (Sl alist_0 list_0 clist_0) list_0] := H
 refine st (v := (B (!r1))) (rv_not rfl) ?_
 refine w_end ?_
 refine q_then ?_
 refine cd_cond (!r1) rfl (fun hb5 => ?_) (fun hb5 => ?_)
 ·replace h := bif_t hb5 h
  refine c_seq ?_
  refine rg ?_
  refine st (v := (I (-1))) (rv_assign rfl) ?_
  refine w_end ?_
  refine q_then ?_
  refine c_ret ?_
  refine q_then_r ?_
  obtain rfl := Option.some.inj h
  exact fin_ret (v := (I (-1))) (results_ok Try.results24 (res_tmp (v := (I (-1))) rfl res_nil) rfl) ⟨rfl, rfl⟩ (H.sel' [] rfl rfl)
 ·replace h := bif_f hb5 h
  refine c_skip ?_
  refine q_then ?_
  refine c_seq ?_
  refine rg ?_
  refine st (v := (Sl alist_0 list_0 clist_0)) (rv_move rfl) ?_
  refine st (v := (I key_1)) (rv_move rfl) ?_
  obtain ⟨r6, hx7, h'⟩ := bind_some h
  clear h
  have h := h'; clear h'
  have hc8 := c_impl_placeIn (alist_0 := alist_0) (clist_0 := clist_0) hx7
  refine st_call (cx_call hc8 (ent_f hc8.fn rfl) hn0 (show Hp S0 σ0 _ ([Ch.ro 0 (Sl alist_0 list_0 clist_0) list_0] ++ [Ch.ro 0 (Sl alist_0 list_0 clist_0) list_0]) from (H.sel' [0, 0] rfl rfl))) wn ?_
  rintro _ σ9 ⟨_, ⟨rfl, rfl⟩, H, -⟩
  replace H : Hp S0 σ0 σ9 [Ch.ro 0 (Sl alist_0 list_0 clist_0) list_0] := H
  refine st (v := (I r6)) (rv_assign rfl) ?_
  refine w_end ?_
  refine q_then ?_
  refine c_seq ?_
  refine c_seq ?_
  refine rg ?_
  refine st (v := (I r6)) (rv_move rfl) ?_
  refine st (v := (B (decide (r6 < 0)))) (rv_lss (a := r6) (b := 0) rfl rfl) ?_
  refine w_end ?_
  refine q_then ?_
  refine cd_cond (decide (r6 < 0)) rfl (fun hb10 => ?_) (fun hb10 => ?_)
  ·replace h := bif_t hb10 h
   refine c_seq ?_
   refine rg ?_
   refine st (v := (I 0)) (rv_assign rfl) ?_
   refine w_end ?_
   refine q_then ?_
   refine c_ret ?_
   refine q_then_r ?_
   obtain rfl := Option.some.inj h
   exact fin_ret (v := (I 0)) (results_ok Try.results24 (res_tmp (v := (I 0)) rfl res_nil) rfl) ⟨rfl, rfl⟩ (H.sel' [] rfl rfl)
  ·replace h := bif_f hb10 h
   refine c_skip ?_
   refine q_then ?_
   refine c_seq ?_
   refine rg ?_
   refine st (v := (I r6)) (rv_move rfl) ?_
   refine st (v := (I (w64 (60 + r6)))) (rv_add (a := 60) (b := r6) rfl rfl) ?_
   refine st (v := (I (w64 ((w64 (60 + r6)) + 1)))) (rv_add (a := (w64 (60 + r6))) (b := 1) rfl rfl) ?_
   obtain ⟨q11, hx12, h'⟩ := bind_some h
   clear h
   have h := h'; clear h'
   refine st (v := (I q11)) (rv_quoG (a := 100000) (b := (w64 ((w64 (60 + r6)) + 1))) hx12 rfl rfl) ?_
   refine st (v := (I q11)) (rv_assign rfl) ?_
   refine w_end ?_
   refine q_then ?_
   refine c_ret ?_
   obtain rfl := Option.some.inj h
   exact fin_ret (v := (I q11)) (results_ok Try.results24 (res_tmp (v := (I q11)) rfl res_nil) rfl) ⟨rfl, rfl⟩ (H.sel' [] rfl rfl)

theorem c_slices_Grow_impl_Hit_impl_Hit {s_0 : List (Int × Int)} {n_1 : Int} {as_0 : Option Addr} {cs_0 : Nat} (hts_0 : cs_0 = s_0.length) {r : (List (Int × Int))} (h : M.slices_Grow_impl_Hit_impl_Hit s_0 n_1 = some r) :
    Cal2 Try.prog 85 [(Sl as_0 s_0 cs_0), (I n_1)] [Ch.own 0 0 (Sl as_0 s_0 cs_0) s_0] (fun n0 v L => ∃ (az1 : Option Addr), ∃ (cz2 : Nat), v = (Sl az1 r cz2) ∧ L = [Ch.own 0 n0 (Sl az1 r cz2) r]) := by
 refine cal2 (n := 27) Try.func85 rfl rfl rfl rfl ?_
 intro S0 σ0 n0 hn0 H
 unfold M.slices_Grow_impl_Hit_impl_Hit at h
 refine c_seq ?_
 refine rg ?_
 refine st (v := (.slice none 0 0)) (rv_assign rfl) ?_
 refine w_end ?_
 refine q_then ?_
 refine c_seq ?_
 refine c_seq ?_
 refine rg ?_
 refine st (v := (I n_1)) (rv_move rfl) ?_
 refine st (v := (B (decide (n_1 < 0)))) (rv_lss (a := n_1) (b := 0) rfl rfl) ?_
 refine w_end ?_
 refine q_then ?_
 refine cd_cond (decide (n_1 < 0)) rfl (fun hb1 => ?_) (fun hb1 => ?_)
 ·replace h := bif_t hb1 h
  refine rg ?_
  refine st (v := (.iface 9 (.string ⟨#[99, 97, 110, 110, 111, 116, 32, 98, 101, 32, 110, 101, 103, 97, 116, 105, 118, 101]⟩))) (rv_makeInterface Try.underlying9 rfl rfl) ?_
  cases h
 ·replace h := bif_f hb1 h
  refine c_skip ?_
  refine q_then ?_
  refine c_seq ?_
  refine c_seq ?_
  refine rg ?_
  refine st (v := (I n_1)) (rv_move rfl) ?_
  refine st (v := (Sl as_0 s_0 cs_0)) (rv_move rfl) ?_
  refine st (v := (I (s_0.length : Int))) (rv_cap Try.underlying29 rfl hts_0) ?_
  refine st (v := (Sl as_0 s_0 cs_0)) (rv_move rfl) ?_
  refine st (v := (I (s_0.length : Int))) (rv_len Try.underlying29 rfl) ?_
  refine st (v := (I (w64 ((s_0.length : Int) - (s_0.length : Int))))) (rv_sub (a := (s_0.length : Int)) (b := (s_0.length : Int)) rfl rfl) ?_
  refine st (v := (I (w64 (n_1 - (w64 ((s_0.length : Int) - (s_0.length : Int))))))) (rv_sub (a := n_1) (b := (w64 ((s_0.length : Int) - (s_0.length : Int)))) rfl rfl) ?_
  refine st (v := (I (w64 (n_1 - (w64 ((s_0.length : Int) - (s_0.length : Int))))))) (rv_assign rfl) ?_
  refine w_end ?_
  refine q_then ?_
  refine c_seq ?_
  refine rg ?_
  refine st (v := (I (w64 (n_1 - (w64 ((s_0.length : Int) - (s_0.length : Int))))))) (rv_move rfl) ?_
  refine st (v := (B (decide (0 < (w64 (n_1 - (w64 ((s_0.length : Int) - (s_0.length : Int))))))))) (rv_gtr (a := (w64 (n_1 - (w64 ((s_0.length : Int) - (s_0.length : Int)))))) (b := 0) rfl rfl) ?_
  refine w_end ?_
  refine q_then ?_
  obtain ⟨o2, hj, h'⟩ := bind_some h
  clear h
  refine c_cut (fun e a w => e = .normal ∧ ∃ (ρ : Nat → Value) (σ : St) (aj1 : Option Addr) (cj2 : Nat), a = fr 27 (updL ρ [(0, (Sl aj1 o2 cj2))]) ∧ w = σ.w ∧ Hp S0 σ0 σ [Ch.own 0 0 (Sl aj1 o2 cj2) o2]) ?_ ?_
  ·clear h'
   rename _ = some o2 => h
   refine cd_cond (decide (0 < (w64 (n_1 - (w64 ((s_0.length : Int) - (s_0.length : Int))))))) rfl (fun hb3 => ?_) (fun hb3 => ?_)
   ·replace h := bif_t hb3 h
    refine rg ?_
    refine st (v := (Sl as_0 s_0 cs_0)) (rv_move rfl) ?_
    refine st (v := (Sl as_0 s_0 cs_0)) (rv_move rfl) ?_
    refine st (v := (I (s_0.length : Int))) (rv_cap Try.underlying29 rfl hts_0) ?_
    obtain ⟨xs4, hx5, h'⟩ := bind_some h
    clear h
    have h := h'; clear h'
    obtain ⟨a6, c7, hs8, -⟩ := (H.own 0 rfl).slice hx5
    refine st (v := (Sl a6 xs4 c7)) (rv_slice_h Try.underlying29 ti58 hs8 rfl rfl) ?_
    refine st (v := (I (w64 (n_1 - (w64 ((s_0.length : Int) - (s_0.length : Int))))))) (rv_move rfl) ?_
    obtain ⟨xs10, hx11, h'⟩ := bind_some h
    clear h
    have h := h'; clear h'
    refine st_ex (ex_appZ (z0 := ((0, 0) : Int × Int)) (zs := [(I 0), (I 0)]) H (i := 0) rfl Try.underlying29 Try.underlying3 ti58 rfl rfl (⟨[(I 0)], [(I 0)], rfl, rfl, rfl⟩) (by decide) hts_0 hx5 hs8 hx11 (app_new0 (by have := gslice_some hx5; omega) hb3) hn0 rfl rfl) wn ?_
    rintro _ σ14 ⟨b12, c13, rfl, H, -⟩
    refine st (v := (Sl as_0 s_0 cs_0)) (rv_move rfl) ?_
    refine st (v := (I (s_0.length : Int))) (rv_len Try.underlying29 rfl) ?_
    obtain ⟨xs15, hx16, h'⟩ := bind_some h
    clear h
    have h := h'; clear h'
    obtain ⟨a17, c18, hs19, hR20, hb21⟩ := (H.own 0 rfl).slice hx16
    replace H := (H.front (i := 0) rfl).turn (d := Ch.own n0 0 (Sl a17 xs15 c18) xs15) (fun _ => hR20) hb21; clear hR20 hb21
    refine st (v := (Sl a17 xs15 c18)) (rv_slice_h Try.underlying29 ti58 hs19 rfl rfl) ?_
    refine st (v := (Sl a17 xs15 c18)) (rv_assign rfl) ?_
    refine w_end ?_
    replace H := H.ownSc 0 0 0 rfl (Nat.zero_le _)
    obtain rfl := Option.some.inj h
    exact ⟨rfl, _, σ14, a17, c18, fr_join ⟨rfl, trivial⟩, rfl, H.sel' [0] rfl rfl⟩
   ·replace h := bif_f hb3 h
    refine c_skip ?_
    obtain rfl := Option.some.inj h
    exact ⟨rfl, _, σ0, as_0, cs_0, fr_join ⟨rfl, trivial⟩, rfl, H.sel' [0] rfl rfl⟩
  ·clear hj
   have h := h'
   clear h' H
   rintro e a w ⟨rfl, ρ, σ22, a23, c24, rfl, rfl, H⟩
   refine q_then ?_
   refine c_seq ?_
   refine rg ?_
   refine st (v := (Sl a23 o2 c24)) (rv_move rfl) ?_
   refine st (v := (Sl a23 o2 c24)) (rv_assign rfl) ?_
   refine w_end ?_
   refine q_then ?_
   refine c_ret ?_
   replace H := H.ownSc 0 0 n0 rfl (Nat.le_refl _)
   obtain rfl := Option.some.inj h
   exact fin_ret (v := (Sl a23 o2 c24)) (results_ok Try.results85 (res_tmp (v := (Sl a23 o2 c24)) rfl res_nil) rfl) ⟨a23, c24, rfl, rfl⟩ (H.sel' [0] rfl rfl)

theorem c_slices_Concat_impl_Hit_impl_Hit {slices_0 : List (List (Int × Int))} {aslices_0 : Option Addr} {cslices_0 : Nat} {r : (List (Int × Int))} (h : M.slices_Concat_impl_Hit_impl_Hit slices_0 = some r) :
    Cal2 Try.prog 75 [(Sl aslices_0 slices_0 cslices_0)] [Ch.ro 0 (Sl aslices_0 slices_0 cslices_0) slices_0] (fun n0 v L => ∃ (az1 : Option Addr), ∃ (cz2 : Nat), v = (Sl az1 r cz2) ∧ L = [Ch.own 0 n0 (Sl az1 r cz2) r]) := by
 refine cal2 (n := 36) Try.func75 rfl rfl rfl rfl ?_
 intro S0 σ0 n0 hn0 H
 unfold M.slices_Concat_impl_Hit_impl_Hit at h
 refine c_seq ?_
 refine rg ?_
 refine st (v := (.slice none 0 0)) (rv_assign rfl) ?_
 refine w_end ?_
 refine q_then ?_
 refine c_seq ?_
 refine rg ?_
 refine st (v := (I 0)) (rv_assign rfl) ?_
 refine w_end ?_
 refine q_then ?_
 refine c_seq ?_
 refine c_seq ?_
 refine rg ?_
 refine st (v := (Sl aslices_0 slices_0 cslices_0)) (rv_move rfl) ?_
 refine st (v := (I (slices_0.length : Int))) (rv_len Try.underlying94 rfl) ?_
 refine st (v := (I 0)) (rv_move rfl) ?_
 refine w_end ?_
 refine q_then ?_
 obtain ⟨o1, hj, h'⟩ := bind_some h
 clear h
 refine c_cut (fun e a w => e = .normal ∧ ∃ (ρ : Nat → Value) (σ : St), a = fr 36 (updL ρ [(0, (Sl aslices_0 slices_0 cslices_0)), (3, (I o1))]) ∧ w = σ.w ∧ Hp S0 σ0 σ [Ch.ro 0 (Sl aslices_0 slices_0 cslices_0) slices_0]) ?_ ?_
 ·clear h'
  rename _ = some o1 => h
  refine c_blk ?_
  refine wp_loopM _ h (fun s2 a w => ∃ (ρ : Nat → Value) (σ : St), a = fr 36 (updL ρ [(0, (Sl aslices_0 slices_0 cslices_0)), (3, (I s2.1)), (9, (Sl aslices_0 slices_0 cslices_0)), (10, (I (slices_0.length : Int))), (11, (I s2.2))]) ∧ w = σ.w ∧ Hp S0 σ0 σ [Ch.ro 0 (Sl aslices_0 slices_0 cslices_0) slices_0]) ⟨_, σ0, fr_join ⟨rfl, rfl, rfl, rfl, rfl, trivial⟩, rfl, H.sel' [0] rfl rfl⟩ ?_
  clear h H
  rintro s2 a w o ⟨ρ, σ3, rfl, rfl, H⟩ h hres
  refine c_seq ?_
  refine rg ?_
  refine st (v := (B (decide (s2.2 < (slices_0.length : Int))))) (rv_lss (a := s2.2) (b := (slices_0.length : Int)) rfl rfl) ?_
  refine w_end ?_
  refine q_then ?_
  refine c_seq ?_
  refine cd_cond (decide (s2.2 < (slices_0.length : Int))) rfl (fun hb4 => ?_) (fun hb4 => ?_)
  ·replace h := bif_t hb4 h
   refine c_skip ?_
   refine q_then ?_
   refine c_seq ?_
   refine c_blk ?_
   refine c_seq ?_
   refine rg ?_
   obtain ⟨x5, hx6, h'⟩ := bind_some h
   clear h
   have h := h'; clear h'
   obtain ⟨b8, o9, hi7, -⟩ := (H.ro 0 rfl).ix hx6
   refine st (v := (pt b8 o9)) (rv_ix Try.underlying94 ti29 rfl rfl hi7) ?_
   obtain ⟨v13, hc14, hR12⟩ := ((H.ro 0 rfl).at hx6 hi7).slice
   obtain ⟨a10, c11, rfl⟩ := hR12.isSl
   replace H := H.add (d := Ch.ro 0 (Sl a10 x5 c11) x5) hR12 (fun _ h => h)
   clear hR12
   refine st (v := (Sl a10 x5 c11)) (rv_load1 Try.underlying29 rfl rfl hc14) ?_
   refine st (v := (Sl a10 x5 c11)) (rv_assign rfl) ?_
   refine w_end ?_
   refine q_then ?_
   refine c_seq ?_
   refine rg ?_
   refine st (v := (I s2.1)) (rv_move rfl) ?_
   refine st (v := (Sl a10 x5 c11)) (rv_move rfl) ?_
   refine st (v := (I (x5.length : Int))) (rv_len Try.underlying29 rfl) ?_
   refine st (v := (I (w64 (s2.1 + (x5.length : Int))))) (rv_add (a := s2.1) (b := (x5.length : Int)) rfl rfl) ?_
   refine st (v := (I (w64 (s2.1 + (x5.length : Int))))) (rv_assign rfl) ?_
   refine w_end ?_
   refine q_then ?_
   refine c_seq ?_
   refine rg ?_
   refine st (v := (I (w64 (s2.1 + (x5.length : Int))))) (rv_move rfl) ?_
   refine st (v := (B (decide ((w64 (s2.1 + (x5.length : Int))) < 0)))) (rv_lss (a := (w64 (s2.1 + (x5.length : Int)))) (b := 0) rfl rfl) ?_
   refine w_end ?_
   refine q_then ?_
   refine cd_cond (decide ((w64 (s2.1 + (x5.length : Int))) < 0)) rfl (fun hb15 => ?_) (fun hb15 => ?_)
   ·replace h := bif_t hb15 h
    refine rg ?_
    refine st (v := (.iface 9 (.string ⟨#[108, 101, 110, 32, 111, 117, 116, 32, 111, 102, 32, 114, 97, 110, 103, 101]⟩))) (rv_makeInterface Try.underlying9 rfl rfl) ?_
    cases h
   ·replace h := bif_f hb15 h
    refine c_skip ?_
    refine q_blk ?_
    refine q_then ?_
    refine rg ?_
    refine st (v := (I (w64 (s2.2 + 1)))) (rv_add (a := s2.2) (b := 1) rfl rfl) ?_
    refine st (v := (I (w64 (s2.2 + 1)))) (rv_move rfl) ?_
    refine w_end ?_
    refine q_then ?_
    obtain rfl := Option.some.inj h
    exact ⟨_, rfl, _, σ3, fr_join ⟨rfl, rfl, rfl, rfl, rfl, trivial⟩, rfl, H.sel' [1] rfl rfl⟩
  ·replace h := bif_f hb4 h
   refine c_exit ?_
   refine q_then_x ?_
   refine q_then_x ?_
   refine q_blk_hit ?_
   obtain rfl := Option.some.inj h
   obtain rfl := hres _ rfl
   exact ⟨rfl, _, σ3, fr_join ⟨rfl, rfl, trivial⟩, rfl, H.sel' [0] rfl rfl⟩
 ·clear hj
  have h := h'
  clear h' H
  rintro e a w ⟨rfl, ρ, σ16, rfl, rfl, H⟩
  refine q_then ?_
  refine c_seq ?_
  refine rg ?_
  refine st (v := (I o1)) (rv_move rfl) ?_
  replace H := H.nilOwn (Int × Int) 0 0
  obtain ⟨r17, hx18, h'⟩ := bind_some h
  clear h
  have h := h'; clear h'
  have hc19 := c_slices_Grow_impl_Hit_impl_Hit (as_0 := none) (cs_0 := 0) (hts_0 := rfl) hx18
  refine st_call (cx_call hc19 (ent_f hc19.fn rfl) hn0 (show Hp S0 σ0 _ ([Ch.own 0 0 (Sl none ([] : List (Int × Int)) 0) ([] : List (Int × Int))] ++ [Ch.ro 0 (Sl aslices_0 slices_0 cslices_0) slices_0]) from (H.sel' [0, 1] rfl rfl))) wn ?_
  rintro _ σ22 ⟨_, ⟨a20, c21, rfl, rfl⟩, H, -⟩
  replace H : Hp S0 σ0 σ22 [Ch.own 0 n0 (Sl a20 r17 c21) r17, Ch.ro 0 (Sl aslices_0 slices_0 cslices_0) slices_0] := H
  refine st (v := (Sl a20 r17 c21)) (rv_assign rfl) ?_
  refine w_end ?_
  refine q_then ?_
  refine c_seq ?_
  refine c_seq ?_
  refine rg ?_
  refine st (v := (Sl aslices_0 slices_0 cslices_0)) (rv_move rfl) ?_
  refine st (v := (I (slices_0.length : Int))) (rv_len Try.underlying94 rfl) ?_
  refine st (v := (I 0)) (rv_move rfl) ?_
  refine w_end ?_
  refine q_then ?_
  obtain ⟨o23, hj, h'⟩ := bind_some h
  clear h
  refine c_cut (fun e a w => e = .normal ∧ ∃ (ρ : Nat → Value) (σ : St) (aj1 : Option Addr) (cj2 : Nat), a = fr 36 (updL ρ [(6, (Sl aj1 o23 cj2))]) ∧ w = σ.w ∧ Hp S0 σ0 σ [Ch.own 0 n0 (Sl aj1 o23 cj2) o23]) ?_ ?_
  ·clear h'
   rename _ = some o23 => h
   refine c_blk ?_
   refine wp_loopM _ h (fun s24 a w => ∃ (ρ : Nat → Value) (σ : St) (aj1 : Option Addr) (cj2 : Nat), a = fr 36 (updL ρ [(6, (Sl aj1 s24.1 cj2)), (25, (Sl aslices_0 slices_0 cslices_0)), (26, (I (slices_0.length : Int))), (27, (I s24.2))]) ∧ w = σ.w ∧ Hp S0 σ0 σ [Ch.own 0 n0 (Sl aj1 s24.1 cj2) s24.1, Ch.ro 0 (Sl aslices_0 slices_0 cslices_0) slices_0]) ⟨_, σ22, a20, c21, fr_join ⟨rfl, rfl, rfl, rfl, trivial⟩, rfl, H.sel' [0, 1] rfl rfl⟩ ?_
   clear h H
   rintro s24 a w o ⟨ρ, σ25, a26, c27, rfl, rfl, H⟩ h hres
   refine c_seq ?_
   refine rg ?_
   refine st (v := (B (decide (s24.2 < (slices_0.length : Int))))) (rv_lss (a := s24.2) (b := (slices_0.length : Int)) rfl rfl) ?_
   refine w_end ?_
   refine q_then ?_
   refine c_seq ?_
   refine cd_cond (decide (s24.2 < (slices_0.length : Int))) rfl (fun hb28 => ?_) (fun hb28 => ?_)
   ·replace h := bif_t hb28 h
    refine c_skip ?_
    refine q_then ?_
    refine c_seq ?_
    refine c_blk ?_
    refine c_seq ?_
    refine rg ?_
    obtain ⟨x29, hx30, h'⟩ := bind_some h
    clear h
    have h := h'; clear h'
    obtain ⟨b32, o33, hi31, -⟩ := (H.ro 1 rfl).ix hx30
    refine st (v := (pt b32 o33)) (rv_ix Try.underlying94 ti29 rfl rfl hi31) ?_
    obtain ⟨v37, hc38, hR36⟩ := ((H.ro 1 rfl).at hx30 hi31).slice
    obtain ⟨a34, c35, rfl⟩ := hR36.isSl
    replace H := H.add (d := Ch.ro 0 (Sl a34 x29 c35) x29) hR36 (fun _ h => h)
    clear hR36
    refine st (v := (Sl a34 x29 c35)) (rv_load1 Try.underlying29 rfl rfl hc38) ?_
    refine st (v := (Sl a34 x29 c35)) (rv_assign rfl) ?_
    refine w_end ?_
    refine q_then ?_
    refine rg ?_
    refine st (v := (Sl a26 s24.1 c27)) (rv_move rfl) ?_
    refine st (v := (Sl a34 x29 c35)) (rv_move rfl) ?_
    obtain ⟨xs39, hx40, h'⟩ := bind_some h
    clear h
    have h := h'; clear h'
    refine st_ex (ex_append H (i := 1) rfl Try.underlying29 Try.underlying29 ti58 rfl rfl (by decide) ((H.ro 0 rfl).rd.sc) hx40 (Nat.zero_le _) rfl rfl) wn ?_
    rintro _ σ43 ⟨a41, c42, rfl, H, -⟩
    refine st (v := (Sl a41 xs39 c42)) (rv_assign rfl) ?_
    refine w_end ?_
    refine q_blk ?_
    refine q_then ?_
    refine rg ?_
    refine st (v := (I (w64 (s24.2 + 1)))) (rv_add (a := s24.2) (b := 1) rfl rfl) ?_
    refine st (v := (I (w64 (s24.2 + 1)))) (rv_move rfl) ?_
    refine w_end ?_
    refine q_then ?_
    obtain rfl := Option.some.inj h
    exact ⟨_, rfl, _, σ43, a41, c42, fr_join ⟨rfl, rfl, rfl, rfl, trivial⟩, rfl, H.sel' [0, 2] rfl rfl⟩
   ·replace h := bif_f hb28 h
    refine c_exit ?_
    refine q_then_x ?_
    refine q_then_x ?_
    refine q_blk_hit ?_
    obtain rfl := Option.some.inj h
    obtain rfl := hres _ rfl
    exact ⟨rfl, _, σ25, a26, c27, fr_join ⟨rfl, trivial⟩, rfl, H.sel' [0] rfl rfl⟩
  ·clear hj
   have h := h'
   clear h' H
   rintro e a w ⟨rfl, ρ, σ44, a45, c46, rfl, rfl, H⟩
   refine q_then ?_
   refine c_seq ?_
   refine rg ?_
   refine st (v := (Sl a45 o23 c46)) (rv_move rfl) ?_
   refine st (v := (Sl a45 o23 c46)) (rv_assign rfl) ?_
   refine w_end ?_
   refine q_then ?_
   refine c_ret ?_
   obtain rfl := Option.some.inj h
   exact fin_ret (v := (Sl a45 o23 c46)) (results_ok Try.results75 (res_tmp (v := (Sl a45 o23 c46)) rfl res_nil) rfl) ⟨a45, c46, rfl, rfl⟩ (H.sel' [0] rfl rfl)

theorem c_slices_xorshift_Next {r_0 : Int} {lor_0 br_0 or_0 : Nat} {prer_0 sufr_0 : List Value} {r : Int × Int} (h : M.slices_xorshift_Next r_0 = some r) :
    Cal2 Try.prog 115 [(pt br_0 or_0)] [Ch.bx lor_0 br_0 or_0 [(.int .u64 r_0)] prer_0 sufr_0] (fun n0 v L => v = (.int .u64 r.1) ∧ L = [Ch.bx lor_0 br_0 or_0 [(.int .u64 r.2)] prer_0 sufr_0]) := by
 refine cal2 (n := 33) Try.func115 rfl rfl rfl rfl ?_
 intro S0 σ0 n0 hn0 H
 unfold M.slices_xorshift_Next at h
 refine c_seq ?_
 refine rg ?_
 refine st (v := (.int .u64 0)) (rv_assign rfl) ?_
 refine w_end ?_
 refine q_then ?_
 refine c_seq ?_
 refine rgP (σ := σ0) 7 (by kernel_rfl) (by kernel_rfl) (by kernel_rfl) ?_
 refine sq (v := (pt br_0 or_0)) (rv_move rfl) ?_
 refine sq (v := (pt br_0 or_0)) (rv_nilCheck rfl) ?_
 have hc1 := H.cell (u := (.int .u64 r_0)) (o' := or_0) 0 0 rfl rfl rfl
 refine sq (v := (.int .u64 r_0)) (rv_load1 Try.underlying120 rfl rfl hc1) ?_
 refine sq (v := (pt br_0 or_0)) (rv_move rfl) ?_
 refine sq (v := (pt br_0 or_0)) (rv_nilCheck rfl) ?_
 have hc2 := H.cell (u := (.int .u64 r_0)) (o' := or_0) 0 0 rfl rfl rfl
 refine sq (v := (.int .u64 r_0)) (rv_load1 Try.underlying120 rfl rfl hc2) ?_
 refine sq (v := (.int .u64 (gshl .u64 r_0 13))) (rvk_shl (k := .u64) (k' := .u64) (a := r_0) (b := 13) rfl rfl (by decide)) ?_
 refine sq_end ?_
 intro σ3 hm4
 replace H := H.grow (hm4.mono fun _ h => h); clear hm4
 refine st (v := (.int .u64 (gxork .u64 r_0 (gshl .u64 r_0 13)))) (rvk_xor (k := .u64) (a := r_0) (b := (gshl .u64 r_0 13)) rfl rfl) ?_
 refine st (v := (pt br_0 or_0)) (rv_nilCheck rfl) ?_
 refine st_exS (ex_store_box (k := 0) (cs := [(.int .u64 r_0)]) (vs := [(.int .u64 (gxork .u64 r_0 (gshl .u64 r_0 13)))]) (cs' := [(.int .u64 (gxork .u64 r_0 (gshl .u64 r_0 13)))]) H (i := 0) rfl ti120 rfl rfl rfl rfl rfl (Nat.le_of_ble_eq_true rfl) (by simp [plain]) rfl) wn ?_
 rintro σ5 ⟨H, -⟩
 refine w_end ?_
 refine q_then ?_
 refine c_seq ?_
 refine rgP (σ := σ5) 7 (by kernel_rfl) (by kernel_rfl) (by kernel_rfl) ?_
 refine sq (v := (pt br_0 or_0)) (rv_move rfl) ?_
 refine sq (v := (pt br_0 or_0)) (rv_nilCheck rfl) ?_
 have hc6 := H.cell (u := (.int .u64 (gxork .u64 r_0 (gshl .u64 r_0 13)))) (o' := or_0) 0 0 rfl rfl rfl
 refine sq (v := (.int .u64 (gxork .u64 r_0 (gshl .u64 r_0 13)))) (rv_load1 Try.underlying120 rfl rfl hc6) ?_
 refine sq (v := (pt br_0 or_0)) (rv_move rfl) ?_
 refine sq (v := (pt br_0 or_0)) (rv_nilCheck rfl) ?_
 have hc7 := H.cell (u := (.int .u64 (gxork .u64 r_0 (gshl .u64 r_0 13)))) (o' := or_0) 0 0 rfl rfl rfl
 refine sq (v := (.int .u64 (gxork .u64 r_0 (gshl .u64 r_0 13)))) (rv_load1 Try.underlying120 rfl rfl hc7) ?_
 refine sq (v := (.int .u64 (gshr .u64 (gxork .u64 r_0 (gshl .u64 r_0 13)) 7))) (rvk_shr (k := .u64) (k' := .u64) (a := (gxork .u64 r_0 (gshl .u64 r_0 13))) (b := 7) rfl rfl (by decide)) ?_
 refine sq_end ?_
 intro σ8 hm9
 replace H := H.grow (hm9.mono fun _ h => h); clear hm9
 refine st (v := (.int .u64 (gxork .u64 (gxork .u64 r_0 (gshl .u64 r_0 13)) (gshr .u64 (gxork .u64 r_0 (gshl .u64 r_0 13)) 7)))) (rvk_xor (k := .u64) (a := (gxork .u64 r_0 (gshl .u64 r_0 13))) (b := (gshr .u64 (gxork .u64 r_0 (gshl .u64 r_0 13)) 7)) rfl rfl) ?_
 refine st (v := (pt br_0 or_0)) (rv_nilCheck rfl) ?_
 refine st_exS (ex_store_box (k := 0) (cs := [(.int .u64 (gxork .u64 r_0 (gshl .u64 r_0 13)))]) (vs := [(.int .u64 (gxork .u64 (gxork .u64 r_0 (gshl .u64 r_0 13)) (gshr .u64 (gxork .u64 r_0 (gshl .u64 r_0 13)) 7)))]) (cs' := [(.int .u64 (gxork .u64 (gxork .u64 r_0 (gshl .u64 r_0 13)) (gshr .u64 (gxork .u64 r_0 (gshl .u64 r_0 13)) 7)))]) H (i := 0) rfl ti120 rfl rfl rfl rfl rfl (Nat.le_of_ble_eq_true rfl) (by simp [plain]) rfl) wn ?_
 rintro σ10 ⟨H, -⟩
 refine w_end ?_
 refine q_then ?_
 refine c_seq ?_
 refine rgP (σ := σ10) 7 (by kernel_rfl) (by kernel_rfl) (by kernel_rfl) ?_
 refine sq (v := (pt br_0 or_0)) (rv_move rfl) ?_
 refine sq (v := (pt br_0 or_0)) (rv_nilCheck rfl) ?_
 have hc11 := H.cell (u := (.int .u64 (gxork .u64 (gxork .u64 r_0 (gshl .u64 r_0 13)) (gshr .u64 (gxork .u64 r_0 (gshl .u64 r_0 13)) 7)))) (o' := or_0) 0 0 rfl rfl rfl
 refine sq (v := (.int .u64 (gxork .u64 (gxork .u64 r_0 (gshl .u64 r_0 13)) (gshr .u64 (gxork .u64 r_0 (gshl .u64 r_0 13)) 7)))) (rv_load1 Try.underlying120 rfl rfl hc11) ?_
 refine sq (v := (pt br_0 or_0)) (rv_move rfl) ?_
 refine sq (v := (pt br_0 or_0)) (rv_nilCheck rfl) ?_
 have hc12 := H.cell (u := (.int .u64 (gxork .u64 (gxork .u64 r_0 (gshl .u64 r_0 13)) (gshr .u64 (gxork .u64 r_0 (gshl .u64 r_0 13)) 7)))) (o' := or_0) 0 0 rfl rfl rfl
 refine sq (v := (.int .u64 (gxork .u64 (gxork .u64 r_0 (gshl .u64 r_0 13)) (gshr .u64 (gxork .u64 r_0 (gshl .u64 r_0 13)) 7)))) (rv_load1 Try.underlying120 rfl rfl hc12) ?_
 refine sq (v := (.int .u64 (gshl .u64 (gxork .u64 (gxork .u64 r_0 (gshl .u64 r_0 13)) (gshr .u64 (gxork .u64 r_0 (gshl .u64 r_0 13)) 7)) 17))) (rvk_shl (k := .u64) (k' := .u64) (a := (gxork .u64 (gxork .u64 r_0 (gshl .u64 r_0 13)) (gshr .u64 (gxork .u64 r_0 (gshl .u64 r_0 13)) 7))) (b := 17) rfl rfl (by decide)) ?_
 refine sq_end ?_
 intro σ13 hm14
 replace H := H.grow (hm14.mono fun _ h => h); clear hm14
 refine st (v := (.int .u64 (gxork .u64 (gxork .u64 (gxork .u64 r_0 (gshl .u64 r_0 13)) (gshr .u64 (gxork .u64 r_0 (gshl .u64 r_0 13)) 7)) (gshl .u64 (gxork .u64 (gxork .u64 r_0 (gshl .u64 r_0 13)) (gshr .u64 (gxork .u64 r_0 (gshl .u64 r_0 13)) 7)) 17)))) (rvk_xor (k := .u64) (a := (gxork .u64 (gxork .u64 r_0 (gshl .u64 r_0 13)) (gshr .u64 (gxork .u64 r_0 (gshl .u64 r_0 13)) 7))) (b := (gshl .u64 (gxork .u64 (gxork .u64 r_0 (gshl .u64 r_0 13)) (gshr .u64 (gxork .u64 r_0 (gshl .u64 r_0 13)) 7)) 17)) rfl rfl) ?_
 refine st (v := (pt br_0 or_0)) (rv_nilCheck rfl) ?_
 refine st_exS (ex_store_box (k := 0) (cs := [(.int .u64 (gxork .u64 (gxork .u64 r_0 (gshl .u64 r_0 13)) (gshr .u64 (gxork .u64 r_0 (gshl .u64 r_0 13)) 7)))]) (vs := [(.int .u64 (gxork .u64 (gxork .u64 (gxork .u64 r_0 (gshl .u64 r_0 13)) (gshr .u64 (gxork .u64 r_0 (gshl .u64 r_0 13)) 7)) (gshl .u64 (gxork .u64 (gxork .u64 r_0 (gshl .u64 r_0 13)) (gshr .u64 (gxork .u64 r_0 (gshl .u64 r_0 13)) 7)) 17)))]) (cs' := [(.int .u64 (gxork .u64 (gxork .u64 (gxork .u64 r_0 (gshl .u64 r_0 13)) (gshr .u64 (gxork .u64 r_0 (gshl .u64 r_0 13)) 7)) (gshl .u64 (gxork .u64 (gxork .u64 r_0 (gshl .u64 r_0 13)) (gshr .u64 (gxork .u64 r_0 (gshl .u64 r_0 13)) 7)) 17)))]) H (i := 0) rfl ti120 rfl rfl rfl rfl rfl (Nat.le_of_ble_eq_true rfl) (by simp [plain]) rfl) wn ?_
 rintro σ15 ⟨H, -⟩
 refine w_end ?_
 refine q_then ?_
 refine c_seq ?_
 refine rg ?_
 refine st (v := (pt br_0 or_0)) (rv_move rfl) ?_
 refine st (v := (pt br_0 or_0)) (rv_nilCheck rfl) ?_
 have hc16 := H.cell (u := (.int .u64 (gxork .u64 (gxork .u64 (gxork .u64 r_0 (gshl .u64 r_0 13)) (gshr .u64 (gxork .u64 r_0 (gshl .u64 r_0 13)) 7)) (gshl .u64 (gxork .u64 (gxork .u64 r_0 (gshl .u64 r_0 13)) (gshr .u64 (gxork .u64 r_0 (gshl .u64 r_0 13)) 7)) 17)))) (o' := or_0) 0 0 rfl rfl rfl
 refine st (v := (.int .u64 (gxork .u64 (gxork .u64 (gxork .u64 r_0 (gshl .u64 r_0 13)) (gshr .u64 (gxork .u64 r_0 (gshl .u64 r_0 13)) 7)) (gshl .u64 (gxork .u64 (gxork .u64 r_0 (gshl .u64 r_0 13)) (gshr .u64 (gxork .u64 r_0 (gshl .u64 r_0 13)) 7)) 17)))) (rv_load1 Try.underlying120 rfl rfl hc16) ?_
 refine st (v := (.int .u64 (gxork .u64 (gxork .u64 (gxork .u64 r_0 (gshl .u64 r_0 13)) (gshr .u64 (gxork .u64 r_0 (gshl .u64 r_0 13)) 7)) (gshl .u64 (gxork .u64 (gxork .u64 r_0 (gshl .u64 r_0 13)) (gshr .u64 (gxork .u64 r_0 (gshl .u64 r_0 13)) 7)) 17)))) (rv_assign rfl) ?_
 refine w_end ?_
 refine q_then ?_
 refine c_ret ?_
 obtain rfl := Option.some.inj h
 exact fin_ret (v := (.int .u64 (gxork .u64 (gxork .u64 (gxork .u64 r_0 (gshl .u64 r_0 13)) (gshr .u64 (gxork .u64 r_0 (gshl .u64 r_0 13)) 7)) (gshl .u64 (gxork .u64 (gxork .u64 r_0 (gshl .u64 r_0 13)) (gshr .u64 (gxork .u64 r_0 (gshl .u64 r_0 13)) 7)) 17)))) (results_ok Try.results115 (res_tmp (v := (.int .u64 (gxork .u64 (gxork .u64 (gxork .u64 r_0 (gshl .u64 r_0 13)) (gshr .u64 (gxork .u64 r_0 (gshl .u64 r_0 13)) 7)) (gshl .u64 (gxork .u64 (gxork .u64 r_0 (gshl .u64 r_0 13)) (gshr .u64 (gxork .u64 r_0 (gshl .u64 r_0 13)) 7)) 17)))) rfl res_nil) rfl) ⟨rfl, rfl⟩ (H.sel' [0] rfl rfl)

def sort76_ren : Go.Shelf.Ren := ⟨fun | 6 => 76 | 15 => 87 | 14 => 86 | 28 => 101 | 29 => 102 | 20 => 93 | 21 => 94 | 22 => 95 | 23 => 96 | 24 => 97 | 25 => 98 | 26 => 99 | 27 => 100 | 46 => 113 | 47 => 114 | 48 => 115 | 49 => 116 | 50 => 117 | 57 => 121 | n => n, fun | 22 => 29 | 24 => 58 | 25 => 62 | 3 => 3 | 39 => 98 | 0 => 0 | 53 => 111 | 55 => 113 | 4 => 4 | 46 => 104 | 45 => 103 | 50 => 108 | 5 => 5 | 9 => 9 | 66 => 120 | 70 => 124 | 76 => 128 | 77 => 129 | n => n, fun | n => n⟩
theorem sort76 : Go.Proofs.SlLaysF0.n6 Try.prog sort76_ren := {
  mixed := by kernel_rfl
  f6 := ⟨Try.f76.name, by decide, Try.func76.trans (congrArg some (by kernel_rfl))⟩
  f14 := ⟨Try.f86.name, by decide, Try.func86.trans (congrArg some (by kernel_rfl))⟩
  f15 := Try.func87.trans (congrArg some (by kernel_rfl))
  f20 := ⟨Try.f93.name, by decide, Try.func93.trans (congrArg some (by kernel_rfl))⟩
  f21 := ⟨Try.f94.name, by decide, Try.func94.trans (congrArg some (by kernel_rfl))⟩
  f22 := ⟨Try.f95.name, by decide, Try.func95.trans (congrArg some (by kernel_rfl))⟩
  f23 := ⟨Try.f96.name, by decide, Try.func96.trans (congrArg some (by kernel_rfl))⟩
  f24 := ⟨Try.f97.name, by decide, Try.func97.trans (congrArg some (by kernel_rfl))⟩
  f25 := ⟨Try.f98.name, by decide, Try.func98.trans (congrArg some (by kernel_rfl))⟩
  f26 := ⟨Try.f99.name, by decide, Try.func99.trans (congrArg some (by kernel_rfl))⟩
  f27 := ⟨Try.f100.name, by decide, Try.func100.trans (congrArg some (by kernel_rfl))⟩
  f28 := Try.func101.trans (congrArg some (by kernel_rfl))
  f29 := Try.func102.trans (congrArg some (by kernel_rfl))
  f46 := ⟨Try.f113.name, by decide, Try.func113.trans (congrArg some (by kernel_rfl))⟩
  f47 := Try.func114.trans (congrArg some (by kernel_rfl))
  f48 := Try.func115.trans (congrArg some (by kernel_rfl))
  f49 := ⟨Try.f116.name, by decide, Try.func116.trans (congrArg some (by kernel_rfl))⟩
  f50 := ⟨Try.f117.name, by decide, Try.func117.trans (congrArg some (by kernel_rfl))⟩
  f57 := ⟨Try.f121.name, by decide, Try.func121.trans (congrArg some (by kernel_rfl))⟩
  t0 := Try.underlying0
  a0 := Try.isAgg0
  z0 := Try.sizeOf0
  v0 := Try.zeroValue0
  t3 := Try.underlying3
  a3 := Try.isAgg3
  z3 := Try.sizeOf3
  v3 := Try.zeroValue3
  t4 := Try.underlying4
  a4 := Try.isAgg4
  z4 := Try.sizeOf4
  v4 := Try.zeroValue4
  t5 := Try.underlying5
  a5 := Try.isAgg5
  z5 := Try.sizeOf5
  v5 := Try.zeroValue5
  t9 := Try.underlying9
  a9 := Try.isAgg9
  z9 := Try.sizeOf9
  v9 := Try.zeroValue9
  t22 := Try.underlying29
  a22 := Try.isAgg29
  z22 := Try.sizeOf29
  v22 := Try.zeroValue29
  t25 := Try.underlying62
  a25 := Try.isAgg62
  z25 := Try.sizeOf62
  v25 := Try.zeroValue62
  t39 := Try.underlying98
  a39 := Try.isAgg98
  z39 := Try.sizeOf98
  v39 := Try.zeroValue98
  t45 := Try.underlying103
  a45 := Try.isAgg103
  z45 := Try.sizeOf103
  v45 := Try.zeroValue103
  t46 := Try.underlying104
  a46 := Try.isAgg104
  z46 := Try.sizeOf104
  v46 := Try.zeroValue104
  t50 := Try.underlying108
  a50 := Try.isAgg108
  z50 := Try.sizeOf108
  v50 := Try.zeroValue108
  t53 := Try.underlying111
  a53 := Try.isAgg111
  z53 := Try.sizeOf111
  v53 := Try.zeroValue111
  t55 := Try.underlying113
  a55 := Try.isAgg113
  z55 := Try.sizeOf113
  v55 := Try.zeroValue113
  t66 := Try.underlying120
  a66 := Try.isAgg120
  z66 := Try.sizeOf120
  v66 := Try.zeroValue120
  t70 := Try.underlying124
  a70 := Try.isAgg124
  z70 := Try.sizeOf124
  v70 := Try.zeroValue124
  t76 := Try.underlying128
  a76 := Try.isAgg128
  z76 := Try.sizeOf128
  v76 := Try.zeroValue128
  t77 := Try.underlying129
  a77 := Try.isAgg129
  z77 := Try.sizeOf129
  v77 := Try.zeroValue129 }

theorem c_slices_SortFunc_impl_Hit_impl_Hit__impl_compareHits {x_0 : List (Int × Int)} {ax_0 : Option Addr} {cx_0 : Nat} {r : List (Int × Int)} (h : M.slices_SortFunc_impl_Hit_impl_Hit__impl_compareHits x_0 = some r) :
    Cal2 Try.prog 76 [(Sl ax_0 x_0 cx_0), (.func (.func 49) #[] #[])] [Ch.own 0 0 (Sl ax_0 x_0 cx_0) x_0] (fun n0 v L => v = (.tuple #[]) ∧ L = [Ch.own 0 0 (Sl ax_0 r cx_0) r] ∧ r.length = x_0.length) := by
 obtain ⟨hn, hs, hL, rfl⟩ := sortD_some h
 have hE : ∀ σ σ' : St, Ext σ σ' → (True) → (True) := fun _ _ _ hp => hp
 have hB : ∀ σ : St, allAs σ [] → apart [] → ∃ σp, Pb (cov []) σ σp ∧ True := fun σ _ _ => ⟨σ, ⟨rfl, fun _ _ => rfl, fun _ => Nat.le_refl _⟩, trivial⟩
 have hC : ∀ σ : St, (True) → ∀ x ∈ x_0, ∀ y ∈ x_0, ∀ cx cy, Rp.rp 0 σ cx x → Rp.rp 0 σ cy y → Calls Try.prog 49 ([Value.agg cx.toArray, Value.agg cy.toArray] ++ []).toArray σ.w fun e w' => e = .returned (I ((M.impl_compareHits (x.1, x.2) (y.1, y.2)).getD 0)) ∧ ∃ q os, w' = Go.Sort.grow (σ.w.drewN q) os := by
     intro σ hp x hx y hy cx cy rx ry
     obtain ⟨r, hr⟩ := hs x hx y hy
     obtain ⟨_, _, rfl, rfl, rfl⟩ := rx
     obtain ⟨_, _, rfl, rfl, rfl⟩ := ry
     have hc := c_impl_compareHits  hr
     refine (hc.runs σ 0 (Nat.zero_le _) (Hp.begin trivial trivial)).mono ?_
     rintro e w' ⟨v, σ', L', rfl, rfl, ⟨rfl, -⟩, H⟩
     exact ⟨by rw [hr]; rfl, (H.md.mono fun i => fun h => h).grown⟩
 refine (sort_cal2 (α := (Int × Int)) sort76 Try.isAgg58 Try.sizeOf58 (xs := x_0) (a := ax_0) (c := cx_0) (g := 49) (cb := []) (B := []) (fun x y => (M.impl_compareHits (x.1, x.2) (y.1, y.2)).getD 0) hL hn ⟨_, _, Try.func49, rfl, rfl⟩ _ hE hB hC).conv ?_
 rintro m v L ⟨rfl, rfl⟩
 exact ⟨_, ⟨rfl, rfl, sortL_len⟩, fun H => H.sel' [0] rfl rfl⟩

theorem c_impl_mergedHits {a_0 : List (Int × Int)} {b_1 : List (Int × Int)} {aa_0 : Option Addr} {ca_0 : Nat} {ab_1 : Option Addr} {cb_1 : Nat} {r : (List (Int × Int))} (h : M.impl_mergedHits a_0 b_1 = some r) :
    Cal2 Try.prog 56 [(Sl aa_0 a_0 ca_0), (Sl ab_1 b_1 cb_1)] [Ch.ro 0 (Sl aa_0 a_0 ca_0) a_0, Ch.ro 0 (Sl ab_1 b_1 cb_1) b_1] (fun n0 v L => ∃ (az1 : Option Addr), ∃ (cz2 : Nat), v = (Sl az1 r cz2) ∧ L = [Ch.own n0 n0 (Sl az1 r cz2) r]) := by
 refine cal2 (n := 32) Try.func56 rfl rfl rfl rfl ?_
 intro S0 σ0 n0 hn0 H
 unfold M.impl_mergedHits at h
 refine c_seq ?_
 refine rg ?_
 refine st (v := (.slice none 0 0)) (rv_assign rfl) ?_
 refine w_end ?_
 refine q_then ?_
 refine c_seq ?_
 refine rg ?_
 refine st (v := (.slice none 0 0)) (rv_assign rfl) ?_
 refine w_end ?_
 refine q_then ?_
 refine c_seq ?_
 refine rg ?_
 refine st (v := (Sl aa_0 a_0 ca_0)) (rv_move rfl) ?_
 refine st (v := (Sl ab_1 b_1 cb_1)) (rv_move rfl) ?_
 refine st_ex (ex_buildSlice (el := 0) (xs := ([a_0, b_1] : List (List (Int × Int)))) (ps := [(0, (Sl aa_0 a_0 ca_0)), (1, (Sl ab_1 b_1 cb_1))]) (cs := [(Sl aa_0 a_0 ca_0), (Sl ab_1 b_1 cb_1)]) H hn0 Try.underlying94 ti29 rfl rfl (by kernel_rfl) (.cons (c := [(Sl aa_0 a_0 ca_0)]) ⟨_, rfl, (H.ro 0 rfl)⟩ (.cons (c := [(Sl ab_1 b_1 cb_1)]) ⟨_, rfl, (H.ro 1 rfl)⟩ (.nil))) rfl) wn ?_
 rintro _ σ2 ⟨b1, rfl, H, -⟩
 obtain ⟨σ3, hw4, H, -⟩ := H.pub 0 rfl (Nat.zero_le _)
 rw [← hw4]; clear hw4
 obtain ⟨r5, hx6, h'⟩ := bind_some h
 clear h
 have h := h'; clear h'
 have hc7 := c_slices_Concat_impl_Hit_impl_Hit (aslices_0 := (some ⟨b1, 0, none⟩)) (cslices_0 := 2) hx6
 refine st_call (cx_call hc7 (ent_f hc7.fn rfl) hn0 (show Hp S0 σ0 _ ([Ch.ro 0 (Sl (some ⟨b1, 0, none⟩) ([a_0, b_1] : List (List (Int × Int))) 2) ([a_0, b_1] : List (List (Int × Int)))] ++ [Ch.ro 0 (Sl (some ⟨b1, 0, none⟩) ([a_0, b_1] : List (List (Int × Int))) 2) ([a_0, b_1] : List (List (Int × Int))), Ch.ro 0 (Sl aa_0 a_0 ca_0) a_0, Ch.ro 0 (Sl ab_1 b_1 cb_1) b_1]) from (H.sel' [0, 0, 1, 2] rfl rfl))) wn ?_
 rintro _ σ10 ⟨_, ⟨a8, c9, rfl, rfl⟩, H, -⟩
 replace H : Hp S0 σ0 σ10 [Ch.own 0 n0 (Sl a8 r5 c9) r5, Ch.ro 0 (Sl (some ⟨b1, 0, none⟩) ([a_0, b_1] : List (List (Int × Int))) 2) ([a_0, b_1] : List (List (Int × Int))), Ch.ro 0 (Sl aa_0 a_0 ca_0) a_0, Ch.ro 0 (Sl ab_1 b_1 cb_1) b_1] := H
 refine st (v := (Sl a8 r5 c9)) (rv_assign rfl) ?_
 refine w_end ?_
 refine q_then ?_
 refine c_seq ?_
 refine rg ?_
 refine st (v := (Sl a8 r5 c9)) (rv_move rfl) ?_
 replace H := H.ownLow 0 0 0 rfl (Nat.zero_le _) (Nat.zero_le _)
 obtain ⟨r11, hx12, h'⟩ := bind_some h
 clear h
 have h := h'; clear h'
 have hc13 := c_slices_SortFunc_impl_Hit_impl_Hit__impl_compareHits (ax_0 := a8) (cx_0 := c9) hx12
 refine st_call (cx_call hc13 (ent_f hc13.fn rfl) hn0 (show Hp S0 σ0 _ ([Ch.own 0 0 (Sl a8 r5 c9) r5] ++ [Ch.ro 0 (Sl (some ⟨b1, 0, none⟩) ([a_0, b_1] : List (List (Int × Int))) 2) ([a_0, b_1] : List (List (Int × Int))), Ch.ro 0 (Sl aa_0 a_0 ca_0) a_0, Ch.ro 0 (Sl ab_1 b_1 cb_1) b_1]) from (H.sel' [0, 1, 2, 3] rfl rfl))) wn ?_
 rintro _ σ15 ⟨_, ⟨rfl, rfl, hn14⟩, H, -⟩
 replace H : Hp S0 σ0 σ15 [Ch.own 0 0 (Sl a8 r11 c9) r11, Ch.ro 0 (Sl (some ⟨b1, 0, none⟩) ([a_0, b_1] : List (List (Int × Int))) 2) ([a_0, b_1] : List (List (Int × Int))), Ch.ro 0 (Sl aa_0 a_0 ca_0) a_0, Ch.ro 0 (Sl ab_1 b_1 cb_1) b_1] := H
 have hsl : (Sl a8 r5 c9) = (Sl a8 r11 c9) := sl_len hn14.symm
 try rw [hsl]
 try rw [hsl] at H
 clear hsl
 refine w_end ?_
 refine q_then ?_
 refine c_seq ?_
 refine c_seq ?_
 refine rg ?_
 refine st (v := (Sl a8 r11 c9)) (rv_move rfl) ?_
 refine st (v := (I (r11.length : Int))) (rv_len Try.underlying29 rfl) ?_
 refine st (v := (I 0)) (rv_move rfl) ?_
 refine w_end ?_
 refine q_then ?_
 obtain ⟨o16, hj, h'⟩ := bind_some h
 clear h
 refine c_cut (fun e a w => e = .normal ∧ ∃ (ρ : Nat → Value) (σ : St) (aj1 : Option Addr) (cj2 : Nat), a = fr 32 (updL ρ [(5, (Sl aj1 o16 cj2))]) ∧ w = σ.w ∧ Hp S0 σ0 σ [Ch.own n0 n0 (Sl aj1 o16 cj2) o16]) ?_ ?_
 ·clear h'
  rename _ = some o16 => h
  refine c_blk ?_
  replace H := H.nilOwn (Int × Int) n0 n0
  refine wp_loopM _ h (fun s17 a w => ∃ (ρ : Nat → Value) (σ : St) (aj1 : Option Addr) (cj2 : Nat), a = fr 32 (updL ρ [(5, (Sl aj1 s17.1 cj2)), (15, (Sl a8 r11 c9)), (16, (I (r11.length : Int))), (17, (I s17.2))]) ∧ w = σ.w ∧ Hp S0 σ0 σ [Ch.own n0 n0 (Sl aj1 s17.1 cj2) s17.1, Ch.own 0 0 (Sl a8 r11 c9) r11]) ⟨_, σ15, none, 0, fr_join ⟨rfl, rfl, rfl, rfl, trivial⟩, rfl, H.sel' [0, 1] rfl rfl⟩ ?_
  clear h H
  rintro s17 a w o ⟨ρ, σ18, a19, c20, rfl, rfl, H⟩ h hres
  refine c_seq ?_
  refine rg ?_
  refine st (v := (B (decide (s17.2 < (r11.length : Int))))) (rv_lss (a := s17.2) (b := (r11.length : Int)) rfl rfl) ?_
  refine w_end ?_
  refine q_then ?_
  refine c_seq ?_
  refine cd_cond (decide (s17.2 < (r11.length : Int))) rfl (fun hb21 => ?_) (fun hb21 => ?_)
  ·replace h := bif_t hb21 h
   refine c_skip ?_
   refine q_then ?_
   refine c_seq ?_
   obtain ⟨o22, hj, h'⟩ := bind_some h
   clear h
   refine c_cut (fun e a w => e = .normal ∧ ∃ (ρ : Nat → Value) (σ : St) (aj1 : Option Addr) (cj2 : Nat), a = fr 32 (updL ρ [(5, (Sl aj1 o22 cj2)), (15, (Sl a8 r11 c9)), (16, (I (r11.length : Int))), (17, (I s17.2))]) ∧ w = σ.w ∧ Hp S0 σ0 σ [Ch.own n0 n0 (Sl aj1 o22 cj2) o22, Ch.own 0 0 (Sl a8 r11 c9) r11]) ?_ ?_
   ·clear h'
    rename _ = some o22 => h
    refine c_blk ?_
    refine c_seq ?_
    refine rg ?_
    obtain ⟨x23, hx24, h'⟩ := bind_some h
    clear h
    have h := h'; clear h'
    obtain ⟨b26, o27, hi25, -⟩ := (H.own 1 rfl).ix hx24
    refine st (v := (pt b26 o27)) (rv_ix Try.underlying29 ti58 rfl rfl hi25) ?_
    obtain ⟨_, ⟨_, _, rfl, rfl, rfl⟩, hl28, hc29⟩ := ((H.own 1 rfl).at hx24 hi25).cells
    refine st (v := (.agg #[(I x23.1), (I x23.2)])) (rv_load Try.underlying58 rfl ti58 rfl hl28 hc29) ?_
    refine st_ex (ex_alloc (cs := [(I 0), (I 0)]) H hn0 ti58 rfl) wn ?_
    rintro _ σ31 ⟨b30, rfl, H, -⟩
    refine st_exS (ex_store_box (k := 0) (cs := [(I 0), (I 0)]) (vs := [(I x23.1), (I x23.2)]) (cs' := [(I x23.1), (I x23.2)]) H (i := 0) rfl ti58 rfl rfl rfl rfl rfl (Nat.le_of_ble_eq_true rfl) (by simp [plain]) rfl) wn ?_
    rintro σ32 ⟨H, -⟩
    refine w_end ?_
    refine q_then ?_
    refine c_seq ?_
    refine rg ?_
    refine st (v := (Sl a19 s17.1 c20)) (rv_move rfl) ?_
    refine st (v := (pt b30 0)) (rv_fieldAddr (off := 0) (ft := 3) Try.underlying58 rfl ti3 rfl rfl) ?_
    have hc33 := H.cell (u := (I x23.1)) (o' := 0) 0 0 rfl rfl rfl
    refine st (v := (I x23.1)) (rv_load1 Try.underlying3 rfl rfl hc33) ?_
    obtain ⟨r34, hx35, h'⟩ := bind_some h
    clear h
    have h := h'; clear h'
    have hc36 := c_impl_placeIn (alist_0 := a19) (clist_0 := c20) hx35
    have hle := Nat.le_trans hn0 H.size
    refine st_call (cx_lend (Loan.lend Loan.nil) hc36 (ent_f hc36.fn rfl) (show Hp S0 σ0 _ ([Ch.own n0 n0 (Sl a19 s17.1 c20) s17.1] ++ ([] ++ [Ch.bx n0 b30 0 [(I x23.1), (I x23.2)] [] [], Ch.own 0 0 (Sl a8 r11 c9) r11])) from (H.sel' [1, 0, 2] rfl rfl)) (by rintro _ _ _ ⟨rfl, rfl⟩; exact trivial)) wn ?_
    rintro _ σ37 ⟨_, ⟨rfl, rfl⟩, H, -, -⟩
    replace H : Hp S0 σ0 σ37 [Ch.own n0 n0 (Sl a19 s17.1 c20) s17.1, Ch.bx n0 b30 0 [(I x23.1), (I x23.2)] [] [], Ch.own 0 0 (Sl a8 r11 c9) r11] := H
    clear hle
    replace H : Hp S0 σ0 σ37 [Ch.own n0 n0 (Sl a19 s17.1 c20) s17.1, Ch.bx n0 b30 0 [(I x23.1), (I x23.2)] [] [], Ch.own 0 0 (Sl a8 r11 c9) r11] := H
    refine st (v := (B (decide (r34 < 0)))) (rv_lss (a := r34) (b := 0) rfl rfl) ?_
    refine w_end ?_
    refine q_then ?_
    refine cd_cond (decide (r34 < 0)) rfl (fun hb38 => ?_) (fun hb38 => ?_)
    ·replace h := bif_t hb38 h
     refine rg ?_
     refine st (v := (Sl a19 s17.1 c20)) (rv_move rfl) ?_
     have hc39 := H.cells 1 rfl
     refine st (v := (.agg #[(I x23.1), (I x23.2)])) (rv_load (cs := [(I x23.1), (I x23.2)]) Try.underlying58 rfl ti58 rfl rfl hc39) ?_
     refine st_ex (ex_buildSlice (el := n0) (xs := ([(x23.1, x23.2)] : List (Int × Int))) (ps := [(0, (.agg #[(I x23.1), (I x23.2)]))]) (cs := [(I x23.1), (I x23.2)]) H hn0 Try.underlying29 ti58 rfl rfl (by kernel_rfl) (.cons (c := [(I x23.1), (I x23.2)]) ⟨[(I x23.1)], [(I x23.2)], rfl, rfl, rfl⟩ (.nil)) rfl) wn ?_
     rintro _ σ41 ⟨b40, rfl, H, -⟩
     obtain ⟨xs42, hx43, h'⟩ := bind_some h
     clear h
     have h := h'; clear h'
     refine st_ex (ex_append H (i := 1) rfl Try.underlying29 Try.underlying29 ti58 rfl rfl (by decide) (H.own 0 rfl).rd hx43 hn0 rfl rfl) wn ?_
     rintro _ σ46 ⟨a44, c45, rfl, H, -⟩
     refine st (v := (Sl a44 xs42 c45)) (rv_assign rfl) ?_
     refine w_end ?_
     refine q_blk ?_
     obtain rfl := Option.some.inj h
     exact ⟨rfl, _, σ46, a44, c45, fr_join ⟨rfl, rfl, rfl, rfl, trivial⟩, rfl, H.sel' [0, 3] rfl rfl⟩
    ·replace h := bif_f hb38 h
     refine c_skip ?_
     refine q_blk ?_
     obtain rfl := Option.some.inj h
     exact ⟨rfl, _, σ37, a19, c20, fr_join ⟨rfl, rfl, rfl, rfl, trivial⟩, rfl, H.sel' [0, 2] rfl rfl⟩
   ·clear hj
    have h := h'
    clear h' H
    rintro e a w ⟨rfl, ρ, σ47, a48, c49, rfl, rfl, H⟩
    refine q_then ?_
    refine rg ?_
    refine st (v := (I (w64 (s17.2 + 1)))) (rv_add (a := s17.2) (b := 1) rfl rfl) ?_
    refine st (v := (I (w64 (s17.2 + 1)))) (rv_move rfl) ?_
    refine w_end ?_
    refine q_then ?_
    obtain rfl := Option.some.inj h
    exact ⟨_, rfl, _, σ47, a48, c49, fr_join ⟨rfl, rfl, rfl, rfl, trivial⟩, rfl, H.sel' [0, 1] rfl rfl⟩
  ·replace h := bif_f hb21 h
   refine c_exit ?_
   refine q_then_x ?_
   refine q_then_x ?_
   refine q_blk_hit ?_
   obtain rfl := Option.some.inj h
   obtain rfl := hres _ rfl
   exact ⟨rfl, _, σ18, a19, c20, fr_join ⟨rfl, trivial⟩, rfl, H.sel' [0] rfl rfl⟩
 ·clear hj
  have h := h'
  clear h' H
  rintro e a w ⟨rfl, ρ, σ50, a51, c52, rfl, rfl, H⟩
  refine q_then ?_
  refine c_seq ?_
  refine rg ?_
  refine st (v := (Sl a51 o16 c52)) (rv_move rfl) ?_
  refine st (v := (Sl a51 o16 c52)) (rv_assign rfl) ?_
  refine w_end ?_
  refine q_then ?_
  refine c_ret ?_
  obtain rfl := Option.some.inj h
  exact fin_ret (v := (Sl a51 o16 c52)) (results_ok Try.results56 (res_tmp (v := (Sl a51 o16 c52)) rfl res_nil) rfl) ⟨a51, c52, rfl, rfl⟩ (H.sel' [0] rfl rfl)

theorem c_maps_Keys_map_int_int_int_int {m_0 : List (Int × Int)} {mm_0 : Nat} {Om_0 : Obj} (hOm_0 : MiO Om_0 m_0) {r : Unit} (h : M.maps_Keys_map_int_int_int_int m_0 = some r) :
    Cal2 Try.prog 60 [(.map (some mm_0))] [Ch.ob 0 mm_0 Om_0] (fun n0 v L => ∃ (bz1 : Nat), v = (.func (.func 79) #[] #[(pt bz1 0)]) ∧ L = [Ch.bx n0 bz1 0 [(.map (some mm_0))] [] [], Ch.ob 0 mm_0 Om_0]) := by
 refine cal2 (n := 4) Try.func60 rfl rfl rfl rfl ?_
 intro S0 σ0 n0 hn0 H
 unfold M.maps_Keys_map_int_int_int_int at h
 refine c_seq ?_
 refine rg ?_
 refine st_ex (ex_box (cs := [(.map (some mm_0))]) H hn0 rfl rfl) wn ?_
 rintro _ σ2 ⟨b1, rfl, H, -⟩
 refine st (v := .nilFunc) (rv_assign rfl) ?_
 refine w_end ?_
 refine q_then ?_
 refine c_seq ?_
 refine rg ?_
 refine st (v := (.func (.func 79) #[] #[(pt b1 0)])) (rv_makeFunc (vs := [(pt b1 0)]) rfl) ?_
 refine st (v := (.func (.func 79) #[] #[(pt b1 0)])) (rv_assign rfl) ?_
 refine w_end ?_
 refine q_then ?_
 refine c_ret ?_
 obtain rfl := Option.some.inj h
 exact fin_ret (v := (.func (.func 79) #[] #[(pt b1 0)])) (results_ok Try.results60 (res_tmp (v := (.func (.func 79) #[] #[(pt b1 0)])) rfl res_nil) rfl) ⟨b1, rfl, rfl⟩ (H.sel' [0, 1] rfl rfl)

theorem c_impl_FuseRanks_1__p_map_int_int {x_0 : Int} {y_1 : Int} {p_2 : List (Int × Int)} {bp_2 op_2 mp_2 : Nat} {Op_2 : Obj} (hOp_2 : MiO Op_2 p_2) {r : Int} (h : M.impl_FuseRanks_1__p_map_int_int x_0 y_1 p_2 = some r) :
    Cal2 Try.prog 61 [(I x_0), (I y_1), (pt bp_2 op_2)] [Ch.ro 0 (Sl (some ⟨bp_2, op_2, none⟩) ([⟨mp_2⟩] : List MRef) 1) ([⟨mp_2⟩] : List MRef), Ch.ob 0 mp_2 Op_2] (fun n0 v L => v = (I r) ∧ L = [Ch.ob 0 mp_2 Op_2]) := by
 refine cal2 (n := 18) Try.func61 rfl rfl rfl rfl ?_
 intro S0 σ0 n0 hn0 H
 unfold M.impl_FuseRanks_1__p_map_int_int at h
 have hxp_2 : gidx ([⟨mp_2⟩] : List MRef) 0 = some ⟨mp_2⟩ := rfl
 have hip_2 : Ix (Sl (some ⟨bp_2, op_2, none⟩) ([⟨mp_2⟩] : List MRef) 1) 0 1 bp_2 op_2 := ix_one
 refine c_seq ?_
 refine rg ?_
 refine st (v := (I 0)) (rv_assign rfl) ?_
 refine w_end ?_
 refine q_then ?_
 refine c_seq ?_
 refine rg ?_
 have hc1 := ((H.ro 0 rfl).at hxp_2 hip_2).mref
 refine st (v := (.map (some mp_2))) (rv_load1 Try.underlying69 rfl rfl hc1) ?_
 refine st (v := (I y_1)) (rv_move rfl) ?_
 have hL2 := (H.ob 1 rfl).1
 refine st (v := (I (iget p_2 y_1))) (rv_lookupI (k := y_1) hOp_2 Try.underlying69 Try.underlying3 ti3 rfl rfl hL2) ?_
 have hc3 := ((H.ro 0 rfl).at hxp_2 hip_2).mref
 refine st (v := (.map (some mp_2))) (rv_load1 Try.underlying69 rfl rfl hc3) ?_
 refine st (v := (I x_0)) (rv_move rfl) ?_
 have hL4 := (H.ob 1 rfl).1
 refine st (v := (I (iget p_2 x_0))) (rv_lookupI (k := x_0) hOp_2 Try.underlying69 Try.underlying3 ti3 rfl rfl hL4) ?_
 obtain ⟨r5, hx6, h'⟩ := bind_some h
 clear h
 have h := h'; clear h'
 have hc7 := c_cmp_Compare_int hx6
 refine st_call (cx_call hc7 (ent_f hc7.fn rfl) hn0 (show Hp S0 σ0 _ ([] ++ [Ch.ro 0 (Sl (some ⟨bp_2, op_2, none⟩) ([⟨mp_2⟩] : List MRef) 1) ([⟨mp_2⟩] : List MRef), Ch.ob 0 mp_2 Op_2]) from (H.sel' [0, 1] rfl rfl))) wn ?_
 rintro _ σ8 ⟨_, ⟨rfl, rfl⟩, H, -⟩
 replace H : Hp S0 σ0 σ8 [Ch.ro 0 (Sl (some ⟨bp_2, op_2, none⟩) ([⟨mp_2⟩] : List MRef) 1) ([⟨mp_2⟩] : List MRef), Ch.ob 0 mp_2 Op_2] := H
 refine st (v := (I x_0)) (rv_move rfl) ?_
 refine st (v := (I y_1)) (rv_move rfl) ?_
 obtain ⟨r9, hx10, h'⟩ := bind_some h
 clear h
 have h := h'; clear h'
 have hc11 := c_cmp_Compare_int hx10
 refine st_call (cx_call hc11 (ent_f hc11.fn rfl) hn0 (show Hp S0 σ0 _ ([] ++ [Ch.ro 0 (Sl (some ⟨bp_2, op_2, none⟩) ([⟨mp_2⟩] : List MRef) 1) ([⟨mp_2⟩] : List MRef), Ch.ob 0 mp_2 Op_2]) from (H.sel' [0, 1] rfl rfl))) wn ?_
 rintro _ σ12 ⟨_, ⟨rfl, rfl⟩, H, -⟩
 replace H : Hp S0 σ0 σ12 [Ch.ro 0 (Sl (some ⟨bp_2, op_2, none⟩) ([⟨mp_2⟩] : List MRef) 1) ([⟨mp_2⟩] : List MRef), Ch.ob 0 mp_2 Op_2] := H
 refine st_ex (ex_buildSlice (el := n0) (xs := ([r5, r9] : List Int)) (ps := [(0, (I r5)), (1, (I r9))]) (cs := [(I r5), (I r9)]) H hn0 Try.underlying37 ti3 rfl rfl (by kernel_rfl) (.cons (c := [(I r5)]) rfl (.cons (c := [(I r9)]) rfl (.nil))) rfl) wn ?_
 rintro _ σ14 ⟨b13, rfl, H, -⟩
 obtain ⟨σ15, hw16, H, -⟩ := H.pub 0 rfl (Nat.le_refl _)
 rw [← hw16]; clear hw16
 replace H := H.roLow 0 0 rfl (Nat.zero_le _)
 obtain ⟨r17, hx18, h'⟩ := bind_some h
 clear h
 have h := h'; clear h'
 have hc19 := c_cmp_Or_int (avals_0 := (some ⟨b13, 0, none⟩)) (cvals_0 := 2) hx18
 refine st_call (cx_call hc19 (ent_f hc19.fn rfl) hn0 (show Hp S0 σ0 _ ([Ch.ro 0 (Sl (some ⟨b13, 0, none⟩) ([r5, r9] : List Int) 2) ([r5, r9] : List Int)] ++ [Ch.ro 0 (Sl (some ⟨b13, 0, none⟩) ([r5, r9] : List Int) 2) ([r5, r9] : List Int), Ch.ro n0 (Sl (some ⟨b13, 0, none⟩) ([r5, r9] : List Int) 2) ([r5, r9] : List Int), Ch.ro 0 (Sl (some ⟨bp_2, op_2, none⟩) ([⟨mp_2⟩] : List MRef) 1) ([⟨mp_2⟩] : List MRef), Ch.ob 0 mp_2 Op_2]) from (H.sel' [0, 0, 1, 2, 3] rfl rfl))) wn ?_
 rintro _ σ20 ⟨_, ⟨rfl, rfl⟩, H, -⟩
 replace H : Hp S0 σ0 σ20 [Ch.ro 0 (Sl (some ⟨b13, 0, none⟩) ([r5, r9] : List Int) 2) ([r5, r9] : List Int), Ch.ro n0 (Sl (some ⟨b13, 0, none⟩) ([r5, r9] : List Int) 2) ([r5, r9] : List Int), Ch.ro 0 (Sl (some ⟨bp_2, op_2, none⟩) ([⟨mp_2⟩] : List MRef) 1) ([⟨mp_2⟩] : List MRef), Ch.ob 0 mp_2 Op_2] := H
 refine st (v := (I r17)) (rv_assign rfl) ?_
 refine w_end ?_
 refine q_then ?_
 refine c_ret ?_
 obtain rfl := Option.some.inj h
 exact fin_ret (v := (I r17)) (results_ok Try.results61 (res_tmp (v := (I r17)) rfl res_nil) rfl) ⟨rfl, rfl⟩ (H.sel' [3] rfl rfl)

def sort78_ren : Go.Shelf.Ren := ⟨fun | 6 => 78 | 15 => 87 | 14 => 89 | 28 => 101 | 29 => 102 | 20 => 103 | 21 => 104 | 22 => 105 | 23 => 106 | 24 => 107 | 25 => 108 | 26 => 109 | 27 => 110 | 46 => 118 | 47 => 114 | 48 => 115 | 49 => 119 | 50 => 120 | 57 => 122 | n => n, fun | 22 => 37 | 24 => 3 | 25 => 75 | 3 => 3 | 39 => 98 | 0 => 0 | 53 => 111 | 55 => 113 | 4 => 4 | 46 => 104 | 45 => 103 | 50 => 108 | 5 => 5 | 9 => 9 | 66 => 120 | 70 => 124 | 76 => 128 | 77 => 129 | n => n, fun | n => n⟩
theorem sort78 : Go.Proofs.SlLaysF.n6 Try.prog sort78_ren := {
  mixed := by kernel_rfl
  f6 := ⟨Try.f78.name, by decide, Try.func78.trans (congrArg some (by kernel_rfl))⟩
  f14 := ⟨Try.f89.name, by decide, Try.func89.trans (congrArg some (by kernel_rfl))⟩
  f15 := Try.func87.trans (congrArg some (by kernel_rfl))
  f20 := ⟨Try.f103.name, by decide, Try.func103.trans (congrArg some (by kernel_rfl))⟩
  f21 := ⟨Try.f104.name, by decide, Try.func104.trans (congrArg some (by kernel_rfl))⟩
  f22 := ⟨Try.f105.name, by decide, Try.func105.trans (congrArg some (by kernel_rfl))⟩
  f23 := ⟨Try.f106.name, by decide, Try.func106.trans (congrArg some (by kernel_rfl))⟩
  f24 := ⟨Try.f107.name, by decide, Try.func107.trans (congrArg some (by kernel_rfl))⟩
  f25 := ⟨Try.f108.name, by decide, Try.func108.trans (congrArg some (by kernel_rfl))⟩
  f26 := ⟨Try.f109.name, by decide, Try.func109.trans (congrArg some (by kernel_rfl))⟩
  f27 := ⟨Try.f110.name, by decide, Try.func110.trans (congrArg some (by kernel_rfl))⟩
  f28 := Try.func101.trans (congrArg some (by kernel_rfl))
  f29 := Try.func102.trans (congrArg some (by kernel_rfl))
  f46 := ⟨Try.f118.name, by decide, Try.func118.trans (congrArg some (by kernel_rfl))⟩
  f47 := Try.func114.trans (congrArg some (by kernel_rfl))
  f48 := Try.func115.trans (congrArg some (by kernel_rfl))
  f49 := ⟨Try.f119.name, by decide, Try.func119.trans (congrArg some (by kernel_rfl))⟩
  f50 := ⟨Try.f120.name, by decide, Try.func120.trans (congrArg some (by kernel_rfl))⟩
  f57 := ⟨Try.f122.name, by decide, Try.func122.trans (congrArg some (by kernel_rfl))⟩
  t0 := Try.underlying0
  a0 := Try.isAgg0
  z0 := Try.sizeOf0
  v0 := Try.zeroValue0
  t3 := Try.underlying3
  a3 := Try.isAgg3
  z3 := Try.sizeOf3
  v3 := Try.zeroValue3
  t4 := Try.underlying4
  a4 := Try.isAgg4
  z4 := Try.sizeOf4
  v4 := Try.zeroValue4
  t5 := Try.underlying5
  a5 := Try.isAgg5
  z5 := Try.sizeOf5
  v5 := Try.zeroValue5
  t9 := Try.underlying9
  a9 := Try.isAgg9
  z9 := Try.sizeOf9
  v9 := Try.zeroValue9
  t22 := Try.underlying37
  a22 := Try.isAgg37
  z22 := Try.sizeOf37
  v22 := Try.zeroValue37
  a24 := Try.isAgg3
  z24 := Try.sizeOf3
  t25 := Try.underlying75
  a25 := Try.isAgg75
  z25 := Try.sizeOf75
  v25 := Try.zeroValue75
  t39 := Try.underlying98
  a39 := Try.isAgg98
  z39 := Try.sizeOf98
  v39 := Try.zeroValue98
  t45 := Try.underlying103
  a45 := Try.isAgg103
  z45 := Try.sizeOf103
  v45 := Try.zeroValue103
  t46 := Try.underlying104
  a46 := Try.isAgg104
  z46 := Try.sizeOf104
  v46 := Try.zeroValue104
  t50 := Try.underlying108
  a50 := Try.isAgg108
  z50 := Try.sizeOf108
  v50 := Try.zeroValue108
  t53 := Try.underlying111
  a53 := Try.isAgg111
  z53 := Try.sizeOf111
  v53 := Try.zeroValue111
  t55 := Try.underlying113
  a55 := Try.isAgg113
  z55 := Try.sizeOf113
  v55 := Try.zeroValue113
  t66 := Try.underlying120
  a66 := Try.isAgg120
  z66 := Try.sizeOf120
  v66 := Try.zeroValue120
  t70 := Try.underlying124
  a70 := Try.isAgg124
  z70 := Try.sizeOf124
  v70 := Try.zeroValue124
  t76 := Try.underlying128
  a76 := Try.isAgg128
  z76 := Try.sizeOf128
  v76 := Try.zeroValue128
  t77 := Try.underlying129
  a77 := Try.isAgg129
  z77 := Try.sizeOf129
  v77 := Try.zeroValue129 }

/-- What the iterator does: it hands the keys over, in whatever order. -/
theorem it_slices_SortedFunc_int__maps_Keys_map_int_int_int_int_1__impl_FuseRanks_1 {m : List (Int × Int)} {E : Array MapEntry} {clk : Nat} (hm : MiOk E clk m) {b o bm l : Nat} {F : List Int → List Ch → Prop} {S0 : BS} {σ0 : St}
    (hbx : ∀ {t : List Int} {L0 R : List Ch} {σ : St}, F t L0 → Hp S0 σ0 σ (L0 ++ R) → HCell σ.w.heap b o = some (.map (some bm)) ∧ σ.w.heap[bm]? = some (.map E clk))
    (hy : ∀ (t : List Int) (x : Int), t.length < m.length → ∀ (σ : St) (L0 R : List Ch), F t L0 → Hp S0 σ0 σ (L0 ++ R) → YieldAt Fence.wide 0 Try.prog l [I x].toArray σ.w fun e W' => e = .returned (.bool true) ∧ ∃ σ' L0', W' = σ'.w ∧ F (t ++ [x]) L0' ∧ Hp S0 σ0 σ' (L0' ++ R))
    (σ : St) (L0 : List Ch) (h0 : F [] L0) (H : Hp S0 σ0 σ L0) :
    CallsIn Fence.wide 0 Try.prog 79 [.func (.yield l) #[] #[], (pt b o)].toArray σ.w fun e W' => (∃ v, e = .returned v) ∧ ∃ t σ' L0', t.Perm (m.map (·.1)) ∧ W' = σ'.w ∧ F t L0' ∧ Hp S0 σ0 σ' L0' := by
  refine enterI (n := 14) Try.func79 rfl rfl rfl ?_
  refine wpIn_seq ?_
  obtain ⟨hc, hb⟩ := hbx (R := []) h0 (by rw [List.append_nil]; exact H)
  refine rgI ?_
  refine stI nofun (v := (.map (some bm))) (rv_load1 Try.underlying69 rfl rfl hc) ?_
  refine stI_ex nofun (ex_range (lo := 0) H (Nat.zero_le _) Try.underlying69 rfl hb) ?_
  rintro _ σ1 ⟨r, rfl, H1, -⟩
  replace H1 : Hp S0 σ0 σ1 (L0 ++ [Ch.ob 0 r (.mapIter (some bm) clk #[] clk)]) := Hp.swapA (A := [Ch.ob 0 r (.mapIter (some bm) clk #[] clk)]) H1
  refine endI ?_
  refine q_then ?_
  refine wpIn_block ?_
  refine wpIn_loop_ghost (fun k a' w' => ∃ t seen S c0 L0 ρ σ, t.length + k = m.length ∧ a' = fr 14 (updL ρ [(0, .func (.yield l) #[] #[]), (1, pt b o), (5, .pointer (some ⟨r, 0, none⟩))]) ∧ w' = σ.w ∧ F t L0 ∧ ItR E seen t S ∧ clk ≤ c0 ∧ Hp S0 σ0 σ (L0 ++ [Ch.ob 0 r (.mapIter (some bm) clk seen c0)])) m.length ⟨[], #[], [], clk, L0, _, σ1, by simp, fr_join ⟨rfl, rfl, rfl, trivial⟩, rfl, h0, ItR.start, Nat.le_refl _, H1⟩ ?_
  clear hc hb h0 H H1
  rintro k _ _ ⟨t, seen, S, c0, L0, ρ, σ, hik, rfl, rfl, hF, hI, hc0, H⟩
  refine wpIn_seq ?_
  refine rgI ?_
  obtain ⟨-, hb⟩ := hbx hF H
  refine stI_ex nofun (ex_next (Hp.swapA H) rfl hb hm.born hc0) ?_
  rintro v σ2 (⟨h0, rfl, H2⟩ | ⟨e, he, rfl, H2⟩)
  · refine stI nofun (v := (B false)) (rv_extract rfl rfl) ?_
    refine endI ?_
    refine q_then ?_
    refine wpIn_seq ?_
    refine cdI_cond false rfl (fun hb => by cases hb) (fun _ => ?_)
    refine wpIn_exit ?_
    refine q_then_x ?_
    refine q_then_x ?_
    refine q_blk_hit ?_
    exact fin_plain' (v := .tuple #[]) (results_ok Try.results79 res_nil rfl) ⟨⟨_, rfl⟩, t, σ2, L0, hI.done hm h0, rfl, hF, H2.tail⟩
  · have heE : e ∈ E.toList := (ItR.step hI he (Classical.choose_spec (Classical.choose_spec (hm.keyI (by unfold leftOf at he; rw [Array.toList_filter, List.mem_filter] at he; exact he.1)))).1).2
    obtain ⟨x, y, hx, hyv, -⟩ := hm.keyI heE
    obtain ⟨hI2, -⟩ := hI.step he hx
    have hlen := hI2.len hm
    rw [List.length_append, List.length_singleton] at hlen
    have H3 : Hp S0 σ0 σ2 (L0 ++ [Ch.ob 0 r (.mapIter (some bm) clk (seen.push e.born) clk)]) := Hp.swapA (A := [Ch.ob 0 r (.mapIter (some bm) clk (seen.push e.born) clk)]) H2
    obtain ⟨-, hb2⟩ := hbx hF H3
    refine stI nofun (v := (B true)) (rv_extract rfl rfl) ?_
    refine endI ?_
    refine q_then ?_
    refine wpIn_seq ?_
    refine cdI_cond true rfl (fun _ => ?_) (fun hb => by cases hb)
    refine wpIn_skip ?_
    refine q_then ?_
    refine wpIn_block ?_
    refine wpIn_seq ?_
    refine rgI ?_
    refine stI nofun (v := (.tuple #[e.key, e.val])) (rv_entry rfl H2.head.1 hb2 heE hm.nd) ?_
    refine stI nofun (v := (I x)) (rv_extract rfl (by simp [hx])) ?_
    refine stI nofun (v := (I x)) (rv_assign rfl) ?_
    refine endI ?_
    refine q_then ?_
    refine wpIn_seq ?_
    refine rgI ?_
    refine stI nofun (v := (.func (.yield l) #[] #[])) (rv_move rfl) ?_
    refine stI nofun (v := (I x)) (rv_move rfl) ?_
    refine stI_yield (args := [(I x)]) rfl rfl (hy t x (by omega) σ2 L0 _ hF H3) ?_
    rintro e' w' ⟨rfl, σ4, L4, rfl, hF4, H4⟩
    refine ⟨_, rfl, ?_⟩
    refine stI nofun (v := (B (!true))) (rv_not rfl) ?_
    refine endI ?_
    refine q_then ?_
    refine cdI_cond false rfl (fun hb => by cases hb) (fun _ => ?_)
    refine wpIn_skip ?_
    refine q_blk ?_
    exact ⟨k - 1, by omega, t ++ [x], _, _, _, L4, _, σ4, by rw [List.length_append, List.length_singleton]; omega, fr_join ⟨rfl, rfl, rfl, trivial⟩, rfl, hF4, hI2, Nat.le_refl _, H4⟩
/-- The keys are appended. -/
theorem ap_slices_SortedFunc_int__maps_Keys_map_int_int_int_int_1__impl_FuseRanks_1 {m : List (Int × Int)} {O : Obj} (hO : MiO O m) (hn : m.length ≤ 1000000) {lo b o bm lm : Nat} {pre suf : List Value} :
    Cal2 Try.prog 88 [.slice none 0 0, (.func (.func 79) #[] #[(pt b o)])] [Ch.bx lo b o [(.map (some bm))] pre suf, Ch.ob lm bm O] (fun n0 v L => ∃ (a : Option Addr) (c : Nat) (ss : List Int), ss.Perm (m.map (·.1)) ∧ v = Sl a ss c ∧ L = [Ch.own n0 n0 (Sl a ss c) ss, Ch.bx lo b o [(.map (some bm))] pre suf, Ch.ob lm bm O]) := by
  obtain ⟨E, clk, rfl, hm⟩ := hO
  refine ⟨⟨_, _, Try.func88, rfl, rfl⟩, fun σ0 n0 hn0 H => ?_⟩
  refine callsIn_wide.1 (enterI (n := 13) Try.func88 rfl rfl rfl ?_)
  refine wpIn_seq ?_
  refine rgI ?_
  refine stI_ex nofun (ex_box (cs := [.slice none 0 0]) H hn0 rfl rfl) ?_
  rintro _ σ1 ⟨b1, rfl, H, -⟩
  refine stI nofun (v := (.slice none 0 0)) (rv_assign rfl) ?_
  refine endI ?_
  refine q_then ?_
  refine wpIn_seq ?_
  refine wpIn_seq ?_
  refine rgI ?_
  refine stI nofun (v := (.func (.func 79) #[] #[(pt b o)])) (rv_move rfl) ?_
  refine endI ?_
  refine q_then ?_
  refine wpIn_block ?_
  replace H := H.nilOwn Int n0 n0
  refine wp_rangeS (gf := 79) (lb := #[(pt b o)]) (t0 := ([] : List Int)) (fun t e t' => ∃ x : Int, e = [I x].toArray ∧ t' = t ++ [x] ∧ t.length < m.length) (fun t => t.Perm (m.map (·.1))) (by rw [fr_eval]; rfl) (eg_of ⟨_, _, Try.func79, rfl, rfl⟩) (by rintro t e t' ⟨x, rfl, -⟩; rfl)
    (fun t L => ∃ a' c', L = [Ch.own n0 n0 (Sl a' t c') t, Ch.bx n0 b1 0 [(Sl a' t c')] [] [], Ch.bx lo b o [(.map (some bm))] pre suf, Ch.ob lm bm (.map E clk)]) ⟨none, 0, rfl⟩ H ?_ ?_ ?_
  · intro l F hF hy σ L0 h0 H
    refine it_slices_SortedFunc_int__maps_Keys_map_int_int_int_int_1__impl_FuseRanks_1 hm (F := F) (bm := bm) (fun {t L0 R σ} h H => ?_) (fun t x hx σ L0 R h H => hy t _ _ ⟨x, rfl, rfl, hx⟩ σ L0 R h H) σ L0 h0 H
    obtain ⟨L, R', ⟨a', c', rfl⟩, rfl⟩ := hF h
    rw [List.append_assoc] at H
    have H2 := H.drop R'
    exact ⟨H2.cells 2 rfl 0 (by simp), (H2.ob 3 rfl).1⟩
  · rintro S0 σb hle l D t _ _ rc rc' ⟨x, rfl, rfl, hx⟩ σ _ ⟨a', c', rfl⟩ H
    have hn0 : n0 ≤ σb.size := Nat.le_trans hn0 hle
    rw [round_fr]
    refine rgI ?_
    refine stI nofun (v := (I x)) (rv_assign rfl) ?_
    refine endI ?_
    refine q_then ?_
    refine ⟨σ, _, rfl, H, ?_⟩
    clear H
    intro σ4 H
    refine wpIn_block ?_
    refine rgI ?_
    have hc1 := H.cells 3 rfl
    refine stI nofun (v := (Sl a' t c')) (rv_load1 Try.underlying37 rfl rfl (hc1 0 (by simp))) ?_
    refine stI nofun (v := (I x)) (rv_move rfl) ?_
    refine stI_ex nofun (ex_buildSlice (lo := n0) (el := n0) (xs := ([x] : List Int)) (ps := [(0, (I x))]) (cs := [(I x)]) H hn0 Try.underlying37 ti3 rfl rfl (by kernel_rfl) (.cons (c := [(I x)]) rfl .nil) rfl) ?_
    rintro _ σ5 ⟨b10, rfl, H, -⟩
    refine stI_ex nofun (ex_append H (i := 3) rfl Try.underlying37 Try.underlying37 ti3 rfl rfl (by decide) (H.own 0 rfl).rd (show gapp t [x] = some (t ++ [x]) from if_pos (by simp; omega)) hn0 rfl rfl) ?_
    rintro _ σ6 ⟨a2, c2, rfl, H, -⟩
    refine stI_exS nofun (ex_store_box (vs := [(Sl a2 (t ++ [x]) c2)]) (cs' := [(Sl a2 (t ++ [x]) c2)]) (k := 0) H (i := 4) rfl ti37 rfl rfl rfl rfl rfl (Nat.le_of_ble_eq_true rfl) (by simp [plain]) rfl) ?_
    rintro σ7 ⟨H, -⟩
    refine endI ?_
    refine q_blk ?_
    exact ⟨rfl, σ7, _, rfl, ⟨a2, c2, rfl⟩, H.sel' [3, 4, 1, 0, 5, 6] rfl rfl⟩
  · rintro D σ _ t hfin ⟨a', c', rfl⟩ H
    refine q_blk ?_
    refine q_then ?_
    refine wpIn_seq ?_
    refine rgD (ds := [{ target := .collected D, args := #[] }]) ?_
    have hc1 := H.cells 2 rfl
    refine stD nofun (v := (Sl a' t c')) (rv_load1 Try.underlying37 rfl rfl (hc1 0 (by simp))) ?_
    refine stD nofun (v := (Sl a' t c')) (rv_assign rfl) ?_
    refine endD ?_
    refine q_then ?_
    refine wpIn_ret ?_
    exact fin_mark (v := Sl a' t c') H (results_ok Try.results88 (res_tmp (v := Sl a' t c') rfl res_nil) rfl) ⟨_, _, _, rfl, rfl, ⟨a', c', t, hfin, rfl, rfl⟩, (H.putDf _).sel' [0, 2, 3] rfl rfl⟩
/-- The keys are collected. -/
theorem co_slices_SortedFunc_int__maps_Keys_map_int_int_int_int_1__impl_FuseRanks_1 {m : List (Int × Int)} {O : Obj} (hO : MiO O m) (hn : m.length ≤ 1000000) {lo b o bm lm : Nat} {pre suf : List Value} :
    Cal2 Try.prog 77 [(.func (.func 79) #[] #[(pt b o)])] [Ch.bx lo b o [(.map (some bm))] pre suf, Ch.ob lm bm O] (fun n0 v L => ∃ (a : Option Addr) (c : Nat) (ss : List Int), ss.Perm (m.map (·.1)) ∧ v = Sl a ss c ∧ L = [Ch.own n0 n0 (Sl a ss c) ss, Ch.bx lo b o [(.map (some bm))] pre suf, Ch.ob lm bm O]) := by
  refine cal2 (n := 5) Try.func77 rfl rfl rfl rfl ?_
  intro S0 σ0 n0 hn0 H
  refine c_seq ?_
  refine rg ?_
  refine st (v := (.slice none 0 0)) (rv_assign rfl) ?_
  refine w_end ?_
  refine q_then ?_
  refine c_seq ?_
  refine rg ?_
  refine st (v := (.func (.func 79) #[] #[(pt b o)])) (rv_move rfl) ?_
  have hc3 := ap_slices_SortedFunc_int__maps_Keys_map_int_int_int_int_1__impl_FuseRanks_1 hO hn (lo := lo) (b := b) (o := o) (bm := bm) (lm := lm) (pre := pre) (suf := suf)
  refine st_call (cx_call hc3 (ent_f hc3.fn rfl) hn0 (show Hp S0 σ0 _ ([Ch.bx lo b o [(.map (some bm))] pre suf, Ch.ob lm bm O] ++ []) from (H.sel' [0, 1] rfl rfl))) wn ?_
  rintro _ σ6 ⟨_, ⟨a4, c5, ss, hp, rfl, rfl⟩, H, -⟩
  refine st (v := (Sl a4 ss c5)) (rv_assign rfl) ?_
  refine w_end ?_
  refine q_then ?_
  refine c_ret ?_
  exact fin_ret (v := (Sl a4 ss c5)) (results_ok Try.results77 (res_tmp (v := (Sl a4 ss c5)) rfl res_nil) rfl) ⟨a4, c5, ss, hp, rfl, rfl⟩ (H.sel' [0, 1, 2] rfl rfl)
/-- The keys are sorted. -/
theorem so_slices_SortedFunc_int__maps_Keys_map_int_int_int_int_1__impl_FuseRanks_1 {m : List (Int × Int)} {O : Obj} (hO : MiO O m) {ss : List Int} (hn : ss.length ≤ 1000000) (hs : ∀ x ∈ ss, ∀ y ∈ ss, ∃ r, M.impl_FuseRanks_1__p_map_int_int x y m = some r) (hL : Lc (fun x y => (M.impl_FuseRanks_1__p_map_int_int x y m).getD 0) ss) {lo b o bm : Nat} {pre suf : List Value} {a : Option Addr} {c : Nat} :
    Cal2 Try.prog 78 [Sl a ss c, (.func (.func 61) #[] #[(pt b o)])] [Ch.own 0 0 (Sl a ss c) ss, Ch.bx lo b o [(.map (some bm))] pre suf, Ch.ob 0 bm O]
      (fun _ v L => v = .tuple #[] ∧ L = [Ch.own 0 0 (Sl a (sortL (fun x y => (M.impl_FuseRanks_1__p_map_int_int x y m).getD 0) ss) c) (sortL (fun x y => (M.impl_FuseRanks_1__p_map_int_int x y m).getD 0) ss), Ch.bx lo b o [(.map (some bm))] pre suf, Ch.ob 0 bm O]) := by
  have hB : ∀ σ : St, allAs σ [Ch.bx lo b o [(.map (some bm))] pre suf, Ch.ob 0 bm O] → apart [Ch.bx lo b o [(.map (some bm))] pre suf, Ch.ob 0 bm O] → ∃ σp, Pb (cov [Ch.bx lo b o [(.map (some bm))] pre suf, Ch.ob 0 bm O]) σ σp ∧ (RS 0 σp (Sl (some ⟨b, o, none⟩) ([⟨bm⟩] : List MRef) 1) ([⟨bm⟩] : List MRef) ∧ (Ch.ob 0 bm O).as σp) := by
    intro σ hA hP
    obtain ⟨σ0, p0, r0, a0⟩ := pubBox (α := MRef) (x := ⟨bm⟩) hA hP rfl
    exact ⟨σ0, p0.mono (fun i h => .inl h), r0, a0.1⟩
  have hE : ∀ σ σ' : St, Ext σ σ' → (∀ i, cov [Ch.bx lo b o [(.map (some bm))] pre suf, Ch.ob 0 bm O] i → i < σ.size → σ'.w.heap[i]? = σ.w.heap[i]? ∧ σ'.vis i = σ.vis i) → (RS 0 σ (Sl (some ⟨b, o, none⟩) ([⟨bm⟩] : List MRef) 1) ([⟨bm⟩] : List MRef) ∧ (Ch.ob 0 bm O).as σ) → (RS 0 σ' (Sl (some ⟨b, o, none⟩) ([⟨bm⟩] : List MRef) 1) ([⟨bm⟩] : List MRef) ∧ (Ch.ob 0 bm O).as σ') := by
    intro σ σ' hx hi hp
    obtain ⟨h1, h2⟩ := hi bm (.inr (.inl rfl)) (lt_of_block hp.2.1)
    exact ⟨hp.1.ext hx, h1.trans hp.2.1, h2.trans hp.2.2.1, Nat.zero_le _⟩
  have hC : ∀ σ : St, (RS 0 σ (Sl (some ⟨b, o, none⟩) ([⟨bm⟩] : List MRef) 1) ([⟨bm⟩] : List MRef) ∧ (Ch.ob 0 bm O).as σ) → ∀ x ∈ ss, ∀ y ∈ ss, Calls Try.prog 61 ([I x, I y] ++ [(pt b o)]).toArray σ.w fun e w' => e = .returned (I ((M.impl_FuseRanks_1__p_map_int_int x y m).getD 0)) ∧ ∃ q os, w' = Go.Sort.grow (σ.w.drewN q) os := by
    intro σ hp x hx y hy
    obtain ⟨r, hr⟩ := hs x hx y hy
    have hc := c_impl_FuseRanks_1__p_map_int_int (bp_2 := b) (op_2 := o) (mp_2 := bm) (Op_2 := O) (hOp_2 := hO) hr
    refine (hc.runs σ 0 (Nat.zero_le _) (Hp.begin ⟨hp.1, hp.2, trivial⟩ ⟨fun _ h => h.elim, ⟨fun _ _ h => h, trivial⟩⟩)).mono ?_
    rintro e w' ⟨v, σ', L', rfl, rfl, ⟨rfl, rfl⟩, H⟩
    exact ⟨by rw [hr]; rfl, (Md.exact (H.md.mono fun i h => h.elim (fun h => h.elim) (fun h => h.elim (fun h => h) (fun h => h.elim))) hp.2.1 hp.2.2.1 (H.ob 0 rfl).1 (H.ob 0 rfl).2.1).grown⟩
  refine (sort1_cal2 sort78 (xs := ss) (a := a) (c := c) (g := 61) (cb := [(pt b o)]) (B := [Ch.bx lo b o [(.map (some bm))] pre suf, Ch.ob 0 bm O]) (fun x y => (M.impl_FuseRanks_1__p_map_int_int x y m).getD 0) hL hn ⟨_, _, Try.func61, rfl, rfl⟩ _ hE hB hC).conv ?_
  rintro n v L ⟨rfl, rfl⟩
  exact ⟨_, ⟨rfl, rfl⟩, fun H => H⟩
theorem c_slices_SortedFunc_int__maps_Keys_map_int_int_int_int_1__impl_FuseRanks_1 {seq_0_0 : List (Int × Int)} {cmp_1_0 : List (Int × Int)} {mseq_0_0 : Nat} {Oseq_0_0 : Obj} (hOseq_0_0 : MiO Oseq_0_0 seq_0_0) {loseq_0_0 bseq_0_0 oseq_0_0 : Nat} {preseq_0_0 sufseq_0_0 : List Value} {locmp_1_0 bcmp_1_0 ocmp_1_0 : Nat} {precmp_1_0 sufcmp_1_0 : List Value} {r : List Int} (h : M.slices_SortedFunc_int__maps_Keys_map_int_int_int_int_1__impl_FuseRanks_1 seq_0_0 cmp_1_0 = some r) :
    Cal2 Try.prog 59 [(.func (.func 79) #[] #[(pt bseq_0_0 oseq_0_0)]), (.func (.func 61) #[] #[(pt bcmp_1_0 ocmp_1_0)])] [Ch.bx loseq_0_0 bseq_0_0 oseq_0_0 [(.map (some mseq_0_0))] preseq_0_0 sufseq_0_0, Ch.ob 0 mseq_0_0 Oseq_0_0, Ch.bx locmp_1_0 bcmp_1_0 ocmp_1_0 [(.map (some mseq_0_0))] precmp_1_0 sufcmp_1_0] (fun n0 v L => ∃ (az1 : Option Addr), ∃ (cz2 : Nat), v = (Sl az1 r cz2) ∧ L = [Ch.own 0 n0 (Sl az1 r cz2) r, Ch.bx loseq_0_0 bseq_0_0 oseq_0_0 [(.map (some mseq_0_0))] preseq_0_0 sufseq_0_0, Ch.ob 0 mseq_0_0 Oseq_0_0, Ch.bx locmp_1_0 bcmp_1_0 ocmp_1_0 [(.map (some mseq_0_0))] precmp_1_0 sufcmp_1_0]) := by
  obtain ⟨hn, hs, hL, rfl⟩ := sortD_some h
  have hn' : seq_0_0.length ≤ 1000000 := by simpa using hn
  refine cal2 (n := 12) Try.func59 rfl rfl rfl rfl ?_
  intro S0 σ0 n0 hn0 H
  refine c_seq ?_
  refine rg ?_
  refine st (v := (.slice none 0 0)) (rv_assign rfl) ?_
  refine w_end ?_
  refine q_then ?_
  refine c_seq ?_
  refine rg ?_
  refine st (v := (.func (.func 79) #[] #[(pt bseq_0_0 oseq_0_0)])) (rv_move rfl) ?_
  have hc3 := co_slices_SortedFunc_int__maps_Keys_map_int_int_int_int_1__impl_FuseRanks_1 hOseq_0_0 hn' (lo := loseq_0_0) (b := bseq_0_0) (o := oseq_0_0) (bm := mseq_0_0) (lm := 0) (pre := preseq_0_0) (suf := sufseq_0_0)
  refine st_call (cx_call hc3 (ent_f hc3.fn rfl) hn0 (show Hp S0 σ0 _ ([Ch.bx loseq_0_0 bseq_0_0 oseq_0_0 [(.map (some mseq_0_0))] preseq_0_0 sufseq_0_0, Ch.ob 0 mseq_0_0 Oseq_0_0] ++ [Ch.bx locmp_1_0 bcmp_1_0 ocmp_1_0 [(.map (some mseq_0_0))] precmp_1_0 sufcmp_1_0]) from (H.sel' [0, 1, 2] rfl rfl))) wn ?_
  rintro _ σ6 ⟨_, ⟨a4, c5, ss, hp, rfl, rfl⟩, H, -⟩
  refine st (v := (Sl a4 ss c5)) (rv_assign rfl) ?_
  refine w_end ?_
  refine q_then ?_
  refine c_seq ?_
  refine rg ?_
  refine st (v := (Sl a4 ss c5)) (rv_move rfl) ?_
  refine st (v := (.func (.func 61) #[] #[(pt bcmp_1_0 ocmp_1_0)])) (rv_move rfl) ?_
  obtain ⟨he, hL2⟩ := sortL_of_perm hL hp
  have hc9 := so_slices_SortedFunc_int__maps_Keys_map_int_int_int_int_1__impl_FuseRanks_1 hOseq_0_0 (ss := ss) (by rw [hp.length_eq]; exact hn) (fun x hx y hy => hs x (hp.mem_iff.1 hx) y (hp.mem_iff.1 hy)) hL2 (lo := locmp_1_0) (b := bcmp_1_0) (o := ocmp_1_0) (bm := mseq_0_0) (pre := precmp_1_0) (suf := sufcmp_1_0) (a := a4) (c := c5)
  rw [he] at hc9
  replace H : Hp S0 σ0 σ6 [Ch.own n0 n0 (Sl a4 ss c5) ss, Ch.bx loseq_0_0 bseq_0_0 oseq_0_0 [(.map (some mseq_0_0))] preseq_0_0 sufseq_0_0, Ch.ob 0 mseq_0_0 Oseq_0_0, Ch.bx locmp_1_0 bcmp_1_0 ocmp_1_0 [(.map (some mseq_0_0))] precmp_1_0 sufcmp_1_0] := H
  replace H := H.ownLow 0 0 0 rfl (Nat.zero_le _) (Nat.zero_le _)
  refine st_call (cx_call hc9 (ent_f hc9.fn rfl) hn0 (show Hp S0 σ0 _ ([Ch.own 0 0 (Sl a4 ss c5) ss, Ch.bx locmp_1_0 bcmp_1_0 ocmp_1_0 [(.map (some mseq_0_0))] precmp_1_0 sufcmp_1_0, Ch.ob 0 mseq_0_0 Oseq_0_0] ++ [Ch.bx loseq_0_0 bseq_0_0 oseq_0_0 [(.map (some mseq_0_0))] preseq_0_0 sufseq_0_0]) from (H.sel' [0, 3, 2, 1] rfl rfl))) wn ?_
  rintro _ σ11 ⟨_, ⟨rfl, rfl⟩, H, -⟩
  have hsl : (Sl a4 ss c5) = (Sl a4 (sortL (fun x y => (M.impl_FuseRanks_1__p_map_int_int x y seq_0_0).getD 0) (seq_0_0.map (·.1))) c5) := sl_len (by rw [sortL_len, hp.length_eq])
  try rw [hsl]
  try rw [hsl] at H
  clear hsl
  refine w_end ?_
  refine q_then ?_
  refine c_seq ?_
  refine rg ?_
  refine st (v := (Sl a4 (sortL (fun x y => (M.impl_FuseRanks_1__p_map_int_int x y seq_0_0).getD 0) (seq_0_0.map (·.1))) c5)) (rv_move rfl) ?_
  refine st (v := (Sl a4 (sortL (fun x y => (M.impl_FuseRanks_1__p_map_int_int x y seq_0_0).getD 0) (seq_0_0.map (·.1))) c5)) (rv_assign rfl) ?_
  refine w_end ?_
  refine q_then ?_
  refine c_ret ?_
  replace H : Hp S0 σ0 σ11 [Ch.own 0 0 (Sl a4 (sortL (fun x y => (M.impl_FuseRanks_1__p_map_int_int x y seq_0_0).getD 0) (seq_0_0.map (·.1))) c5) (sortL (fun x y => (M.impl_FuseRanks_1__p_map_int_int x y seq_0_0).getD 0) (seq_0_0.map (·.1))), Ch.bx locmp_1_0 bcmp_1_0 ocmp_1_0 [(.map (some mseq_0_0))] precmp_1_0 sufcmp_1_0, Ch.ob 0 mseq_0_0 Oseq_0_0, Ch.bx loseq_0_0 bseq_0_0 oseq_0_0 [(.map (some mseq_0_0))] preseq_0_0 sufseq_0_0] := H
  replace H := H.ownSc 0 0 n0 rfl (Nat.le_refl _)
  exact fin_ret (v := (Sl a4 (sortL (fun x y => (M.impl_FuseRanks_1__p_map_int_int x y seq_0_0).getD 0) (seq_0_0.map (·.1))) c5)) (results_ok Try.results59 (res_tmp (v := (Sl a4 (sortL (fun x y => (M.impl_FuseRanks_1__p_map_int_int x y seq_0_0).getD 0) (seq_0_0.map (·.1))) c5)) rfl res_nil) rfl) ⟨a4, c5, rfl, rfl⟩ (H.sel' [0, 3, 2, 1] rfl rfl)


theorem c_impl_FuseRanks {a_0 : List (Int × Int)} {b_1 : List (Int × Int)} {aa_0 : Option Addr} {ca_0 : Nat} {ab_1 : Option Addr} {cb_1 : Nat} {r : (List Int)} (h : M.impl_FuseRanks a_0 b_1 = some r) :
    Cal2 Try.prog 26 [(Sl aa_0 a_0 ca_0), (Sl ab_1 b_1 cb_1)] [Ch.ro 0 (Sl aa_0 a_0 ca_0) a_0, Ch.ro 0 (Sl ab_1 b_1 cb_1) b_1] (fun n0 v L => ∃ (az1 : Option Addr), ∃ (cz2 : Nat), v = (Sl az1 r cz2) ∧ L = [Ch.own 0 n0 (Sl az1 r cz2) r]) := by
 refine cal2 (n := 42) Try.func26 rfl rfl rfl rfl ?_
 intro S0 σ0 n0 hn0 H
 unfold M.impl_FuseRanks at h
 refine c_seq ?_
 refine rg ?_
 refine st (v := (.slice none 0 0)) (rv_assign rfl) ?_
 refine w_end ?_
 refine q_then ?_
 refine c_seq ?_
 refine c_seq ?_
 obtain ⟨o1, hj, h'⟩ := bind_some h
 clear h
 refine c_cut (fun e a w => e = .normal ∧ ∃ (ρ : Nat → Value) (σ : St), a = fr 42 (updL ρ [(0, (Sl aa_0 a_0 ca_0)), (1, (Sl ab_1 b_1 cb_1)), (15, (B o1))]) ∧ w = σ.w ∧ Hp S0 σ0 σ [Ch.ro 0 (Sl aa_0 a_0 ca_0) a_0, Ch.ro 0 (Sl ab_1 b_1 cb_1) b_1]) ?_ ?_
 ·clear h'
  rename _ = some o1 => h
  refine rg ?_
  refine st (v := (Sl aa_0 a_0 ca_0)) (rv_move rfl) ?_
  obtain ⟨r2, hx3, h'⟩ := bind_some h
  clear h
  have h := h'; clear h'
  have hc4 := c_impl_ValidHits (alist_0 := aa_0) (clist_0 := ca_0) hx3
  refine st_call (cx_call hc4 (ent_f hc4.fn rfl) hn0 (show Hp S0 σ0 _ ([Ch.ro 0 (Sl aa_0 a_0 ca_0) a_0] ++ [Ch.ro 0 (Sl aa_0 a_0 ca_0) a_0, Ch.ro 0 (Sl ab_1 b_1 cb_1) b_1]) from (H.sel' [0, 0, 1] rfl rfl))) wn ?_
  rintro _ σ5 ⟨_, ⟨rfl, rfl⟩, H, -⟩
  replace H : Hp S0 σ0 σ5 [Ch.ro 0 (Sl aa_0 a_0 ca_0) a_0, Ch.ro 0 (Sl ab_1 b_1 cb_1) b_1] := H
  refine st (v := (B (!r2))) (rv_not rfl) ?_
  refine st (v := (B (!r2))) (rv_move rfl) ?_
  rcases Bool.eq_false_or_eq_true (!r2) with hb6 | hb6
  ·replace h := bif_t hb6 h
   refine st_skip (congrArg some hb6) ?_
   refine st_skip (congrArg some hb6) ?_
   refine st_skip (congrArg some hb6) ?_
   refine st (v := (B true)) (rv_pick_t (congrArg B hb6) rfl) ?_
   refine w_end ?_
   obtain rfl := Option.some.inj h
   exact ⟨rfl, _, σ5, fr_join ⟨rfl, rfl, rfl, trivial⟩, rfl, H.sel' [0, 1] rfl rfl⟩
  ·replace h := bif_f hb6 h
   refine st_g (v := (Sl ab_1 b_1 cb_1)) (congrArg some hb6) (rv_move rfl) ?_
   obtain ⟨r7, hx8, h'⟩ := bind_some h
   clear h
   have h := h'; clear h'
   have hc9 := c_impl_ValidHits (alist_0 := ab_1) (clist_0 := cb_1) hx8
   refine st_call (cx_call hc9 (ent_f hc9.fn rfl) hn0 (show Hp S0 σ0 _ ([Ch.ro 0 (Sl ab_1 b_1 cb_1) b_1] ++ [Ch.ro 0 (Sl aa_0 a_0 ca_0) a_0, Ch.ro 0 (Sl ab_1 b_1 cb_1) b_1]) from (H.sel' [1, 0, 1] rfl rfl))) (wanted_yes rfl (by exact (congrArg some hb6))) ?_
   rintro _ σ10 ⟨_, ⟨rfl, rfl⟩, H, -⟩
   replace H : Hp S0 σ0 σ10 [Ch.ro 0 (Sl aa_0 a_0 ca_0) a_0, Ch.ro 0 (Sl ab_1 b_1 cb_1) b_1] := H
   refine st_g (v := (B (!r7))) (congrArg some hb6) (rv_not rfl) ?_
   refine st (v := (B (!r7))) (rv_pick_f (congrArg B hb6) rfl) ?_
   refine w_end ?_
   obtain rfl := Option.some.inj h
   exact ⟨rfl, _, σ10, fr_join ⟨rfl, rfl, rfl, trivial⟩, rfl, H.sel' [0, 1] rfl rfl⟩
 ·clear hj
  have h := h'
  clear h' H
  rintro e a w ⟨rfl, ρ, σ11, rfl, rfl, H⟩
  refine q_then ?_
  refine cd_cond o1 rfl (fun hb12 => ?_) (fun hb12 => ?_)
  ·replace h := bif_t hb12 h
   refine c_seq ?_
   refine rg ?_
   refine st (v := (.slice none 0 0)) (rv_assign rfl) ?_
   refine w_end ?_
   refine q_then ?_
   refine c_ret ?_
   refine q_then_r ?_
   replace H := H.nilOwn Int 0 n0
   obtain rfl := Option.some.inj h
   exact fin_ret (v := (.slice none 0 0)) (results_ok Try.results26 (res_tmp (v := (.slice none 0 0)) rfl res_nil) rfl) ⟨none, 0, rfl, rfl⟩ (H.sel' [0] rfl rfl)
  ·replace h := bif_f hb12 h
   refine c_skip ?_
   refine q_then ?_
   refine c_seq ?_
   refine rg ?_
   refine st_ex (ex_makeMapI (lo := 0) H (Nat.zero_le _)) wn ?_
   rintro _ σ16 ⟨b13, O14, rfl, hO15, H, -⟩
   refine st_ex (ex_alloc (cs := [(.map none)]) H hn0 ti69 rfl) wn ?_
   rintro _ σ18 ⟨b17, rfl, H, -⟩
   refine st_exS (ex_store_box (k := 0) (cs := [(.map none)]) (vs := [(.map (some b13))]) (cs' := [(.map (some b13))]) H (i := 0) rfl ti69 rfl rfl rfl rfl rfl (Nat.le_of_ble_eq_true rfl) (by simp [plain]) rfl) wn ?_
   rintro σ19 ⟨H, -⟩
   refine w_end ?_
   refine q_then ?_
   refine c_seq ?_
   refine c_seq ?_
   refine rg ?_
   refine st (v := (Sl aa_0 a_0 ca_0)) (rv_move rfl) ?_
   refine st (v := (Sl ab_1 b_1 cb_1)) (rv_move rfl) ?_
   obtain ⟨r20, hx21, h'⟩ := bind_some h
   clear h
   have h := h'; clear h'
   have hc22 := c_impl_mergedHits (aa_0 := aa_0) (ca_0 := ca_0) (ab_1 := ab_1) (cb_1 := cb_1) hx21
   refine st_call (cx_call hc22 (ent_f hc22.fn rfl) hn0 (show Hp S0 σ0 _ ([Ch.ro 0 (Sl aa_0 a_0 ca_0) a_0, Ch.ro 0 (Sl ab_1 b_1 cb_1) b_1] ++ [Ch.bx n0 b17 0 [(.map (some b13))] [] [], Ch.ob 0 b13 O14, Ch.ro 0 (Sl aa_0 a_0 ca_0) a_0, Ch.ro 0 (Sl ab_1 b_1 cb_1) b_1]) from (H.sel' [2, 3, 0, 1, 2, 3] rfl rfl))) wn ?_
   rintro _ σ25 ⟨_, ⟨a23, c24, rfl, rfl⟩, H, -⟩
   replace H : Hp S0 σ0 σ25 [Ch.own n0 n0 (Sl a23 r20 c24) r20, Ch.bx n0 b17 0 [(.map (some b13))] [] [], Ch.ob 0 b13 O14, Ch.ro 0 (Sl aa_0 a_0 ca_0) a_0, Ch.ro 0 (Sl ab_1 b_1 cb_1) b_1] := H
   refine st (v := (I (r20.length : Int))) (rv_len Try.underlying29 rfl) ?_
   refine st (v := (I 0)) (rv_move rfl) ?_
   refine w_end ?_
   refine q_then ?_
   obtain ⟨o26, hj, h'⟩ := bind_some h
   clear h
   refine c_cut (fun e a w => e = .normal ∧ ∃ (ρ : Nat → Value) (σ : St) (bj1 : Nat) (Oj2 : Obj), a = fr 42 (updL ρ [(5, (pt b17 0))]) ∧ w = σ.w ∧ Hp S0 σ0 σ [Ch.bx n0 b17 0 [(.map (some bj1))] [] [], Ch.ob 0 bj1 Oj2] ∧ MiO Oj2 o26) ?_ ?_
   ·clear h'
    rename _ = some o26 => h
    refine c_blk ?_
    refine wp_loopM _ h (fun s27 a w => ∃ (ρ : Nat → Value) (σ : St) (bj1 : Nat) (Oj2 : Obj), a = fr 42 (updL ρ [(0, (Sl aa_0 a_0 ca_0)), (1, (Sl ab_1 b_1 cb_1)), (5, (pt b17 0)), (19, (Sl a23 r20 c24)), (20, (I (r20.length : Int))), (21, (I s27.2))]) ∧ w = σ.w ∧ Hp S0 σ0 σ [Ch.bx n0 b17 0 [(.map (some bj1))] [] [], Ch.ob 0 bj1 Oj2, Ch.ro 0 (Sl aa_0 a_0 ca_0) a_0, Ch.ro 0 (Sl ab_1 b_1 cb_1) b_1, Ch.own n0 n0 (Sl a23 r20 c24) r20] ∧ MiO Oj2 s27.1) ⟨_, σ25, b13, O14, fr_join ⟨rfl, rfl, rfl, rfl, rfl, rfl, trivial⟩, rfl, H.sel' [1, 2, 3, 4, 0] rfl rfl, hO15⟩ ?_
    clear h H
    rintro s27 a w o ⟨ρ, σ28, b29, O30, rfl, rfl, H, hO31⟩ h hres
    refine c_seq ?_
    refine rg ?_
    refine st (v := (B (decide (s27.2 < (r20.length : Int))))) (rv_lss (a := s27.2) (b := (r20.length : Int)) rfl rfl) ?_
    refine w_end ?_
    refine q_then ?_
    refine c_seq ?_
    refine cd_cond (decide (s27.2 < (r20.length : Int))) rfl (fun hb32 => ?_) (fun hb32 => ?_)
    ·replace h := bif_t hb32 h
     refine c_skip ?_
     refine q_then ?_
     refine c_seq ?_
     refine c_blk ?_
     refine c_seq ?_
     refine rg ?_
     obtain ⟨x33, hx34, h'⟩ := bind_some h
     clear h
     have h := h'; clear h'
     obtain ⟨b36, o37, hi35, -⟩ := (H.own 4 rfl).ix hx34
     refine st (v := (pt b36 o37)) (rv_ix Try.underlying29 ti58 rfl rfl hi35) ?_
     obtain ⟨_, ⟨_, _, rfl, rfl, rfl⟩, hl38, hc39⟩ := ((H.own 4 rfl).at hx34 hi35).cells
     refine st (v := (.agg #[(I x33.1), (I x33.2)])) (rv_load Try.underlying58 rfl ti58 rfl hl38 hc39) ?_
     refine st_ex (ex_alloc (cs := [(I 0), (I 0)]) H hn0 ti58 rfl) wn ?_
     rintro _ σ41 ⟨b40, rfl, H, -⟩
     refine st_exS (ex_store_box (k := 0) (cs := [(I 0), (I 0)]) (vs := [(I x33.1), (I x33.2)]) (cs' := [(I x33.1), (I x33.2)]) H (i := 0) rfl ti58 rfl rfl rfl rfl rfl (Nat.le_of_ble_eq_true rfl) (by simp [plain]) rfl) wn ?_
     rintro σ42 ⟨H, -⟩
     refine w_end ?_
     refine q_then ?_
     have hc43 := H.cell (u := (.map (some b29))) (o' := 0) 1 0 rfl rfl rfl
     have hc44 := H.cell (u := (I x33.1)) (o' := 0) 0 0 rfl rfl rfl
     have hc45 := H.cell (u := (I x33.1)) (o' := 0) 0 0 rfl rfl rfl
     obtain ⟨r46, hx47, h'⟩ := bind_some h
     clear h
     have h := h'; clear h'
     have hc48 := c_impl_RankScore (alist_0 := aa_0) (clist_0 := ca_0) hx47
     have hc49 := H.cell (u := (I x33.1)) (o' := 0) 0 0 rfl rfl rfl
     obtain ⟨r50, hx51, h'⟩ := bind_some h
     clear h
     have h := h'; clear h'
     have hc52 := c_impl_RankScore (alist_0 := ab_1) (clist_0 := cb_1) hx51
     have Hs := H
     refine rg2 (σ := σ42) (Nm := Unit) 12 [6, 10] [[false, false], [true, false], [true, true]] [[(0, 0), (1, 1), (2, 2)], [(0, 0), (1, 1), (2, 2)], [(0, 0), (1, 1), (2, 2)], [(0, 0)], [(0, 0)], [(0, 0)], [(0, 1)], [(0, 0), (1, 1)], [(0, 0), (1, 1)], [(0, 0), (1, 1)], [(1, 2)], [(2, 2)]] 2 [fun _ => fun σm => Hp S0 σ0 σm [Ch.bx n0 b40 0 [(I x33.1), (I x33.2)] [] [], Ch.bx n0 b17 0 [(.map (some b29))] [] [], Ch.ob 0 b29 O30, Ch.ro 0 (Sl aa_0 a_0 ca_0) a_0, Ch.ro 0 (Sl ab_1 b_1 cb_1) b_1, Ch.own n0 n0 (Sl a23 r20 c24) r20] ∧ Md (cov []) σ42 σm, fun _ => fun σm => Hp S0 σ0 σm [Ch.bx n0 b40 0 [(I x33.1), (I x33.2)] [] [], Ch.bx n0 b17 0 [(.map (some b29))] [] [], Ch.ob 0 b29 O30, Ch.ro 0 (Sl aa_0 a_0 ca_0) a_0, Ch.ro 0 (Sl ab_1 b_1 cb_1) b_1, Ch.own n0 n0 (Sl a23 r20 c24) r20] ∧ Md (cov []) σ42 σm, fun _ => fun σm => Hp S0 σ0 σm [Ch.bx n0 b40 0 [(I x33.1), (I x33.2)] [] [], Ch.bx n0 b17 0 [(.map (some b29))] [] [], Ch.ob 0 b29 O30, Ch.ro 0 (Sl aa_0 a_0 ca_0) a_0, Ch.ro 0 (Sl ab_1 b_1 cb_1) b_1, Ch.own n0 n0 (Sl a23 r20 c24) r20] ∧ Md (cov []) σ42 σm] [fun _ => (.map (some b29)), fun _ => (pt b40 0), fun _ => (I x33.1), fun _ => (Sl aa_0 a_0 ca_0), fun _ => (pt b40 0), fun _ => (I x33.1), fun _ => (I r46), fun _ => (Sl ab_1 b_1 cb_1), fun _ => (pt b40 0), fun _ => (I x33.1), fun _ => (I r50), fun _ => (I (w64 (r46 + r50)))] () (by kernel_rfl) (by kernel_rfl) ?_ ?_ ?_
     ·intro σm m0
      exact ⟨H.grow (m0.mono fun _ h => h.elim), m0⟩
     ·refine all_cons (by
        refine ⟨?_, ?_⟩
        ·intro _nm ρ σm hJ hoff hdep
         have e5 := look_off (N := 42) (hoff 5 rfl) rfl
         obtain ⟨H, m⟩ := id hJ
         have hc43 := H.cell (u := (.map (some b29))) (o' := 0) 1 0 rfl rfl rfl
         exact dp_v (v := (.map (some b29))) wn (rv_load1 Try.underlying69 rfl e5 hc43) rfl hJ
        refine ⟨?_, ?_⟩
        ·intro _nm ρ σm hJ hoff hdep
         have e5 := look_off (N := 42) (hoff 5 rfl) rfl
         obtain ⟨H, m⟩ := id hJ
         have hc43 := H.cell (u := (.map (some b29))) (o' := 0) 1 0 rfl rfl rfl
         exact dp_v (v := (.map (some b29))) wn (rv_load1 Try.underlying69 rfl e5 hc43) rfl hJ
        refine ⟨?_, ?_⟩
        ·intro _nm ρ σm hJ hoff hdep
         have e5 := look_off (N := 42) (hoff 5 rfl) rfl
         obtain ⟨H, m⟩ := id hJ
         have hc43 := H.cell (u := (.map (some b29))) (o' := 0) 1 0 rfl rfl rfl
         exact dp_v (v := (.map (some b29))) wn (rv_load1 Try.underlying69 rfl e5 hc43) rfl hJ
        trivial) ?_
      refine ac rfl (by
        intro k _nm ρ σm hJ hoff hdep
        have e7 := look_off (N := 42) (hoff 7 rfl) rfl
        exact dp_v (v := (pt b40 0)) wn (rv_fieldAddr (off := 0) (ft := 3) Try.underlying58 rfl ti3 rfl e7) rfl hJ) ?_
      refine all_cons (by
        refine ⟨?_, ?_⟩
        ·intro _nm ρ σm hJ hoff hdep
         have e26 := hdep 1 rfl rfl 26 rfl
         obtain ⟨H, m⟩ := id hJ
         have hc44 := H.cell (u := (I x33.1)) (o' := 0) 0 0 rfl rfl rfl
         exact dp_v (v := (I x33.1)) wn (rv_load1 Try.underlying3 rfl e26 hc44) rfl hJ
        refine ⟨?_, ?_⟩
        ·intro _nm ρ σm hJ hoff hdep
         have e26 := hdep 1 rfl rfl 26 rfl
         obtain ⟨H, m⟩ := id hJ
         have hc44 := H.cell (u := (I x33.1)) (o' := 0) 0 0 rfl rfl rfl
         exact dp_v (v := (I x33.1)) wn (rv_load1 Try.underlying3 rfl e26 hc44) rfl hJ
        refine ⟨?_, ?_⟩
        ·intro _nm ρ σm hJ hoff hdep
         have e26 := hdep 1 rfl rfl 26 rfl
         obtain ⟨H, m⟩ := id hJ
         have hc44 := H.cell (u := (I x33.1)) (o' := 0) 0 0 rfl rfl rfl
         exact dp_v (v := (I x33.1)) wn (rv_load1 Try.underlying3 rfl e26 hc44) rfl hJ
        trivial) ?_
      refine ac rfl (by
        intro k _nm ρ σm hJ hoff hdep
        have e0 := look_off (N := 42) (hoff 0 rfl) rfl
        exact dp_v (v := (Sl aa_0 a_0 ca_0)) wn (rv_move e0) rfl hJ) ?_
      refine ac rfl (by
        intro k _nm ρ σm hJ hoff hdep
        have e7 := look_off (N := 42) (hoff 7 rfl) rfl
        exact dp_v (v := (pt b40 0)) wn (rv_fieldAddr (off := 0) (ft := 3) Try.underlying58 rfl ti3 rfl e7) rfl hJ) ?_
      refine all_cons (by
        refine ⟨?_, ?_⟩
        ·intro _nm ρ σm hJ hoff hdep
         have e29 := hdep 4 rfl rfl 29 rfl
         obtain ⟨H, m⟩ := id hJ
         have hc45 := H.cell (u := (I x33.1)) (o' := 0) 0 0 rfl rfl rfl
         exact dp_v (v := (I x33.1)) wn (rv_load1 Try.underlying3 rfl e29 hc45) rfl hJ
        trivial) ?_
      refine all_cons (by
        refine ⟨?_, ?_⟩
        ·intro _nm ρ σm hJ hoff hdep
         have e28 : look 42 ρ 28 = (Sl aa_0 a_0 ca_0) := hdep 3 rfl rfl 28 rfl
         have e30 : look 42 ρ 30 = (I x33.1) := hdep 5 rfl rfl 30 rfl
         obtain ⟨H, m⟩ := id hJ
         refine dp_cx wn (cx_call hc48 (ent_f hc48.fn (by show [look 42 ρ 28, look 42 ρ 30] = _; rw [e28, e30])) hn0 (show Hp S0 σ0 _ ([Ch.ro 0 (Sl aa_0 a_0 ca_0) a_0] ++ [Ch.bx n0 b40 0 [(I x33.1), (I x33.2)] [] [], Ch.bx n0 b17 0 [(.map (some b29))] [] [], Ch.ob 0 b29 O30, Ch.ro 0 (Sl aa_0 a_0 ca_0) a_0, Ch.ro 0 (Sl ab_1 b_1 cb_1) b_1, Ch.own n0 n0 (Sl a23 r20 c24) r20]) from (H.sel' [3, 0, 1, 2, 3, 4, 5] rfl rfl))) ?_
         rintro _ σq ⟨_, ⟨rfl, rfl⟩, H2, m2⟩
         exact ⟨_, (), rfl, rfl, ⟨H2.sel' [0, 1, 2, 3, 4, 5] rfl rfl, m.comp0 (m2.mono (fun i h => by simp [cov, Ch.ro] at h))⟩, stab [0, 1, 2, 3, 4, 5, 7, 8, 9] (by kernel_rfl) ⟨rfl, rfl, rfl, rfl, rfl, rfl, rfl, rfl, rfl, trivial⟩⟩
        trivial) ?_
      refine ac rfl (by
        intro k _nm ρ σm hJ hoff hdep
        have e1 := look_off (N := 42) (hoff 1 rfl) rfl
        exact dp_v (v := (Sl ab_1 b_1 cb_1)) wn (rv_move e1) rfl hJ) ?_
      refine ac rfl (by
        intro k _nm ρ σm hJ hoff hdep
        have e7 := look_off (N := 42) (hoff 7 rfl) rfl
        exact dp_v (v := (pt b40 0)) wn (rv_fieldAddr (off := 0) (ft := 3) Try.underlying58 rfl ti3 rfl e7) rfl hJ) ?_
      refine all_cons (by
        refine ⟨?_, ?_⟩
        ·intro _nm ρ σm hJ hoff hdep
         have e33 := hdep 8 rfl rfl 33 rfl
         obtain ⟨H, m⟩ := id hJ
         have hc49 := H.cell (u := (I x33.1)) (o' := 0) 0 0 rfl rfl rfl
         exact dp_v (v := (I x33.1)) wn (rv_load1 Try.underlying3 rfl e33 hc49) rfl hJ
        refine ⟨?_, ?_⟩
        ·intro _nm ρ σm hJ hoff hdep
         have e33 := hdep 8 rfl rfl 33 rfl
         obtain ⟨H, m⟩ := id hJ
         have hc49 := H.cell (u := (I x33.1)) (o' := 0) 0 0 rfl rfl rfl
         exact dp_v (v := (I x33.1)) wn (rv_load1 Try.underlying3 rfl e33 hc49) rfl hJ
        trivial) ?_
      refine all_cons (by
        refine ⟨?_, ?_⟩
        ·intro _nm ρ σm hJ hoff hdep
         have e32 : look 42 ρ 32 = (Sl ab_1 b_1 cb_1) := hdep 7 rfl rfl 32 rfl
         have e34 : look 42 ρ 34 = (I x33.1) := hdep 9 rfl rfl 34 rfl
         obtain ⟨H, m⟩ := id hJ
         refine dp_cx wn (cx_call hc52 (ent_f hc52.fn (by show [look 42 ρ 32, look 42 ρ 34] = _; rw [e32, e34])) hn0 (show Hp S0 σ0 _ ([Ch.ro 0 (Sl ab_1 b_1 cb_1) b_1] ++ [Ch.bx n0 b40 0 [(I x33.1), (I x33.2)] [] [], Ch.bx n0 b17 0 [(.map (some b29))] [] [], Ch.ob 0 b29 O30, Ch.ro 0 (Sl aa_0 a_0 ca_0) a_0, Ch.ro 0 (Sl ab_1 b_1 cb_1) b_1, Ch.own n0 n0 (Sl a23 r20 c24) r20]) from (H.sel' [4, 0, 1, 2, 3, 4, 5] rfl rfl))) ?_
         rintro _ σq ⟨_, ⟨rfl, rfl⟩, H2, m2⟩
         exact ⟨_, (), rfl, rfl, ⟨H2.sel' [0, 1, 2, 3, 4, 5] rfl rfl, m.comp0 (m2.mono (fun i h => by simp [cov, Ch.ro] at h))⟩, stab [0, 1, 2, 3, 4, 5, 6, 7, 8, 9] (by kernel_rfl) ⟨rfl, rfl, rfl, rfl, rfl, rfl, rfl, rfl, rfl, rfl, trivial⟩⟩
        trivial) ?_
      refine ac rfl (by
        intro k _nm ρ σm hJ hoff hdep
        have e31 := hdep 6 rfl rfl 31 rfl
        have e35 := hdep 10 rfl rfl 35 rfl
        exact dp_v (v := (I (w64 (r46 + r50)))) wn (rv_add (a := r46) (b := r50) e31 e35) rfl hJ) ?_
      exact all_nil
     ·intro _nm ρ σ53 hJ hoff hrel
      have e0 := look_off (N := 42) (hoff 0 rfl) rfl
      have e1 := look_off (N := 42) (hoff 1 rfl) rfl
      have e5 := look_off (N := 42) (hoff 5 rfl) rfl
      have e19 := look_off (N := 42) (hoff 19 rfl) rfl
      have e20 := look_off (N := 42) (hoff 20 rfl) rfl
      have e21 := look_off (N := 42) (hoff 21 rfl) rfl
      have e25 := hrel 0 rfl 25 rfl
      have e27 := hrel 2 rfl 27 rfl
      have e36 := hrel 11 rfl 36 rfl
      obtain ⟨H, -⟩ := (show Hp S0 σ0 σ53 [Ch.bx n0 b40 0 [(I x33.1), (I x33.2)] [] [], Ch.bx n0 b17 0 [(.map (some b29))] [] [], Ch.ob 0 b29 O30, Ch.ro 0 (Sl aa_0 a_0 ca_0) a_0, Ch.ro 0 (Sl ab_1 b_1 cb_1) b_1, Ch.own n0 n0 (Sl a23 r20 c24) r20] ∧ Md (cov []) σ42 σ53 from hJ)
      clear hJ Hs
      rw [fr_lookL (L := [(0, (Sl aa_0 a_0 ca_0)), (1, (Sl ab_1 b_1 cb_1)), (5, (pt b17 0)), (19, (Sl a23 r20 c24)), (20, (I (r20.length : Int))), (21, (I s27.2)), (25, (.map (some b29))), (27, (I x33.1)), (36, (I (w64 (r46 + r50))))]) ⟨e0, e1, e5, e19, e20, e21, e25, e27, e36, trivial⟩]
      clear hoff hrel e0 e1 e5 e19 e20 e21 e25 e27 e36
      replace H := H.front (i := 2) rfl
      obtain ⟨O54, hO55, he56⟩ := hO31.put x33.1 (w64 (r46 + r50))
      refine st_exS (he56 (ty := _) H Try.underlying69 Try.underlying3 rfl rfl rfl) wn ?_
      rintro σ57 ⟨H, -⟩
      refine w_end ?_
      refine q_blk ?_
      refine q_then ?_
      refine rg ?_
      refine st (v := (I (w64 (s27.2 + 1)))) (rv_add (a := s27.2) (b := 1) rfl rfl) ?_
      refine st (v := (I (w64 (s27.2 + 1)))) (rv_move rfl) ?_
      refine w_end ?_
      refine q_then ?_
      obtain rfl := Option.some.inj h
      exact ⟨_, rfl, _, σ57, b29, O54, fr_join ⟨rfl, rfl, rfl, rfl, rfl, rfl, trivial⟩, rfl, H.sel' [2, 0, 3, 4, 5] rfl rfl, hO55⟩
    ·replace h := bif_f hb32 h
     refine c_exit ?_
     refine q_then_x ?_
     refine q_then_x ?_
     refine q_blk_hit ?_
     obtain rfl := Option.some.inj h
     obtain rfl := hres _ rfl
     exact ⟨rfl, _, σ28, b29, O30, fr_join ⟨rfl, trivial⟩, rfl, H.sel' [0, 1] rfl rfl, hO31⟩
   ·clear hj
    have h := h'
    clear h' H
    rintro e a w ⟨rfl, ρ, σ58, b59, O60, rfl, rfl, H, hO61⟩
    refine q_then ?_
    refine c_seq ?_
    refine rg ?_
    have hc62 := H.cell (u := (.map (some b59))) (o' := 0) 0 0 rfl rfl rfl
    refine st (v := (.map (some b59))) (rv_load1 Try.underlying69 rfl rfl hc62) ?_
    obtain ⟨r63, hx64, h'⟩ := bind_some h
    clear h
    have h := h'; clear h'
    have hc65 := c_maps_Keys_map_int_int_int_int (mm_0 := b59) (Om_0 := O60) (hOm_0 := hO61) hx64
    refine st_call (cx_call hc65 (ent_f hc65.fn rfl) hn0 (show Hp S0 σ0 _ ([Ch.ob 0 b59 O60] ++ [Ch.bx n0 b17 0 [(.map (some b59))] [] []]) from (H.sel' [1, 0] rfl rfl))) wn ?_
    rintro _ σ67 ⟨_, ⟨b66, rfl, rfl⟩, H, -⟩
    replace H : Hp S0 σ0 σ67 [Ch.bx n0 b66 0 [(.map (some b59))] [] [], Ch.ob 0 b59 O60, Ch.bx n0 b17 0 [(.map (some b59))] [] []] := H
    refine st (v := (.func (.func 61) #[] #[(pt b17 0)])) (rv_makeFunc (vs := [(pt b17 0)]) rfl) ?_
    obtain ⟨r68, hx69, h'⟩ := bind_some h
    clear h
    have h := h'; clear h'
    have hc70 := c_slices_SortedFunc_int__maps_Keys_map_int_int_int_int_1__impl_FuseRanks_1 (loseq_0_0 := n0) (bseq_0_0 := b66) (oseq_0_0 := 0) (preseq_0_0 := []) (sufseq_0_0 := []) (mseq_0_0 := b59) (Oseq_0_0 := O60) (hOseq_0_0 := hO61) (locmp_1_0 := n0) (bcmp_1_0 := b17) (ocmp_1_0 := 0) (precmp_1_0 := []) (sufcmp_1_0 := []) hx69
    refine st_call (cx_call hc70 (ent_f hc70.fn rfl) hn0 (show Hp S0 σ0 _ ([Ch.bx n0 b66 0 [(.map (some b59))] [] [], Ch.ob 0 b59 O60, Ch.bx n0 b17 0 [(.map (some b59))] [] []] ++ []) from (H.sel' [0, 1, 2] rfl rfl))) wn ?_
    rintro _ σ73 ⟨_, ⟨a71, c72, rfl, rfl⟩, H, -⟩
    replace H : Hp S0 σ0 σ73 [Ch.own 0 n0 (Sl a71 r68 c72) r68, Ch.bx n0 b66 0 [(.map (some b59))] [] [], Ch.ob 0 b59 O60, Ch.bx n0 b17 0 [(.map (some b59))] [] []] := H
    refine st (v := (Sl a71 r68 c72)) (rv_assign rfl) ?_
    refine w_end ?_
    refine q_then ?_
    refine c_ret ?_
    obtain rfl := Option.some.inj h
    exact fin_ret (v := (Sl a71 r68 c72)) (results_ok Try.results26 (res_tmp (v := (Sl a71 r68 c72)) rfl res_nil) rfl) ⟨a71, c72, rfl, rfl⟩ (H.sel' [0] rfl rfl)

theorem c_laws_eqIntS {a_0 : List Int} {b_1 : List Int} {aa_0 : Option Addr} {ca_0 : Nat} {ab_1 : Option Addr} {cb_1 : Nat} {r : Bool} (h : M.laws_eqIntS a_0 b_1 = some r) :
    Cal2 Try.prog 27 [(Sl aa_0 a_0 ca_0), (Sl ab_1 b_1 cb_1)] [Ch.ro 0 (Sl aa_0 a_0 ca_0) a_0, Ch.ro 0 (Sl ab_1 b_1 cb_1) b_1] (fun n0 v L => v = (B r) ∧ L = []) := by
 refine cal2 (n := 26) Try.func27 rfl rfl rfl rfl ?_
 intro S0 σ0 n0 hn0 H
 unfold M.laws_eqIntS at h
 refine c_seq ?_
 refine rg ?_
 refine st (v := (B false)) (rv_assign rfl) ?_
 refine w_end ?_
 refine q_then ?_
 refine c_seq ?_
 refine c_seq ?_
 refine rg ?_
 refine st (v := (Sl aa_0 a_0 ca_0)) (rv_move rfl) ?_
 refine st (v := (I (a_0.length : Int))) (rv_len Try.underlying37 rfl) ?_
 refine st (v := (Sl ab_1 b_1 cb_1)) (rv_move rfl) ?_
 refine st (v := (I (b_1.length : Int))) (rv_len Try.underlying37 rfl) ?_
 refine st (v := (B ((a_0.length : Int) != (b_1.length : Int)))) (rv_neq (a := (a_0.length : Int)) (b := (b_1.length : Int)) rfl rfl) ?_
 refine w_end ?_
 refine q_then ?_
 refine cd_cond ((a_0.length : Int) != (b_1.length : Int)) rfl (fun hb1 => ?_) (fun hb1 => ?_)
 ·replace h := bif_t hb1 h
  refine c_seq ?_
  refine rg ?_
  refine st (v := (B false)) (rv_assign rfl) ?_
  refine w_end ?_
  refine q_then ?_
  refine c_ret ?_
  refine q_then_r ?_
  obtain rfl := Option.some.inj h
  exact fin_ret (v := (B false)) (results_ok Try.results27 (res_tmp (v := (B false)) rfl res_nil) rfl) ⟨rfl, rfl⟩ (H.sel' [] rfl rfl)
 ·replace h := bif_f hb1 h
  refine c_skip ?_
  refine q_then ?_
  refine c_seq ?_
  refine c_seq ?_
  refine rg ?_
  refine st (v := (I 0)) (rv_assign rfl) ?_
  refine w_end ?_
  refine q_then ?_
  obtain ⟨o2, hj, h'⟩ := bind_some h
  clear h
  refine c_cut (fun e a w => (∃ t, o2 = (.inl t) ∧ e = .normal ∧ ∃ (ρ : Nat → Value) (σ : St), a = fr 26 (updL ρ []) ∧ w = σ.w ∧ Hp S0 σ0 σ []) ∨ (∃ t, o2 = (.inr t) ∧ e = .ret ∧ ∃ (ρ : Nat → Value) (σ : St), a = fr 26 (updL ρ [(4, (B t))]) ∧ w = σ.w ∧ Hp S0 σ0 σ [])) ?_ ?_
  ·clear h'
   rename _ = some o2 => h
   refine c_blk ?_
   refine wp_loopM _ h (fun s3 a w => ∃ (ρ : Nat → Value) (σ : St), a = fr 26 (updL ρ [(0, (Sl aa_0 a_0 ca_0)), (1, (Sl ab_1 b_1 cb_1)), (5, (I s3))]) ∧ w = σ.w ∧ Hp S0 σ0 σ [Ch.ro 0 (Sl aa_0 a_0 ca_0) a_0, Ch.ro 0 (Sl ab_1 b_1 cb_1) b_1]) ⟨_, σ0, fr_join ⟨rfl, rfl, rfl, trivial⟩, rfl, H.sel' [0, 1] rfl rfl⟩ ?_
   clear h H
   rintro s3 a w o ⟨ρ, σ4, rfl, rfl, H⟩ h hres
   refine c_seq ?_
   refine c_seq ?_
   refine rg ?_
   refine st (v := (I s3)) (rv_move rfl) ?_
   refine st (v := (Sl aa_0 a_0 ca_0)) (rv_move rfl) ?_
   refine st (v := (I (a_0.length : Int))) (rv_len Try.underlying37 rfl) ?_
   refine st (v := (B (decide (s3 < (a_0.length : Int))))) (rv_lss (a := s3) (b := (a_0.length : Int)) rfl rfl) ?_
   refine w_end ?_
   refine q_then ?_
   refine cd_cond (decide (s3 < (a_0.length : Int))) rfl (fun hb5 => ?_) (fun hb5 => ?_)
   ·replace h := bif_t hb5 h
    refine c_skip ?_
    refine q_then ?_
    refine c_seq ?_
    refine c_blk ?_
    refine c_seq ?_
    refine rgP (σ := σ4) 8 (by kernel_rfl) (by kernel_rfl) (by kernel_rfl) ?_
    refine sq (v := (Sl aa_0 a_0 ca_0)) (rv_move rfl) ?_
    refine sq (v := (I s3)) (rv_move rfl) ?_
    obtain ⟨x6, hx7, h'⟩ := bind_some h
    clear h
    have h := h'; clear h'
    obtain ⟨b9, o10, hi8, -⟩ := (H.ro 0 rfl).ix hx7
    refine sq (v := (pt b9 o10)) (rv_ix Try.underlying37 ti3 rfl rfl hi8) ?_
    have hc11 := ((H.ro 0 rfl).at hx7 hi8).int
    refine sq (v := (I x6)) (rv_load1 Try.underlying3 rfl rfl hc11) ?_
    refine sq (v := (Sl ab_1 b_1 cb_1)) (rv_move rfl) ?_
    refine sq (v := (I s3)) (rv_move rfl) ?_
    obtain ⟨x12, hx13, h'⟩ := bind_some h
    clear h
    have h := h'; clear h'
    obtain ⟨b15, o16, hi14, -⟩ := (H.ro 1 rfl).ix hx13
    refine sq (v := (pt b15 o16)) (rv_ix Try.underlying37 ti3 rfl rfl hi14) ?_
    have hc17 := ((H.ro 1 rfl).at hx13 hi14).int
    refine sq (v := (I x12)) (rv_load1 Try.underlying3 rfl rfl hc17) ?_
    refine sq_end ?_
    intro σ18 hm19
    replace H := H.grow (hm19.mono fun _ h => h); clear hm19
    refine st (v := (B (x6 != x12))) (rv_neq (a := x6) (b := x12) rfl rfl) ?_
    refine w_end ?_
    refine q_then ?_
    refine cd_cond (x6 != x12) rfl (fun hb20 => ?_) (fun hb20 => ?_)
    ·replace h := bif_t hb20 h
     refine c_seq ?_
     refine rg ?_
     refine st (v := (B false)) (rv_assign rfl) ?_
     refine w_end ?_
     refine q_then ?_
     refine c_ret ?_
     refine q_blk_r ?_
     refine q_then_r ?_
     refine q_then_r ?_
     refine q_blk_r ?_
     obtain rfl := Option.some.inj h
     obtain rfl := hres _ rfl
     exact .inr (⟨_, rfl, rfl, _, σ18, fr_join ⟨rfl, trivial⟩, rfl, H.sel' [] rfl rfl⟩)
    ·replace h := bif_f hb20 h
     refine c_skip ?_
     refine q_blk ?_
     refine q_then ?_
     refine rg ?_
     refine st (v := (I s3)) (rv_move rfl) ?_
     refine st (v := (I (w64 (s3 + 1)))) (rv_add (a := s3) (b := 1) rfl rfl) ?_
     refine st (v := (I (w64 (s3 + 1)))) (rv_assign rfl) ?_
     refine w_end ?_
     refine q_then ?_
     obtain rfl := Option.some.inj h
     exact ⟨_, rfl, _, σ18, fr_join ⟨rfl, rfl, rfl, trivial⟩, rfl, H.sel' [0, 1] rfl rfl⟩
   ·replace h := bif_f hb5 h
    refine c_exit ?_
    refine q_then_x ?_
    refine q_then_x ?_
    refine q_blk_hit ?_
    obtain rfl := Option.some.inj h
    obtain rfl := hres _ rfl
    exact .inl ⟨_, rfl, rfl, _, σ4, fr_join trivial, rfl, H.sel' [] rfl rfl⟩
  ·clear hj
   have h := h'
   clear h' H
   rintro e a w (⟨t21, rfl, rfl, ρ, σ22, rfl, rfl, H⟩ | ⟨t23, rfl, rfl, ρ, σ24, rfl, rfl, H⟩)
   ·replace h := selim_l h
    refine q_then ?_
    refine c_seq ?_
    refine rg ?_
    refine st (v := (B true)) (rv_assign rfl) ?_
    refine w_end ?_
    refine q_then ?_
    refine c_ret ?_
    obtain rfl := Option.some.inj h
    exact fin_ret (v := (B true)) (results_ok Try.results27 (res_tmp (v := (B true)) rfl res_nil) rfl) ⟨rfl, rfl⟩ (H.sel' [] rfl rfl)
   ·replace h := selim_r h
    refine q_then_r ?_
    obtain rfl := Option.some.inj h
    exact fin_ret (v := (B t23)) (results_ok Try.results27 (res_tmp (v := (B t23)) rfl res_nil) rfl) ⟨rfl, rfl⟩ (H.sel' [] rfl rfl)

end Go.Vs
