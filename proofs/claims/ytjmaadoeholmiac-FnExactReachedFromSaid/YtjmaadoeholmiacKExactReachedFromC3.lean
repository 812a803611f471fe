/- The functions compute what their models say. -/
import Derived.Test.YtjmaadoeholmiacKExactReachedFromC2
set_option linter.unusedVariables false
set_option linter.unusedSimpArgs false
set_option maxRecDepth 20000
namespace Go.Vs
open Go Go.Proofs
attribute [local irreducible] Code.wp Code.wpIn wpList wpListIn wpQuiet Calls CallsIn

theorem c_cmp_Or_int {vals_0 : List Int} {avals_0 : Option Addr} {cvals_0 : Nat} {r : Int} (h : M.cmp_Or_int vals_0 = some r) :
    Cal2 Try.prog 134 [(Sl avals_0 vals_0 cvals_0)] [Ch.ro 0 (Sl avals_0 vals_0 cvals_0) vals_0] (fun n0 v L => v = (I r) ∧ L = []) := by
 refine cal2 (n := 18) Try.func134 rfl rfl rfl rfl ?_
 intro S0 σ0 n0 hn0 H
 unfold M.cmp_Or_int at h
 refine c_seq ?_
 refine rg ?_
 refine st (v := (I 0)) (rv_assign rfl) ?_
 refine w_end ?_
 refine q_then ?_
 refine c_seq ?_
 refine rg ?_
 refine st (v := (I 0)) (rv_assign rfl) ?_
 refine w_end ?_
 refine q_then ?_
 refine c_seq ?_
 refine c_seq ?_
 refine rg ?_
 refine st (v := (Sl avals_0 vals_0 cvals_0)) (rv_move rfl) ?_
 refine st (v := (I (vals_0.length : Int))) (rv_len Try.underlying36 rfl) ?_
 refine st (v := (I 0)) (rv_move rfl) ?_
 refine w_end ?_
 refine q_then ?_
 obtain ⟨o1, hj, h'⟩ := bind_some h
 clear h
 refine c_cut (fun e a w => (∃ t, o1 = (.inl t) ∧ e = .normal ∧ ∃ (ρ : Nat → Value) (σ : St), a = fr 18 (updL ρ [(3, (I 0))]) ∧ w = σ.w ∧ Hp S0 σ0 σ []) ∨ (∃ t, o1 = (.inr t) ∧ e = .ret ∧ ∃ (ρ : Nat → Value) (σ : St), a = fr 18 (updL ρ [(2, (I t))]) ∧ w = σ.w ∧ Hp S0 σ0 σ [])) ?_ ?_
 ·clear h'
  rename _ = some o1 => h
  refine c_blk ?_
  refine wp_loopM _ h (fun s2 a w => ∃ (ρ : Nat → Value) (σ : St), a = fr 18 (updL ρ [(3, (I 0)), (6, (Sl avals_0 vals_0 cvals_0)), (7, (I (vals_0.length : Int))), (8, (I s2))]) ∧ w = σ.w ∧ Hp S0 σ0 σ [Ch.ro 0 (Sl avals_0 vals_0 cvals_0) vals_0]) ⟨_, σ0, fr_join ⟨rfl, rfl, rfl, rfl, trivial⟩, rfl, H.sel' [0] rfl rfl⟩ ?_
  clear h H
  rintro s2 a w o ⟨ρ, σ3, rfl, rfl, H⟩ h hres
  refine c_seq ?_
  refine rg ?_
  refine st (v := (B (decide (s2 < (vals_0.length : Int))))) (rv_lss (a := s2) (b := (vals_0.length : Int)) rfl rfl) ?_
  refine w_end ?_
  refine q_then ?_
  refine c_seq ?_
  refine cd_cond (decide (s2 < (vals_0.length : Int))) rfl (fun hb4 => ?_) (fun hb4 => ?_)
  ·replace h := bif_t hb4 h
   refine c_skip ?_
   refine q_then ?_
   refine c_seq ?_
   refine c_blk ?_
   refine c_seq ?_
   refine rg ?_
   obtain ⟨x5, hx6, h'⟩ := bind_some h
   clear h
   have h := h'; clear h'
   obtain ⟨b8, o9, hi7, -⟩ := (H.ro 0 rfl).ix hx6
   refine st (v := (pt b8 o9)) (rv_ix Try.underlying36 ti3 rfl rfl hi7) ?_
   have hc10 := ((H.ro 0 rfl).at hx6 hi7).int
   refine st (v := (I x5)) (rv_load1 Try.underlying3 rfl rfl hc10) ?_
   refine st (v := (I x5)) (rv_assign rfl) ?_
   refine w_end ?_
   refine q_then ?_
   refine c_seq ?_
   refine rg ?_
   refine st (v := (I x5)) (rv_move rfl) ?_
   refine st (v := (I 0)) (rv_move rfl) ?_
   refine st (v := (B (x5 != 0))) (rv_neq (a := x5) (b := 0) rfl rfl) ?_
   refine w_end ?_
   refine q_then ?_
   refine cd_cond (x5 != 0) rfl (fun hb11 => ?_) (fun hb11 => ?_)
   ·replace h := bif_t hb11 h
    refine c_seq ?_
    refine rg ?_
    refine st (v := (I x5)) (rv_move rfl) ?_
    refine st (v := (I x5)) (rv_assign rfl) ?_
    refine w_end ?_
    refine q_then ?_
    refine c_ret ?_
    refine q_blk_r ?_
    refine q_then_r ?_
    refine q_then_r ?_
    refine q_blk_r ?_
    obtain rfl := Option.some.inj h
    obtain rfl := hres _ rfl
    exact .inr (⟨_, rfl, rfl, _, σ3, fr_join ⟨rfl, trivial⟩, rfl, H.sel' [] rfl rfl⟩)
   ·replace h := bif_f hb11 h
    refine c_skip ?_
    refine q_blk ?_
    refine q_then ?_
    refine rg ?_
    refine st (v := (I (w64 (s2 + 1)))) (rv_add (a := s2) (b := 1) rfl rfl) ?_
    refine st (v := (I (w64 (s2 + 1)))) (rv_move rfl) ?_
    refine w_end ?_
    refine q_then ?_
    obtain rfl := Option.some.inj h
    exact ⟨_, rfl, _, σ3, fr_join ⟨rfl, rfl, rfl, rfl, trivial⟩, rfl, H.sel' [0] rfl rfl⟩
  ·replace h := bif_f hb4 h
   refine c_exit ?_
   refine q_then_x ?_
   refine q_then_x ?_
   refine q_blk_hit ?_
   obtain rfl := Option.some.inj h
   obtain rfl := hres _ rfl
   exact .inl ⟨_, rfl, rfl, _, σ3, fr_join ⟨rfl, trivial⟩, rfl, H.sel' [] rfl rfl⟩
 ·clear hj
  have h := h'
  clear h' H
  rintro e a w (⟨t12, rfl, rfl, ρ, σ13, rfl, rfl, H⟩ | ⟨t14, rfl, rfl, ρ, σ15, rfl, rfl, H⟩)
  ·replace h := selim_l h
   refine q_then ?_
   refine c_seq ?_
   refine rg ?_
   refine st (v := (I 0)) (rv_move rfl) ?_
   refine st (v := (I 0)) (rv_assign rfl) ?_
   refine w_end ?_
   refine q_then ?_
   refine c_ret ?_
   obtain rfl := Option.some.inj h
   exact fin_ret (v := (I 0)) (results_ok Try.results134 (res_tmp (v := (I 0)) rfl res_nil) rfl) ⟨rfl, rfl⟩ (H.sel' [] rfl rfl)
  ·replace h := selim_r h
   refine q_then_r ?_
   obtain rfl := Option.some.inj h
   exact fin_ret (v := (I t14)) (results_ok Try.results134 (res_tmp (v := (I t14)) rfl res_nil) rfl) ⟨rfl, rfl⟩ (H.sel' [] rfl rfl)

theorem c_impl_compareHits {a_0 : Int × Int} {b_1 : Int × Int}  {r : Int} (h : M.impl_compareHits a_0 b_1 = some r) :
    Cal2 Try.prog 114 [(.agg #[(I a_0.1), (I a_0.2)]), (.agg #[(I b_1.1), (I b_1.2)])] [] (fun n0 v L => v = (I r) ∧ L = []) := by
 refine cal2 (n := 17) Try.func114 rfl rfl rfl rfl ?_
 intro S0 σ0 n0 hn0 H
 unfold M.impl_compareHits at h
 refine c_seq ?_
 refine rg ?_
 refine st_ex (ex_box (cs := [(I a_0.1), (I a_0.2)]) H hn0 rfl rfl) wn ?_
 rintro _ σ2 ⟨b1, rfl, H, -⟩
 refine st_ex (ex_box (cs := [(I b_1.1), (I b_1.2)]) H hn0 rfl rfl) wn ?_
 rintro _ σ4 ⟨b3, rfl, H, -⟩
 refine st (v := (I 0)) (rv_assign rfl) ?_
 refine w_end ?_
 refine q_then ?_
 refine c_seq ?_
 have hc5 := H.cell (u := (I a_0.2)) (o' := 1) 1 1 rfl rfl rfl
 have hc6 := H.cell (u := (I b_1.2)) (o' := 1) 0 1 rfl rfl rfl
 obtain ⟨r7, hx8, h'⟩ := bind_some h
 clear h
 have h := h'; clear h'
 have hc9 := c_cmp_Compare_int hx8
 have hc10 := H.cell (u := (I a_0.1)) (o' := 0) 1 0 rfl rfl rfl
 have hc11 := H.cell (u := (I b_1.1)) (o' := 0) 0 0 rfl rfl rfl
 have Hs := H
 refine rg2 (σ := σ4) (Nm := Unit) 9 [4] [[false], [true]] [[(0, 0)], [(0, 0)], [(0, 0)], [(0, 0)], [(0, 1)], [(0, 0), (1, 1)], [(0, 0), (1, 1)], [(0, 0), (1, 1)], [(0, 0), (1, 1)]] 1 [fun _ => fun σm => Hp S0 σ0 σm [Ch.bx n0 b3 0 [(I b_1.1), (I b_1.2)] [] [], Ch.bx n0 b1 0 [(I a_0.1), (I a_0.2)] [] []] ∧ Md (cov []) σ4 σm, fun _ => fun σm => Hp S0 σ0 σm [Ch.bx n0 b3 0 [(I b_1.1), (I b_1.2)] [] [], Ch.bx n0 b1 0 [(I a_0.1), (I a_0.2)] [] []] ∧ Md (cov []) σ4 σm] [fun _ => (pt b1 1), fun _ => (I a_0.2), fun _ => (pt b3 1), fun _ => (I b_1.2), fun _ => (I r7), fun _ => (pt b1 0), fun _ => (I a_0.1), fun _ => (pt b3 0), fun _ => (I b_1.1)] () (by kernel_rfl) (by kernel_rfl) ?_ ?_ ?_
 ·intro σm m0
  exact ⟨H.grow (m0.mono fun _ h => h.elim), m0⟩
 ·refine ac rfl (by
    intro k _nm ρ σm hJ hoff hdep
    have e2 := look_off (N := 17) (hoff 2 rfl) rfl
    exact dp_v (v := (pt b1 1)) wn (rv_fieldAddr (off := 1) (ft := 3) Try.underlying75 rfl ti3 rfl e2) rfl hJ) ?_
  refine all_cons (by
    refine ⟨?_, ?_⟩
    ·intro _nm ρ σm hJ hoff hdep
     have e5 := hdep 0 rfl rfl 5 rfl
     obtain ⟨H, m⟩ := id hJ
     have hc5 := H.cell (u := (I a_0.2)) (o' := 1) 1 1 rfl rfl rfl
     exact dp_v (v := (I a_0.2)) wn (rv_load1 Try.underlying3 rfl e5 hc5) rfl hJ
    trivial) ?_
  refine ac rfl (by
    intro k _nm ρ σm hJ hoff hdep
    have e3 := look_off (N := 17) (hoff 3 rfl) rfl
    exact dp_v (v := (pt b3 1)) wn (rv_fieldAddr (off := 1) (ft := 3) Try.underlying75 rfl ti3 rfl e3) rfl hJ) ?_
  refine all_cons (by
    refine ⟨?_, ?_⟩
    ·intro _nm ρ σm hJ hoff hdep
     have e7 := hdep 2 rfl rfl 7 rfl
     obtain ⟨H, m⟩ := id hJ
     have hc6 := H.cell (u := (I b_1.2)) (o' := 1) 0 1 rfl rfl rfl
     exact dp_v (v := (I b_1.2)) wn (rv_load1 Try.underlying3 rfl e7 hc6) rfl hJ
    trivial) ?_
  refine all_cons (by
    refine ⟨?_, ?_⟩
    ·intro _nm ρ σm hJ hoff hdep
     have e6 : look 17 ρ 6 = (I a_0.2) := hdep 1 rfl rfl 6 rfl
     have e8 : look 17 ρ 8 = (I b_1.2) := hdep 3 rfl rfl 8 rfl
     obtain ⟨H, m⟩ := id hJ
     refine dp_cx wn (cx_call hc9 (ent_f hc9.fn (by show [look 17 ρ 6, look 17 ρ 8] = _; rw [e6, e8])) hn0 (show Hp S0 σ0 _ ([] ++ [Ch.bx n0 b3 0 [(I b_1.1), (I b_1.2)] [] [], Ch.bx n0 b1 0 [(I a_0.1), (I a_0.2)] [] []]) from (H.sel' [0, 1] rfl rfl))) ?_
     rintro _ σq ⟨_, ⟨rfl, rfl⟩, H2, m2⟩
     exact ⟨_, (), rfl, rfl, ⟨H2.sel' [0, 1] rfl rfl, m.comp0 m2⟩, stab [0, 1, 2, 3, 5, 6, 7, 8] (by kernel_rfl) ⟨rfl, rfl, rfl, rfl, rfl, rfl, rfl, rfl, trivial⟩⟩
    trivial) ?_
  refine ac rfl (by
    intro k _nm ρ σm hJ hoff hdep
    have e2 := look_off (N := 17) (hoff 2 rfl) rfl
    exact dp_v (v := (pt b1 0)) wn (rv_fieldAddr (off := 0) (ft := 3) Try.underlying75 rfl ti3 rfl e2) rfl hJ) ?_
  refine all_cons (by
    refine ⟨?_, ?_⟩
    ·intro _nm ρ σm hJ hoff hdep
     have e10 := hdep 5 rfl rfl 10 rfl
     obtain ⟨H, m⟩ := id hJ
     have hc10 := H.cell (u := (I a_0.1)) (o' := 0) 1 0 rfl rfl rfl
     exact dp_v (v := (I a_0.1)) wn (rv_load1 Try.underlying3 rfl e10 hc10) rfl hJ
    refine ⟨?_, ?_⟩
    ·intro _nm ρ σm hJ hoff hdep
     have e10 := hdep 5 rfl rfl 10 rfl
     obtain ⟨H, m⟩ := id hJ
     have hc10 := H.cell (u := (I a_0.1)) (o' := 0) 1 0 rfl rfl rfl
     exact dp_v (v := (I a_0.1)) wn (rv_load1 Try.underlying3 rfl e10 hc10) rfl hJ
    trivial) ?_
  refine ac rfl (by
    intro k _nm ρ σm hJ hoff hdep
    have e3 := look_off (N := 17) (hoff 3 rfl) rfl
    exact dp_v (v := (pt b3 0)) wn (rv_fieldAddr (off := 0) (ft := 3) Try.underlying75 rfl ti3 rfl e3) rfl hJ) ?_
  refine all_cons (by
    refine ⟨?_, ?_⟩
    ·intro _nm ρ σm hJ hoff hdep
     have e12 := hdep 7 rfl rfl 12 rfl
     obtain ⟨H, m⟩ := id hJ
     have hc11 := H.cell (u := (I b_1.1)) (o' := 0) 0 0 rfl rfl rfl
     exact dp_v (v := (I b_1.1)) wn (rv_load1 Try.underlying3 rfl e12 hc11) rfl hJ
    refine ⟨?_, ?_⟩
    ·intro _nm ρ σm hJ hoff hdep
     have e12 := hdep 7 rfl rfl 12 rfl
     obtain ⟨H, m⟩ := id hJ
     have hc11 := H.cell (u := (I b_1.1)) (o' := 0) 0 0 rfl rfl rfl
     exact dp_v (v := (I b_1.1)) wn (rv_load1 Try.underlying3 rfl e12 hc11) rfl hJ
    trivial) ?_
  exact all_nil
 ·intro _nm ρ σ12 hJ hoff hrel
  have e9 := hrel 4 rfl 9 rfl
  have e11 := hrel 6 rfl 11 rfl
  have e13 := hrel 8 rfl 13 rfl
  obtain ⟨H, -⟩ := (show Hp S0 σ0 σ12 [Ch.bx n0 b3 0 [(I b_1.1), (I b_1.2)] [] [], Ch.bx n0 b1 0 [(I a_0.1), (I a_0.2)] [] []] ∧ Md (cov []) σ4 σ12 from hJ)
  clear hJ Hs
  rw [fr_lookL (L := [(9, (I r7)), (11, (I a_0.1)), (13, (I b_1.1))]) ⟨e9, e11, e13, trivial⟩]
  clear hoff hrel e9 e11 e13
  obtain ⟨r13, hx14, h'⟩ := bind_some h
  clear h
  have h := h'; clear h'
  have hc15 := c_cmp_Compare_int hx14
  refine st_call (cx_call hc15 (ent_f hc15.fn rfl) hn0 (show Hp S0 σ0 _ ([] ++ [Ch.bx n0 b3 0 [(I b_1.1), (I b_1.2)] [] [], Ch.bx n0 b1 0 [(I a_0.1), (I a_0.2)] [] []]) from (H.sel' [0, 1] rfl rfl))) wn ?_
  rintro _ σ16 ⟨_, ⟨rfl, rfl⟩, H, -⟩
  replace H : Hp S0 σ0 σ16 [Ch.bx n0 b3 0 [(I b_1.1), (I b_1.2)] [] [], Ch.bx n0 b1 0 [(I a_0.1), (I a_0.2)] [] []] := H
  refine st_ex (ex_buildSlice (el := n0) (xs := ([r7, r13] : List Int)) (ps := [(0, (I r7)), (1, (I r13))]) (cs := [(I r7), (I r13)]) H hn0 Try.underlying36 ti3 rfl rfl (by kernel_rfl) (.cons (c := [(I r7)]) rfl (.cons (c := [(I r13)]) rfl (.nil))) rfl) wn ?_
  rintro _ σ18 ⟨b17, rfl, H, -⟩
  obtain ⟨σ19, hw20, H, -⟩ := H.pub 0 rfl (Nat.le_refl _)
  rw [← hw20]; clear hw20
  replace H := H.roLow 0 0 rfl (Nat.zero_le _)
  obtain ⟨r21, hx22, h'⟩ := bind_some h
  clear h
  have h := h'; clear h'
  have hc23 := c_cmp_Or_int (avals_0 := (some ⟨b17, 0, none⟩)) (cvals_0 := 2) hx22
  refine st_call (cx_call hc23 (ent_f hc23.fn rfl) hn0 (show Hp S0 σ0 _ ([Ch.ro 0 (Sl (some ⟨b17, 0, none⟩) ([r7, r13] : List Int) 2) ([r7, r13] : List Int)] ++ [Ch.ro 0 (Sl (some ⟨b17, 0, none⟩) ([r7, r13] : List Int) 2) ([r7, r13] : List Int), Ch.ro n0 (Sl (some ⟨b17, 0, none⟩) ([r7, r13] : List Int) 2) ([r7, r13] : List Int), Ch.bx n0 b3 0 [(I b_1.1), (I b_1.2)] [] [], Ch.bx n0 b1 0 [(I a_0.1), (I a_0.2)] [] []]) from (H.sel' [0, 0, 1, 2, 3] rfl rfl))) wn ?_
  rintro _ σ24 ⟨_, ⟨rfl, rfl⟩, H, -⟩
  replace H : Hp S0 σ0 σ24 [Ch.ro 0 (Sl (some ⟨b17, 0, none⟩) ([r7, r13] : List Int) 2) ([r7, r13] : List Int), Ch.ro n0 (Sl (some ⟨b17, 0, none⟩) ([r7, r13] : List Int) 2) ([r7, r13] : List Int), Ch.bx n0 b3 0 [(I b_1.1), (I b_1.2)] [] [], Ch.bx n0 b1 0 [(I a_0.1), (I a_0.2)] [] []] := H
  refine st (v := (I r21)) (rv_assign rfl) ?_
  refine w_end ?_
  refine q_then ?_
  refine c_ret ?_
  obtain rfl := Option.some.inj h
  exact fin_ret (v := (I r21)) (results_ok Try.results114 (res_tmp (v := (I r21)) rfl res_nil) rfl) ⟨rfl, rfl⟩ (H.sel' [] rfl rfl)

theorem c_impl_sortByDistance_1__p3__p24 {x_0 : Int × (List Int) × Int} {y_1 : Int × (List Int) × Int} {p_2 : Int} {p_3 : List Int} {ax_0_1 : Option Addr} {cx_0_1 : Nat} {ay_1_1 : Option Addr} {cy_1_1 : Nat} {bp_2 op_2 : Nat} {bp_3 op_3 : Nat} {r : Int} (h : M.impl_sortByDistance_1__p3__p24 x_0 y_1 p_2 p_3 = some r) :
    Cal2 Try.prog 113 [(.agg #[(I x_0.1), (Sl ax_0_1 x_0.2.1 cx_0_1), (I x_0.2.2)]), (.agg #[(I y_1.1), (Sl ay_1_1 y_1.2.1 cy_1_1), (I y_1.2.2)]), (pt bp_2 op_2), (pt bp_3 op_3)] [Ch.ro 0 (Sl ax_0_1 x_0.2.1 cx_0_1) x_0.2.1, Ch.ro 0 (Sl ay_1_1 y_1.2.1 cy_1_1) y_1.2.1, Ch.ro 0 (Sl (some ⟨bp_2, op_2, none⟩) ([p_2] : List Int) 1) ([p_2] : List Int), Ch.ro 0 (Sl (some ⟨bp_3, op_3, none⟩) ([p_3] : List (List Int)) 1) ([p_3] : List (List Int))] (fun n0 v L => v = (I r) ∧ L = []) := by
 refine cal2 (n := 16) Try.func113 rfl rfl rfl rfl ?_
 intro S0 σ0 n0 hn0 H
 unfold M.impl_sortByDistance_1__p3__p24 at h
 have hxp_2 : gidx ([p_2] : List Int) 0 = some p_2 := rfl
 have hip_2 : Ix (Sl (some ⟨bp_2, op_2, none⟩) ([p_2] : List Int) 1) 0 1 bp_2 op_2 := ix_one
 have hxp_3 : gidx ([p_3] : List (List Int)) 0 = some p_3 := rfl
 have hip_3 : Ix (Sl (some ⟨bp_3, op_3, none⟩) ([p_3] : List (List Int)) 1) 0 1 bp_3 op_3 := ix_one
 refine c_seq ?_
 refine rg ?_
 refine st_ex (ex_box (cs := [(I x_0.1), (Sl ax_0_1 x_0.2.1 cx_0_1), (I x_0.2.2)]) H hn0 rfl rfl) wn ?_
 rintro _ σ2 ⟨b1, rfl, H, -⟩
 refine st_ex (ex_box (cs := [(I y_1.1), (Sl ay_1_1 y_1.2.1 cy_1_1), (I y_1.2.2)]) H hn0 rfl rfl) wn ?_
 rintro _ σ4 ⟨b3, rfl, H, -⟩
 refine st (v := (I 0)) (rv_assign rfl) ?_
 refine w_end ?_
 refine q_then ?_
 refine c_seq ?_
 have hc5 := H.cells 1 rfl
 have hc6 := ((H.ro 4 rfl).at hxp_2 hip_2).int
 obtain ⟨v10, hc11, hR9⟩ := ((H.ro 5 rfl).at hxp_3 hip_3).slice
 obtain ⟨a7, c8, rfl⟩ := hR9.isSl
 replace H := H.add (d := Ch.ro 0 (Sl a7 p_3 c8) p_3) hR9 (fun _ h => h)
 clear hR9
 obtain ⟨r12, hx13, h'⟩ := bind_some h
 clear h
 have h := h'; clear h'
 have hc14 := c_impl_hitOf (ax_0_1 := ax_0_1) (cx_0_1 := cx_0_1) (aat_2 := a7) (cat_2 := c8) hx13
 have hc15 := H.cells 1 rfl
 have hc16 := ((H.ro 5 rfl).at hxp_2 hip_2).int
 obtain ⟨v20, hc21, hR19⟩ := ((H.ro 6 rfl).at hxp_3 hip_3).slice
 obtain ⟨a17, c18, rfl⟩ := hR19.isSl
 replace H := H.add (d := Ch.ro 0 (Sl a17 p_3 c18) p_3) hR19 (fun _ h => h)
 clear hR19
 have Hs := H
 refine rg2 (σ := σ4) (Nm := Unit) 7 [3] [[false], [true]] [[(0, 0)], [(0, 0)], [(0, 0)], [(0, 1)], [(0, 0), (1, 1)], [(0, 0), (1, 1)], [(0, 0), (1, 1)]] 1 [fun _ => fun σm => Hp S0 σ0 σm [Ch.ro 0 (Sl a17 p_3 c18) p_3, Ch.ro 0 (Sl a7 p_3 c8) p_3, Ch.bx n0 b3 0 [(I y_1.1), (Sl ay_1_1 y_1.2.1 cy_1_1), (I y_1.2.2)] [] [], Ch.bx n0 b1 0 [(I x_0.1), (Sl ax_0_1 x_0.2.1 cx_0_1), (I x_0.2.2)] [] [], Ch.ro 0 (Sl ax_0_1 x_0.2.1 cx_0_1) x_0.2.1, Ch.ro 0 (Sl ay_1_1 y_1.2.1 cy_1_1) y_1.2.1, Ch.ro 0 (Sl (some ⟨bp_2, op_2, none⟩) ([p_2] : List Int) 1) ([p_2] : List Int), Ch.ro 0 (Sl (some ⟨bp_3, op_3, none⟩) ([p_3] : List (List Int)) 1) ([p_3] : List (List Int))] ∧ Md (cov []) σ4 σm, fun _ => fun σm => Hp S0 σ0 σm [Ch.ro 0 (Sl a17 p_3 c18) p_3, Ch.ro 0 (Sl a7 p_3 c8) p_3, Ch.bx n0 b3 0 [(I y_1.1), (Sl ay_1_1 y_1.2.1 cy_1_1), (I y_1.2.2)] [] [], Ch.bx n0 b1 0 [(I x_0.1), (Sl ax_0_1 x_0.2.1 cx_0_1), (I x_0.2.2)] [] [], Ch.ro 0 (Sl ax_0_1 x_0.2.1 cx_0_1) x_0.2.1, Ch.ro 0 (Sl ay_1_1 y_1.2.1 cy_1_1) y_1.2.1, Ch.ro 0 (Sl (some ⟨bp_2, op_2, none⟩) ([p_2] : List Int) 1) ([p_2] : List Int), Ch.ro 0 (Sl (some ⟨bp_3, op_3, none⟩) ([p_3] : List (List Int)) 1) ([p_3] : List (List Int))] ∧ Md (cov []) σ4 σm] [fun _ => (.agg #[(I x_0.1), (Sl ax_0_1 x_0.2.1 cx_0_1), (I x_0.2.2)]), fun _ => (I p_2), fun _ => (Sl a7 p_3 c8), fun _ => (.agg #[(I r12.1), (I r12.2)]), fun _ => (.agg #[(I y_1.1), (Sl ay_1_1 y_1.2.1 cy_1_1), (I y_1.2.2)]), fun _ => (I p_2), fun _ => (Sl a17 p_3 c18)] () (by kernel_rfl) (by kernel_rfl) ?_ ?_ ?_
 ·intro σm m0
  exact ⟨H.grow (m0.mono fun _ h => h.elim), m0⟩
 ·refine all_cons (by
    refine ⟨?_, ?_⟩
    ·intro _nm ρ σm hJ hoff hdep
     have e4 := look_off (N := 16) (hoff 4 rfl) rfl
     obtain ⟨H, m⟩ := id hJ
     have hc5 := H.cells 3 rfl
     exact dp_v (v := (.agg #[(I x_0.1), (Sl ax_0_1 x_0.2.1 cx_0_1), (I x_0.2.2)])) wn (rv_load (cs := [(I x_0.1), (Sl ax_0_1 x_0.2.1 cx_0_1), (I x_0.2.2)]) Try.underlying65 rfl ti65 e4 rfl hc5) rfl hJ
    trivial) ?_
  refine all_cons (by
    refine ⟨?_, ?_⟩
    ·intro _nm ρ σm hJ hoff hdep
     have e2 := look_off (N := 16) (hoff 2 rfl) rfl
     obtain ⟨H, m⟩ := id hJ
     replace hc6 := (Hs.ro 6 rfl).hmd hxp_2 hip_2 (k := 0) (by decide) hc6 m
     exact dp_v (v := (I p_2)) wn (rv_load1 Try.underlying3 rfl e2 hc6) rfl hJ
    trivial) ?_
  refine all_cons (by
    refine ⟨?_, ?_⟩
    ·intro _nm ρ σm hJ hoff hdep
     have e3 := look_off (N := 16) (hoff 3 rfl) rfl
     obtain ⟨H, m⟩ := id hJ
     replace hc11 := (Hs.ro 7 rfl).hmd hxp_3 hip_3 (k := 0) (by decide) hc11 m
     exact dp_v (v := (Sl a7 p_3 c8)) wn (rv_load1 Try.underlying36 rfl e3 hc11) rfl hJ
    trivial) ?_
  refine all_cons (by
    refine ⟨?_, ?_⟩
    ·intro _nm ρ σm hJ hoff hdep
     have e7 : look 16 ρ 7 = (.agg #[(I x_0.1), (Sl ax_0_1 x_0.2.1 cx_0_1), (I x_0.2.2)]) := hdep 0 rfl rfl 7 rfl
     have e8 : look 16 ρ 8 = (I p_2) := hdep 1 rfl rfl 8 rfl
     have e9 : look 16 ρ 9 = (Sl a7 p_3 c8) := hdep 2 rfl rfl 9 rfl
     obtain ⟨H, m⟩ := id hJ
     refine dp_cx wn (cx_call hc14 (ent_f hc14.fn (by show [look 16 ρ 7, look 16 ρ 8, look 16 ρ 9] = _; rw [e7, e8, e9])) hn0 (show Hp S0 σ0 _ ([Ch.ro 0 (Sl ax_0_1 x_0.2.1 cx_0_1) x_0.2.1, Ch.ro 0 (Sl a7 p_3 c8) p_3] ++ [Ch.ro 0 (Sl a17 p_3 c18) p_3, Ch.ro 0 (Sl a7 p_3 c8) p_3, Ch.bx n0 b3 0 [(I y_1.1), (Sl ay_1_1 y_1.2.1 cy_1_1), (I y_1.2.2)] [] [], Ch.bx n0 b1 0 [(I x_0.1), (Sl ax_0_1 x_0.2.1 cx_0_1), (I x_0.2.2)] [] [], Ch.ro 0 (Sl ax_0_1 x_0.2.1 cx_0_1) x_0.2.1, Ch.ro 0 (Sl ay_1_1 y_1.2.1 cy_1_1) y_1.2.1, Ch.ro 0 (Sl (some ⟨bp_2, op_2, none⟩) ([p_2] : List Int) 1) ([p_2] : List Int), Ch.ro 0 (Sl (some ⟨bp_3, op_3, none⟩) ([p_3] : List (List Int)) 1) ([p_3] : List (List Int))]) from (H.sel' [4, 1, 0, 1, 2, 3, 4, 5, 6, 7] rfl rfl))) ?_
     rintro _ σq ⟨_, ⟨rfl, rfl⟩, H2, m2⟩
     exact ⟨_, (), rfl, rfl, ⟨H2.sel' [0, 1, 2, 3, 4, 5, 6, 7] rfl rfl, m.comp0 (m2.mono (fun i h => by simp [cov, Ch.ro] at h))⟩, stab [0, 1, 2, 4, 5, 6] (by kernel_rfl) ⟨rfl, rfl, rfl, rfl, rfl, rfl, trivial⟩⟩
    trivial) ?_
  refine all_cons (by
    refine ⟨?_, ?_⟩
    ·intro _nm ρ σm hJ hoff hdep
     have e5 := look_off (N := 16) (hoff 5 rfl) rfl
     obtain ⟨H, m⟩ := id hJ
     have hc15 := H.cells 2 rfl
     exact dp_v (v := (.agg #[(I y_1.1), (Sl ay_1_1 y_1.2.1 cy_1_1), (I y_1.2.2)])) wn (rv_load (cs := [(I y_1.1), (Sl ay_1_1 y_1.2.1 cy_1_1), (I y_1.2.2)]) Try.underlying65 rfl ti65 e5 rfl hc15) rfl hJ
    refine ⟨?_, ?_⟩
    ·intro _nm ρ σm hJ hoff hdep
     have e5 := look_off (N := 16) (hoff 5 rfl) rfl
     obtain ⟨H, m⟩ := id hJ
     have hc15 := H.cells 2 rfl
     exact dp_v (v := (.agg #[(I y_1.1), (Sl ay_1_1 y_1.2.1 cy_1_1), (I y_1.2.2)])) wn (rv_load (cs := [(I y_1.1), (Sl ay_1_1 y_1.2.1 cy_1_1), (I y_1.2.2)]) Try.underlying65 rfl ti65 e5 rfl hc15) rfl hJ
    trivial) ?_
  refine all_cons (by
    refine ⟨?_, ?_⟩
    ·intro _nm ρ σm hJ hoff hdep
     have e2 := look_off (N := 16) (hoff 2 rfl) rfl
     obtain ⟨H, m⟩ := id hJ
     replace hc16 := (Hs.ro 6 rfl).hmd hxp_2 hip_2 (k := 0) (by decide) hc16 m
     exact dp_v (v := (I p_2)) wn (rv_load1 Try.underlying3 rfl e2 hc16) rfl hJ
    refine ⟨?_, ?_⟩
    ·intro _nm ρ σm hJ hoff hdep
     have e2 := look_off (N := 16) (hoff 2 rfl) rfl
     obtain ⟨H, m⟩ := id hJ
     replace hc16 := (Hs.ro 6 rfl).hmd hxp_2 hip_2 (k := 0) (by decide) hc16 m
     exact dp_v (v := (I p_2)) wn (rv_load1 Try.underlying3 rfl e2 hc16) rfl hJ
    trivial) ?_
  refine all_cons (by
    refine ⟨?_, ?_⟩
    ·intro _nm ρ σm hJ hoff hdep
     have e3 := look_off (N := 16) (hoff 3 rfl) rfl
     obtain ⟨H, m⟩ := id hJ
     replace hc21 := (Hs.ro 7 rfl).hmd hxp_3 hip_3 (k := 0) (by decide) hc21 m
     exact dp_v (v := (Sl a17 p_3 c18)) wn (rv_load1 Try.underlying36 rfl e3 hc21) rfl hJ
    refine ⟨?_, ?_⟩
    ·intro _nm ρ σm hJ hoff hdep
     have e3 := look_off (N := 16) (hoff 3 rfl) rfl
     obtain ⟨H, m⟩ := id hJ
     replace hc21 := (Hs.ro 7 rfl).hmd hxp_3 hip_3 (k := 0) (by decide) hc21 m
     exact dp_v (v := (Sl a17 p_3 c18)) wn (rv_load1 Try.underlying36 rfl e3 hc21) rfl hJ
    trivial) ?_
  exact all_nil
 ·intro _nm ρ σ22 hJ hoff hrel
  have e10 := hrel 3 rfl 10 rfl
  have e11 := hrel 4 rfl 11 rfl
  have e12 := hrel 5 rfl 12 rfl
  have e13 := hrel 6 rfl 13 rfl
  obtain ⟨H, -⟩ := (show Hp S0 σ0 σ22 [Ch.ro 0 (Sl a17 p_3 c18) p_3, Ch.ro 0 (Sl a7 p_3 c8) p_3, Ch.bx n0 b3 0 [(I y_1.1), (Sl ay_1_1 y_1.2.1 cy_1_1), (I y_1.2.2)] [] [], Ch.bx n0 b1 0 [(I x_0.1), (Sl ax_0_1 x_0.2.1 cx_0_1), (I x_0.2.2)] [] [], Ch.ro 0 (Sl ax_0_1 x_0.2.1 cx_0_1) x_0.2.1, Ch.ro 0 (Sl ay_1_1 y_1.2.1 cy_1_1) y_1.2.1, Ch.ro 0 (Sl (some ⟨bp_2, op_2, none⟩) ([p_2] : List Int) 1) ([p_2] : List Int), Ch.ro 0 (Sl (some ⟨bp_3, op_3, none⟩) ([p_3] : List (List Int)) 1) ([p_3] : List (List Int))] ∧ Md (cov []) σ4 σ22 from hJ)
  clear hJ Hs
  rw [fr_lookL (L := [(10, (.agg #[(I r12.1), (I r12.2)])), (11, (.agg #[(I y_1.1), (Sl ay_1_1 y_1.2.1 cy_1_1), (I y_1.2.2)])), (12, (I p_2)), (13, (Sl a17 p_3 c18))]) ⟨e10, e11, e12, e13, trivial⟩]
  clear hoff hrel e10 e11 e12 e13
  obtain ⟨r23, hx24, h'⟩ := bind_some h
  clear h
  have h := h'; clear h'
  have hc25 := c_impl_hitOf (ax_0_1 := ay_1_1) (cx_0_1 := cy_1_1) (aat_2 := a17) (cat_2 := c18) hx24
  refine st_call (cx_call hc25 (ent_f hc25.fn rfl) hn0 (show Hp S0 σ0 _ ([Ch.ro 0 (Sl ay_1_1 y_1.2.1 cy_1_1) y_1.2.1, Ch.ro 0 (Sl a17 p_3 c18) p_3] ++ [Ch.ro 0 (Sl a17 p_3 c18) p_3, Ch.ro 0 (Sl a7 p_3 c8) p_3, Ch.bx n0 b3 0 [(I y_1.1), (Sl ay_1_1 y_1.2.1 cy_1_1), (I y_1.2.2)] [] [], Ch.bx n0 b1 0 [(I x_0.1), (Sl ax_0_1 x_0.2.1 cx_0_1), (I x_0.2.2)] [] [], Ch.ro 0 (Sl ax_0_1 x_0.2.1 cx_0_1) x_0.2.1, Ch.ro 0 (Sl ay_1_1 y_1.2.1 cy_1_1) y_1.2.1, Ch.ro 0 (Sl (some ⟨bp_2, op_2, none⟩) ([p_2] : List Int) 1) ([p_2] : List Int), Ch.ro 0 (Sl (some ⟨bp_3, op_3, none⟩) ([p_3] : List (List Int)) 1) ([p_3] : List (List Int))]) from (H.sel' [5, 0, 0, 1, 2, 3, 4, 5, 6, 7] rfl rfl))) wn ?_
  rintro _ σ26 ⟨_, ⟨rfl, rfl⟩, H, -⟩
  replace H : Hp S0 σ0 σ26 [Ch.ro 0 (Sl a17 p_3 c18) p_3, Ch.ro 0 (Sl a7 p_3 c8) p_3, Ch.bx n0 b3 0 [(I y_1.1), (Sl ay_1_1 y_1.2.1 cy_1_1), (I y_1.2.2)] [] [], Ch.bx n0 b1 0 [(I x_0.1), (Sl ax_0_1 x_0.2.1 cx_0_1), (I x_0.2.2)] [] [], Ch.ro 0 (Sl ax_0_1 x_0.2.1 cx_0_1) x_0.2.1, Ch.ro 0 (Sl ay_1_1 y_1.2.1 cy_1_1) y_1.2.1, Ch.ro 0 (Sl (some ⟨bp_2, op_2, none⟩) ([p_2] : List Int) 1) ([p_2] : List Int), Ch.ro 0 (Sl (some ⟨bp_3, op_3, none⟩) ([p_3] : List (List Int)) 1) ([p_3] : List (List Int))] := H
  replace H : Hp S0 σ0 σ26 [] := H.sel' [] rfl rfl
  obtain ⟨r27, hx28, h'⟩ := bind_some h
  clear h
  have h := h'; clear h'
  have hc29 := c_impl_compareHits hx28
  refine st_call (cx_call hc29 (ent_f hc29.fn rfl) hn0 (show Hp S0 σ0 _ ([] ++ []) from (H.sel' [] rfl rfl))) wn ?_
  rintro _ σ30 ⟨_, ⟨rfl, rfl⟩, H, -⟩
  replace H : Hp S0 σ0 σ30 [] := H
  refine st (v := (I r27)) (rv_assign rfl) ?_
  refine w_end ?_
  refine q_then ?_
  refine c_ret ?_
  obtain rfl := Option.some.inj h
  exact fin_ret (v := (I r27)) (results_ok Try.results113 (res_tmp (v := (I r27)) rfl res_nil) rfl) ⟨rfl, rfl⟩ (H.sel' [] rfl rfl)

def sort112_ren : Go.Shelf.Ren := ⟨fun | 6 => 112 | 15 => 97 | 14 => 133 | 28 => 126 | 29 => 127 | 20 => 145 | 21 => 146 | 22 => 147 | 23 => 148 | 24 => 149 | 25 => 150 | 26 => 151 | 27 => 152 | 46 => 156 | 47 => 136 | 48 => 137 | 49 => 157 | 50 => 158 | 57 => 167 | n => n, fun | 22 => 30 | 24 => 65 | 25 => 116 | 3 => 3 | 39 => 100 | 0 => 0 | 53 => 124 | 55 => 126 | 4 => 4 | 46 => 119 | 45 => 118 | 50 => 82 | 5 => 5 | 9 => 9 | 66 => 138 | 70 => 142 | 76 => 160 | 77 => 161 | n => n, fun | n => n⟩
theorem sort112 : Go.Proofs.SlLaysF0.n6 Try.prog sort112_ren := {
  mixed := by kernel_rfl
  f6 := ⟨Try.f112.name, by decide, Try.func112.trans (congrArg some (by kernel_rfl))⟩
  f14 := ⟨Try.f133.name, by decide, Try.func133.trans (congrArg some (by kernel_rfl))⟩
  f15 := Try.func97.trans (congrArg some (by kernel_rfl))
  f20 := ⟨Try.f145.name, by decide, Try.func145.trans (congrArg some (by kernel_rfl))⟩
  f21 := ⟨Try.f146.name, by decide, Try.func146.trans (congrArg some (by kernel_rfl))⟩
  f22 := ⟨Try.f147.name, by decide, Try.func147.trans (congrArg some (by kernel_rfl))⟩
  f23 := ⟨Try.f148.name, by decide, Try.func148.trans (congrArg some (by kernel_rfl))⟩
  f24 := ⟨Try.f149.name, by decide, Try.func149.trans (congrArg some (by kernel_rfl))⟩
  f25 := ⟨Try.f150.name, by decide, Try.func150.trans (congrArg some (by kernel_rfl))⟩
  f26 := ⟨Try.f151.name, by decide, Try.func151.trans (congrArg some (by kernel_rfl))⟩
  f27 := ⟨Try.f152.name, by decide, Try.func152.trans (congrArg some (by kernel_rfl))⟩
  f28 := Try.func126.trans (congrArg some (by kernel_rfl))
  f29 := Try.func127.trans (congrArg some (by kernel_rfl))
  f46 := ⟨Try.f156.name, by decide, Try.func156.trans (congrArg some (by kernel_rfl))⟩
  f47 := Try.func136.trans (congrArg some (by kernel_rfl))
  f48 := Try.func137.trans (congrArg some (by kernel_rfl))
  f49 := ⟨Try.f157.name, by decide, Try.func157.trans (congrArg some (by kernel_rfl))⟩
  f50 := ⟨Try.f158.name, by decide, Try.func158.trans (congrArg some (by kernel_rfl))⟩
  f57 := ⟨Try.f167.name, by decide, Try.func167.trans (congrArg some (by kernel_rfl))⟩
  t0 := Try.underlying0
  a0 := Try.isAgg0
  z0 := Try.sizeOf0
  v0 := Try.zeroValue0
  t3 := Try.underlying3
  a3 := Try.isAgg3
  z3 := Try.sizeOf3
  v3 := Try.zeroValue3
  t4 := Try.underlying4
  a4 := Try.isAgg4
  z4 := Try.sizeOf4
  v4 := Try.zeroValue4
  t5 := Try.underlying5
  a5 := Try.isAgg5
  z5 := Try.sizeOf5
  v5 := Try.zeroValue5
  t9 := Try.underlying9
  a9 := Try.isAgg9
  z9 := Try.sizeOf9
  v9 := Try.zeroValue9
  t22 := Try.underlying30
  a22 := Try.isAgg30
  z22 := Try.sizeOf30
  v22 := Try.zeroValue30
  t25 := Try.underlying116
  a25 := Try.isAgg116
  z25 := Try.sizeOf116
  v25 := Try.zeroValue116
  t39 := Try.underlying100
  a39 := Try.isAgg100
  z39 := Try.sizeOf100
  v39 := Try.zeroValue100
  t45 := Try.underlying118
  a45 := Try.isAgg118
  z45 := Try.sizeOf118
  v45 := Try.zeroValue118
  t46 := Try.underlying119
  a46 := Try.isAgg119
  z46 := Try.sizeOf119
  v46 := Try.zeroValue119
  t50 := Try.underlying82
  a50 := Try.isAgg82
  z50 := Try.sizeOf82
  v50 := Try.zeroValue82
  t53 := Try.underlying124
  a53 := Try.isAgg124
  z53 := Try.sizeOf124
  v53 := Try.zeroValue124
  t55 := Try.underlying126
  a55 := Try.isAgg126
  z55 := Try.sizeOf126
  v55 := Try.zeroValue126
  t66 := Try.underlying138
  a66 := Try.isAgg138
  z66 := Try.sizeOf138
  v66 := Try.zeroValue138
  t70 := Try.underlying142
  a70 := Try.isAgg142
  z70 := Try.sizeOf142
  v70 := Try.zeroValue142
  t76 := Try.underlying160
  a76 := Try.isAgg160
  z76 := Try.sizeOf160
  v76 := Try.zeroValue160
  t77 := Try.underlying161
  a77 := Try.isAgg161
  z77 := Try.sizeOf161
  v77 := Try.zeroValue161 }

theorem c_slices_SortFunc_impl_Item_impl_Item__impl_sortByDistance_1 {x_0 : List (Int × (List Int) × Int)} {cmp_1_0 : Int} {cmp_1_1 : List Int} {ax_0 : Option Addr} {cx_0 : Nat} {locmp_1_0 bcmp_1_0 ocmp_1_0 : Nat} {precmp_1_0 sufcmp_1_0 : List Value} {acmp_1_1 : Option Addr} {ccmp_1_1 : Nat} {locmp_1_1 bcmp_1_1 ocmp_1_1 : Nat} {precmp_1_1 sufcmp_1_1 : List Value} {r : List (Int × (List Int) × Int)} (h : M.slices_SortFunc_impl_Item_impl_Item__impl_sortByDistance_1 x_0 cmp_1_0 cmp_1_1 = some r) :
    Cal2 Try.prog 112 [(Sl ax_0 x_0 cx_0), (.func (.func 113) #[] #[(pt bcmp_1_0 ocmp_1_0), (pt bcmp_1_1 ocmp_1_1)])] [Ch.own 0 0 (Sl ax_0 x_0 cx_0) x_0, Ch.bx locmp_1_0 bcmp_1_0 ocmp_1_0 [(I cmp_1_0)] precmp_1_0 sufcmp_1_0, Ch.bx locmp_1_1 bcmp_1_1 ocmp_1_1 [(Sl acmp_1_1 cmp_1_1 ccmp_1_1)] precmp_1_1 sufcmp_1_1, Ch.ro 0 (Sl acmp_1_1 cmp_1_1 ccmp_1_1) cmp_1_1] (fun n0 v L => v = (.tuple #[]) ∧ L = [Ch.own 0 0 (Sl ax_0 r cx_0) r, Ch.bx locmp_1_0 bcmp_1_0 ocmp_1_0 [(I cmp_1_0)] precmp_1_0 sufcmp_1_0, Ch.bx locmp_1_1 bcmp_1_1 ocmp_1_1 [(Sl acmp_1_1 cmp_1_1 ccmp_1_1)] precmp_1_1 sufcmp_1_1] ∧ r.length = x_0.length) := by
 obtain ⟨hn, hs, hL, rfl⟩ := sortD_some h
 have hE : ∀ σ σ' : St, Ext σ σ' → (RS 0 σ (Sl (some ⟨bcmp_1_0, ocmp_1_0, none⟩) ([cmp_1_0] : List Int) 1) ([cmp_1_0] : List Int) ∧ RS 0 σ (Sl (some ⟨bcmp_1_1, ocmp_1_1, none⟩) ([cmp_1_1] : List (List Int)) 1) ([cmp_1_1] : List (List Int)) ∧ RS 0 σ (Sl acmp_1_1 cmp_1_1 ccmp_1_1) cmp_1_1) → (RS 0 σ' (Sl (some ⟨bcmp_1_0, ocmp_1_0, none⟩) ([cmp_1_0] : List Int) 1) ([cmp_1_0] : List Int) ∧ RS 0 σ' (Sl (some ⟨bcmp_1_1, ocmp_1_1, none⟩) ([cmp_1_1] : List (List Int)) 1) ([cmp_1_1] : List (List Int)) ∧ RS 0 σ' (Sl acmp_1_1 cmp_1_1 ccmp_1_1) cmp_1_1) := fun σ σ' hE hp => ⟨hp.1.ext hE, hp.2.1.ext hE, hp.2.2.ext hE⟩
 have hB : ∀ σ : St, allAs σ [Ch.bx locmp_1_0 bcmp_1_0 ocmp_1_0 [(I cmp_1_0)] precmp_1_0 sufcmp_1_0, Ch.bx locmp_1_1 bcmp_1_1 ocmp_1_1 [(Sl acmp_1_1 cmp_1_1 ccmp_1_1)] precmp_1_1 sufcmp_1_1, Ch.ro 0 (Sl acmp_1_1 cmp_1_1 ccmp_1_1) cmp_1_1] → apart [Ch.bx locmp_1_0 bcmp_1_0 ocmp_1_0 [(I cmp_1_0)] precmp_1_0 sufcmp_1_0, Ch.bx locmp_1_1 bcmp_1_1 ocmp_1_1 [(Sl acmp_1_1 cmp_1_1 ccmp_1_1)] precmp_1_1 sufcmp_1_1, Ch.ro 0 (Sl acmp_1_1 cmp_1_1 ccmp_1_1) cmp_1_1] → ∃ σp, Pb (cov [Ch.bx locmp_1_0 bcmp_1_0 ocmp_1_0 [(I cmp_1_0)] precmp_1_0 sufcmp_1_0, Ch.bx locmp_1_1 bcmp_1_1 ocmp_1_1 [(Sl acmp_1_1 cmp_1_1 ccmp_1_1)] precmp_1_1 sufcmp_1_1, Ch.ro 0 (Sl acmp_1_1 cmp_1_1 ccmp_1_1) cmp_1_1]) σ σp ∧ (RS 0 σp (Sl (some ⟨bcmp_1_0, ocmp_1_0, none⟩) ([cmp_1_0] : List Int) 1) ([cmp_1_0] : List Int) ∧ RS 0 σp (Sl (some ⟨bcmp_1_1, ocmp_1_1, none⟩) ([cmp_1_1] : List (List Int)) 1) ([cmp_1_1] : List (List Int)) ∧ RS 0 σp (Sl acmp_1_1 cmp_1_1 ccmp_1_1) cmp_1_1) := by
     intro σ hA hP
     obtain ⟨σ0, p0, r0, a0⟩ := pubBox (α := Int) (x := cmp_1_0) hA hP (by exact rfl)
     obtain ⟨σ1, p1, r1, a1⟩ := pubBox (α := List Int) (x := cmp_1_1) a0 hP.2 (by exact ⟨_, rfl, (a0.2.1 : RS 0 σ0 (Sl acmp_1_1 cmp_1_1 ccmp_1_1) cmp_1_1)⟩)
     exact ⟨σ1, (p0.trans p1).mono (fun i h => h.elim (fun h => .inl h) (fun h => .inr (.inl h))), (r0.ext p1.md.ext), r1, a1.1⟩
 have hC : ∀ σ : St, (RS 0 σ (Sl (some ⟨bcmp_1_0, ocmp_1_0, none⟩) ([cmp_1_0] : List Int) 1) ([cmp_1_0] : List Int) ∧ RS 0 σ (Sl (some ⟨bcmp_1_1, ocmp_1_1, none⟩) ([cmp_1_1] : List (List Int)) 1) ([cmp_1_1] : List (List Int)) ∧ RS 0 σ (Sl acmp_1_1 cmp_1_1 ccmp_1_1) cmp_1_1) → ∀ x ∈ x_0, ∀ y ∈ x_0, ∀ cx cy, Rp.rp 0 σ cx x → Rp.rp 0 σ cy y → Calls Try.prog 113 ([Value.agg cx.toArray, Value.agg cy.toArray] ++ [(pt bcmp_1_0 ocmp_1_0), (pt bcmp_1_1 ocmp_1_1)]).toArray σ.w fun e w' => e = .returned (I ((M.impl_sortByDistance_1__p3__p24 (x.1, x.2.1, x.2.2) (y.1, y.2.1, y.2.2) cmp_1_0 cmp_1_1).getD 0)) ∧ ∃ q os, w' = Go.Sort.grow (σ.w.drewN q) os := by
     intro σ hp x hx y hy cx cy rx ry
     obtain ⟨r, hr⟩ := hs x hx y hy
     obtain ⟨_, _, rfl, rfl, ⟨_, _, rfl, ⟨_, rfl, hRx_1⟩, rfl⟩⟩ := rx
     obtain ⟨_, _, rfl, rfl, ⟨_, _, rfl, ⟨_, rfl, hRy_1⟩, rfl⟩⟩ := ry
     obtain ⟨ax_1, cx_1, rfl⟩ := hRx_1.isSl
     obtain ⟨ay_1, cy_1, rfl⟩ := hRy_1.isSl
     have hc := c_impl_sortByDistance_1__p3__p24 (ax_0_1 := ax_1) (cx_0_1 := cx_1) (ay_1_1 := ay_1) (cy_1_1 := cy_1) (bp_2 := bcmp_1_0) (op_2 := ocmp_1_0) (bp_3 := bcmp_1_1) (op_3 := ocmp_1_1) hr
     refine (hc.runs σ 0 (Nat.zero_le _) (Hp.begin ⟨hRx_1, ⟨hRy_1, ⟨hp.1, ⟨hp.2.1, trivial⟩⟩⟩⟩ ⟨fun _ h => h.elim, ⟨fun _ h => h.elim, ⟨fun _ h => h.elim, ⟨fun _ h => h.elim, trivial⟩⟩⟩⟩)).mono ?_
     rintro e w' ⟨v, σ', L', rfl, rfl, ⟨rfl, -⟩, H⟩
     exact ⟨by rw [hr]; rfl, (H.md.mono fun i => fun h => h.elim (fun h => h.elim) (fun h => h.elim (fun h => h.elim) (fun h => h.elim (fun h => h.elim) (fun h => h.elim (fun h => h.elim) (fun h => h))))).grown⟩
 refine (sort_cal2 (α := (Int × (List Int) × Int)) sort112 Try.isAgg65 Try.sizeOf65 (xs := x_0) (a := ax_0) (c := cx_0) (g := 113) (cb := [(pt bcmp_1_0 ocmp_1_0), (pt bcmp_1_1 ocmp_1_1)]) (B := [Ch.bx locmp_1_0 bcmp_1_0 ocmp_1_0 [(I cmp_1_0)] precmp_1_0 sufcmp_1_0, Ch.bx locmp_1_1 bcmp_1_1 ocmp_1_1 [(Sl acmp_1_1 cmp_1_1 ccmp_1_1)] precmp_1_1 sufcmp_1_1, Ch.ro 0 (Sl acmp_1_1 cmp_1_1 ccmp_1_1) cmp_1_1]) (fun x y => (M.impl_sortByDistance_1__p3__p24 (x.1, x.2.1, x.2.2) (y.1, y.2.1, y.2.2) cmp_1_0 cmp_1_1).getD 0) hL hn ⟨_, _, Try.func113, rfl, rfl⟩ _ hE hB hC).conv ?_
 rintro m v L ⟨rfl, rfl⟩
 exact ⟨_, ⟨rfl, rfl, sortL_len⟩, fun H => H.sel' [0, 1, 2] rfl rfl⟩

theorem c_impl_sortByDistance {list_0 : List (Int × (List Int) × Int)} {kind_1 : Int} {at_2 : List Int} {alist_0 : Option Addr} {clist_0 : Nat} {aat_2 : Option Addr} {cat_2 : Nat} {r : (List (Int × (List Int) × Int))} (h : M.impl_sortByDistance list_0 kind_1 at_2 = some r) :
    Cal2 Try.prog 91 [(Sl alist_0 list_0 clist_0), (I kind_1), (Sl aat_2 at_2 cat_2)] [Ch.ro 0 (Sl alist_0 list_0 clist_0) list_0, Ch.ro 0 (Sl aat_2 at_2 cat_2) at_2] (fun n0 v L => ∃ (az1 : Option Addr), ∃ (cz2 : Nat), v = (Sl az1 r cz2) ∧ L = [Ch.own 0 0 (Sl az1 r cz2) r]) := by
 refine cal2 (n := 14) Try.func91 rfl rfl rfl rfl ?_
 intro S0 σ0 n0 hn0 H
 unfold M.impl_sortByDistance at h
 refine c_seq ?_
 refine rg ?_
 refine st_ex (ex_box (cs := [(I kind_1)]) H hn0 rfl rfl) wn ?_
 rintro _ σ2 ⟨b1, rfl, H, -⟩
 refine st_ex (ex_box (cs := [(Sl aat_2 at_2 cat_2)]) H hn0 rfl rfl) wn ?_
 rintro _ σ4 ⟨b3, rfl, H, -⟩
 refine st (v := (.slice none 0 0)) (rv_assign rfl) ?_
 refine w_end ?_
 refine q_then ?_
 refine c_seq ?_
 refine rg ?_
 refine st (v := (Sl alist_0 list_0 clist_0)) (rv_move rfl) ?_
 obtain ⟨r5, hx6, h'⟩ := bind_some h
 clear h
 have h := h'; clear h'
 have hc7 := c_slices_Clone_impl_Item_impl_Item (as_0 := alist_0) (cs_0 := clist_0) hx6
 refine st_call (cx_call hc7 (ent_f hc7.fn rfl) hn0 (show Hp S0 σ0 _ ([Ch.ro 0 (Sl alist_0 list_0 clist_0) list_0] ++ [Ch.bx n0 b3 0 [(Sl aat_2 at_2 cat_2)] [] [], Ch.bx n0 b1 0 [(I kind_1)] [] [], Ch.ro 0 (Sl alist_0 list_0 clist_0) list_0, Ch.ro 0 (Sl aat_2 at_2 cat_2) at_2]) from (H.sel' [2, 0, 1, 2, 3] rfl rfl))) wn ?_
 rintro _ σ10 ⟨_, ⟨a8, c9, rfl, rfl⟩, H, -⟩
 replace H : Hp S0 σ0 σ10 [Ch.own n0 0 (Sl a8 r5 c9) r5, Ch.bx n0 b3 0 [(Sl aat_2 at_2 cat_2)] [] [], Ch.bx n0 b1 0 [(I kind_1)] [] [], Ch.ro 0 (Sl alist_0 list_0 clist_0) list_0, Ch.ro 0 (Sl aat_2 at_2 cat_2) at_2] := H
 refine st (v := (Sl a8 r5 c9)) (rv_assign rfl) ?_
 refine w_end ?_
 refine q_then ?_
 refine c_seq ?_
 refine rg ?_
 refine st (v := (Sl a8 r5 c9)) (rv_move rfl) ?_
 refine st (v := (.func (.func 113) #[] #[(pt b1 0), (pt b3 0)])) (rv_makeFunc (vs := [(pt b1 0), (pt b3 0)]) rfl) ?_
 replace H := H.ownLow 0 0 0 rfl (Nat.zero_le _) (Nat.zero_le _)
 obtain ⟨r11, hx12, h'⟩ := bind_some h
 clear h
 have h := h'; clear h'
 have hc13 := c_slices_SortFunc_impl_Item_impl_Item__impl_sortByDistance_1 (ax_0 := a8) (cx_0 := c9) (locmp_1_0 := n0) (bcmp_1_0 := b1) (ocmp_1_0 := 0) (precmp_1_0 := []) (sufcmp_1_0 := []) (locmp_1_1 := n0) (bcmp_1_1 := b3) (ocmp_1_1 := 0) (precmp_1_1 := []) (sufcmp_1_1 := []) (acmp_1_1 := aat_2) (ccmp_1_1 := cat_2) hx12
 refine st_call (cx_call hc13 (ent_f hc13.fn rfl) hn0 (show Hp S0 σ0 _ ([Ch.own 0 0 (Sl a8 r5 c9) r5, Ch.bx n0 b1 0 [(I kind_1)] [] [], Ch.bx n0 b3 0 [(Sl aat_2 at_2 cat_2)] [] [], Ch.ro 0 (Sl aat_2 at_2 cat_2) at_2] ++ [Ch.ro 0 (Sl alist_0 list_0 clist_0) list_0, Ch.ro 0 (Sl aat_2 at_2 cat_2) at_2]) from (H.sel' [0, 2, 1, 4, 3, 4] rfl rfl))) wn ?_
 rintro _ σ15 ⟨_, ⟨rfl, rfl, hn14⟩, H, -⟩
 replace H : Hp S0 σ0 σ15 [Ch.own 0 0 (Sl a8 r11 c9) r11, Ch.bx n0 b1 0 [(I kind_1)] [] [], Ch.bx n0 b3 0 [(Sl aat_2 at_2 cat_2)] [] [], Ch.ro 0 (Sl alist_0 list_0 clist_0) list_0, Ch.ro 0 (Sl aat_2 at_2 cat_2) at_2] := H
 have hsl : (Sl a8 r5 c9) = (Sl a8 r11 c9) := sl_len hn14.symm
 try rw [hsl]
 try rw [hsl] at H
 clear hsl
 refine w_end ?_
 refine q_then ?_
 refine c_seq ?_
 refine rg ?_
 refine st (v := (Sl a8 r11 c9)) (rv_move rfl) ?_
 refine st (v := (Sl a8 r11 c9)) (rv_assign rfl) ?_
 refine w_end ?_
 refine q_then ?_
 refine c_ret ?_
 obtain rfl := Option.some.inj h
 exact fin_ret (v := (Sl a8 r11 c9)) (results_ok Try.results91 (res_tmp (v := (Sl a8 r11 c9)) rfl res_nil) rfl) ⟨a8, c9, rfl, rfl⟩ (H.sel' [0] rfl rfl)

theorem c_impl_linkItems_1__p_impl_Item {y_0 : Int × (List Int) × Int} {p_1 : Int × (List Int) × Int} {ay_0_1 : Option Addr} {cy_0_1 : Nat} {ap_1_1 : Option Addr} {cp_1_1 : Nat} {lop_1 bp_1 op_1 : Nat} {prep_1 sufp_1 : List Value} {r : Bool} (h : M.impl_linkItems_1__p_impl_Item y_0 p_1 = some r) :
    Cal2 Try.prog 90 [(.agg #[(I y_0.1), (Sl ay_0_1 y_0.2.1 cy_0_1), (I y_0.2.2)]), (pt bp_1 op_1)] [Ch.ro 0 (Sl ay_0_1 y_0.2.1 cy_0_1) y_0.2.1, Ch.bx lop_1 bp_1 op_1 [(I p_1.1), (Sl ap_1_1 p_1.2.1 cp_1_1), (I p_1.2.2)] prep_1 sufp_1, Ch.ro 0 (Sl ap_1_1 p_1.2.1 cp_1_1) p_1.2.1] (fun n0 v L => v = (B r) ∧ L = [Ch.bx lop_1 bp_1 op_1 [(I p_1.1), (Sl ap_1_1 p_1.2.1 cp_1_1), (I p_1.2.2)] prep_1 sufp_1]) := by
 refine cal2 (n := 9) Try.func90 rfl rfl rfl rfl ?_
 intro S0 σ0 n0 hn0 H
 unfold M.impl_linkItems_1__p_impl_Item at h
 refine c_seq ?_
 refine rg ?_
 refine st_ex (ex_box (cs := [(I y_0.1), (Sl ay_0_1 y_0.2.1 cy_0_1), (I y_0.2.2)]) H hn0 rfl rfl) wn ?_
 rintro _ σ2 ⟨b1, rfl, H, -⟩
 refine st (v := (B false)) (rv_assign rfl) ?_
 refine w_end ?_
 refine q_then ?_
 refine c_seq ?_
 refine rg ?_
 refine st (v := (pt b1 0)) (rv_fieldAddr (off := 0) (ft := 3) Try.underlying65 rfl ti3 rfl rfl) ?_
 have hc3 := H.cell (u := (I y_0.1)) (o' := 0) 0 0 rfl rfl rfl
 refine st (v := (I y_0.1)) (rv_load1 Try.underlying3 rfl rfl hc3) ?_
 refine st (v := (pt bp_1 op_1)) (rv_fieldAddr (off := 0) (ft := 3) Try.underlying65 rfl ti3 rfl rfl) ?_
 have hc4 := H.cell (u := (I p_1.1)) (o' := op_1) 2 0 rfl rfl rfl
 refine st (v := (I p_1.1)) (rv_load1 Try.underlying3 rfl rfl hc4) ?_
 refine st (v := (B (y_0.1 != p_1.1))) (rv_neq (a := y_0.1) (b := p_1.1) rfl rfl) ?_
 refine st (v := (B (y_0.1 != p_1.1))) (rv_assign rfl) ?_
 refine w_end ?_
 refine q_then ?_
 refine c_ret ?_
 obtain rfl := Option.some.inj h
 exact fin_ret (v := (B (y_0.1 != p_1.1))) (results_ok Try.results90 (res_tmp (v := (B (y_0.1 != p_1.1))) rfl res_nil) rfl) ⟨rfl, rfl⟩ (H.sel' [2] rfl rfl)

theorem c_impl_itemsThat__impl_linkItems_1 {list_0 : List (Int × (List Int) × Int)} {chosen_1_0 : Int × (List Int) × Int} {alist_0 : Option Addr} {clist_0 : Nat} {achosen_1_0_1 : Option Addr} {cchosen_1_0_1 : Nat} {lochosen_1_0 bchosen_1_0 ochosen_1_0 : Nat} {prechosen_1_0 sufchosen_1_0 : List Value} {r : (List (Int × (List Int) × Int))} (h : M.impl_itemsThat__impl_linkItems_1 list_0 chosen_1_0 = some r) :
    Cal2 Try.prog 78 [(Sl alist_0 list_0 clist_0), (.func (.func 90) #[] #[(pt bchosen_1_0 ochosen_1_0)])] [Ch.ro 0 (Sl alist_0 list_0 clist_0) list_0, Ch.bx lochosen_1_0 bchosen_1_0 ochosen_1_0 [(I chosen_1_0.1), (Sl achosen_1_0_1 chosen_1_0.2.1 cchosen_1_0_1), (I chosen_1_0.2.2)] prechosen_1_0 sufchosen_1_0, Ch.ro 0 (Sl achosen_1_0_1 chosen_1_0.2.1 cchosen_1_0_1) chosen_1_0.2.1] (fun n0 v L => ∃ (az1 : Option Addr), ∃ (cz2 : Nat), v = (Sl az1 r cz2) ∧ L = [Ch.own n0 0 (Sl az1 r cz2) r, Ch.bx lochosen_1_0 bchosen_1_0 ochosen_1_0 [(I chosen_1_0.1), (Sl achosen_1_0_1 chosen_1_0.2.1 cchosen_1_0_1), (I chosen_1_0.2.2)] prechosen_1_0 sufchosen_1_0]) := by
 refine cal2 (n := 23) Try.func78 rfl rfl rfl rfl ?_
 intro S0 σ0 n0 hn0 H
 unfold M.impl_itemsThat__impl_linkItems_1 at h
 refine c_seq ?_
 refine rg ?_
 refine st (v := (.slice none 0 0)) (rv_assign rfl) ?_
 refine w_end ?_
 refine q_then ?_
 refine c_seq ?_
 refine rg ?_
 refine st (v := (.slice none 0 0)) (rv_assign rfl) ?_
 refine w_end ?_
 refine q_then ?_
 refine c_seq ?_
 refine c_seq ?_
 refine rg ?_
 refine st (v := (Sl alist_0 list_0 clist_0)) (rv_move rfl) ?_
 refine st (v := (I (list_0.length : Int))) (rv_len Try.underlying30 rfl) ?_
 refine st (v := (I 0)) (rv_move rfl) ?_
 refine w_end ?_
 refine q_then ?_
 obtain ⟨o1, hj, h'⟩ := bind_some h
 clear h
 refine c_cut (fun e a w => e = .normal ∧ ∃ (ρ : Nat → Value) (σ : St) (aj1 : Option Addr) (cj2 : Nat), a = fr 23 (updL ρ [(1, (.func (.func 90) #[] #[(pt bchosen_1_0 ochosen_1_0)])), (5, (Sl aj1 o1 cj2))]) ∧ w = σ.w ∧ Hp S0 σ0 σ [Ch.ro 0 (Sl achosen_1_0_1 chosen_1_0.2.1 cchosen_1_0_1) chosen_1_0.2.1, Ch.bx lochosen_1_0 bchosen_1_0 ochosen_1_0 [(I chosen_1_0.1), (Sl achosen_1_0_1 chosen_1_0.2.1 cchosen_1_0_1), (I chosen_1_0.2.2)] prechosen_1_0 sufchosen_1_0, Ch.own n0 0 (Sl aj1 o1 cj2) o1]) ?_ ?_
 ·clear h'
  rename _ = some o1 => h
  refine c_blk ?_
  replace H := H.nilOwn (Int × (List Int) × Int) n0 0
  refine wp_loopM _ h (fun s2 a w => ∃ (ρ : Nat → Value) (σ : St) (aj1 : Option Addr) (cj2 : Nat), a = fr 23 (updL ρ [(1, (.func (.func 90) #[] #[(pt bchosen_1_0 ochosen_1_0)])), (5, (Sl aj1 s2.1 cj2)), (8, (Sl alist_0 list_0 clist_0)), (9, (I (list_0.length : Int))), (10, (I s2.2))]) ∧ w = σ.w ∧ Hp S0 σ0 σ [Ch.ro 0 (Sl achosen_1_0_1 chosen_1_0.2.1 cchosen_1_0_1) chosen_1_0.2.1, Ch.bx lochosen_1_0 bchosen_1_0 ochosen_1_0 [(I chosen_1_0.1), (Sl achosen_1_0_1 chosen_1_0.2.1 cchosen_1_0_1), (I chosen_1_0.2.2)] prechosen_1_0 sufchosen_1_0, Ch.own n0 0 (Sl aj1 s2.1 cj2) s2.1, Ch.ro 0 (Sl alist_0 list_0 clist_0) list_0]) ⟨_, σ0, none, 0, fr_join ⟨rfl, rfl, rfl, rfl, rfl, trivial⟩, rfl, H.sel' [3, 2, 0, 1] rfl rfl⟩ ?_
  clear h H
  rintro s2 a w o ⟨ρ, σ3, a4, c5, rfl, rfl, H⟩ h hres
  refine c_seq ?_
  refine rg ?_
  refine st (v := (B (decide (s2.2 < (list_0.length : Int))))) (rv_lss (a := s2.2) (b := (list_0.length : Int)) rfl rfl) ?_
  refine w_end ?_
  refine q_then ?_
  refine c_seq ?_
  refine cd_cond (decide (s2.2 < (list_0.length : Int))) rfl (fun hb6 => ?_) (fun hb6 => ?_)
  ·replace h := bif_t hb6 h
   refine c_skip ?_
   refine q_then ?_
   refine c_seq ?_
   obtain ⟨o7, hj, h'⟩ := bind_some h
   clear h
   refine c_cut (fun e a w => e = .normal ∧ ∃ (ρ : Nat → Value) (σ : St) (aj1 : Option Addr) (cj2 : Nat), a = fr 23 (updL ρ [(1, (.func (.func 90) #[] #[(pt bchosen_1_0 ochosen_1_0)])), (5, (Sl aj1 o7 cj2)), (8, (Sl alist_0 list_0 clist_0)), (9, (I (list_0.length : Int))), (10, (I s2.2))]) ∧ w = σ.w ∧ Hp S0 σ0 σ [Ch.ro 0 (Sl achosen_1_0_1 chosen_1_0.2.1 cchosen_1_0_1) chosen_1_0.2.1, Ch.bx lochosen_1_0 bchosen_1_0 ochosen_1_0 [(I chosen_1_0.1), (Sl achosen_1_0_1 chosen_1_0.2.1 cchosen_1_0_1), (I chosen_1_0.2.2)] prechosen_1_0 sufchosen_1_0, Ch.own n0 0 (Sl aj1 o7 cj2) o7, Ch.ro 0 (Sl alist_0 list_0 clist_0) list_0]) ?_ ?_
   ·clear h'
    rename _ = some o7 => h
    refine c_blk ?_
    refine c_seq ?_
    refine rg ?_
    obtain ⟨x8, hx9, h'⟩ := bind_some h
    clear h
    have h := h'; clear h'
    obtain ⟨b11, o12, hi10, -⟩ := (H.ro 3 rfl).ix hx9
    refine st (v := (pt b11 o12)) (rv_ix Try.underlying30 ti65 rfl rfl hi10) ?_
    obtain ⟨_, ⟨_, _, rfl, rfl, ⟨_, _, rfl, ⟨_, rfl, hR17⟩, rfl⟩⟩, hl13, hc14⟩ := ((H.ro 3 rfl).at hx9 hi10).cells
    obtain ⟨a15, c16, rfl⟩ := hR17.isSl
    replace H := H.add (d := Ch.ro 0 (Sl a15 x8.2.1 c16) x8.2.1) hR17 (fun _ h => h)
    clear hR17
    refine st (v := (.agg #[(I x8.1), (Sl a15 x8.2.1 c16), (I x8.2.2)])) (rv_load Try.underlying65 rfl ti65 rfl hl13 hc14) ?_
    refine st_ex (ex_alloc (cs := [(I 0), (.slice none 0 0), (I 0)]) H hn0 ti65 rfl) wn ?_
    rintro _ σ19 ⟨b18, rfl, H, -⟩
    refine st_exS (ex_store_box (k := 0) (cs := [(I 0), (.slice none 0 0), (I 0)]) (vs := [(I x8.1), (Sl a15 x8.2.1 c16), (I x8.2.2)]) (cs' := [(I x8.1), (Sl a15 x8.2.1 c16), (I x8.2.2)]) H (i := 0) rfl ti65 rfl rfl rfl rfl rfl (Nat.le_of_ble_eq_true rfl) (by simp [plain]) rfl) wn ?_
    rintro σ20 ⟨H, -⟩
    refine w_end ?_
    refine q_then ?_
    refine c_seq ?_
    refine rg ?_
    refine st (v := (.func (.func 90) #[] #[(pt bchosen_1_0 ochosen_1_0)])) (rv_move rfl) ?_
    have hc21 := H.cells 0 rfl
    refine st (v := (.agg #[(I x8.1), (Sl a15 x8.2.1 c16), (I x8.2.2)])) (rv_load (cs := [(I x8.1), (Sl a15 x8.2.1 c16), (I x8.2.2)]) Try.underlying65 rfl ti65 rfl rfl hc21) ?_
    obtain ⟨r22, hx23, h'⟩ := bind_some h
    clear h
    have h := h'; clear h'
    have hc24 := c_impl_linkItems_1__p_impl_Item (ay_0_1 := a15) (cy_0_1 := c16) (lop_1 := lochosen_1_0) (bp_1 := bchosen_1_0) (op_1 := ochosen_1_0) (prep_1 := prechosen_1_0) (sufp_1 := sufchosen_1_0) (ap_1_1 := achosen_1_0_1) (cp_1_1 := cchosen_1_0_1) hx23
    refine st_call (cx_call hc24 (ent_v (cap := [(pt bchosen_1_0 ochosen_1_0)]) hc24.fn rfl rfl) hn0 (show Hp S0 σ0 _ ([Ch.ro 0 (Sl a15 x8.2.1 c16) x8.2.1, Ch.bx lochosen_1_0 bchosen_1_0 ochosen_1_0 [(I chosen_1_0.1), (Sl achosen_1_0_1 chosen_1_0.2.1 cchosen_1_0_1), (I chosen_1_0.2.2)] prechosen_1_0 sufchosen_1_0, Ch.ro 0 (Sl achosen_1_0_1 chosen_1_0.2.1 cchosen_1_0_1) chosen_1_0.2.1] ++ [Ch.bx n0 b18 0 [(I x8.1), (Sl a15 x8.2.1 c16), (I x8.2.2)] [] [], Ch.ro 0 (Sl a15 x8.2.1 c16) x8.2.1, Ch.ro 0 (Sl achosen_1_0_1 chosen_1_0.2.1 cchosen_1_0_1) chosen_1_0.2.1, Ch.own n0 0 (Sl a4 s2.1 c5) s2.1, Ch.ro 0 (Sl alist_0 list_0 clist_0) list_0]) from (H.sel' [1, 3, 2, 0, 1, 2, 4, 5] rfl rfl))) wn ?_
    rintro _ σ25 ⟨_, ⟨rfl, rfl⟩, H, -⟩
    replace H : Hp S0 σ0 σ25 [Ch.bx lochosen_1_0 bchosen_1_0 ochosen_1_0 [(I chosen_1_0.1), (Sl achosen_1_0_1 chosen_1_0.2.1 cchosen_1_0_1), (I chosen_1_0.2.2)] prechosen_1_0 sufchosen_1_0, Ch.bx n0 b18 0 [(I x8.1), (Sl a15 x8.2.1 c16), (I x8.2.2)] [] [], Ch.ro 0 (Sl a15 x8.2.1 c16) x8.2.1, Ch.ro 0 (Sl achosen_1_0_1 chosen_1_0.2.1 cchosen_1_0_1) chosen_1_0.2.1, Ch.own n0 0 (Sl a4 s2.1 c5) s2.1, Ch.ro 0 (Sl alist_0 list_0 clist_0) list_0] := H
    refine w_end ?_
    refine q_then ?_
    refine cd_cond r22 rfl (fun hb26 => ?_) (fun hb26 => ?_)
    ·replace h := bif_t hb26 h
     refine rg ?_
     refine st (v := (Sl a4 s2.1 c5)) (rv_move rfl) ?_
     have hc27 := H.cells 1 rfl
     refine st (v := (.agg #[(I x8.1), (Sl a15 x8.2.1 c16), (I x8.2.2)])) (rv_load (cs := [(I x8.1), (Sl a15 x8.2.1 c16), (I x8.2.2)]) Try.underlying65 rfl ti65 rfl rfl hc27) ?_
     refine st_ex (ex_buildSlice (el := 0) (xs := ([(x8.1, x8.2.1, x8.2.2)] : List (Int × (List Int) × Int))) (ps := [(0, (.agg #[(I x8.1), (Sl a15 x8.2.1 c16), (I x8.2.2)]))]) (cs := [(I x8.1), (Sl a15 x8.2.1 c16), (I x8.2.2)]) H hn0 Try.underlying30 ti65 rfl rfl (by kernel_rfl) (.cons (c := [(I x8.1), (Sl a15 x8.2.1 c16), (I x8.2.2)]) ⟨[(I x8.1)], [(Sl a15 x8.2.1 c16), (I x8.2.2)], rfl, rfl, ⟨[(Sl a15 x8.2.1 c16)], [(I x8.2.2)], rfl, ⟨_, rfl, (H.ro 2 rfl)⟩, rfl⟩⟩ (.nil)) rfl) wn ?_
     rintro _ σ29 ⟨b28, rfl, H, -⟩
     obtain ⟨xs30, hx31, h'⟩ := bind_some h
     clear h
     have h := h'; clear h'
     refine st_ex (ex_append H (i := 5) rfl Try.underlying30 Try.underlying30 ti65 rfl rfl (by decide) (H.own 0 rfl).rd hx31 hn0 rfl rfl) wn ?_
     rintro _ σ34 ⟨a32, c33, rfl, H, -⟩
     refine st (v := (Sl a32 xs30 c33)) (rv_assign rfl) ?_
     refine w_end ?_
     refine q_blk ?_
     obtain rfl := Option.some.inj h
     exact ⟨rfl, _, σ34, a32, c33, fr_join ⟨rfl, rfl, rfl, rfl, rfl, trivial⟩, rfl, H.sel' [5, 2, 0, 6] rfl rfl⟩
    ·replace h := bif_f hb26 h
     refine c_skip ?_
     refine q_blk ?_
     obtain rfl := Option.some.inj h
     exact ⟨rfl, _, σ25, a4, c5, fr_join ⟨rfl, rfl, rfl, rfl, rfl, trivial⟩, rfl, H.sel' [3, 0, 4, 5] rfl rfl⟩
   ·clear hj
    have h := h'
    clear h' H
    rintro e a w ⟨rfl, ρ, σ35, a36, c37, rfl, rfl, H⟩
    refine q_then ?_
    refine rg ?_
    refine st (v := (I (w64 (s2.2 + 1)))) (rv_add (a := s2.2) (b := 1) rfl rfl) ?_
    refine st (v := (I (w64 (s2.2 + 1)))) (rv_move rfl) ?_
    refine w_end ?_
    refine q_then ?_
    obtain rfl := Option.some.inj h
    exact ⟨_, rfl, _, σ35, a36, c37, fr_join ⟨rfl, rfl, rfl, rfl, rfl, trivial⟩, rfl, H.sel' [0, 1, 2, 3] rfl rfl⟩
  ·replace h := bif_f hb6 h
   refine c_exit ?_
   refine q_then_x ?_
   refine q_then_x ?_
   refine q_blk_hit ?_
   obtain rfl := Option.some.inj h
   obtain rfl := hres _ rfl
   exact ⟨rfl, _, σ3, a4, c5, fr_join ⟨rfl, rfl, trivial⟩, rfl, H.sel' [0, 1, 2] rfl rfl⟩
 ·clear hj
  have h := h'
  clear h' H
  rintro e a w ⟨rfl, ρ, σ38, a39, c40, rfl, rfl, H⟩
  refine q_then ?_
  refine c_seq ?_
  refine rg ?_
  refine st (v := (Sl a39 o1 c40)) (rv_move rfl) ?_
  refine st (v := (Sl a39 o1 c40)) (rv_assign rfl) ?_
  refine w_end ?_
  refine q_then ?_
  refine c_ret ?_
  obtain rfl := Option.some.inj h
  exact fin_ret (v := (Sl a39 o1 c40)) (results_ok Try.results78 (res_tmp (v := (Sl a39 o1 c40)) rfl res_nil) rfl) ⟨a39, c40, rfl, rfl⟩ (H.sel' [2, 1] rfl rfl)

theorem c_impl_linkItems {list_0 : List (Int × (List Int) × Int)} {kind_1 : Int} {many_2 : Int} {alist_0 : Option Addr} {clist_0 : Nat} {r : (List (Int × (List (Int × (List Int) × Int))))} (h : M.impl_linkItems list_0 kind_1 many_2 = some r) :
    Cal2 Try.prog 63 [(Sl alist_0 list_0 clist_0), (I kind_1), (I many_2)] [Ch.ro 0 (Sl alist_0 list_0 clist_0) list_0] (fun n0 v L => ∃ (bz1 : Nat), ∃ (Kz2 : List Ch), v = (.map (some bz1)) ∧ L = [Ch.big Kz2] ∧ Mp 0 0 bz1 r Kz2) := by
 refine cal2 (n := 38) Try.func63 rfl rfl rfl rfl ?_
 intro S0 σ0 n0 hn0 H
 unfold M.impl_linkItems at h
 refine c_seq ?_
 refine rg ?_
 refine st (v := (.map none)) (rv_assign rfl) ?_
 refine w_end ?_
 refine q_then ?_
 refine c_seq ?_
 refine rg ?_
 refine st_ex (ex_makeMap (lo := 0) (Int × (List Int) × Int) 0 H (Nat.zero_le _)) wn ?_
 rintro _ σ4 ⟨b1, K2, rfl, hK3, H, -⟩
 refine st (v := (.map (some b1))) (rv_assign rfl) ?_
 refine w_end ?_
 refine q_then ?_
 refine c_seq ?_
 refine c_seq ?_
 refine rg ?_
 refine st (v := (Sl alist_0 list_0 clist_0)) (rv_move rfl) ?_
 refine st (v := (I (list_0.length : Int))) (rv_len Try.underlying30 rfl) ?_
 refine st (v := (I 0)) (rv_move rfl) ?_
 refine w_end ?_
 refine q_then ?_
 obtain ⟨o5, hj, h'⟩ := bind_some h
 clear h
 refine c_cut (fun e a w => e = .normal ∧ ∃ (ρ : Nat → Value) (σ : St) (bj1 : Nat) (Kj2 : List Ch), a = fr 38 (updL ρ [(7, (.map (some bj1)))]) ∧ w = σ.w ∧ Hp S0 σ0 σ [Ch.big Kj2] ∧ Mp 0 0 bj1 o5 Kj2) ?_ ?_
 ·clear h'
  rename _ = some o5 => h
  refine c_blk ?_
  refine wp_loopM _ h (fun s6 a w => ∃ (ρ : Nat → Value) (σ : St) (bj1 : Nat) (Kj2 : List Ch), a = fr 38 (updL ρ [(0, (Sl alist_0 list_0 clist_0)), (1, (I kind_1)), (2, (I many_2)), (7, (.map (some bj1))), (13, (Sl alist_0 list_0 clist_0)), (14, (I (list_0.length : Int))), (15, (I s6.2))]) ∧ w = σ.w ∧ Hp S0 σ0 σ [Ch.ro 0 (Sl alist_0 list_0 clist_0) list_0, Ch.big Kj2] ∧ Mp 0 0 bj1 s6.1 Kj2) ⟨_, σ4, b1, K2, fr_join ⟨rfl, rfl, rfl, rfl, rfl, rfl, rfl, trivial⟩, rfl, H.sel' [1, 0] rfl rfl, hK3⟩ ?_
  clear h H
  rintro s6 a w o ⟨ρ, σ7, b8, K9, rfl, rfl, H, hK10⟩ h hres
  refine c_seq ?_
  refine rg ?_
  refine st (v := (B (decide (s6.2 < (list_0.length : Int))))) (rv_lss (a := s6.2) (b := (list_0.length : Int)) rfl rfl) ?_
  refine w_end ?_
  refine q_then ?_
  refine c_seq ?_
  refine cd_cond (decide (s6.2 < (list_0.length : Int))) rfl (fun hb11 => ?_) (fun hb11 => ?_)
  ·replace h := bif_t hb11 h
   refine c_skip ?_
   refine q_then ?_
   refine c_seq ?_
   refine c_blk ?_
   refine c_seq ?_
   refine rg ?_
   obtain ⟨x12, hx13, h'⟩ := bind_some h
   clear h
   have h := h'; clear h'
   obtain ⟨b15, o16, hi14, -⟩ := (H.ro 0 rfl).ix hx13
   refine st (v := (pt b15 o16)) (rv_ix Try.underlying30 ti65 rfl rfl hi14) ?_
   obtain ⟨_, ⟨_, _, rfl, rfl, ⟨_, _, rfl, ⟨_, rfl, hR21⟩, rfl⟩⟩, hl17, hc18⟩ := ((H.ro 0 rfl).at hx13 hi14).cells
   obtain ⟨a19, c20, rfl⟩ := hR21.isSl
   replace H := H.add (d := Ch.ro 0 (Sl a19 x12.2.1 c20) x12.2.1) hR21 (fun _ h => h)
   clear hR21
   refine st (v := (.agg #[(I x12.1), (Sl a19 x12.2.1 c20), (I x12.2.2)])) (rv_load Try.underlying65 rfl ti65 rfl hl17 hc18) ?_
   refine st_ex (ex_alloc (cs := [(I 0), (.slice none 0 0), (I 0)]) H hn0 ti65 rfl) wn ?_
   rintro _ σ23 ⟨b22, rfl, H, -⟩
   refine st_exS (ex_store_box (k := 0) (cs := [(I 0), (.slice none 0 0), (I 0)]) (vs := [(I x12.1), (Sl a19 x12.2.1 c20), (I x12.2.2)]) (cs' := [(I x12.1), (Sl a19 x12.2.1 c20), (I x12.2.2)]) H (i := 0) rfl ti65 rfl rfl rfl rfl rfl (Nat.le_of_ble_eq_true rfl) (by simp [plain]) rfl) wn ?_
   rintro σ24 ⟨H, -⟩
   refine w_end ?_
   refine q_then ?_
   refine c_seq ?_
   refine rg ?_
   refine st (v := (Sl alist_0 list_0 clist_0)) (rv_move rfl) ?_
   refine st (v := (.func (.func 90) #[] #[(pt b22 0)])) (rv_makeFunc (vs := [(pt b22 0)]) rfl) ?_
   obtain ⟨r25, hx26, h'⟩ := bind_some h
   clear h
   have h := h'; clear h'
   have hc27 := c_impl_itemsThat__impl_linkItems_1 (alist_0 := alist_0) (clist_0 := clist_0) (lochosen_1_0 := n0) (bchosen_1_0 := b22) (ochosen_1_0 := 0) (prechosen_1_0 := []) (sufchosen_1_0 := []) (achosen_1_0_1 := a19) (cchosen_1_0_1 := c20) hx26
   refine st_call (cx_call hc27 (ent_f hc27.fn rfl) hn0 (show Hp S0 σ0 _ ([Ch.ro 0 (Sl alist_0 list_0 clist_0) list_0, Ch.bx n0 b22 0 [(I x12.1), (Sl a19 x12.2.1 c20), (I x12.2.2)] [] [], Ch.ro 0 (Sl a19 x12.2.1 c20) x12.2.1] ++ [Ch.ro 0 (Sl a19 x12.2.1 c20) x12.2.1, Ch.ro 0 (Sl alist_0 list_0 clist_0) list_0, Ch.big K9]) from (H.sel' [2, 0, 1, 1, 2, 3] rfl rfl))) wn ?_
   rintro _ σ30 ⟨_, ⟨a28, c29, rfl, rfl⟩, H, -⟩
   replace H : Hp S0 σ0 σ30 [Ch.own n0 0 (Sl a28 r25 c29) r25, Ch.bx n0 b22 0 [(I x12.1), (Sl a19 x12.2.1 c20), (I x12.2.2)] [] [], Ch.ro 0 (Sl a19 x12.2.1 c20) x12.2.1, Ch.ro 0 (Sl alist_0 list_0 clist_0) list_0, Ch.big K9] := H
   refine st (v := (Sl a28 r25 c29)) (rv_assign rfl) ?_
   refine w_end ?_
   refine q_then ?_
   refine c_seq ?_
   refine rg ?_
   refine st (v := (Sl a28 r25 c29)) (rv_move rfl) ?_
   refine st (v := (I kind_1)) (rv_move rfl) ?_
   refine st (v := (pt b22 1)) (rv_fieldAddr (off := 1) (ft := 36) Try.underlying65 rfl ti36 rfl rfl) ?_
   have hc31 := H.cell (u := (Sl a19 x12.2.1 c20)) (o' := 1) 1 1 rfl rfl rfl
   refine st (v := (Sl a19 x12.2.1 c20)) (rv_load1 Try.underlying36 rfl rfl hc31) ?_
   obtain ⟨σ32, hw33, H, -⟩ := H.pub 0 rfl (Nat.zero_le _)
   rw [← hw33]; clear hw33
   obtain ⟨r34, hx35, h'⟩ := bind_some h
   clear h
   have h := h'; clear h'
   have hc36 := c_impl_sortByDistance (alist_0 := a28) (clist_0 := c29) (aat_2 := a19) (cat_2 := c20) hx35
   refine st_call (cx_call hc36 (ent_f hc36.fn rfl) hn0 (show Hp S0 σ0 _ ([Ch.ro 0 (Sl a28 r25 c29) r25, Ch.ro 0 (Sl a19 x12.2.1 c20) x12.2.1] ++ [Ch.ro 0 (Sl a28 r25 c29) r25, Ch.bx n0 b22 0 [(I x12.1), (Sl a19 x12.2.1 c20), (I x12.2.2)] [] [], Ch.ro 0 (Sl a19 x12.2.1 c20) x12.2.1, Ch.ro 0 (Sl alist_0 list_0 clist_0) list_0, Ch.big K9]) from (H.sel' [0, 2, 0, 1, 2, 3, 4] rfl rfl))) wn ?_
   rintro _ σ39 ⟨_, ⟨a37, c38, rfl, rfl⟩, H, -⟩
   replace H : Hp S0 σ0 σ39 [Ch.own 0 0 (Sl a37 r34 c38) r34, Ch.ro 0 (Sl a28 r25 c29) r25, Ch.bx n0 b22 0 [(I x12.1), (Sl a19 x12.2.1 c20), (I x12.2.2)] [] [], Ch.ro 0 (Sl a19 x12.2.1 c20) x12.2.1, Ch.ro 0 (Sl alist_0 list_0 clist_0) list_0, Ch.big K9] := H
   refine st (v := (Sl a37 r34 c38)) (rv_assign rfl) ?_
   refine w_end ?_
   refine q_then ?_
   refine rgP (σ := σ39) 9 (by kernel_rfl) (by kernel_rfl) (by kernel_rfl) ?_
   refine sq (v := (.map (some b8))) (rv_move rfl) ?_
   refine sq (v := (pt b22 0)) (rv_fieldAddr (off := 0) (ft := 3) Try.underlying65 rfl ti3 rfl rfl) ?_
   have hc40 := H.cell (u := (I x12.1)) (o' := 0) 2 0 rfl rfl rfl
   refine sq (v := (I x12.1)) (rv_load1 Try.underlying3 rfl rfl hc40) ?_
   refine sq (v := (Sl a37 r34 c38)) (rv_move rfl) ?_
   refine sq (v := (I many_2)) (rv_move rfl) ?_
   refine sq (v := (Sl a37 r34 c38)) (rv_move rfl) ?_
   refine sq (v := (I (r34.length : Int))) (rv_len Try.underlying30 rfl) ?_
   refine sq (v := (I (min many_2 (r34.length : Int)))) (rv_min rfl rfl) ?_
   obtain ⟨xs41, hx42, h'⟩ := bind_some h
   clear h
   have h := h'; clear h'
   obtain ⟨a43, c44, hs45, hR46, hb47⟩ := (H.own 0 rfl).slice hx42
   replace H := (H.front (i := 0) rfl).turn (d := Ch.own 0 0 (Sl a43 xs41 c44) xs41) (fun _ => hR46) hb47; clear hR46 hb47
   refine sq (v := (Sl a43 xs41 c44)) (rv_slice_h Try.underlying30 ti65 hs45 rfl rfl) ?_
   refine sq_end ?_
   intro σ48 hm49
   replace H := H.grow (hm49.mono fun _ h => h); clear hm49
   obtain ⟨v50, K51, H, hK52⟩ := H.mpOut x12.1 5 rfl hK10
   replace H := H.sel' [1, 2, 3, 4, 5, 6] rfl rfl
   replace H := H.sel' [0, 1, 2, 3, 4, 5] rfl rfl
   obtain ⟨K53, hK54, he55⟩ := hK52.put (Sl a43 xs41 c44) xs41
   refine st_exS (he55 (ty := _) H Try.underlying78 Try.underlying3 rfl rfl rfl) wn ?_
   rintro σ56 ⟨H, -⟩
   refine w_end ?_
   refine q_blk ?_
   refine q_then ?_
   refine rg ?_
   refine st (v := (I (w64 (s6.2 + 1)))) (rv_add (a := s6.2) (b := 1) rfl rfl) ?_
   refine st (v := (I (w64 (s6.2 + 1)))) (rv_move rfl) ?_
   refine w_end ?_
   refine q_then ?_
   obtain rfl := Option.some.inj h
   exact ⟨_, rfl, _, σ56, b8, K53, fr_join ⟨rfl, rfl, rfl, rfl, rfl, rfl, rfl, trivial⟩, rfl, H.sel' [4, 0] rfl rfl, hK54⟩
  ·replace h := bif_f hb11 h
   refine c_exit ?_
   refine q_then_x ?_
   refine q_then_x ?_
   refine q_blk_hit ?_
   obtain rfl := Option.some.inj h
   obtain rfl := hres _ rfl
   exact ⟨rfl, _, σ7, b8, K9, fr_join ⟨rfl, trivial⟩, rfl, H.sel' [1] rfl rfl, hK10⟩
 ·clear hj
  have h := h'
  clear h' H
  rintro e a w ⟨rfl, ρ, σ57, b58, K59, rfl, rfl, H, hK60⟩
  refine q_then ?_
  refine c_seq ?_
  refine rg ?_
  refine st (v := (.map (some b58))) (rv_move rfl) ?_
  refine st (v := (.map (some b58))) (rv_assign rfl) ?_
  refine w_end ?_
  refine q_then ?_
  refine c_ret ?_
  obtain rfl := Option.some.inj h
  exact fin_ret (v := (.map (some b58))) (results_ok Try.results63 (res_tmp (v := (.map (some b58))) rfl res_nil) rfl) ⟨b58, K59, rfl, rfl, hK60⟩ (H.sel' [0] rfl rfl)

theorem c_impl_placeOf_1 {x_0 : Int × (List Int) × Int} {key_1 : Int} {ax_0_1 : Option Addr} {cx_0_1 : Nat} {r : Int} (h : M.impl_placeOf_1 x_0 key_1 = some r) :
    Cal2 Try.prog 93 [(.agg #[(I x_0.1), (Sl ax_0_1 x_0.2.1 cx_0_1), (I x_0.2.2)]), (I key_1)] [Ch.ro 0 (Sl ax_0_1 x_0.2.1 cx_0_1) x_0.2.1] (fun n0 v L => v = (I r) ∧ L = []) := by
 refine cal2 (n := 9) Try.func93 rfl rfl rfl rfl ?_
 intro S0 σ0 n0 hn0 H
 unfold M.impl_placeOf_1 at h
 refine c_seq ?_
 refine rg ?_
 refine st_ex (ex_box (cs := [(I x_0.1), (Sl ax_0_1 x_0.2.1 cx_0_1), (I x_0.2.2)]) H hn0 rfl rfl) wn ?_
 rintro _ σ2 ⟨b1, rfl, H, -⟩
 refine st (v := (I 0)) (rv_assign rfl) ?_
 refine w_end ?_
 refine q_then ?_
 refine c_seq ?_
 refine rg ?_
 refine st (v := (pt b1 0)) (rv_fieldAddr (off := 0) (ft := 3) Try.underlying65 rfl ti3 rfl rfl) ?_
 have hc3 := H.cell (u := (I x_0.1)) (o' := 0) 0 0 rfl rfl rfl
 refine st (v := (I x_0.1)) (rv_load1 Try.underlying3 rfl rfl hc3) ?_
 refine st (v := (I key_1)) (rv_move rfl) ?_
 obtain ⟨r4, hx5, h'⟩ := bind_some h
 clear h
 have h := h'; clear h'
 have hc6 := c_cmp_Compare_int hx5
 refine st_call (cx_call hc6 (ent_f hc6.fn rfl) hn0 (show Hp S0 σ0 _ ([] ++ [Ch.bx n0 b1 0 [(I x_0.1), (Sl ax_0_1 x_0.2.1 cx_0_1), (I x_0.2.2)] [] [], Ch.ro 0 (Sl ax_0_1 x_0.2.1 cx_0_1) x_0.2.1]) from (H.sel' [0, 1] rfl rfl))) wn ?_
 rintro _ σ7 ⟨_, ⟨rfl, rfl⟩, H, -⟩
 replace H : Hp S0 σ0 σ7 [Ch.bx n0 b1 0 [(I x_0.1), (Sl ax_0_1 x_0.2.1 cx_0_1), (I x_0.2.2)] [] [], Ch.ro 0 (Sl ax_0_1 x_0.2.1 cx_0_1) x_0.2.1] := H
 refine st (v := (I r4)) (rv_assign rfl) ?_
 refine w_end ?_
 refine q_then ?_
 refine c_ret ?_
 obtain rfl := Option.some.inj h
 exact fin_ret (v := (I r4)) (results_ok Try.results93 (res_tmp (v := (I r4)) rfl res_nil) rfl) ⟨rfl, rfl⟩ (H.sel' [] rfl rfl)

theorem c_slices_BinarySearchFunc_impl_Item_impl_Item_int__impl_placeOf_1 {x_0 : List (Int × (List Int) × Int)} {target_1 : Int} {ax_0 : Option Addr} {cx_0 : Nat} {r : Int × Bool} (h : M.slices_BinarySearchFunc_impl_Item_impl_Item_int__impl_placeOf_1 x_0 target_1 = some r) :
    Cal2 Try.prog 92 [(Sl ax_0 x_0 cx_0), (I target_1), (.func (.func 93) #[] #[])] [Ch.ro 0 (Sl ax_0 x_0 cx_0) x_0] (fun n0 v L => v = (.tuple #[(I r.1), (B r.2)]) ∧ L = []) := by
 refine cal2 (n := 49) Try.func92 rfl rfl rfl rfl ?_
 intro S0 σ0 n0 hn0 H
 unfold M.slices_BinarySearchFunc_impl_Item_impl_Item_int__impl_placeOf_1 at h
 refine c_seq ?_
 refine rg ?_
 refine st (v := (I 0)) (rv_assign rfl) ?_
 refine st (v := (B false)) (rv_assign rfl) ?_
 refine w_end ?_
 refine q_then ?_
 refine c_seq ?_
 refine rg ?_
 refine st (v := (Sl ax_0 x_0 cx_0)) (rv_move rfl) ?_
 refine st (v := (I (x_0.length : Int))) (rv_len Try.underlying30 rfl) ?_
 refine st (v := (I (x_0.length : Int))) (rv_assign rfl) ?_
 refine w_end ?_
 refine q_then ?_
 refine c_seq ?_
 refine rg ?_
 refine st (v := (I (x_0.length : Int))) (rv_move rfl) ?_
 refine st (v := (I 0)) (rv_assign rfl) ?_
 refine st (v := (I (x_0.length : Int))) (rv_assign rfl) ?_
 refine w_end ?_
 refine q_then ?_
 refine c_seq ?_
 obtain ⟨o1, hj, h'⟩ := bind_some h
 clear h
 refine c_cut (fun e a w => e = .normal ∧ ∃ (ρ : Nat → Value) (σ : St), a = fr 49 (updL ρ [(0, (Sl ax_0 x_0 cx_0)), (1, (I target_1)), (2, (.func (.func 93) #[] #[])), (8, (I (x_0.length : Int))), (9, (I o1))]) ∧ w = σ.w ∧ Hp S0 σ0 σ [Ch.ro 0 (Sl ax_0 x_0 cx_0) x_0]) ?_ ?_
 ·clear h'
  rename _ = some o1 => h
  refine c_blk ?_
  refine wp_loopM _ h (fun s2 a w => ∃ (ρ : Nat → Value) (σ : St), a = fr 49 (updL ρ [(0, (Sl ax_0 x_0 cx_0)), (1, (I target_1)), (2, (.func (.func 93) #[] #[])), (8, (I (x_0.length : Int))), (9, (I s2.1)), (10, (I s2.2))]) ∧ w = σ.w ∧ Hp S0 σ0 σ [Ch.ro 0 (Sl ax_0 x_0 cx_0) x_0]) ⟨_, σ0, fr_join ⟨rfl, rfl, rfl, rfl, rfl, rfl, trivial⟩, rfl, H.sel' [0] rfl rfl⟩ ?_
  clear h H
  rintro s2 a w o ⟨ρ, σ3, rfl, rfl, H⟩ h hres
  refine c_seq ?_
  refine c_seq ?_
  refine rg ?_
  refine st (v := (I s2.1)) (rv_move rfl) ?_
  refine st (v := (I s2.2)) (rv_move rfl) ?_
  refine st (v := (B (decide (s2.1 < s2.2)))) (rv_lss (a := s2.1) (b := s2.2) rfl rfl) ?_
  refine w_end ?_
  refine q_then ?_
  refine cd_cond (decide (s2.1 < s2.2)) rfl (fun hb4 => ?_) (fun hb4 => ?_)
  ·replace h := bif_t hb4 h
   refine c_skip ?_
   refine q_then ?_
   refine c_blk ?_
   refine c_seq ?_
   refine rg ?_
   refine st (v := (I s2.1)) (rv_move rfl) ?_
   refine st (v := (I s2.2)) (rv_move rfl) ?_
   refine st (v := (I (w64 (s2.1 + s2.2)))) (rv_add (a := s2.1) (b := s2.2) rfl rfl) ?_
   refine st (v := (.int .u64 (wk .u64 (w64 (s2.1 + s2.2))))) (rvk_conv (k := .i64) (k' := .u64) (a := (w64 (s2.1 + s2.2))) Try.underlying3 Try.underlying100 rfl) ?_
   refine st (v := (.int .u64 (gshr .u64 (wk .u64 (w64 (s2.1 + s2.2))) 1))) (rvk_shr (k := .u64) (k' := .u64) (a := (wk .u64 (w64 (s2.1 + s2.2)))) (b := 1) rfl rfl (by decide)) ?_
   refine st (v := (I (wk .i64 (gshr .u64 (wk .u64 (w64 (s2.1 + s2.2))) 1)))) (rvk_conv (k := .u64) (k' := .i64) (a := (gshr .u64 (wk .u64 (w64 (s2.1 + s2.2))) 1)) Try.underlying100 Try.underlying3 rfl) ?_
   refine st (v := (I (wk .i64 (gshr .u64 (wk .u64 (w64 (s2.1 + s2.2))) 1)))) (rv_assign rfl) ?_
   refine w_end ?_
   refine q_then ?_
   refine c_seq ?_
   refine rg ?_
   refine st (v := (.func (.func 93) #[] #[])) (rv_move rfl) ?_
   refine st (v := (Sl ax_0 x_0 cx_0)) (rv_move rfl) ?_
   refine st (v := (I (wk .i64 (gshr .u64 (wk .u64 (w64 (s2.1 + s2.2))) 1)))) (rv_move rfl) ?_
   obtain ⟨x5, hx6, h'⟩ := bind_some h
   clear h
   have h := h'; clear h'
   obtain ⟨b8, o9, hi7, -⟩ := (H.ro 0 rfl).ix hx6
   refine st (v := (pt b8 o9)) (rv_ix Try.underlying30 ti65 rfl rfl hi7) ?_
   obtain ⟨_, ⟨_, _, rfl, rfl, ⟨_, _, rfl, ⟨_, rfl, hR14⟩, rfl⟩⟩, hl10, hc11⟩ := ((H.ro 0 rfl).at hx6 hi7).cells
   obtain ⟨a12, c13, rfl⟩ := hR14.isSl
   replace H := H.add (d := Ch.ro 0 (Sl a12 x5.2.1 c13) x5.2.1) hR14 (fun _ h => h)
   clear hR14
   refine st (v := (.agg #[(I x5.1), (Sl a12 x5.2.1 c13), (I x5.2.2)])) (rv_load Try.underlying65 rfl ti65 rfl hl10 hc11) ?_
   refine st (v := (I target_1)) (rv_move rfl) ?_
   obtain ⟨r15, hx16, h'⟩ := bind_some h
   clear h
   have h := h'; clear h'
   have hc17 := c_impl_placeOf_1 (ax_0_1 := a12) (cx_0_1 := c13) hx16
   refine st_call (cx_call hc17 (ent_v (cap := []) hc17.fn rfl rfl) hn0 (show Hp S0 σ0 _ ([Ch.ro 0 (Sl a12 x5.2.1 c13) x5.2.1] ++ [Ch.ro 0 (Sl a12 x5.2.1 c13) x5.2.1, Ch.ro 0 (Sl ax_0 x_0 cx_0) x_0]) from (H.sel' [0, 0, 1] rfl rfl))) wn ?_
   rintro _ σ18 ⟨_, ⟨rfl, rfl⟩, H, -⟩
   replace H : Hp S0 σ0 σ18 [Ch.ro 0 (Sl a12 x5.2.1 c13) x5.2.1, Ch.ro 0 (Sl ax_0 x_0 cx_0) x_0] := H
   refine st (v := (B (decide (r15 < 0)))) (rv_lss (a := r15) (b := 0) rfl rfl) ?_
   refine w_end ?_
   refine q_then ?_
   refine cd_cond (decide (r15 < 0)) rfl (fun hb19 => ?_) (fun hb19 => ?_)
   ·replace h := bif_t hb19 h
    refine rg ?_
    refine st (v := (I (wk .i64 (gshr .u64 (wk .u64 (w64 (s2.1 + s2.2))) 1)))) (rv_move rfl) ?_
    refine st (v := (I (w64 ((wk .i64 (gshr .u64 (wk .u64 (w64 (s2.1 + s2.2))) 1)) + 1)))) (rv_add (a := (wk .i64 (gshr .u64 (wk .u64 (w64 (s2.1 + s2.2))) 1))) (b := 1) rfl rfl) ?_
    refine st (v := (I (w64 ((wk .i64 (gshr .u64 (wk .u64 (w64 (s2.1 + s2.2))) 1)) + 1)))) (rv_assign rfl) ?_
    refine w_end ?_
    refine q_blk ?_
    refine q_then ?_
    obtain rfl := Option.some.inj h
    exact ⟨_, rfl, _, σ18, fr_join ⟨rfl, rfl, rfl, rfl, rfl, rfl, trivial⟩, rfl, H.sel' [1] rfl rfl⟩
   ·replace h := bif_f hb19 h
    refine rg ?_
    refine st (v := (I (wk .i64 (gshr .u64 (wk .u64 (w64 (s2.1 + s2.2))) 1)))) (rv_move rfl) ?_
    refine st (v := (I (wk .i64 (gshr .u64 (wk .u64 (w64 (s2.1 + s2.2))) 1)))) (rv_assign rfl) ?_
    refine w_end ?_
    refine q_blk ?_
    refine q_then ?_
    obtain rfl := Option.some.inj h
    exact ⟨_, rfl, _, σ18, fr_join ⟨rfl, rfl, rfl, rfl, rfl, rfl, trivial⟩, rfl, H.sel' [1] rfl rfl⟩
  ·replace h := bif_f hb4 h
   refine c_exit ?_
   refine q_then_x ?_
   refine q_then_x ?_
   refine q_blk_hit ?_
   obtain rfl := Option.some.inj h
   obtain rfl := hres _ rfl
   exact ⟨rfl, _, σ3, fr_join ⟨rfl, rfl, rfl, rfl, rfl, trivial⟩, rfl, H.sel' [0] rfl rfl⟩
 ·clear hj
  have h := h'
  clear h' H
  rintro e a w ⟨rfl, ρ, σ20, rfl, rfl, H⟩
  refine q_then ?_
  refine c_seq ?_
  refine rg ?_
  refine st (v := (I o1)) (rv_move rfl) ?_
  refine st (v := (I o1)) (rv_move rfl) ?_
  refine st (v := (I (x_0.length : Int))) (rv_move rfl) ?_
  refine st (v := (B (decide (o1 < (x_0.length : Int))))) (rv_lss (a := o1) (b := (x_0.length : Int)) rfl rfl) ?_
  refine st (v := (B (decide (o1 < (x_0.length : Int))))) (rv_move rfl) ?_
  rcases Bool.eq_false_or_eq_true (decide (o1 < (x_0.length : Int))) with hb21 | hb21
  ·replace h := bif_t hb21 h
   refine st_g (v := (.func (.func 93) #[] #[])) (congrArg some hb21) (rv_move rfl) ?_
   refine st_g (v := (Sl ax_0 x_0 cx_0)) (congrArg some hb21) (rv_move rfl) ?_
   refine st_g (v := (I o1)) (congrArg some hb21) (rv_move rfl) ?_
   obtain ⟨x22, hx23, h'⟩ := bind_some h
   clear h
   have h := h'; clear h'
   obtain ⟨b25, o26, hi24, -⟩ := (H.ro 0 rfl).ix hx23
   refine st_g (v := (pt b25 o26)) (congrArg some hb21) (rv_ix Try.underlying30 ti65 rfl rfl hi24) ?_
   obtain ⟨_, ⟨_, _, rfl, rfl, ⟨_, _, rfl, ⟨_, rfl, hR31⟩, rfl⟩⟩, hl27, hc28⟩ := ((H.ro 0 rfl).at hx23 hi24).cells
   obtain ⟨a29, c30, rfl⟩ := hR31.isSl
   replace H := H.add (d := Ch.ro 0 (Sl a29 x22.2.1 c30) x22.2.1) hR31 (fun _ h => h)
   clear hR31
   refine st_g (v := (.agg #[(I x22.1), (Sl a29 x22.2.1 c30), (I x22.2.2)])) (congrArg some hb21) (rv_load Try.underlying65 rfl ti65 rfl hl27 hc28) ?_
   refine st_g (v := (I target_1)) (congrArg some hb21) (rv_move rfl) ?_
   obtain ⟨r32, hx33, h'⟩ := bind_some h
   clear h
   have h := h'; clear h'
   have hc34 := c_impl_placeOf_1 (ax_0_1 := a29) (cx_0_1 := c30) hx33
   refine st_call (cx_call hc34 (ent_v (cap := []) hc34.fn rfl rfl) hn0 (show Hp S0 σ0 _ ([Ch.ro 0 (Sl a29 x22.2.1 c30) x22.2.1] ++ [Ch.ro 0 (Sl a29 x22.2.1 c30) x22.2.1, Ch.ro 0 (Sl ax_0 x_0 cx_0) x_0]) from (H.sel' [0, 0, 1] rfl rfl))) (wanted_yes rfl (by exact (congrArg some hb21))) ?_
   rintro _ σ35 ⟨_, ⟨rfl, rfl⟩, H, -⟩
   replace H : Hp S0 σ0 σ35 [Ch.ro 0 (Sl a29 x22.2.1 c30) x22.2.1, Ch.ro 0 (Sl ax_0 x_0 cx_0) x_0] := H
   refine st_g (v := (B (r32 == 0))) (congrArg some hb21) (rv_eql (a := r32) (b := 0) rfl rfl) ?_
   refine st (v := (B (r32 == 0))) (rv_pick_t (congrArg B hb21) rfl) ?_
   refine st (v := (I o1)) (rv_assign rfl) ?_
   refine st (v := (B (r32 == 0))) (rv_assign rfl) ?_
   refine w_end ?_
   refine q_then ?_
   refine c_ret ?_
   obtain rfl := Option.some.inj h
   exact fin_ret (v := (.tuple #[(I o1), (B (r32 == 0))])) (results_ok Try.results92 (res_tmp (v := (I o1)) rfl (res_tmp (v := (B (r32 == 0))) rfl res_nil)) rfl) ⟨rfl, rfl⟩ (H.sel' [] rfl rfl)
  ·replace h := bif_f hb21 h
   refine st_skip (congrArg some hb21) ?_
   refine st_skip (congrArg some hb21) ?_
   refine st_skip (congrArg some hb21) ?_
   refine st_skip (congrArg some hb21) ?_
   refine st_skip (congrArg some hb21) ?_
   refine st_skip (congrArg some hb21) ?_
   refine st_skip (congrArg some hb21) ?_
   refine st_skip (congrArg some hb21) ?_
   refine st (v := (B false)) (rv_pick_f (congrArg B hb21) rfl) ?_
   refine st (v := (I o1)) (rv_assign rfl) ?_
   refine st (v := (B false)) (rv_assign rfl) ?_
   refine w_end ?_
   refine q_then ?_
   refine c_ret ?_
   obtain rfl := Option.some.inj h
   exact fin_ret (v := (.tuple #[(I o1), (B false)])) (results_ok Try.results92 (res_tmp (v := (I o1)) rfl (res_tmp (v := (B false)) rfl res_nil)) rfl) ⟨rfl, rfl⟩ (H.sel' [] rfl rfl)

theorem c_impl_placeOf {list_0 : List (Int × (List Int) × Int)} {key_1 : Int} {alist_0 : Option Addr} {clist_0 : Nat} {r : Int × Bool} (h : M.impl_placeOf list_0 key_1 = some r) :
    Cal2 Try.prog 67 [(Sl alist_0 list_0 clist_0), (I key_1)] [Ch.ro 0 (Sl alist_0 list_0 clist_0) list_0] (fun n0 v L => v = (.tuple #[(I r.1), (B r.2)]) ∧ L = []) := by
 refine cal2 (n := 11) Try.func67 rfl rfl rfl rfl ?_
 intro S0 σ0 n0 hn0 H
 unfold M.impl_placeOf at h
 refine c_seq ?_
 refine rg ?_
 refine st (v := (I 0)) (rv_assign rfl) ?_
 refine st (v := (B false)) (rv_assign rfl) ?_
 refine w_end ?_
 refine q_then ?_
 refine c_seq ?_
 refine rg ?_
 refine st (v := (Sl alist_0 list_0 clist_0)) (rv_move rfl) ?_
 refine st (v := (I key_1)) (rv_move rfl) ?_
 obtain ⟨r1, hx2, h'⟩ := bind_some h
 clear h
 have h := h'; clear h'
 have hc3 := c_slices_BinarySearchFunc_impl_Item_impl_Item_int__impl_placeOf_1 (ax_0 := alist_0) (cx_0 := clist_0) hx2
 refine st_call (cx_call hc3 (ent_f hc3.fn rfl) hn0 (show Hp S0 σ0 _ ([Ch.ro 0 (Sl alist_0 list_0 clist_0) list_0] ++ [Ch.ro 0 (Sl alist_0 list_0 clist_0) list_0]) from (H.sel' [0, 0] rfl rfl))) wn ?_
 rintro _ σ4 ⟨_, ⟨rfl, rfl⟩, H, -⟩
 replace H : Hp S0 σ0 σ4 [Ch.ro 0 (Sl alist_0 list_0 clist_0) list_0] := H
 refine st (v := (I r1.1)) (rv_extract rfl rfl) ?_
 refine st (v := (B r1.2)) (rv_extract rfl rfl) ?_
 refine st (v := (I r1.1)) (rv_assign rfl) ?_
 refine st (v := (B r1.2)) (rv_assign rfl) ?_
 refine w_end ?_
 refine q_then ?_
 refine c_ret ?_
 obtain rfl := Option.some.inj h
 exact fin_ret (v := (.tuple #[(I r1.1), (B r1.2)])) (results_ok Try.results67 (res_tmp (v := (I r1.1)) rfl (res_tmp (v := (B r1.2)) rfl res_nil)) rfl) ⟨rfl, rfl⟩ (H.sel' [] rfl rfl)

theorem c_slices_Index_int_int {s_0 : List Int} {v_1 : Int} {as_0 : Option Addr} {cs_0 : Nat} {r : Int} (h : M.slices_Index_int_int s_0 v_1 = some r) :
    Cal2 Try.prog 95 [(Sl as_0 s_0 cs_0), (I v_1)] [Ch.ro 0 (Sl as_0 s_0 cs_0) s_0] (fun n0 v L => v = (I r) ∧ L = []) := by
 refine cal2 (n := 19) Try.func95 rfl rfl rfl rfl ?_
 intro S0 σ0 n0 hn0 H
 unfold M.slices_Index_int_int at h
 refine c_seq ?_
 refine rg ?_
 refine st (v := (I 0)) (rv_assign rfl) ?_
 refine w_end ?_
 refine q_then ?_
 refine c_seq ?_
 refine c_seq ?_
 refine rg ?_
 refine st (v := (Sl as_0 s_0 cs_0)) (rv_move rfl) ?_
 refine st (v := (I (s_0.length : Int))) (rv_len Try.underlying36 rfl) ?_
 refine st (v := (I 0)) (rv_move rfl) ?_
 refine w_end ?_
 refine q_then ?_
 obtain ⟨o1, hj, h'⟩ := bind_some h
 clear h
 refine c_cut (fun e a w => (∃ t, o1 = (.inl t) ∧ e = .normal ∧ ∃ (ρ : Nat → Value) (σ : St), a = fr 19 (updL ρ []) ∧ w = σ.w ∧ Hp S0 σ0 σ []) ∨ (∃ t, o1 = (.inr t) ∧ e = .ret ∧ ∃ (ρ : Nat → Value) (σ : St), a = fr 19 (updL ρ [(4, (I t))]) ∧ w = σ.w ∧ Hp S0 σ0 σ [])) ?_ ?_
 ·clear h'
  rename _ = some o1 => h
  refine c_blk ?_
  refine wp_loopM _ h (fun s2 a w => ∃ (ρ : Nat → Value) (σ : St), a = fr 19 (updL ρ [(0, (Sl as_0 s_0 cs_0)), (1, (I v_1)), (7, (I (s_0.length : Int))), (8, (I s2))]) ∧ w = σ.w ∧ Hp S0 σ0 σ [Ch.ro 0 (Sl as_0 s_0 cs_0) s_0]) ⟨_, σ0, fr_join ⟨rfl, rfl, rfl, rfl, trivial⟩, rfl, H.sel' [0] rfl rfl⟩ ?_
  clear h H
  rintro s2 a w o ⟨ρ, σ3, rfl, rfl, H⟩ h hres
  refine c_seq ?_
  refine rg ?_
  refine st (v := (B (decide (s2 < (s_0.length : Int))))) (rv_lss (a := s2) (b := (s_0.length : Int)) rfl rfl) ?_
  refine w_end ?_
  refine q_then ?_
  refine c_seq ?_
  refine cd_cond (decide (s2 < (s_0.length : Int))) rfl (fun hb4 => ?_) (fun hb4 => ?_)
  ·replace h := bif_t hb4 h
   refine c_skip ?_
   refine q_then ?_
   refine c_seq ?_
   refine c_blk ?_
   refine c_seq ?_
   refine rg ?_
   refine st (v := (I s2)) (rv_move rfl) ?_
   refine st (v := (I s2)) (rv_assign rfl) ?_
   refine w_end ?_
   refine q_then ?_
   refine c_seq ?_
   refine rg ?_
   refine st (v := (I v_1)) (rv_move rfl) ?_
   refine st (v := (Sl as_0 s_0 cs_0)) (rv_move rfl) ?_
   refine st (v := (I s2)) (rv_move rfl) ?_
   obtain ⟨x5, hx6, h'⟩ := bind_some h
   clear h
   have h := h'; clear h'
   obtain ⟨b8, o9, hi7, -⟩ := (H.ro 0 rfl).ix hx6
   refine st (v := (pt b8 o9)) (rv_ix Try.underlying36 ti3 rfl rfl hi7) ?_
   have hc10 := ((H.ro 0 rfl).at hx6 hi7).int
   refine st (v := (I x5)) (rv_load1 Try.underlying3 rfl rfl hc10) ?_
   refine st (v := (B (v_1 == x5))) (rv_eql (a := v_1) (b := x5) rfl rfl) ?_
   refine w_end ?_
   refine q_then ?_
   refine cd_cond (v_1 == x5) rfl (fun hb11 => ?_) (fun hb11 => ?_)
   ·replace h := bif_t hb11 h
    refine c_seq ?_
    refine rg ?_
    refine st (v := (I s2)) (rv_move rfl) ?_
    refine st (v := (I s2)) (rv_assign rfl) ?_
    refine w_end ?_
    refine q_then ?_
    refine c_ret ?_
    refine q_blk_r ?_
    refine q_then_r ?_
    refine q_then_r ?_
    refine q_blk_r ?_
    obtain rfl := Option.some.inj h
    obtain rfl := hres _ rfl
    exact .inr (⟨_, rfl, rfl, _, σ3, fr_join ⟨rfl, trivial⟩, rfl, H.sel' [] rfl rfl⟩)
   ·replace h := bif_f hb11 h
    refine c_skip ?_
    refine q_blk ?_
    refine q_then ?_
    refine rg ?_
    refine st (v := (I (w64 (s2 + 1)))) (rv_add (a := s2) (b := 1) rfl rfl) ?_
    refine st (v := (I (w64 (s2 + 1)))) (rv_move rfl) ?_
    refine w_end ?_
    refine q_then ?_
    obtain rfl := Option.some.inj h
    exact ⟨_, rfl, _, σ3, fr_join ⟨rfl, rfl, rfl, rfl, trivial⟩, rfl, H.sel' [0] rfl rfl⟩
  ·replace h := bif_f hb4 h
   refine c_exit ?_
   refine q_then_x ?_
   refine q_then_x ?_
   refine q_blk_hit ?_
   obtain rfl := Option.some.inj h
   obtain rfl := hres _ rfl
   exact .inl ⟨_, rfl, rfl, _, σ3, fr_join trivial, rfl, H.sel' [] rfl rfl⟩
 ·clear hj
  have h := h'
  clear h' H
  rintro e a w (⟨t12, rfl, rfl, ρ, σ13, rfl, rfl, H⟩ | ⟨t14, rfl, rfl, ρ, σ15, rfl, rfl, H⟩)
  ·replace h := selim_l h
   refine q_then ?_
   refine c_seq ?_
   refine rg ?_
   refine st (v := (I (-1))) (rv_assign rfl) ?_
   refine w_end ?_
   refine q_then ?_
   refine c_ret ?_
   obtain rfl := Option.some.inj h
   exact fin_ret (v := (I (-1))) (results_ok Try.results95 (res_tmp (v := (I (-1))) rfl res_nil) rfl) ⟨rfl, rfl⟩ (H.sel' [] rfl rfl)
  ·replace h := selim_r h
   refine q_then_r ?_
   obtain rfl := Option.some.inj h
   exact fin_ret (v := (I t14)) (results_ok Try.results95 (res_tmp (v := (I t14)) rfl res_nil) rfl) ⟨rfl, rfl⟩ (H.sel' [] rfl rfl)

theorem c_slices_Contains_int_int {s_0 : List Int} {v_1 : Int} {as_0 : Option Addr} {cs_0 : Nat} {r : Bool} (h : M.slices_Contains_int_int s_0 v_1 = some r) :
    Cal2 Try.prog 68 [(Sl as_0 s_0 cs_0), (I v_1)] [Ch.ro 0 (Sl as_0 s_0 cs_0) s_0] (fun n0 v L => v = (B r) ∧ L = []) := by
 refine cal2 (n := 9) Try.func68 rfl rfl rfl rfl ?_
 intro S0 σ0 n0 hn0 H
 unfold M.slices_Contains_int_int at h
 refine c_seq ?_
 refine rg ?_
 refine st (v := (B false)) (rv_assign rfl) ?_
 refine w_end ?_
 refine q_then ?_
 refine c_seq ?_
 refine rg ?_
 refine st (v := (Sl as_0 s_0 cs_0)) (rv_move rfl) ?_
 refine st (v := (I v_1)) (rv_move rfl) ?_
 obtain ⟨r1, hx2, h'⟩ := bind_some h
 clear h
 have h := h'; clear h'
 have hc3 := c_slices_Index_int_int (as_0 := as_0) (cs_0 := cs_0) hx2
 refine st_call (cx_call hc3 (ent_f hc3.fn rfl) hn0 (show Hp S0 σ0 _ ([Ch.ro 0 (Sl as_0 s_0 cs_0) s_0] ++ [Ch.ro 0 (Sl as_0 s_0 cs_0) s_0]) from (H.sel' [0, 0] rfl rfl))) wn ?_
 rintro _ σ4 ⟨_, ⟨rfl, rfl⟩, H, -⟩
 replace H : Hp S0 σ0 σ4 [Ch.ro 0 (Sl as_0 s_0 cs_0) s_0] := H
 refine st (v := (B (decide (0 ≤ r1)))) (rv_geq (a := r1) (b := 0) rfl rfl) ?_
 refine st (v := (B (decide (0 ≤ r1)))) (rv_assign rfl) ?_
 refine w_end ?_
 refine q_then ?_
 refine c_ret ?_
 obtain rfl := Option.some.inj h
 exact fin_ret (v := (B (decide (0 ≤ r1)))) (results_ok Try.results68 (res_tmp (v := (B (decide (0 ≤ r1)))) rfl res_nil) rfl) ⟨rfl, rfl⟩ (H.sel' [] rfl rfl)

theorem c_cmp_Less_int {x_0 : Int} {y_1 : Int}  {r : Bool} (h : M.cmp_Less_int x_0 y_1 = some r) :
    Cal2 Try.prog 123 [(I x_0), (I y_1)] [] (fun n0 v L => v = (B r) ∧ L = []) := by
 refine cal2 (n := 17) Try.func123 rfl rfl rfl rfl ?_
 intro S0 σ0 n0 hn0 H
 unfold M.cmp_Less_int at h
 refine c_seq ?_
 refine rg ?_
 refine st (v := (B false)) (rv_assign rfl) ?_
 refine w_end ?_
 refine q_then ?_
 refine c_seq ?_
 refine rg ?_
 refine st (v := (I x_0)) (rv_move rfl) ?_
 obtain ⟨r1, hx2, h'⟩ := bind_some h
 clear h
 have h := h'; clear h'
 have hc3 := c_cmp_isNaN_int hx2
 refine st_call (cx_call hc3 (ent_f hc3.fn rfl) hn0 (show Hp S0 σ0 _ ([] ++ []) from (H.sel' [] rfl rfl))) wn ?_
 rintro _ σ4 ⟨_, ⟨rfl, rfl⟩, H, -⟩
 replace H : Hp S0 σ0 σ4 [] := H
 refine st (v := (B r1)) (rv_move rfl) ?_
 rcases Bool.eq_false_or_eq_true r1 with hb5 | hb5
 ·replace h := bif_t hb5 h
  refine st_g (v := (I y_1)) (congrArg some hb5) (rv_move rfl) ?_
  obtain ⟨r6, hx7, h'⟩ := bind_some h
  clear h
  have h := h'; clear h'
  have hc8 := c_cmp_isNaN_int hx7
  refine st_call (cx_call hc8 (ent_f hc8.fn rfl) hn0 (show Hp S0 σ0 _ ([] ++ []) from (H.sel' [] rfl rfl))) (wanted_yes rfl (by exact (congrArg some hb5))) ?_
  rintro _ σ9 ⟨_, ⟨rfl, rfl⟩, H, -⟩
  replace H : Hp S0 σ0 σ9 [] := H
  refine st_g (v := (B (!r6))) (congrArg some hb5) (rv_not rfl) ?_
  refine st (v := (B (!r6))) (rv_pick_t (congrArg B hb5) rfl) ?_
  refine st (v := (B (!r6))) (rv_move rfl) ?_
  rcases Bool.eq_false_or_eq_true (!r6) with hb10 | hb10
  ·replace h := bif_t hb10 h
   refine st_skip (congrArg some hb10) ?_
   refine st_skip (congrArg some hb10) ?_
   refine st_skip (congrArg some hb10) ?_
   refine st (v := (B true)) (rv_pick_t (congrArg B hb10) rfl) ?_
   refine st (v := (B true)) (rv_assign rfl) ?_
   refine w_end ?_
   refine q_then ?_
   refine c_ret ?_
   obtain rfl := Option.some.inj h
   exact fin_ret (v := (B true)) (results_ok Try.results123 (res_tmp (v := (B true)) rfl res_nil) rfl) ⟨rfl, rfl⟩ (H.sel' [] rfl rfl)
  ·replace h := bif_f hb10 h
   refine st_g (v := (I x_0)) (congrArg some hb10) (rv_move rfl) ?_
   refine st_g (v := (I y_1)) (congrArg some hb10) (rv_move rfl) ?_
   refine st_g (v := (B (decide (x_0 < y_1)))) (congrArg some hb10) (rv_lss (a := x_0) (b := y_1) rfl rfl) ?_
   refine st (v := (B (decide (x_0 < y_1)))) (rv_pick_f (congrArg B hb10) rfl) ?_
   refine st (v := (B (decide (x_0 < y_1)))) (rv_assign rfl) ?_
   refine w_end ?_
   refine q_then ?_
   refine c_ret ?_
   obtain rfl := Option.some.inj h
   exact fin_ret (v := (B (decide (x_0 < y_1)))) (results_ok Try.results123 (res_tmp (v := (B (decide (x_0 < y_1)))) rfl res_nil) rfl) ⟨rfl, rfl⟩ (H.sel' [] rfl rfl)
 ·replace h := bif_f hb5 h
  refine st_skip (congrArg some hb5) ?_
  refine st_skip (congrArg some hb5) ?_
  refine st_skip (congrArg some hb5) ?_
  refine st (v := (B false)) (rv_pick_f (congrArg B hb5) rfl) ?_
  refine st (v := (B false)) (rv_move rfl) ?_
  refine st_g (v := (I x_0)) rfl (rv_move rfl) ?_
  refine st_g (v := (I y_1)) rfl (rv_move rfl) ?_
  refine st_g (v := (B (decide (x_0 < y_1)))) rfl (rv_lss (a := x_0) (b := y_1) rfl rfl) ?_
  refine st (v := (B (decide (x_0 < y_1)))) (rv_pick_f rfl rfl) ?_
  refine st (v := (B (decide (x_0 < y_1)))) (rv_assign rfl) ?_
  refine w_end ?_
  refine q_then ?_
  refine c_ret ?_
  obtain rfl := Option.some.inj h
  exact fin_ret (v := (B (decide (x_0 < y_1)))) (results_ok Try.results123 (res_tmp (v := (B (decide (x_0 < y_1)))) rfl res_nil) rfl) ⟨rfl, rfl⟩ (H.sel' [] rfl rfl)

theorem c_slices_insertionSortOrdered_int {data_0 : List Int} {a_1 : Int} {b_2 : Int} {adata_0 : Option Addr} {cdata_0 : Nat} {r : (List Int)} (h : M.slices_insertionSortOrdered_int data_0 a_1 b_2 = some r) :
    Cal2 Try.prog 117 [(Sl adata_0 data_0 cdata_0), (I a_1), (I b_2)] [Ch.own 0 0 (Sl adata_0 data_0 cdata_0) data_0] (fun n0 v L => v = (.tuple #[]) ∧ L = [Ch.own 0 0 (Sl adata_0 r cdata_0) r] ∧ r.length = data_0.length) := by
 refine cal2 (n := 49) Try.func117 rfl rfl rfl rfl ?_
 intro S0 σ0 n0 hn0 H
 unfold M.slices_insertionSortOrdered_int at h
 refine c_seq ?_
 refine rg ?_
 refine st (v := (I a_1)) (rv_move rfl) ?_
 refine st (v := (I (w64 (a_1 + 1)))) (rv_add (a := a_1) (b := 1) rfl rfl) ?_
 refine st (v := (I (w64 (a_1 + 1)))) (rv_assign rfl) ?_
 refine w_end ?_
 refine q_then ?_
 obtain ⟨o1, hj, h'⟩ := bind_some h
 clear h
 refine c_cut (fun e a w => e = .normal ∧ ∃ (ρ : Nat → Value) (σ : St), a = fr 49 (updL ρ [(0, (Sl adata_0 o1 cdata_0))]) ∧ w = σ.w ∧ Hp S0 σ0 σ [Ch.own 0 0 (Sl adata_0 o1 cdata_0) o1] ∧ o1.length = data_0.length) ?_ ?_
 ·clear h'
  rename _ = some o1 => h
  refine c_blk ?_
  refine wp_loopM _ h (fun s2 a w => ∃ (ρ : Nat → Value) (σ : St), a = fr 49 (updL ρ [(0, (Sl adata_0 s2.1 cdata_0)), (1, (I a_1)), (2, (I b_2)), (6, (I s2.2))]) ∧ w = σ.w ∧ Hp S0 σ0 σ [Ch.own 0 0 (Sl adata_0 s2.1 cdata_0) s2.1] ∧ s2.1.length = data_0.length) ⟨_, σ0, fr_join ⟨rfl, rfl, rfl, rfl, trivial⟩, rfl, H.sel' [0] rfl rfl, rfl⟩ ?_
  clear h H
  rintro s2 a w o ⟨ρ, σ3, rfl, rfl, H, hn4⟩ h hres
  refine c_seq ?_
  refine c_seq ?_
  refine rg ?_
  refine st (v := (I s2.2)) (rv_move rfl) ?_
  refine st (v := (I b_2)) (rv_move rfl) ?_
  refine st (v := (B (decide (s2.2 < b_2)))) (rv_lss (a := s2.2) (b := b_2) rfl rfl) ?_
  refine w_end ?_
  refine q_then ?_
  refine cd_cond (decide (s2.2 < b_2)) rfl (fun hb5 => ?_) (fun hb5 => ?_)
  ·replace h := bif_t hb5 h
   refine c_skip ?_
   refine q_then ?_
   refine c_seq ?_
   refine c_blk ?_
   refine c_seq ?_
   refine rg ?_
   refine st (v := (I s2.2)) (rv_move rfl) ?_
   refine st (v := (I s2.2)) (rv_assign rfl) ?_
   refine w_end ?_
   refine q_then ?_
   obtain ⟨o6, hj, h'⟩ := bind_some h
   clear h
   refine c_cut (fun e a w => e = .normal ∧ ∃ (ρ : Nat → Value) (σ : St), a = fr 49 (updL ρ [(0, (Sl adata_0 o6 cdata_0)), (1, (I a_1)), (2, (I b_2)), (6, (I s2.2))]) ∧ w = σ.w ∧ Hp S0 σ0 σ [Ch.own 0 0 (Sl adata_0 o6 cdata_0) o6] ∧ o6.length = s2.1.length) ?_ ?_
   ·clear h'
    rename _ = some o6 => h
    refine c_blk ?_
    refine wp_loopM _ h (fun s7 a w => ∃ (ρ : Nat → Value) (σ : St), a = fr 49 (updL ρ [(0, (Sl adata_0 s7.1 cdata_0)), (1, (I a_1)), (2, (I b_2)), (6, (I s2.2)), (7, (I s7.2))]) ∧ w = σ.w ∧ Hp S0 σ0 σ [Ch.own 0 0 (Sl adata_0 s7.1 cdata_0) s7.1] ∧ s7.1.length = s2.1.length) ⟨_, σ3, fr_join ⟨rfl, rfl, rfl, rfl, rfl, trivial⟩, rfl, H.sel' [0] rfl rfl, rfl⟩ ?_
    clear h H
    rintro s7 a w o ⟨ρ, σ8, rfl, rfl, H, hn9⟩ h hres
    refine c_seq ?_
    refine c_seq ?_
    obtain ⟨o10, hj, h'⟩ := bind_some h
    clear h
    refine c_cut (fun e a w => e = .normal ∧ ∃ (ρ : Nat → Value) (σ : St), a = fr 49 (updL ρ [(0, (Sl adata_0 s7.1 cdata_0)), (1, (I a_1)), (2, (I b_2)), (6, (I s2.2)), (7, (I s7.2)), (30, (B o10))]) ∧ w = σ.w ∧ Hp S0 σ0 σ [Ch.own 0 0 (Sl adata_0 s7.1 cdata_0) s7.1]) ?_ ?_
    ·clear h'
     rename _ = some o10 => h
     refine rgP (σ := σ8) 13 (by kernel_rfl) (by kernel_rfl) (by kernel_rfl) ?_
     refine sq (v := (I s7.2)) (rv_move rfl) ?_
     refine sq (v := (I a_1)) (rv_move rfl) ?_
     refine sq (v := (B (decide (a_1 < s7.2)))) (rv_gtr (a := s7.2) (b := a_1) rfl rfl) ?_
     refine sq (v := (B (decide (a_1 < s7.2)))) (rv_move rfl) ?_
     rcases Bool.eq_false_or_eq_true (decide (a_1 < s7.2)) with hb11 | hb11
     ·replace h := bif_t hb11 h
      refine sq_g (v := (Sl adata_0 s7.1 cdata_0)) (congrArg some hb11) (rv_move rfl) ?_
      refine sq_g (v := (I s7.2)) (congrArg some hb11) (rv_move rfl) ?_
      obtain ⟨x12, hx13, h'⟩ := bind_some h
      clear h
      have h := h'; clear h'
      obtain ⟨b15, o16, hi14, -⟩ := (H.own 0 rfl).ix hx13
      refine sq_g (v := (pt b15 o16)) (congrArg some hb11) (rv_ix Try.underlying36 ti3 rfl rfl hi14) ?_
      have hc17 := ((H.own 0 rfl).at hx13 hi14).int
      refine sq_g (v := (I x12)) (congrArg some hb11) (rv_load1 Try.underlying3 rfl rfl hc17) ?_
      refine sq_g (v := (Sl adata_0 s7.1 cdata_0)) (congrArg some hb11) (rv_move rfl) ?_
      refine sq_g (v := (I s7.2)) (congrArg some hb11) (rv_move rfl) ?_
      refine sq_g (v := (I (w64 (s7.2 - 1)))) (congrArg some hb11) (rv_sub (a := s7.2) (b := 1) rfl rfl) ?_
      obtain ⟨x18, hx19, h'⟩ := bind_some h
      clear h
      have h := h'; clear h'
      obtain ⟨b21, o22, hi20, -⟩ := (H.own 0 rfl).ix hx19
      refine sq_g (v := (pt b21 o22)) (congrArg some hb11) (rv_ix Try.underlying36 ti3 rfl rfl hi20) ?_
      have hc23 := ((H.own 0 rfl).at hx19 hi20).int
      refine sq_g (v := (I x18)) (congrArg some hb11) (rv_load1 Try.underlying3 rfl rfl hc23) ?_
      refine sq_end ?_
      intro σ24 hm25
      replace H := H.grow (hm25.mono fun _ h => h); clear hm25
      obtain ⟨r26, hx27, h'⟩ := bind_some h
      clear h
      have h := h'; clear h'
      have hc28 := c_cmp_Less_int hx27
      refine st_call (cx_call hc28 (ent_f hc28.fn rfl) hn0 (show Hp S0 σ0 _ ([] ++ [Ch.own 0 0 (Sl adata_0 s7.1 cdata_0) s7.1]) from (H.sel' [0] rfl rfl))) (wanted_yes rfl (by exact (congrArg some hb11))) ?_
      rintro _ σ29 ⟨_, ⟨rfl, rfl⟩, H, -⟩
      replace H : Hp S0 σ0 σ29 [Ch.own 0 0 (Sl adata_0 s7.1 cdata_0) s7.1] := H
      refine st (v := (B r26)) (rv_pick_t (congrArg B hb11) rfl) ?_
      refine w_end ?_
      obtain rfl := Option.some.inj h
      exact ⟨rfl, _, σ29, fr_join ⟨rfl, rfl, rfl, rfl, rfl, rfl, trivial⟩, rfl, H.sel' [0] rfl rfl⟩
     ·replace h := bif_f hb11 h
      refine sq_skip (congrArg some hb11) ?_
      refine sq_skip (congrArg some hb11) ?_
      refine sq_skip (congrArg some hb11) ?_
      refine sq_skip (congrArg some hb11) ?_
      refine sq_skip (congrArg some hb11) ?_
      refine sq_skip (congrArg some hb11) ?_
      refine sq_skip (congrArg some hb11) ?_
      refine sq_skip (congrArg some hb11) ?_
      refine sq_skip (congrArg some hb11) ?_
      refine sq_end ?_
      intro σ30 hm31
      replace H := H.grow (hm31.mono fun _ h => h); clear hm31
      refine st_skip (congrArg some hb11) ?_
      refine st (v := (B false)) (rv_pick_f (congrArg B hb11) rfl) ?_
      refine w_end ?_
      obtain rfl := Option.some.inj h
      exact ⟨rfl, _, σ30, fr_join ⟨rfl, rfl, rfl, rfl, rfl, rfl, trivial⟩, rfl, H.sel' [0] rfl rfl⟩
    ·clear hj
     have h := h'
     clear h' H
     rintro e a w ⟨rfl, ρ, σ32, rfl, rfl, H⟩
     refine q_then ?_
     refine cd_cond o10 rfl (fun hb33 => ?_) (fun hb33 => ?_)
     ·replace h := bif_t hb33 h
      refine c_skip ?_
      refine q_then ?_
      refine c_seq ?_
      refine c_blk ?_
      obtain ⟨x34, hx35, h'⟩ := bind_some h
      clear h
      have h := h'; clear h'
      obtain ⟨b37, o38, hi36, -⟩ := (H.own 0 rfl).ix hx35
      have hc39 := ((H.own 0 rfl).at hx35 hi36).int
      obtain ⟨x40, hx41, h'⟩ := bind_some h
      clear h
      have h := h'; clear h'
      obtain ⟨b43, o44, hi42, -⟩ := (H.own 0 rfl).ix hx41
      have hc45 := ((H.own 0 rfl).at hx41 hi42).int
      obtain ⟨x46, hx47, h'⟩ := bind_some h
      clear h
      have h := h'; clear h'
      obtain ⟨b49, o50, hi48, -⟩ := (H.own 0 rfl).ix hx47
      have Hs := H
      refine rg2 (σ := σ32) (Nm := Unit) 16 [15] [[false], [true]] [[(0, 0)], [(0, 0)], [(0, 0), (1, 1)], [(0, 0), (1, 1)], [(0, 0), (1, 1)], [(0, 0)], [(0, 0)], [(0, 0)], [(0, 0)], [(0, 0)], [(0, 0)], [(0, 0)], [(0, 0)], [(0, 0)], [(0, 0)], [(0, 1)]] 1 [fun _ => fun σm => Hp S0 σ0 σm [Ch.own 0 0 (Sl adata_0 s7.1 cdata_0) s7.1] ∧ Md (cov []) σ32 σm, fun _ => fun σm => Hp S0 σ0 σm [Ch.own 0 0 (Sl adata_0 s7.1 cdata_0) (s7.1.set s7.2.toNat x34)] ∧ Md (fun i => (cov []) i ∨ (fun b => blk (Sl adata_0 s7.1 cdata_0) = some b) i) σ32 σm] [fun _ => (Sl adata_0 s7.1 cdata_0), fun _ => (I s7.2), fun _ => (Sl adata_0 s7.1 cdata_0), fun _ => (I s7.2), fun _ => (I (w64 (s7.2 - 1))), fun _ => (Sl adata_0 s7.1 cdata_0), fun _ => (I s7.2), fun _ => (I (w64 (s7.2 - 1))), fun _ => (pt b37 o38), fun _ => (I x34), fun _ => (Sl adata_0 s7.1 cdata_0), fun _ => (I s7.2), fun _ => (pt b43 o44), fun _ => (I x40), fun _ => (pt b49 o50), fun _ => undef] () (by kernel_rfl) (by kernel_rfl) ?_ ?_ ?_
      ·intro σm m0
       exact ⟨H.grow (m0.mono fun _ h => h.elim), m0⟩
      ·refine ac rfl (by
         intro k _nm ρ σm hJ hoff hdep
         have e0 := look_off (N := 49) (hoff 0 rfl) rfl
         exact dp_v (v := (Sl adata_0 s7.1 cdata_0)) wn (rv_move e0) rfl hJ) ?_
       refine ac rfl (by
         intro k _nm ρ σm hJ hoff hdep
         have e7 := look_off (N := 49) (hoff 7 rfl) rfl
         exact dp_v (v := (I s7.2)) wn (rv_move e7) rfl hJ) ?_
       refine ac rfl (by
         intro k _nm ρ σm hJ hoff hdep
         have e0 := look_off (N := 49) (hoff 0 rfl) rfl
         exact dp_v (v := (Sl adata_0 s7.1 cdata_0)) wn (rv_move e0) rfl hJ) ?_
       refine ac rfl (by
         intro k _nm ρ σm hJ hoff hdep
         have e7 := look_off (N := 49) (hoff 7 rfl) rfl
         exact dp_v (v := (I s7.2)) wn (rv_move e7) rfl hJ) ?_
       refine ac rfl (by
         intro k _nm ρ σm hJ hoff hdep
         have e36 := hdep 3 rfl rfl 36 rfl
         exact dp_v (v := (I (w64 (s7.2 - 1)))) wn (rv_sub (a := s7.2) (b := 1) e36 rfl) rfl hJ) ?_
       refine ac rfl (by
         intro k _nm ρ σm hJ hoff hdep
         have e0 := look_off (N := 49) (hoff 0 rfl) rfl
         exact dp_v (v := (Sl adata_0 s7.1 cdata_0)) wn (rv_move e0) rfl hJ) ?_
       refine ac rfl (by
         intro k _nm ρ σm hJ hoff hdep
         have e7 := look_off (N := 49) (hoff 7 rfl) rfl
         exact dp_v (v := (I s7.2)) wn (rv_move e7) rfl hJ) ?_
       refine ac rfl (by
         intro k _nm ρ σm hJ hoff hdep
         have e39 := hdep 6 rfl rfl 39 rfl
         exact dp_v (v := (I (w64 (s7.2 - 1)))) wn (rv_sub (a := s7.2) (b := 1) e39 rfl) rfl hJ) ?_
       refine ac rfl (by
         intro k _nm ρ σm hJ hoff hdep
         have e38 := hdep 5 rfl rfl 38 rfl
         have e40 := hdep 7 rfl rfl 40 rfl
         exact dp_v (v := (pt b37 o38)) wn (rv_ix Try.underlying36 ti3 e38 e40 hi36) rfl hJ) ?_
       refine all_cons (by
         refine ⟨?_, ?_⟩
         ·intro _nm ρ σm hJ hoff hdep
          have e41 := hdep 8 rfl rfl 41 rfl
          obtain ⟨H, m⟩ := id hJ
          have hc39 := ((H.own 0 rfl).at hx35 hi36).int
          exact dp_v (v := (I x34)) wn (rv_load1 Try.underlying3 rfl e41 hc39) rfl hJ
         trivial) ?_
       refine ac rfl (by
         intro k _nm ρ σm hJ hoff hdep
         have e0 := look_off (N := 49) (hoff 0 rfl) rfl
         exact dp_v (v := (Sl adata_0 s7.1 cdata_0)) wn (rv_move e0) rfl hJ) ?_
       refine ac rfl (by
         intro k _nm ρ σm hJ hoff hdep
         have e7 := look_off (N := 49) (hoff 7 rfl) rfl
         exact dp_v (v := (I s7.2)) wn (rv_move e7) rfl hJ) ?_
       refine ac rfl (by
         intro k _nm ρ σm hJ hoff hdep
         have e43 := hdep 10 rfl rfl 43 rfl
         have e44 := hdep 11 rfl rfl 44 rfl
         exact dp_v (v := (pt b43 o44)) wn (rv_ix Try.underlying36 ti3 e43 e44 hi42) rfl hJ) ?_
       refine all_cons (by
         refine ⟨?_, ?_⟩
         ·intro _nm ρ σm hJ hoff hdep
          have e45 := hdep 12 rfl rfl 45 rfl
          obtain ⟨H, m⟩ := id hJ
          have hc45 := ((H.own 0 rfl).at hx41 hi42).int
          exact dp_v (v := (I x40)) wn (rv_load1 Try.underlying3 rfl e45 hc45) rfl hJ
         trivial) ?_
       refine ac rfl (by
         intro k _nm ρ σm hJ hoff hdep
         have e33 := hdep 0 rfl rfl 33 rfl
         have e34 := hdep 1 rfl rfl 34 rfl
         exact dp_v (v := (pt b49 o50)) wn (rv_ix Try.underlying36 ti3 e33 e34 hi48) rfl hJ) ?_
       refine all_cons (by
         refine ⟨?_, ?_⟩
         ·intro _nm ρ σm hJ hoff hdep
          have e47 := hdep 14 rfl rfl 47 rfl
          have e42 := hdep 9 rfl rfl 42 rfl
          obtain ⟨H, m⟩ := id hJ
          refine dp_exS wn rfl (ex_store_own (e' := x34) (vs := [(I x34)]) (k := 0) H (i := 0) rfl ti3 hx47 hi48 e47 rfl e42 rfl rfl (Nat.le_of_ble_eq_true rfl) (by simp [plain]) (by rintro _ rfl; exact rfl)) ?_
          rintro σq ⟨H2, m2⟩
          exact ⟨_, (), rfl, ⟨H2.sel' [0] rfl rfl, m.comp m2⟩, stab [0, 1, 2, 3, 4, 5, 6, 7, 8, 9, 10, 11, 12, 13, 14] (by kernel_rfl) ⟨rfl, rfl, rfl, rfl, rfl, rfl, rfl, rfl, rfl, rfl, rfl, rfl, rfl, rfl, rfl, trivial⟩⟩
         trivial) ?_
       exact all_nil
      ·intro _nm ρ σ51 hJ hoff hrel
       have e0 := look_off (N := 49) (hoff 0 rfl) rfl
       have e1 := look_off (N := 49) (hoff 1 rfl) rfl
       have e2 := look_off (N := 49) (hoff 2 rfl) rfl
       have e6 := look_off (N := 49) (hoff 6 rfl) rfl
       have e7 := look_off (N := 49) (hoff 7 rfl) rfl
       have e35 := hrel 2 rfl 35 rfl
       have e37 := hrel 4 rfl 37 rfl
       have e46 := hrel 13 rfl 46 rfl
       obtain ⟨H, -⟩ := (show Hp S0 σ0 σ51 [Ch.own 0 0 (Sl adata_0 s7.1 cdata_0) (s7.1.set s7.2.toNat x34)] ∧ Md (fun i => (cov []) i ∨ (fun b => blk (Sl adata_0 s7.1 cdata_0) = some b) i) σ32 σ51 from hJ)
       clear hJ Hs
       rw [fr_lookL (L := [(0, (Sl adata_0 s7.1 cdata_0)), (1, (I a_1)), (2, (I b_2)), (6, (I s2.2)), (7, (I s7.2)), (35, (Sl adata_0 s7.1 cdata_0)), (37, (I (w64 (s7.2 - 1)))), (46, (I x40))]) ⟨e0, e1, e2, e6, e7, e35, e37, e46, trivial⟩]
       clear hoff hrel e0 e1 e2 e6 e7 e35 e37 e46
       have hsl : (Sl adata_0 s7.1 cdata_0) = (Sl adata_0 (s7.1.set s7.2.toNat x34) cdata_0) := sl_len (by simp)
       rw [hsl]; rw [hsl] at H; clear hsl
       obtain ⟨x52, hx53, h'⟩ := bind_some h
       clear h
       have h := h'; clear h'
       obtain ⟨b55, o56, hi54, -⟩ := (H.own 0 rfl).ix hx53
       refine st (v := (pt b55 o56)) (rv_ix Try.underlying36 ti3 rfl rfl hi54) ?_
       refine st_exS (ex_store_own (e' := x40) (vs := [(I x40)]) (k := 0) H (i := 0) rfl ti3 hx53 hi54 rfl rfl rfl rfl rfl (Nat.le_of_ble_eq_true rfl) (by simp [plain]) (by rintro _ rfl; exact rfl)) wn ?_
       rintro σ57 ⟨H, -⟩
       have hsl : (Sl adata_0 (s7.1.set s7.2.toNat x34) cdata_0) = (Sl adata_0 ((s7.1.set s7.2.toNat x34).set (w64 (s7.2 - 1)).toNat x40) cdata_0) := sl_len List.length_set.symm
       rw [hsl]; rw [hsl] at H; clear hsl
       refine w_end ?_
       refine q_blk ?_
       refine q_then ?_
       refine rg ?_
       refine st (v := (I s7.2)) (rv_move rfl) ?_
       refine st (v := (I (w64 (s7.2 - 1)))) (rv_sub (a := s7.2) (b := 1) rfl rfl) ?_
       refine st (v := (I (w64 (s7.2 - 1)))) (rv_assign rfl) ?_
       refine w_end ?_
       refine q_then ?_
       obtain rfl := Option.some.inj h
       exact ⟨_, rfl, _, σ57, fr_join ⟨rfl, rfl, rfl, rfl, rfl, trivial⟩, rfl, H.sel' [0] rfl rfl, ((List.length_set.trans (List.length_set.trans (hn9.trans hn4))).trans hn4.symm)⟩
     ·replace h := bif_f hb33 h
      refine c_exit ?_
      refine q_then_x ?_
      refine q_then_x ?_
      refine q_blk_hit ?_
      obtain rfl := Option.some.inj h
      obtain rfl := hres _ rfl
      exact ⟨rfl, _, σ32, fr_join ⟨rfl, rfl, rfl, rfl, trivial⟩, rfl, H.sel' [0] rfl rfl, ((hn9.trans hn4).trans hn4.symm)⟩
   ·clear hj
    have h := h'
    clear h' H
    rintro e a w ⟨rfl, ρ, σ58, rfl, rfl, H, hn59⟩
    refine q_blk ?_
    refine q_then ?_
    refine rg ?_
    refine st (v := (I s2.2)) (rv_move rfl) ?_
    refine st (v := (I (w64 (s2.2 + 1)))) (rv_add (a := s2.2) (b := 1) rfl rfl) ?_
    refine st (v := (I (w64 (s2.2 + 1)))) (rv_assign rfl) ?_
    refine w_end ?_
    refine q_then ?_
    obtain rfl := Option.some.inj h
    exact ⟨_, rfl, _, σ58, fr_join ⟨rfl, rfl, rfl, rfl, trivial⟩, rfl, H.sel' [0] rfl rfl, (hn59.trans hn4)⟩
  ·replace h := bif_f hb5 h
   refine c_exit ?_
   refine q_then_x ?_
   refine q_then_x ?_
   refine q_blk_hit ?_
   obtain rfl := Option.some.inj h
   obtain rfl := hres _ rfl
   exact ⟨rfl, _, σ3, fr_join ⟨rfl, trivial⟩, rfl, H.sel' [0] rfl rfl, hn4⟩
 ·clear hj
  have h := h'
  clear h' H
  rintro e a w ⟨rfl, ρ, σ60, rfl, rfl, H, hn61⟩
  obtain rfl := Option.some.inj h
  exact fin_end (v := (.tuple #[])) (results_ok Try.results117 res_nil rfl) ⟨rfl, rfl, hn61⟩ (H.sel' [0] rfl rfl)

theorem c_slices_siftDownOrdered_int {data_0 : List Int} {lo_1 : Int} {hi_2 : Int} {first_3 : Int} {adata_0 : Option Addr} {cdata_0 : Nat} {r : (List Int)} (h : M.slices_siftDownOrdered_int data_0 lo_1 hi_2 first_3 = some r) :
    Cal2 Try.prog 135 [(Sl adata_0 data_0 cdata_0), (I lo_1), (I hi_2), (I first_3)] [Ch.own 0 0 (Sl adata_0 data_0 cdata_0) data_0] (fun n0 v L => v = (.tuple #[]) ∧ L = [Ch.own 0 0 (Sl adata_0 r cdata_0) r] ∧ r.length = data_0.length) := by
 refine cal2 (n := 76) Try.func135 rfl rfl rfl rfl ?_
 intro S0 σ0 n0 hn0 H
 unfold M.slices_siftDownOrdered_int at h
 refine c_seq ?_
 refine rg ?_
 refine st (v := (I lo_1)) (rv_move rfl) ?_
 refine st (v := (I lo_1)) (rv_assign rfl) ?_
 refine w_end ?_
 refine q_then ?_
 obtain ⟨o1, hj, h'⟩ := bind_some h
 clear h
 refine c_cut (fun e a w => (∃ t, o1 = (.inl t) ∧ e = .normal ∧ ∃ (ρ : Nat → Value) (σ : St), a = fr 76 (updL ρ [(0, (Sl adata_0 t cdata_0))]) ∧ w = σ.w ∧ Hp S0 σ0 σ [Ch.own 0 0 (Sl adata_0 t cdata_0) t] ∧ t.length = data_0.length) ∨ (∃ t, o1 = (.inr t) ∧ e = .ret ∧ ∃ (ρ : Nat → Value) (σ : St), a = fr 76 (updL ρ [(0, (Sl adata_0 t cdata_0))]) ∧ w = σ.w ∧ Hp S0 σ0 σ [Ch.own 0 0 (Sl adata_0 t cdata_0) t] ∧ t.length = data_0.length)) ?_ ?_
 ·clear h'
  rename _ = some o1 => h
  refine c_blk ?_
  refine wp_loopM _ h (fun s2 a w => ∃ (ρ : Nat → Value) (σ : St), a = fr 76 (updL ρ [(0, (Sl adata_0 s2.1 cdata_0)), (2, (I hi_2)), (3, (I first_3)), (8, (I s2.2))]) ∧ w = σ.w ∧ Hp S0 σ0 σ [Ch.own 0 0 (Sl adata_0 s2.1 cdata_0) s2.1] ∧ s2.1.length = data_0.length) ⟨_, σ0, fr_join ⟨rfl, rfl, rfl, rfl, trivial⟩, rfl, H.sel' [0] rfl rfl, rfl⟩ ?_
  clear h H
  rintro s2 a w o ⟨ρ, σ3, rfl, rfl, H, hn4⟩ h hres
  refine c_blk ?_
  refine c_seq ?_
  refine rg ?_
  refine st (v := (I s2.2)) (rv_move rfl) ?_
  refine st (v := (I (w64 (2 * s2.2)))) (rv_mul (a := 2) (b := s2.2) rfl rfl) ?_
  refine st (v := (I (w64 ((w64 (2 * s2.2)) + 1)))) (rv_add (a := (w64 (2 * s2.2))) (b := 1) rfl rfl) ?_
  refine st (v := (I (w64 ((w64 (2 * s2.2)) + 1)))) (rv_assign rfl) ?_
  refine w_end ?_
  refine q_then ?_
  refine c_seq ?_
  refine c_seq ?_
  refine rg ?_
  refine st (v := (I (w64 ((w64 (2 * s2.2)) + 1)))) (rv_move rfl) ?_
  refine st (v := (I hi_2)) (rv_move rfl) ?_
  refine st (v := (B (decide (hi_2 ≤ (w64 ((w64 (2 * s2.2)) + 1)))))) (rv_geq (a := (w64 ((w64 (2 * s2.2)) + 1))) (b := hi_2) rfl rfl) ?_
  refine w_end ?_
  refine q_then ?_
  refine cd_cond (decide (hi_2 ≤ (w64 ((w64 (2 * s2.2)) + 1)))) rfl (fun hb5 => ?_) (fun hb5 => ?_)
  ·replace h := bif_t hb5 h
   refine c_exit ?_
   refine q_then_x ?_
   refine q_blk_x (by decide) ?_
   refine q_then_x ?_
   refine q_blk_hit ?_
   obtain rfl := Option.some.inj h
   obtain rfl := hres _ rfl
   exact .inl ⟨_, rfl, rfl, _, σ3, fr_join ⟨rfl, trivial⟩, rfl, H.sel' [0] rfl rfl, hn4⟩
  ·replace h := bif_f hb5 h
   refine c_skip ?_
   refine q_then ?_
   refine c_seq ?_
   refine c_seq ?_
   obtain ⟨o6, hj, h'⟩ := bind_some h
   clear h
   refine c_cut (fun e a w => e = .normal ∧ ∃ (ρ : Nat → Value) (σ : St), a = fr 76 (updL ρ [(0, (Sl adata_0 s2.1 cdata_0)), (2, (I hi_2)), (3, (I first_3)), (8, (I s2.2)), (9, (I (w64 ((w64 (2 * s2.2)) + 1)))), (36, (B o6))]) ∧ w = σ.w ∧ Hp S0 σ0 σ [Ch.own 0 0 (Sl adata_0 s2.1 cdata_0) s2.1]) ?_ ?_
   ·clear h'
    rename _ = some o6 => h
    refine rgP (σ := σ3) 18 (by kernel_rfl) (by kernel_rfl) (by kernel_rfl) ?_
    refine sq (v := (I (w64 ((w64 (2 * s2.2)) + 1)))) (rv_move rfl) ?_
    refine sq (v := (I (w64 ((w64 ((w64 (2 * s2.2)) + 1)) + 1)))) (rv_add (a := (w64 ((w64 (2 * s2.2)) + 1))) (b := 1) rfl rfl) ?_
    refine sq (v := (I hi_2)) (rv_move rfl) ?_
    refine sq (v := (B (decide ((w64 ((w64 ((w64 (2 * s2.2)) + 1)) + 1)) < hi_2)))) (rv_lss (a := (w64 ((w64 ((w64 (2 * s2.2)) + 1)) + 1))) (b := hi_2) rfl rfl) ?_
    refine sq (v := (B (decide ((w64 ((w64 ((w64 (2 * s2.2)) + 1)) + 1)) < hi_2)))) (rv_move rfl) ?_
    rcases Bool.eq_false_or_eq_true (decide ((w64 ((w64 ((w64 (2 * s2.2)) + 1)) + 1)) < hi_2)) with hb7 | hb7
    ·replace h := bif_t hb7 h
     refine sq_g (v := (Sl adata_0 s2.1 cdata_0)) (congrArg some hb7) (rv_move rfl) ?_
     refine sq_g (v := (I first_3)) (congrArg some hb7) (rv_move rfl) ?_
     refine sq_g (v := (I (w64 ((w64 (2 * s2.2)) + 1)))) (congrArg some hb7) (rv_move rfl) ?_
     refine sq_g (v := (I (w64 (first_3 + (w64 ((w64 (2 * s2.2)) + 1)))))) (congrArg some hb7) (rv_add (a := first_3) (b := (w64 ((w64 (2 * s2.2)) + 1))) rfl rfl) ?_
     obtain ⟨x8, hx9, h'⟩ := bind_some h
     clear h
     have h := h'; clear h'
     obtain ⟨b11, o12, hi10, -⟩ := (H.own 0 rfl).ix hx9
     refine sq_g (v := (pt b11 o12)) (congrArg some hb7) (rv_ix Try.underlying36 ti3 rfl rfl hi10) ?_
     have hc13 := ((H.own 0 rfl).at hx9 hi10).int
     refine sq_g (v := (I x8)) (congrArg some hb7) (rv_load1 Try.underlying3 rfl rfl hc13) ?_
     refine sq_g (v := (Sl adata_0 s2.1 cdata_0)) (congrArg some hb7) (rv_move rfl) ?_
     refine sq_g (v := (I first_3)) (congrArg some hb7) (rv_move rfl) ?_
     refine sq_g (v := (I (w64 ((w64 (2 * s2.2)) + 1)))) (congrArg some hb7) (rv_move rfl) ?_
     refine sq_g (v := (I (w64 (first_3 + (w64 ((w64 (2 * s2.2)) + 1)))))) (congrArg some hb7) (rv_add (a := first_3) (b := (w64 ((w64 (2 * s2.2)) + 1))) rfl rfl) ?_
     refine sq_g (v := (I (w64 ((w64 (first_3 + (w64 ((w64 (2 * s2.2)) + 1)))) + 1)))) (congrArg some hb7) (rv_add (a := (w64 (first_3 + (w64 ((w64 (2 * s2.2)) + 1))))) (b := 1) rfl rfl) ?_
     obtain ⟨x14, hx15, h'⟩ := bind_some h
     clear h
     have h := h'; clear h'
     obtain ⟨b17, o18, hi16, -⟩ := (H.own 0 rfl).ix hx15
     refine sq_g (v := (pt b17 o18)) (congrArg some hb7) (rv_ix Try.underlying36 ti3 rfl rfl hi16) ?_
     have hc19 := ((H.own 0 rfl).at hx15 hi16).int
     refine sq_g (v := (I x14)) (congrArg some hb7) (rv_load1 Try.underlying3 rfl rfl hc19) ?_
     refine sq_end ?_
     intro σ20 hm21
     replace H := H.grow (hm21.mono fun _ h => h); clear hm21
     obtain ⟨r22, hx23, h'⟩ := bind_some h
     clear h
     have h := h'; clear h'
     have hc24 := c_cmp_Less_int hx23
     refine st_call (cx_call hc24 (ent_f hc24.fn rfl) hn0 (show Hp S0 σ0 _ ([] ++ [Ch.own 0 0 (Sl adata_0 s2.1 cdata_0) s2.1]) from (H.sel' [0] rfl rfl))) (wanted_yes rfl (by exact (congrArg some hb7))) ?_
     rintro _ σ25 ⟨_, ⟨rfl, rfl⟩, H, -⟩
     replace H : Hp S0 σ0 σ25 [Ch.own 0 0 (Sl adata_0 s2.1 cdata_0) s2.1] := H
     refine st (v := (B r22)) (rv_pick_t (congrArg B hb7) rfl) ?_
     refine w_end ?_
     obtain rfl := Option.some.inj h
     exact ⟨rfl, _, σ25, fr_join ⟨rfl, rfl, rfl, rfl, rfl, rfl, trivial⟩, rfl, H.sel' [0] rfl rfl⟩
    ·replace h := bif_f hb7 h
     refine sq_skip (congrArg some hb7) ?_
     refine sq_skip (congrArg some hb7) ?_
     refine sq_skip (congrArg some hb7) ?_
     refine sq_skip (congrArg some hb7) ?_
     refine sq_skip (congrArg some hb7) ?_
     refine sq_skip (congrArg some hb7) ?_
     refine sq_skip (congrArg some hb7) ?_
     refine sq_skip (congrArg some hb7) ?_
     refine sq_skip (congrArg some hb7) ?_
     refine sq_skip (congrArg some hb7) ?_
     refine sq_skip (congrArg some hb7) ?_
     refine sq_skip (congrArg some hb7) ?_
     refine sq_skip (congrArg some hb7) ?_
     refine sq_end ?_
     intro σ26 hm27
     replace H := H.grow (hm27.mono fun _ h => h); clear hm27
     refine st_skip (congrArg some hb7) ?_
     refine st (v := (B false)) (rv_pick_f (congrArg B hb7) rfl) ?_
     refine w_end ?_
     obtain rfl := Option.some.inj h
     exact ⟨rfl, _, σ26, fr_join ⟨rfl, rfl, rfl, rfl, rfl, rfl, trivial⟩, rfl, H.sel' [0] rfl rfl⟩
   ·clear hj
    have h := h'
    clear h' H
    rintro e a w ⟨rfl, ρ, σ28, rfl, rfl, H⟩
    refine q_then ?_
    obtain ⟨o29, hj, h'⟩ := bind_some h
    clear h
    refine c_cut (fun e a w => e = .normal ∧ ∃ (ρ : Nat → Value) (σ : St), a = fr 76 (updL ρ [(0, (Sl adata_0 s2.1 cdata_0)), (2, (I hi_2)), (3, (I first_3)), (8, (I s2.2)), (9, (I o29))]) ∧ w = σ.w ∧ Hp S0 σ0 σ [Ch.own 0 0 (Sl adata_0 s2.1 cdata_0) s2.1]) ?_ ?_
    ·clear h'
     rename _ = some o29 => h
     refine cd_cond o6 rfl (fun hb30 => ?_) (fun hb30 => ?_)
     ·replace h := bif_t hb30 h
      refine rg ?_
      refine st (v := (I (w64 ((w64 (2 * s2.2)) + 1)))) (rv_move rfl) ?_
      refine st (v := (I (w64 ((w64 ((w64 (2 * s2.2)) + 1)) + 1)))) (rv_add (a := (w64 ((w64 (2 * s2.2)) + 1))) (b := 1) rfl rfl) ?_
      refine st (v := (I (w64 ((w64 ((w64 (2 * s2.2)) + 1)) + 1)))) (rv_assign rfl) ?_
      refine w_end ?_
      obtain rfl := Option.some.inj h
      exact ⟨rfl, _, σ28, fr_join ⟨rfl, rfl, rfl, rfl, rfl, trivial⟩, rfl, H.sel' [0] rfl rfl⟩
     ·replace h := bif_f hb30 h
      refine c_skip ?_
      obtain rfl := Option.some.inj h
      exact ⟨rfl, _, σ28, fr_join ⟨rfl, rfl, rfl, rfl, rfl, trivial⟩, rfl, H.sel' [0] rfl rfl⟩
    ·clear hj
     have h := h'
     clear h' H
     rintro e a w ⟨rfl, ρ, σ31, rfl, rfl, H⟩
     refine q_then ?_
     refine c_seq ?_
     refine c_seq ?_
     refine rgP (σ := σ31) 12 (by kernel_rfl) (by kernel_rfl) (by kernel_rfl) ?_
     refine sq (v := (Sl adata_0 s2.1 cdata_0)) (rv_move rfl) ?_
     refine sq (v := (I first_3)) (rv_move rfl) ?_
     refine sq (v := (I s2.2)) (rv_move rfl) ?_
     refine sq (v := (I (w64 (first_3 + s2.2)))) (rv_add (a := first_3) (b := s2.2) rfl rfl) ?_
     obtain ⟨x32, hx33, h'⟩ := bind_some h
     clear h
     have h := h'; clear h'
     obtain ⟨b35, o36, hi34, -⟩ := (H.own 0 rfl).ix hx33
     refine sq (v := (pt b35 o36)) (rv_ix Try.underlying36 ti3 rfl rfl hi34) ?_
     have hc37 := ((H.own 0 rfl).at hx33 hi34).int
     refine sq (v := (I x32)) (rv_load1 Try.underlying3 rfl rfl hc37) ?_
     refine sq (v := (Sl adata_0 s2.1 cdata_0)) (rv_move rfl) ?_
     refine sq (v := (I first_3)) (rv_move rfl) ?_
     refine sq (v := (I o29)) (rv_move rfl) ?_
     refine sq (v := (I (w64 (first_3 + o29)))) (rv_add (a := first_3) (b := o29) rfl rfl) ?_
     obtain ⟨x38, hx39, h'⟩ := bind_some h
     clear h
     have h := h'; clear h'
     obtain ⟨b41, o42, hi40, -⟩ := (H.own 0 rfl).ix hx39
     refine sq (v := (pt b41 o42)) (rv_ix Try.underlying36 ti3 rfl rfl hi40) ?_
     have hc43 := ((H.own 0 rfl).at hx39 hi40).int
     refine sq (v := (I x38)) (rv_load1 Try.underlying3 rfl rfl hc43) ?_
     refine sq_end ?_
     intro σ44 hm45
     replace H := H.grow (hm45.mono fun _ h => h); clear hm45
     obtain ⟨r46, hx47, h'⟩ := bind_some h
     clear h
     have h := h'; clear h'
     have hc48 := c_cmp_Less_int hx47
     refine st_call (cx_call hc48 (ent_f hc48.fn rfl) hn0 (show Hp S0 σ0 _ ([] ++ [Ch.own 0 0 (Sl adata_0 s2.1 cdata_0) s2.1]) from (H.sel' [0] rfl rfl))) wn ?_
     rintro _ σ49 ⟨_, ⟨rfl, rfl⟩, H, -⟩
     replace H : Hp S0 σ0 σ49 [Ch.own 0 0 (Sl adata_0 s2.1 cdata_0) s2.1] := H
     refine st (v := (B (!r46))) (rv_not rfl) ?_
     refine w_end ?_
     refine q_then ?_
     refine cd_cond (!r46) rfl (fun hb50 => ?_) (fun hb50 => ?_)
     ·replace h := bif_t hb50 h
      refine c_ret ?_
      refine q_then_r ?_
      refine q_blk_r ?_
      refine q_then_r ?_
      refine q_blk_r ?_
      obtain rfl := Option.some.inj h
      obtain rfl := hres _ rfl
      exact .inr (⟨_, rfl, rfl, _, σ49, fr_join ⟨rfl, trivial⟩, rfl, H.sel' [0] rfl rfl, hn4⟩)
     ·replace h := bif_f hb50 h
      refine c_skip ?_
      refine q_then ?_
      refine c_seq ?_
      obtain ⟨x51, hx52, h'⟩ := bind_some h
      clear h
      have h := h'; clear h'
      obtain ⟨b54, o55, hi53, -⟩ := (H.own 0 rfl).ix hx52
      have hc56 := ((H.own 0 rfl).at hx52 hi53).int
      obtain ⟨x57, hx58, h'⟩ := bind_some h
      clear h
      have h := h'; clear h'
      obtain ⟨b60, o61, hi59, -⟩ := (H.own 0 rfl).ix hx58
      have hc62 := ((H.own 0 rfl).at hx58 hi59).int
      obtain ⟨x63, hx64, h'⟩ := bind_some h
      clear h
      have h := h'; clear h'
      obtain ⟨b66, o67, hi65, -⟩ := (H.own 0 rfl).ix hx64
      have Hs := H
      refine rg2 (σ := σ49) (Nm := Unit) 22 [21] [[false], [true]] [[(0, 0)], [(0, 0)], [(0, 0)], [(0, 0)], [(0, 0), (1, 1)], [(0, 0), (1, 1)], [(0, 0), (1, 1)], [(0, 0), (1, 1)], [(0, 0)], [(0, 0)], [(0, 0)], [(0, 0)], [(0, 0)], [(0, 0)], [(0, 0)], [(0, 0)], [(0, 0)], [(0, 0)], [(0, 0)], [(0, 0)], [(0, 0)], [(0, 1)]] 1 [fun _ => fun σm => Hp S0 σ0 σm [Ch.own 0 0 (Sl adata_0 s2.1 cdata_0) s2.1] ∧ Md (cov []) σ49 σm, fun _ => fun σm => Hp S0 σ0 σm [Ch.own 0 0 (Sl adata_0 s2.1 cdata_0) (s2.1.set (w64 (first_3 + s2.2)).toNat x51)] ∧ Md (fun i => (cov []) i ∨ (fun b => blk (Sl adata_0 s2.1 cdata_0) = some b) i) σ49 σm] [fun _ => (Sl adata_0 s2.1 cdata_0), fun _ => (I first_3), fun _ => (I s2.2), fun _ => (I (w64 (first_3 + s2.2))), fun _ => (Sl adata_0 s2.1 cdata_0), fun _ => (I first_3), fun _ => (I o29), fun _ => (I (w64 (first_3 + o29))), fun _ => (Sl adata_0 s2.1 cdata_0), fun _ => (I first_3), fun _ => (I o29), fun _ => (I (w64 (first_3 + o29))), fun _ => (pt b54 o55), fun _ => (I x51), fun _ => (Sl adata_0 s2.1 cdata_0), fun _ => (I first_3), fun _ => (I s2.2), fun _ => (I (w64 (first_3 + s2.2))), fun _ => (pt b60 o61), fun _ => (I x57), fun _ => (pt b66 o67), fun _ => undef] () (by kernel_rfl) (by kernel_rfl) ?_ ?_ ?_
      ·intro σm m0
       exact ⟨H.grow (m0.mono fun _ h => h.elim), m0⟩
      ·refine ac rfl (by
         intro k _nm ρ σm hJ hoff hdep
         have e0 := look_off (N := 76) (hoff 0 rfl) rfl
         exact dp_v (v := (Sl adata_0 s2.1 cdata_0)) wn (rv_move e0) rfl hJ) ?_
       refine ac rfl (by
         intro k _nm ρ σm hJ hoff hdep
         have e3 := look_off (N := 76) (hoff 3 rfl) rfl
         exact dp_v (v := (I first_3)) wn (rv_move e3) rfl hJ) ?_
       refine ac rfl (by
         intro k _nm ρ σm hJ hoff hdep
         have e8 := look_off (N := 76) (hoff 8 rfl) rfl
         exact dp_v (v := (I s2.2)) wn (rv_move e8) rfl hJ) ?_
       refine ac rfl (by
         intro k _nm ρ σm hJ hoff hdep
         have e54 := hdep 1 rfl rfl 54 rfl
         have e55 := hdep 2 rfl rfl 55 rfl
         exact dp_v (v := (I (w64 (first_3 + s2.2)))) wn (rv_add (a := first_3) (b := s2.2) e54 e55) rfl hJ) ?_
       refine ac rfl (by
         intro k _nm ρ σm hJ hoff hdep
         have e0 := look_off (N := 76) (hoff 0 rfl) rfl
         exact dp_v (v := (Sl adata_0 s2.1 cdata_0)) wn (rv_move e0) rfl hJ) ?_
       refine ac rfl (by
         intro k _nm ρ σm hJ hoff hdep
         have e3 := look_off (N := 76) (hoff 3 rfl) rfl
         exact dp_v (v := (I first_3)) wn (rv_move e3) rfl hJ) ?_
       refine ac rfl (by
         intro k _nm ρ σm hJ hoff hdep
         have e9 := look_off (N := 76) (hoff 9 rfl) rfl
         exact dp_v (v := (I o29)) wn (rv_move e9) rfl hJ) ?_
       refine ac rfl (by
         intro k _nm ρ σm hJ hoff hdep
         have e58 := hdep 5 rfl rfl 58 rfl
         have e59 := hdep 6 rfl rfl 59 rfl
         exact dp_v (v := (I (w64 (first_3 + o29)))) wn (rv_add (a := first_3) (b := o29) e58 e59) rfl hJ) ?_
       refine ac rfl (by
         intro k _nm ρ σm hJ hoff hdep
         have e0 := look_off (N := 76) (hoff 0 rfl) rfl
         exact dp_v (v := (Sl adata_0 s2.1 cdata_0)) wn (rv_move e0) rfl hJ) ?_
       refine ac rfl (by
         intro k _nm ρ σm hJ hoff hdep
         have e3 := look_off (N := 76) (hoff 3 rfl) rfl
         exact dp_v (v := (I first_3)) wn (rv_move e3) rfl hJ) ?_
       refine ac rfl (by
         intro k _nm ρ σm hJ hoff hdep
         have e9 := look_off (N := 76) (hoff 9 rfl) rfl
         exact dp_v (v := (I o29)) wn (rv_move e9) rfl hJ) ?_
       refine ac rfl (by
         intro k _nm ρ σm hJ hoff hdep
         have e62 := hdep 9 rfl rfl 62 rfl
         have e63 := hdep 10 rfl rfl 63 rfl
         exact dp_v (v := (I (w64 (first_3 + o29)))) wn (rv_add (a := first_3) (b := o29) e62 e63) rfl hJ) ?_
       refine ac rfl (by
         intro k _nm ρ σm hJ hoff hdep
         have e61 := hdep 8 rfl rfl 61 rfl
         have e64 := hdep 11 rfl rfl 64 rfl
         exact dp_v (v := (pt b54 o55)) wn (rv_ix Try.underlying36 ti3 e61 e64 hi53) rfl hJ) ?_
       refine all_cons (by
         refine ⟨?_, ?_⟩
         ·intro _nm ρ σm hJ hoff hdep
          have e65 := hdep 12 rfl rfl 65 rfl
          obtain ⟨H, m⟩ := id hJ
          have hc56 := ((H.own 0 rfl).at hx52 hi53).int
          exact dp_v (v := (I x51)) wn (rv_load1 Try.underlying3 rfl e65 hc56) rfl hJ
         trivial) ?_
       refine ac rfl (by
         intro k _nm ρ σm hJ hoff hdep
         have e0 := look_off (N := 76) (hoff 0 rfl) rfl
         exact dp_v (v := (Sl adata_0 s2.1 cdata_0)) wn (rv_move e0) rfl hJ) ?_
       refine ac rfl (by
         intro k _nm ρ σm hJ hoff hdep
         have e3 := look_off (N := 76) (hoff 3 rfl) rfl
         exact dp_v (v := (I first_3)) wn (rv_move e3) rfl hJ) ?_
       refine ac rfl (by
         intro k _nm ρ σm hJ hoff hdep
         have e8 := look_off (N := 76) (hoff 8 rfl) rfl
         exact dp_v (v := (I s2.2)) wn (rv_move e8) rfl hJ) ?_
       refine ac rfl (by
         intro k _nm ρ σm hJ hoff hdep
         have e68 := hdep 15 rfl rfl 68 rfl
         have e69 := hdep 16 rfl rfl 69 rfl
         exact dp_v (v := (I (w64 (first_3 + s2.2)))) wn (rv_add (a := first_3) (b := s2.2) e68 e69) rfl hJ) ?_
       refine ac rfl (by
         intro k _nm ρ σm hJ hoff hdep
         have e67 := hdep 14 rfl rfl 67 rfl
         have e70 := hdep 17 rfl rfl 70 rfl
         exact dp_v (v := (pt b60 o61)) wn (rv_ix Try.underlying36 ti3 e67 e70 hi59) rfl hJ) ?_
       refine all_cons (by
         refine ⟨?_, ?_⟩
         ·intro _nm ρ σm hJ hoff hdep
          have e71 := hdep 18 rfl rfl 71 rfl
          obtain ⟨H, m⟩ := id hJ
          have hc62 := ((H.own 0 rfl).at hx58 hi59).int
          exact dp_v (v := (I x57)) wn (rv_load1 Try.underlying3 rfl e71 hc62) rfl hJ
         trivial) ?_
       refine ac rfl (by
         intro k _nm ρ σm hJ hoff hdep
         have e53 := hdep 0 rfl rfl 53 rfl
         have e56 := hdep 3 rfl rfl 56 rfl
         exact dp_v (v := (pt b66 o67)) wn (rv_ix Try.underlying36 ti3 e53 e56 hi65) rfl hJ) ?_
       refine all_cons (by
         refine ⟨?_, ?_⟩
         ·intro _nm ρ σm hJ hoff hdep
          have e73 := hdep 20 rfl rfl 73 rfl
          have e66 := hdep 13 rfl rfl 66 rfl
          obtain ⟨H, m⟩ := id hJ
          refine dp_exS wn rfl (ex_store_own (e' := x51) (vs := [(I x51)]) (k := 0) H (i := 0) rfl ti3 hx64 hi65 e73 rfl e66 rfl rfl (Nat.le_of_ble_eq_true rfl) (by simp [plain]) (by rintro _ rfl; exact rfl)) ?_
          rintro σq ⟨H2, m2⟩
          exact ⟨_, (), rfl, ⟨H2.sel' [0] rfl rfl, m.comp m2⟩, stab [0, 1, 2, 3, 4, 5, 6, 7, 8, 9, 10, 11, 12, 13, 14, 15, 16, 17, 18, 19, 20] (by kernel_rfl) ⟨rfl, rfl, rfl, rfl, rfl, rfl, rfl, rfl, rfl, rfl, rfl, rfl, rfl, rfl, rfl, rfl, rfl, rfl, rfl, rfl, rfl, trivial⟩⟩
         trivial) ?_
       exact all_nil
      ·intro _nm ρ σ68 hJ hoff hrel
       have e0 := look_off (N := 76) (hoff 0 rfl) rfl
       have e2 := look_off (N := 76) (hoff 2 rfl) rfl
       have e3 := look_off (N := 76) (hoff 3 rfl) rfl
       have e9 := look_off (N := 76) (hoff 9 rfl) rfl
       have e57 := hrel 4 rfl 57 rfl
       have e60 := hrel 7 rfl 60 rfl
       have e72 := hrel 19 rfl 72 rfl
       obtain ⟨H, -⟩ := (show Hp S0 σ0 σ68 [Ch.own 0 0 (Sl adata_0 s2.1 cdata_0) (s2.1.set (w64 (first_3 + s2.2)).toNat x51)] ∧ Md (fun i => (cov []) i ∨ (fun b => blk (Sl adata_0 s2.1 cdata_0) = some b) i) σ49 σ68 from hJ)
       clear hJ Hs
       rw [fr_lookL (L := [(0, (Sl adata_0 s2.1 cdata_0)), (2, (I hi_2)), (3, (I first_3)), (9, (I o29)), (57, (Sl adata_0 s2.1 cdata_0)), (60, (I (w64 (first_3 + o29)))), (72, (I x57))]) ⟨e0, e2, e3, e9, e57, e60, e72, trivial⟩]
       clear hoff hrel e0 e2 e3 e9 e57 e60 e72
       have hsl : (Sl adata_0 s2.1 cdata_0) = (Sl adata_0 (s2.1.set (w64 (first_3 + s2.2)).toNat x51) cdata_0) := sl_len (by simp)
       rw [hsl]; rw [hsl] at H; clear hsl
       obtain ⟨x69, hx70, h'⟩ := bind_some h
       clear h
       have h := h'; clear h'
       obtain ⟨b72, o73, hi71, -⟩ := (H.own 0 rfl).ix hx70
       refine st (v := (pt b72 o73)) (rv_ix Try.underlying36 ti3 rfl rfl hi71) ?_
       refine st_exS (ex_store_own (e' := x57) (vs := [(I x57)]) (k := 0) H (i := 0) rfl ti3 hx70 hi71 rfl rfl rfl rfl rfl (Nat.le_of_ble_eq_true rfl) (by simp [plain]) (by rintro _ rfl; exact rfl)) wn ?_
       rintro σ74 ⟨H, -⟩
       have hsl : (Sl adata_0 (s2.1.set (w64 (first_3 + s2.2)).toNat x51) cdata_0) = (Sl adata_0 ((s2.1.set (w64 (first_3 + s2.2)).toNat x51).set (w64 (first_3 + o29)).toNat x57) cdata_0) := sl_len List.length_set.symm
       rw [hsl]; rw [hsl] at H; clear hsl
       refine w_end ?_
       refine q_then ?_
       refine rg ?_
       refine st (v := (I o29)) (rv_move rfl) ?_
       refine st (v := (I o29)) (rv_assign rfl) ?_
       refine w_end ?_
       refine q_blk ?_
       refine q_then ?_
       obtain rfl := Option.some.inj h
       exact ⟨_, rfl, _, σ74, fr_join ⟨rfl, rfl, rfl, rfl, trivial⟩, rfl, H.sel' [0] rfl rfl, (List.length_set.trans (List.length_set.trans hn4))⟩
 ·clear hj
  have h := h'
  clear h' H
  rintro e a w (⟨t75, rfl, rfl, ρ, σ76, rfl, rfl, H, hn77⟩ | ⟨t78, rfl, rfl, ρ, σ79, rfl, rfl, H, hn80⟩)
  ·replace h := selim_l h
   obtain rfl := Option.some.inj h
   exact fin_end (v := (.tuple #[])) (results_ok Try.results135 res_nil rfl) ⟨rfl, rfl, hn77⟩ (H.sel' [0] rfl rfl)
  ·replace h := selim_r h
   obtain rfl := Option.some.inj h
   exact fin_ret (v := (.tuple #[])) (results_ok Try.results135 res_nil rfl) ⟨rfl, rfl, hn80⟩ (H.sel' [0] rfl rfl)

theorem c_slices_heapSortOrdered_int {data_0 : List Int} {a_1 : Int} {b_2 : Int} {adata_0 : Option Addr} {cdata_0 : Nat} {r : (List Int)} (h : M.slices_heapSortOrdered_int data_0 a_1 b_2 = some r) :
    Cal2 Try.prog 118 [(Sl adata_0 data_0 cdata_0), (I a_1), (I b_2)] [Ch.own 0 0 (Sl adata_0 data_0 cdata_0) data_0] (fun n0 v L => v = (.tuple #[]) ∧ L = [Ch.own 0 0 (Sl adata_0 r cdata_0) r] ∧ r.length = data_0.length) := by
 refine cal2 (n := 56) Try.func118 rfl rfl rfl rfl ?_
 intro S0 σ0 n0 hn0 H
 unfold M.slices_heapSortOrdered_int at h
 refine c_seq ?_
 refine rg ?_
 refine st (v := (I a_1)) (rv_move rfl) ?_
 refine st (v := (I a_1)) (rv_assign rfl) ?_
 refine w_end ?_
 refine q_then ?_
 refine c_seq ?_
 refine rg ?_
 refine st (v := (I 0)) (rv_assign rfl) ?_
 refine w_end ?_
 refine q_then ?_
 refine c_seq ?_
 refine rg ?_
 refine st (v := (I b_2)) (rv_move rfl) ?_
 refine st (v := (I a_1)) (rv_move rfl) ?_
 refine st (v := (I (w64 (b_2 - a_1)))) (rv_sub (a := b_2) (b := a_1) rfl rfl) ?_
 refine st (v := (I (w64 (b_2 - a_1)))) (rv_assign rfl) ?_
 refine w_end ?_
 refine q_then ?_
 refine c_seq ?_
 refine c_seq ?_
 refine rg ?_
 refine st (v := (I (w64 (b_2 - a_1)))) (rv_move rfl) ?_
 refine st (v := (I (w64 ((w64 (b_2 - a_1)) - 1)))) (rv_sub (a := (w64 (b_2 - a_1))) (b := 1) rfl rfl) ?_
 refine st (v := (I (w64 ((w64 ((w64 (b_2 - a_1)) - 1)).tdiv 2)))) (rv_quo (a := (w64 ((w64 (b_2 - a_1)) - 1))) (b := 2) rfl rfl (by decide)) ?_
 refine st (v := (I (w64 ((w64 ((w64 (b_2 - a_1)) - 1)).tdiv 2)))) (rv_assign rfl) ?_
 refine w_end ?_
 refine q_then ?_
 obtain ⟨o1, hj, h'⟩ := bind_some h
 clear h
 refine c_cut (fun e a w => e = .normal ∧ ∃ (ρ : Nat → Value) (σ : St), a = fr 56 (updL ρ [(0, (Sl adata_0 o1 cdata_0)), (6, (I a_1)), (7, (I 0)), (8, (I (w64 (b_2 - a_1))))]) ∧ w = σ.w ∧ Hp S0 σ0 σ [Ch.own 0 0 (Sl adata_0 o1 cdata_0) o1] ∧ o1.length = data_0.length) ?_ ?_
 ·clear h'
  rename _ = some o1 => h
  refine c_blk ?_
  refine wp_loopM _ h (fun s2 a w => ∃ (ρ : Nat → Value) (σ : St), a = fr 56 (updL ρ [(0, (Sl adata_0 s2.1 cdata_0)), (6, (I a_1)), (7, (I 0)), (8, (I (w64 (b_2 - a_1)))), (9, (I s2.2))]) ∧ w = σ.w ∧ Hp S0 σ0 σ [Ch.own 0 0 (Sl adata_0 s2.1 cdata_0) s2.1] ∧ s2.1.length = data_0.length) ⟨_, σ0, fr_join ⟨rfl, rfl, rfl, rfl, rfl, trivial⟩, rfl, H.sel' [0] rfl rfl, rfl⟩ ?_
  clear h H
  rintro s2 a w o ⟨ρ, σ3, rfl, rfl, H, hn4⟩ h hres
  refine c_seq ?_
  refine c_seq ?_
  refine rg ?_
  refine st (v := (I s2.2)) (rv_move rfl) ?_
  refine st (v := (B (decide (0 ≤ s2.2)))) (rv_geq (a := s2.2) (b := 0) rfl rfl) ?_
  refine w_end ?_
  refine q_then ?_
  refine cd_cond (decide (0 ≤ s2.2)) rfl (fun hb5 => ?_) (fun hb5 => ?_)
  ·replace h := bif_t hb5 h
   refine c_skip ?_
   refine q_then ?_
   refine c_seq ?_
   refine c_blk ?_
   refine rg ?_
   refine st (v := (Sl adata_0 s2.1 cdata_0)) (rv_move rfl) ?_
   refine st (v := (I s2.2)) (rv_move rfl) ?_
   refine st (v := (I (w64 (b_2 - a_1)))) (rv_move rfl) ?_
   refine st (v := (I a_1)) (rv_move rfl) ?_
   obtain ⟨r6, hx7, h'⟩ := bind_some h
   clear h
   have h := h'; clear h'
   have hc8 := c_slices_siftDownOrdered_int (adata_0 := adata_0) (cdata_0 := cdata_0) hx7
   refine st_call (cx_call hc8 (ent_f hc8.fn rfl) hn0 (show Hp S0 σ0 _ ([Ch.own 0 0 (Sl adata_0 s2.1 cdata_0) s2.1] ++ []) from (H.sel' [0] rfl rfl))) wn ?_
   rintro _ σ10 ⟨_, ⟨rfl, rfl, hn9⟩, H, -⟩
   replace H : Hp S0 σ0 σ10 [Ch.own 0 0 (Sl adata_0 r6 cdata_0) r6] := H
   have hsl : (Sl adata_0 s2.1 cdata_0) = (Sl adata_0 r6 cdata_0) := sl_len hn9.symm
   try rw [hsl]
   try rw [hsl] at H
   clear hsl
   refine w_end ?_
   refine q_blk ?_
   refine q_then ?_
   refine rg ?_
   refine st (v := (I s2.2)) (rv_move rfl) ?_
   refine st (v := (I (w64 (s2.2 - 1)))) (rv_sub (a := s2.2) (b := 1) rfl rfl) ?_
   refine st (v := (I (w64 (s2.2 - 1)))) (rv_assign rfl) ?_
   refine w_end ?_
   refine q_then ?_
   obtain rfl := Option.some.inj h
   exact ⟨_, rfl, _, σ10, fr_join ⟨rfl, rfl, rfl, rfl, rfl, trivial⟩, rfl, H.sel' [0] rfl rfl, (hn9.trans hn4)⟩
  ·replace h := bif_f hb5 h
   refine c_exit ?_
   refine q_then_x ?_
   refine q_then_x ?_
   refine q_blk_hit ?_
   obtain rfl := Option.some.inj h
   obtain rfl := hres _ rfl
   exact ⟨rfl, _, σ3, fr_join ⟨rfl, rfl, rfl, rfl, trivial⟩, rfl, H.sel' [0] rfl rfl, hn4⟩
 ·clear hj
  have h := h'
  clear h' H
  rintro e a w ⟨rfl, ρ, σ11, rfl, rfl, H, hn12⟩
  refine q_then ?_
  refine c_seq ?_
  refine rg ?_
  refine st (v := (I (w64 (b_2 - a_1)))) (rv_move rfl) ?_
  refine st (v := (I (w64 ((w64 (b_2 - a_1)) - 1)))) (rv_sub (a := (w64 (b_2 - a_1))) (b := 1) rfl rfl) ?_
  refine st (v := (I (w64 ((w64 (b_2 - a_1)) - 1)))) (rv_assign rfl) ?_
  refine w_end ?_
  refine q_then ?_
  obtain ⟨o13, hj, h'⟩ := bind_some h
  clear h
  refine c_cut (fun e a w => e = .normal ∧ ∃ (ρ : Nat → Value) (σ : St), a = fr 56 (updL ρ [(0, (Sl adata_0 o13 cdata_0))]) ∧ w = σ.w ∧ Hp S0 σ0 σ [Ch.own 0 0 (Sl adata_0 o13 cdata_0) o13] ∧ o13.length = o1.length) ?_ ?_
  ·clear h'
   rename _ = some o13 => h
   refine c_blk ?_
   refine wp_loopM _ h (fun s14 a w => ∃ (ρ : Nat → Value) (σ : St), a = fr 56 (updL ρ [(0, (Sl adata_0 s14.1 cdata_0)), (6, (I a_1)), (7, (I 0)), (10, (I s14.2))]) ∧ w = σ.w ∧ Hp S0 σ0 σ [Ch.own 0 0 (Sl adata_0 s14.1 cdata_0) s14.1] ∧ s14.1.length = o1.length) ⟨_, σ11, fr_join ⟨rfl, rfl, rfl, rfl, trivial⟩, rfl, H.sel' [0] rfl rfl, rfl⟩ ?_
   clear h H
   rintro s14 a w o ⟨ρ, σ15, rfl, rfl, H, hn16⟩ h hres
   refine c_seq ?_
   refine c_seq ?_
   refine rg ?_
   refine st (v := (I s14.2)) (rv_move rfl) ?_
   refine st (v := (B (decide (0 ≤ s14.2)))) (rv_geq (a := s14.2) (b := 0) rfl rfl) ?_
   refine w_end ?_
   refine q_then ?_
   refine cd_cond (decide (0 ≤ s14.2)) rfl (fun hb17 => ?_) (fun hb17 => ?_)
   ·replace h := bif_t hb17 h
    refine c_skip ?_
    refine q_then ?_
    refine c_seq ?_
    refine c_blk ?_
    refine c_seq ?_
    obtain ⟨x18, hx19, h'⟩ := bind_some h
    clear h
    have h := h'; clear h'
    obtain ⟨b21, o22, hi20, -⟩ := (H.own 0 rfl).ix hx19
    have hc23 := ((H.own 0 rfl).at hx19 hi20).int
    obtain ⟨x24, hx25, h'⟩ := bind_some h
    clear h
    have h := h'; clear h'
    obtain ⟨b27, o28, hi26, -⟩ := (H.own 0 rfl).ix hx25
    have hc29 := ((H.own 0 rfl).at hx25 hi26).int
    obtain ⟨x30, hx31, h'⟩ := bind_some h
    clear h
    have h := h'; clear h'
    obtain ⟨b33, o34, hi32, -⟩ := (H.own 0 rfl).ix hx31
    have Hs := H
    refine rg2 (σ := σ15) (Nm := Unit) 18 [17] [[false], [true]] [[(0, 0)], [(0, 0)], [(0, 0), (1, 1)], [(0, 0), (1, 1)], [(0, 0), (1, 1)], [(0, 0), (1, 1)], [(0, 0)], [(0, 0)], [(0, 0)], [(0, 0)], [(0, 0)], [(0, 0)], [(0, 0)], [(0, 0)], [(0, 0)], [(0, 0)], [(0, 0)], [(0, 1)]] 1 [fun _ => fun σm => Hp S0 σ0 σm [Ch.own 0 0 (Sl adata_0 s14.1 cdata_0) s14.1] ∧ Md (cov []) σ15 σm, fun _ => fun σm => Hp S0 σ0 σm [Ch.own 0 0 (Sl adata_0 s14.1 cdata_0) (s14.1.set a_1.toNat x18)] ∧ Md (fun i => (cov []) i ∨ (fun b => blk (Sl adata_0 s14.1 cdata_0) = some b) i) σ15 σm] [fun _ => (Sl adata_0 s14.1 cdata_0), fun _ => (I a_1), fun _ => (Sl adata_0 s14.1 cdata_0), fun _ => (I a_1), fun _ => (I s14.2), fun _ => (I (w64 (a_1 + s14.2))), fun _ => (Sl adata_0 s14.1 cdata_0), fun _ => (I a_1), fun _ => (I s14.2), fun _ => (I (w64 (a_1 + s14.2))), fun _ => (pt b21 o22), fun _ => (I x18), fun _ => (Sl adata_0 s14.1 cdata_0), fun _ => (I a_1), fun _ => (pt b27 o28), fun _ => (I x24), fun _ => (pt b33 o34), fun _ => undef] () (by kernel_rfl) (by kernel_rfl) ?_ ?_ ?_
    ·intro σm m0
     exact ⟨H.grow (m0.mono fun _ h => h.elim), m0⟩
    ·refine ac rfl (by
       intro k _nm ρ σm hJ hoff hdep
       have e0 := look_off (N := 56) (hoff 0 rfl) rfl
       exact dp_v (v := (Sl adata_0 s14.1 cdata_0)) wn (rv_move e0) rfl hJ) ?_
     refine ac rfl (by
       intro k _nm ρ σm hJ hoff hdep
       have e6 := look_off (N := 56) (hoff 6 rfl) rfl
       exact dp_v (v := (I a_1)) wn (rv_move e6) rfl hJ) ?_
     refine ac rfl (by
       intro k _nm ρ σm hJ hoff hdep
       have e0 := look_off (N := 56) (hoff 0 rfl) rfl
       exact dp_v (v := (Sl adata_0 s14.1 cdata_0)) wn (rv_move e0) rfl hJ) ?_
     refine ac rfl (by
       intro k _nm ρ σm hJ hoff hdep
       have e6 := look_off (N := 56) (hoff 6 rfl) rfl
       exact dp_v (v := (I a_1)) wn (rv_move e6) rfl hJ) ?_
     refine ac rfl (by
       intro k _nm ρ σm hJ hoff hdep
       have e10 := look_off (N := 56) (hoff 10 rfl) rfl
       exact dp_v (v := (I s14.2)) wn (rv_move e10) rfl hJ) ?_
     refine ac rfl (by
       intro k _nm ρ σm hJ hoff hdep
       have e36 := hdep 3 rfl rfl 36 rfl
       have e37 := hdep 4 rfl rfl 37 rfl
       exact dp_v (v := (I (w64 (a_1 + s14.2)))) wn (rv_add (a := a_1) (b := s14.2) e36 e37) rfl hJ) ?_
     refine ac rfl (by
       intro k _nm ρ σm hJ hoff hdep
       have e0 := look_off (N := 56) (hoff 0 rfl) rfl
       exact dp_v (v := (Sl adata_0 s14.1 cdata_0)) wn (rv_move e0) rfl hJ) ?_
     refine ac rfl (by
       intro k _nm ρ σm hJ hoff hdep
       have e6 := look_off (N := 56) (hoff 6 rfl) rfl
       exact dp_v (v := (I a_1)) wn (rv_move e6) rfl hJ) ?_
     refine ac rfl (by
       intro k _nm ρ σm hJ hoff hdep
       have e10 := look_off (N := 56) (hoff 10 rfl) rfl
       exact dp_v (v := (I s14.2)) wn (rv_move e10) rfl hJ) ?_
     refine ac rfl (by
       intro k _nm ρ σm hJ hoff hdep
       have e40 := hdep 7 rfl rfl 40 rfl
       have e41 := hdep 8 rfl rfl 41 rfl
       exact dp_v (v := (I (w64 (a_1 + s14.2)))) wn (rv_add (a := a_1) (b := s14.2) e40 e41) rfl hJ) ?_
     refine ac rfl (by
       intro k _nm ρ σm hJ hoff hdep
       have e39 := hdep 6 rfl rfl 39 rfl
       have e42 := hdep 9 rfl rfl 42 rfl
       exact dp_v (v := (pt b21 o22)) wn (rv_ix Try.underlying36 ti3 e39 e42 hi20) rfl hJ) ?_
     refine all_cons (by
       refine ⟨?_, ?_⟩
       ·intro _nm ρ σm hJ hoff hdep
        have e43 := hdep 10 rfl rfl 43 rfl
        obtain ⟨H, m⟩ := id hJ
        have hc23 := ((H.own 0 rfl).at hx19 hi20).int
        exact dp_v (v := (I x18)) wn (rv_load1 Try.underlying3 rfl e43 hc23) rfl hJ
       trivial) ?_
     refine ac rfl (by
       intro k _nm ρ σm hJ hoff hdep
       have e0 := look_off (N := 56) (hoff 0 rfl) rfl
       exact dp_v (v := (Sl adata_0 s14.1 cdata_0)) wn (rv_move e0) rfl hJ) ?_
     refine ac rfl (by
       intro k _nm ρ σm hJ hoff hdep
       have e6 := look_off (N := 56) (hoff 6 rfl) rfl
       exact dp_v (v := (I a_1)) wn (rv_move e6) rfl hJ) ?_
     refine ac rfl (by
       intro k _nm ρ σm hJ hoff hdep
       have e45 := hdep 12 rfl rfl 45 rfl
       have e46 := hdep 13 rfl rfl 46 rfl
       exact dp_v (v := (pt b27 o28)) wn (rv_ix Try.underlying36 ti3 e45 e46 hi26) rfl hJ) ?_
     refine all_cons (by
       refine ⟨?_, ?_⟩
       ·intro _nm ρ σm hJ hoff hdep
        have e47 := hdep 14 rfl rfl 47 rfl
        obtain ⟨H, m⟩ := id hJ
        have hc29 := ((H.own 0 rfl).at hx25 hi26).int
        exact dp_v (v := (I x24)) wn (rv_load1 Try.underlying3 rfl e47 hc29) rfl hJ
       trivial) ?_
     refine ac rfl (by
       intro k _nm ρ σm hJ hoff hdep
       have e33 := hdep 0 rfl rfl 33 rfl
       have e34 := hdep 1 rfl rfl 34 rfl
       exact dp_v (v := (pt b33 o34)) wn (rv_ix Try.underlying36 ti3 e33 e34 hi32) rfl hJ) ?_
     refine all_cons (by
       refine ⟨?_, ?_⟩
       ·intro _nm ρ σm hJ hoff hdep
        have e49 := hdep 16 rfl rfl 49 rfl
        have e44 := hdep 11 rfl rfl 44 rfl
        obtain ⟨H, m⟩ := id hJ
        refine dp_exS wn rfl (ex_store_own (e' := x18) (vs := [(I x18)]) (k := 0) H (i := 0) rfl ti3 hx31 hi32 e49 rfl e44 rfl rfl (Nat.le_of_ble_eq_true rfl) (by simp [plain]) (by rintro _ rfl; exact rfl)) ?_
        rintro σq ⟨H2, m2⟩
        exact ⟨_, (), rfl, ⟨H2.sel' [0] rfl rfl, m.comp m2⟩, stab [0, 1, 2, 3, 4, 5, 6, 7, 8, 9, 10, 11, 12, 13, 14, 15, 16] (by kernel_rfl) ⟨rfl, rfl, rfl, rfl, rfl, rfl, rfl, rfl, rfl, rfl, rfl, rfl, rfl, rfl, rfl, rfl, rfl, trivial⟩⟩
       trivial) ?_
     exact all_nil
    ·intro _nm ρ σ35 hJ hoff hrel
     have e0 := look_off (N := 56) (hoff 0 rfl) rfl
     have e6 := look_off (N := 56) (hoff 6 rfl) rfl
     have e7 := look_off (N := 56) (hoff 7 rfl) rfl
     have e10 := look_off (N := 56) (hoff 10 rfl) rfl
     have e35 := hrel 2 rfl 35 rfl
     have e38 := hrel 5 rfl 38 rfl
     have e48 := hrel 15 rfl 48 rfl
     obtain ⟨H, -⟩ := (show Hp S0 σ0 σ35 [Ch.own 0 0 (Sl adata_0 s14.1 cdata_0) (s14.1.set a_1.toNat x18)] ∧ Md (fun i => (cov []) i ∨ (fun b => blk (Sl adata_0 s14.1 cdata_0) = some b) i) σ15 σ35 from hJ)
     clear hJ Hs
     rw [fr_lookL (L := [(0, (Sl adata_0 s14.1 cdata_0)), (6, (I a_1)), (7, (I 0)), (10, (I s14.2)), (35, (Sl adata_0 s14.1 cdata_0)), (38, (I (w64 (a_1 + s14.2)))), (48, (I x24))]) ⟨e0, e6, e7, e10, e35, e38, e48, trivial⟩]
     clear hoff hrel e0 e6 e7 e10 e35 e38 e48
     have hsl : (Sl adata_0 s14.1 cdata_0) = (Sl adata_0 (s14.1.set a_1.toNat x18) cdata_0) := sl_len (by simp)
     rw [hsl]; rw [hsl] at H; clear hsl
     obtain ⟨x36, hx37, h'⟩ := bind_some h
     clear h
     have h := h'; clear h'
     obtain ⟨b39, o40, hi38, -⟩ := (H.own 0 rfl).ix hx37
     refine st (v := (pt b39 o40)) (rv_ix Try.underlying36 ti3 rfl rfl hi38) ?_
     refine st_exS (ex_store_own (e' := x24) (vs := [(I x24)]) (k := 0) H (i := 0) rfl ti3 hx37 hi38 rfl rfl rfl rfl rfl (Nat.le_of_ble_eq_true rfl) (by simp [plain]) (by rintro _ rfl; exact rfl)) wn ?_
     rintro σ41 ⟨H, -⟩
     have hsl : (Sl adata_0 (s14.1.set a_1.toNat x18) cdata_0) = (Sl adata_0 ((s14.1.set a_1.toNat x18).set (w64 (a_1 + s14.2)).toNat x24) cdata_0) := sl_len List.length_set.symm
     rw [hsl]; rw [hsl] at H; clear hsl
     refine w_end ?_
     refine q_then ?_
     refine rg ?_
     refine st (v := (Sl adata_0 ((s14.1.set a_1.toNat x18).set (w64 (a_1 + s14.2)).toNat x24) cdata_0)) (rv_move rfl) ?_
     refine st (v := (I 0)) (rv_move rfl) ?_
     refine st (v := (I s14.2)) (rv_move rfl) ?_
     refine st (v := (I a_1)) (rv_move rfl) ?_
     obtain ⟨r42, hx43, h'⟩ := bind_some h
     clear h
     have h := h'; clear h'
     have hc44 := c_slices_siftDownOrdered_int (adata_0 := adata_0) (cdata_0 := cdata_0) hx43
     refine st_call (cx_call hc44 (ent_f hc44.fn rfl) hn0 (show Hp S0 σ0 _ ([Ch.own 0 0 (Sl adata_0 ((s14.1.set a_1.toNat x18).set (w64 (a_1 + s14.2)).toNat x24) cdata_0) ((s14.1.set a_1.toNat x18).set (w64 (a_1 + s14.2)).toNat x24)] ++ []) from (H.sel' [0] rfl rfl))) wn ?_
     rintro _ σ46 ⟨_, ⟨rfl, rfl, hn45⟩, H, -⟩
     replace H : Hp S0 σ0 σ46 [Ch.own 0 0 (Sl adata_0 r42 cdata_0) r42] := H
     have hsl : (Sl adata_0 ((s14.1.set a_1.toNat x18).set (w64 (a_1 + s14.2)).toNat x24) cdata_0) = (Sl adata_0 r42 cdata_0) := sl_len hn45.symm
     try rw [hsl]
     try rw [hsl] at H
     clear hsl
     refine w_end ?_
     refine q_blk ?_
     refine q_then ?_
     refine rg ?_
     refine st (v := (I s14.2)) (rv_move rfl) ?_
     refine st (v := (I (w64 (s14.2 - 1)))) (rv_sub (a := s14.2) (b := 1) rfl rfl) ?_
     refine st (v := (I (w64 (s14.2 - 1)))) (rv_assign rfl) ?_
     refine w_end ?_
     refine q_then ?_
     obtain rfl := Option.some.inj h
     exact ⟨_, rfl, _, σ46, fr_join ⟨rfl, rfl, rfl, rfl, trivial⟩, rfl, H.sel' [0] rfl rfl, ((hn45.trans (List.length_set.trans (List.length_set.trans (hn16.trans hn12)))).trans hn12.symm)⟩
   ·replace h := bif_f hb17 h
    refine c_exit ?_
    refine q_then_x ?_
    refine q_then_x ?_
    refine q_blk_hit ?_
    obtain rfl := Option.some.inj h
    obtain rfl := hres _ rfl
    exact ⟨rfl, _, σ15, fr_join ⟨rfl, trivial⟩, rfl, H.sel' [0] rfl rfl, ((hn16.trans hn12).trans hn12.symm)⟩
  ·clear hj
   have h := h'
   clear h' H
   rintro e a w ⟨rfl, ρ, σ47, rfl, rfl, H, hn48⟩
   obtain rfl := Option.some.inj h
   exact fin_end (v := (.tuple #[])) (results_ok Try.results118 res_nil rfl) ⟨rfl, rfl, (hn48.trans hn12)⟩ (H.sel' [0] rfl rfl)

theorem c_slices_order2Ordered_int {data_0 : List Int} {a_1 : Int} {b_2 : Int} {swaps_3 : Int} {adata_0 : Option Addr} {cdata_0 : Nat} {loswaps_3 bswaps_3 oswaps_3 : Nat} {preswaps_3 sufswaps_3 : List Value} {r : Int × Int × Int} (h : M.slices_order2Ordered_int data_0 a_1 b_2 swaps_3 = some r) :
    Cal2 Try.prog 153 [(Sl adata_0 data_0 cdata_0), (I a_1), (I b_2), (pt bswaps_3 oswaps_3)] [Ch.ro 0 (Sl adata_0 data_0 cdata_0) data_0, Ch.bx loswaps_3 bswaps_3 oswaps_3 [(I swaps_3)] preswaps_3 sufswaps_3] (fun n0 v L => v = (.tuple #[(I r.1), (I r.2.1)]) ∧ L = [Ch.bx loswaps_3 bswaps_3 oswaps_3 [(I r.2.2)] preswaps_3 sufswaps_3]) := by
 refine cal2 (n := 28) Try.func153 rfl rfl rfl rfl ?_
 intro S0 σ0 n0 hn0 H
 unfold M.slices_order2Ordered_int at h
 refine c_seq ?_
 refine rg ?_
 refine st (v := (I 0)) (rv_assign rfl) ?_
 refine st (v := (I 0)) (rv_assign rfl) ?_
 refine w_end ?_
 refine q_then ?_
 refine c_seq ?_
 refine c_seq ?_
 refine rgP (σ := σ0) 8 (by kernel_rfl) (by kernel_rfl) (by kernel_rfl) ?_
 refine sq (v := (Sl adata_0 data_0 cdata_0)) (rv_move rfl) ?_
 refine sq (v := (I b_2)) (rv_move rfl) ?_
 obtain ⟨x1, hx2, h'⟩ := bind_some h
 clear h
 have h := h'; clear h'
 obtain ⟨b4, o5, hi3, -⟩ := (H.ro 0 rfl).ix hx2
 refine sq (v := (pt b4 o5)) (rv_ix Try.underlying36 ti3 rfl rfl hi3) ?_
 have hc6 := ((H.ro 0 rfl).at hx2 hi3).int
 refine sq (v := (I x1)) (rv_load1 Try.underlying3 rfl rfl hc6) ?_
 refine sq (v := (Sl adata_0 data_0 cdata_0)) (rv_move rfl) ?_
 refine sq (v := (I a_1)) (rv_move rfl) ?_
 obtain ⟨x7, hx8, h'⟩ := bind_some h
 clear h
 have h := h'; clear h'
 obtain ⟨b10, o11, hi9, -⟩ := (H.ro 0 rfl).ix hx8
 refine sq (v := (pt b10 o11)) (rv_ix Try.underlying36 ti3 rfl rfl hi9) ?_
 have hc12 := ((H.ro 0 rfl).at hx8 hi9).int
 refine sq (v := (I x7)) (rv_load1 Try.underlying3 rfl rfl hc12) ?_
 refine sq_end ?_
 intro σ13 hm14
 replace H := H.grow (hm14.mono fun _ h => h); clear hm14
 obtain ⟨r15, hx16, h'⟩ := bind_some h
 clear h
 have h := h'; clear h'
 have hc17 := c_cmp_Less_int hx16
 refine st_call (cx_call hc17 (ent_f hc17.fn rfl) hn0 (show Hp S0 σ0 _ ([] ++ [Ch.ro 0 (Sl adata_0 data_0 cdata_0) data_0, Ch.bx loswaps_3 bswaps_3 oswaps_3 [(I swaps_3)] preswaps_3 sufswaps_3]) from (H.sel' [0, 1] rfl rfl))) wn ?_
 rintro _ σ18 ⟨_, ⟨rfl, rfl⟩, H, -⟩
 replace H : Hp S0 σ0 σ18 [Ch.ro 0 (Sl adata_0 data_0 cdata_0) data_0, Ch.bx loswaps_3 bswaps_3 oswaps_3 [(I swaps_3)] preswaps_3 sufswaps_3] := H
 refine w_end ?_
 refine q_then ?_
 refine cd_cond r15 rfl (fun hb19 => ?_) (fun hb19 => ?_)
 ·replace h := bif_t hb19 h
  refine c_seq ?_
  refine rg ?_
  refine st (v := (pt bswaps_3 oswaps_3)) (rv_move rfl) ?_
  refine st (v := (pt bswaps_3 oswaps_3)) (rv_nilCheck rfl) ?_
  have hc20 := H.cell (u := (I swaps_3)) (o' := oswaps_3) 1 0 rfl rfl rfl
  refine st (v := (I swaps_3)) (rv_load1 Try.underlying3 rfl rfl hc20) ?_
  refine st (v := (I (w64 (swaps_3 + 1)))) (rv_add (a := swaps_3) (b := 1) rfl rfl) ?_
  refine st (v := (pt bswaps_3 oswaps_3)) (rv_nilCheck rfl) ?_
  refine st_exS (ex_store_box (k := 0) (cs := [(I swaps_3)]) (vs := [(I (w64 (swaps_3 + 1)))]) (cs' := [(I (w64 (swaps_3 + 1)))]) H (i := 1) rfl ti3 rfl rfl rfl rfl rfl (Nat.le_of_ble_eq_true rfl) (by simp [plain]) rfl) wn ?_
  rintro σ21 ⟨H, -⟩
  refine w_end ?_
  refine q_then ?_
  refine c_seq ?_
  refine rg ?_
  refine st (v := (I b_2)) (rv_move rfl) ?_
  refine st (v := (I a_1)) (rv_move rfl) ?_
  refine st (v := (I b_2)) (rv_assign rfl) ?_
  refine st (v := (I a_1)) (rv_assign rfl) ?_
  refine w_end ?_
  refine q_then ?_
  refine c_ret ?_
  refine q_then_r ?_
  obtain rfl := Option.some.inj h
  exact fin_ret (v := (.tuple #[(I b_2), (I a_1)])) (results_ok Try.results153 (res_tmp (v := (I b_2)) rfl (res_tmp (v := (I a_1)) rfl res_nil)) rfl) ⟨rfl, rfl⟩ (H.sel' [0] rfl rfl)
 ·replace h := bif_f hb19 h
  refine c_skip ?_
  refine q_then ?_
  refine c_seq ?_
  refine rg ?_
  refine st (v := (I a_1)) (rv_move rfl) ?_
  refine st (v := (I b_2)) (rv_move rfl) ?_
  refine st (v := (I a_1)) (rv_assign rfl) ?_
  refine st (v := (I b_2)) (rv_assign rfl) ?_
  refine w_end ?_
  refine q_then ?_
  refine c_ret ?_
  obtain rfl := Option.some.inj h
  exact fin_ret (v := (.tuple #[(I a_1), (I b_2)])) (results_ok Try.results153 (res_tmp (v := (I a_1)) rfl (res_tmp (v := (I b_2)) rfl res_nil)) rfl) ⟨rfl, rfl⟩ (H.sel' [1] rfl rfl)

theorem c_slices_medianOrdered_int {data_0 : List Int} {a_1 : Int} {b_2 : Int} {c_3 : Int} {swaps_4 : Int} {adata_0 : Option Addr} {cdata_0 : Nat} {loswaps_4 bswaps_4 oswaps_4 : Nat} {preswaps_4 sufswaps_4 : List Value} {r : Int × Int} (h : M.slices_medianOrdered_int data_0 a_1 b_2 c_3 swaps_4 = some r) :
    Cal2 Try.prog 139 [(Sl adata_0 data_0 cdata_0), (I a_1), (I b_2), (I c_3), (pt bswaps_4 oswaps_4)] [Ch.ro 0 (Sl adata_0 data_0 cdata_0) data_0, Ch.bx loswaps_4 bswaps_4 oswaps_4 [(I swaps_4)] preswaps_4 sufswaps_4] (fun n0 v L => v = (I r.1) ∧ L = [Ch.bx loswaps_4 bswaps_4 oswaps_4 [(I r.2)] preswaps_4 sufswaps_4]) := by
 refine cal2 (n := 36) Try.func139 rfl rfl rfl rfl ?_
 intro S0 σ0 n0 hn0 H
 unfold M.slices_medianOrdered_int at h
 refine c_seq ?_
 refine rg ?_
 refine st (v := (I 0)) (rv_assign rfl) ?_
 refine w_end ?_
 refine q_then ?_
 refine c_seq ?_
 refine rg ?_
 refine st (v := (Sl adata_0 data_0 cdata_0)) (rv_move rfl) ?_
 refine st (v := (I a_1)) (rv_move rfl) ?_
 refine st (v := (I b_2)) (rv_move rfl) ?_
 refine st (v := (pt bswaps_4 oswaps_4)) (rv_move rfl) ?_
 obtain ⟨r1, hx2, h'⟩ := bind_some h
 clear h
 have h := h'; clear h'
 have hc3 := c_slices_order2Ordered_int (adata_0 := adata_0) (cdata_0 := cdata_0) (loswaps_3 := loswaps_4) (bswaps_3 := bswaps_4) (oswaps_3 := oswaps_4) (preswaps_3 := preswaps_4) (sufswaps_3 := sufswaps_4) hx2
 refine st_call (cx_call hc3 (ent_f hc3.fn rfl) hn0 (show Hp S0 σ0 _ ([Ch.ro 0 (Sl adata_0 data_0 cdata_0) data_0, Ch.bx loswaps_4 bswaps_4 oswaps_4 [(I swaps_4)] preswaps_4 sufswaps_4] ++ [Ch.ro 0 (Sl adata_0 data_0 cdata_0) data_0]) from (H.sel' [0, 1, 0] rfl rfl))) wn ?_
 rintro _ σ4 ⟨_, ⟨rfl, rfl⟩, H, -⟩
 replace H : Hp S0 σ0 σ4 [Ch.bx loswaps_4 bswaps_4 oswaps_4 [(I r1.2.2)] preswaps_4 sufswaps_4, Ch.ro 0 (Sl adata_0 data_0 cdata_0) data_0] := H
 refine st (v := (.tuple #[(I r1.1), (I r1.2.1)])) (rv_move rfl) ?_
 refine st (v := (I r1.1)) (rv_extract rfl rfl) ?_
 refine st (v := (I r1.2.1)) (rv_extract rfl rfl) ?_
 refine st (v := (I r1.1)) (rv_assign rfl) ?_
 refine st (v := (I r1.2.1)) (rv_assign rfl) ?_
 refine w_end ?_
 refine q_then ?_
 refine c_seq ?_
 refine rg ?_
 refine st (v := (Sl adata_0 data_0 cdata_0)) (rv_move rfl) ?_
 refine st (v := (I r1.2.1)) (rv_move rfl) ?_
 refine st (v := (I c_3)) (rv_move rfl) ?_
 refine st (v := (pt bswaps_4 oswaps_4)) (rv_move rfl) ?_
 obtain ⟨r5, hx6, h'⟩ := bind_some h
 clear h
 have h := h'; clear h'
 have hc7 := c_slices_order2Ordered_int (adata_0 := adata_0) (cdata_0 := cdata_0) (loswaps_3 := loswaps_4) (bswaps_3 := bswaps_4) (oswaps_3 := oswaps_4) (preswaps_3 := preswaps_4) (sufswaps_3 := sufswaps_4) hx6
 refine st_call (cx_call hc7 (ent_f hc7.fn rfl) hn0 (show Hp S0 σ0 _ ([Ch.ro 0 (Sl adata_0 data_0 cdata_0) data_0, Ch.bx loswaps_4 bswaps_4 oswaps_4 [(I r1.2.2)] preswaps_4 sufswaps_4] ++ [Ch.ro 0 (Sl adata_0 data_0 cdata_0) data_0]) from (H.sel' [1, 0, 1] rfl rfl))) wn ?_
 rintro _ σ8 ⟨_, ⟨rfl, rfl⟩, H, -⟩
 replace H : Hp S0 σ0 σ8 [Ch.bx loswaps_4 bswaps_4 oswaps_4 [(I r5.2.2)] preswaps_4 sufswaps_4, Ch.ro 0 (Sl adata_0 data_0 cdata_0) data_0] := H
 refine st (v := (.tuple #[(I r5.1), (I r5.2.1)])) (rv_move rfl) ?_
 refine st (v := (I r5.1)) (rv_extract rfl rfl) ?_
 refine st (v := (I r5.2.1)) (rv_extract rfl rfl) ?_
 refine st (v := (I r5.1)) (rv_assign rfl) ?_
 refine st (v := (I r5.2.1)) (rv_assign rfl) ?_
 refine w_end ?_
 refine q_then ?_
 refine c_seq ?_
 refine rg ?_
 refine st (v := (Sl adata_0 data_0 cdata_0)) (rv_move rfl) ?_
 refine st (v := (I r1.1)) (rv_move rfl) ?_
 refine st (v := (I r5.1)) (rv_move rfl) ?_
 refine st (v := (pt bswaps_4 oswaps_4)) (rv_move rfl) ?_
 obtain ⟨r9, hx10, h'⟩ := bind_some h
 clear h
 have h := h'; clear h'
 have hc11 := c_slices_order2Ordered_int (adata_0 := adata_0) (cdata_0 := cdata_0) (loswaps_3 := loswaps_4) (bswaps_3 := bswaps_4) (oswaps_3 := oswaps_4) (preswaps_3 := preswaps_4) (sufswaps_3 := sufswaps_4) hx10
 refine st_call (cx_call hc11 (ent_f hc11.fn rfl) hn0 (show Hp S0 σ0 _ ([Ch.ro 0 (Sl adata_0 data_0 cdata_0) data_0, Ch.bx loswaps_4 bswaps_4 oswaps_4 [(I r5.2.2)] preswaps_4 sufswaps_4] ++ [Ch.ro 0 (Sl adata_0 data_0 cdata_0) data_0]) from (H.sel' [1, 0, 1] rfl rfl))) wn ?_
 rintro _ σ12 ⟨_, ⟨rfl, rfl⟩, H, -⟩
 replace H : Hp S0 σ0 σ12 [Ch.bx loswaps_4 bswaps_4 oswaps_4 [(I r9.2.2)] preswaps_4 sufswaps_4, Ch.ro 0 (Sl adata_0 data_0 cdata_0) data_0] := H
 refine st (v := (.tuple #[(I r9.1), (I r9.2.1)])) (rv_move rfl) ?_
 refine st (v := (I r9.1)) (rv_extract rfl rfl) ?_
 refine st (v := (I r9.2.1)) (rv_extract rfl rfl) ?_
 refine st (v := (I r9.1)) (rv_assign rfl) ?_
 refine st (v := (I r9.2.1)) (rv_assign rfl) ?_
 refine w_end ?_
 refine q_then ?_
 refine c_seq ?_
 refine rg ?_
 refine st (v := (I r9.2.1)) (rv_move rfl) ?_
 refine st (v := (I r9.2.1)) (rv_assign rfl) ?_
 refine w_end ?_
 refine q_then ?_
 refine c_ret ?_
 obtain rfl := Option.some.inj h
 exact fin_ret (v := (I r9.2.1)) (results_ok Try.results139 (res_tmp (v := (I r9.2.1)) rfl res_nil) rfl) ⟨rfl, rfl⟩ (H.sel' [0] rfl rfl)

theorem c_slices_medianAdjacentOrdered_int {data_0 : List Int} {a_1 : Int} {swaps_2 : Int} {adata_0 : Option Addr} {cdata_0 : Nat} {loswaps_2 bswaps_2 oswaps_2 : Nat} {preswaps_2 sufswaps_2 : List Value} {r : Int × Int} (h : M.slices_medianAdjacentOrdered_int data_0 a_1 swaps_2 = some r) :
    Cal2 Try.prog 138 [(Sl adata_0 data_0 cdata_0), (I a_1), (pt bswaps_2 oswaps_2)] [Ch.ro 0 (Sl adata_0 data_0 cdata_0) data_0, Ch.bx loswaps_2 bswaps_2 oswaps_2 [(I swaps_2)] preswaps_2 sufswaps_2] (fun n0 v L => v = (I r.1) ∧ L = [Ch.bx loswaps_2 bswaps_2 oswaps_2 [(I r.2)] preswaps_2 sufswaps_2]) := by
 refine cal2 (n := 15) Try.func138 rfl rfl rfl rfl ?_
 intro S0 σ0 n0 hn0 H
 unfold M.slices_medianAdjacentOrdered_int at h
 refine c_seq ?_
 refine rg ?_
 refine st (v := (I 0)) (rv_assign rfl) ?_
 refine w_end ?_
 refine q_then ?_
 refine c_seq ?_
 refine rg ?_
 refine st (v := (Sl adata_0 data_0 cdata_0)) (rv_move rfl) ?_
 refine st (v := (I a_1)) (rv_move rfl) ?_
 refine st (v := (I (w64 (a_1 - 1)))) (rv_sub (a := a_1) (b := 1) rfl rfl) ?_
 refine st (v := (I a_1)) (rv_move rfl) ?_
 refine st (v := (I a_1)) (rv_move rfl) ?_
 refine st (v := (I (w64 (a_1 + 1)))) (rv_add (a := a_1) (b := 1) rfl rfl) ?_
 refine st (v := (pt bswaps_2 oswaps_2)) (rv_move rfl) ?_
 obtain ⟨r1, hx2, h'⟩ := bind_some h
 clear h
 have h := h'; clear h'
 have hc3 := c_slices_medianOrdered_int (adata_0 := adata_0) (cdata_0 := cdata_0) (loswaps_4 := loswaps_2) (bswaps_4 := bswaps_2) (oswaps_4 := oswaps_2) (preswaps_4 := preswaps_2) (sufswaps_4 := sufswaps_2) hx2
 refine st_call (cx_call hc3 (ent_f hc3.fn rfl) hn0 (show Hp S0 σ0 _ ([Ch.ro 0 (Sl adata_0 data_0 cdata_0) data_0, Ch.bx loswaps_2 bswaps_2 oswaps_2 [(I swaps_2)] preswaps_2 sufswaps_2] ++ [Ch.ro 0 (Sl adata_0 data_0 cdata_0) data_0]) from (H.sel' [0, 1, 0] rfl rfl))) wn ?_
 rintro _ σ4 ⟨_, ⟨rfl, rfl⟩, H, -⟩
 replace H : Hp S0 σ0 σ4 [Ch.bx loswaps_2 bswaps_2 oswaps_2 [(I r1.2)] preswaps_2 sufswaps_2, Ch.ro 0 (Sl adata_0 data_0 cdata_0) data_0] := H
 refine st (v := (I r1.1)) (rv_assign rfl) ?_
 refine w_end ?_
 refine q_then ?_
 refine c_ret ?_
 obtain rfl := Option.some.inj h
 exact fin_ret (v := (I r1.1)) (results_ok Try.results138 (res_tmp (v := (I r1.1)) rfl res_nil) rfl) ⟨rfl, rfl⟩ (H.sel' [0] rfl rfl)

end Go.Vs
