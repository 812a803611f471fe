/- The functions compute what their models say. -/
import Derived.Test.YtanbdmdbfjonhaaKExactFilterNearestC2
set_option linter.unusedVariables false
set_option linter.unusedSimpArgs false
set_option maxRecDepth 20000
namespace Go.Vs
open Go Go.Proofs
attribute [local irreducible] Code.wp Code.wpIn wpList wpListIn wpQuiet Calls CallsIn

theorem c_impl_compareHits {a_0 : Int × Int} {b_1 : Int × Int}  {r : Int} (h : M.impl_compareHits a_0 b_1 = some r) :
    Cal2 Try.prog 111 [(.agg #[(I a_0.1), (I a_0.2)]), (.agg #[(I b_1.1), (I b_1.2)])] [] (fun n0 v L => v = (I r) ∧ L = []) := by
 refine cal2 (n := 17) Try.func111 rfl rfl rfl rfl ?_
 intro S0 σ0 n0 hn0 H
 unfold M.impl_compareHits at h
 refine c_seq ?_
 refine rg ?_
 refine st_ex (ex_box (cs := [(I a_0.1), (I a_0.2)]) H hn0 rfl rfl) wn ?_
 rintro _ σ2 ⟨b1, rfl, H, -⟩
 refine st_ex (ex_box (cs := [(I b_1.1), (I b_1.2)]) H hn0 rfl rfl) wn ?_
 rintro _ σ4 ⟨b3, rfl, H, -⟩
 refine st (v := (I 0)) (rv_assign rfl) ?_
 refine w_end ?_
 refine q_then ?_
 refine c_seq ?_
 have hc5 := H.cell (u := (I a_0.2)) (o' := 1) 1 1 rfl rfl rfl
 have hc6 := H.cell (u := (I b_1.2)) (o' := 1) 0 1 rfl rfl rfl
 obtain ⟨r7, hx8, h'⟩ := bind_some h
 clear h
 have h := h'; clear h'
 have hc9 := c_cmp_Compare_int hx8
 have hc10 := H.cell (u := (I a_0.1)) (o' := 0) 1 0 rfl rfl rfl
 have hc11 := H.cell (u := (I b_1.1)) (o' := 0) 0 0 rfl rfl rfl
 have Hs := H
 refine rg2 (σ := σ4) (Nm := Unit) 9 [4] [[false], [true]] [[(0, 0)], [(0, 0)], [(0, 0)], [(0, 0)], [(0, 1)], [(0, 0), (1, 1)], [(0, 0), (1, 1)], [(0, 0), (1, 1)], [(0, 0), (1, 1)]] 1 [fun _ => fun σm => Hp S0 σ0 σm [Ch.bx n0 b3 0 [(I b_1.1), (I b_1.2)] [] [], Ch.bx n0 b1 0 [(I a_0.1), (I a_0.2)] [] []] ∧ Md (cov []) σ4 σm, fun _ => fun σm => Hp S0 σ0 σm [Ch.bx n0 b3 0 [(I b_1.1), (I b_1.2)] [] [], Ch.bx n0 b1 0 [(I a_0.1), (I a_0.2)] [] []] ∧ Md (cov []) σ4 σm] [fun _ => (pt b1 1), fun _ => (I a_0.2), fun _ => (pt b3 1), fun _ => (I b_1.2), fun _ => (I r7), fun _ => (pt b1 0), fun _ => (I a_0.1), fun _ => (pt b3 0), fun _ => (I b_1.1)] () (by kernel_rfl) (by kernel_rfl) ?_ ?_ ?_
 ·intro σm m0
  exact ⟨H.grow (m0.mono fun _ h => h.elim), m0⟩
 ·refine ac rfl (by
    intro k _nm ρ σm hJ hoff hdep
    have e2 := look_off (N := 17) (hoff 2 rfl) rfl
    exact dp_v (v := (pt b1 1)) wn (rv_fieldAddr (off := 1) (ft := 3) Try.underlying91 rfl ti3 rfl e2) rfl hJ) ?_
  refine all_cons (by
    refine ⟨?_, ?_⟩
    ·intro _nm ρ σm hJ hoff hdep
     have e5 := hdep 0 rfl rfl 5 rfl
     obtain ⟨H, m⟩ := id hJ
     have hc5 := H.cell (u := (I a_0.2)) (o' := 1) 1 1 rfl rfl rfl
     exact dp_v (v := (I a_0.2)) wn (rv_load1 Try.underlying3 rfl e5 hc5) rfl hJ
    trivial) ?_
  refine ac rfl (by
    intro k _nm ρ σm hJ hoff hdep
    have e3 := look_off (N := 17) (hoff 3 rfl) rfl
    exact dp_v (v := (pt b3 1)) wn (rv_fieldAddr (off := 1) (ft := 3) Try.underlying91 rfl ti3 rfl e3) rfl hJ) ?_
  refine all_cons (by
    refine ⟨?_, ?_⟩
    ·intro _nm ρ σm hJ hoff hdep
     have e7 := hdep 2 rfl rfl 7 rfl
     obtain ⟨H, m⟩ := id hJ
     have hc6 := H.cell (u := (I b_1.2)) (o' := 1) 0 1 rfl rfl rfl
     exact dp_v (v := (I b_1.2)) wn (rv_load1 Try.underlying3 rfl e7 hc6) rfl hJ
    trivial) ?_
  refine all_cons (by
    refine ⟨?_, ?_⟩
    ·intro _nm ρ σm hJ hoff hdep
     have e6 : look 17 ρ 6 = (I a_0.2) := hdep 1 rfl rfl 6 rfl
     have e8 : look 17 ρ 8 = (I b_1.2) := hdep 3 rfl rfl 8 rfl
     obtain ⟨H, m⟩ := id hJ
     refine dp_cx wn (cx_call hc9 (ent_f hc9.fn (by show [look 17 ρ 6, look 17 ρ 8] = _; rw [e6, e8])) hn0 (show Hp S0 σ0 _ ([] ++ [Ch.bx n0 b3 0 [(I b_1.1), (I b_1.2)] [] [], Ch.bx n0 b1 0 [(I a_0.1), (I a_0.2)] [] []]) from (H.sel' [0, 1] rfl rfl))) ?_
     rintro _ σq ⟨_, ⟨rfl, rfl⟩, H2, m2⟩
     exact ⟨_, (), rfl, rfl, ⟨H2.sel' [0, 1] rfl rfl, m.comp0 m2⟩, stab [0, 1, 2, 3, 5, 6, 7, 8] (by kernel_rfl) ⟨rfl, rfl, rfl, rfl, rfl, rfl, rfl, rfl, trivial⟩⟩
    trivial) ?_
  refine ac rfl (by
    intro k _nm ρ σm hJ hoff hdep
    have e2 := look_off (N := 17) (hoff 2 rfl) rfl
    exact dp_v (v := (pt b1 0)) wn (rv_fieldAddr (off := 0) (ft := 3) Try.underlying91 rfl ti3 rfl e2) rfl hJ) ?_
  refine all_cons (by
    refine ⟨?_, ?_⟩
    ·intro _nm ρ σm hJ hoff hdep
     have e10 := hdep 5 rfl rfl 10 rfl
     obtain ⟨H, m⟩ := id hJ
     have hc10 := H.cell (u := (I a_0.1)) (o' := 0) 1 0 rfl rfl rfl
     exact dp_v (v := (I a_0.1)) wn (rv_load1 Try.underlying3 rfl e10 hc10) rfl hJ
    refine ⟨?_, ?_⟩
    ·intro _nm ρ σm hJ hoff hdep
     have e10 := hdep 5 rfl rfl 10 rfl
     obtain ⟨H, m⟩ := id hJ
     have hc10 := H.cell (u := (I a_0.1)) (o' := 0) 1 0 rfl rfl rfl
     exact dp_v (v := (I a_0.1)) wn (rv_load1 Try.underlying3 rfl e10 hc10) rfl hJ
    trivial) ?_
  refine ac rfl (by
    intro k _nm ρ σm hJ hoff hdep
    have e3 := look_off (N := 17) (hoff 3 rfl) rfl
    exact dp_v (v := (pt b3 0)) wn (rv_fieldAddr (off := 0) (ft := 3) Try.underlying91 rfl ti3 rfl e3) rfl hJ) ?_
  refine all_cons (by
    refine ⟨?_, ?_⟩
    ·intro _nm ρ σm hJ hoff hdep
     have e12 := hdep 7 rfl rfl 12 rfl
     obtain ⟨H, m⟩ := id hJ
     have hc11 := H.cell (u := (I b_1.1)) (o' := 0) 0 0 rfl rfl rfl
     exact dp_v (v := (I b_1.1)) wn (rv_load1 Try.underlying3 rfl e12 hc11) rfl hJ
    refine ⟨?_, ?_⟩
    ·intro _nm ρ σm hJ hoff hdep
     have e12 := hdep 7 rfl rfl 12 rfl
     obtain ⟨H, m⟩ := id hJ
     have hc11 := H.cell (u := (I b_1.1)) (o' := 0) 0 0 rfl rfl rfl
     exact dp_v (v := (I b_1.1)) wn (rv_load1 Try.underlying3 rfl e12 hc11) rfl hJ
    trivial) ?_
  exact all_nil
 ·intro _nm ρ σ12 hJ hoff hrel
  have e9 := hrel 4 rfl 9 rfl
  have e11 := hrel 6 rfl 11 rfl
  have e13 := hrel 8 rfl 13 rfl
  obtain ⟨H, -⟩ := (show Hp S0 σ0 σ12 [Ch.bx n0 b3 0 [(I b_1.1), (I b_1.2)] [] [], Ch.bx n0 b1 0 [(I a_0.1), (I a_0.2)] [] []] ∧ Md (cov []) σ4 σ12 from hJ)
  clear hJ Hs
  rw [fr_lookL (L := [(9, (I r7)), (11, (I a_0.1)), (13, (I b_1.1))]) ⟨e9, e11, e13, trivial⟩]
  clear hoff hrel e9 e11 e13
  obtain ⟨r13, hx14, h'⟩ := bind_some h
  clear h
  have h := h'; clear h'
  have hc15 := c_cmp_Compare_int hx14
  refine st_call (cx_call hc15 (ent_f hc15.fn rfl) hn0 (show Hp S0 σ0 _ ([] ++ [Ch.bx n0 b3 0 [(I b_1.1), (I b_1.2)] [] [], Ch.bx n0 b1 0 [(I a_0.1), (I a_0.2)] [] []]) from (H.sel' [0, 1] rfl rfl))) wn ?_
  rintro _ σ16 ⟨_, ⟨rfl, rfl⟩, H, -⟩
  replace H : Hp S0 σ0 σ16 [Ch.bx n0 b3 0 [(I b_1.1), (I b_1.2)] [] [], Ch.bx n0 b1 0 [(I a_0.1), (I a_0.2)] [] []] := H
  refine st_ex (ex_buildSlice (el := n0) (xs := ([r7, r13] : List Int)) (ps := [(0, (I r7)), (1, (I r13))]) (cs := [(I r7), (I r13)]) H hn0 Try.underlying30 ti3 rfl rfl (by kernel_rfl) (.cons (c := [(I r7)]) rfl (.cons (c := [(I r13)]) rfl (.nil))) rfl) wn ?_
  rintro _ σ18 ⟨b17, rfl, H, -⟩
  obtain ⟨σ19, hw20, H, -⟩ := H.pub 0 rfl (Nat.le_refl _)
  rw [← hw20]; clear hw20
  replace H := H.roLow 0 0 rfl (Nat.zero_le _)
  obtain ⟨r21, hx22, h'⟩ := bind_some h
  clear h
  have h := h'; clear h'
  have hc23 := c_cmp_Or_int (avals_0 := (some ⟨b17, 0, none⟩)) (cvals_0 := 2) hx22
  refine st_call (cx_call hc23 (ent_f hc23.fn rfl) hn0 (show Hp S0 σ0 _ ([Ch.ro 0 (Sl (some ⟨b17, 0, none⟩) ([r7, r13] : List Int) 2) ([r7, r13] : List Int)] ++ [Ch.ro 0 (Sl (some ⟨b17, 0, none⟩) ([r7, r13] : List Int) 2) ([r7, r13] : List Int), Ch.ro n0 (Sl (some ⟨b17, 0, none⟩) ([r7, r13] : List Int) 2) ([r7, r13] : List Int), Ch.bx n0 b3 0 [(I b_1.1), (I b_1.2)] [] [], Ch.bx n0 b1 0 [(I a_0.1), (I a_0.2)] [] []]) from (H.sel' [0, 0, 1, 2, 3] rfl rfl))) wn ?_
  rintro _ σ24 ⟨_, ⟨rfl, rfl⟩, H, -⟩
  replace H : Hp S0 σ0 σ24 [Ch.ro 0 (Sl (some ⟨b17, 0, none⟩) ([r7, r13] : List Int) 2) ([r7, r13] : List Int), Ch.ro n0 (Sl (some ⟨b17, 0, none⟩) ([r7, r13] : List Int) 2) ([r7, r13] : List Int), Ch.bx n0 b3 0 [(I b_1.1), (I b_1.2)] [] [], Ch.bx n0 b1 0 [(I a_0.1), (I a_0.2)] [] []] := H
  refine st (v := (I r21)) (rv_assign rfl) ?_
  refine w_end ?_
  refine q_then ?_
  refine c_ret ?_
  obtain rfl := Option.some.inj h
  exact fin_ret (v := (I r21)) (results_ok Try.results111 (res_tmp (v := (I r21)) rfl res_nil) rfl) ⟨rfl, rfl⟩ (H.sel' [] rfl rfl)

theorem c_impl_hitHeap_Less {h_0 : List (Int × Int)} {i_1 : Int} {j_2 : Int} {ah_0 : Option Addr} {ch_0 : Nat} {r : Bool} (h : M.impl_hitHeap_Less h_0 i_1 j_2 = some r) :
    Cal2 Try.prog 189 [(Sl ah_0 h_0 ch_0), (I i_1), (I j_2)] [Ch.ro 0 (Sl ah_0 h_0 ch_0) h_0] (fun n0 v L => v = (B r) ∧ L = []) := by
 refine cal2 (n := 17) Try.func189 rfl rfl rfl rfl ?_
 intro S0 σ0 n0 hn0 H
 unfold M.impl_hitHeap_Less at h
 refine c_seq ?_
 refine rg ?_
 refine st (v := (B false)) (rv_assign rfl) ?_
 refine w_end ?_
 refine q_then ?_
 refine c_seq ?_
 refine rgP (σ := σ0) 8 (by kernel_rfl) (by kernel_rfl) (by kernel_rfl) ?_
 refine sq (v := (Sl ah_0 h_0 ch_0)) (rv_move rfl) ?_
 refine sq (v := (I i_1)) (rv_move rfl) ?_
 obtain ⟨x1, hx2, h'⟩ := bind_some h
 clear h
 have h := h'; clear h'
 obtain ⟨b4, o5, hi3, -⟩ := (H.ro 0 rfl).ix hx2
 refine sq (v := (pt b4 o5)) (rv_ix Try.underlying120 ti91 rfl rfl hi3) ?_
 obtain ⟨_, ⟨_, _, rfl, rfl, rfl⟩, hl6, hc7⟩ := ((H.ro 0 rfl).at hx2 hi3).cells
 refine sq (v := (.agg #[(I x1.1), (I x1.2)])) (rv_load Try.underlying91 rfl ti91 rfl hl6 hc7) ?_
 refine sq (v := (Sl ah_0 h_0 ch_0)) (rv_move rfl) ?_
 refine sq (v := (I j_2)) (rv_move rfl) ?_
 obtain ⟨x8, hx9, h'⟩ := bind_some h
 clear h
 have h := h'; clear h'
 obtain ⟨b11, o12, hi10, -⟩ := (H.ro 0 rfl).ix hx9
 refine sq (v := (pt b11 o12)) (rv_ix Try.underlying120 ti91 rfl rfl hi10) ?_
 obtain ⟨_, ⟨_, _, rfl, rfl, rfl⟩, hl13, hc14⟩ := ((H.ro 0 rfl).at hx9 hi10).cells
 refine sq (v := (.agg #[(I x8.1), (I x8.2)])) (rv_load Try.underlying91 rfl ti91 rfl hl13 hc14) ?_
 refine sq_end ?_
 intro σ15 hm16
 replace H := H.grow (hm16.mono fun _ h => h); clear hm16
 obtain ⟨r17, hx18, h'⟩ := bind_some h
 clear h
 have h := h'; clear h'
 have hc19 := c_impl_compareHits hx18
 refine st_call (cx_call hc19 (ent_f hc19.fn rfl) hn0 (show Hp S0 σ0 _ ([] ++ [Ch.ro 0 (Sl ah_0 h_0 ch_0) h_0]) from (H.sel' [0] rfl rfl))) wn ?_
 rintro _ σ20 ⟨_, ⟨rfl, rfl⟩, H, -⟩
 replace H : Hp S0 σ0 σ20 [Ch.ro 0 (Sl ah_0 h_0 ch_0) h_0] := H
 refine st (v := (B (decide (0 < r17)))) (rv_gtr (a := r17) (b := 0) rfl rfl) ?_
 refine st (v := (B (decide (0 < r17)))) (rv_assign rfl) ?_
 refine w_end ?_
 refine q_then ?_
 refine c_ret ?_
 obtain rfl := Option.some.inj h
 exact fin_ret (v := (B (decide (0 < r17)))) (results_ok Try.results189 (res_tmp (v := (B (decide (0 < r17)))) rfl res_nil) rfl) ⟨rfl, rfl⟩ (H.sel' [] rfl rfl)

theorem c_impl_hitHeap_Swap {h_0 : List (Int × Int)} {i_1 : Int} {j_2 : Int} {ah_0 : Option Addr} {ch_0 : Nat} {r : (List (Int × Int))} (h : M.impl_hitHeap_Swap h_0 i_1 j_2 = some r) :
    Cal2 Try.prog 190 [(Sl ah_0 h_0 ch_0), (I i_1), (I j_2)] [Ch.own 0 0 (Sl ah_0 h_0 ch_0) h_0] (fun n0 v L => v = (.tuple #[]) ∧ L = [Ch.own 0 0 (Sl ah_0 r ch_0) r] ∧ r.length = h_0.length) := by
 refine cal2 (n := 20) Try.func190 rfl rfl rfl rfl ?_
 intro S0 σ0 n0 hn0 H
 unfold M.impl_hitHeap_Swap at h
 obtain ⟨x1, hx2, h'⟩ := bind_some h
 clear h
 have h := h'; clear h'
 obtain ⟨b4, o5, hi3, -⟩ := (H.own 0 rfl).ix hx2
 obtain ⟨_, ⟨_, _, rfl, rfl, rfl⟩, hl6, hc7⟩ := ((H.own 0 rfl).at hx2 hi3).cells
 obtain ⟨x8, hx9, h'⟩ := bind_some h
 clear h
 have h := h'; clear h'
 obtain ⟨b11, o12, hi10, -⟩ := (H.own 0 rfl).ix hx9
 obtain ⟨_, ⟨_, _, rfl, rfl, rfl⟩, hl13, hc14⟩ := ((H.own 0 rfl).at hx9 hi10).cells
 obtain ⟨x15, hx16, h'⟩ := bind_some h
 clear h
 have h := h'; clear h'
 obtain ⟨b18, o19, hi17, -⟩ := (H.own 0 rfl).ix hx16
 have Hs := H
 refine rg2 (σ := σ0) (Nm := Unit) 14 [13] [[false], [true]] [[(0, 0)], [(0, 0)], [(0, 0), (1, 1)], [(0, 0), (1, 1)], [(0, 0)], [(0, 0)], [(0, 0)], [(0, 0)], [(0, 0)], [(0, 0)], [(0, 0)], [(0, 0)], [(0, 0)], [(0, 1)]] 1 [fun _ => fun σm => Hp S0 σ0 σm [Ch.own 0 0 (Sl ah_0 h_0 ch_0) h_0] ∧ Md (cov []) σ0 σm, fun _ => fun σm => Hp S0 σ0 σm [Ch.own 0 0 (Sl ah_0 h_0 ch_0) (h_0.set i_1.toNat (x1.1, x1.2))] ∧ Md (fun i => (cov []) i ∨ (fun b => blk (Sl ah_0 h_0 ch_0) = some b) i) σ0 σm] [fun _ => (Sl ah_0 h_0 ch_0), fun _ => (I i_1), fun _ => (Sl ah_0 h_0 ch_0), fun _ => (I j_2), fun _ => (Sl ah_0 h_0 ch_0), fun _ => (I j_2), fun _ => (pt b4 o5), fun _ => (.agg #[(I x1.1), (I x1.2)]), fun _ => (Sl ah_0 h_0 ch_0), fun _ => (I i_1), fun _ => (pt b11 o12), fun _ => (.agg #[(I x8.1), (I x8.2)]), fun _ => (pt b18 o19), fun _ => undef] () (by kernel_rfl) (by kernel_rfl) ?_ ?_ ?_
 ·intro σm m0
  exact ⟨H.grow (m0.mono fun _ h => h.elim), m0⟩
 ·refine ac rfl (by
    intro k _nm ρ σm hJ hoff hdep
    have e0 := look_off (N := 20) (hoff 0 rfl) rfl
    exact dp_v (v := (Sl ah_0 h_0 ch_0)) wn (rv_move e0) rfl hJ) ?_
  refine ac rfl (by
    intro k _nm ρ σm hJ hoff hdep
    have e1 := look_off (N := 20) (hoff 1 rfl) rfl
    exact dp_v (v := (I i_1)) wn (rv_move e1) rfl hJ) ?_
  refine ac rfl (by
    intro k _nm ρ σm hJ hoff hdep
    have e0 := look_off (N := 20) (hoff 0 rfl) rfl
    exact dp_v (v := (Sl ah_0 h_0 ch_0)) wn (rv_move e0) rfl hJ) ?_
  refine ac rfl (by
    intro k _nm ρ σm hJ hoff hdep
    have e2 := look_off (N := 20) (hoff 2 rfl) rfl
    exact dp_v (v := (I j_2)) wn (rv_move e2) rfl hJ) ?_
  refine ac rfl (by
    intro k _nm ρ σm hJ hoff hdep
    have e0 := look_off (N := 20) (hoff 0 rfl) rfl
    exact dp_v (v := (Sl ah_0 h_0 ch_0)) wn (rv_move e0) rfl hJ) ?_
  refine ac rfl (by
    intro k _nm ρ σm hJ hoff hdep
    have e2 := look_off (N := 20) (hoff 2 rfl) rfl
    exact dp_v (v := (I j_2)) wn (rv_move e2) rfl hJ) ?_
  refine ac rfl (by
    intro k _nm ρ σm hJ hoff hdep
    have e10 := hdep 4 rfl rfl 10 rfl
    have e11 := hdep 5 rfl rfl 11 rfl
    exact dp_v (v := (pt b4 o5)) wn (rv_ix Try.underlying120 ti91 e10 e11 hi3) rfl hJ) ?_
  refine all_cons (by
    refine ⟨?_, ?_⟩
    ·intro _nm ρ σm hJ hoff hdep
     have e12 := hdep 6 rfl rfl 12 rfl
     obtain ⟨H, m⟩ := id hJ
     obtain ⟨_, ⟨_, _, rfl, rfl, rfl⟩, hl6, hc7⟩ := ((H.own 0 rfl).at hx2 hi3).cells
     exact dp_v (v := (.agg #[(I x1.1), (I x1.2)])) wn (rv_load Try.underlying91 rfl ti91 e12 hl6 hc7) rfl hJ
    trivial) ?_
  refine ac rfl (by
    intro k _nm ρ σm hJ hoff hdep
    have e0 := look_off (N := 20) (hoff 0 rfl) rfl
    exact dp_v (v := (Sl ah_0 h_0 ch_0)) wn (rv_move e0) rfl hJ) ?_
  refine ac rfl (by
    intro k _nm ρ σm hJ hoff hdep
    have e1 := look_off (N := 20) (hoff 1 rfl) rfl
    exact dp_v (v := (I i_1)) wn (rv_move e1) rfl hJ) ?_
  refine ac rfl (by
    intro k _nm ρ σm hJ hoff hdep
    have e14 := hdep 8 rfl rfl 14 rfl
    have e15 := hdep 9 rfl rfl 15 rfl
    exact dp_v (v := (pt b11 o12)) wn (rv_ix Try.underlying120 ti91 e14 e15 hi10) rfl hJ) ?_
  refine all_cons (by
    refine ⟨?_, ?_⟩
    ·intro _nm ρ σm hJ hoff hdep
     have e16 := hdep 10 rfl rfl 16 rfl
     obtain ⟨H, m⟩ := id hJ
     obtain ⟨_, ⟨_, _, rfl, rfl, rfl⟩, hl13, hc14⟩ := ((H.own 0 rfl).at hx9 hi10).cells
     exact dp_v (v := (.agg #[(I x8.1), (I x8.2)])) wn (rv_load Try.underlying91 rfl ti91 e16 hl13 hc14) rfl hJ
    trivial) ?_
  refine ac rfl (by
    intro k _nm ρ σm hJ hoff hdep
    have e6 := hdep 0 rfl rfl 6 rfl
    have e7 := hdep 1 rfl rfl 7 rfl
    exact dp_v (v := (pt b18 o19)) wn (rv_ix Try.underlying120 ti91 e6 e7 hi17) rfl hJ) ?_
  refine all_cons (by
    refine ⟨?_, ?_⟩
    ·intro _nm ρ σm hJ hoff hdep
     have e18 := hdep 12 rfl rfl 18 rfl
     have e13 := hdep 7 rfl rfl 13 rfl
     obtain ⟨H, m⟩ := id hJ
     refine dp_exS wn rfl (ex_store_own (e' := (x1.1, x1.2)) (vs := [(I x1.1), (I x1.2)]) (k := 0) H (i := 0) rfl ti91 hx16 hi17 e18 rfl e13 rfl rfl (Nat.le_of_ble_eq_true rfl) (by simp [plain]) (by rintro _ ⟨_, _, rfl, rfl, rfl⟩; exact ⟨[(I x1.1)], [(I x1.2)], rfl, rfl, rfl⟩)) ?_
     rintro σq ⟨H2, m2⟩
     exact ⟨_, (), rfl, ⟨H2.sel' [0] rfl rfl, m.comp m2⟩, stab [0, 1, 2, 3, 4, 5, 6, 7, 8, 9, 10, 11, 12] (by kernel_rfl) ⟨rfl, rfl, rfl, rfl, rfl, rfl, rfl, rfl, rfl, rfl, rfl, rfl, rfl, trivial⟩⟩
    trivial) ?_
  exact all_nil
 ·intro _nm ρ σ20 hJ hoff hrel
  have e0 := look_off (N := 20) (hoff 0 rfl) rfl
  have e8 := hrel 2 rfl 8 rfl
  have e9 := hrel 3 rfl 9 rfl
  have e17 := hrel 11 rfl 17 rfl
  obtain ⟨H, -⟩ := (show Hp S0 σ0 σ20 [Ch.own 0 0 (Sl ah_0 h_0 ch_0) (h_0.set i_1.toNat (x1.1, x1.2))] ∧ Md (fun i => (cov []) i ∨ (fun b => blk (Sl ah_0 h_0 ch_0) = some b) i) σ0 σ20 from hJ)
  clear hJ Hs
  rw [fr_lookL (L := [(0, (Sl ah_0 h_0 ch_0)), (8, (Sl ah_0 h_0 ch_0)), (9, (I j_2)), (17, (.agg #[(I x8.1), (I x8.2)]))]) ⟨e0, e8, e9, e17, trivial⟩]
  clear hoff hrel e0 e8 e9 e17
  have hsl : (Sl ah_0 h_0 ch_0) = (Sl ah_0 (h_0.set i_1.toNat (x1.1, x1.2)) ch_0) := sl_len (by simp)
  rw [hsl]; rw [hsl] at H; clear hsl
  obtain ⟨x21, hx22, h'⟩ := bind_some h
  clear h
  have h := h'; clear h'
  obtain ⟨b24, o25, hi23, -⟩ := (H.own 0 rfl).ix hx22
  refine st (v := (pt b24 o25)) (rv_ix Try.underlying120 ti91 rfl rfl hi23) ?_
  refine st_exS (ex_store_own (e' := (x8.1, x8.2)) (vs := [(I x8.1), (I x8.2)]) (k := 0) H (i := 0) rfl ti91 hx22 hi23 rfl rfl rfl rfl rfl (Nat.le_of_ble_eq_true rfl) (by simp [plain]) (by rintro _ ⟨_, _, rfl, rfl, rfl⟩; exact ⟨[(I x8.1)], [(I x8.2)], rfl, rfl, rfl⟩)) wn ?_
  rintro σ26 ⟨H, -⟩
  have hsl : (Sl ah_0 (h_0.set i_1.toNat (x1.1, x1.2)) ch_0) = (Sl ah_0 ((h_0.set i_1.toNat (x1.1, x1.2)).set j_2.toNat (x8.1, x8.2)) ch_0) := sl_len List.length_set.symm
  rw [hsl]; rw [hsl] at H; clear hsl
  refine w_end ?_
  obtain rfl := Option.some.inj h
  exact fin_end (v := (.tuple #[])) (results_ok Try.results190 res_nil rfl) ⟨rfl, rfl, (List.length_set.trans List.length_set)⟩ (H.sel' [0] rfl rfl)

theorem c_container_heap_up__impl_hitHeap {h_0 : List (Int × Int)} {j_1 : Int} {ah_0 : Option Addr} {ch_0 : Nat} {loh_0 bh_0 oh_0 : Nat} {preh_0 sufh_0 : List Value} {r : (List (Int × Int))} (h : M.container_heap_up__impl_hitHeap h_0 j_1 = some r) :
    Cal2 Try.prog 147 [(.iface 133 (pt bh_0 oh_0)), (I j_1)] [Ch.bx loh_0 bh_0 oh_0 [(Sl ah_0 h_0 ch_0)] preh_0 sufh_0, Ch.own 0 0 (Sl ah_0 h_0 ch_0) h_0] (fun n0 v L => ∃ (az1 : Option Addr), ∃ (cz2 : Nat), v = (.tuple #[]) ∧ L = [Ch.bx loh_0 bh_0 oh_0 [(Sl az1 r cz2)] preh_0 sufh_0, Ch.own 0 0 (Sl az1 r cz2) r]) := by
 refine cal2 (n := 23) Try.func147 rfl rfl rfl rfl ?_
 intro S0 σ0 n0 hn0 H
 unfold M.container_heap_up__impl_hitHeap at h
 obtain ⟨o1, hj, h'⟩ := bind_some h
 clear h
 refine c_cut (fun e a w => e = .normal ∧ ∃ (ρ : Nat → Value) (σ : St) (aj1 : Option Addr) (cj2 : Nat), a = fr 23 (updL ρ [(0, (.iface 133 (pt bh_0 oh_0)))]) ∧ w = σ.w ∧ Hp S0 σ0 σ [Ch.bx loh_0 bh_0 oh_0 [(Sl aj1 o1 cj2)] preh_0 sufh_0, Ch.own 0 0 (Sl aj1 o1 cj2) o1]) ?_ ?_
 ·clear h'
  rename _ = some o1 => h
  refine c_blk ?_
  refine wp_loopM _ h (fun s2 a w => ∃ (ρ : Nat → Value) (σ : St) (aj1 : Option Addr) (cj2 : Nat), a = fr 23 (updL ρ [(0, (.iface 133 (pt bh_0 oh_0))), (1, (I s2.2))]) ∧ w = σ.w ∧ Hp S0 σ0 σ [Ch.bx loh_0 bh_0 oh_0 [(Sl aj1 s2.1 cj2)] preh_0 sufh_0, Ch.own 0 0 (Sl aj1 s2.1 cj2) s2.1]) ⟨_, σ0, ah_0, ch_0, fr_join ⟨rfl, rfl, trivial⟩, rfl, H.sel' [0, 1] rfl rfl⟩ ?_
  clear h H
  rintro s2 a w o ⟨ρ, σ3, a4, c5, rfl, rfl, H⟩ h hres
  refine c_blk ?_
  refine c_seq ?_
  refine rg ?_
  refine st (v := (I s2.2)) (rv_move rfl) ?_
  refine st (v := (I (w64 (s2.2 - 1)))) (rv_sub (a := s2.2) (b := 1) rfl rfl) ?_
  refine st (v := (I (w64 ((w64 (s2.2 - 1)).tdiv 2)))) (rv_quo (a := (w64 (s2.2 - 1))) (b := 2) rfl rfl (by decide)) ?_
  refine st (v := (I (w64 ((w64 (s2.2 - 1)).tdiv 2)))) (rv_assign rfl) ?_
  refine w_end ?_
  refine q_then ?_
  refine c_seq ?_
  refine c_seq ?_
  obtain ⟨o6, hj, h'⟩ := bind_some h
  clear h
  refine c_cut (fun e a w => e = .normal ∧ ∃ (ρ : Nat → Value) (σ : St), a = fr 23 (updL ρ [(0, (.iface 133 (pt bh_0 oh_0))), (1, (I s2.2)), (4, (I (w64 ((w64 (s2.2 - 1)).tdiv 2)))), (17, (B o6))]) ∧ w = σ.w ∧ Hp S0 σ0 σ [Ch.own 0 0 (Sl a4 s2.1 c5) s2.1, Ch.bx loh_0 bh_0 oh_0 [(Sl a4 s2.1 c5)] preh_0 sufh_0]) ?_ ?_
  ·clear h'
   rename _ = some o6 => h
   refine rg ?_
   refine st (v := (I (w64 ((w64 (s2.2 - 1)).tdiv 2)))) (rv_move rfl) ?_
   refine st (v := (I s2.2)) (rv_move rfl) ?_
   refine st (v := (B ((w64 ((w64 (s2.2 - 1)).tdiv 2)) == s2.2))) (rv_eql (a := (w64 ((w64 (s2.2 - 1)).tdiv 2))) (b := s2.2) rfl rfl) ?_
   refine st (v := (B ((w64 ((w64 (s2.2 - 1)).tdiv 2)) == s2.2))) (rv_move rfl) ?_
   rcases Bool.eq_false_or_eq_true ((w64 ((w64 (s2.2 - 1)).tdiv 2)) == s2.2) with hb7 | hb7
   ·replace h := bif_t hb7 h
    refine st_skip (congrArg some hb7) ?_
    refine st_skip (congrArg some hb7) ?_
    refine st_skip (congrArg some hb7) ?_
    refine st_skip (congrArg some hb7) ?_
    refine st_skip (congrArg some hb7) ?_
    refine st (v := (B true)) (rv_pick_t (congrArg B hb7) rfl) ?_
    refine w_end ?_
    obtain rfl := Option.some.inj h
    exact ⟨rfl, _, σ3, fr_join ⟨rfl, rfl, rfl, rfl, trivial⟩, rfl, H.sel' [1, 0] rfl rfl⟩
   ·replace h := bif_f hb7 h
    refine st_g (v := (.iface 133 (pt bh_0 oh_0))) (congrArg some hb7) (rv_move rfl) ?_
    refine st_g (v := (I s2.2)) (congrArg some hb7) (rv_move rfl) ?_
    refine st_g (v := (I (w64 ((w64 (s2.2 - 1)).tdiv 2)))) (congrArg some hb7) (rv_move rfl) ?_
    obtain ⟨r8, hx9, h'⟩ := bind_some h
    clear h
    have h := h'; clear h'
    have hc10 := c_impl_hitHeap_Less (ah_0 := a4) (ch_0 := c5) hx9
    have hle := Nat.le_trans hn0 H.size
    refine st_call (cx_lend (Loan.lend Loan.nil) hc10 (ent_iv hc10.fn (by kernel_rfl) Try.underlying133 Try.underlying120 rfl rfl (H.cell (u := (Sl a4 s2.1 c5)) (o' := oh_0) 0 0 rfl rfl rfl) rfl) (show Hp S0 σ0 _ ([Ch.own 0 0 (Sl a4 s2.1 c5) s2.1] ++ ([] ++ [Ch.bx loh_0 bh_0 oh_0 [(Sl a4 s2.1 c5)] preh_0 sufh_0])) from (H.sel' [1, 0] rfl rfl)) (by rintro _ _ _ ⟨rfl, rfl⟩; exact trivial)) (wanted_yes rfl (by exact (congrArg some hb7))) ?_
    rintro _ σ11 ⟨_, ⟨rfl, rfl⟩, H, -, -⟩
    replace H : Hp S0 σ0 σ11 [Ch.own 0 0 (Sl a4 s2.1 c5) s2.1, Ch.bx loh_0 bh_0 oh_0 [(Sl a4 s2.1 c5)] preh_0 sufh_0] := H
    clear hle
    replace H : Hp S0 σ0 σ11 [Ch.own 0 0 (Sl a4 s2.1 c5) s2.1, Ch.bx loh_0 bh_0 oh_0 [(Sl a4 s2.1 c5)] preh_0 sufh_0] := H
    refine st_g (v := (B (!r8))) (congrArg some hb7) (rv_not rfl) ?_
    refine st (v := (B (!r8))) (rv_pick_f (congrArg B hb7) rfl) ?_
    refine w_end ?_
    obtain rfl := Option.some.inj h
    exact ⟨rfl, _, σ11, fr_join ⟨rfl, rfl, rfl, rfl, trivial⟩, rfl, H.sel' [0, 1] rfl rfl⟩
  ·clear hj
   have h := h'
   clear h' H
   rintro e a w ⟨rfl, ρ, σ12, rfl, rfl, H⟩
   refine q_then ?_
   refine cd_cond o6 rfl (fun hb13 => ?_) (fun hb13 => ?_)
   ·replace h := bif_t hb13 h
    refine c_exit ?_
    refine q_then_x ?_
    refine q_blk_x (by decide) ?_
    refine q_then_x ?_
    refine q_blk_hit ?_
    obtain rfl := Option.some.inj h
    obtain rfl := hres _ rfl
    exact ⟨rfl, _, σ12, a4, c5, fr_join ⟨rfl, trivial⟩, rfl, H.sel' [1, 0] rfl rfl⟩
   ·replace h := bif_f hb13 h
    refine c_skip ?_
    refine q_then ?_
    refine c_seq ?_
    refine rg ?_
    refine st (v := (.iface 133 (pt bh_0 oh_0))) (rv_move rfl) ?_
    refine st (v := (I (w64 ((w64 (s2.2 - 1)).tdiv 2)))) (rv_move rfl) ?_
    refine st (v := (I s2.2)) (rv_move rfl) ?_
    obtain ⟨r14, hx15, h'⟩ := bind_some h
    clear h
    have h := h'; clear h'
    have hc16 := c_impl_hitHeap_Swap (ah_0 := a4) (ch_0 := c5) hx15
    refine st_call (cx_call hc16 (ent_iv hc16.fn (by kernel_rfl) Try.underlying133 Try.underlying120 rfl rfl (H.cell (u := (Sl a4 s2.1 c5)) (o' := oh_0) 1 0 rfl rfl rfl) rfl) hn0 (show Hp S0 σ0 _ ([Ch.own 0 0 (Sl a4 s2.1 c5) s2.1] ++ [Ch.bx loh_0 bh_0 oh_0 [(Sl a4 s2.1 c5)] preh_0 sufh_0]) from (H.sel' [0, 1] rfl rfl))) wn ?_
    rintro _ σ18 ⟨_, ⟨rfl, rfl, hn17⟩, H, -⟩
    replace H : Hp S0 σ0 σ18 [Ch.own 0 0 (Sl a4 r14 c5) r14, Ch.bx loh_0 bh_0 oh_0 [(Sl a4 s2.1 c5)] preh_0 sufh_0] := H
    have hsl : (Sl a4 s2.1 c5) = (Sl a4 r14 c5) := sl_len hn17.symm
    try rw [hsl]
    try rw [hsl] at H
    clear hsl
    refine w_end ?_
    refine q_then ?_
    refine rg ?_
    refine st (v := (I (w64 ((w64 (s2.2 - 1)).tdiv 2)))) (rv_move rfl) ?_
    refine st (v := (I (w64 ((w64 (s2.2 - 1)).tdiv 2)))) (rv_assign rfl) ?_
    refine w_end ?_
    refine q_blk ?_
    refine q_then ?_
    obtain rfl := Option.some.inj h
    exact ⟨_, rfl, _, σ18, a4, c5, fr_join ⟨rfl, rfl, trivial⟩, rfl, H.sel' [1, 0] rfl rfl⟩
 ·clear hj
  have h := h'
  clear h' H
  rintro e a w ⟨rfl, ρ, σ19, a20, c21, rfl, rfl, H⟩
  obtain rfl := Option.some.inj h
  exact fin_end (v := (.tuple #[])) (results_ok Try.results147 res_nil rfl) ⟨a20, c21, rfl, rfl⟩ (H.sel' [0, 1] rfl rfl)

theorem c_container_heap_Push__impl_hitHeap__impl_Hit {h_0 : List (Int × Int)} {x_1 : Int × Int} {ah_0 : Option Addr} {ch_0 : Nat} {loh_0 bh_0 oh_0 : Nat} {preh_0 sufh_0 : List Value} {r : (List (Int × Int))} (h : M.container_heap_Push__impl_hitHeap__impl_Hit h_0 x_1 = some r) :
    Cal2 Try.prog 132 [(.iface 133 (pt bh_0 oh_0)), (.iface 91 (.agg #[(I x_1.1), (I x_1.2)]))] [Ch.bx loh_0 bh_0 oh_0 [(Sl ah_0 h_0 ch_0)] preh_0 sufh_0, Ch.own 0 0 (Sl ah_0 h_0 ch_0) h_0] (fun n0 v L => ∃ (az1 : Option Addr), ∃ (cz2 : Nat), v = (.tuple #[]) ∧ L = [Ch.bx loh_0 bh_0 oh_0 [(Sl az1 r cz2)] preh_0 sufh_0, Ch.own 0 0 (Sl az1 r cz2) r]) := by
 refine cal2 (n := 12) Try.func132 rfl rfl rfl rfl ?_
 intro S0 σ0 n0 hn0 H
 unfold M.container_heap_Push__impl_hitHeap__impl_Hit at h
 refine c_seq ?_
 refine rg ?_
 refine st (v := (.iface 133 (pt bh_0 oh_0))) (rv_move rfl) ?_
 refine st (v := (.iface 91 (.agg #[(I x_1.1), (I x_1.2)]))) (rv_move rfl) ?_
 obtain ⟨r1, hx2, h'⟩ := bind_some h
 clear h
 have h := h'; clear h'
 have hc3 := c_impl_hitHeap_Push__impl_Hit (loh_0 := loh_0) (bh_0 := bh_0) (oh_0 := oh_0) (preh_0 := preh_0) (sufh_0 := sufh_0) (ah_0 := ah_0) (ch_0 := ch_0) hx2
 refine st_call (cx_call hc3 (ent_ip hc3.fn (by kernel_rfl) Try.underlying133 rfl rfl) hn0 (show Hp S0 σ0 _ ([Ch.bx loh_0 bh_0 oh_0 [(Sl ah_0 h_0 ch_0)] preh_0 sufh_0, Ch.own 0 0 (Sl ah_0 h_0 ch_0) h_0] ++ []) from (H.sel' [0, 1] rfl rfl))) wn ?_
 rintro _ σ6 ⟨_, ⟨a4, c5, rfl, rfl⟩, H, -⟩
 replace H : Hp S0 σ0 σ6 [Ch.bx loh_0 bh_0 oh_0 [(Sl a4 r1 c5)] preh_0 sufh_0, Ch.own 0 0 (Sl a4 r1 c5) r1] := H
 refine w_end ?_
 refine q_then ?_
 refine rg ?_
 refine st (v := (.iface 133 (pt bh_0 oh_0))) (rv_move rfl) ?_
 refine st (v := (.iface 133 (pt bh_0 oh_0))) (rv_move rfl) ?_
 obtain ⟨r7, hx8, h'⟩ := bind_some h
 clear h
 have h := h'; clear h'
 have hc9 := c_impl_hitHeap_Len (ah_0 := a4) (ch_0 := c5) hx8
 have hle := Nat.le_trans hn0 H.size
 refine st_call (cx_lend (Loan.lend Loan.nil) hc9 (ent_iv hc9.fn (by kernel_rfl) Try.underlying133 Try.underlying120 rfl rfl (H.cell (u := (Sl a4 r1 c5)) (o' := oh_0) 0 0 rfl rfl rfl) rfl) (show Hp S0 σ0 _ ([Ch.own 0 0 (Sl a4 r1 c5) r1] ++ ([] ++ [Ch.bx loh_0 bh_0 oh_0 [(Sl a4 r1 c5)] preh_0 sufh_0])) from (H.sel' [1, 0] rfl rfl)) (by rintro _ _ _ ⟨rfl, rfl⟩; exact trivial)) wn ?_
 rintro _ σ10 ⟨_, ⟨rfl, rfl⟩, H, -, -⟩
 replace H : Hp S0 σ0 σ10 [Ch.own 0 0 (Sl a4 r1 c5) r1, Ch.bx loh_0 bh_0 oh_0 [(Sl a4 r1 c5)] preh_0 sufh_0] := H
 clear hle
 replace H : Hp S0 σ0 σ10 [Ch.own 0 0 (Sl a4 r1 c5) r1, Ch.bx loh_0 bh_0 oh_0 [(Sl a4 r1 c5)] preh_0 sufh_0] := H
 refine st (v := (I (w64 (r7 - 1)))) (rv_sub (a := r7) (b := 1) rfl rfl) ?_
 obtain ⟨r11, hx12, h'⟩ := bind_some h
 clear h
 have h := h'; clear h'
 have hc13 := c_container_heap_up__impl_hitHeap (loh_0 := loh_0) (bh_0 := bh_0) (oh_0 := oh_0) (preh_0 := preh_0) (sufh_0 := sufh_0) (ah_0 := a4) (ch_0 := c5) hx12
 refine st_call (cx_call hc13 (ent_f hc13.fn rfl) hn0 (show Hp S0 σ0 _ ([Ch.bx loh_0 bh_0 oh_0 [(Sl a4 r1 c5)] preh_0 sufh_0, Ch.own 0 0 (Sl a4 r1 c5) r1] ++ []) from (H.sel' [1, 0] rfl rfl))) wn ?_
 rintro _ σ16 ⟨_, ⟨a14, c15, rfl, rfl⟩, H, -⟩
 replace H : Hp S0 σ0 σ16 [Ch.bx loh_0 bh_0 oh_0 [(Sl a14 r11 c15)] preh_0 sufh_0, Ch.own 0 0 (Sl a14 r11 c15) r11] := H
 refine w_end ?_
 obtain rfl := Option.some.inj h
 exact fin_end (v := (.tuple #[])) (results_ok Try.results132 res_nil rfl) ⟨a14, c15, rfl, rfl⟩ (H.sel' [0, 1] rfl rfl)

theorem c_container_heap_down__impl_hitHeap {h_0 : List (Int × Int)} {i0_1 : Int} {n_2 : Int} {ah_0 : Option Addr} {ch_0 : Nat} {loh_0 bh_0 oh_0 : Nat} {preh_0 sufh_0 : List Value} {r : Bool × (List (Int × Int))} (h : M.container_heap_down__impl_hitHeap h_0 i0_1 n_2 = some r) :
    Cal2 Try.prog 148 [(.iface 133 (pt bh_0 oh_0)), (I i0_1), (I n_2)] [Ch.bx loh_0 bh_0 oh_0 [(Sl ah_0 h_0 ch_0)] preh_0 sufh_0, Ch.own 0 0 (Sl ah_0 h_0 ch_0) h_0] (fun n0 v L => ∃ (az1 : Option Addr), ∃ (cz2 : Nat), v = (B r.1) ∧ L = [Ch.bx loh_0 bh_0 oh_0 [(Sl az1 r.2 cz2)] preh_0 sufh_0, Ch.own 0 0 (Sl az1 r.2 cz2) r.2]) := by
 refine cal2 (n := 48) Try.func148 rfl rfl rfl rfl ?_
 intro S0 σ0 n0 hn0 H
 unfold M.container_heap_down__impl_hitHeap at h
 refine c_seq ?_
 refine rg ?_
 refine st (v := (B false)) (rv_assign rfl) ?_
 refine w_end ?_
 refine q_then ?_
 refine c_seq ?_
 refine rg ?_
 refine st (v := (I i0_1)) (rv_move rfl) ?_
 refine st (v := (I i0_1)) (rv_assign rfl) ?_
 refine w_end ?_
 refine q_then ?_
 refine c_seq ?_
 obtain ⟨o1, hj, h'⟩ := bind_some h
 clear h
 refine c_cut (fun e a w => e = .normal ∧ ∃ (ρ : Nat → Value) (σ : St) (aj1 : Option Addr) (cj2 : Nat), a = fr 48 (updL ρ [(0, (.iface 133 (pt bh_0 oh_0))), (1, (I i0_1)), (7, (I o1.2))]) ∧ w = σ.w ∧ Hp S0 σ0 σ [Ch.bx loh_0 bh_0 oh_0 [(Sl aj1 o1.1 cj2)] preh_0 sufh_0, Ch.own 0 0 (Sl aj1 o1.1 cj2) o1.1]) ?_ ?_
 ·clear h'
  rename _ = some o1 => h
  refine c_blk ?_
  refine wp_loopM _ h (fun s2 a w => ∃ (ρ : Nat → Value) (σ : St) (aj1 : Option Addr) (cj2 : Nat), a = fr 48 (updL ρ [(0, (.iface 133 (pt bh_0 oh_0))), (1, (I i0_1)), (2, (I n_2)), (7, (I s2.2))]) ∧ w = σ.w ∧ Hp S0 σ0 σ [Ch.bx loh_0 bh_0 oh_0 [(Sl aj1 s2.1 cj2)] preh_0 sufh_0, Ch.own 0 0 (Sl aj1 s2.1 cj2) s2.1]) ⟨_, σ0, ah_0, ch_0, fr_join ⟨rfl, rfl, rfl, rfl, trivial⟩, rfl, H.sel' [0, 1] rfl rfl⟩ ?_
  clear h H
  rintro s2 a w o ⟨ρ, σ3, a4, c5, rfl, rfl, H⟩ h hres
  refine c_blk ?_
  refine c_seq ?_
  refine rg ?_
  refine st (v := (I s2.2)) (rv_move rfl) ?_
  refine st (v := (I (w64 (2 * s2.2)))) (rv_mul (a := 2) (b := s2.2) rfl rfl) ?_
  refine st (v := (I (w64 ((w64 (2 * s2.2)) + 1)))) (rv_add (a := (w64 (2 * s2.2))) (b := 1) rfl rfl) ?_
  refine st (v := (I (w64 ((w64 (2 * s2.2)) + 1)))) (rv_assign rfl) ?_
  refine w_end ?_
  refine q_then ?_
  refine c_seq ?_
  refine c_seq ?_
  obtain ⟨o6, hj, h'⟩ := bind_some h
  clear h
  refine c_cut (fun e a w => e = .normal ∧ ∃ (ρ : Nat → Value) (σ : St), a = fr 48 (updL ρ [(0, (.iface 133 (pt bh_0 oh_0))), (1, (I i0_1)), (2, (I n_2)), (7, (I s2.2)), (8, (I (w64 ((w64 (2 * s2.2)) + 1)))), (21, (B o6))]) ∧ w = σ.w ∧ Hp S0 σ0 σ [Ch.own 0 0 (Sl a4 s2.1 c5) s2.1, Ch.bx loh_0 bh_0 oh_0 [(Sl a4 s2.1 c5)] preh_0 sufh_0]) ?_ ?_
  ·clear h'
   rename _ = some o6 => h
   refine rg ?_
   refine st (v := (I (w64 ((w64 (2 * s2.2)) + 1)))) (rv_move rfl) ?_
   refine st (v := (I n_2)) (rv_move rfl) ?_
   refine st (v := (B (decide (n_2 ≤ (w64 ((w64 (2 * s2.2)) + 1)))))) (rv_geq (a := (w64 ((w64 (2 * s2.2)) + 1))) (b := n_2) rfl rfl) ?_
   refine st (v := (B (decide (n_2 ≤ (w64 ((w64 (2 * s2.2)) + 1)))))) (rv_move rfl) ?_
   rcases Bool.eq_false_or_eq_true (decide (n_2 ≤ (w64 ((w64 (2 * s2.2)) + 1)))) with hb7 | hb7
   ·replace h := bif_t hb7 h
    refine st_skip (congrArg some hb7) ?_
    refine st_skip (congrArg some hb7) ?_
    refine st (v := (B true)) (rv_pick_t (congrArg B hb7) rfl) ?_
    refine w_end ?_
    obtain rfl := Option.some.inj h
    exact ⟨rfl, _, σ3, fr_join ⟨rfl, rfl, rfl, rfl, rfl, rfl, trivial⟩, rfl, H.sel' [1, 0] rfl rfl⟩
   ·replace h := bif_f hb7 h
    refine st_g (v := (I (w64 ((w64 (2 * s2.2)) + 1)))) (congrArg some hb7) (rv_move rfl) ?_
    refine st_g (v := (B (decide ((w64 ((w64 (2 * s2.2)) + 1)) < 0)))) (congrArg some hb7) (rv_lss (a := (w64 ((w64 (2 * s2.2)) + 1))) (b := 0) rfl rfl) ?_
    refine st (v := (B (decide ((w64 ((w64 (2 * s2.2)) + 1)) < 0)))) (rv_pick_f (congrArg B hb7) rfl) ?_
    refine w_end ?_
    obtain rfl := Option.some.inj h
    exact ⟨rfl, _, σ3, fr_join ⟨rfl, rfl, rfl, rfl, rfl, rfl, trivial⟩, rfl, H.sel' [1, 0] rfl rfl⟩
  ·clear hj
   have h := h'
   clear h' H
   rintro e a w ⟨rfl, ρ, σ8, rfl, rfl, H⟩
   refine q_then ?_
   refine cd_cond o6 rfl (fun hb9 => ?_) (fun hb9 => ?_)
   ·replace h := bif_t hb9 h
    refine c_exit ?_
    refine q_then_x ?_
    refine q_blk_x (by decide) ?_
    refine q_then_x ?_
    refine q_blk_hit ?_
    obtain rfl := Option.some.inj h
    obtain rfl := hres _ rfl
    exact ⟨rfl, _, σ8, a4, c5, fr_join ⟨rfl, rfl, rfl, trivial⟩, rfl, H.sel' [1, 0] rfl rfl⟩
   ·replace h := bif_f hb9 h
    refine c_skip ?_
    refine q_then ?_
    refine c_seq ?_
    refine rg ?_
    refine st (v := (I (w64 ((w64 (2 * s2.2)) + 1)))) (rv_move rfl) ?_
    refine st (v := (I (w64 ((w64 (2 * s2.2)) + 1)))) (rv_assign rfl) ?_
    refine w_end ?_
    refine q_then ?_
    refine c_seq ?_
    refine c_seq ?_
    refine rg ?_
    refine st (v := (I (w64 ((w64 (2 * s2.2)) + 1)))) (rv_move rfl) ?_
    refine st (v := (I (w64 ((w64 ((w64 (2 * s2.2)) + 1)) + 1)))) (rv_add (a := (w64 ((w64 (2 * s2.2)) + 1))) (b := 1) rfl rfl) ?_
    refine st (v := (I (w64 ((w64 ((w64 (2 * s2.2)) + 1)) + 1)))) (rv_assign rfl) ?_
    refine w_end ?_
    refine q_then ?_
    refine c_seq ?_
    obtain ⟨o10, hj, h'⟩ := bind_some h
    clear h
    refine c_cut (fun e a w => e = .normal ∧ ∃ (ρ : Nat → Value) (σ : St), a = fr 48 (updL ρ [(0, (.iface 133 (pt bh_0 oh_0))), (1, (I i0_1)), (2, (I n_2)), (7, (I s2.2)), (9, (I (w64 ((w64 (2 * s2.2)) + 1)))), (10, (I (w64 ((w64 ((w64 (2 * s2.2)) + 1)) + 1)))), (33, (B o10))]) ∧ w = σ.w ∧ Hp S0 σ0 σ [Ch.own 0 0 (Sl a4 s2.1 c5) s2.1, Ch.bx loh_0 bh_0 oh_0 [(Sl a4 s2.1 c5)] preh_0 sufh_0]) ?_ ?_
    ·clear h'
     rename _ = some o10 => h
     refine rg ?_
     refine st (v := (I (w64 ((w64 ((w64 (2 * s2.2)) + 1)) + 1)))) (rv_move rfl) ?_
     refine st (v := (I n_2)) (rv_move rfl) ?_
     refine st (v := (B (decide ((w64 ((w64 ((w64 (2 * s2.2)) + 1)) + 1)) < n_2)))) (rv_lss (a := (w64 ((w64 ((w64 (2 * s2.2)) + 1)) + 1))) (b := n_2) rfl rfl) ?_
     refine st (v := (B (decide ((w64 ((w64 ((w64 (2 * s2.2)) + 1)) + 1)) < n_2)))) (rv_move rfl) ?_
     rcases Bool.eq_false_or_eq_true (decide ((w64 ((w64 ((w64 (2 * s2.2)) + 1)) + 1)) < n_2)) with hb11 | hb11
     ·replace h := bif_t hb11 h
      refine st_g (v := (.iface 133 (pt bh_0 oh_0))) (congrArg some hb11) (rv_move rfl) ?_
      refine st_g (v := (I (w64 ((w64 ((w64 (2 * s2.2)) + 1)) + 1)))) (congrArg some hb11) (rv_move rfl) ?_
      refine st_g (v := (I (w64 ((w64 (2 * s2.2)) + 1)))) (congrArg some hb11) (rv_move rfl) ?_
      obtain ⟨r12, hx13, h'⟩ := bind_some h
      clear h
      have h := h'; clear h'
      have hc14 := c_impl_hitHeap_Less (ah_0 := a4) (ch_0 := c5) hx13
      have hle := Nat.le_trans hn0 H.size
      refine st_call (cx_lend (Loan.lend Loan.nil) hc14 (ent_iv hc14.fn (by kernel_rfl) Try.underlying133 Try.underlying120 rfl rfl (H.cell (u := (Sl a4 s2.1 c5)) (o' := oh_0) 1 0 rfl rfl rfl) rfl) (show Hp S0 σ0 _ ([Ch.own 0 0 (Sl a4 s2.1 c5) s2.1] ++ ([] ++ [Ch.bx loh_0 bh_0 oh_0 [(Sl a4 s2.1 c5)] preh_0 sufh_0])) from (H.sel' [0, 1] rfl rfl)) (by rintro _ _ _ ⟨rfl, rfl⟩; exact trivial)) (wanted_yes rfl (by exact (congrArg some hb11))) ?_
      rintro _ σ15 ⟨_, ⟨rfl, rfl⟩, H, -, -⟩
      replace H : Hp S0 σ0 σ15 [Ch.own 0 0 (Sl a4 s2.1 c5) s2.1, Ch.bx loh_0 bh_0 oh_0 [(Sl a4 s2.1 c5)] preh_0 sufh_0] := H
      clear hle
      replace H : Hp S0 σ0 σ15 [Ch.own 0 0 (Sl a4 s2.1 c5) s2.1, Ch.bx loh_0 bh_0 oh_0 [(Sl a4 s2.1 c5)] preh_0 sufh_0] := H
      refine st (v := (B r12)) (rv_pick_t (congrArg B hb11) rfl) ?_
      refine w_end ?_
      obtain rfl := Option.some.inj h
      exact ⟨rfl, _, σ15, fr_join ⟨rfl, rfl, rfl, rfl, rfl, rfl, rfl, trivial⟩, rfl, H.sel' [0, 1] rfl rfl⟩
     ·replace h := bif_f hb11 h
      refine st_skip (congrArg some hb11) ?_
      refine st_skip (congrArg some hb11) ?_
      refine st_skip (congrArg some hb11) ?_
      refine st_skip (congrArg some hb11) ?_
      refine st (v := (B false)) (rv_pick_f (congrArg B hb11) rfl) ?_
      refine w_end ?_
      obtain rfl := Option.some.inj h
      exact ⟨rfl, _, σ8, fr_join ⟨rfl, rfl, rfl, rfl, rfl, rfl, rfl, trivial⟩, rfl, H.sel' [0, 1] rfl rfl⟩
    ·clear hj
     have h := h'
     clear h' H
     rintro e a w ⟨rfl, ρ, σ16, rfl, rfl, H⟩
     refine q_then ?_
     obtain ⟨o17, hj, h'⟩ := bind_some h
     clear h
     refine c_cut (fun e a w => e = .normal ∧ ∃ (ρ : Nat → Value) (σ : St), a = fr 48 (updL ρ [(0, (.iface 133 (pt bh_0 oh_0))), (1, (I i0_1)), (2, (I n_2)), (7, (I s2.2)), (9, (I o17))]) ∧ w = σ.w ∧ Hp S0 σ0 σ [Ch.own 0 0 (Sl a4 s2.1 c5) s2.1, Ch.bx loh_0 bh_0 oh_0 [(Sl a4 s2.1 c5)] preh_0 sufh_0]) ?_ ?_
     ·clear h'
      rename _ = some o17 => h
      refine cd_cond o10 rfl (fun hb18 => ?_) (fun hb18 => ?_)
      ·replace h := bif_t hb18 h
       refine rg ?_
       refine st (v := (I (w64 ((w64 ((w64 (2 * s2.2)) + 1)) + 1)))) (rv_move rfl) ?_
       refine st (v := (I (w64 ((w64 ((w64 (2 * s2.2)) + 1)) + 1)))) (rv_assign rfl) ?_
       refine w_end ?_
       obtain rfl := Option.some.inj h
       exact ⟨rfl, _, σ16, fr_join ⟨rfl, rfl, rfl, rfl, rfl, trivial⟩, rfl, H.sel' [0, 1] rfl rfl⟩
      ·replace h := bif_f hb18 h
       refine c_skip ?_
       obtain rfl := Option.some.inj h
       exact ⟨rfl, _, σ16, fr_join ⟨rfl, rfl, rfl, rfl, rfl, trivial⟩, rfl, H.sel' [0, 1] rfl rfl⟩
     ·clear hj
      have h := h'
      clear h' H
      rintro e a w ⟨rfl, ρ, σ19, rfl, rfl, H⟩
      refine q_then ?_
      refine c_seq ?_
      refine c_seq ?_
      refine rg ?_
      refine st (v := (.iface 133 (pt bh_0 oh_0))) (rv_move rfl) ?_
      refine st (v := (I o17)) (rv_move rfl) ?_
      refine st (v := (I s2.2)) (rv_move rfl) ?_
      obtain ⟨r20, hx21, h'⟩ := bind_some h
      clear h
      have h := h'; clear h'
      have hc22 := c_impl_hitHeap_Less (ah_0 := a4) (ch_0 := c5) hx21
      have hle := Nat.le_trans hn0 H.size
      refine st_call (cx_lend (Loan.lend Loan.nil) hc22 (ent_iv hc22.fn (by kernel_rfl) Try.underlying133 Try.underlying120 rfl rfl (H.cell (u := (Sl a4 s2.1 c5)) (o' := oh_0) 1 0 rfl rfl rfl) rfl) (show Hp S0 σ0 _ ([Ch.own 0 0 (Sl a4 s2.1 c5) s2.1] ++ ([] ++ [Ch.bx loh_0 bh_0 oh_0 [(Sl a4 s2.1 c5)] preh_0 sufh_0])) from (H.sel' [0, 1] rfl rfl)) (by rintro _ _ _ ⟨rfl, rfl⟩; exact trivial)) wn ?_
      rintro _ σ23 ⟨_, ⟨rfl, rfl⟩, H, -, -⟩
      replace H : Hp S0 σ0 σ23 [Ch.own 0 0 (Sl a4 s2.1 c5) s2.1, Ch.bx loh_0 bh_0 oh_0 [(Sl a4 s2.1 c5)] preh_0 sufh_0] := H
      clear hle
      replace H : Hp S0 σ0 σ23 [Ch.own 0 0 (Sl a4 s2.1 c5) s2.1, Ch.bx loh_0 bh_0 oh_0 [(Sl a4 s2.1 c5)] preh_0 sufh_0] := H
      refine st (v := (B (!r20))) (rv_not rfl) ?_
      refine w_end ?_
      refine q_then ?_
      refine cd_cond (!r20) rfl (fun hb24 => ?_) (fun hb24 => ?_)
      ·replace h := bif_t hb24 h
       refine c_exit ?_
       refine q_then_x ?_
       refine q_blk_x (by decide) ?_
       refine q_then_x ?_
       refine q_blk_hit ?_
       obtain rfl := Option.some.inj h
       obtain rfl := hres _ rfl
       exact ⟨rfl, _, σ23, a4, c5, fr_join ⟨rfl, rfl, rfl, trivial⟩, rfl, H.sel' [1, 0] rfl rfl⟩
      ·replace h := bif_f hb24 h
       refine c_skip ?_
       refine q_then ?_
       refine c_seq ?_
       refine rg ?_
       refine st (v := (.iface 133 (pt bh_0 oh_0))) (rv_move rfl) ?_
       refine st (v := (I s2.2)) (rv_move rfl) ?_
       refine st (v := (I o17)) (rv_move rfl) ?_
       obtain ⟨r25, hx26, h'⟩ := bind_some h
       clear h
       have h := h'; clear h'
       have hc27 := c_impl_hitHeap_Swap (ah_0 := a4) (ch_0 := c5) hx26
       refine st_call (cx_call hc27 (ent_iv hc27.fn (by kernel_rfl) Try.underlying133 Try.underlying120 rfl rfl (H.cell (u := (Sl a4 s2.1 c5)) (o' := oh_0) 1 0 rfl rfl rfl) rfl) hn0 (show Hp S0 σ0 _ ([Ch.own 0 0 (Sl a4 s2.1 c5) s2.1] ++ [Ch.bx loh_0 bh_0 oh_0 [(Sl a4 s2.1 c5)] preh_0 sufh_0]) from (H.sel' [0, 1] rfl rfl))) wn ?_
       rintro _ σ29 ⟨_, ⟨rfl, rfl, hn28⟩, H, -⟩
       replace H : Hp S0 σ0 σ29 [Ch.own 0 0 (Sl a4 r25 c5) r25, Ch.bx loh_0 bh_0 oh_0 [(Sl a4 s2.1 c5)] preh_0 sufh_0] := H
       have hsl : (Sl a4 s2.1 c5) = (Sl a4 r25 c5) := sl_len hn28.symm
       try rw [hsl]
       try rw [hsl] at H
       clear hsl
       refine w_end ?_
       refine q_then ?_
       refine rg ?_
       refine st (v := (I o17)) (rv_move rfl) ?_
       refine st (v := (I o17)) (rv_assign rfl) ?_
       refine w_end ?_
       refine q_blk ?_
       refine q_then ?_
       obtain rfl := Option.some.inj h
       exact ⟨_, rfl, _, σ29, a4, c5, fr_join ⟨rfl, rfl, rfl, rfl, trivial⟩, rfl, H.sel' [1, 0] rfl rfl⟩
 ·clear hj
  have h := h'
  clear h' H
  rintro e a w ⟨rfl, ρ, σ30, a31, c32, rfl, rfl, H⟩
  refine q_then ?_
  refine c_seq ?_
  refine rg ?_
  refine st (v := (I o1.2)) (rv_move rfl) ?_
  refine st (v := (I i0_1)) (rv_move rfl) ?_
  refine st (v := (B (decide (i0_1 < o1.2)))) (rv_gtr (a := o1.2) (b := i0_1) rfl rfl) ?_
  refine st (v := (B (decide (i0_1 < o1.2)))) (rv_assign rfl) ?_
  refine w_end ?_
  refine q_then ?_
  refine c_ret ?_
  obtain rfl := Option.some.inj h
  exact fin_ret (v := (B (decide (i0_1 < o1.2)))) (results_ok Try.results148 (res_tmp (v := (B (decide (i0_1 < o1.2)))) rfl res_nil) rfl) ⟨a31, c32, rfl, rfl⟩ (H.sel' [0, 1] rfl rfl)

theorem c_impl_hitHeap_Pop {h_0 : List (Int × Int)} {ah_0 : Option Addr} {ch_0 : Nat} {loh_0 bh_0 oh_0 : Nat} {preh_0 sufh_0 : List Value} {r : ((Int) × (Int)) × (List (Int × Int))} (h : M.impl_hitHeap_Pop h_0 = some r) :
    Cal2 Try.prog 192 [(pt bh_0 oh_0)] [Ch.bx loh_0 bh_0 oh_0 [(Sl ah_0 h_0 ch_0)] preh_0 sufh_0, Ch.own 0 0 (Sl ah_0 h_0 ch_0) h_0] (fun n0 v L => ∃ (az1 : Option Addr), ∃ (cz2 : Nat), v = (.iface 91 (.agg #[(I r.1.1), (I r.1.2)])) ∧ L = [Ch.bx loh_0 bh_0 oh_0 [(Sl az1 r.2 cz2)] preh_0 sufh_0, Ch.own 0 0 (Sl az1 r.2 cz2) r.2]) := by
 refine cal2 (n := 25) Try.func192 rfl rfl rfl rfl ?_
 intro S0 σ0 n0 hn0 H
 unfold M.impl_hitHeap_Pop at h
 refine c_seq ?_
 refine rg ?_
 refine st (v := .nilIface) (rv_assign rfl) ?_
 refine w_end ?_
 refine q_then ?_
 refine c_seq ?_
 refine rg ?_
 refine st (v := (pt bh_0 oh_0)) (rv_move rfl) ?_
 refine st (v := (pt bh_0 oh_0)) (rv_nilCheck rfl) ?_
 have hc1 := H.cell (u := (Sl ah_0 h_0 ch_0)) (o' := oh_0) 0 0 rfl rfl rfl
 refine st (v := (Sl ah_0 h_0 ch_0)) (rv_load1 Try.underlying120 rfl rfl hc1) ?_
 refine st (v := (I (h_0.length : Int))) (rv_len Try.underlying120 rfl) ?_
 refine st (v := (I (w64 ((h_0.length : Int) - 1)))) (rv_sub (a := (h_0.length : Int)) (b := 1) rfl rfl) ?_
 refine st (v := (I (w64 ((h_0.length : Int) - 1)))) (rv_assign rfl) ?_
 refine w_end ?_
 refine q_then ?_
 refine c_seq ?_
 refine rg ?_
 refine st (v := (pt bh_0 oh_0)) (rv_move rfl) ?_
 refine st (v := (pt bh_0 oh_0)) (rv_nilCheck rfl) ?_
 have hc2 := H.cell (u := (Sl ah_0 h_0 ch_0)) (o' := oh_0) 0 0 rfl rfl rfl
 refine st (v := (Sl ah_0 h_0 ch_0)) (rv_load1 Try.underlying120 rfl rfl hc2) ?_
 refine st (v := (I (w64 ((h_0.length : Int) - 1)))) (rv_move rfl) ?_
 obtain ⟨x3, hx4, h'⟩ := bind_some h
 clear h
 have h := h'; clear h'
 obtain ⟨b6, o7, hi5, -⟩ := (H.own 1 rfl).ix hx4
 refine st (v := (pt b6 o7)) (rv_ix Try.underlying120 ti91 rfl rfl hi5) ?_
 obtain ⟨_, ⟨_, _, rfl, rfl, rfl⟩, hl8, hc9⟩ := ((H.own 1 rfl).at hx4 hi5).cells
 refine st (v := (.agg #[(I x3.1), (I x3.2)])) (rv_load Try.underlying91 rfl ti91 rfl hl8 hc9) ?_
 refine st_ex (ex_alloc (cs := [(I 0), (I 0)]) H hn0 ti91 rfl) wn ?_
 rintro _ σ11 ⟨b10, rfl, H, -⟩
 refine st_exS (ex_store_box (k := 0) (cs := [(I 0), (I 0)]) (vs := [(I x3.1), (I x3.2)]) (cs' := [(I x3.1), (I x3.2)]) H (i := 0) rfl ti91 rfl rfl rfl rfl rfl (Nat.le_of_ble_eq_true rfl) (by simp [plain]) rfl) wn ?_
 rintro σ12 ⟨H, -⟩
 refine w_end ?_
 refine q_then ?_
 refine c_seq ?_
 refine rg ?_
 refine st (v := (pt bh_0 oh_0)) (rv_move rfl) ?_
 refine st (v := (pt bh_0 oh_0)) (rv_move rfl) ?_
 refine st (v := (pt bh_0 oh_0)) (rv_nilCheck rfl) ?_
 have hc13 := H.cell (u := (Sl ah_0 h_0 ch_0)) (o' := oh_0) 1 0 rfl rfl rfl
 refine st (v := (Sl ah_0 h_0 ch_0)) (rv_load1 Try.underlying120 rfl rfl hc13) ?_
 refine st (v := (I (w64 ((h_0.length : Int) - 1)))) (rv_move rfl) ?_
 obtain ⟨xs14, hx15, h'⟩ := bind_some h
 clear h
 have h := h'; clear h'
 obtain ⟨a16, c17, hs18, -⟩ := (H.own 2 rfl).slice hx15
 refine st (v := (Sl a16 xs14 c17)) (rv_slice_h Try.underlying120 ti91 hs18 rfl rfl) ?_
 refine st (v := (pt bh_0 oh_0)) (rv_nilCheck rfl) ?_
 have hv20 := (H.own 2 rfl).view hx15 hs18
 replace H := (H.front (i := 2) rfl).turn (d := Ch.own 0 0 (Sl a16 xs14 c17) xs14) (fun _ => hv20.1) hv20.2; clear hv20
 refine st_exS (ex_store_box (k := 0) (cs := [(Sl ah_0 h_0 ch_0)]) (vs := [(Sl a16 xs14 c17)]) (cs' := [(Sl a16 xs14 c17)]) H (i := 2) rfl ti120 rfl rfl rfl rfl rfl (Nat.le_of_ble_eq_true rfl) (by simp [plain]) rfl) wn ?_
 rintro σ21 ⟨H, -⟩
 refine w_end ?_
 refine q_then ?_
 refine c_seq ?_
 refine rg ?_
 have hc22 := H.cells 2 rfl
 refine st (v := (.agg #[(I x3.1), (I x3.2)])) (rv_load (cs := [(I x3.1), (I x3.2)]) Try.underlying91 rfl ti91 rfl rfl hc22) ?_
 refine st (v := (.iface 91 (.agg #[(I x3.1), (I x3.2)]))) (rv_makeInterface Try.underlying91 rfl rfl) ?_
 refine st (v := (.iface 91 (.agg #[(I x3.1), (I x3.2)]))) (rv_assign rfl) ?_
 refine w_end ?_
 refine q_then ?_
 refine c_ret ?_
 obtain rfl := Option.some.inj h
 exact fin_ret (v := (.iface 91 (.agg #[(I x3.1), (I x3.2)]))) (results_ok Try.results192 (res_tmp (v := (.iface 91 (.agg #[(I x3.1), (I x3.2)]))) rfl res_nil) rfl) ⟨a16, c17, rfl, rfl⟩ (H.sel' [0, 1] rfl rfl)

theorem c_container_heap_Pop__impl_hitHeap {h_0 : List (Int × Int)} {ah_0 : Option Addr} {ch_0 : Nat} {loh_0 bh_0 oh_0 : Nat} {preh_0 sufh_0 : List Value} {r : ((Int) × (Int)) × (List (Int × Int))} (h : M.container_heap_Pop__impl_hitHeap h_0 = some r) :
    Cal2 Try.prog 133 [(.iface 133 (pt bh_0 oh_0))] [Ch.bx loh_0 bh_0 oh_0 [(Sl ah_0 h_0 ch_0)] preh_0 sufh_0, Ch.own 0 0 (Sl ah_0 h_0 ch_0) h_0] (fun n0 v L => ∃ (az1 : Option Addr), ∃ (cz2 : Nat), v = (.iface 91 (.agg #[(I r.1.1), (I r.1.2)])) ∧ L = [Ch.bx loh_0 bh_0 oh_0 [(Sl az1 r.2 cz2)] preh_0 sufh_0, Ch.own 0 0 (Sl az1 r.2 cz2) r.2]) := by
 refine cal2 (n := 15) Try.func133 rfl rfl rfl rfl ?_
 intro S0 σ0 n0 hn0 H
 unfold M.container_heap_Pop__impl_hitHeap at h
 refine c_seq ?_
 refine rg ?_
 refine st (v := .nilIface) (rv_assign rfl) ?_
 refine w_end ?_
 refine q_then ?_
 refine c_seq ?_
 refine rg ?_
 refine st (v := (.iface 133 (pt bh_0 oh_0))) (rv_move rfl) ?_
 obtain ⟨r1, hx2, h'⟩ := bind_some h
 clear h
 have h := h'; clear h'
 have hc3 := c_impl_hitHeap_Len (ah_0 := ah_0) (ch_0 := ch_0) hx2
 have hle := Nat.le_trans hn0 H.size
 refine st_call (cx_lend (Loan.lend Loan.nil) hc3 (ent_iv hc3.fn (by kernel_rfl) Try.underlying133 Try.underlying120 rfl rfl (H.cell (u := (Sl ah_0 h_0 ch_0)) (o' := oh_0) 0 0 rfl rfl rfl) rfl) (show Hp S0 σ0 _ ([Ch.own 0 0 (Sl ah_0 h_0 ch_0) h_0] ++ ([] ++ [Ch.bx loh_0 bh_0 oh_0 [(Sl ah_0 h_0 ch_0)] preh_0 sufh_0])) from (H.sel' [1, 0] rfl rfl)) (by rintro _ _ _ ⟨rfl, rfl⟩; exact trivial)) wn ?_
 rintro _ σ4 ⟨_, ⟨rfl, rfl⟩, H, -, -⟩
 replace H : Hp S0 σ0 σ4 [Ch.own 0 0 (Sl ah_0 h_0 ch_0) h_0, Ch.bx loh_0 bh_0 oh_0 [(Sl ah_0 h_0 ch_0)] preh_0 sufh_0] := H
 clear hle
 replace H : Hp S0 σ0 σ4 [Ch.own 0 0 (Sl ah_0 h_0 ch_0) h_0, Ch.bx loh_0 bh_0 oh_0 [(Sl ah_0 h_0 ch_0)] preh_0 sufh_0] := H
 refine st (v := (I (w64 (r1 - 1)))) (rv_sub (a := r1) (b := 1) rfl rfl) ?_
 refine st (v := (I (w64 (r1 - 1)))) (rv_assign rfl) ?_
 refine w_end ?_
 refine q_then ?_
 refine c_seq ?_
 refine rg ?_
 refine st (v := (.iface 133 (pt bh_0 oh_0))) (rv_move rfl) ?_
 refine st (v := (I (w64 (r1 - 1)))) (rv_move rfl) ?_
 obtain ⟨r5, hx6, h'⟩ := bind_some h
 clear h
 have h := h'; clear h'
 have hc7 := c_impl_hitHeap_Swap (ah_0 := ah_0) (ch_0 := ch_0) hx6
 refine st_call (cx_call hc7 (ent_iv hc7.fn (by kernel_rfl) Try.underlying133 Try.underlying120 rfl rfl (H.cell (u := (Sl ah_0 h_0 ch_0)) (o' := oh_0) 1 0 rfl rfl rfl) rfl) hn0 (show Hp S0 σ0 _ ([Ch.own 0 0 (Sl ah_0 h_0 ch_0) h_0] ++ [Ch.bx loh_0 bh_0 oh_0 [(Sl ah_0 h_0 ch_0)] preh_0 sufh_0]) from (H.sel' [0, 1] rfl rfl))) wn ?_
 rintro _ σ9 ⟨_, ⟨rfl, rfl, hn8⟩, H, -⟩
 replace H : Hp S0 σ0 σ9 [Ch.own 0 0 (Sl ah_0 r5 ch_0) r5, Ch.bx loh_0 bh_0 oh_0 [(Sl ah_0 h_0 ch_0)] preh_0 sufh_0] := H
 have hsl : (Sl ah_0 h_0 ch_0) = (Sl ah_0 r5 ch_0) := sl_len hn8.symm
 try rw [hsl]
 try rw [hsl] at H
 clear hsl
 refine w_end ?_
 refine q_then ?_
 refine c_seq ?_
 refine rg ?_
 refine st (v := (.iface 133 (pt bh_0 oh_0))) (rv_move rfl) ?_
 refine st (v := (I (w64 (r1 - 1)))) (rv_move rfl) ?_
 obtain ⟨r10, hx11, h'⟩ := bind_some h
 clear h
 have h := h'; clear h'
 have hc12 := c_container_heap_down__impl_hitHeap (loh_0 := loh_0) (bh_0 := bh_0) (oh_0 := oh_0) (preh_0 := preh_0) (sufh_0 := sufh_0) (ah_0 := ah_0) (ch_0 := ch_0) hx11
 refine st_call (cx_call hc12 (ent_f hc12.fn rfl) hn0 (show Hp S0 σ0 _ ([Ch.bx loh_0 bh_0 oh_0 [(Sl ah_0 r5 ch_0)] preh_0 sufh_0, Ch.own 0 0 (Sl ah_0 r5 ch_0) r5] ++ []) from (H.sel' [1, 0] rfl rfl))) wn ?_
 rintro _ σ15 ⟨_, ⟨a13, c14, rfl, rfl⟩, H, -⟩
 replace H : Hp S0 σ0 σ15 [Ch.bx loh_0 bh_0 oh_0 [(Sl a13 r10.2 c14)] preh_0 sufh_0, Ch.own 0 0 (Sl a13 r10.2 c14) r10.2] := H
 refine w_end ?_
 refine q_then ?_
 refine c_seq ?_
 refine rg ?_
 refine st (v := (.iface 133 (pt bh_0 oh_0))) (rv_move rfl) ?_
 obtain ⟨r16, hx17, h'⟩ := bind_some h
 clear h
 have h := h'; clear h'
 have hc18 := c_impl_hitHeap_Pop (loh_0 := loh_0) (bh_0 := bh_0) (oh_0 := oh_0) (preh_0 := preh_0) (sufh_0 := sufh_0) (ah_0 := a13) (ch_0 := c14) hx17
 refine st_call (cx_call hc18 (ent_ip hc18.fn (by kernel_rfl) Try.underlying133 rfl rfl) hn0 (show Hp S0 σ0 _ ([Ch.bx loh_0 bh_0 oh_0 [(Sl a13 r10.2 c14)] preh_0 sufh_0, Ch.own 0 0 (Sl a13 r10.2 c14) r10.2] ++ []) from (H.sel' [0, 1] rfl rfl))) wn ?_
 rintro _ σ21 ⟨_, ⟨a19, c20, rfl, rfl⟩, H, -⟩
 replace H : Hp S0 σ0 σ21 [Ch.bx loh_0 bh_0 oh_0 [(Sl a19 r16.2 c20)] preh_0 sufh_0, Ch.own 0 0 (Sl a19 r16.2 c20) r16.2] := H
 refine st (v := (.iface 91 (.agg #[(I r16.1.1), (I r16.1.2)]))) (rv_assign rfl) ?_
 refine w_end ?_
 refine q_then ?_
 refine c_ret ?_
 obtain rfl := Option.some.inj h
 exact fin_ret (v := (.iface 91 (.agg #[(I r16.1.1), (I r16.1.2)]))) (results_ok Try.results133 (res_tmp (v := (.iface 91 (.agg #[(I r16.1.1), (I r16.1.2)]))) rfl res_nil) rfl) ⟨a19, c20, rfl, rfl⟩ (H.sel' [0, 1] rfl rfl)

theorem c_impl_nearestHits_offer {n_0 : Int × (List (Int × Int))} {h_1 : Int × Int} {an_0_1 : Option Addr} {cn_0_1 : Nat} {lon_0 bn_0 on_0 : Nat} {pren_0 sufn_0 : List Value} {r : (Int × (List (Int × Int)))} (h : M.impl_nearestHits_offer n_0 h_1 = some r) :
    Cal2 Try.prog 124 [(pt bn_0 on_0), (.agg #[(I h_1.1), (I h_1.2)])] [Ch.bx lon_0 bn_0 on_0 [(I n_0.1), (Sl an_0_1 n_0.2 cn_0_1)] pren_0 sufn_0, Ch.own 0 0 (Sl an_0_1 n_0.2 cn_0_1) n_0.2] (fun n0 v L => ∃ (az1 : Option Addr), ∃ (cz2 : Nat), v = (.tuple #[]) ∧ L = [Ch.bx lon_0 bn_0 on_0 [(I r.1), (Sl az1 r.2 cz2)] pren_0 sufn_0, Ch.own 0 0 (Sl az1 r.2 cz2) r.2]) := by
 refine cal2 (n := 26) Try.func124 rfl rfl rfl rfl ?_
 intro S0 σ0 n0 hn0 H
 unfold M.impl_nearestHits_offer at h
 refine c_seq ?_
 refine rg ?_
 refine st_ex (ex_box (cs := [(I h_1.1), (I h_1.2)]) H hn0 rfl rfl) wn ?_
 rintro _ σ2 ⟨b1, rfl, H, -⟩
 refine w_end ?_
 refine q_then ?_
 refine c_seq ?_
 refine rgP (σ := σ2) 6 (by kernel_rfl) (by kernel_rfl) (by kernel_rfl) ?_
 refine sq (v := (pt bn_0 on_0)) (rv_move rfl) ?_
 refine sq (v := (pt bn_0 on_0)) (rv_nilCheck rfl) ?_
 refine sq (v := (pt bn_0 (on_0 + 1))) (rv_fieldAddr (off := 1) (ft := 120) Try.underlying122 rfl ti120 rfl rfl) ?_
 refine sq (v := (.iface 133 (pt bn_0 (on_0 + 1)))) (rv_makeInterface Try.underlying133 rfl rfl) ?_
 have hc3 := H.cells 0 rfl
 refine sq (v := (.agg #[(I h_1.1), (I h_1.2)])) (rv_load (cs := [(I h_1.1), (I h_1.2)]) Try.underlying91 rfl ti91 rfl rfl hc3) ?_
 refine sq (v := (.iface 91 (.agg #[(I h_1.1), (I h_1.2)]))) (rv_makeInterface Try.underlying91 rfl rfl) ?_
 refine sq_end ?_
 intro σ4 hm5
 replace H := H.grow (hm5.mono fun _ h => h); clear hm5
 replace H := Hp.focus (c1 := [(I n_0.1)]) (c2 := [(Sl an_0_1 n_0.2 cn_0_1)]) (c3 := []) (o' := (on_0 + 1)) H 1 rfl rfl
 obtain ⟨r6, hx7, h'⟩ := bind_some h
 clear h
 have h := h'; clear h'
 have hc8 := c_container_heap_Push__impl_hitHeap__impl_Hit (loh_0 := lon_0) (bh_0 := bn_0) (oh_0 := (on_0 + 1)) (preh_0 := (pren_0 ++ [(I n_0.1)])) (sufh_0 := ([] ++ sufn_0)) (ah_0 := an_0_1) (ch_0 := cn_0_1) hx7
 refine st_call (cx_call hc8 (ent_f hc8.fn rfl) hn0 (show Hp S0 σ0 _ ([Ch.bx lon_0 bn_0 (on_0 + 1) [(Sl an_0_1 n_0.2 cn_0_1)] (pren_0 ++ [(I n_0.1)]) ([] ++ sufn_0), Ch.own 0 0 (Sl an_0_1 n_0.2 cn_0_1) n_0.2] ++ [Ch.bx n0 b1 0 [(I h_1.1), (I h_1.2)] [] []]) from (H.sel' [0, 2, 1] rfl rfl))) wn ?_
 rintro _ σ11 ⟨_, ⟨a9, c10, rfl, rfl⟩, H, -⟩
 replace H : Hp S0 σ0 σ11 [Ch.bx lon_0 bn_0 (on_0 + 1) [(Sl a9 r6 c10)] (pren_0 ++ [(I n_0.1)]) ([] ++ sufn_0), Ch.own 0 0 (Sl a9 r6 c10) r6, Ch.bx n0 b1 0 [(I h_1.1), (I h_1.2)] [] []] := H
 replace H : Hp S0 σ0 σ11 [Ch.bx lon_0 bn_0 on_0 [(I n_0.1), (Sl a9 r6 c10)] pren_0 sufn_0, Ch.own 0 0 (Sl a9 r6 c10) r6, Ch.bx n0 b1 0 [(I h_1.1), (I h_1.2)] [] []] := Hp.unfocus (o := on_0) (c1 := [(I n_0.1)]) (c2 := [(Sl a9 r6 c10)]) (c3 := []) (pre := pren_0) (suf := sufn_0) H 0 rfl rfl
 refine w_end ?_
 refine q_then ?_
 refine c_seq ?_
 refine rgP (σ := σ11) 9 (by kernel_rfl) (by kernel_rfl) (by kernel_rfl) ?_
 refine sq (v := (pt bn_0 on_0)) (rv_move rfl) ?_
 refine sq (v := (pt bn_0 on_0)) (rv_nilCheck rfl) ?_
 refine sq (v := (pt bn_0 (on_0 + 1))) (rv_fieldAddr (off := 1) (ft := 120) Try.underlying122 rfl ti120 rfl rfl) ?_
 have hc12 := H.cell (u := (Sl a9 r6 c10)) (o' := (on_0 + 1)) 0 1 rfl rfl rfl
 refine sq (v := (Sl a9 r6 c10)) (rv_load1 Try.underlying120 rfl rfl hc12) ?_
 refine sq (v := (I (r6.length : Int))) (rv_len Try.underlying120 rfl) ?_
 refine sq (v := (pt bn_0 on_0)) (rv_move rfl) ?_
 refine sq (v := (pt bn_0 on_0)) (rv_nilCheck rfl) ?_
 refine sq (v := (pt bn_0 on_0)) (rv_fieldAddr (off := 0) (ft := 3) Try.underlying122 rfl ti3 rfl rfl) ?_
 have hc13 := H.cell (u := (I n_0.1)) (o' := on_0) 0 0 rfl rfl rfl
 refine sq (v := (I n_0.1)) (rv_load1 Try.underlying3 rfl rfl hc13) ?_
 refine sq_end ?_
 intro σ14 hm15
 replace H := H.grow (hm15.mono fun _ h => h); clear hm15
 refine st (v := (B (decide (n_0.1 < (r6.length : Int))))) (rv_gtr (a := (r6.length : Int)) (b := n_0.1) rfl rfl) ?_
 refine w_end ?_
 refine q_then ?_
 refine cd_cond (decide (n_0.1 < (r6.length : Int))) rfl (fun hb16 => ?_) (fun hb16 => ?_)
 ·replace h := bif_t hb16 h
  refine rg ?_
  refine st (v := (pt bn_0 on_0)) (rv_move rfl) ?_
  refine st (v := (pt bn_0 on_0)) (rv_nilCheck rfl) ?_
  refine st (v := (pt bn_0 (on_0 + 1))) (rv_fieldAddr (off := 1) (ft := 120) Try.underlying122 rfl ti120 rfl rfl) ?_
  refine st (v := (.iface 133 (pt bn_0 (on_0 + 1)))) (rv_makeInterface Try.underlying133 rfl rfl) ?_
  replace H := Hp.focus (c1 := [(I n_0.1)]) (c2 := [(Sl a9 r6 c10)]) (c3 := []) (o' := (on_0 + 1)) H 0 rfl rfl
  obtain ⟨r17, hx18, h'⟩ := bind_some h
  clear h
  have h := h'; clear h'
  have hc19 := c_container_heap_Pop__impl_hitHeap (loh_0 := lon_0) (bh_0 := bn_0) (oh_0 := (on_0 + 1)) (preh_0 := (pren_0 ++ [(I n_0.1)])) (sufh_0 := ([] ++ sufn_0)) (ah_0 := a9) (ch_0 := c10) hx18
  refine st_call (cx_call hc19 (ent_f hc19.fn rfl) hn0 (show Hp S0 σ0 _ ([Ch.bx lon_0 bn_0 (on_0 + 1) [(Sl a9 r6 c10)] (pren_0 ++ [(I n_0.1)]) ([] ++ sufn_0), Ch.own 0 0 (Sl a9 r6 c10) r6] ++ [Ch.bx n0 b1 0 [(I h_1.1), (I h_1.2)] [] []]) from (H.sel' [0, 1, 2] rfl rfl))) wn ?_
  rintro _ σ22 ⟨_, ⟨a20, c21, rfl, rfl⟩, H, -⟩
  replace H : Hp S0 σ0 σ22 [Ch.bx lon_0 bn_0 (on_0 + 1) [(Sl a20 r17.2 c21)] (pren_0 ++ [(I n_0.1)]) ([] ++ sufn_0), Ch.own 0 0 (Sl a20 r17.2 c21) r17.2, Ch.bx n0 b1 0 [(I h_1.1), (I h_1.2)] [] []] := H
  replace H : Hp S0 σ0 σ22 [Ch.bx lon_0 bn_0 on_0 [(I n_0.1), (Sl a20 r17.2 c21)] pren_0 sufn_0, Ch.own 0 0 (Sl a20 r17.2 c21) r17.2, Ch.bx n0 b1 0 [(I h_1.1), (I h_1.2)] [] []] := Hp.unfocus (o := on_0) (c1 := [(I n_0.1)]) (c2 := [(Sl a20 r17.2 c21)]) (c3 := []) (pre := pren_0) (suf := sufn_0) H 0 rfl rfl
  refine w_end ?_
  obtain rfl := Option.some.inj h
  exact fin_end (v := (.tuple #[])) (results_ok Try.results124 res_nil rfl) ⟨a20, c21, rfl, rfl⟩ (H.sel' [0, 1] rfl rfl)
 ·replace h := bif_f hb16 h
  refine c_skip ?_
  obtain rfl := Option.some.inj h
  exact fin_end (v := (.tuple #[])) (results_ok Try.results124 res_nil rfl) ⟨a9, c10, rfl, rfl⟩ (H.sel' [0, 1] rfl rfl)

theorem c_slices_xorshift_Next {r_0 : Int} {lor_0 br_0 or_0 : Nat} {prer_0 sufr_0 : List Value} {r : Int × Int} (h : M.slices_xorshift_Next r_0 = some r) :
    Cal2 Try.prog 154 [(pt br_0 or_0)] [Ch.bx lor_0 br_0 or_0 [(.int .u64 r_0)] prer_0 sufr_0] (fun n0 v L => v = (.int .u64 r.1) ∧ L = [Ch.bx lor_0 br_0 or_0 [(.int .u64 r.2)] prer_0 sufr_0]) := by
 refine cal2 (n := 33) Try.func154 rfl rfl rfl rfl ?_
 intro S0 σ0 n0 hn0 H
 unfold M.slices_xorshift_Next at h
 refine c_seq ?_
 refine rg ?_
 refine st (v := (.int .u64 0)) (rv_assign rfl) ?_
 refine w_end ?_
 refine q_then ?_
 refine c_seq ?_
 refine rgP (σ := σ0) 7 (by kernel_rfl) (by kernel_rfl) (by kernel_rfl) ?_
 refine sq (v := (pt br_0 or_0)) (rv_move rfl) ?_
 refine sq (v := (pt br_0 or_0)) (rv_nilCheck rfl) ?_
 have hc1 := H.cell (u := (.int .u64 r_0)) (o' := or_0) 0 0 rfl rfl rfl
 refine sq (v := (.int .u64 r_0)) (rv_load1 Try.underlying162 rfl rfl hc1) ?_
 refine sq (v := (pt br_0 or_0)) (rv_move rfl) ?_
 refine sq (v := (pt br_0 or_0)) (rv_nilCheck rfl) ?_
 have hc2 := H.cell (u := (.int .u64 r_0)) (o' := or_0) 0 0 rfl rfl rfl
 refine sq (v := (.int .u64 r_0)) (rv_load1 Try.underlying162 rfl rfl hc2) ?_
 refine sq (v := (.int .u64 (gshl .u64 r_0 13))) (rvk_shl (k := .u64) (k' := .u64) (a := r_0) (b := 13) rfl rfl (by decide)) ?_
 refine sq_end ?_
 intro σ3 hm4
 replace H := H.grow (hm4.mono fun _ h => h); clear hm4
 refine st (v := (.int .u64 (gxork .u64 r_0 (gshl .u64 r_0 13)))) (rvk_xor (k := .u64) (a := r_0) (b := (gshl .u64 r_0 13)) rfl rfl) ?_
 refine st (v := (pt br_0 or_0)) (rv_nilCheck rfl) ?_
 refine st_exS (ex_store_box (k := 0) (cs := [(.int .u64 r_0)]) (vs := [(.int .u64 (gxork .u64 r_0 (gshl .u64 r_0 13)))]) (cs' := [(.int .u64 (gxork .u64 r_0 (gshl .u64 r_0 13)))]) H (i := 0) rfl ti162 rfl rfl rfl rfl rfl (Nat.le_of_ble_eq_true rfl) (by simp [plain]) rfl) wn ?_
 rintro σ5 ⟨H, -⟩
 refine w_end ?_
 refine q_then ?_
 refine c_seq ?_
 refine rgP (σ := σ5) 7 (by kernel_rfl) (by kernel_rfl) (by kernel_rfl) ?_
 refine sq (v := (pt br_0 or_0)) (rv_move rfl) ?_
 refine sq (v := (pt br_0 or_0)) (rv_nilCheck rfl) ?_
 have hc6 := H.cell (u := (.int .u64 (gxork .u64 r_0 (gshl .u64 r_0 13)))) (o' := or_0) 0 0 rfl rfl rfl
 refine sq (v := (.int .u64 (gxork .u64 r_0 (gshl .u64 r_0 13)))) (rv_load1 Try.underlying162 rfl rfl hc6) ?_
 refine sq (v := (pt br_0 or_0)) (rv_move rfl) ?_
 refine sq (v := (pt br_0 or_0)) (rv_nilCheck rfl) ?_
 have hc7 := H.cell (u := (.int .u64 (gxork .u64 r_0 (gshl .u64 r_0 13)))) (o' := or_0) 0 0 rfl rfl rfl
 refine sq (v := (.int .u64 (gxork .u64 r_0 (gshl .u64 r_0 13)))) (rv_load1 Try.underlying162 rfl rfl hc7) ?_
 refine sq (v := (.int .u64 (gshr .u64 (gxork .u64 r_0 (gshl .u64 r_0 13)) 7))) (rvk_shr (k := .u64) (k' := .u64) (a := (gxork .u64 r_0 (gshl .u64 r_0 13))) (b := 7) rfl rfl (by decide)) ?_
 refine sq_end ?_
 intro σ8 hm9
 replace H := H.grow (hm9.mono fun _ h => h); clear hm9
 refine st (v := (.int .u64 (gxork .u64 (gxork .u64 r_0 (gshl .u64 r_0 13)) (gshr .u64 (gxork .u64 r_0 (gshl .u64 r_0 13)) 7)))) (rvk_xor (k := .u64) (a := (gxork .u64 r_0 (gshl .u64 r_0 13))) (b := (gshr .u64 (gxork .u64 r_0 (gshl .u64 r_0 13)) 7)) rfl rfl) ?_
 refine st (v := (pt br_0 or_0)) (rv_nilCheck rfl) ?_
 refine st_exS (ex_store_box (k := 0) (cs := [(.int .u64 (gxork .u64 r_0 (gshl .u64 r_0 13)))]) (vs := [(.int .u64 (gxork .u64 (gxork .u64 r_0 (gshl .u64 r_0 13)) (gshr .u64 (gxork .u64 r_0 (gshl .u64 r_0 13)) 7)))]) (cs' := [(.int .u64 (gxork .u64 (gxork .u64 r_0 (gshl .u64 r_0 13)) (gshr .u64 (gxork .u64 r_0 (gshl .u64 r_0 13)) 7)))]) H (i := 0) rfl ti162 rfl rfl rfl rfl rfl (Nat.le_of_ble_eq_true rfl) (by simp [plain]) rfl) wn ?_
 rintro σ10 ⟨H, -⟩
 refine w_end ?_
 refine q_then ?_
 refine c_seq ?_
 refine rgP (σ := σ10) 7 (by kernel_rfl) (by kernel_rfl) (by kernel_rfl) ?_
 refine sq (v := (pt br_0 or_0)) (rv_move rfl) ?_
 refine sq (v := (pt br_0 or_0)) (rv_nilCheck rfl) ?_
 have hc11 := H.cell (u := (.int .u64 (gxork .u64 (gxork .u64 r_0 (gshl .u64 r_0 13)) (gshr .u64 (gxork .u64 r_0 (gshl .u64 r_0 13)) 7)))) (o' := or_0) 0 0 rfl rfl rfl
 refine sq (v := (.int .u64 (gxork .u64 (gxork .u64 r_0 (gshl .u64 r_0 13)) (gshr .u64 (gxork .u64 r_0 (gshl .u64 r_0 13)) 7)))) (rv_load1 Try.underlying162 rfl rfl hc11) ?_
 refine sq (v := (pt br_0 or_0)) (rv_move rfl) ?_
 refine sq (v := (pt br_0 or_0)) (rv_nilCheck rfl) ?_
 have hc12 := H.cell (u := (.int .u64 (gxork .u64 (gxork .u64 r_0 (gshl .u64 r_0 13)) (gshr .u64 (gxork .u64 r_0 (gshl .u64 r_0 13)) 7)))) (o' := or_0) 0 0 rfl rfl rfl
 refine sq (v := (.int .u64 (gxork .u64 (gxork .u64 r_0 (gshl .u64 r_0 13)) (gshr .u64 (gxork .u64 r_0 (gshl .u64 r_0 13)) 7)))) (rv_load1 Try.underlying162 rfl rfl hc12) ?_
 refine sq (v := (.int .u64 (gshl .u64 (gxork .u64 (gxork .u64 r_0 (gshl .u64 r_0 13)) (gshr .u64 (gxork .u64 r_0 (gshl .u64 r_0 13)) 7)) 17))) (rvk_shl (k := .u64) (k' := .u64) (a := (gxork .u64 (gxork .u64 r_0 (gshl .u64 r_0 13)) (gshr .u64 (gxork .u64 r_0 (gshl .u64 r_0 13)) 7))) (b := 17) rfl rfl (by decide)) ?_
 refine sq_end ?_
 intro σ13 hm14
 replace H := H.grow (hm14.mono fun _ h => h); clear hm14
 refine st (v := (.int .u64 (gxork .u64 (gxork .u64 (gxork .u64 r_0 (gshl .u64 r_0 13)) (gshr .u64 (gxork .u64 r_0 (gshl .u64 r_0 13)) 7)) (gshl .u64 (gxork .u64 (gxork .u64 r_0 (gshl .u64 r_0 13)) (gshr .u64 (gxork .u64 r_0 (gshl .u64 r_0 13)) 7)) 17)))) (rvk_xor (k := .u64) (a := (gxork .u64 (gxork .u64 r_0 (gshl .u64 r_0 13)) (gshr .u64 (gxork .u64 r_0 (gshl .u64 r_0 13)) 7))) (b := (gshl .u64 (gxork .u64 (gxork .u64 r_0 (gshl .u64 r_0 13)) (gshr .u64 (gxork .u64 r_0 (gshl .u64 r_0 13)) 7)) 17)) rfl rfl) ?_
 refine st (v := (pt br_0 or_0)) (rv_nilCheck rfl) ?_
 refine st_exS (ex_store_box (k := 0) (cs := [(.int .u64 (gxork .u64 (gxork .u64 r_0 (gshl .u64 r_0 13)) (gshr .u64 (gxork .u64 r_0 (gshl .u64 r_0 13)) 7)))]) (vs := [(.int .u64 (gxork .u64 (gxork .u64 (gxork .u64 r_0 (gshl .u64 r_0 13)) (gshr .u64 (gxork .u64 r_0 (gshl .u64 r_0 13)) 7)) (gshl .u64 (gxork .u64 (gxork .u64 r_0 (gshl .u64 r_0 13)) (gshr .u64 (gxork .u64 r_0 (gshl .u64 r_0 13)) 7)) 17)))]) (cs' := [(.int .u64 (gxork .u64 (gxork .u64 (gxork .u64 r_0 (gshl .u64 r_0 13)) (gshr .u64 (gxork .u64 r_0 (gshl .u64 r_0 13)) 7)) (gshl .u64 (gxork .u64 (gxork .u64 r_0 (gshl .u64 r_0 13)) (gshr .u64 (gxork .u64 r_0 (gshl .u64 r_0 13)) 7)) 17)))]) H (i := 0) rfl ti162 rfl rfl rfl rfl rfl (Nat.le_of_ble_eq_true rfl) (by simp [plain]) rfl) wn ?_
 rintro σ15 ⟨H, -⟩
 refine w_end ?_
 refine q_then ?_
 refine c_seq ?_
 refine rg ?_
 refine st (v := (pt br_0 or_0)) (rv_move rfl) ?_
 refine st (v := (pt br_0 or_0)) (rv_nilCheck rfl) ?_
 have hc16 := H.cell (u := (.int .u64 (gxork .u64 (gxork .u64 (gxork .u64 r_0 (gshl .u64 r_0 13)) (gshr .u64 (gxork .u64 r_0 (gshl .u64 r_0 13)) 7)) (gshl .u64 (gxork .u64 (gxork .u64 r_0 (gshl .u64 r_0 13)) (gshr .u64 (gxork .u64 r_0 (gshl .u64 r_0 13)) 7)) 17)))) (o' := or_0) 0 0 rfl rfl rfl
 refine st (v := (.int .u64 (gxork .u64 (gxork .u64 (gxork .u64 r_0 (gshl .u64 r_0 13)) (gshr .u64 (gxork .u64 r_0 (gshl .u64 r_0 13)) 7)) (gshl .u64 (gxork .u64 (gxork .u64 r_0 (gshl .u64 r_0 13)) (gshr .u64 (gxork .u64 r_0 (gshl .u64 r_0 13)) 7)) 17)))) (rv_load1 Try.underlying162 rfl rfl hc16) ?_
 refine st (v := (.int .u64 (gxork .u64 (gxork .u64 (gxork .u64 r_0 (gshl .u64 r_0 13)) (gshr .u64 (gxork .u64 r_0 (gshl .u64 r_0 13)) 7)) (gshl .u64 (gxork .u64 (gxork .u64 r_0 (gshl .u64 r_0 13)) (gshr .u64 (gxork .u64 r_0 (gshl .u64 r_0 13)) 7)) 17)))) (rv_assign rfl) ?_
 refine w_end ?_
 refine q_then ?_
 refine c_ret ?_
 obtain rfl := Option.some.inj h
 exact fin_ret (v := (.int .u64 (gxork .u64 (gxork .u64 (gxork .u64 r_0 (gshl .u64 r_0 13)) (gshr .u64 (gxork .u64 r_0 (gshl .u64 r_0 13)) 7)) (gshl .u64 (gxork .u64 (gxork .u64 r_0 (gshl .u64 r_0 13)) (gshr .u64 (gxork .u64 r_0 (gshl .u64 r_0 13)) 7)) 17)))) (results_ok Try.results154 (res_tmp (v := (.int .u64 (gxork .u64 (gxork .u64 (gxork .u64 r_0 (gshl .u64 r_0 13)) (gshr .u64 (gxork .u64 r_0 (gshl .u64 r_0 13)) 7)) (gshl .u64 (gxork .u64 (gxork .u64 r_0 (gshl .u64 r_0 13)) (gshr .u64 (gxork .u64 r_0 (gshl .u64 r_0 13)) 7)) 17)))) rfl res_nil) rfl) ⟨rfl, rfl⟩ (H.sel' [0] rfl rfl)

theorem c_slices_Values_impl_hitHeap_impl_Hit {s_0 : List (Int × Int)} {as_0 : Option Addr} {cs_0 : Nat} {r : Unit} (h : M.slices_Values_impl_hitHeap_impl_Hit s_0 = some r) :
    Cal2 Try.prog 135 [(Sl as_0 s_0 cs_0)] [Ch.ro 0 (Sl as_0 s_0 cs_0) s_0] (fun n0 v L => ∃ (bz1 : Nat), v = (.func (.func 151) #[] #[(pt bz1 0)]) ∧ L = [Ch.bx n0 bz1 0 [(Sl as_0 s_0 cs_0)] [] []]) := by
 refine cal2 (n := 4) Try.func135 rfl rfl rfl rfl ?_
 intro S0 σ0 n0 hn0 H
 unfold M.slices_Values_impl_hitHeap_impl_Hit at h
 refine c_seq ?_
 refine rg ?_
 refine st_ex (ex_box (cs := [(Sl as_0 s_0 cs_0)]) H hn0 rfl rfl) wn ?_
 rintro _ σ2 ⟨b1, rfl, H, -⟩
 refine st (v := .nilFunc) (rv_assign rfl) ?_
 refine w_end ?_
 refine q_then ?_
 refine c_seq ?_
 refine rg ?_
 refine st (v := (.func (.func 151) #[] #[(pt b1 0)])) (rv_makeFunc (vs := [(pt b1 0)]) rfl) ?_
 refine st (v := (.func (.func 151) #[] #[(pt b1 0)])) (rv_assign rfl) ?_
 refine w_end ?_
 refine q_then ?_
 refine c_ret ?_
 obtain rfl := Option.some.inj h
 exact fin_ret (v := (.func (.func 151) #[] #[(pt b1 0)])) (results_ok Try.results135 (res_tmp (v := (.func (.func 151) #[] #[(pt b1 0)])) rfl res_nil) rfl) ⟨b1, rfl, rfl⟩ (H.sel' [0] rfl rfl)

/-- What the iterator does: it hands the elements over in their order. -/
theorem it_slices_AppendSeq_impl_Hit_impl_Hit__slices_Values_impl_hitHeap_impl_Hit_1 {b o c l : Nat} {a : Option Addr} {xs : List (Int × Int)} {J : Nat → St → Prop} (hst : ∀ {i σ σ'}, J i σ → Md (fun _ => False) σ σ' → J i σ')
    (hbx : ∀ {i σ}, J i σ → HCell σ.w.heap b o = some (Sl a xs c) ∧ Rd 0 σ (Sl a xs c) xs) (hn : xs.length ≤ 2147483648)
    (hy : ∀ i, (h : i < xs.length) → ∀ σ, J i σ → YieldAt Fence.wide 0 Try.prog l [(.agg #[(I (xs[i]).1), (I (xs[i]).2)])].toArray σ.w fun e W' => e = .returned (.bool true) ∧ ∃ σ', W' = σ'.w ∧ J (i + 1) σ')
    (σ : St) (h0 : J 0 σ) : CallsIn Fence.wide 0 Try.prog 151 [.func (.yield l) #[] #[], (pt b o)].toArray σ.w fun e W' => (∃ v, e = .returned v) ∧ ∃ σ', W' = σ'.w ∧ J xs.length σ' := by
  refine enterI (n := 16) Try.func151 rfl rfl rfl ?_
  refine wpIn_seq ?_
  obtain ⟨hc, -⟩ := hbx h0
  refine rgI ?_
  refine stI nofun (v := (Sl a xs c)) (rv_load1 Try.underlying120 rfl rfl hc) ?_
  refine stI nofun (v := (I (xs.length : Int))) (rv_len Try.underlying120 rfl) ?_
  refine stI nofun (v := (I 0)) (rv_move rfl) ?_
  refine endI ?_
  refine q_then ?_
  refine wpIn_block ?_
  refine wpIn_loop_ghost (fun k a' w' => ∃ i ρ σ, i + k = xs.length ∧ a' = fr 16 (updL ρ [(0, .func (.yield l) #[] #[]), (1, pt b o), (5, Sl a xs c), (6, I (xs.length : Int)), (7, I (i : Int))]) ∧ w' = σ.w ∧ J i σ) xs.length ⟨0, _, σ, by omega, fr_join ⟨rfl, rfl, rfl, rfl, rfl, trivial⟩, rfl, h0⟩ ?_
  clear hc h0
  rintro k _ _ ⟨i, ρ, σ, hik, rfl, rfl, hJ⟩
  refine wpIn_seq ?_
  refine rgI ?_
  refine stI nofun (v := (B (decide ((i : Int) < (xs.length : Int))))) (rv_lss (a := (i : Int)) (b := (xs.length : Int)) rfl rfl) ?_
  refine endI ?_
  refine q_then ?_
  refine wpIn_seq ?_
  refine cdI_cond (decide ((i : Int) < (xs.length : Int))) rfl (fun hb => ?_) (fun hb => ?_)
  · have hlt : i < xs.length := by have := of_decide_eq_true hb; omega
    refine wpIn_skip ?_
    refine q_then ?_
    refine wpIn_seq ?_
    refine wpIn_block ?_
    refine wpIn_seq ?_
    refine rgI ?_
    have hg : gidx xs (i : Int) = some xs[i] := gidx_at hlt
    obtain ⟨-, hR⟩ := hbx hJ
    obtain ⟨bx, ox, hi, hat⟩ := hR.ix hg
    obtain ⟨_, ⟨_, _, rfl, rfl, rfl⟩, hl, hcx⟩ := hat.cells
    refine stI nofun (v := (pt bx ox)) (rv_ix Try.underlying120 ti91 rfl rfl hi) ?_
    refine stI nofun (v := (.agg #[(I (xs[i]).1), (I (xs[i]).2)])) (rv_load (cs := [(I (xs[i]).1), (I (xs[i]).2)]) Try.underlying91 rfl ti91 rfl hl hcx) ?_
    have H : Hp (cov []) σ σ [] := Hp.begin trivial trivial
    refine stI_ex nofun (ex_alloc (lo := 0) H (Nat.zero_le _) ti91 rfl) ?_
    rintro _ σ2 ⟨b4, rfl, H, -⟩
    refine stI_exS nofun (ex_store_box (vs := [(I (xs[i]).1), (I (xs[i]).2)]) (k := 0) H (i := 0) rfl ti91 rfl rfl rfl rfl rfl (Nat.le_of_ble_eq_true rfl) (by simp [plain]) rfl) ?_
    rintro σ3 ⟨H, -⟩
    refine endI ?_
    refine q_then ?_
    refine wpIn_seq ?_
    refine rgI ?_
    refine stI nofun (v := (.func (.yield l) #[] #[])) (rv_move rfl) ?_
    have hc4 := H.cells 0 rfl
    refine stI nofun (v := (.agg #[(I (xs[i]).1), (I (xs[i]).2)])) (rv_load (cs := [(I (xs[i]).1), (I (xs[i]).2)]) Try.underlying91 rfl ti91 rfl rfl hc4) ?_
    refine stI_yield (args := [(.agg #[(I (xs[i]).1), (I (xs[i]).2)])]) rfl rfl (hy i hlt σ3 (hst hJ H.md)) ?_
    rintro e w' ⟨rfl, σ4, rfl, hJ4⟩
    refine ⟨_, rfl, ?_⟩
    refine stI nofun (v := (B (!true))) (rv_not rfl) ?_
    refine endI ?_
    refine q_then ?_
    refine cdI_cond false rfl (fun hb => by cases hb) (fun _ => ?_)
    refine wpIn_skip ?_
    refine q_blk ?_
    refine q_then ?_
    refine rgI ?_
    refine stI nofun (v := (I (w64 ((i : Int) + 1)))) (rv_add (a := (i : Int)) (b := 1) rfl rfl) ?_
    refine stI nofun (v := (I (w64 ((i : Int) + 1)))) (rv_move rfl) ?_
    refine endI ?_
    have e1 : w64 ((i : Int) + 1) = ((i + 1 : Nat) : Int) := w64_id (by omega) (by omega)
    rw [e1]
    refine q_then ?_
    exact ⟨k - 1, by omega, i + 1, _, σ4, by omega, fr_join ⟨rfl, rfl, rfl, rfl, rfl, trivial⟩, rfl, hJ4⟩
  · have hlt : ¬ i < xs.length := by have := of_decide_eq_false hb; omega
    have : i = xs.length := by omega
    subst this
    refine wpIn_exit ?_
    refine q_then_x ?_
    refine q_then_x ?_
    refine q_blk_hit ?_
    exact fin_plain' (v := .tuple #[]) (results_ok Try.results151 res_nil rfl) ⟨⟨_, rfl⟩, σ, rfl, hJ⟩
/-- append, over and over. -/
theorem c_slices_AppendSeq_impl_Hit_impl_Hit__slices_Values_impl_hitHeap_impl_Hit_1 {seq_1_0 : List (Int × Int)} {aseq_1_0 : Option Addr} {cseq_1_0 : Nat} {loseq_1_0 bseq_1_0 oseq_1_0 : Nat} {preseq_1_0 sufseq_1_0 : List Value} {r : List (Int × Int)} (h : M.slices_AppendSeq_impl_Hit_impl_Hit__slices_Values_impl_hitHeap_impl_Hit_1 seq_1_0 = some r) :
    Cal2 Try.prog 157 [.slice none 0 0, (.func (.func 151) #[] #[(pt bseq_1_0 oseq_1_0)])] [Ch.bx loseq_1_0 bseq_1_0 oseq_1_0 [(Sl aseq_1_0 seq_1_0 cseq_1_0)] preseq_1_0 sufseq_1_0, Ch.ro 0 (Sl aseq_1_0 seq_1_0 cseq_1_0) seq_1_0] (fun n0 v L => ∃ (az1 : Option Addr), ∃ (cz2 : Nat), v = (Sl az1 r cz2) ∧ L = [Ch.own n0 n0 (Sl az1 r cz2) r, Ch.bx loseq_1_0 bseq_1_0 oseq_1_0 [(Sl aseq_1_0 seq_1_0 cseq_1_0)] preseq_1_0 sufseq_1_0]) := by
  obtain ⟨hn, rfl⟩ := coll_some (show M.coll seq_1_0 = some r from h)
  refine ⟨⟨_, _, Try.func157, rfl, rfl⟩, fun σ0 n0 hn0 H => ?_⟩
  refine callsIn_wide.1 (enterI (n := 13) Try.func157 rfl rfl rfl ?_)
  refine wpIn_seq ?_
  refine rgI ?_
  refine stI_ex nofun (ex_box (cs := [.slice none 0 0]) H hn0 rfl rfl) ?_
  rintro _ σ1 ⟨b1, rfl, H, -⟩
  refine stI nofun (v := (.slice none 0 0)) (rv_assign rfl) ?_
  refine endI ?_
  refine q_then ?_
  refine wpIn_seq ?_
  refine wpIn_seq ?_
  refine rgI ?_
  refine stI nofun (v := (.func (.func 151) #[] #[(pt bseq_1_0 oseq_1_0)])) (rv_move rfl) ?_
  refine endI ?_
  refine q_then ?_
  refine wpIn_block ?_
  replace H := H.nilOwn (Int × Int) n0 n0
  refine wp_rangeF (gf := 151) (lb := #[(pt bseq_1_0 oseq_1_0)]) (N := r.length) (encs := fun i => [(.agg #[(I (r.getD i (0, 0)).1), (I (r.getD i (0, 0)).2)])].toArray) (by rw [fr_eval]; rfl) (eg_of ⟨_, _, Try.func151, rfl, rfl⟩) (fun _ _ => rfl)
    (fun i L => ∃ a' c', L = [Ch.own n0 n0 (Sl a' (r.take i) c') (r.take i), Ch.bx n0 b1 0 [(Sl a' (r.take i) c')] [] [], Ch.bx loseq_1_0 bseq_1_0 oseq_1_0 [(Sl aseq_1_0 r cseq_1_0)] preseq_1_0 sufseq_1_0, Ch.ro 0 (Sl aseq_1_0 r cseq_1_0) r]) ⟨none, 0, rfl⟩ H ?_ ?_ ?_
  · intro l J hst hJ hy σ h0
    refine it_slices_AppendSeq_impl_Hit_impl_Hit__slices_Values_impl_hitHeap_impl_Hit_1 (J := J) (a := aseq_1_0) (c := cseq_1_0) hst (fun {i σ} h => ?_) hn (fun i hi σ h => ?_) σ h0
    · obtain ⟨L, R, ⟨a', c', rfl⟩, H⟩ := hJ h
      have H2 := H.drop R
      exact ⟨H2.cells 2 rfl 0 (by simp), (H2.ro 3 rfl).rd⟩
    · have := hy i hi σ h
      simpa [List.getD, hi] using this
  · rintro l D i rc rc' hi σ _ ⟨a', c', rfl⟩ H
    have hgd : r.getD i (0, 0) = r[i] := by simp [List.getD, hi]
    simp only [hgd]
    rw [round_fr]
    refine rgI ?_
    refine stI_ex nofun (ex_alloc (lo := n0) H hn0 ti91 rfl) ?_
    rintro _ σ2 ⟨b5, rfl, H, -⟩
    refine stI_exS nofun (ex_store_box (vs := [(I (r[i]).1), (I (r[i]).2)]) (cs' := [(I (r[i]).1), (I (r[i]).2)]) (k := 0) H (i := 0) rfl ti91 rfl rfl rfl rfl rfl (Nat.le_of_ble_eq_true rfl) (by simp [plain]) rfl) ?_
    rintro σ3 ⟨H, -⟩
    refine endI ?_
    refine q_then ?_
    refine ⟨σ3, _, rfl, H.sel' [1, 2, 0, 3, 4, 5, 6] rfl rfl, ?_⟩
    clear H
    intro σ4 H
    refine wpIn_block ?_
    refine rgI ?_
    have hc1 := H.cells 4 rfl
    refine stI nofun (v := (Sl a' (r.take i) c')) (rv_load1 Try.underlying56 rfl rfl (hc1 0 (by simp))) ?_
    have hc5 := H.cells 2 rfl
    refine stI nofun (v := (.agg #[(I (r[i]).1), (I (r[i]).2)])) (rv_load (cs := [(I (r[i]).1), (I (r[i]).2)]) Try.underlying91 rfl ti91 rfl rfl hc5) ?_
    refine stI_ex nofun (ex_buildSlice (lo := n0) (el := n0) (xs := ([((r[i]).1, (r[i]).2)] : List (Int × Int))) (ps := [(0, (.agg #[(I (r[i]).1), (I (r[i]).2)]))]) (cs := [(I (r[i]).1), (I (r[i]).2)]) H hn0 Try.underlying56 ti91 rfl rfl (by kernel_rfl) (.cons (c := [(I (r[i]).1), (I (r[i]).2)]) ⟨_, _, rfl, rfl, rfl⟩ .nil) rfl) ?_
    rintro _ σ5 ⟨b10, rfl, H, -⟩
    refine stI_ex nofun (ex_append H (i := 4) rfl Try.underlying56 Try.underlying56 ti91 rfl rfl (by decide) (H.own 0 rfl).rd (take_gapp hi hn) hn0 rfl rfl) ?_
    rintro _ σ6 ⟨a2, c2, rfl, H, -⟩
    refine stI_exS nofun (ex_store_box (vs := [(Sl a2 (r.take (i + 1)) c2)]) (cs' := [(Sl a2 (r.take (i + 1)) c2)]) (k := 0) H (i := 5) rfl ti56 rfl rfl rfl rfl rfl (Nat.le_of_ble_eq_true rfl) (by simp [plain, Sl]) rfl) ?_
    rintro σ7 ⟨H, -⟩
    refine endI ?_
    refine q_blk ?_
    exact ⟨rfl, σ7, _, rfl, ⟨a2, c2, rfl⟩, H.sel' [3, 4, 1, 0, 6, 7] rfl rfl⟩
  · rintro D σ _ ⟨a', c', rfl⟩ H
    rw [List.take_length] at H
    refine q_blk ?_
    refine q_then ?_
    refine wpIn_seq ?_
    refine rgD (ds := [{ target := .collected D, args := #[] }]) ?_
    have hc1 := H.cells 2 rfl
    refine stD nofun (v := (Sl a' r c')) (rv_load1 Try.underlying56 rfl rfl (hc1 0 (by simp))) ?_
    refine stD nofun (v := (Sl a' r c')) (rv_assign rfl) ?_
    refine endD ?_
    refine q_then ?_
    refine wpIn_ret ?_
    exact fin_mark (v := Sl a' r c') H (results_ok Try.results157 (res_tmp (v := Sl a' r c') rfl res_nil) rfl) ⟨_, _, _, rfl, rfl, ⟨a', c', rfl, rfl⟩, (H.putDf _).sel' [0, 2] rfl rfl⟩

theorem c_slices_Collect_impl_Hit__slices_Values_impl_hitHeap_impl_Hit_1 {seq_0_0 : List (Int × Int)} {aseq_0_0 : Option Addr} {cseq_0_0 : Nat} {loseq_0_0 bseq_0_0 oseq_0_0 : Nat} {preseq_0_0 sufseq_0_0 : List Value} {r : (List (Int × Int))} (h : M.slices_Collect_impl_Hit__slices_Values_impl_hitHeap_impl_Hit_1 seq_0_0 = some r) :
    Cal2 Try.prog 149 [(.func (.func 151) #[] #[(pt bseq_0_0 oseq_0_0)])] [Ch.bx loseq_0_0 bseq_0_0 oseq_0_0 [(Sl aseq_0_0 seq_0_0 cseq_0_0)] preseq_0_0 sufseq_0_0, Ch.ro 0 (Sl aseq_0_0 seq_0_0 cseq_0_0) seq_0_0] (fun n0 v L => ∃ (az1 : Option Addr), ∃ (cz2 : Nat), v = (Sl az1 r cz2) ∧ L = [Ch.own n0 n0 (Sl az1 r cz2) r, Ch.bx loseq_0_0 bseq_0_0 oseq_0_0 [(Sl aseq_0_0 seq_0_0 cseq_0_0)] preseq_0_0 sufseq_0_0]) := by
 refine cal2 (n := 5) Try.func149 rfl rfl rfl rfl ?_
 intro S0 σ0 n0 hn0 H
 unfold M.slices_Collect_impl_Hit__slices_Values_impl_hitHeap_impl_Hit_1 at h
 refine c_seq ?_
 refine rg ?_
 refine st (v := (.slice none 0 0)) (rv_assign rfl) ?_
 refine w_end ?_
 refine q_then ?_
 refine c_seq ?_
 refine rg ?_
 refine st (v := (.func (.func 151) #[] #[(pt bseq_0_0 oseq_0_0)])) (rv_move rfl) ?_
 obtain ⟨r1, hx2, h'⟩ := bind_some h
 clear h
 have h := h'; clear h'
 have hc3 := c_slices_AppendSeq_impl_Hit_impl_Hit__slices_Values_impl_hitHeap_impl_Hit_1 (loseq_1_0 := loseq_0_0) (bseq_1_0 := bseq_0_0) (oseq_1_0 := oseq_0_0) (preseq_1_0 := preseq_0_0) (sufseq_1_0 := sufseq_0_0) (aseq_1_0 := aseq_0_0) (cseq_1_0 := cseq_0_0) hx2
 refine st_call (cx_call hc3 (ent_f hc3.fn rfl) hn0 (show Hp S0 σ0 _ ([Ch.bx loseq_0_0 bseq_0_0 oseq_0_0 [(Sl aseq_0_0 seq_0_0 cseq_0_0)] preseq_0_0 sufseq_0_0, Ch.ro 0 (Sl aseq_0_0 seq_0_0 cseq_0_0) seq_0_0] ++ [Ch.ro 0 (Sl aseq_0_0 seq_0_0 cseq_0_0) seq_0_0]) from (H.sel' [0, 1, 1] rfl rfl))) wn ?_
 rintro _ σ6 ⟨_, ⟨a4, c5, rfl, rfl⟩, H, -⟩
 replace H : Hp S0 σ0 σ6 [Ch.own n0 n0 (Sl a4 r1 c5) r1, Ch.bx loseq_0_0 bseq_0_0 oseq_0_0 [(Sl aseq_0_0 seq_0_0 cseq_0_0)] preseq_0_0 sufseq_0_0, Ch.ro 0 (Sl aseq_0_0 seq_0_0 cseq_0_0) seq_0_0] := H
 refine st (v := (Sl a4 r1 c5)) (rv_assign rfl) ?_
 refine w_end ?_
 refine q_then ?_
 refine c_ret ?_
 obtain rfl := Option.some.inj h
 exact fin_ret (v := (Sl a4 r1 c5)) (results_ok Try.results149 (res_tmp (v := (Sl a4 r1 c5)) rfl res_nil) rfl) ⟨a4, c5, rfl, rfl⟩ (H.sel' [0, 1] rfl rfl)

def sort150_ren : Go.Shelf.Ren := ⟨fun | 6 => 150 | 15 => 127 | 14 => 158 | 28 => 144 | 29 => 145 | 20 => 160 | 21 => 161 | 22 => 162 | 23 => 163 | 24 => 164 | 25 => 165 | 26 => 166 | 27 => 167 | 46 => 168 | 47 => 153 | 48 => 154 | 49 => 169 | 50 => 170 | 57 => 171 | n => n, fun | 22 => 56 | 24 => 91 | 25 => 112 | 3 => 3 | 39 => 127 | 0 => 0 | 53 => 148 | 55 => 150 | 4 => 4 | 46 => 141 | 45 => 140 | 50 => 145 | 5 => 5 | 9 => 9 | 66 => 162 | 70 => 166 | 76 => 170 | 77 => 171 | n => n, fun | n => n⟩
theorem sort150 : Go.Proofs.SlLaysF0.n6 Try.prog sort150_ren := {
  mixed := by kernel_rfl
  f6 := ⟨Try.f150.name, by decide, Try.func150.trans (congrArg some (by kernel_rfl))⟩
  f14 := ⟨Try.f158.name, by decide, Try.func158.trans (congrArg some (by kernel_rfl))⟩
  f15 := Try.func127.trans (congrArg some (by kernel_rfl))
  f20 := ⟨Try.f160.name, by decide, Try.func160.trans (congrArg some (by kernel_rfl))⟩
  f21 := ⟨Try.f161.name, by decide, Try.func161.trans (congrArg some (by kernel_rfl))⟩
  f22 := ⟨Try.f162.name, by decide, Try.func162.trans (congrArg some (by kernel_rfl))⟩
  f23 := ⟨Try.f163.name, by decide, Try.func163.trans (congrArg some (by kernel_rfl))⟩
  f24 := ⟨Try.f164.name, by decide, Try.func164.trans (congrArg some (by kernel_rfl))⟩
  f25 := ⟨Try.f165.name, by decide, Try.func165.trans (congrArg some (by kernel_rfl))⟩
  f26 := ⟨Try.f166.name, by decide, Try.func166.trans (congrArg some (by kernel_rfl))⟩
  f27 := ⟨Try.f167.name, by decide, Try.func167.trans (congrArg some (by kernel_rfl))⟩
  f28 := Try.func144.trans (congrArg some (by kernel_rfl))
  f29 := Try.func145.trans (congrArg some (by kernel_rfl))
  f46 := ⟨Try.f168.name, by decide, Try.func168.trans (congrArg some (by kernel_rfl))⟩
  f47 := Try.func153.trans (congrArg some (by kernel_rfl))
  f48 := Try.func154.trans (congrArg some (by kernel_rfl))
  f49 := ⟨Try.f169.name, by decide, Try.func169.trans (congrArg some (by kernel_rfl))⟩
  f50 := ⟨Try.f170.name, by decide, Try.func170.trans (congrArg some (by kernel_rfl))⟩
  f57 := ⟨Try.f171.name, by decide, Try.func171.trans (congrArg some (by kernel_rfl))⟩
  t0 := Try.underlying0
  a0 := Try.isAgg0
  z0 := Try.sizeOf0
  v0 := Try.zeroValue0
  t3 := Try.underlying3
  a3 := Try.isAgg3
  z3 := Try.sizeOf3
  v3 := Try.zeroValue3
  t4 := Try.underlying4
  a4 := Try.isAgg4
  z4 := Try.sizeOf4
  v4 := Try.zeroValue4
  t5 := Try.underlying5
  a5 := Try.isAgg5
  z5 := Try.sizeOf5
  v5 := Try.zeroValue5
  t9 := Try.underlying9
  a9 := Try.isAgg9
  z9 := Try.sizeOf9
  v9 := Try.zeroValue9
  t22 := Try.underlying56
  a22 := Try.isAgg56
  z22 := Try.sizeOf56
  v22 := Try.zeroValue56
  t25 := Try.underlying112
  a25 := Try.isAgg112
  z25 := Try.sizeOf112
  v25 := Try.zeroValue112
  t39 := Try.underlying127
  a39 := Try.isAgg127
  z39 := Try.sizeOf127
  v39 := Try.zeroValue127
  t45 := Try.underlying140
  a45 := Try.isAgg140
  z45 := Try.sizeOf140
  v45 := Try.zeroValue140
  t46 := Try.underlying141
  a46 := Try.isAgg141
  z46 := Try.sizeOf141
  v46 := Try.zeroValue141
  t50 := Try.underlying145
  a50 := Try.isAgg145
  z50 := Try.sizeOf145
  v50 := Try.zeroValue145
  t53 := Try.underlying148
  a53 := Try.isAgg148
  z53 := Try.sizeOf148
  v53 := Try.zeroValue148
  t55 := Try.underlying150
  a55 := Try.isAgg150
  z55 := Try.sizeOf150
  v55 := Try.zeroValue150
  t66 := Try.underlying162
  a66 := Try.isAgg162
  z66 := Try.sizeOf162
  v66 := Try.zeroValue162
  t70 := Try.underlying166
  a70 := Try.isAgg166
  z70 := Try.sizeOf166
  v70 := Try.zeroValue166
  t76 := Try.underlying170
  a76 := Try.isAgg170
  z76 := Try.sizeOf170
  v76 := Try.zeroValue170
  t77 := Try.underlying171
  a77 := Try.isAgg171
  z77 := Try.sizeOf171
  v77 := Try.zeroValue171 }

theorem c_slices_SortFunc_impl_Hit_impl_Hit__impl_compareHits {x_0 : List (Int × Int)} {ax_0 : Option Addr} {cx_0 : Nat} {r : List (Int × Int)} (h : M.slices_SortFunc_impl_Hit_impl_Hit__impl_compareHits x_0 = some r) :
    Cal2 Try.prog 150 [(Sl ax_0 x_0 cx_0), (.func (.func 111) #[] #[])] [Ch.own 0 0 (Sl ax_0 x_0 cx_0) x_0] (fun n0 v L => v = (.tuple #[]) ∧ L = [Ch.own 0 0 (Sl ax_0 r cx_0) r] ∧ r.length = x_0.length) := by
 obtain ⟨hn, hs, hL, rfl⟩ := sortD_some h
 have hE : ∀ σ σ' : St, Ext σ σ' → (True) → (True) := fun _ _ _ hp => hp
 have hB : ∀ σ : St, allAs σ [] → apart [] → ∃ σp, Pb (cov []) σ σp ∧ True := fun σ _ _ => ⟨σ, ⟨rfl, rfl, fun _ _ => rfl, fun _ => Nat.le_refl _⟩, trivial⟩
 have hC : ∀ σ : St, ¬ σ.loud → (True) → ∀ x ∈ x_0, ∀ y ∈ x_0, ∀ cx cy, Rp.rp 0 σ cx x → Rp.rp 0 σ cy y → Calls Try.prog 111 ([Value.agg cx.toArray, Value.agg cy.toArray] ++ []).toArray σ.w fun e w' => e = .returned (I ((M.impl_compareHits (x.1, x.2) (y.1, y.2)).getD 0)) ∧ ∃ q os, w' = Go.Sort.grow (σ.w.drewN q) os := by
     intro σ hl hp x hx y hy cx cy rx ry
     obtain ⟨r, hr⟩ := hs x hx y hy
     obtain ⟨_, _, rfl, rfl, rfl⟩ := rx
     obtain ⟨_, _, rfl, rfl, rfl⟩ := ry
     have hc := c_impl_compareHits  hr
     refine (hc.runs σ 0 (Nat.zero_le _) (Hp.begin trivial trivial)).mono ?_
     rintro e w' ⟨v, σ', L', rfl, rfl, ⟨rfl, -⟩, H⟩
     exact ⟨by rw [hr]; rfl, (H.md.mono fun i => fun h => h).grown hl⟩
 refine (sort_cal2 (α := (Int × Int)) sort150 Try.isAgg91 Try.sizeOf91 (xs := x_0) (a := ax_0) (c := cx_0) (g := 111) (cb := []) (B := []) (fun x y => (M.impl_compareHits (x.1, x.2) (y.1, y.2)).getD 0) hL hn ⟨_, _, Try.func111, rfl, rfl⟩ _ hE hB hC).conv ?_
 rintro m v L ⟨rfl, rfl⟩
 exact ⟨_, ⟨rfl, rfl, sortL_len⟩, fun H => H.sel' [0] rfl rfl⟩

theorem c_slices_SortedFunc_impl_Hit__slices_Values_impl_hitHeap_impl_Hit_1__impl_compareHits {seq_0_0 : List (Int × Int)} {aseq_0_0 : Option Addr} {cseq_0_0 : Nat} {loseq_0_0 bseq_0_0 oseq_0_0 : Nat} {preseq_0_0 sufseq_0_0 : List Value} {r : (List (Int × Int))} (h : M.slices_SortedFunc_impl_Hit__slices_Values_impl_hitHeap_impl_Hit_1__impl_compareHits seq_0_0 = some r) :
    Cal2 Try.prog 134 [(.func (.func 151) #[] #[(pt bseq_0_0 oseq_0_0)]), (.func (.func 111) #[] #[])] [Ch.bx loseq_0_0 bseq_0_0 oseq_0_0 [(Sl aseq_0_0 seq_0_0 cseq_0_0)] preseq_0_0 sufseq_0_0, Ch.ro 0 (Sl aseq_0_0 seq_0_0 cseq_0_0) seq_0_0] (fun n0 v L => ∃ (az1 : Option Addr), ∃ (cz2 : Nat), v = (Sl az1 r cz2) ∧ L = [Ch.own 0 n0 (Sl az1 r cz2) r, Ch.bx loseq_0_0 bseq_0_0 oseq_0_0 [(Sl aseq_0_0 seq_0_0 cseq_0_0)] preseq_0_0 sufseq_0_0]) := by
 refine cal2 (n := 12) Try.func134 rfl rfl rfl rfl ?_
 intro S0 σ0 n0 hn0 H
 unfold M.slices_SortedFunc_impl_Hit__slices_Values_impl_hitHeap_impl_Hit_1__impl_compareHits at h
 refine c_seq ?_
 refine rg ?_
 refine st (v := (.slice none 0 0)) (rv_assign rfl) ?_
 refine w_end ?_
 refine q_then ?_
 refine c_seq ?_
 refine rg ?_
 refine st (v := (.func (.func 151) #[] #[(pt bseq_0_0 oseq_0_0)])) (rv_move rfl) ?_
 obtain ⟨r1, hx2, h'⟩ := bind_some h
 clear h
 have h := h'; clear h'
 have hc3 := c_slices_Collect_impl_Hit__slices_Values_impl_hitHeap_impl_Hit_1 (loseq_0_0 := loseq_0_0) (bseq_0_0 := bseq_0_0) (oseq_0_0 := oseq_0_0) (preseq_0_0 := preseq_0_0) (sufseq_0_0 := sufseq_0_0) (aseq_0_0 := aseq_0_0) (cseq_0_0 := cseq_0_0) hx2
 refine st_call (cx_call hc3 (ent_f hc3.fn rfl) hn0 (show Hp S0 σ0 _ ([Ch.bx loseq_0_0 bseq_0_0 oseq_0_0 [(Sl aseq_0_0 seq_0_0 cseq_0_0)] preseq_0_0 sufseq_0_0, Ch.ro 0 (Sl aseq_0_0 seq_0_0 cseq_0_0) seq_0_0] ++ [Ch.ro 0 (Sl aseq_0_0 seq_0_0 cseq_0_0) seq_0_0]) from (H.sel' [0, 1, 1] rfl rfl))) wn ?_
 rintro _ σ6 ⟨_, ⟨a4, c5, rfl, rfl⟩, H, -⟩
 replace H : Hp S0 σ0 σ6 [Ch.own n0 n0 (Sl a4 r1 c5) r1, Ch.bx loseq_0_0 bseq_0_0 oseq_0_0 [(Sl aseq_0_0 seq_0_0 cseq_0_0)] preseq_0_0 sufseq_0_0, Ch.ro 0 (Sl aseq_0_0 seq_0_0 cseq_0_0) seq_0_0] := H
 refine st (v := (Sl a4 r1 c5)) (rv_assign rfl) ?_
 refine w_end ?_
 refine q_then ?_
 refine c_seq ?_
 refine rg ?_
 refine st (v := (Sl a4 r1 c5)) (rv_move rfl) ?_
 refine st (v := (.func (.func 111) #[] #[])) (rv_move rfl) ?_
 replace H := H.ownLow 0 0 0 rfl (Nat.zero_le _) (Nat.zero_le _)
 obtain ⟨r7, hx8, h'⟩ := bind_some h
 clear h
 have h := h'; clear h'
 have hc9 := c_slices_SortFunc_impl_Hit_impl_Hit__impl_compareHits (ax_0 := a4) (cx_0 := c5) hx8
 refine st_call (cx_call hc9 (ent_f hc9.fn rfl) hn0 (show Hp S0 σ0 _ ([Ch.own 0 0 (Sl a4 r1 c5) r1] ++ [Ch.bx loseq_0_0 bseq_0_0 oseq_0_0 [(Sl aseq_0_0 seq_0_0 cseq_0_0)] preseq_0_0 sufseq_0_0, Ch.ro 0 (Sl aseq_0_0 seq_0_0 cseq_0_0) seq_0_0]) from (H.sel' [0, 1, 2] rfl rfl))) wn ?_
 rintro _ σ11 ⟨_, ⟨rfl, rfl, hn10⟩, H, -⟩
 replace H : Hp S0 σ0 σ11 [Ch.own 0 0 (Sl a4 r7 c5) r7, Ch.bx loseq_0_0 bseq_0_0 oseq_0_0 [(Sl aseq_0_0 seq_0_0 cseq_0_0)] preseq_0_0 sufseq_0_0, Ch.ro 0 (Sl aseq_0_0 seq_0_0 cseq_0_0) seq_0_0] := H
 have hsl : (Sl a4 r1 c5) = (Sl a4 r7 c5) := sl_len hn10.symm
 try rw [hsl]
 try rw [hsl] at H
 clear hsl
 refine w_end ?_
 refine q_then ?_
 refine c_seq ?_
 refine rg ?_
 refine st (v := (Sl a4 r7 c5)) (rv_move rfl) ?_
 refine st (v := (Sl a4 r7 c5)) (rv_assign rfl) ?_
 refine w_end ?_
 refine q_then ?_
 refine c_ret ?_
 replace H := H.ownSc 0 0 n0 rfl (Nat.le_refl _)
 obtain rfl := Option.some.inj h
 exact fin_ret (v := (Sl a4 r7 c5)) (results_ok Try.results134 (res_tmp (v := (Sl a4 r7 c5)) rfl res_nil) rfl) ⟨a4, c5, rfl, rfl⟩ (H.sel' [0, 1] rfl rfl)

theorem c_impl_nearestHits_inOrder {n_0 : Int × (List (Int × Int))} {an_0_1 : Option Addr} {cn_0_1 : Nat} {lon_0 bn_0 on_0 : Nat} {pren_0 sufn_0 : List Value} {r : (List (Int × Int))} (h : M.impl_nearestHits_inOrder n_0 = some r) :
    Cal2 Try.prog 125 [(pt bn_0 on_0)] [Ch.bx lon_0 bn_0 on_0 [(I n_0.1), (Sl an_0_1 n_0.2 cn_0_1)] pren_0 sufn_0, Ch.ro 0 (Sl an_0_1 n_0.2 cn_0_1) n_0.2] (fun n0 v L => ∃ (az1 : Option Addr), ∃ (cz2 : Nat), v = (Sl az1 r cz2) ∧ L = [Ch.own 0 n0 (Sl az1 r cz2) r, Ch.bx lon_0 bn_0 on_0 [(I n_0.1), (Sl an_0_1 n_0.2 cn_0_1)] pren_0 sufn_0]) := by
 refine cal2 (n := 9) Try.func125 rfl rfl rfl rfl ?_
 intro S0 σ0 n0 hn0 H
 unfold M.impl_nearestHits_inOrder at h
 refine c_seq ?_
 refine rg ?_
 refine st (v := (.slice none 0 0)) (rv_assign rfl) ?_
 refine w_end ?_
 refine q_then ?_
 refine c_seq ?_
 refine rg ?_
 refine st (v := (pt bn_0 on_0)) (rv_move rfl) ?_
 refine st (v := (pt bn_0 on_0)) (rv_nilCheck rfl) ?_
 refine st (v := (pt bn_0 (on_0 + 1))) (rv_fieldAddr (off := 1) (ft := 120) Try.underlying122 rfl ti120 rfl rfl) ?_
 have hc1 := H.cell (u := (Sl an_0_1 n_0.2 cn_0_1)) (o' := (on_0 + 1)) 0 1 rfl rfl rfl
 refine st (v := (Sl an_0_1 n_0.2 cn_0_1)) (rv_load1 Try.underlying120 rfl rfl hc1) ?_
 obtain ⟨r2, hx3, h'⟩ := bind_some h
 clear h
 have h := h'; clear h'
 have hc4 := c_slices_Values_impl_hitHeap_impl_Hit (as_0 := an_0_1) (cs_0 := cn_0_1) hx3
 refine st_call (cx_call hc4 (ent_f hc4.fn rfl) hn0 (show Hp S0 σ0 _ ([Ch.ro 0 (Sl an_0_1 n_0.2 cn_0_1) n_0.2] ++ [Ch.bx lon_0 bn_0 on_0 [(I n_0.1), (Sl an_0_1 n_0.2 cn_0_1)] pren_0 sufn_0, Ch.ro 0 (Sl an_0_1 n_0.2 cn_0_1) n_0.2]) from (H.sel' [1, 0, 1] rfl rfl))) wn ?_
 rintro _ σ6 ⟨_, ⟨b5, rfl, rfl⟩, H, -⟩
 replace H : Hp S0 σ0 σ6 [Ch.bx n0 b5 0 [(Sl an_0_1 n_0.2 cn_0_1)] [] [], Ch.bx lon_0 bn_0 on_0 [(I n_0.1), (Sl an_0_1 n_0.2 cn_0_1)] pren_0 sufn_0, Ch.ro 0 (Sl an_0_1 n_0.2 cn_0_1) n_0.2] := H
 obtain ⟨r7, hx8, h'⟩ := bind_some h
 clear h
 have h := h'; clear h'
 have hc9 := c_slices_SortedFunc_impl_Hit__slices_Values_impl_hitHeap_impl_Hit_1__impl_compareHits (loseq_0_0 := n0) (bseq_0_0 := b5) (oseq_0_0 := 0) (preseq_0_0 := []) (sufseq_0_0 := []) (aseq_0_0 := an_0_1) (cseq_0_0 := cn_0_1) hx8
 refine st_call (cx_call hc9 (ent_f hc9.fn rfl) hn0 (show Hp S0 σ0 _ ([Ch.bx n0 b5 0 [(Sl an_0_1 n_0.2 cn_0_1)] [] [], Ch.ro 0 (Sl an_0_1 n_0.2 cn_0_1) n_0.2] ++ [Ch.bx lon_0 bn_0 on_0 [(I n_0.1), (Sl an_0_1 n_0.2 cn_0_1)] pren_0 sufn_0, Ch.ro 0 (Sl an_0_1 n_0.2 cn_0_1) n_0.2]) from (H.sel' [0, 2, 1, 2] rfl rfl))) wn ?_
 rintro _ σ12 ⟨_, ⟨a10, c11, rfl, rfl⟩, H, -⟩
 replace H : Hp S0 σ0 σ12 [Ch.own 0 n0 (Sl a10 r7 c11) r7, Ch.bx n0 b5 0 [(Sl an_0_1 n_0.2 cn_0_1)] [] [], Ch.bx lon_0 bn_0 on_0 [(I n_0.1), (Sl an_0_1 n_0.2 cn_0_1)] pren_0 sufn_0, Ch.ro 0 (Sl an_0_1 n_0.2 cn_0_1) n_0.2] := H
 refine st (v := (Sl a10 r7 c11)) (rv_assign rfl) ?_
 refine w_end ?_
 refine q_then ?_
 refine c_ret ?_
 obtain rfl := Option.some.inj h
 exact fin_ret (v := (Sl a10 r7 c11)) (results_ok Try.results125 (res_tmp (v := (Sl a10 r7 c11)) rfl res_nil) rfl) ⟨a10, c11, rfl, rfl⟩ (H.sel' [0, 2] rfl rfl)

theorem c_impl_gapsOf {a_0 : List Int} {b_1 : List Int} (hla_0 : a_0.length = 4) (hlb_1 : b_1.length = 4) {r : (List Int)} (h : M.impl_gapsOf a_0 b_1 = some r) :
    Cal2 Try.prog 90 [(.agg (List.map I a_0).toArray), (.agg (List.map I b_1).toArray)] [] (fun n0 v L => v = (.agg (List.map I r).toArray) ∧ L = [] ∧ r.length = 4) := by
 refine cal2 (n := 29) Try.func90 rfl rfl rfl rfl ?_
 intro S0 σ0 n0 hn0 H
 unfold M.impl_gapsOf at h
 refine c_seq ?_
 refine rg ?_
 refine st_ex (ex_box (cs := (List.map I a_0)) H hn0 rfl rfl) wn ?_
 rintro _ σ2 ⟨b1, rfl, H, -⟩
 refine st_ex (ex_box (cs := (List.map I b_1)) H hn0 rfl rfl) wn ?_
 rintro _ σ4 ⟨b3, rfl, H, -⟩
 refine st_ex (ex_alloc (cs := (List.map I (List.replicate 4 0))) H hn0 ti101 rfl) wn ?_
 rintro _ σ6 ⟨b5, rfl, H, -⟩
 refine w_end ?_
 refine q_then ?_
 refine c_seq ?_
 refine rg ?_
 refine st_ex (ex_alloc (cs := (List.map I (List.replicate 4 0))) H hn0 ti101 rfl) wn ?_
 rintro _ σ8 ⟨b7, rfl, H, -⟩
 refine w_end ?_
 refine q_then ?_
 refine c_seq ?_
 refine c_seq ?_
 refine rg ?_
 refine st (v := (I 0)) (rv_move rfl) ?_
 refine w_end ?_
 refine q_then ?_
 obtain ⟨o9, hj, h'⟩ := bind_some h
 clear h
 refine c_cut (fun e a w => e = .normal ∧ ∃ (ρ : Nat → Value) (σ : St), a = fr 29 (updL ρ [(4, (pt b5 0)), (5, (pt b7 0))]) ∧ w = σ.w ∧ Hp S0 σ0 σ [Ch.bx n0 b7 0 (List.map I o9) [] [], Ch.bx n0 b5 0 (List.map I (List.replicate 4 0)) [] []] ∧ o9.length = 4) ?_ ?_
 ·clear h'
  rename _ = some o9 => h
  refine c_blk ?_
  refine wp_loopM _ h (fun s10 a w => ∃ (ρ : Nat → Value) (σ : St), a = fr 29 (updL ρ [(2, (pt b1 0)), (3, (pt b3 0)), (4, (pt b5 0)), (5, (pt b7 0)), (7, (I s10.2))]) ∧ w = σ.w ∧ Hp S0 σ0 σ [Ch.bx n0 b7 0 (List.map I s10.1) [] [], Ch.bx n0 b1 0 (List.map I a_0) [] [], Ch.bx n0 b3 0 (List.map I b_1) [] [], Ch.bx n0 b5 0 (List.map I (List.replicate 4 0)) [] []] ∧ s10.1.length = 4) ⟨_, σ8, fr_join ⟨rfl, rfl, rfl, rfl, rfl, trivial⟩, rfl, H.sel' [0, 3, 2, 1] rfl rfl, rfl⟩ ?_
  clear h H
  rintro s10 a w o ⟨ρ, σ11, rfl, rfl, H, hl12⟩ h hres
  refine c_seq ?_
  refine rg ?_
  refine st (v := (B (decide (s10.2 < 4)))) (rv_lss (a := s10.2) (b := 4) rfl rfl) ?_
  refine w_end ?_
  refine q_then ?_
  refine c_seq ?_
  refine cd_cond (decide (s10.2 < 4)) rfl (fun hb13 => ?_) (fun hb13 => ?_)
  ·replace h := bif_t hb13 h
   refine c_skip ?_
   refine q_then ?_
   refine c_seq ?_
   refine c_blk ?_
   refine c_seq ?_
   refine rg ?_
   refine st (v := (I s10.2)) (rv_move rfl) ?_
   refine st (v := (I s10.2)) (rv_assign rfl) ?_
   refine w_end ?_
   refine q_then ?_
   refine rgP (σ := σ11) 16 (by kernel_rfl) (by kernel_rfl) (by kernel_rfl) ?_
   refine sq (v := (I s10.2)) (rv_move rfl) ?_
   refine sq (v := (I s10.2)) (rv_move rfl) ?_
   obtain ⟨x14, hx15, h'⟩ := bind_some h
   clear h
   have h := h'; clear h'
   have hl16 := gidx_lt hx15 hla_0
   refine sq (v := (pt b1 (0 + s10.2.toNat * 1))) (rv_indexAddr_array Try.underlying101 ti3 rfl rfl hl16.1 hl16.2) ?_
   have hc17 := Hp.arrCell H 1 rfl hx15
   refine sq (v := (I x14)) (rv_load1 Try.underlying3 rfl rfl hc17) ?_
   refine sq (v := (I s10.2)) (rv_move rfl) ?_
   obtain ⟨x18, hx19, h'⟩ := bind_some h
   clear h
   have h := h'; clear h'
   have hl20 := gidx_lt hx19 hlb_1
   refine sq (v := (pt b3 (0 + s10.2.toNat * 1))) (rv_indexAddr_array Try.underlying101 ti3 rfl rfl hl20.1 hl20.2) ?_
   have hc21 := Hp.arrCell H 2 rfl hx19
   refine sq (v := (I x18)) (rv_load1 Try.underlying3 rfl rfl hc21) ?_
   refine sq (v := (I (w64 (x14 - x18)))) (rv_sub (a := x14) (b := x18) rfl rfl) ?_
   refine sq (v := (I s10.2)) (rv_move rfl) ?_
   obtain ⟨x22, hx23, h'⟩ := bind_some h
   clear h
   have h := h'; clear h'
   have hl24 := gidx_lt hx23 hlb_1
   refine sq (v := (pt b3 (0 + s10.2.toNat * 1))) (rv_indexAddr_array Try.underlying101 ti3 rfl rfl hl24.1 hl24.2) ?_
   have hc25 := Hp.arrCell H 2 rfl hx23
   refine sq (v := (I x22)) (rv_load1 Try.underlying3 rfl rfl hc25) ?_
   refine sq (v := (I s10.2)) (rv_move rfl) ?_
   obtain ⟨x26, hx27, h'⟩ := bind_some h
   clear h
   have h := h'; clear h'
   have hl28 := gidx_lt hx27 hla_0
   refine sq (v := (pt b1 (0 + s10.2.toNat * 1))) (rv_indexAddr_array Try.underlying101 ti3 rfl rfl hl28.1 hl28.2) ?_
   have hc29 := Hp.arrCell H 1 rfl hx27
   refine sq (v := (I x26)) (rv_load1 Try.underlying3 rfl rfl hc29) ?_
   refine sq (v := (I (w64 (x22 - x26)))) (rv_sub (a := x22) (b := x26) rfl rfl) ?_
   refine sq (v := (I (max (w64 (x14 - x18)) (w64 (x22 - x26))))) (rv_max rfl rfl) ?_
   refine sq_end ?_
   intro σ30 hm31
   replace H := H.grow (hm31.mono fun _ h => h); clear hm31
   obtain ⟨x32, hx33, h'⟩ := bind_some h
   clear h
   have h := h'; clear h'
   have hl34 := gidx_lt hx33 hl12
   refine st (v := (pt b7 (0 + s10.2.toNat * 1))) (rv_indexAddr_array Try.underlying101 ti3 rfl rfl hl34.1 hl34.2) ?_
   have hl35 := gidx_lt hx33 hl12
   refine st_exS (ex_store_box (k := s10.2.toNat * 1) (vs := [(I (max (w64 (x14 - x18)) (w64 (x22 - x26))))]) (cs' := (List.map I (s10.1.set s10.2.toNat (max (w64 (x14 - x18)) (w64 (x22 - x26)))))) H (i := 0) rfl ti3 rfl rfl rfl rfl rfl (by rw [List.length_map, hl12]; simp; omega) (by simp [plain]) (arr_set' _ _ _)) wn ?_
   rintro σ36 ⟨H, -⟩
   refine w_end ?_
   refine q_blk ?_
   refine q_then ?_
   refine rg ?_
   refine st (v := (I (w64 (s10.2 + 1)))) (rv_add (a := s10.2) (b := 1) rfl rfl) ?_
   refine st (v := (I (w64 (s10.2 + 1)))) (rv_move rfl) ?_
   refine w_end ?_
   refine q_then ?_
   obtain rfl := Option.some.inj h
   exact ⟨_, rfl, _, σ36, fr_join ⟨rfl, rfl, rfl, rfl, rfl, trivial⟩, rfl, H.sel' [0, 1, 2, 3] rfl rfl, (set_len hl12)⟩
  ·replace h := bif_f hb13 h
   refine c_exit ?_
   refine q_then_x ?_
   refine q_then_x ?_
   refine q_blk_hit ?_
   obtain rfl := Option.some.inj h
   obtain rfl := hres _ rfl
   exact ⟨rfl, _, σ11, fr_join ⟨rfl, rfl, trivial⟩, rfl, H.sel' [0, 3] rfl rfl, hl12⟩
 ·clear hj
  have h := h'
  clear h' H
  rintro e a w ⟨rfl, ρ, σ37, rfl, rfl, H, hl38⟩
  refine q_then ?_
  refine c_seq ?_
  refine rg ?_
  have hc39 := H.cells 0 rfl
  refine st (v := (.agg (List.map I o9).toArray)) (rv_load (cs := (List.map I o9)) Try.underlying101 rfl ti101 rfl (by rw [List.length_map]; exact hl38) hc39) ?_
  refine st_exS (ex_store_box (k := 0) (cs := (List.map I (List.replicate 4 0))) (vs := (List.map I o9)) (cs' := (List.map I o9)) H (i := 1) rfl ti101 rfl rfl rfl rfl ((List.length_map _).trans hl38) (arr_fits (k := 4) hl38 rfl) (plain_ints _) (arr_all (k := 4) hl38 rfl)) wn ?_
  rintro σ40 ⟨H, -⟩
  refine w_end ?_
  refine q_then ?_
  refine c_ret ?_
  obtain rfl := Option.some.inj h
  exact fin_ret (v := (.agg (List.map I o9).toArray)) (results_ok Try.results90 (res_cell rfl (run_cellRes (cs := (List.map I o9)) Try.underlying101 rfl ti101 (by rw [List.length_map]; exact hl38) (H.cells 0 rfl)) res_nil) rfl) ⟨rfl, rfl, hl38⟩ (H.sel' [] rfl rfl)

theorem c_impl_distanceOf {kind_0 : Int} {gaps_1 : List Int} (hlgaps_1 : gaps_1.length = 4) {r : Int} (h : M.impl_distanceOf kind_0 gaps_1 = some r) :
    Cal2 Try.prog 89 [(I kind_0), (.agg (List.map I gaps_1).toArray)] [] (fun n0 v L => v = (I r) ∧ L = []) := by
 refine cal2 (n := 38) Try.func89 rfl rfl rfl rfl ?_
 intro S0 σ0 n0 hn0 H
 unfold M.impl_distanceOf at h
 refine c_seq ?_
 refine rg ?_
 refine st_ex (ex_box (cs := (List.map I gaps_1)) H hn0 rfl rfl) wn ?_
 rintro _ σ2 ⟨b1, rfl, H, -⟩
 refine st (v := (I 0)) (rv_assign rfl) ?_
 refine w_end ?_
 refine q_then ?_
 refine c_seq ?_
 refine rg ?_
 refine st (v := (I 0)) (rv_assign rfl) ?_
 refine w_end ?_
 refine q_then ?_
 refine c_seq ?_
 refine c_seq ?_
 refine rg ?_
 have hc3 := H.cells 0 rfl
 refine st (v := (.agg (List.map I gaps_1).toArray)) (rv_load (cs := (List.map I gaps_1)) Try.underlying101 rfl ti101 rfl (by rw [List.length_map]; exact hlgaps_1) hc3) ?_
 refine st (v := (I 0)) (rv_move rfl) ?_
 refine w_end ?_
 refine q_then ?_
 obtain ⟨o4, hj, h'⟩ := bind_some h
 clear h
 refine c_cut (fun e a w => (∃ t, o4 = (.inl t) ∧ e = .normal ∧ ∃ (ρ : Nat → Value) (σ : St), a = fr 38 (updL ρ [(5, (I t))]) ∧ w = σ.w ∧ Hp S0 σ0 σ []) ∨ (∃ t, o4 = (.inr t) ∧ e = .ret ∧ ∃ (ρ : Nat → Value) (σ : St), a = fr 38 (updL ρ [(4, (I t))]) ∧ w = σ.w ∧ Hp S0 σ0 σ [])) ?_ ?_
 ·clear h'
  rename _ = some o4 => h
  refine c_blk ?_
  refine wp_loopM _ h (fun s5 a w => ∃ (ρ : Nat → Value) (σ : St), a = fr 38 (updL ρ [(0, (I kind_0)), (5, (I s5.1)), (8, (.agg (List.map I gaps_1).toArray)), (9, (I s5.2))]) ∧ w = σ.w ∧ Hp S0 σ0 σ []) ⟨_, σ2, fr_join ⟨rfl, rfl, rfl, rfl, trivial⟩, rfl, H.sel' [] rfl rfl⟩ ?_
  clear h H
  rintro s5 a w o ⟨ρ, σ6, rfl, rfl, H⟩ h hres
  refine c_seq ?_
  refine rg ?_
  refine st (v := (B (decide (s5.2 < 4)))) (rv_lss (a := s5.2) (b := 4) rfl rfl) ?_
  refine w_end ?_
  refine q_then ?_
  refine c_seq ?_
  refine cd_cond (decide (s5.2 < 4)) rfl (fun hb7 => ?_) (fun hb7 => ?_)
  ·replace h := bif_t hb7 h
   refine c_skip ?_
   refine q_then ?_
   refine c_seq ?_
   obtain ⟨o8, hj, h'⟩ := bind_some h
   clear h
   refine c_cut (fun e a w => (∃ t, o8 = (.inl t) ∧ e = .normal ∧ ∃ (ρ : Nat → Value) (σ : St), a = fr 38 (updL ρ [(0, (I kind_0)), (5, (I t)), (8, (.agg (List.map I gaps_1).toArray)), (9, (I s5.2))]) ∧ w = σ.w ∧ Hp S0 σ0 σ []) ∨ (∃ t, o8 = (.inr t) ∧ e = .ret ∧ ∃ (ρ : Nat → Value) (σ : St), a = fr 38 (updL ρ [(4, (I t))]) ∧ w = σ.w ∧ Hp S0 σ0 σ [])) ?_ ?_
   ·clear h'
    rename _ = some o8 => h
    refine c_blk ?_
    refine c_seq ?_
    refine rg ?_
    obtain ⟨x9, hx10, h'⟩ := bind_some h
    clear h
    have h := h'; clear h'
    refine st (v := (I x9)) (rv_idx Try.underlying101 ti3 Try.underlying3 rfl rfl hx10 hlgaps_1) ?_
    refine st (v := (I x9)) (rv_assign rfl) ?_
    refine w_end ?_
    refine q_then ?_
    refine c_seq ?_
    refine rg ?_
    refine st (v := (I kind_0)) (rv_move rfl) ?_
    refine w_end ?_
    refine q_then ?_
    refine c_blk ?_
    refine c_seq ?_
    refine rg ?_
    refine st (v := (B (kind_0 == 1))) (rv_eql (a := kind_0) (b := 1) rfl rfl) ?_
    refine st (v := (B (kind_0 == 1))) (rv_assign rfl) ?_
    refine w_end ?_
    refine q_then ?_
    refine cd_cond (kind_0 == 1) rfl (fun hb11 => ?_) (fun hb11 => ?_)
    ·replace h := bif_t hb11 h
     refine rg ?_
     refine st (v := (I s5.1)) (rv_move rfl) ?_
     refine st (v := (I x9)) (rv_move rfl) ?_
     refine st (v := (I (w64 (s5.1 + x9)))) (rv_add (a := s5.1) (b := x9) rfl rfl) ?_
     refine st (v := (I (w64 (s5.1 + x9)))) (rv_assign rfl) ?_
     refine w_end ?_
     refine q_blk ?_
     refine q_blk ?_
     obtain rfl := Option.some.inj h
     exact .inl ⟨_, rfl, rfl, _, σ6, fr_join ⟨rfl, rfl, rfl, rfl, trivial⟩, rfl, H.sel' [] rfl rfl⟩
    ·replace h := bif_f hb11 h
     refine c_seq ?_
     refine rg ?_
     refine st (v := (B (kind_0 == 2))) (rv_eql (a := kind_0) (b := 2) rfl rfl) ?_
     refine st (v := (B (kind_0 == 2))) (rv_assign rfl) ?_
     refine w_end ?_
     refine q_then ?_
     refine cd_cond (kind_0 == 2) rfl (fun hb12 => ?_) (fun hb12 => ?_)
     ·replace h := bif_t hb12 h
      refine rg ?_
      refine st (v := (I s5.1)) (rv_move rfl) ?_
      refine st (v := (I x9)) (rv_move rfl) ?_
      refine st (v := (I (max s5.1 x9))) (rv_max rfl rfl) ?_
      refine st (v := (I (max s5.1 x9))) (rv_assign rfl) ?_
      refine w_end ?_
      refine q_blk ?_
      refine q_blk ?_
      obtain rfl := Option.some.inj h
      exact .inl ⟨_, rfl, rfl, _, σ6, fr_join ⟨rfl, rfl, rfl, rfl, trivial⟩, rfl, H.sel' [] rfl rfl⟩
     ·replace h := bif_f hb12 h
      refine c_seq ?_
      refine rg ?_
      refine st (v := (B (kind_0 == 3))) (rv_eql (a := kind_0) (b := 3) rfl rfl) ?_
      refine st (v := (B (kind_0 == 3))) (rv_assign rfl) ?_
      refine w_end ?_
      refine q_then ?_
      refine cd_cond (kind_0 == 3) rfl (fun hb13 => ?_) (fun hb13 => ?_)
      ·replace h := bif_t hb13 h
       refine rg ?_
       refine st (v := (I s5.1)) (rv_move rfl) ?_
       refine st (v := (I x9)) (rv_move rfl) ?_
       refine st (v := (I x9)) (rv_move rfl) ?_
       refine st (v := (I (w64 (x9 * x9)))) (rv_mul (a := x9) (b := x9) rfl rfl) ?_
       refine st (v := (I (w64 (s5.1 + (w64 (x9 * x9)))))) (rv_add (a := s5.1) (b := (w64 (x9 * x9))) rfl rfl) ?_
       refine st (v := (I (w64 (s5.1 + (w64 (x9 * x9)))))) (rv_assign rfl) ?_
       refine w_end ?_
       refine q_blk ?_
       refine q_blk ?_
       obtain rfl := Option.some.inj h
       exact .inl ⟨_, rfl, rfl, _, σ6, fr_join ⟨rfl, rfl, rfl, rfl, trivial⟩, rfl, H.sel' [] rfl rfl⟩
      ·replace h := bif_f hb13 h
       refine c_seq ?_
       refine rg ?_
       refine st (v := (B (kind_0 == 4))) (rv_eql (a := kind_0) (b := 4) rfl rfl) ?_
       refine st (v := (B (kind_0 == 4))) (rv_assign rfl) ?_
       refine w_end ?_
       refine q_then ?_
       refine cd_cond (kind_0 == 4) rfl (fun hb14 => ?_) (fun hb14 => ?_)
       ·replace h := bif_t hb14 h
        refine rg ?_
        refine st (v := (I s5.1)) (rv_move rfl) ?_
        refine st (v := (I x9)) (rv_move rfl) ?_
        refine st (v := (I (min x9 1))) (rv_min rfl rfl) ?_
        refine st (v := (I (w64 (s5.1 + (min x9 1))))) (rv_add (a := s5.1) (b := (min x9 1)) rfl rfl) ?_
        refine st (v := (I (w64 (s5.1 + (min x9 1))))) (rv_assign rfl) ?_
        refine w_end ?_
        refine q_blk ?_
        refine q_blk ?_
        obtain rfl := Option.some.inj h
        exact .inl ⟨_, rfl, rfl, _, σ6, fr_join ⟨rfl, rfl, rfl, rfl, trivial⟩, rfl, H.sel' [] rfl rfl⟩
       ·replace h := bif_f hb14 h
        refine c_seq ?_
        refine rg ?_
        refine st (v := (I (-1))) (rv_assign rfl) ?_
        refine w_end ?_
        refine q_then ?_
        refine c_ret ?_
        refine q_blk_r ?_
        refine q_blk_r ?_
        obtain rfl := Option.some.inj h
        exact .inr (⟨_, rfl, rfl, _, σ6, fr_join ⟨rfl, trivial⟩, rfl, H.sel' [] rfl rfl⟩)
   ·clear hj
    have h := h'
    clear h' H
    rintro e a w (⟨t15, rfl, rfl, ρ, σ16, rfl, rfl, H⟩ | ⟨t17, rfl, rfl, ρ, σ18, rfl, rfl, H⟩)
    ·replace h := selim_l h
     refine q_then ?_
     refine rg ?_
     refine st (v := (I (w64 (s5.2 + 1)))) (rv_add (a := s5.2) (b := 1) rfl rfl) ?_
     refine st (v := (I (w64 (s5.2 + 1)))) (rv_move rfl) ?_
     refine w_end ?_
     refine q_then ?_
     obtain rfl := Option.some.inj h
     exact ⟨_, rfl, _, σ16, fr_join ⟨rfl, rfl, rfl, rfl, trivial⟩, rfl, H.sel' [] rfl rfl⟩
    ·replace h := selim_r h
     refine q_then_r ?_
     refine q_then_r ?_
     refine q_blk_r ?_
     obtain rfl := Option.some.inj h
     obtain rfl := hres _ rfl
     exact .inr (⟨_, rfl, rfl, _, σ18, fr_join ⟨rfl, trivial⟩, rfl, H.sel' [] rfl rfl⟩)
  ·replace h := bif_f hb7 h
   refine c_exit ?_
   refine q_then_x ?_
   refine q_then_x ?_
   refine q_blk_hit ?_
   obtain rfl := Option.some.inj h
   obtain rfl := hres _ rfl
   exact .inl ⟨_, rfl, rfl, _, σ6, fr_join ⟨rfl, trivial⟩, rfl, H.sel' [] rfl rfl⟩
 ·clear hj
  have h := h'
  clear h' H
  rintro e a w (⟨t19, rfl, rfl, ρ, σ20, rfl, rfl, H⟩ | ⟨t21, rfl, rfl, ρ, σ22, rfl, rfl, H⟩)
  ·replace h := selim_l h
   refine q_then ?_
   refine c_seq ?_
   refine rg ?_
   refine st (v := (I t19)) (rv_move rfl) ?_
   refine st (v := (I t19)) (rv_assign rfl) ?_
   refine w_end ?_
   refine q_then ?_
   refine c_ret ?_
   obtain rfl := Option.some.inj h
   exact fin_ret (v := (I t19)) (results_ok Try.results89 (res_tmp (v := (I t19)) rfl res_nil) rfl) ⟨rfl, rfl⟩ (H.sel' [] rfl rfl)
  ·replace h := selim_r h
   refine q_then_r ?_
   obtain rfl := Option.some.inj h
   exact fin_ret (v := (I t21)) (results_ok Try.results89 (res_tmp (v := (I t21)) rfl res_nil) rfl) ⟨rfl, rfl⟩ (H.sel' [] rfl rfl)

theorem c_impl_Distance {kind_0 : Int} {a_1 : List Int} {b_2 : List Int} {aa_1 : Option Addr} {ca_1 : Nat} {ab_2 : Option Addr} {cb_2 : Nat} {r : Int} (h : M.impl_Distance kind_0 a_1 b_2 = some r) :
    Cal2 Try.prog 57 [(I kind_0), (Sl aa_1 a_1 ca_1), (Sl ab_2 b_2 cb_2)] [Ch.ro 0 (Sl aa_1 a_1 ca_1) a_1, Ch.ro 0 (Sl ab_2 b_2 cb_2) b_2] (fun n0 v L => v = (I r) ∧ L = []) := by
 refine cal2 (n := 24) Try.func57 rfl rfl rfl rfl ?_
 intro S0 σ0 n0 hn0 H
 unfold M.impl_Distance at h
 refine c_seq ?_
 refine rg ?_
 refine st (v := (I 0)) (rv_assign rfl) ?_
 refine w_end ?_
 refine q_then ?_
 refine c_seq ?_
 refine c_seq ?_
 obtain ⟨o1, hj, h'⟩ := bind_some h
 clear h
 refine c_cut (fun e a w => e = .normal ∧ ∃ (ρ : Nat → Value) (σ : St), a = fr 24 (updL ρ [(0, (I kind_0)), (1, (Sl aa_1 a_1 ca_1)), (2, (Sl ab_2 b_2 cb_2)), (14, (B o1))]) ∧ w = σ.w ∧ Hp S0 σ0 σ [Ch.ro 0 (Sl aa_1 a_1 ca_1) a_1, Ch.ro 0 (Sl ab_2 b_2 cb_2) b_2]) ?_ ?_
 ·clear h'
  rename _ = some o1 => h
  refine rg ?_
  refine st (v := (Sl aa_1 a_1 ca_1)) (rv_move rfl) ?_
  obtain ⟨r2, hx3, h'⟩ := bind_some h
  clear h
  have h := h'; clear h'
  have hc4 := c_impl_ValidVector (av_0 := aa_1) (cv_0 := ca_1) hx3
  refine st_call (cx_call hc4 (ent_f hc4.fn rfl) hn0 (show Hp S0 σ0 _ ([Ch.ro 0 (Sl aa_1 a_1 ca_1) a_1] ++ [Ch.ro 0 (Sl aa_1 a_1 ca_1) a_1, Ch.ro 0 (Sl ab_2 b_2 cb_2) b_2]) from (H.sel' [0, 0, 1] rfl rfl))) wn ?_
  rintro _ σ5 ⟨_, ⟨rfl, rfl⟩, H, -⟩
  replace H : Hp S0 σ0 σ5 [Ch.ro 0 (Sl aa_1 a_1 ca_1) a_1, Ch.ro 0 (Sl ab_2 b_2 cb_2) b_2] := H
  refine st (v := (B (!r2))) (rv_not rfl) ?_
  refine st (v := (B (!r2))) (rv_move rfl) ?_
  rcases Bool.eq_false_or_eq_true (!r2) with hb6 | hb6
  ·replace h := bif_t hb6 h
   refine st_skip (congrArg some hb6) ?_
   refine st_skip (congrArg some hb6) ?_
   refine st_skip (congrArg some hb6) ?_
   refine st (v := (B true)) (rv_pick_t (congrArg B hb6) rfl) ?_
   refine w_end ?_
   obtain rfl := Option.some.inj h
   exact ⟨rfl, _, σ5, fr_join ⟨rfl, rfl, rfl, rfl, trivial⟩, rfl, H.sel' [0, 1] rfl rfl⟩
  ·replace h := bif_f hb6 h
   refine st_g (v := (Sl ab_2 b_2 cb_2)) (congrArg some hb6) (rv_move rfl) ?_
   obtain ⟨r7, hx8, h'⟩ := bind_some h
   clear h
   have h := h'; clear h'
   have hc9 := c_impl_ValidVector (av_0 := ab_2) (cv_0 := cb_2) hx8
   refine st_call (cx_call hc9 (ent_f hc9.fn rfl) hn0 (show Hp S0 σ0 _ ([Ch.ro 0 (Sl ab_2 b_2 cb_2) b_2] ++ [Ch.ro 0 (Sl aa_1 a_1 ca_1) a_1, Ch.ro 0 (Sl ab_2 b_2 cb_2) b_2]) from (H.sel' [1, 0, 1] rfl rfl))) (wanted_yes rfl (by exact (congrArg some hb6))) ?_
   rintro _ σ10 ⟨_, ⟨rfl, rfl⟩, H, -⟩
   replace H : Hp S0 σ0 σ10 [Ch.ro 0 (Sl aa_1 a_1 ca_1) a_1, Ch.ro 0 (Sl ab_2 b_2 cb_2) b_2] := H
   refine st_g (v := (B (!r7))) (congrArg some hb6) (rv_not rfl) ?_
   refine st (v := (B (!r7))) (rv_pick_f (congrArg B hb6) rfl) ?_
   refine w_end ?_
   obtain rfl := Option.some.inj h
   exact ⟨rfl, _, σ10, fr_join ⟨rfl, rfl, rfl, rfl, trivial⟩, rfl, H.sel' [0, 1] rfl rfl⟩
 ·clear hj
  have h := h'
  clear h' H
  rintro e a w ⟨rfl, ρ, σ11, rfl, rfl, H⟩
  refine q_then ?_
  refine cd_cond o1 rfl (fun hb12 => ?_) (fun hb12 => ?_)
  ·replace h := bif_t hb12 h
   refine c_seq ?_
   refine rg ?_
   refine st (v := (I (-1))) (rv_assign rfl) ?_
   refine w_end ?_
   refine q_then ?_
   refine c_ret ?_
   refine q_then_r ?_
   obtain rfl := Option.some.inj h
   exact fin_ret (v := (I (-1))) (results_ok Try.results57 (res_tmp (v := (I (-1))) rfl res_nil) rfl) ⟨rfl, rfl⟩ (H.sel' [] rfl rfl)
  ·replace h := bif_f hb12 h
   refine c_skip ?_
   refine q_then ?_
   refine c_seq ?_
   obtain ⟨xs13, hx14, h'⟩ := bind_some h
   clear h
   have h := h'; clear h'
   obtain ⟨hl18, hq19⟩ := garr_some hx14
   clear hx14 hq19
   obtain ⟨b15, o16, rfl, hc17⟩ := (H.ro 0 rfl).arr (Nat.lt_of_lt_of_le (by decide) hl18)
   obtain ⟨xs20, hx21, h'⟩ := bind_some h
   clear h
   have h := h'; clear h'
   obtain ⟨hl25, hq26⟩ := garr_some hx21
   clear hx21 hq26
   obtain ⟨b22, o23, rfl, hc24⟩ := (H.ro 1 rfl).arr (Nat.lt_of_lt_of_le (by decide) hl25)
   obtain ⟨r27, hx28, h'⟩ := bind_some h
   clear h
   have h := h'; clear h'
   have hc29 := c_impl_gapsOf (by rw [List.length_take]; have := hl18; omega) (by rw [List.length_take]; have := hl25; omega) hx28
   have Hs := H
   refine rg2 (σ := σ11) (Nm := Unit) 8 [7] [[false], [true]] [[(0, 0), (1, 1)], [(0, 0)], [(0, 0)], [(0, 0)], [(0, 0)], [(0, 0)], [(0, 0)], [(0, 1)]] 1 [fun _ => fun σm => Hp S0 σ0 σm [Ch.ro 0 (Sl (some ⟨b15, o16, none⟩) a_1 ca_1) a_1, Ch.ro 0 (Sl (some ⟨b22, o23, none⟩) b_2 cb_2) b_2] ∧ Md (cov []) σ11 σm, fun _ => fun σm => Hp S0 σ0 σm [Ch.ro 0 (Sl (some ⟨b15, o16, none⟩) a_1 ca_1) a_1, Ch.ro 0 (Sl (some ⟨b22, o23, none⟩) b_2 cb_2) b_2] ∧ Md (cov []) σ11 σm ∧ r27.length = 4] [fun _ => (I kind_0), fun _ => (Sl (some ⟨b15, o16, none⟩) a_1 ca_1), fun _ => (.pointer (some ⟨b15, o16, none⟩)), fun _ => (.agg (List.map I (List.take 4 a_1)).toArray), fun _ => (Sl (some ⟨b22, o23, none⟩) b_2 cb_2), fun _ => (.pointer (some ⟨b22, o23, none⟩)), fun _ => (.agg (List.map I (List.take 4 b_2)).toArray), fun _ => (.agg (List.map I r27).toArray)] () (by kernel_rfl) (by kernel_rfl) ?_ ?_ ?_
   ·intro σm m0
    exact ⟨H.grow (m0.mono fun _ h => h.elim), m0⟩
   ·refine ac rfl (by
      intro k _nm ρ σm hJ hoff hdep
      have e0 := look_off (N := 24) (hoff 0 rfl) rfl
      exact dp_v (v := (I kind_0)) wn (rv_move e0) rfl hJ) ?_
    refine ac rfl (by
      intro k _nm ρ σm hJ hoff hdep
      have e1 := look_off (N := 24) (hoff 1 rfl) rfl
      exact dp_v (v := (Sl (some ⟨b15, o16, none⟩) a_1 ca_1)) wn (rv_move e1) rfl hJ) ?_
    refine ac rfl (by
      intro k _nm ρ σm hJ hoff hdep
      have e16 := hdep 1 rfl rfl 16 rfl
      exact dp_v (v := (.pointer (some ⟨b15, o16, none⟩))) wn (rv_arrPtr Try.underlying101 e16 hl18) rfl hJ) ?_
    refine all_cons (by
      refine ⟨?_, ?_⟩
      ·intro _nm ρ σm hJ hoff hdep
       have e17 := hdep 2 rfl rfl 17 rfl
       obtain ⟨H, m⟩ := id hJ
       replace hc17 := (Hs.ro 0 rfl).arr_md hc17 m
       exact dp_v (v := (.agg (List.map I (List.take 4 a_1)).toArray)) wn (rv_load (cs := List.map I (List.take 4 a_1)) Try.underlying101 rfl ti101 e17 (by rw [List.length_map, List.length_take]; have := hl18; omega) (arr_take hc17)) rfl hJ
      trivial) ?_
    refine ac rfl (by
      intro k _nm ρ σm hJ hoff hdep
      have e2 := look_off (N := 24) (hoff 2 rfl) rfl
      exact dp_v (v := (Sl (some ⟨b22, o23, none⟩) b_2 cb_2)) wn (rv_move e2) rfl hJ) ?_
    refine ac rfl (by
      intro k _nm ρ σm hJ hoff hdep
      have e19 := hdep 4 rfl rfl 19 rfl
      exact dp_v (v := (.pointer (some ⟨b22, o23, none⟩))) wn (rv_arrPtr Try.underlying101 e19 hl25) rfl hJ) ?_
    refine all_cons (by
      refine ⟨?_, ?_⟩
      ·intro _nm ρ σm hJ hoff hdep
       have e20 := hdep 5 rfl rfl 20 rfl
       obtain ⟨H, m⟩ := id hJ
       replace hc24 := (Hs.ro 1 rfl).arr_md hc24 m
       exact dp_v (v := (.agg (List.map I (List.take 4 b_2)).toArray)) wn (rv_load (cs := List.map I (List.take 4 b_2)) Try.underlying101 rfl ti101 e20 (by rw [List.length_map, List.length_take]; have := hl25; omega) (arr_take hc24)) rfl hJ
      trivial) ?_
    refine all_cons (by
      refine ⟨?_, ?_⟩
      ·intro _nm ρ σm hJ hoff hdep
       have e18 : look 24 ρ 18 = (.agg (List.map I (List.take 4 a_1)).toArray) := hdep 3 rfl rfl 18 rfl
       have e21 : look 24 ρ 21 = (.agg (List.map I (List.take 4 b_2)).toArray) := hdep 6 rfl rfl 21 rfl
       obtain ⟨H, m⟩ := id hJ
       refine dp_cx wn (cx_call hc29 (ent_f hc29.fn (by show [look 24 ρ 18, look 24 ρ 21] = _; rw [e18, e21])) hn0 (show Hp S0 σ0 _ ([] ++ [Ch.ro 0 (Sl (some ⟨b15, o16, none⟩) a_1 ca_1) a_1, Ch.ro 0 (Sl (some ⟨b22, o23, none⟩) b_2 cb_2) b_2]) from (H.sel' [0, 1] rfl rfl))) ?_
       rintro _ σq ⟨_, ⟨rfl, rfl, hl30⟩, H2, m2⟩
       exact ⟨_, (), rfl, rfl, ⟨H2.sel' [0, 1] rfl rfl, m.comp0 m2, hl30⟩, stab [0, 1, 2, 3, 4, 5, 6] (by kernel_rfl) ⟨rfl, rfl, rfl, rfl, rfl, rfl, rfl, trivial⟩⟩
      trivial) ?_
    exact all_nil
   ·intro _nm ρ σ31 hJ hoff hrel
    have e15 := hrel 0 rfl 15 rfl
    have e22 := hrel 7 rfl 22 rfl
    obtain ⟨H, -, hl30⟩ := (show Hp S0 σ0 σ31 [Ch.ro 0 (Sl (some ⟨b15, o16, none⟩) a_1 ca_1) a_1, Ch.ro 0 (Sl (some ⟨b22, o23, none⟩) b_2 cb_2) b_2] ∧ Md (cov []) σ11 σ31 ∧ r27.length = 4 from hJ)
    clear hJ Hs
    rw [fr_lookL (L := [(15, (I kind_0)), (22, (.agg (List.map I r27).toArray))]) ⟨e15, e22, trivial⟩]
    clear hoff hrel e15 e22
    obtain ⟨r32, hx33, h'⟩ := bind_some h
    clear h
    have h := h'; clear h'
    have hc34 := c_impl_distanceOf hl30 hx33
    refine st_call (cx_call hc34 (ent_f hc34.fn rfl) hn0 (show Hp S0 σ0 _ ([] ++ [Ch.ro 0 (Sl (some ⟨b15, o16, none⟩) a_1 ca_1) a_1, Ch.ro 0 (Sl (some ⟨b22, o23, none⟩) b_2 cb_2) b_2]) from (H.sel' [0, 1] rfl rfl))) wn ?_
    rintro _ σ35 ⟨_, ⟨rfl, rfl⟩, H, -⟩
    replace H : Hp S0 σ0 σ35 [Ch.ro 0 (Sl (some ⟨b15, o16, none⟩) a_1 ca_1) a_1, Ch.ro 0 (Sl (some ⟨b22, o23, none⟩) b_2 cb_2) b_2] := H
    refine st (v := (I r32)) (rv_assign rfl) ?_
    refine w_end ?_
    refine q_then ?_
    refine c_ret ?_
    obtain rfl := Option.some.inj h
    exact fin_ret (v := (I r32)) (results_ok Try.results57 (res_tmp (v := (I r32)) rfl res_nil) rfl) ⟨rfl, rfl⟩ (H.sel' [] rfl rfl)

theorem c_impl_nearestAmong_1__p3__p24 {x_0 : Int × (List Int) × Int} {p_1 : Int} {p_2 : List Int} {ax_0_1 : Option Addr} {cx_0_1 : Nat} {lop_1 bp_1 op_1 : Nat} {prep_1 sufp_1 : List Value} {ap_2 : Option Addr} {cp_2 : Nat} {lop_2 bp_2 op_2 : Nat} {prep_2 sufp_2 : List Value} {r : Int} (h : M.impl_nearestAmong_1__p3__p24 x_0 p_1 p_2 = some r) :
    Cal2 Try.prog 107 [(.agg #[(I x_0.1), (Sl ax_0_1 x_0.2.1 cx_0_1), (I x_0.2.2)]), (pt bp_1 op_1), (pt bp_2 op_2)] [Ch.ro 0 (Sl ax_0_1 x_0.2.1 cx_0_1) x_0.2.1, Ch.bx lop_1 bp_1 op_1 [(I p_1)] prep_1 sufp_1, Ch.bx lop_2 bp_2 op_2 [(Sl ap_2 p_2 cp_2)] prep_2 sufp_2, Ch.ro 0 (Sl ap_2 p_2 cp_2) p_2] (fun n0 v L => v = (I r) ∧ L = [Ch.bx lop_1 bp_1 op_1 [(I p_1)] prep_1 sufp_1, Ch.bx lop_2 bp_2 op_2 [(Sl ap_2 p_2 cp_2)] prep_2 sufp_2]) := by
 refine cal2 (n := 10) Try.func107 rfl rfl rfl rfl ?_
 intro S0 σ0 n0 hn0 H
 unfold M.impl_nearestAmong_1__p3__p24 at h
 refine c_seq ?_
 refine rg ?_
 refine st_ex (ex_box (cs := [(I x_0.1), (Sl ax_0_1 x_0.2.1 cx_0_1), (I x_0.2.2)]) H hn0 rfl rfl) wn ?_
 rintro _ σ2 ⟨b1, rfl, H, -⟩
 refine st (v := (I 0)) (rv_assign rfl) ?_
 refine w_end ?_
 refine q_then ?_
 refine c_seq ?_
 refine rg ?_
 have hc3 := H.cell (u := (I p_1)) (o' := op_1) 2 0 rfl rfl rfl
 refine st (v := (I p_1)) (rv_load1 Try.underlying3 rfl rfl hc3) ?_
 refine st (v := (pt b1 1)) (rv_fieldAddr (off := 1) (ft := 30) Try.underlying32 rfl ti30 rfl rfl) ?_
 have hc4 := H.cell (u := (Sl ax_0_1 x_0.2.1 cx_0_1)) (o' := 1) 0 1 rfl rfl rfl
 refine st (v := (Sl ax_0_1 x_0.2.1 cx_0_1)) (rv_load1 Try.underlying30 rfl rfl hc4) ?_
 have hc5 := H.cell (u := (Sl ap_2 p_2 cp_2)) (o' := op_2) 3 0 rfl rfl rfl
 refine st (v := (Sl ap_2 p_2 cp_2)) (rv_load1 Try.underlying30 rfl rfl hc5) ?_
 obtain ⟨r6, hx7, h'⟩ := bind_some h
 clear h
 have h := h'; clear h'
 have hc8 := c_impl_Distance (aa_1 := ax_0_1) (ca_1 := cx_0_1) (ab_2 := ap_2) (cb_2 := cp_2) hx7
 refine st_call (cx_call hc8 (ent_f hc8.fn rfl) hn0 (show Hp S0 σ0 _ ([Ch.ro 0 (Sl ax_0_1 x_0.2.1 cx_0_1) x_0.2.1, Ch.ro 0 (Sl ap_2 p_2 cp_2) p_2] ++ [Ch.bx n0 b1 0 [(I x_0.1), (Sl ax_0_1 x_0.2.1 cx_0_1), (I x_0.2.2)] [] [], Ch.ro 0 (Sl ax_0_1 x_0.2.1 cx_0_1) x_0.2.1, Ch.bx lop_1 bp_1 op_1 [(I p_1)] prep_1 sufp_1, Ch.bx lop_2 bp_2 op_2 [(Sl ap_2 p_2 cp_2)] prep_2 sufp_2, Ch.ro 0 (Sl ap_2 p_2 cp_2) p_2]) from (H.sel' [1, 4, 0, 1, 2, 3, 4] rfl rfl))) wn ?_
 rintro _ σ9 ⟨_, ⟨rfl, rfl⟩, H, -⟩
 replace H : Hp S0 σ0 σ9 [Ch.bx n0 b1 0 [(I x_0.1), (Sl ax_0_1 x_0.2.1 cx_0_1), (I x_0.2.2)] [] [], Ch.ro 0 (Sl ax_0_1 x_0.2.1 cx_0_1) x_0.2.1, Ch.bx lop_1 bp_1 op_1 [(I p_1)] prep_1 sufp_1, Ch.bx lop_2 bp_2 op_2 [(Sl ap_2 p_2 cp_2)] prep_2 sufp_2, Ch.ro 0 (Sl ap_2 p_2 cp_2) p_2] := H
 refine st (v := (I r6)) (rv_assign rfl) ?_
 refine w_end ?_
 refine q_then ?_
 refine c_ret ?_
 obtain rfl := Option.some.inj h
 exact fin_ret (v := (I r6)) (results_ok Try.results107 (res_tmp (v := (I r6)) rfl res_nil) rfl) ⟨rfl, rfl⟩ (H.sel' [2, 3] rfl rfl)

theorem c_impl_nearestBy__impl_nearestAmong_1 {list_0 : List (Int × (List Int) × Int)} {k_1 : Int} {dist_2_0 : Int} {dist_2_1 : List Int} {alist_0 : Option Addr} {clist_0 : Nat} {lodist_2_0 bdist_2_0 odist_2_0 : Nat} {predist_2_0 sufdist_2_0 : List Value} {adist_2_1 : Option Addr} {cdist_2_1 : Nat} {lodist_2_1 bdist_2_1 odist_2_1 : Nat} {predist_2_1 sufdist_2_1 : List Value} {r : (List (Int × Int))} (h : M.impl_nearestBy__impl_nearestAmong_1 list_0 k_1 dist_2_0 dist_2_1 = some r) :
    Cal2 Try.prog 106 [(Sl alist_0 list_0 clist_0), (I k_1), (.func (.func 107) #[] #[(pt bdist_2_0 odist_2_0), (pt bdist_2_1 odist_2_1)])] [Ch.ro 0 (Sl alist_0 list_0 clist_0) list_0, Ch.bx lodist_2_0 bdist_2_0 odist_2_0 [(I dist_2_0)] predist_2_0 sufdist_2_0, Ch.bx lodist_2_1 bdist_2_1 odist_2_1 [(Sl adist_2_1 dist_2_1 cdist_2_1)] predist_2_1 sufdist_2_1, Ch.ro 0 (Sl adist_2_1 dist_2_1 cdist_2_1) dist_2_1] (fun n0 v L => ∃ (az1 : Option Addr), ∃ (cz2 : Nat), v = (Sl az1 r cz2) ∧ L = [Ch.own 0 n0 (Sl az1 r cz2) r, Ch.bx lodist_2_0 bdist_2_0 odist_2_0 [(I dist_2_0)] predist_2_0 sufdist_2_0, Ch.bx lodist_2_1 bdist_2_1 odist_2_1 [(Sl adist_2_1 dist_2_1 cdist_2_1)] predist_2_1 sufdist_2_1]) := by
 refine cal2 (n := 27) Try.func106 rfl rfl rfl rfl ?_
 intro S0 σ0 n0 hn0 H
 unfold M.impl_nearestBy__impl_nearestAmong_1 at h
 refine c_seq ?_
 refine rg ?_
 refine st (v := (.slice none 0 0)) (rv_assign rfl) ?_
 refine w_end ?_
 refine q_then ?_
 refine c_seq ?_
 refine rg ?_
 refine st (v := (I k_1)) (rv_move rfl) ?_
 refine st (v := (.agg #[(I k_1), (.slice none 0 0)])) (rv_build (ps := [(0, (I k_1))]) Try.underlying122 ti122 (bp122 Try.underlying122) rfl (by kernel_rfl)) ?_
 refine st_ex (ex_alloc (cs := [(I 0), (.slice none 0 0)]) H hn0 ti122 rfl) wn ?_
 rintro _ σ2 ⟨b1, rfl, H, -⟩
 refine st_exS (ex_store_box (k := 0) (cs := [(I 0), (.slice none 0 0)]) (vs := [(I k_1), (.slice none 0 0)]) (cs' := [(I k_1), (.slice none 0 0)]) H (i := 0) rfl ti122 rfl rfl rfl rfl rfl (Nat.le_of_ble_eq_true rfl) (by simp [plain]) rfl) wn ?_
 rintro σ3 ⟨H, -⟩
 refine w_end ?_
 refine q_then ?_
 refine c_seq ?_
 refine c_seq ?_
 refine rg ?_
 refine st (v := (Sl alist_0 list_0 clist_0)) (rv_move rfl) ?_
 refine st (v := (I (list_0.length : Int))) (rv_len Try.underlying23 rfl) ?_
 refine st (v := (I 0)) (rv_move rfl) ?_
 refine w_end ?_
 refine q_then ?_
 obtain ⟨o4, hj, h'⟩ := bind_some h
 clear h
 refine c_cut (fun e a w => e = .normal ∧ ∃ (ρ : Nat → Value) (σ : St) (aj1 : Option Addr) (cj2 : Nat), a = fr 27 (updL ρ [(2, (.func (.func 107) #[] #[(pt bdist_2_0 odist_2_0), (pt bdist_2_1 odist_2_1)])), (7, (pt b1 0))]) ∧ w = σ.w ∧ Hp S0 σ0 σ [Ch.bx n0 b1 0 [(I o4.1), (Sl aj1 o4.2 cj2)] [] [], Ch.own 0 0 (Sl aj1 o4.2 cj2) o4.2, Ch.bx lodist_2_0 bdist_2_0 odist_2_0 [(I dist_2_0)] predist_2_0 sufdist_2_0, Ch.ro 0 (Sl adist_2_1 dist_2_1 cdist_2_1) dist_2_1, Ch.bx lodist_2_1 bdist_2_1 odist_2_1 [(Sl adist_2_1 dist_2_1 cdist_2_1)] predist_2_1 sufdist_2_1]) ?_ ?_
 ·clear h'
  rename _ = some o4 => h
  refine c_blk ?_
  replace H := H.nilOwn (Int × Int) 0 0
  refine wp_loopM _ h (fun s5 a w => ∃ (ρ : Nat → Value) (σ : St) (aj1 : Option Addr) (cj2 : Nat), a = fr 27 (updL ρ [(2, (.func (.func 107) #[] #[(pt bdist_2_0 odist_2_0), (pt bdist_2_1 odist_2_1)])), (7, (pt b1 0)), (12, (Sl alist_0 list_0 clist_0)), (13, (I (list_0.length : Int))), (14, (I s5.2))]) ∧ w = σ.w ∧ Hp S0 σ0 σ [Ch.bx n0 b1 0 [(I s5.1.1), (Sl aj1 s5.1.2 cj2)] [] [], Ch.own 0 0 (Sl aj1 s5.1.2 cj2) s5.1.2, Ch.bx lodist_2_0 bdist_2_0 odist_2_0 [(I dist_2_0)] predist_2_0 sufdist_2_0, Ch.ro 0 (Sl adist_2_1 dist_2_1 cdist_2_1) dist_2_1, Ch.bx lodist_2_1 bdist_2_1 odist_2_1 [(Sl adist_2_1 dist_2_1 cdist_2_1)] predist_2_1 sufdist_2_1, Ch.ro 0 (Sl alist_0 list_0 clist_0) list_0]) ⟨_, σ3, none, 0, fr_join ⟨rfl, rfl, rfl, rfl, rfl, trivial⟩, rfl, H.sel' [1, 0, 3, 5, 4, 2] rfl rfl⟩ ?_
  clear h H
  rintro s5 a w o ⟨ρ, σ6, a7, c8, rfl, rfl, H⟩ h hres
  refine c_seq ?_
  refine rg ?_
  refine st (v := (B (decide (s5.2 < (list_0.length : Int))))) (rv_lss (a := s5.2) (b := (list_0.length : Int)) rfl rfl) ?_
  refine w_end ?_
  refine q_then ?_
  refine c_seq ?_
  refine cd_cond (decide (s5.2 < (list_0.length : Int))) rfl (fun hb9 => ?_) (fun hb9 => ?_)
  ·replace h := bif_t hb9 h
   refine c_skip ?_
   refine q_then ?_
   refine c_seq ?_
   refine c_blk ?_
   refine c_seq ?_
   refine rg ?_
   obtain ⟨x10, hx11, h'⟩ := bind_some h
   clear h
   have h := h'; clear h'
   obtain ⟨b13, o14, hi12, -⟩ := (H.ro 5 rfl).ix hx11
   refine st (v := (pt b13 o14)) (rv_ix Try.underlying23 ti32 rfl rfl hi12) ?_
   obtain ⟨_, ⟨_, _, rfl, rfl, ⟨_, _, rfl, ⟨_, rfl, hR19⟩, rfl⟩⟩, hl15, hc16⟩ := ((H.ro 5 rfl).at hx11 hi12).cells
   obtain ⟨a17, c18, rfl⟩ := hR19.isSl
   replace H := H.add (d := Ch.ro 0 (Sl a17 x10.2.1 c18) x10.2.1) hR19 (fun _ h => h)
   clear hR19
   refine st (v := (.agg #[(I x10.1), (Sl a17 x10.2.1 c18), (I x10.2.2)])) (rv_load Try.underlying32 rfl ti32 rfl hl15 hc16) ?_
   refine st_ex (ex_alloc (cs := [(I 0), (.slice none 0 0), (I 0)]) H hn0 ti32 rfl) wn ?_
   rintro _ σ21 ⟨b20, rfl, H, -⟩
   refine st_exS (ex_store_box (k := 0) (cs := [(I 0), (.slice none 0 0), (I 0)]) (vs := [(I x10.1), (Sl a17 x10.2.1 c18), (I x10.2.2)]) (cs' := [(I x10.1), (Sl a17 x10.2.1 c18), (I x10.2.2)]) H (i := 0) rfl ti32 rfl rfl rfl rfl rfl (Nat.le_of_ble_eq_true rfl) (by simp [plain]) rfl) wn ?_
   rintro σ22 ⟨H, -⟩
   refine w_end ?_
   refine q_then ?_
   have hc23 := H.cell (u := (I x10.1)) (o' := 0) 0 0 rfl rfl rfl
   have hc24 := H.cells 0 rfl
   obtain ⟨r25, hx26, h'⟩ := bind_some h
   clear h
   have h := h'; clear h'
   have hc27 := c_impl_nearestAmong_1__p3__p24 (ax_0_1 := a17) (cx_0_1 := c18) (lop_1 := lodist_2_0) (bp_1 := bdist_2_0) (op_1 := odist_2_0) (prep_1 := predist_2_0) (sufp_1 := sufdist_2_0) (lop_2 := lodist_2_1) (bp_2 := bdist_2_1) (op_2 := odist_2_1) (prep_2 := predist_2_1) (sufp_2 := sufdist_2_1) (ap_2 := adist_2_1) (cp_2 := cdist_2_1) hx26
   have Hs := H
   refine rg2 (σ := σ22) (Nm := Unit) 5 [4] [[false], [true]] [[(0, 0), (1, 1)], [(0, 0), (1, 1)], [(0, 0)], [(0, 0)], [(0, 1)]] 1 [fun _ => fun σm => Hp S0 σ0 σm [Ch.bx n0 b20 0 [(I x10.1), (Sl a17 x10.2.1 c18), (I x10.2.2)] [] [], Ch.ro 0 (Sl a17 x10.2.1 c18) x10.2.1, Ch.bx n0 b1 0 [(I s5.1.1), (Sl a7 s5.1.2 c8)] [] [], Ch.own 0 0 (Sl a7 s5.1.2 c8) s5.1.2, Ch.bx lodist_2_0 bdist_2_0 odist_2_0 [(I dist_2_0)] predist_2_0 sufdist_2_0, Ch.ro 0 (Sl adist_2_1 dist_2_1 cdist_2_1) dist_2_1, Ch.bx lodist_2_1 bdist_2_1 odist_2_1 [(Sl adist_2_1 dist_2_1 cdist_2_1)] predist_2_1 sufdist_2_1, Ch.ro 0 (Sl alist_0 list_0 clist_0) list_0] ∧ Md (cov []) σ22 σm, fun _ => fun σm => Hp S0 σ0 σm [Ch.bx lodist_2_0 bdist_2_0 odist_2_0 [(I dist_2_0)] predist_2_0 sufdist_2_0, Ch.bx lodist_2_1 bdist_2_1 odist_2_1 [(Sl adist_2_1 dist_2_1 cdist_2_1)] predist_2_1 sufdist_2_1, Ch.bx n0 b20 0 [(I x10.1), (Sl a17 x10.2.1 c18), (I x10.2.2)] [] [], Ch.ro 0 (Sl a17 x10.2.1 c18) x10.2.1, Ch.bx n0 b1 0 [(I s5.1.1), (Sl a7 s5.1.2 c8)] [] [], Ch.own 0 0 (Sl a7 s5.1.2 c8) s5.1.2, Ch.ro 0 (Sl adist_2_1 dist_2_1 cdist_2_1) dist_2_1, Ch.ro 0 (Sl alist_0 list_0 clist_0) list_0] ∧ Md (fun i => (cov []) i ∨ (cov [Ch.ro 0 (Sl a17 x10.2.1 c18) x10.2.1, Ch.bx lodist_2_0 bdist_2_0 odist_2_0 [(I dist_2_0)] predist_2_0 sufdist_2_0, Ch.bx lodist_2_1 bdist_2_1 odist_2_1 [(Sl adist_2_1 dist_2_1 cdist_2_1)] predist_2_1 sufdist_2_1, Ch.ro 0 (Sl adist_2_1 dist_2_1 cdist_2_1) dist_2_1]) i) σ22 σm] [fun _ => (pt b20 0), fun _ => (I x10.1), fun _ => (.func (.func 107) #[] #[(pt bdist_2_0 odist_2_0), (pt bdist_2_1 odist_2_1)]), fun _ => (.agg #[(I x10.1), (Sl a17 x10.2.1 c18), (I x10.2.2)]), fun _ => (I r25)] () (by kernel_rfl) (by kernel_rfl) ?_ ?_ ?_
   ·intro σm m0
    exact ⟨H.grow (m0.mono fun _ h => h.elim), m0⟩
   ·refine ac rfl (by
      intro k _nm ρ σm hJ hoff hdep
      have e9 := look_off (N := 27) (hoff 9 rfl) rfl
      exact dp_v (v := (pt b20 0)) wn (rv_fieldAddr (off := 0) (ft := 3) Try.underlying32 rfl ti3 rfl e9) rfl hJ) ?_
    refine all_cons (by
      refine ⟨?_, ?_⟩
      ·intro _nm ρ σm hJ hoff hdep
       have e18 := hdep 0 rfl rfl 18 rfl
       obtain ⟨H, m⟩ := id hJ
       have hc23 := H.cell (u := (I x10.1)) (o' := 0) 0 0 rfl rfl rfl
       exact dp_v (v := (I x10.1)) wn (rv_load1 Try.underlying3 rfl e18 hc23) rfl hJ
      refine ⟨?_, ?_⟩
      ·intro _nm ρ σm hJ hoff hdep
       have e18 := hdep 0 rfl rfl 18 rfl
       obtain ⟨H, m⟩ := id hJ
       have hc23 := H.cell (u := (I x10.1)) (o' := 0) 2 0 rfl rfl rfl
       exact dp_v (v := (I x10.1)) wn (rv_load1 Try.underlying3 rfl e18 hc23) rfl hJ
      trivial) ?_
    refine ac rfl (by
      intro k _nm ρ σm hJ hoff hdep
      have e2 := look_off (N := 27) (hoff 2 rfl) rfl
      exact dp_v (v := (.func (.func 107) #[] #[(pt bdist_2_0 odist_2_0), (pt bdist_2_1 odist_2_1)])) wn (rv_move e2) rfl hJ) ?_
    refine all_cons (by
      refine ⟨?_, ?_⟩
      ·intro _nm ρ σm hJ hoff hdep
       have e9 := look_off (N := 27) (hoff 9 rfl) rfl
       obtain ⟨H, m⟩ := id hJ
       have hc24 := H.cells 0 rfl
       exact dp_v (v := (.agg #[(I x10.1), (Sl a17 x10.2.1 c18), (I x10.2.2)])) wn (rv_load (cs := [(I x10.1), (Sl a17 x10.2.1 c18), (I x10.2.2)]) Try.underlying32 rfl ti32 e9 rfl hc24) rfl hJ
      trivial) ?_
    refine all_cons (by
      refine ⟨?_, ?_⟩
      ·intro _nm ρ σm hJ hoff hdep
       have e21 : look 27 ρ 21 = (.agg #[(I x10.1), (Sl a17 x10.2.1 c18), (I x10.2.2)]) := hdep 3 rfl rfl 21 rfl
       have e20 := hdep 2 rfl rfl 20 rfl
       obtain ⟨H, m⟩ := id hJ
       refine dp_cx wn (cx_call hc27 (ent_v (cap := [(pt bdist_2_0 odist_2_0), (pt bdist_2_1 odist_2_1)]) hc27.fn e20 (by show [look 27 ρ 21] ++ [(pt bdist_2_0 odist_2_0), (pt bdist_2_1 odist_2_1)] = _; rw [e21]; rfl)) hn0 (show Hp S0 σ0 _ ([Ch.ro 0 (Sl a17 x10.2.1 c18) x10.2.1, Ch.bx lodist_2_0 bdist_2_0 odist_2_0 [(I dist_2_0)] predist_2_0 sufdist_2_0, Ch.bx lodist_2_1 bdist_2_1 odist_2_1 [(Sl adist_2_1 dist_2_1 cdist_2_1)] predist_2_1 sufdist_2_1, Ch.ro 0 (Sl adist_2_1 dist_2_1 cdist_2_1) dist_2_1] ++ [Ch.bx n0 b20 0 [(I x10.1), (Sl a17 x10.2.1 c18), (I x10.2.2)] [] [], Ch.ro 0 (Sl a17 x10.2.1 c18) x10.2.1, Ch.bx n0 b1 0 [(I s5.1.1), (Sl a7 s5.1.2 c8)] [] [], Ch.own 0 0 (Sl a7 s5.1.2 c8) s5.1.2, Ch.ro 0 (Sl adist_2_1 dist_2_1 cdist_2_1) dist_2_1, Ch.ro 0 (Sl alist_0 list_0 clist_0) list_0]) from (H.sel' [1, 4, 6, 5, 0, 1, 2, 3, 5, 7] rfl rfl))) ?_
       rintro _ σq ⟨_, ⟨rfl, rfl⟩, H2, m2⟩
       exact ⟨_, (), rfl, rfl, ⟨H2.sel' [0, 1, 2, 3, 4, 5, 6, 7] rfl rfl, m.comp m2⟩, stab [0, 1, 2, 3] (by kernel_rfl) ⟨rfl, rfl, rfl, rfl, trivial⟩⟩
      trivial) ?_
    exact all_nil
   ·intro _nm ρ σ28 hJ hoff hrel
    have e2 := look_off (N := 27) (hoff 2 rfl) rfl
    have e7 := look_off (N := 27) (hoff 7 rfl) rfl
    have e12 := look_off (N := 27) (hoff 12 rfl) rfl
    have e13 := look_off (N := 27) (hoff 13 rfl) rfl
    have e14 := look_off (N := 27) (hoff 14 rfl) rfl
    have e19 := hrel 1 rfl 19 rfl
    have e22 := hrel 4 rfl 22 rfl
    obtain ⟨H, -⟩ := (show Hp S0 σ0 σ28 [Ch.bx lodist_2_0 bdist_2_0 odist_2_0 [(I dist_2_0)] predist_2_0 sufdist_2_0, Ch.bx lodist_2_1 bdist_2_1 odist_2_1 [(Sl adist_2_1 dist_2_1 cdist_2_1)] predist_2_1 sufdist_2_1, Ch.bx n0 b20 0 [(I x10.1), (Sl a17 x10.2.1 c18), (I x10.2.2)] [] [], Ch.ro 0 (Sl a17 x10.2.1 c18) x10.2.1, Ch.bx n0 b1 0 [(I s5.1.1), (Sl a7 s5.1.2 c8)] [] [], Ch.own 0 0 (Sl a7 s5.1.2 c8) s5.1.2, Ch.ro 0 (Sl adist_2_1 dist_2_1 cdist_2_1) dist_2_1, Ch.ro 0 (Sl alist_0 list_0 clist_0) list_0] ∧ Md (fun i => (cov []) i ∨ (cov [Ch.ro 0 (Sl a17 x10.2.1 c18) x10.2.1, Ch.bx lodist_2_0 bdist_2_0 odist_2_0 [(I dist_2_0)] predist_2_0 sufdist_2_0, Ch.bx lodist_2_1 bdist_2_1 odist_2_1 [(Sl adist_2_1 dist_2_1 cdist_2_1)] predist_2_1 sufdist_2_1, Ch.ro 0 (Sl adist_2_1 dist_2_1 cdist_2_1) dist_2_1]) i) σ22 σ28 from hJ)
    clear hJ Hs
    rw [fr_lookL (L := [(2, (.func (.func 107) #[] #[(pt bdist_2_0 odist_2_0), (pt bdist_2_1 odist_2_1)])), (7, (pt b1 0)), (12, (Sl alist_0 list_0 clist_0)), (13, (I (list_0.length : Int))), (14, (I s5.2)), (19, (I x10.1)), (22, (I r25))]) ⟨e2, e7, e12, e13, e14, e19, e22, trivial⟩]
    clear hoff hrel e2 e7 e12 e13 e14 e19 e22
    refine st (v := (.agg #[(I x10.1), (I r25)])) (rv_build (ps := [(0, (I x10.1)), (1, (I r25))]) Try.underlying91 ti91 (bp91 Try.underlying91) rfl (by kernel_rfl)) ?_
    obtain ⟨r29, hx30, h'⟩ := bind_some h
    clear h
    have h := h'; clear h'
    have hc31 := c_impl_nearestHits_offer (lon_0 := n0) (bn_0 := b1) (on_0 := 0) (pren_0 := []) (sufn_0 := []) (an_0_1 := a7) (cn_0_1 := c8) hx30
    refine st_call (cx_call hc31 (ent_f hc31.fn rfl) hn0 (show Hp S0 σ0 _ ([Ch.bx n0 b1 0 [(I s5.1.1), (Sl a7 s5.1.2 c8)] [] [], Ch.own 0 0 (Sl a7 s5.1.2 c8) s5.1.2] ++ [Ch.bx lodist_2_0 bdist_2_0 odist_2_0 [(I dist_2_0)] predist_2_0 sufdist_2_0, Ch.bx lodist_2_1 bdist_2_1 odist_2_1 [(Sl adist_2_1 dist_2_1 cdist_2_1)] predist_2_1 sufdist_2_1, Ch.bx n0 b20 0 [(I x10.1), (Sl a17 x10.2.1 c18), (I x10.2.2)] [] [], Ch.ro 0 (Sl a17 x10.2.1 c18) x10.2.1, Ch.ro 0 (Sl adist_2_1 dist_2_1 cdist_2_1) dist_2_1, Ch.ro 0 (Sl alist_0 list_0 clist_0) list_0]) from (H.sel' [4, 5, 0, 1, 2, 3, 6, 7] rfl rfl))) wn ?_
    rintro _ σ34 ⟨_, ⟨a32, c33, rfl, rfl⟩, H, -⟩
    replace H : Hp S0 σ0 σ34 [Ch.bx n0 b1 0 [(I r29.1), (Sl a32 r29.2 c33)] [] [], Ch.own 0 0 (Sl a32 r29.2 c33) r29.2, Ch.bx lodist_2_0 bdist_2_0 odist_2_0 [(I dist_2_0)] predist_2_0 sufdist_2_0, Ch.bx lodist_2_1 bdist_2_1 odist_2_1 [(Sl adist_2_1 dist_2_1 cdist_2_1)] predist_2_1 sufdist_2_1, Ch.bx n0 b20 0 [(I x10.1), (Sl a17 x10.2.1 c18), (I x10.2.2)] [] [], Ch.ro 0 (Sl a17 x10.2.1 c18) x10.2.1, Ch.ro 0 (Sl adist_2_1 dist_2_1 cdist_2_1) dist_2_1, Ch.ro 0 (Sl alist_0 list_0 clist_0) list_0] := H
    replace H : Hp S0 σ0 σ34 [Ch.bx n0 b1 0 [(I r29.1), (Sl a32 r29.2 c33)] [] [], Ch.own 0 0 (Sl a32 r29.2 c33) r29.2, Ch.bx lodist_2_0 bdist_2_0 odist_2_0 [(I dist_2_0)] predist_2_0 sufdist_2_0, Ch.bx lodist_2_1 bdist_2_1 odist_2_1 [(Sl adist_2_1 dist_2_1 cdist_2_1)] predist_2_1 sufdist_2_1, Ch.ro 0 (Sl adist_2_1 dist_2_1 cdist_2_1) dist_2_1, Ch.ro 0 (Sl alist_0 list_0 clist_0) list_0] := H.sel' [0, 1, 2, 3, 6, 7] rfl rfl
    refine w_end ?_
    refine q_blk ?_
    refine q_then ?_
    refine rg ?_
    refine st (v := (I (w64 (s5.2 + 1)))) (rv_add (a := s5.2) (b := 1) rfl rfl) ?_
    refine st (v := (I (w64 (s5.2 + 1)))) (rv_move rfl) ?_
    refine w_end ?_
    refine q_then ?_
    obtain rfl := Option.some.inj h
    exact ⟨_, rfl, _, σ34, a32, c33, fr_join ⟨rfl, rfl, rfl, rfl, rfl, trivial⟩, rfl, H.sel' [0, 1, 2, 4, 3, 5] rfl rfl⟩
  ·replace h := bif_f hb9 h
   refine c_exit ?_
   refine q_then_x ?_
   refine q_then_x ?_
   refine q_blk_hit ?_
   obtain rfl := Option.some.inj h
   obtain rfl := hres _ rfl
   exact ⟨rfl, _, σ6, a7, c8, fr_join ⟨rfl, rfl, trivial⟩, rfl, H.sel' [0, 1, 2, 3, 4] rfl rfl⟩
 ·clear hj
  have h := h'
  clear h' H
  rintro e a w ⟨rfl, ρ, σ35, a36, c37, rfl, rfl, H⟩
  refine q_then ?_
  refine c_seq ?_
  refine rg ?_
  obtain ⟨σ38, hw39, H, -⟩ := H.pub 1 rfl (Nat.le_refl _)
  rw [← hw39]; clear hw39
  obtain ⟨r40, hx41, h'⟩ := bind_some h
  clear h
  have h := h'; clear h'
  have hc42 := c_impl_nearestHits_inOrder (lon_0 := n0) (bn_0 := b1) (on_0 := 0) (pren_0 := []) (sufn_0 := []) (an_0_1 := a36) (cn_0_1 := c37) hx41
  refine st_call (cx_call hc42 (ent_f hc42.fn rfl) hn0 (show Hp S0 σ0 _ ([Ch.bx n0 b1 0 [(I o4.1), (Sl a36 o4.2 c37)] [] [], Ch.ro 0 (Sl a36 o4.2 c37) o4.2] ++ [Ch.ro 0 (Sl a36 o4.2 c37) o4.2, Ch.bx lodist_2_0 bdist_2_0 odist_2_0 [(I dist_2_0)] predist_2_0 sufdist_2_0, Ch.ro 0 (Sl adist_2_1 dist_2_1 cdist_2_1) dist_2_1, Ch.bx lodist_2_1 bdist_2_1 odist_2_1 [(Sl adist_2_1 dist_2_1 cdist_2_1)] predist_2_1 sufdist_2_1]) from (H.sel' [1, 0, 0, 2, 3, 4] rfl rfl))) wn ?_
  rintro _ σ45 ⟨_, ⟨a43, c44, rfl, rfl⟩, H, -⟩
  replace H : Hp S0 σ0 σ45 [Ch.own 0 n0 (Sl a43 r40 c44) r40, Ch.bx n0 b1 0 [(I o4.1), (Sl a36 o4.2 c37)] [] [], Ch.ro 0 (Sl a36 o4.2 c37) o4.2, Ch.bx lodist_2_0 bdist_2_0 odist_2_0 [(I dist_2_0)] predist_2_0 sufdist_2_0, Ch.ro 0 (Sl adist_2_1 dist_2_1 cdist_2_1) dist_2_1, Ch.bx lodist_2_1 bdist_2_1 odist_2_1 [(Sl adist_2_1 dist_2_1 cdist_2_1)] predist_2_1 sufdist_2_1] := H
  refine st (v := (Sl a43 r40 c44)) (rv_assign rfl) ?_
  refine w_end ?_
  refine q_then ?_
  refine c_ret ?_
  obtain rfl := Option.some.inj h
  exact fin_ret (v := (Sl a43 r40 c44)) (results_ok Try.results106 (res_tmp (v := (Sl a43 r40 c44)) rfl res_nil) rfl) ⟨a43, c44, rfl, rfl⟩ (H.sel' [0, 3, 5] rfl rfl)

theorem c_impl_nearestAmong {list_0 : List (Int × (List Int) × Int)} {kind_1 : Int} {at_2 : List Int} {k_3 : Int} {alist_0 : Option Addr} {clist_0 : Nat} {aat_2 : Option Addr} {cat_2 : Nat} {r : (List (Int × Int))} (h : M.impl_nearestAmong list_0 kind_1 at_2 k_3 = some r) :
    Cal2 Try.prog 76 [(Sl alist_0 list_0 clist_0), (I kind_1), (Sl aat_2 at_2 cat_2), (I k_3)] [Ch.ro 0 (Sl alist_0 list_0 clist_0) list_0, Ch.ro 0 (Sl aat_2 at_2 cat_2) at_2] (fun n0 v L => ∃ (az1 : Option Addr), ∃ (cz2 : Nat), v = (Sl az1 r cz2) ∧ L = [Ch.own 0 n0 (Sl az1 r cz2) r]) := by
 refine cal2 (n := 13) Try.func76 rfl rfl rfl rfl ?_
 intro S0 σ0 n0 hn0 H
 unfold M.impl_nearestAmong at h
 refine c_seq ?_
 refine rg ?_
 refine st_ex (ex_box (cs := [(I kind_1)]) H hn0 rfl rfl) wn ?_
 rintro _ σ2 ⟨b1, rfl, H, -⟩
 refine st_ex (ex_box (cs := [(Sl aat_2 at_2 cat_2)]) H hn0 rfl rfl) wn ?_
 rintro _ σ4 ⟨b3, rfl, H, -⟩
 refine st (v := (.slice none 0 0)) (rv_assign rfl) ?_
 refine w_end ?_
 refine q_then ?_
 refine c_seq ?_
 refine rg ?_
 refine st (v := (Sl alist_0 list_0 clist_0)) (rv_move rfl) ?_
 refine st (v := (I k_3)) (rv_move rfl) ?_
 refine st (v := (.func (.func 107) #[] #[(pt b1 0), (pt b3 0)])) (rv_makeFunc (vs := [(pt b1 0), (pt b3 0)]) rfl) ?_
 obtain ⟨r5, hx6, h'⟩ := bind_some h
 clear h
 have h := h'; clear h'
 have hc7 := c_impl_nearestBy__impl_nearestAmong_1 (alist_0 := alist_0) (clist_0 := clist_0) (lodist_2_0 := n0) (bdist_2_0 := b1) (odist_2_0 := 0) (predist_2_0 := []) (sufdist_2_0 := []) (lodist_2_1 := n0) (bdist_2_1 := b3) (odist_2_1 := 0) (predist_2_1 := []) (sufdist_2_1 := []) (adist_2_1 := aat_2) (cdist_2_1 := cat_2) hx6
 refine st_call (cx_call hc7 (ent_f hc7.fn rfl) hn0 (show Hp S0 σ0 _ ([Ch.ro 0 (Sl alist_0 list_0 clist_0) list_0, Ch.bx n0 b1 0 [(I kind_1)] [] [], Ch.bx n0 b3 0 [(Sl aat_2 at_2 cat_2)] [] [], Ch.ro 0 (Sl aat_2 at_2 cat_2) at_2] ++ [Ch.ro 0 (Sl alist_0 list_0 clist_0) list_0, Ch.ro 0 (Sl aat_2 at_2 cat_2) at_2]) from (H.sel' [2, 1, 0, 3, 2, 3] rfl rfl))) wn ?_
 rintro _ σ10 ⟨_, ⟨a8, c9, rfl, rfl⟩, H, -⟩
 replace H : Hp S0 σ0 σ10 [Ch.own 0 n0 (Sl a8 r5 c9) r5, Ch.bx n0 b1 0 [(I kind_1)] [] [], Ch.bx n0 b3 0 [(Sl aat_2 at_2 cat_2)] [] [], Ch.ro 0 (Sl alist_0 list_0 clist_0) list_0, Ch.ro 0 (Sl aat_2 at_2 cat_2) at_2] := H
 refine st (v := (Sl a8 r5 c9)) (rv_assign rfl) ?_
 refine w_end ?_
 refine q_then ?_
 refine c_ret ?_
 obtain rfl := Option.some.inj h
 exact fin_ret (v := (Sl a8 r5 c9)) (results_ok Try.results76 (res_tmp (v := (Sl a8 r5 c9)) rfl res_nil) rfl) ⟨a8, c9, rfl, rfl⟩ (H.sel' [0] rfl rfl)

theorem c_impl_FilterNearest {list_0 : List (Int × (List Int) × Int)} {f_1 : Int × Int × Int} {kind_2 : Int} {at_3 : List Int} {k_4 : Int} {alist_0 : Option Addr} {clist_0 : Nat} {aat_3 : Option Addr} {cat_3 : Nat} {r : (List (Int × Int))} (h : M.impl_FilterNearest list_0 f_1 kind_2 at_3 k_4 = some r) :
    Cal2 Try.prog 37 [(Sl alist_0 list_0 clist_0), (.agg #[(I f_1.1), (I f_1.2.1), (I f_1.2.2)]), (I kind_2), (Sl aat_3 at_3 cat_3), (I k_4)] [Ch.ro 0 (Sl alist_0 list_0 clist_0) list_0, Ch.ro 0 (Sl aat_3 at_3 cat_3) at_3] (fun n0 v L => ∃ (az1 : Option Addr), ∃ (cz2 : Nat), v = (Sl az1 r cz2) ∧ L = [Ch.own 0 n0 (Sl az1 r cz2) r]) := by
 refine cal2 (n := 29) Try.func37 rfl rfl rfl rfl ?_
 intro S0 σ0 n0 hn0 H
 unfold M.impl_FilterNearest at h
 refine c_seq ?_
 refine rg ?_
 refine st_ex (ex_box (cs := [(I f_1.1), (I f_1.2.1), (I f_1.2.2)]) H hn0 rfl rfl) wn ?_
 rintro _ σ2 ⟨b1, rfl, H, -⟩
 refine st (v := (.slice none 0 0)) (rv_assign rfl) ?_
 refine w_end ?_
 refine q_then ?_
 refine c_seq ?_
 refine c_seq ?_
 obtain ⟨o3, hj, h'⟩ := bind_some h
 clear h
 refine c_cut (fun e a w => e = .normal ∧ ∃ (ρ : Nat → Value) (σ : St), a = fr 29 (updL ρ [(0, (Sl alist_0 list_0 clist_0)), (2, (I kind_2)), (3, (Sl aat_3 at_3 cat_3)), (4, (I k_4)), (6, (pt b1 0)), (21, (B o3))]) ∧ w = σ.w ∧ Hp S0 σ0 σ [Ch.ro 0 (Sl alist_0 list_0 clist_0) list_0, Ch.ro 0 (Sl aat_3 at_3 cat_3) at_3, Ch.bx n0 b1 0 [(I f_1.1), (I f_1.2.1), (I f_1.2.2)] [] []]) ?_ ?_
 ·clear h'
  rename _ = some o3 => h
  refine rg ?_
  have hc4 := H.cells 0 rfl
  refine st (v := (.agg #[(I f_1.1), (I f_1.2.1), (I f_1.2.2)])) (rv_load (cs := [(I f_1.1), (I f_1.2.1), (I f_1.2.2)]) Try.underlying38 rfl ti38 rfl rfl hc4) ?_
  obtain ⟨r5, hx6, h'⟩ := bind_some h
  clear h
  have h := h'; clear h'
  have hc7 := c_impl_ValidFilter hx6
  refine st_call (cx_call hc7 (ent_f hc7.fn rfl) hn0 (show Hp S0 σ0 _ ([] ++ [Ch.bx n0 b1 0 [(I f_1.1), (I f_1.2.1), (I f_1.2.2)] [] [], Ch.ro 0 (Sl alist_0 list_0 clist_0) list_0, Ch.ro 0 (Sl aat_3 at_3 cat_3) at_3]) from (H.sel' [0, 1, 2] rfl rfl))) wn ?_
  rintro _ σ8 ⟨_, ⟨rfl, rfl⟩, H, -⟩
  replace H : Hp S0 σ0 σ8 [Ch.bx n0 b1 0 [(I f_1.1), (I f_1.2.1), (I f_1.2.2)] [] [], Ch.ro 0 (Sl alist_0 list_0 clist_0) list_0, Ch.ro 0 (Sl aat_3 at_3 cat_3) at_3] := H
  refine st (v := (B (!r5))) (rv_not rfl) ?_
  refine st (v := (B (!r5))) (rv_move rfl) ?_
  rcases Bool.eq_false_or_eq_true (!r5) with hb9 | hb9
  ·replace h := bif_t hb9 h
   refine st_skip (congrArg some hb9) ?_
   refine st_skip (congrArg some hb9) ?_
   refine st_skip (congrArg some hb9) ?_
   refine st_skip (congrArg some hb9) ?_
   refine st_skip (congrArg some hb9) ?_
   refine st_skip (congrArg some hb9) ?_
   refine st (v := (B true)) (rv_pick_t (congrArg B hb9) rfl) ?_
   refine w_end ?_
   obtain rfl := Option.some.inj h
   exact ⟨rfl, _, σ8, fr_join ⟨rfl, rfl, rfl, rfl, rfl, rfl, trivial⟩, rfl, H.sel' [1, 2, 0] rfl rfl⟩
  ·replace h := bif_f hb9 h
   refine st_g (v := (Sl alist_0 list_0 clist_0)) (congrArg some hb9) (rv_move rfl) ?_
   refine st_g (v := (I kind_2)) (congrArg some hb9) (rv_move rfl) ?_
   refine st_g (v := (Sl aat_3 at_3 cat_3)) (congrArg some hb9) (rv_move rfl) ?_
   refine st_g (v := (I k_4)) (congrArg some hb9) (rv_move rfl) ?_
   obtain ⟨r10, hx11, h'⟩ := bind_some h
   clear h
   have h := h'; clear h'
   have hc12 := c_impl_validSearch (alist_0 := alist_0) (clist_0 := clist_0) (aat_2 := aat_3) (cat_2 := cat_3) hx11
   refine st_call (cx_call hc12 (ent_f hc12.fn rfl) hn0 (show Hp S0 σ0 _ ([Ch.ro 0 (Sl alist_0 list_0 clist_0) list_0, Ch.ro 0 (Sl aat_3 at_3 cat_3) at_3] ++ [Ch.bx n0 b1 0 [(I f_1.1), (I f_1.2.1), (I f_1.2.2)] [] [], Ch.ro 0 (Sl alist_0 list_0 clist_0) list_0, Ch.ro 0 (Sl aat_3 at_3 cat_3) at_3]) from (H.sel' [1, 2, 0, 1, 2] rfl rfl))) (wanted_yes rfl (by exact (congrArg some hb9))) ?_
   rintro _ σ13 ⟨_, ⟨rfl, rfl⟩, H, -⟩
   replace H : Hp S0 σ0 σ13 [Ch.bx n0 b1 0 [(I f_1.1), (I f_1.2.1), (I f_1.2.2)] [] [], Ch.ro 0 (Sl alist_0 list_0 clist_0) list_0, Ch.ro 0 (Sl aat_3 at_3 cat_3) at_3] := H
   refine st_g (v := (B (!r10))) (congrArg some hb9) (rv_not rfl) ?_
   refine st (v := (B (!r10))) (rv_pick_f (congrArg B hb9) rfl) ?_
   refine w_end ?_
   obtain rfl := Option.some.inj h
   exact ⟨rfl, _, σ13, fr_join ⟨rfl, rfl, rfl, rfl, rfl, rfl, trivial⟩, rfl, H.sel' [1, 2, 0] rfl rfl⟩
 ·clear hj
  have h := h'
  clear h' H
  rintro e a w ⟨rfl, ρ, σ14, rfl, rfl, H⟩
  refine q_then ?_
  refine cd_cond o3 rfl (fun hb15 => ?_) (fun hb15 => ?_)
  ·replace h := bif_t hb15 h
   refine c_seq ?_
   refine rg ?_
   refine st (v := (.slice none 0 0)) (rv_assign rfl) ?_
   refine w_end ?_
   refine q_then ?_
   refine c_ret ?_
   refine q_then_r ?_
   replace H := H.nilOwn (Int × Int) 0 n0
   obtain rfl := Option.some.inj h
   exact fin_ret (v := (.slice none 0 0)) (results_ok Try.results37 (res_tmp (v := (.slice none 0 0)) rfl res_nil) rfl) ⟨none, 0, rfl, rfl⟩ (H.sel' [0] rfl rfl)
  ·replace h := bif_f hb15 h
   refine c_skip ?_
   refine q_then ?_
   refine c_seq ?_
   refine rg ?_
   have hc16 := H.cells 2 rfl
   refine st (v := (.agg #[(I f_1.1), (I f_1.2.1), (I f_1.2.2)])) (rv_load (cs := [(I f_1.1), (I f_1.2.1), (I f_1.2.2)]) Try.underlying38 rfl ti38 rfl rfl hc16) ?_
   refine st (v := (Sl alist_0 list_0 clist_0)) (rv_move rfl) ?_
   obtain ⟨r17, hx18, h'⟩ := bind_some h
   clear h
   have h := h'; clear h'
   have hc19 := c_impl_Filter_itemsOf (alist_1 := alist_0) (clist_1 := clist_0) hx18
   refine st_call (cx_call hc19 (ent_f hc19.fn rfl) hn0 (show Hp S0 σ0 _ ([Ch.ro 0 (Sl alist_0 list_0 clist_0) list_0] ++ [Ch.ro 0 (Sl alist_0 list_0 clist_0) list_0, Ch.ro 0 (Sl aat_3 at_3 cat_3) at_3, Ch.bx n0 b1 0 [(I f_1.1), (I f_1.2.1), (I f_1.2.2)] [] []]) from (H.sel' [0, 0, 1, 2] rfl rfl))) wn ?_
   rintro _ σ22 ⟨_, ⟨a20, c21, rfl, rfl⟩, H, -⟩
   replace H : Hp S0 σ0 σ22 [Ch.own n0 0 (Sl a20 r17 c21) r17, Ch.ro 0 (Sl alist_0 list_0 clist_0) list_0, Ch.ro 0 (Sl aat_3 at_3 cat_3) at_3, Ch.bx n0 b1 0 [(I f_1.1), (I f_1.2.1), (I f_1.2.2)] [] []] := H
   refine st (v := (I kind_2)) (rv_move rfl) ?_
   refine st (v := (Sl aat_3 at_3 cat_3)) (rv_move rfl) ?_
   refine st (v := (I k_4)) (rv_move rfl) ?_
   obtain ⟨σ23, hw24, H, -⟩ := H.pub 0 rfl (Nat.zero_le _)
   rw [← hw24]; clear hw24
   obtain ⟨r25, hx26, h'⟩ := bind_some h
   clear h
   have h := h'; clear h'
   have hc27 := c_impl_nearestAmong (alist_0 := a20) (clist_0 := c21) (aat_2 := aat_3) (cat_2 := cat_3) hx26
   refine st_call (cx_call hc27 (ent_f hc27.fn rfl) hn0 (show Hp S0 σ0 _ ([Ch.ro 0 (Sl a20 r17 c21) r17, Ch.ro 0 (Sl aat_3 at_3 cat_3) at_3] ++ [Ch.ro 0 (Sl a20 r17 c21) r17, Ch.ro 0 (Sl alist_0 list_0 clist_0) list_0, Ch.ro 0 (Sl aat_3 at_3 cat_3) at_3, Ch.bx n0 b1 0 [(I f_1.1), (I f_1.2.1), (I f_1.2.2)] [] []]) from (H.sel' [0, 2, 0, 1, 2, 3] rfl rfl))) wn ?_
   rintro _ σ30 ⟨_, ⟨a28, c29, rfl, rfl⟩, H, -⟩
   replace H : Hp S0 σ0 σ30 [Ch.own 0 n0 (Sl a28 r25 c29) r25, Ch.ro 0 (Sl a20 r17 c21) r17, Ch.ro 0 (Sl alist_0 list_0 clist_0) list_0, Ch.ro 0 (Sl aat_3 at_3 cat_3) at_3, Ch.bx n0 b1 0 [(I f_1.1), (I f_1.2.1), (I f_1.2.2)] [] []] := H
   refine st (v := (Sl a28 r25 c29)) (rv_assign rfl) ?_
   refine w_end ?_
   refine q_then ?_
   refine c_ret ?_
   obtain rfl := Option.some.inj h
   exact fin_ret (v := (Sl a28 r25 c29)) (results_ok Try.results37 (res_tmp (v := (Sl a28 r25 c29)) rfl res_nil) rfl) ⟨a28, c29, rfl, rfl⟩ (H.sel' [0] rfl rfl)

theorem c_laws_eqHit {a_0 : Int × Int} {b_1 : Int × Int}  {r : Bool} (h : M.laws_eqHit a_0 b_1 = some r) :
    Cal2 Try.prog 77 [(.agg #[(I a_0.1), (I a_0.2)]), (.agg #[(I b_1.1), (I b_1.2)])] [] (fun n0 v L => v = (B r) ∧ L = []) := by
 refine cal2 (n := 15) Try.func77 rfl rfl rfl rfl ?_
 intro S0 σ0 n0 hn0 H
 unfold M.laws_eqHit at h
 refine c_seq ?_
 refine rg ?_
 refine st_ex (ex_box (cs := [(I a_0.1), (I a_0.2)]) H hn0 rfl rfl) wn ?_
 rintro _ σ2 ⟨b1, rfl, H, -⟩
 refine st_ex (ex_box (cs := [(I b_1.1), (I b_1.2)]) H hn0 rfl rfl) wn ?_
 rintro _ σ4 ⟨b3, rfl, H, -⟩
 refine st (v := (B false)) (rv_assign rfl) ?_
 refine w_end ?_
 refine q_then ?_
 refine c_seq ?_
 refine c_seq ?_
 refine rg ?_
 refine st (v := (pt b1 0)) (rv_fieldAddr (off := 0) (ft := 3) Try.underlying91 rfl ti3 rfl rfl) ?_
 have hc5 := H.cell (u := (I a_0.1)) (o' := 0) 1 0 rfl rfl rfl
 refine st (v := (I a_0.1)) (rv_load1 Try.underlying3 rfl rfl hc5) ?_
 refine st (v := (pt b3 0)) (rv_fieldAddr (off := 0) (ft := 3) Try.underlying91 rfl ti3 rfl rfl) ?_
 have hc6 := H.cell (u := (I b_1.1)) (o' := 0) 0 0 rfl rfl rfl
 refine st (v := (I b_1.1)) (rv_load1 Try.underlying3 rfl rfl hc6) ?_
 refine st (v := (B (a_0.1 != b_1.1))) (rv_neq (a := a_0.1) (b := b_1.1) rfl rfl) ?_
 refine w_end ?_
 refine q_then ?_
 refine cd_cond (a_0.1 != b_1.1) rfl (fun hb7 => ?_) (fun hb7 => ?_)
 ·replace h := bif_t hb7 h
  refine c_seq ?_
  refine rg ?_
  refine st (v := (B false)) (rv_assign rfl) ?_
  refine w_end ?_
  refine q_then ?_
  refine c_ret ?_
  refine q_then_r ?_
  obtain rfl := Option.some.inj h
  exact fin_ret (v := (B false)) (results_ok Try.results77 (res_tmp (v := (B false)) rfl res_nil) rfl) ⟨rfl, rfl⟩ (H.sel' [] rfl rfl)
 ·replace h := bif_f hb7 h
  refine c_skip ?_
  refine q_then ?_
  refine c_seq ?_
  refine c_seq ?_
  refine rg ?_
  refine st (v := (pt b1 1)) (rv_fieldAddr (off := 1) (ft := 3) Try.underlying91 rfl ti3 rfl rfl) ?_
  have hc8 := H.cell (u := (I a_0.2)) (o' := 1) 1 1 rfl rfl rfl
  refine st (v := (I a_0.2)) (rv_load1 Try.underlying3 rfl rfl hc8) ?_
  refine st (v := (pt b3 1)) (rv_fieldAddr (off := 1) (ft := 3) Try.underlying91 rfl ti3 rfl rfl) ?_
  have hc9 := H.cell (u := (I b_1.2)) (o' := 1) 0 1 rfl rfl rfl
  refine st (v := (I b_1.2)) (rv_load1 Try.underlying3 rfl rfl hc9) ?_
  refine st (v := (B (a_0.2 != b_1.2))) (rv_neq (a := a_0.2) (b := b_1.2) rfl rfl) ?_
  refine w_end ?_
  refine q_then ?_
  refine cd_cond (a_0.2 != b_1.2) rfl (fun hb10 => ?_) (fun hb10 => ?_)
  ·replace h := bif_t hb10 h
   refine c_seq ?_
   refine rg ?_
   refine st (v := (B false)) (rv_assign rfl) ?_
   refine w_end ?_
   refine q_then ?_
   refine c_ret ?_
   refine q_then_r ?_
   obtain rfl := Option.some.inj h
   exact fin_ret (v := (B false)) (results_ok Try.results77 (res_tmp (v := (B false)) rfl res_nil) rfl) ⟨rfl, rfl⟩ (H.sel' [] rfl rfl)
  ·replace h := bif_f hb10 h
   refine c_skip ?_
   refine q_then ?_
   refine c_seq ?_
   refine rg ?_
   refine st (v := (B true)) (rv_assign rfl) ?_
   refine w_end ?_
   refine q_then ?_
   refine c_ret ?_
   obtain rfl := Option.some.inj h
   exact fin_ret (v := (B true)) (results_ok Try.results77 (res_tmp (v := (B true)) rfl res_nil) rfl) ⟨rfl, rfl⟩ (H.sel' [] rfl rfl)

end Go.Vs
