/- The functions compute what their models say. -/
import Derived.Test.YtdjjikmfkejdiabKTreeVisitsAllC2
set_option linter.unusedVariables false
set_option linter.unusedSimpArgs false
set_option maxRecDepth 20000
namespace Go.Vs
open Go Go.Proofs
attribute [local irreducible] Code.wp Code.wpIn wpList wpListIn wpQuiet Calls CallsIn

theorem c_cmp_Or_int {vals_0 : List Int} {avals_0 : Option Addr} {cvals_0 : Nat} {r : Int} (h : M.cmp_Or_int vals_0 = some r) :
    Cal2 Try.prog 115 [(Sl avals_0 vals_0 cvals_0)] [Ch.ro 0 (Sl avals_0 vals_0 cvals_0) vals_0] (fun n0 v L => v = (I r) ∧ L = []) := by
 refine cal2 (n := 18) Try.func115 rfl rfl rfl rfl ?_
 intro S0 σ0 n0 hn0 H
 unfold M.cmp_Or_int at h
 refine c_seq ?_
 refine rg ?_
 refine st (v := (I 0)) (rv_assign rfl) ?_
 refine w_end ?_
 refine q_then ?_
 refine c_seq ?_
 refine rg ?_
 refine st (v := (I 0)) (rv_assign rfl) ?_
 refine w_end ?_
 refine q_then ?_
 refine c_seq ?_
 refine c_seq ?_
 refine rg ?_
 refine st (v := (Sl avals_0 vals_0 cvals_0)) (rv_move rfl) ?_
 refine st (v := (I (vals_0.length : Int))) (rv_len Try.underlying24 rfl) ?_
 refine st (v := (I 0)) (rv_move rfl) ?_
 refine w_end ?_
 refine q_then ?_
 obtain ⟨o1, hj, h'⟩ := bind_some h
 clear h
 refine c_cut (fun e a w => (∃ t, o1 = (.inl t) ∧ e = .normal ∧ ∃ (ρ : Nat → Value) (σ : St), a = fr 18 (updL ρ [(3, (I 0))]) ∧ w = σ.w ∧ Hp S0 σ0 σ []) ∨ (∃ t, o1 = (.inr t) ∧ e = .ret ∧ ∃ (ρ : Nat → Value) (σ : St), a = fr 18 (updL ρ [(2, (I t))]) ∧ w = σ.w ∧ Hp S0 σ0 σ [])) ?_ ?_
 ·clear h'
  rename _ = some o1 => h
  refine c_blk ?_
  refine wp_loopM _ h (fun s2 a w => ∃ (ρ : Nat → Value) (σ : St), a = fr 18 (updL ρ [(3, (I 0)), (6, (Sl avals_0 vals_0 cvals_0)), (7, (I (vals_0.length : Int))), (8, (I s2))]) ∧ w = σ.w ∧ Hp S0 σ0 σ [Ch.ro 0 (Sl avals_0 vals_0 cvals_0) vals_0]) ⟨_, σ0, fr_join ⟨rfl, rfl, rfl, rfl, trivial⟩, rfl, H.sel' [0] rfl rfl⟩ ?_
  clear h H
  rintro s2 a w o ⟨ρ, σ3, rfl, rfl, H⟩ h hres
  refine c_seq ?_
  refine rg ?_
  refine st (v := (B (decide (s2 < (vals_0.length : Int))))) (rv_lss (a := s2) (b := (vals_0.length : Int)) rfl rfl) ?_
  refine w_end ?_
  refine q_then ?_
  refine c_seq ?_
  refine cd_cond (decide (s2 < (vals_0.length : Int))) rfl (fun hb4 => ?_) (fun hb4 => ?_)
  ·replace h := bif_t hb4 h
   refine c_skip ?_
   refine q_then ?_
   refine c_seq ?_
   refine c_blk ?_
   refine c_seq ?_
   refine rg ?_
   obtain ⟨x5, hx6, h'⟩ := bind_some h
   clear h
   have h := h'; clear h'
   obtain ⟨b8, o9, hi7, -⟩ := (H.ro 0 rfl).ix hx6
   refine st (v := (pt b8 o9)) (rv_ix Try.underlying24 ti3 rfl rfl hi7) ?_
   have hc10 := ((H.ro 0 rfl).at hx6 hi7).int
   refine st (v := (I x5)) (rv_load1 Try.underlying3 rfl rfl hc10) ?_
   refine st (v := (I x5)) (rv_assign rfl) ?_
   refine w_end ?_
   refine q_then ?_
   refine c_seq ?_
   refine rg ?_
   refine st (v := (I x5)) (rv_move rfl) ?_
   refine st (v := (I 0)) (rv_move rfl) ?_
   refine st (v := (B (x5 != 0))) (rv_neq (a := x5) (b := 0) rfl rfl) ?_
   refine w_end ?_
   refine q_then ?_
   refine cd_cond (x5 != 0) rfl (fun hb11 => ?_) (fun hb11 => ?_)
   ·replace h := bif_t hb11 h
    refine c_seq ?_
    refine rg ?_
    refine st (v := (I x5)) (rv_move rfl) ?_
    refine st (v := (I x5)) (rv_assign rfl) ?_
    refine w_end ?_
    refine q_then ?_
    refine c_ret ?_
    refine q_blk_r ?_
    refine q_then_r ?_
    refine q_then_r ?_
    refine q_blk_r ?_
    obtain rfl := Option.some.inj h
    obtain rfl := hres _ rfl
    exact .inr (⟨_, rfl, rfl, _, σ3, fr_join ⟨rfl, trivial⟩, rfl, H.sel' [] rfl rfl⟩)
   ·replace h := bif_f hb11 h
    refine c_skip ?_
    refine q_blk ?_
    refine q_then ?_
    refine rg ?_
    refine st (v := (I (w64 (s2 + 1)))) (rv_add (a := s2) (b := 1) rfl rfl) ?_
    refine st (v := (I (w64 (s2 + 1)))) (rv_move rfl) ?_
    refine w_end ?_
    refine q_then ?_
    obtain rfl := Option.some.inj h
    exact ⟨_, rfl, _, σ3, fr_join ⟨rfl, rfl, rfl, rfl, trivial⟩, rfl, H.sel' [0] rfl rfl⟩
  ·replace h := bif_f hb4 h
   refine c_exit ?_
   refine q_then_x ?_
   refine q_then_x ?_
   refine q_blk_hit ?_
   obtain rfl := Option.some.inj h
   obtain rfl := hres _ rfl
   exact .inl ⟨_, rfl, rfl, _, σ3, fr_join ⟨rfl, trivial⟩, rfl, H.sel' [] rfl rfl⟩
 ·clear hj
  have h := h'
  clear h' H
  rintro e a w (⟨t12, rfl, rfl, ρ, σ13, rfl, rfl, H⟩ | ⟨t14, rfl, rfl, ρ, σ15, rfl, rfl, H⟩)
  ·replace h := selim_l h
   refine q_then ?_
   refine c_seq ?_
   refine rg ?_
   refine st (v := (I 0)) (rv_move rfl) ?_
   refine st (v := (I 0)) (rv_assign rfl) ?_
   refine w_end ?_
   refine q_then ?_
   refine c_ret ?_
   obtain rfl := Option.some.inj h
   exact fin_ret (v := (I 0)) (results_ok Try.results115 (res_tmp (v := (I 0)) rfl res_nil) rfl) ⟨rfl, rfl⟩ (H.sel' [] rfl rfl)
  ·replace h := selim_r h
   refine q_then_r ?_
   obtain rfl := Option.some.inj h
   exact fin_ret (v := (I t14)) (results_ok Try.results115 (res_tmp (v := (I t14)) rfl res_nil) rfl) ⟨rfl, rfl⟩ (H.sel' [] rfl rfl)

theorem c_impl_compareHits {a_0 : Int × Int} {b_1 : Int × Int}  {r : Int} (h : M.impl_compareHits a_0 b_1 = some r) :
    Cal2 Try.prog 98 [(.agg #[(I a_0.1), (I a_0.2)]), (.agg #[(I b_1.1), (I b_1.2)])] [] (fun n0 v L => v = (I r) ∧ L = []) := by
 refine cal2 (n := 17) Try.func98 rfl rfl rfl rfl ?_
 intro S0 σ0 n0 hn0 H
 unfold M.impl_compareHits at h
 refine c_seq ?_
 refine rg ?_
 refine st_ex (ex_box (cs := [(I a_0.1), (I a_0.2)]) H hn0 rfl rfl) wn ?_
 rintro _ σ2 ⟨b1, rfl, H, -⟩
 refine st_ex (ex_box (cs := [(I b_1.1), (I b_1.2)]) H hn0 rfl rfl) wn ?_
 rintro _ σ4 ⟨b3, rfl, H, -⟩
 refine st (v := (I 0)) (rv_assign rfl) ?_
 refine w_end ?_
 refine q_then ?_
 refine c_seq ?_
 have hc5 := H.cell (u := (I a_0.2)) (o' := 1) 1 1 rfl rfl rfl
 have hc6 := H.cell (u := (I b_1.2)) (o' := 1) 0 1 rfl rfl rfl
 obtain ⟨r7, hx8, h'⟩ := bind_some h
 clear h
 have h := h'; clear h'
 have hc9 := c_cmp_Compare_int hx8
 have hc10 := H.cell (u := (I a_0.1)) (o' := 0) 1 0 rfl rfl rfl
 have hc11 := H.cell (u := (I b_1.1)) (o' := 0) 0 0 rfl rfl rfl
 have Hs := H
 refine rg2 (σ := σ4) (Nm := Unit) 9 [4] [[false], [true]] [[(0, 0)], [(0, 0)], [(0, 0)], [(0, 0)], [(0, 1)], [(0, 0), (1, 1)], [(0, 0), (1, 1)], [(0, 0), (1, 1)], [(0, 0), (1, 1)]] 1 [fun _ => fun σm => Hp S0 σ0 σm [Ch.bx n0 b3 0 [(I b_1.1), (I b_1.2)] [] [], Ch.bx n0 b1 0 [(I a_0.1), (I a_0.2)] [] []] ∧ Md (cov []) σ4 σm, fun _ => fun σm => Hp S0 σ0 σm [Ch.bx n0 b3 0 [(I b_1.1), (I b_1.2)] [] [], Ch.bx n0 b1 0 [(I a_0.1), (I a_0.2)] [] []] ∧ Md (cov []) σ4 σm] [fun _ => (pt b1 1), fun _ => (I a_0.2), fun _ => (pt b3 1), fun _ => (I b_1.2), fun _ => (I r7), fun _ => (pt b1 0), fun _ => (I a_0.1), fun _ => (pt b3 0), fun _ => (I b_1.1)] () (by kernel_rfl) (by kernel_rfl) ?_ ?_ ?_
 ·intro σm m0
  exact ⟨H.grow (m0.mono fun _ h => h.elim), m0⟩
 ·refine ac rfl (by
    intro k _nm ρ σm hJ hoff hdep
    have e2 := look_off (N := 17) (hoff 2 rfl) rfl
    exact dp_v (v := (pt b1 1)) wn (rv_fieldAddr (off := 1) (ft := 3) Try.underlying91 rfl ti3 rfl e2) rfl hJ) ?_
  refine all_cons (by
    refine ⟨?_, ?_⟩
    ·intro _nm ρ σm hJ hoff hdep
     have e5 := hdep 0 rfl rfl 5 rfl
     obtain ⟨H, m⟩ := id hJ
     have hc5 := H.cell (u := (I a_0.2)) (o' := 1) 1 1 rfl rfl rfl
     exact dp_v (v := (I a_0.2)) wn (rv_load1 Try.underlying3 rfl e5 hc5) rfl hJ
    trivial) ?_
  refine ac rfl (by
    intro k _nm ρ σm hJ hoff hdep
    have e3 := look_off (N := 17) (hoff 3 rfl) rfl
    exact dp_v (v := (pt b3 1)) wn (rv_fieldAddr (off := 1) (ft := 3) Try.underlying91 rfl ti3 rfl e3) rfl hJ) ?_
  refine all_cons (by
    refine ⟨?_, ?_⟩
    ·intro _nm ρ σm hJ hoff hdep
     have e7 := hdep 2 rfl rfl 7 rfl
     obtain ⟨H, m⟩ := id hJ
     have hc6 := H.cell (u := (I b_1.2)) (o' := 1) 0 1 rfl rfl rfl
     exact dp_v (v := (I b_1.2)) wn (rv_load1 Try.underlying3 rfl e7 hc6) rfl hJ
    trivial) ?_
  refine all_cons (by
    refine ⟨?_, ?_⟩
    ·intro _nm ρ σm hJ hoff hdep
     have e6 : look 17 ρ 6 = (I a_0.2) := hdep 1 rfl rfl 6 rfl
     have e8 : look 17 ρ 8 = (I b_1.2) := hdep 3 rfl rfl 8 rfl
     obtain ⟨H, m⟩ := id hJ
     refine dp_cx wn (cx_call hc9 (ent_f hc9.fn (by show [look 17 ρ 6, look 17 ρ 8] = _; rw [e6, e8])) hn0 (show Hp S0 σ0 _ ([] ++ [Ch.bx n0 b3 0 [(I b_1.1), (I b_1.2)] [] [], Ch.bx n0 b1 0 [(I a_0.1), (I a_0.2)] [] []]) from (H.sel' [0, 1] rfl rfl))) ?_
     rintro _ σq ⟨_, ⟨rfl, rfl⟩, H2, m2⟩
     exact ⟨_, (), rfl, rfl, ⟨H2.sel' [0, 1] rfl rfl, m.comp0 m2⟩, stab [0, 1, 2, 3, 5, 6, 7, 8] (by kernel_rfl) ⟨rfl, rfl, rfl, rfl, rfl, rfl, rfl, rfl, trivial⟩⟩
    trivial) ?_
  refine ac rfl (by
    intro k _nm ρ σm hJ hoff hdep
    have e2 := look_off (N := 17) (hoff 2 rfl) rfl
    exact dp_v (v := (pt b1 0)) wn (rv_fieldAddr (off := 0) (ft := 3) Try.underlying91 rfl ti3 rfl e2) rfl hJ) ?_
  refine all_cons (by
    refine ⟨?_, ?_⟩
    ·intro _nm ρ σm hJ hoff hdep
     have e10 := hdep 5 rfl rfl 10 rfl
     obtain ⟨H, m⟩ := id hJ
     have hc10 := H.cell (u := (I a_0.1)) (o' := 0) 1 0 rfl rfl rfl
     exact dp_v (v := (I a_0.1)) wn (rv_load1 Try.underlying3 rfl e10 hc10) rfl hJ
    refine ⟨?_, ?_⟩
    ·intro _nm ρ σm hJ hoff hdep
     have e10 := hdep 5 rfl rfl 10 rfl
     obtain ⟨H, m⟩ := id hJ
     have hc10 := H.cell (u := (I a_0.1)) (o' := 0) 1 0 rfl rfl rfl
     exact dp_v (v := (I a_0.1)) wn (rv_load1 Try.underlying3 rfl e10 hc10) rfl hJ
    trivial) ?_
  refine ac rfl (by
    intro k _nm ρ σm hJ hoff hdep
    have e3 := look_off (N := 17) (hoff 3 rfl) rfl
    exact dp_v (v := (pt b3 0)) wn (rv_fieldAddr (off := 0) (ft := 3) Try.underlying91 rfl ti3 rfl e3) rfl hJ) ?_
  refine all_cons (by
    refine ⟨?_, ?_⟩
    ·intro _nm ρ σm hJ hoff hdep
     have e12 := hdep 7 rfl rfl 12 rfl
     obtain ⟨H, m⟩ := id hJ
     have hc11 := H.cell (u := (I b_1.1)) (o' := 0) 0 0 rfl rfl rfl
     exact dp_v (v := (I b_1.1)) wn (rv_load1 Try.underlying3 rfl e12 hc11) rfl hJ
    refine ⟨?_, ?_⟩
    ·intro _nm ρ σm hJ hoff hdep
     have e12 := hdep 7 rfl rfl 12 rfl
     obtain ⟨H, m⟩ := id hJ
     have hc11 := H.cell (u := (I b_1.1)) (o' := 0) 0 0 rfl rfl rfl
     exact dp_v (v := (I b_1.1)) wn (rv_load1 Try.underlying3 rfl e12 hc11) rfl hJ
    trivial) ?_
  exact all_nil
 ·intro _nm ρ σ12 hJ hoff hrel
  have e9 := hrel 4 rfl 9 rfl
  have e11 := hrel 6 rfl 11 rfl
  have e13 := hrel 8 rfl 13 rfl
  obtain ⟨H, -⟩ := (show Hp S0 σ0 σ12 [Ch.bx n0 b3 0 [(I b_1.1), (I b_1.2)] [] [], Ch.bx n0 b1 0 [(I a_0.1), (I a_0.2)] [] []] ∧ Md (cov []) σ4 σ12 from hJ)
  clear hJ Hs
  rw [fr_lookL (L := [(9, (I r7)), (11, (I a_0.1)), (13, (I b_1.1))]) ⟨e9, e11, e13, trivial⟩]
  clear hoff hrel e9 e11 e13
  obtain ⟨r13, hx14, h'⟩ := bind_some h
  clear h
  have h := h'; clear h'
  have hc15 := c_cmp_Compare_int hx14
  refine st_call (cx_call hc15 (ent_f hc15.fn rfl) hn0 (show Hp S0 σ0 _ ([] ++ [Ch.bx n0 b3 0 [(I b_1.1), (I b_1.2)] [] [], Ch.bx n0 b1 0 [(I a_0.1), (I a_0.2)] [] []]) from (H.sel' [0, 1] rfl rfl))) wn ?_
  rintro _ σ16 ⟨_, ⟨rfl, rfl⟩, H, -⟩
  replace H : Hp S0 σ0 σ16 [Ch.bx n0 b3 0 [(I b_1.1), (I b_1.2)] [] [], Ch.bx n0 b1 0 [(I a_0.1), (I a_0.2)] [] []] := H
  refine st_ex (ex_buildSlice (el := n0) (xs := ([r7, r13] : List Int)) (ps := [(0, (I r7)), (1, (I r13))]) (cs := [(I r7), (I r13)]) H hn0 Try.underlying24 ti3 rfl rfl (by kernel_rfl) (.cons (c := [(I r7)]) rfl (.cons (c := [(I r13)]) rfl (.nil))) rfl) wn ?_
  rintro _ σ18 ⟨b17, rfl, H, -⟩
  obtain ⟨σ19, hw20, H, -⟩ := H.pub 0 rfl (Nat.le_refl _)
  rw [← hw20]; clear hw20
  replace H := H.roLow 0 0 rfl (Nat.zero_le _)
  obtain ⟨r21, hx22, h'⟩ := bind_some h
  clear h
  have h := h'; clear h'
  have hc23 := c_cmp_Or_int (avals_0 := (some ⟨b17, 0, none⟩)) (cvals_0 := 2) hx22
  refine st_call (cx_call hc23 (ent_f hc23.fn rfl) hn0 (show Hp S0 σ0 _ ([Ch.ro 0 (Sl (some ⟨b17, 0, none⟩) ([r7, r13] : List Int) 2) ([r7, r13] : List Int)] ++ [Ch.ro 0 (Sl (some ⟨b17, 0, none⟩) ([r7, r13] : List Int) 2) ([r7, r13] : List Int), Ch.ro n0 (Sl (some ⟨b17, 0, none⟩) ([r7, r13] : List Int) 2) ([r7, r13] : List Int), Ch.bx n0 b3 0 [(I b_1.1), (I b_1.2)] [] [], Ch.bx n0 b1 0 [(I a_0.1), (I a_0.2)] [] []]) from (H.sel' [0, 0, 1, 2, 3] rfl rfl))) wn ?_
  rintro _ σ24 ⟨_, ⟨rfl, rfl⟩, H, -⟩
  replace H : Hp S0 σ0 σ24 [Ch.ro 0 (Sl (some ⟨b17, 0, none⟩) ([r7, r13] : List Int) 2) ([r7, r13] : List Int), Ch.ro n0 (Sl (some ⟨b17, 0, none⟩) ([r7, r13] : List Int) 2) ([r7, r13] : List Int), Ch.bx n0 b3 0 [(I b_1.1), (I b_1.2)] [] [], Ch.bx n0 b1 0 [(I a_0.1), (I a_0.2)] [] []] := H
  refine st (v := (I r21)) (rv_assign rfl) ?_
  refine w_end ?_
  refine q_then ?_
  refine c_ret ?_
  obtain rfl := Option.some.inj h
  exact fin_ret (v := (I r21)) (results_ok Try.results98 (res_tmp (v := (I r21)) rfl res_nil) rfl) ⟨rfl, rfl⟩ (H.sel' [] rfl rfl)

theorem c_impl_hitHeap_Less {h_0 : List (Int × Int)} {i_1 : Int} {j_2 : Int} {ah_0 : Option Addr} {ch_0 : Nat} {r : Bool} (h : M.impl_hitHeap_Less h_0 i_1 j_2 = some r) :
    Cal2 Try.prog 155 [(Sl ah_0 h_0 ch_0), (I i_1), (I j_2)] [Ch.ro 0 (Sl ah_0 h_0 ch_0) h_0] (fun n0 v L => v = (B r) ∧ L = []) := by
 refine cal2 (n := 17) Try.func155 rfl rfl rfl rfl ?_
 intro S0 σ0 n0 hn0 H
 unfold M.impl_hitHeap_Less at h
 refine c_seq ?_
 refine rg ?_
 refine st (v := (B false)) (rv_assign rfl) ?_
 refine w_end ?_
 refine q_then ?_
 refine c_seq ?_
 refine rgP (σ := σ0) 8 (by kernel_rfl) (by kernel_rfl) (by kernel_rfl) ?_
 refine sq (v := (Sl ah_0 h_0 ch_0)) (rv_move rfl) ?_
 refine sq (v := (I i_1)) (rv_move rfl) ?_
 obtain ⟨x1, hx2, h'⟩ := bind_some h
 clear h
 have h := h'; clear h'
 obtain ⟨b4, o5, hi3, -⟩ := (H.ro 0 rfl).ix hx2
 refine sq (v := (pt b4 o5)) (rv_ix Try.underlying51 ti91 rfl rfl hi3) ?_
 obtain ⟨_, ⟨_, _, rfl, rfl, rfl⟩, hl6, hc7⟩ := ((H.ro 0 rfl).at hx2 hi3).cells
 refine sq (v := (.agg #[(I x1.1), (I x1.2)])) (rv_load Try.underlying91 rfl ti91 rfl hl6 hc7) ?_
 refine sq (v := (Sl ah_0 h_0 ch_0)) (rv_move rfl) ?_
 refine sq (v := (I j_2)) (rv_move rfl) ?_
 obtain ⟨x8, hx9, h'⟩ := bind_some h
 clear h
 have h := h'; clear h'
 obtain ⟨b11, o12, hi10, -⟩ := (H.ro 0 rfl).ix hx9
 refine sq (v := (pt b11 o12)) (rv_ix Try.underlying51 ti91 rfl rfl hi10) ?_
 obtain ⟨_, ⟨_, _, rfl, rfl, rfl⟩, hl13, hc14⟩ := ((H.ro 0 rfl).at hx9 hi10).cells
 refine sq (v := (.agg #[(I x8.1), (I x8.2)])) (rv_load Try.underlying91 rfl ti91 rfl hl13 hc14) ?_
 refine sq_end ?_
 intro σ15 hm16
 replace H := H.grow (hm16.mono fun _ h => h); clear hm16
 obtain ⟨r17, hx18, h'⟩ := bind_some h
 clear h
 have h := h'; clear h'
 have hc19 := c_impl_compareHits hx18
 refine st_call (cx_call hc19 (ent_f hc19.fn rfl) hn0 (show Hp S0 σ0 _ ([] ++ [Ch.ro 0 (Sl ah_0 h_0 ch_0) h_0]) from (H.sel' [0] rfl rfl))) wn ?_
 rintro _ σ20 ⟨_, ⟨rfl, rfl⟩, H, -⟩
 replace H : Hp S0 σ0 σ20 [Ch.ro 0 (Sl ah_0 h_0 ch_0) h_0] := H
 refine st (v := (B (decide (0 < r17)))) (rv_gtr (a := r17) (b := 0) rfl rfl) ?_
 refine st (v := (B (decide (0 < r17)))) (rv_assign rfl) ?_
 refine w_end ?_
 refine q_then ?_
 refine c_ret ?_
 obtain rfl := Option.some.inj h
 exact fin_ret (v := (B (decide (0 < r17)))) (results_ok Try.results155 (res_tmp (v := (B (decide (0 < r17)))) rfl res_nil) rfl) ⟨rfl, rfl⟩ (H.sel' [] rfl rfl)

theorem c_impl_hitHeap_Swap {h_0 : List (Int × Int)} {i_1 : Int} {j_2 : Int} {ah_0 : Option Addr} {ch_0 : Nat} {r : (List (Int × Int))} (h : M.impl_hitHeap_Swap h_0 i_1 j_2 = some r) :
    Cal2 Try.prog 156 [(Sl ah_0 h_0 ch_0), (I i_1), (I j_2)] [Ch.own 0 0 (Sl ah_0 h_0 ch_0) h_0] (fun n0 v L => v = (.tuple #[]) ∧ L = [Ch.own 0 0 (Sl ah_0 r ch_0) r] ∧ r.length = h_0.length) := by
 refine cal2 (n := 20) Try.func156 rfl rfl rfl rfl ?_
 intro S0 σ0 n0 hn0 H
 unfold M.impl_hitHeap_Swap at h
 obtain ⟨x1, hx2, h'⟩ := bind_some h
 clear h
 have h := h'; clear h'
 obtain ⟨b4, o5, hi3, -⟩ := (H.own 0 rfl).ix hx2
 obtain ⟨_, ⟨_, _, rfl, rfl, rfl⟩, hl6, hc7⟩ := ((H.own 0 rfl).at hx2 hi3).cells
 obtain ⟨x8, hx9, h'⟩ := bind_some h
 clear h
 have h := h'; clear h'
 obtain ⟨b11, o12, hi10, -⟩ := (H.own 0 rfl).ix hx9
 obtain ⟨_, ⟨_, _, rfl, rfl, rfl⟩, hl13, hc14⟩ := ((H.own 0 rfl).at hx9 hi10).cells
 obtain ⟨x15, hx16, h'⟩ := bind_some h
 clear h
 have h := h'; clear h'
 obtain ⟨b18, o19, hi17, -⟩ := (H.own 0 rfl).ix hx16
 have Hs := H
 refine rg2 (σ := σ0) (Nm := Unit) 14 [13] [[false], [true]] [[(0, 0)], [(0, 0)], [(0, 0), (1, 1)], [(0, 0), (1, 1)], [(0, 0)], [(0, 0)], [(0, 0)], [(0, 0)], [(0, 0)], [(0, 0)], [(0, 0)], [(0, 0)], [(0, 0)], [(0, 1)]] 1 [fun _ => fun σm => Hp S0 σ0 σm [Ch.own 0 0 (Sl ah_0 h_0 ch_0) h_0] ∧ Md (cov []) σ0 σm, fun _ => fun σm => Hp S0 σ0 σm [Ch.own 0 0 (Sl ah_0 h_0 ch_0) (h_0.set i_1.toNat (x1.1, x1.2))] ∧ Md (fun i => (cov []) i ∨ (fun b => blk (Sl ah_0 h_0 ch_0) = some b) i) σ0 σm] [fun _ => (Sl ah_0 h_0 ch_0), fun _ => (I i_1), fun _ => (Sl ah_0 h_0 ch_0), fun _ => (I j_2), fun _ => (Sl ah_0 h_0 ch_0), fun _ => (I j_2), fun _ => (pt b4 o5), fun _ => (.agg #[(I x1.1), (I x1.2)]), fun _ => (Sl ah_0 h_0 ch_0), fun _ => (I i_1), fun _ => (pt b11 o12), fun _ => (.agg #[(I x8.1), (I x8.2)]), fun _ => (pt b18 o19), fun _ => undef] () (by kernel_rfl) (by kernel_rfl) ?_ ?_ ?_
 ·intro σm m0
  exact ⟨H.grow (m0.mono fun _ h => h.elim), m0⟩
 ·refine ac rfl (by
    intro k _nm ρ σm hJ hoff hdep
    have e0 := look_off (N := 20) (hoff 0 rfl) rfl
    exact dp_v (v := (Sl ah_0 h_0 ch_0)) wn (rv_move e0) rfl hJ) ?_
  refine ac rfl (by
    intro k _nm ρ σm hJ hoff hdep
    have e1 := look_off (N := 20) (hoff 1 rfl) rfl
    exact dp_v (v := (I i_1)) wn (rv_move e1) rfl hJ) ?_
  refine ac rfl (by
    intro k _nm ρ σm hJ hoff hdep
    have e0 := look_off (N := 20) (hoff 0 rfl) rfl
    exact dp_v (v := (Sl ah_0 h_0 ch_0)) wn (rv_move e0) rfl hJ) ?_
  refine ac rfl (by
    intro k _nm ρ σm hJ hoff hdep
    have e2 := look_off (N := 20) (hoff 2 rfl) rfl
    exact dp_v (v := (I j_2)) wn (rv_move e2) rfl hJ) ?_
  refine ac rfl (by
    intro k _nm ρ σm hJ hoff hdep
    have e0 := look_off (N := 20) (hoff 0 rfl) rfl
    exact dp_v (v := (Sl ah_0 h_0 ch_0)) wn (rv_move e0) rfl hJ) ?_
  refine ac rfl (by
    intro k _nm ρ σm hJ hoff hdep
    have e2 := look_off (N := 20) (hoff 2 rfl) rfl
    exact dp_v (v := (I j_2)) wn (rv_move e2) rfl hJ) ?_
  refine ac rfl (by
    intro k _nm ρ σm hJ hoff hdep
    have e10 := hdep 4 rfl rfl 10 rfl
    have e11 := hdep 5 rfl rfl 11 rfl
    exact dp_v (v := (pt b4 o5)) wn (rv_ix Try.underlying51 ti91 e10 e11 hi3) rfl hJ) ?_
  refine all_cons (by
    refine ⟨?_, ?_⟩
    ·intro _nm ρ σm hJ hoff hdep
     have e12 := hdep 6 rfl rfl 12 rfl
     obtain ⟨H, m⟩ := id hJ
     obtain ⟨_, ⟨_, _, rfl, rfl, rfl⟩, hl6, hc7⟩ := ((H.own 0 rfl).at hx2 hi3).cells
     exact dp_v (v := (.agg #[(I x1.1), (I x1.2)])) wn (rv_load Try.underlying91 rfl ti91 e12 hl6 hc7) rfl hJ
    trivial) ?_
  refine ac rfl (by
    intro k _nm ρ σm hJ hoff hdep
    have e0 := look_off (N := 20) (hoff 0 rfl) rfl
    exact dp_v (v := (Sl ah_0 h_0 ch_0)) wn (rv_move e0) rfl hJ) ?_
  refine ac rfl (by
    intro k _nm ρ σm hJ hoff hdep
    have e1 := look_off (N := 20) (hoff 1 rfl) rfl
    exact dp_v (v := (I i_1)) wn (rv_move e1) rfl hJ) ?_
  refine ac rfl (by
    intro k _nm ρ σm hJ hoff hdep
    have e14 := hdep 8 rfl rfl 14 rfl
    have e15 := hdep 9 rfl rfl 15 rfl
    exact dp_v (v := (pt b11 o12)) wn (rv_ix Try.underlying51 ti91 e14 e15 hi10) rfl hJ) ?_
  refine all_cons (by
    refine ⟨?_, ?_⟩
    ·intro _nm ρ σm hJ hoff hdep
     have e16 := hdep 10 rfl rfl 16 rfl
     obtain ⟨H, m⟩ := id hJ
     obtain ⟨_, ⟨_, _, rfl, rfl, rfl⟩, hl13, hc14⟩ := ((H.own 0 rfl).at hx9 hi10).cells
     exact dp_v (v := (.agg #[(I x8.1), (I x8.2)])) wn (rv_load Try.underlying91 rfl ti91 e16 hl13 hc14) rfl hJ
    trivial) ?_
  refine ac rfl (by
    intro k _nm ρ σm hJ hoff hdep
    have e6 := hdep 0 rfl rfl 6 rfl
    have e7 := hdep 1 rfl rfl 7 rfl
    exact dp_v (v := (pt b18 o19)) wn (rv_ix Try.underlying51 ti91 e6 e7 hi17) rfl hJ) ?_
  refine all_cons (by
    refine ⟨?_, ?_⟩
    ·intro _nm ρ σm hJ hoff hdep
     have e18 := hdep 12 rfl rfl 18 rfl
     have e13 := hdep 7 rfl rfl 13 rfl
     obtain ⟨H, m⟩ := id hJ
     refine dp_exS wn rfl (ex_store_own (e' := (x1.1, x1.2)) (vs := [(I x1.1), (I x1.2)]) (k := 0) H (i := 0) rfl ti91 hx16 hi17 e18 rfl e13 rfl rfl (Nat.le_of_ble_eq_true rfl) (by simp [plain]) (by rintro _ ⟨_, _, rfl, rfl, rfl⟩; exact ⟨[(I x1.1)], [(I x1.2)], rfl, rfl, rfl⟩)) ?_
     rintro σq ⟨H2, m2⟩
     exact ⟨_, (), rfl, ⟨H2.sel' [0] rfl rfl, m.comp m2⟩, stab [0, 1, 2, 3, 4, 5, 6, 7, 8, 9, 10, 11, 12] (by kernel_rfl) ⟨rfl, rfl, rfl, rfl, rfl, rfl, rfl, rfl, rfl, rfl, rfl, rfl, rfl, trivial⟩⟩
    trivial) ?_
  exact all_nil
 ·intro _nm ρ σ20 hJ hoff hrel
  have e0 := look_off (N := 20) (hoff 0 rfl) rfl
  have e8 := hrel 2 rfl 8 rfl
  have e9 := hrel 3 rfl 9 rfl
  have e17 := hrel 11 rfl 17 rfl
  obtain ⟨H, -⟩ := (show Hp S0 σ0 σ20 [Ch.own 0 0 (Sl ah_0 h_0 ch_0) (h_0.set i_1.toNat (x1.1, x1.2))] ∧ Md (fun i => (cov []) i ∨ (fun b => blk (Sl ah_0 h_0 ch_0) = some b) i) σ0 σ20 from hJ)
  clear hJ Hs
  rw [fr_lookL (L := [(0, (Sl ah_0 h_0 ch_0)), (8, (Sl ah_0 h_0 ch_0)), (9, (I j_2)), (17, (.agg #[(I x8.1), (I x8.2)]))]) ⟨e0, e8, e9, e17, trivial⟩]
  clear hoff hrel e0 e8 e9 e17
  have hsl : (Sl ah_0 h_0 ch_0) = (Sl ah_0 (h_0.set i_1.toNat (x1.1, x1.2)) ch_0) := sl_len (by simp)
  rw [hsl]; rw [hsl] at H; clear hsl
  obtain ⟨x21, hx22, h'⟩ := bind_some h
  clear h
  have h := h'; clear h'
  obtain ⟨b24, o25, hi23, -⟩ := (H.own 0 rfl).ix hx22
  refine st (v := (pt b24 o25)) (rv_ix Try.underlying51 ti91 rfl rfl hi23) ?_
  refine st_exS (ex_store_own (e' := (x8.1, x8.2)) (vs := [(I x8.1), (I x8.2)]) (k := 0) H (i := 0) rfl ti91 hx22 hi23 rfl rfl rfl rfl rfl (Nat.le_of_ble_eq_true rfl) (by simp [plain]) (by rintro _ ⟨_, _, rfl, rfl, rfl⟩; exact ⟨[(I x8.1)], [(I x8.2)], rfl, rfl, rfl⟩)) wn ?_
  rintro σ26 ⟨H, -⟩
  have hsl : (Sl ah_0 (h_0.set i_1.toNat (x1.1, x1.2)) ch_0) = (Sl ah_0 ((h_0.set i_1.toNat (x1.1, x1.2)).set j_2.toNat (x8.1, x8.2)) ch_0) := sl_len List.length_set.symm
  rw [hsl]; rw [hsl] at H; clear hsl
  refine w_end ?_
  obtain rfl := Option.some.inj h
  exact fin_end (v := (.tuple #[])) (results_ok Try.results156 res_nil rfl) ⟨rfl, rfl, (List.length_set.trans List.length_set)⟩ (H.sel' [0] rfl rfl)

theorem c_container_heap_up__impl_hitHeap {h_0 : List (Int × Int)} {j_1 : Int} {ah_0 : Option Addr} {ch_0 : Nat} {loh_0 bh_0 oh_0 : Nat} {preh_0 sufh_0 : List Value} {r : (List (Int × Int))} (h : M.container_heap_up__impl_hitHeap h_0 j_1 = some r) :
    Cal2 Try.prog 111 [(.iface 111 (pt bh_0 oh_0)), (I j_1)] [Ch.bx loh_0 bh_0 oh_0 [(Sl ah_0 h_0 ch_0)] preh_0 sufh_0, Ch.own 0 0 (Sl ah_0 h_0 ch_0) h_0] (fun n0 v L => ∃ (az1 : Option Addr), ∃ (cz2 : Nat), v = (.tuple #[]) ∧ L = [Ch.bx loh_0 bh_0 oh_0 [(Sl az1 r cz2)] preh_0 sufh_0, Ch.own 0 0 (Sl az1 r cz2) r]) := by
 refine cal2 (n := 23) Try.func111 rfl rfl rfl rfl ?_
 intro S0 σ0 n0 hn0 H
 unfold M.container_heap_up__impl_hitHeap at h
 obtain ⟨o1, hj, h'⟩ := bind_some h
 clear h
 refine c_cut (fun e a w => e = .normal ∧ ∃ (ρ : Nat → Value) (σ : St) (aj1 : Option Addr) (cj2 : Nat), a = fr 23 (updL ρ [(0, (.iface 111 (pt bh_0 oh_0)))]) ∧ w = σ.w ∧ Hp S0 σ0 σ [Ch.bx loh_0 bh_0 oh_0 [(Sl aj1 o1 cj2)] preh_0 sufh_0, Ch.own 0 0 (Sl aj1 o1 cj2) o1]) ?_ ?_
 ·clear h'
  rename _ = some o1 => h
  refine c_blk ?_
  refine wp_loopM _ h (fun s2 a w => ∃ (ρ : Nat → Value) (σ : St) (aj1 : Option Addr) (cj2 : Nat), a = fr 23 (updL ρ [(0, (.iface 111 (pt bh_0 oh_0))), (1, (I s2.2))]) ∧ w = σ.w ∧ Hp S0 σ0 σ [Ch.bx loh_0 bh_0 oh_0 [(Sl aj1 s2.1 cj2)] preh_0 sufh_0, Ch.own 0 0 (Sl aj1 s2.1 cj2) s2.1]) ⟨_, σ0, ah_0, ch_0, fr_join ⟨rfl, rfl, trivial⟩, rfl, H.sel' [0, 1] rfl rfl⟩ ?_
  clear h H
  rintro s2 a w o ⟨ρ, σ3, a4, c5, rfl, rfl, H⟩ h hres
  refine c_blk ?_
  refine c_seq ?_
  refine rg ?_
  refine st (v := (I s2.2)) (rv_move rfl) ?_
  refine st (v := (I (w64 (s2.2 - 1)))) (rv_sub (a := s2.2) (b := 1) rfl rfl) ?_
  refine st (v := (I (w64 ((w64 (s2.2 - 1)).tdiv 2)))) (rv_quo (a := (w64 (s2.2 - 1))) (b := 2) rfl rfl (by decide)) ?_
  refine st (v := (I (w64 ((w64 (s2.2 - 1)).tdiv 2)))) (rv_assign rfl) ?_
  refine w_end ?_
  refine q_then ?_
  refine c_seq ?_
  refine c_seq ?_
  obtain ⟨o6, hj, h'⟩ := bind_some h
  clear h
  refine c_cut (fun e a w => e = .normal ∧ ∃ (ρ : Nat → Value) (σ : St), a = fr 23 (updL ρ [(0, (.iface 111 (pt bh_0 oh_0))), (1, (I s2.2)), (4, (I (w64 ((w64 (s2.2 - 1)).tdiv 2)))), (17, (B o6))]) ∧ w = σ.w ∧ Hp S0 σ0 σ [Ch.own 0 0 (Sl a4 s2.1 c5) s2.1, Ch.bx loh_0 bh_0 oh_0 [(Sl a4 s2.1 c5)] preh_0 sufh_0]) ?_ ?_
  ·clear h'
   rename _ = some o6 => h
   refine rg ?_
   refine st (v := (I (w64 ((w64 (s2.2 - 1)).tdiv 2)))) (rv_move rfl) ?_
   refine st (v := (I s2.2)) (rv_move rfl) ?_
   refine st (v := (B ((w64 ((w64 (s2.2 - 1)).tdiv 2)) == s2.2))) (rv_eql (a := (w64 ((w64 (s2.2 - 1)).tdiv 2))) (b := s2.2) rfl rfl) ?_
   refine st (v := (B ((w64 ((w64 (s2.2 - 1)).tdiv 2)) == s2.2))) (rv_move rfl) ?_
   rcases Bool.eq_false_or_eq_true ((w64 ((w64 (s2.2 - 1)).tdiv 2)) == s2.2) with hb7 | hb7
   ·replace h := bif_t hb7 h
    refine st_skip (congrArg some hb7) ?_
    refine st_skip (congrArg some hb7) ?_
    refine st_skip (congrArg some hb7) ?_
    refine st_skip (congrArg some hb7) ?_
    refine st_skip (congrArg some hb7) ?_
    refine st (v := (B true)) (rv_pick_t (congrArg B hb7) rfl) ?_
    refine w_end ?_
    obtain rfl := Option.some.inj h
    exact ⟨rfl, _, σ3, fr_join ⟨rfl, rfl, rfl, rfl, trivial⟩, rfl, H.sel' [1, 0] rfl rfl⟩
   ·replace h := bif_f hb7 h
    refine st_g (v := (.iface 111 (pt bh_0 oh_0))) (congrArg some hb7) (rv_move rfl) ?_
    refine st_g (v := (I s2.2)) (congrArg some hb7) (rv_move rfl) ?_
    refine st_g (v := (I (w64 ((w64 (s2.2 - 1)).tdiv 2)))) (congrArg some hb7) (rv_move rfl) ?_
    obtain ⟨r8, hx9, h'⟩ := bind_some h
    clear h
    have h := h'; clear h'
    have hc10 := c_impl_hitHeap_Less (ah_0 := a4) (ch_0 := c5) hx9
    have hle := Nat.le_trans hn0 H.size
    refine st_call (cx_lend (Loan.lend Loan.nil) hc10 (ent_iv hc10.fn (by kernel_rfl) Try.underlying111 Try.underlying51 rfl rfl (H.cell (u := (Sl a4 s2.1 c5)) (o' := oh_0) 0 0 rfl rfl rfl) rfl) (show Hp S0 σ0 _ ([Ch.own 0 0 (Sl a4 s2.1 c5) s2.1] ++ ([] ++ [Ch.bx loh_0 bh_0 oh_0 [(Sl a4 s2.1 c5)] preh_0 sufh_0])) from (H.sel' [1, 0] rfl rfl)) (by rintro _ _ _ ⟨rfl, rfl⟩; exact trivial)) (wanted_yes rfl (by exact (congrArg some hb7))) ?_
    rintro _ σ11 ⟨_, ⟨rfl, rfl⟩, H, -, -⟩
    replace H : Hp S0 σ0 σ11 [Ch.own 0 0 (Sl a4 s2.1 c5) s2.1, Ch.bx loh_0 bh_0 oh_0 [(Sl a4 s2.1 c5)] preh_0 sufh_0] := H
    clear hle
    replace H : Hp S0 σ0 σ11 [Ch.own 0 0 (Sl a4 s2.1 c5) s2.1, Ch.bx loh_0 bh_0 oh_0 [(Sl a4 s2.1 c5)] preh_0 sufh_0] := H
    refine st_g (v := (B (!r8))) (congrArg some hb7) (rv_not rfl) ?_
    refine st (v := (B (!r8))) (rv_pick_f (congrArg B hb7) rfl) ?_
    refine w_end ?_
    obtain rfl := Option.some.inj h
    exact ⟨rfl, _, σ11, fr_join ⟨rfl, rfl, rfl, rfl, trivial⟩, rfl, H.sel' [0, 1] rfl rfl⟩
  ·clear hj
   have h := h'
   clear h' H
   rintro e a w ⟨rfl, ρ, σ12, rfl, rfl, H⟩
   refine q_then ?_
   refine cd_cond o6 rfl (fun hb13 => ?_) (fun hb13 => ?_)
   ·replace h := bif_t hb13 h
    refine c_exit ?_
    refine q_then_x ?_
    refine q_blk_x (by decide) ?_
    refine q_then_x ?_
    refine q_blk_hit ?_
    obtain rfl := Option.some.inj h
    obtain rfl := hres _ rfl
    exact ⟨rfl, _, σ12, a4, c5, fr_join ⟨rfl, trivial⟩, rfl, H.sel' [1, 0] rfl rfl⟩
   ·replace h := bif_f hb13 h
    refine c_skip ?_
    refine q_then ?_
    refine c_seq ?_
    refine rg ?_
    refine st (v := (.iface 111 (pt bh_0 oh_0))) (rv_move rfl) ?_
    refine st (v := (I (w64 ((w64 (s2.2 - 1)).tdiv 2)))) (rv_move rfl) ?_
    refine st (v := (I s2.2)) (rv_move rfl) ?_
    obtain ⟨r14, hx15, h'⟩ := bind_some h
    clear h
    have h := h'; clear h'
    have hc16 := c_impl_hitHeap_Swap (ah_0 := a4) (ch_0 := c5) hx15
    refine st_call (cx_call hc16 (ent_iv hc16.fn (by kernel_rfl) Try.underlying111 Try.underlying51 rfl rfl (H.cell (u := (Sl a4 s2.1 c5)) (o' := oh_0) 1 0 rfl rfl rfl) rfl) hn0 (show Hp S0 σ0 _ ([Ch.own 0 0 (Sl a4 s2.1 c5) s2.1] ++ [Ch.bx loh_0 bh_0 oh_0 [(Sl a4 s2.1 c5)] preh_0 sufh_0]) from (H.sel' [0, 1] rfl rfl))) wn ?_
    rintro _ σ18 ⟨_, ⟨rfl, rfl, hn17⟩, H, -⟩
    replace H : Hp S0 σ0 σ18 [Ch.own 0 0 (Sl a4 r14 c5) r14, Ch.bx loh_0 bh_0 oh_0 [(Sl a4 s2.1 c5)] preh_0 sufh_0] := H
    have hsl : (Sl a4 s2.1 c5) = (Sl a4 r14 c5) := sl_len hn17.symm
    try rw [hsl]
    try rw [hsl] at H
    clear hsl
    refine w_end ?_
    refine q_then ?_
    refine rg ?_
    refine st (v := (I (w64 ((w64 (s2.2 - 1)).tdiv 2)))) (rv_move rfl) ?_
    refine st (v := (I (w64 ((w64 (s2.2 - 1)).tdiv 2)))) (rv_assign rfl) ?_
    refine w_end ?_
    refine q_blk ?_
    refine q_then ?_
    obtain rfl := Option.some.inj h
    exact ⟨_, rfl, _, σ18, a4, c5, fr_join ⟨rfl, rfl, trivial⟩, rfl, H.sel' [1, 0] rfl rfl⟩
 ·clear hj
  have h := h'
  clear h' H
  rintro e a w ⟨rfl, ρ, σ19, a20, c21, rfl, rfl, H⟩
  obtain rfl := Option.some.inj h
  exact fin_end (v := (.tuple #[])) (results_ok Try.results111 res_nil rfl) ⟨a20, c21, rfl, rfl⟩ (H.sel' [0, 1] rfl rfl)

theorem c_container_heap_Push__impl_hitHeap__impl_Hit {h_0 : List (Int × Int)} {x_1 : Int × Int} {ah_0 : Option Addr} {ch_0 : Nat} {loh_0 bh_0 oh_0 : Nat} {preh_0 sufh_0 : List Value} {r : (List (Int × Int))} (h : M.container_heap_Push__impl_hitHeap__impl_Hit h_0 x_1 = some r) :
    Cal2 Try.prog 93 [(.iface 111 (pt bh_0 oh_0)), (.iface 91 (.agg #[(I x_1.1), (I x_1.2)]))] [Ch.bx loh_0 bh_0 oh_0 [(Sl ah_0 h_0 ch_0)] preh_0 sufh_0, Ch.own 0 0 (Sl ah_0 h_0 ch_0) h_0] (fun n0 v L => ∃ (az1 : Option Addr), ∃ (cz2 : Nat), v = (.tuple #[]) ∧ L = [Ch.bx loh_0 bh_0 oh_0 [(Sl az1 r cz2)] preh_0 sufh_0, Ch.own 0 0 (Sl az1 r cz2) r]) := by
 refine cal2 (n := 12) Try.func93 rfl rfl rfl rfl ?_
 intro S0 σ0 n0 hn0 H
 unfold M.container_heap_Push__impl_hitHeap__impl_Hit at h
 refine c_seq ?_
 refine rg ?_
 refine st (v := (.iface 111 (pt bh_0 oh_0))) (rv_move rfl) ?_
 refine st (v := (.iface 91 (.agg #[(I x_1.1), (I x_1.2)]))) (rv_move rfl) ?_
 obtain ⟨r1, hx2, h'⟩ := bind_some h
 clear h
 have h := h'; clear h'
 have hc3 := c_impl_hitHeap_Push__impl_Hit (loh_0 := loh_0) (bh_0 := bh_0) (oh_0 := oh_0) (preh_0 := preh_0) (sufh_0 := sufh_0) (ah_0 := ah_0) (ch_0 := ch_0) hx2
 refine st_call (cx_call hc3 (ent_ip hc3.fn (by kernel_rfl) Try.underlying111 rfl rfl) hn0 (show Hp S0 σ0 _ ([Ch.bx loh_0 bh_0 oh_0 [(Sl ah_0 h_0 ch_0)] preh_0 sufh_0, Ch.own 0 0 (Sl ah_0 h_0 ch_0) h_0] ++ []) from (H.sel' [0, 1] rfl rfl))) wn ?_
 rintro _ σ6 ⟨_, ⟨a4, c5, rfl, rfl⟩, H, -⟩
 replace H : Hp S0 σ0 σ6 [Ch.bx loh_0 bh_0 oh_0 [(Sl a4 r1 c5)] preh_0 sufh_0, Ch.own 0 0 (Sl a4 r1 c5) r1] := H
 refine w_end ?_
 refine q_then ?_
 refine rg ?_
 refine st (v := (.iface 111 (pt bh_0 oh_0))) (rv_move rfl) ?_
 refine st (v := (.iface 111 (pt bh_0 oh_0))) (rv_move rfl) ?_
 obtain ⟨r7, hx8, h'⟩ := bind_some h
 clear h
 have h := h'; clear h'
 have hc9 := c_impl_hitHeap_Len (ah_0 := a4) (ch_0 := c5) hx8
 have hle := Nat.le_trans hn0 H.size
 refine st_call (cx_lend (Loan.lend Loan.nil) hc9 (ent_iv hc9.fn (by kernel_rfl) Try.underlying111 Try.underlying51 rfl rfl (H.cell (u := (Sl a4 r1 c5)) (o' := oh_0) 0 0 rfl rfl rfl) rfl) (show Hp S0 σ0 _ ([Ch.own 0 0 (Sl a4 r1 c5) r1] ++ ([] ++ [Ch.bx loh_0 bh_0 oh_0 [(Sl a4 r1 c5)] preh_0 sufh_0])) from (H.sel' [1, 0] rfl rfl)) (by rintro _ _ _ ⟨rfl, rfl⟩; exact trivial)) wn ?_
 rintro _ σ10 ⟨_, ⟨rfl, rfl⟩, H, -, -⟩
 replace H : Hp S0 σ0 σ10 [Ch.own 0 0 (Sl a4 r1 c5) r1, Ch.bx loh_0 bh_0 oh_0 [(Sl a4 r1 c5)] preh_0 sufh_0] := H
 clear hle
 replace H : Hp S0 σ0 σ10 [Ch.own 0 0 (Sl a4 r1 c5) r1, Ch.bx loh_0 bh_0 oh_0 [(Sl a4 r1 c5)] preh_0 sufh_0] := H
 refine st (v := (I (w64 (r7 - 1)))) (rv_sub (a := r7) (b := 1) rfl rfl) ?_
 obtain ⟨r11, hx12, h'⟩ := bind_some h
 clear h
 have h := h'; clear h'
 have hc13 := c_container_heap_up__impl_hitHeap (loh_0 := loh_0) (bh_0 := bh_0) (oh_0 := oh_0) (preh_0 := preh_0) (sufh_0 := sufh_0) (ah_0 := a4) (ch_0 := c5) hx12
 refine st_call (cx_call hc13 (ent_f hc13.fn rfl) hn0 (show Hp S0 σ0 _ ([Ch.bx loh_0 bh_0 oh_0 [(Sl a4 r1 c5)] preh_0 sufh_0, Ch.own 0 0 (Sl a4 r1 c5) r1] ++ []) from (H.sel' [1, 0] rfl rfl))) wn ?_
 rintro _ σ16 ⟨_, ⟨a14, c15, rfl, rfl⟩, H, -⟩
 replace H : Hp S0 σ0 σ16 [Ch.bx loh_0 bh_0 oh_0 [(Sl a14 r11 c15)] preh_0 sufh_0, Ch.own 0 0 (Sl a14 r11 c15) r11] := H
 refine w_end ?_
 obtain rfl := Option.some.inj h
 exact fin_end (v := (.tuple #[])) (results_ok Try.results93 res_nil rfl) ⟨a14, c15, rfl, rfl⟩ (H.sel' [0, 1] rfl rfl)

theorem c_container_heap_down__impl_hitHeap {h_0 : List (Int × Int)} {i0_1 : Int} {n_2 : Int} {ah_0 : Option Addr} {ch_0 : Nat} {loh_0 bh_0 oh_0 : Nat} {preh_0 sufh_0 : List Value} {r : Bool × (List (Int × Int))} (h : M.container_heap_down__impl_hitHeap h_0 i0_1 n_2 = some r) :
    Cal2 Try.prog 112 [(.iface 111 (pt bh_0 oh_0)), (I i0_1), (I n_2)] [Ch.bx loh_0 bh_0 oh_0 [(Sl ah_0 h_0 ch_0)] preh_0 sufh_0, Ch.own 0 0 (Sl ah_0 h_0 ch_0) h_0] (fun n0 v L => ∃ (az1 : Option Addr), ∃ (cz2 : Nat), v = (B r.1) ∧ L = [Ch.bx loh_0 bh_0 oh_0 [(Sl az1 r.2 cz2)] preh_0 sufh_0, Ch.own 0 0 (Sl az1 r.2 cz2) r.2]) := by
 refine cal2 (n := 48) Try.func112 rfl rfl rfl rfl ?_
 intro S0 σ0 n0 hn0 H
 unfold M.container_heap_down__impl_hitHeap at h
 refine c_seq ?_
 refine rg ?_
 refine st (v := (B false)) (rv_assign rfl) ?_
 refine w_end ?_
 refine q_then ?_
 refine c_seq ?_
 refine rg ?_
 refine st (v := (I i0_1)) (rv_move rfl) ?_
 refine st (v := (I i0_1)) (rv_assign rfl) ?_
 refine w_end ?_
 refine q_then ?_
 refine c_seq ?_
 obtain ⟨o1, hj, h'⟩ := bind_some h
 clear h
 refine c_cut (fun e a w => e = .normal ∧ ∃ (ρ : Nat → Value) (σ : St) (aj1 : Option Addr) (cj2 : Nat), a = fr 48 (updL ρ [(0, (.iface 111 (pt bh_0 oh_0))), (1, (I i0_1)), (7, (I o1.2))]) ∧ w = σ.w ∧ Hp S0 σ0 σ [Ch.bx loh_0 bh_0 oh_0 [(Sl aj1 o1.1 cj2)] preh_0 sufh_0, Ch.own 0 0 (Sl aj1 o1.1 cj2) o1.1]) ?_ ?_
 ·clear h'
  rename _ = some o1 => h
  refine c_blk ?_
  refine wp_loopM _ h (fun s2 a w => ∃ (ρ : Nat → Value) (σ : St) (aj1 : Option Addr) (cj2 : Nat), a = fr 48 (updL ρ [(0, (.iface 111 (pt bh_0 oh_0))), (1, (I i0_1)), (2, (I n_2)), (7, (I s2.2))]) ∧ w = σ.w ∧ Hp S0 σ0 σ [Ch.bx loh_0 bh_0 oh_0 [(Sl aj1 s2.1 cj2)] preh_0 sufh_0, Ch.own 0 0 (Sl aj1 s2.1 cj2) s2.1]) ⟨_, σ0, ah_0, ch_0, fr_join ⟨rfl, rfl, rfl, rfl, trivial⟩, rfl, H.sel' [0, 1] rfl rfl⟩ ?_
  clear h H
  rintro s2 a w o ⟨ρ, σ3, a4, c5, rfl, rfl, H⟩ h hres
  refine c_blk ?_
  refine c_seq ?_
  refine rg ?_
  refine st (v := (I s2.2)) (rv_move rfl) ?_
  refine st (v := (I (w64 (2 * s2.2)))) (rv_mul (a := 2) (b := s2.2) rfl rfl) ?_
  refine st (v := (I (w64 ((w64 (2 * s2.2)) + 1)))) (rv_add (a := (w64 (2 * s2.2))) (b := 1) rfl rfl) ?_
  refine st (v := (I (w64 ((w64 (2 * s2.2)) + 1)))) (rv_assign rfl) ?_
  refine w_end ?_
  refine q_then ?_
  refine c_seq ?_
  refine c_seq ?_
  obtain ⟨o6, hj, h'⟩ := bind_some h
  clear h
  refine c_cut (fun e a w => e = .normal ∧ ∃ (ρ : Nat → Value) (σ : St), a = fr 48 (updL ρ [(0, (.iface 111 (pt bh_0 oh_0))), (1, (I i0_1)), (2, (I n_2)), (7, (I s2.2)), (8, (I (w64 ((w64 (2 * s2.2)) + 1)))), (21, (B o6))]) ∧ w = σ.w ∧ Hp S0 σ0 σ [Ch.own 0 0 (Sl a4 s2.1 c5) s2.1, Ch.bx loh_0 bh_0 oh_0 [(Sl a4 s2.1 c5)] preh_0 sufh_0]) ?_ ?_
  ·clear h'
   rename _ = some o6 => h
   refine rg ?_
   refine st (v := (I (w64 ((w64 (2 * s2.2)) + 1)))) (rv_move rfl) ?_
   refine st (v := (I n_2)) (rv_move rfl) ?_
   refine st (v := (B (decide (n_2 ≤ (w64 ((w64 (2 * s2.2)) + 1)))))) (rv_geq (a := (w64 ((w64 (2 * s2.2)) + 1))) (b := n_2) rfl rfl) ?_
   refine st (v := (B (decide (n_2 ≤ (w64 ((w64 (2 * s2.2)) + 1)))))) (rv_move rfl) ?_
   rcases Bool.eq_false_or_eq_true (decide (n_2 ≤ (w64 ((w64 (2 * s2.2)) + 1)))) with hb7 | hb7
   ·replace h := bif_t hb7 h
    refine st_skip (congrArg some hb7) ?_
    refine st_skip (congrArg some hb7) ?_
    refine st (v := (B true)) (rv_pick_t (congrArg B hb7) rfl) ?_
    refine w_end ?_
    obtain rfl := Option.some.inj h
    exact ⟨rfl, _, σ3, fr_join ⟨rfl, rfl, rfl, rfl, rfl, rfl, trivial⟩, rfl, H.sel' [1, 0] rfl rfl⟩
   ·replace h := bif_f hb7 h
    refine st_g (v := (I (w64 ((w64 (2 * s2.2)) + 1)))) (congrArg some hb7) (rv_move rfl) ?_
    refine st_g (v := (B (decide ((w64 ((w64 (2 * s2.2)) + 1)) < 0)))) (congrArg some hb7) (rv_lss (a := (w64 ((w64 (2 * s2.2)) + 1))) (b := 0) rfl rfl) ?_
    refine st (v := (B (decide ((w64 ((w64 (2 * s2.2)) + 1)) < 0)))) (rv_pick_f (congrArg B hb7) rfl) ?_
    refine w_end ?_
    obtain rfl := Option.some.inj h
    exact ⟨rfl, _, σ3, fr_join ⟨rfl, rfl, rfl, rfl, rfl, rfl, trivial⟩, rfl, H.sel' [1, 0] rfl rfl⟩
  ·clear hj
   have h := h'
   clear h' H
   rintro e a w ⟨rfl, ρ, σ8, rfl, rfl, H⟩
   refine q_then ?_
   refine cd_cond o6 rfl (fun hb9 => ?_) (fun hb9 => ?_)
   ·replace h := bif_t hb9 h
    refine c_exit ?_
    refine q_then_x ?_
    refine q_blk_x (by decide) ?_
    refine q_then_x ?_
    refine q_blk_hit ?_
    obtain rfl := Option.some.inj h
    obtain rfl := hres _ rfl
    exact ⟨rfl, _, σ8, a4, c5, fr_join ⟨rfl, rfl, rfl, trivial⟩, rfl, H.sel' [1, 0] rfl rfl⟩
   ·replace h := bif_f hb9 h
    refine c_skip ?_
    refine q_then ?_
    refine c_seq ?_
    refine rg ?_
    refine st (v := (I (w64 ((w64 (2 * s2.2)) + 1)))) (rv_move rfl) ?_
    refine st (v := (I (w64 ((w64 (2 * s2.2)) + 1)))) (rv_assign rfl) ?_
    refine w_end ?_
    refine q_then ?_
    refine c_seq ?_
    refine c_seq ?_
    refine rg ?_
    refine st (v := (I (w64 ((w64 (2 * s2.2)) + 1)))) (rv_move rfl) ?_
    refine st (v := (I (w64 ((w64 ((w64 (2 * s2.2)) + 1)) + 1)))) (rv_add (a := (w64 ((w64 (2 * s2.2)) + 1))) (b := 1) rfl rfl) ?_
    refine st (v := (I (w64 ((w64 ((w64 (2 * s2.2)) + 1)) + 1)))) (rv_assign rfl) ?_
    refine w_end ?_
    refine q_then ?_
    refine c_seq ?_
    obtain ⟨o10, hj, h'⟩ := bind_some h
    clear h
    refine c_cut (fun e a w => e = .normal ∧ ∃ (ρ : Nat → Value) (σ : St), a = fr 48 (updL ρ [(0, (.iface 111 (pt bh_0 oh_0))), (1, (I i0_1)), (2, (I n_2)), (7, (I s2.2)), (9, (I (w64 ((w64 (2 * s2.2)) + 1)))), (10, (I (w64 ((w64 ((w64 (2 * s2.2)) + 1)) + 1)))), (33, (B o10))]) ∧ w = σ.w ∧ Hp S0 σ0 σ [Ch.own 0 0 (Sl a4 s2.1 c5) s2.1, Ch.bx loh_0 bh_0 oh_0 [(Sl a4 s2.1 c5)] preh_0 sufh_0]) ?_ ?_
    ·clear h'
     rename _ = some o10 => h
     refine rg ?_
     refine st (v := (I (w64 ((w64 ((w64 (2 * s2.2)) + 1)) + 1)))) (rv_move rfl) ?_
     refine st (v := (I n_2)) (rv_move rfl) ?_
     refine st (v := (B (decide ((w64 ((w64 ((w64 (2 * s2.2)) + 1)) + 1)) < n_2)))) (rv_lss (a := (w64 ((w64 ((w64 (2 * s2.2)) + 1)) + 1))) (b := n_2) rfl rfl) ?_
     refine st (v := (B (decide ((w64 ((w64 ((w64 (2 * s2.2)) + 1)) + 1)) < n_2)))) (rv_move rfl) ?_
     rcases Bool.eq_false_or_eq_true (decide ((w64 ((w64 ((w64 (2 * s2.2)) + 1)) + 1)) < n_2)) with hb11 | hb11
     ·replace h := bif_t hb11 h
      refine st_g (v := (.iface 111 (pt bh_0 oh_0))) (congrArg some hb11) (rv_move rfl) ?_
      refine st_g (v := (I (w64 ((w64 ((w64 (2 * s2.2)) + 1)) + 1)))) (congrArg some hb11) (rv_move rfl) ?_
      refine st_g (v := (I (w64 ((w64 (2 * s2.2)) + 1)))) (congrArg some hb11) (rv_move rfl) ?_
      obtain ⟨r12, hx13, h'⟩ := bind_some h
      clear h
      have h := h'; clear h'
      have hc14 := c_impl_hitHeap_Less (ah_0 := a4) (ch_0 := c5) hx13
      have hle := Nat.le_trans hn0 H.size
      refine st_call (cx_lend (Loan.lend Loan.nil) hc14 (ent_iv hc14.fn (by kernel_rfl) Try.underlying111 Try.underlying51 rfl rfl (H.cell (u := (Sl a4 s2.1 c5)) (o' := oh_0) 1 0 rfl rfl rfl) rfl) (show Hp S0 σ0 _ ([Ch.own 0 0 (Sl a4 s2.1 c5) s2.1] ++ ([] ++ [Ch.bx loh_0 bh_0 oh_0 [(Sl a4 s2.1 c5)] preh_0 sufh_0])) from (H.sel' [0, 1] rfl rfl)) (by rintro _ _ _ ⟨rfl, rfl⟩; exact trivial)) (wanted_yes rfl (by exact (congrArg some hb11))) ?_
      rintro _ σ15 ⟨_, ⟨rfl, rfl⟩, H, -, -⟩
      replace H : Hp S0 σ0 σ15 [Ch.own 0 0 (Sl a4 s2.1 c5) s2.1, Ch.bx loh_0 bh_0 oh_0 [(Sl a4 s2.1 c5)] preh_0 sufh_0] := H
      clear hle
      replace H : Hp S0 σ0 σ15 [Ch.own 0 0 (Sl a4 s2.1 c5) s2.1, Ch.bx loh_0 bh_0 oh_0 [(Sl a4 s2.1 c5)] preh_0 sufh_0] := H
      refine st (v := (B r12)) (rv_pick_t (congrArg B hb11) rfl) ?_
      refine w_end ?_
      obtain rfl := Option.some.inj h
      exact ⟨rfl, _, σ15, fr_join ⟨rfl, rfl, rfl, rfl, rfl, rfl, rfl, trivial⟩, rfl, H.sel' [0, 1] rfl rfl⟩
     ·replace h := bif_f hb11 h
      refine st_skip (congrArg some hb11) ?_
      refine st_skip (congrArg some hb11) ?_
      refine st_skip (congrArg some hb11) ?_
      refine st_skip (congrArg some hb11) ?_
      refine st (v := (B false)) (rv_pick_f (congrArg B hb11) rfl) ?_
      refine w_end ?_
      obtain rfl := Option.some.inj h
      exact ⟨rfl, _, σ8, fr_join ⟨rfl, rfl, rfl, rfl, rfl, rfl, rfl, trivial⟩, rfl, H.sel' [0, 1] rfl rfl⟩
    ·clear hj
     have h := h'
     clear h' H
     rintro e a w ⟨rfl, ρ, σ16, rfl, rfl, H⟩
     refine q_then ?_
     obtain ⟨o17, hj, h'⟩ := bind_some h
     clear h
     refine c_cut (fun e a w => e = .normal ∧ ∃ (ρ : Nat → Value) (σ : St), a = fr 48 (updL ρ [(0, (.iface 111 (pt bh_0 oh_0))), (1, (I i0_1)), (2, (I n_2)), (7, (I s2.2)), (9, (I o17))]) ∧ w = σ.w ∧ Hp S0 σ0 σ [Ch.own 0 0 (Sl a4 s2.1 c5) s2.1, Ch.bx loh_0 bh_0 oh_0 [(Sl a4 s2.1 c5)] preh_0 sufh_0]) ?_ ?_
     ·clear h'
      rename _ = some o17 => h
      refine cd_cond o10 rfl (fun hb18 => ?_) (fun hb18 => ?_)
      ·replace h := bif_t hb18 h
       refine rg ?_
       refine st (v := (I (w64 ((w64 ((w64 (2 * s2.2)) + 1)) + 1)))) (rv_move rfl) ?_
       refine st (v := (I (w64 ((w64 ((w64 (2 * s2.2)) + 1)) + 1)))) (rv_assign rfl) ?_
       refine w_end ?_
       obtain rfl := Option.some.inj h
       exact ⟨rfl, _, σ16, fr_join ⟨rfl, rfl, rfl, rfl, rfl, trivial⟩, rfl, H.sel' [0, 1] rfl rfl⟩
      ·replace h := bif_f hb18 h
       refine c_skip ?_
       obtain rfl := Option.some.inj h
       exact ⟨rfl, _, σ16, fr_join ⟨rfl, rfl, rfl, rfl, rfl, trivial⟩, rfl, H.sel' [0, 1] rfl rfl⟩
     ·clear hj
      have h := h'
      clear h' H
      rintro e a w ⟨rfl, ρ, σ19, rfl, rfl, H⟩
      refine q_then ?_
      refine c_seq ?_
      refine c_seq ?_
      refine rg ?_
      refine st (v := (.iface 111 (pt bh_0 oh_0))) (rv_move rfl) ?_
      refine st (v := (I o17)) (rv_move rfl) ?_
      refine st (v := (I s2.2)) (rv_move rfl) ?_
      obtain ⟨r20, hx21, h'⟩ := bind_some h
      clear h
      have h := h'; clear h'
      have hc22 := c_impl_hitHeap_Less (ah_0 := a4) (ch_0 := c5) hx21
      have hle := Nat.le_trans hn0 H.size
      refine st_call (cx_lend (Loan.lend Loan.nil) hc22 (ent_iv hc22.fn (by kernel_rfl) Try.underlying111 Try.underlying51 rfl rfl (H.cell (u := (Sl a4 s2.1 c5)) (o' := oh_0) 1 0 rfl rfl rfl) rfl) (show Hp S0 σ0 _ ([Ch.own 0 0 (Sl a4 s2.1 c5) s2.1] ++ ([] ++ [Ch.bx loh_0 bh_0 oh_0 [(Sl a4 s2.1 c5)] preh_0 sufh_0])) from (H.sel' [0, 1] rfl rfl)) (by rintro _ _ _ ⟨rfl, rfl⟩; exact trivial)) wn ?_
      rintro _ σ23 ⟨_, ⟨rfl, rfl⟩, H, -, -⟩
      replace H : Hp S0 σ0 σ23 [Ch.own 0 0 (Sl a4 s2.1 c5) s2.1, Ch.bx loh_0 bh_0 oh_0 [(Sl a4 s2.1 c5)] preh_0 sufh_0] := H
      clear hle
      replace H : Hp S0 σ0 σ23 [Ch.own 0 0 (Sl a4 s2.1 c5) s2.1, Ch.bx loh_0 bh_0 oh_0 [(Sl a4 s2.1 c5)] preh_0 sufh_0] := H
      refine st (v := (B (!r20))) (rv_not rfl) ?_
      refine w_end ?_
      refine q_then ?_
      refine cd_cond (!r20) rfl (fun hb24 => ?_) (fun hb24 => ?_)
      ·replace h := bif_t hb24 h
       refine c_exit ?_
       refine q_then_x ?_
       refine q_blk_x (by decide) ?_
       refine q_then_x ?_
       refine q_blk_hit ?_
       obtain rfl := Option.some.inj h
       obtain rfl := hres _ rfl
       exact ⟨rfl, _, σ23, a4, c5, fr_join ⟨rfl, rfl, rfl, trivial⟩, rfl, H.sel' [1, 0] rfl rfl⟩
      ·replace h := bif_f hb24 h
       refine c_skip ?_
       refine q_then ?_
       refine c_seq ?_
       refine rg ?_
       refine st (v := (.iface 111 (pt bh_0 oh_0))) (rv_move rfl) ?_
       refine st (v := (I s2.2)) (rv_move rfl) ?_
       refine st (v := (I o17)) (rv_move rfl) ?_
       obtain ⟨r25, hx26, h'⟩ := bind_some h
       clear h
       have h := h'; clear h'
       have hc27 := c_impl_hitHeap_Swap (ah_0 := a4) (ch_0 := c5) hx26
       refine st_call (cx_call hc27 (ent_iv hc27.fn (by kernel_rfl) Try.underlying111 Try.underlying51 rfl rfl (H.cell (u := (Sl a4 s2.1 c5)) (o' := oh_0) 1 0 rfl rfl rfl) rfl) hn0 (show Hp S0 σ0 _ ([Ch.own 0 0 (Sl a4 s2.1 c5) s2.1] ++ [Ch.bx loh_0 bh_0 oh_0 [(Sl a4 s2.1 c5)] preh_0 sufh_0]) from (H.sel' [0, 1] rfl rfl))) wn ?_
       rintro _ σ29 ⟨_, ⟨rfl, rfl, hn28⟩, H, -⟩
       replace H : Hp S0 σ0 σ29 [Ch.own 0 0 (Sl a4 r25 c5) r25, Ch.bx loh_0 bh_0 oh_0 [(Sl a4 s2.1 c5)] preh_0 sufh_0] := H
       have hsl : (Sl a4 s2.1 c5) = (Sl a4 r25 c5) := sl_len hn28.symm
       try rw [hsl]
       try rw [hsl] at H
       clear hsl
       refine w_end ?_
       refine q_then ?_
       refine rg ?_
       refine st (v := (I o17)) (rv_move rfl) ?_
       refine st (v := (I o17)) (rv_assign rfl) ?_
       refine w_end ?_
       refine q_blk ?_
       refine q_then ?_
       obtain rfl := Option.some.inj h
       exact ⟨_, rfl, _, σ29, a4, c5, fr_join ⟨rfl, rfl, rfl, rfl, trivial⟩, rfl, H.sel' [1, 0] rfl rfl⟩
 ·clear hj
  have h := h'
  clear h' H
  rintro e a w ⟨rfl, ρ, σ30, a31, c32, rfl, rfl, H⟩
  refine q_then ?_
  refine c_seq ?_
  refine rg ?_
  refine st (v := (I o1.2)) (rv_move rfl) ?_
  refine st (v := (I i0_1)) (rv_move rfl) ?_
  refine st (v := (B (decide (i0_1 < o1.2)))) (rv_gtr (a := o1.2) (b := i0_1) rfl rfl) ?_
  refine st (v := (B (decide (i0_1 < o1.2)))) (rv_assign rfl) ?_
  refine w_end ?_
  refine q_then ?_
  refine c_ret ?_
  obtain rfl := Option.some.inj h
  exact fin_ret (v := (B (decide (i0_1 < o1.2)))) (results_ok Try.results112 (res_tmp (v := (B (decide (i0_1 < o1.2)))) rfl res_nil) rfl) ⟨a31, c32, rfl, rfl⟩ (H.sel' [0, 1] rfl rfl)

theorem c_impl_hitHeap_Pop {h_0 : List (Int × Int)} {ah_0 : Option Addr} {ch_0 : Nat} {loh_0 bh_0 oh_0 : Nat} {preh_0 sufh_0 : List Value} {r : ((Int) × (Int)) × (List (Int × Int))} (h : M.impl_hitHeap_Pop h_0 = some r) :
    Cal2 Try.prog 158 [(pt bh_0 oh_0)] [Ch.bx loh_0 bh_0 oh_0 [(Sl ah_0 h_0 ch_0)] preh_0 sufh_0, Ch.own 0 0 (Sl ah_0 h_0 ch_0) h_0] (fun n0 v L => ∃ (az1 : Option Addr), ∃ (cz2 : Nat), v = (.iface 91 (.agg #[(I r.1.1), (I r.1.2)])) ∧ L = [Ch.bx loh_0 bh_0 oh_0 [(Sl az1 r.2 cz2)] preh_0 sufh_0, Ch.own 0 0 (Sl az1 r.2 cz2) r.2]) := by
 refine cal2 (n := 25) Try.func158 rfl rfl rfl rfl ?_
 intro S0 σ0 n0 hn0 H
 unfold M.impl_hitHeap_Pop at h
 refine c_seq ?_
 refine rg ?_
 refine st (v := .nilIface) (rv_assign rfl) ?_
 refine w_end ?_
 refine q_then ?_
 refine c_seq ?_
 refine rg ?_
 refine st (v := (pt bh_0 oh_0)) (rv_move rfl) ?_
 refine st (v := (pt bh_0 oh_0)) (rv_nilCheck rfl) ?_
 have hc1 := H.cell (u := (Sl ah_0 h_0 ch_0)) (o' := oh_0) 0 0 rfl rfl rfl
 refine st (v := (Sl ah_0 h_0 ch_0)) (rv_load1 Try.underlying51 rfl rfl hc1) ?_
 refine st (v := (I (h_0.length : Int))) (rv_len Try.underlying51 rfl) ?_
 refine st (v := (I (w64 ((h_0.length : Int) - 1)))) (rv_sub (a := (h_0.length : Int)) (b := 1) rfl rfl) ?_
 refine st (v := (I (w64 ((h_0.length : Int) - 1)))) (rv_assign rfl) ?_
 refine w_end ?_
 refine q_then ?_
 refine c_seq ?_
 refine rg ?_
 refine st (v := (pt bh_0 oh_0)) (rv_move rfl) ?_
 refine st (v := (pt bh_0 oh_0)) (rv_nilCheck rfl) ?_
 have hc2 := H.cell (u := (Sl ah_0 h_0 ch_0)) (o' := oh_0) 0 0 rfl rfl rfl
 refine st (v := (Sl ah_0 h_0 ch_0)) (rv_load1 Try.underlying51 rfl rfl hc2) ?_
 refine st (v := (I (w64 ((h_0.length : Int) - 1)))) (rv_move rfl) ?_
 obtain ⟨x3, hx4, h'⟩ := bind_some h
 clear h
 have h := h'; clear h'
 obtain ⟨b6, o7, hi5, -⟩ := (H.own 1 rfl).ix hx4
 refine st (v := (pt b6 o7)) (rv_ix Try.underlying51 ti91 rfl rfl hi5) ?_
 obtain ⟨_, ⟨_, _, rfl, rfl, rfl⟩, hl8, hc9⟩ := ((H.own 1 rfl).at hx4 hi5).cells
 refine st (v := (.agg #[(I x3.1), (I x3.2)])) (rv_load Try.underlying91 rfl ti91 rfl hl8 hc9) ?_
 refine st_ex (ex_alloc (cs := [(I 0), (I 0)]) H hn0 ti91 rfl) wn ?_
 rintro _ σ11 ⟨b10, rfl, H, -⟩
 refine st_exS (ex_store_box (k := 0) (cs := [(I 0), (I 0)]) (vs := [(I x3.1), (I x3.2)]) (cs' := [(I x3.1), (I x3.2)]) H (i := 0) rfl ti91 rfl rfl rfl rfl rfl (Nat.le_of_ble_eq_true rfl) (by simp [plain]) rfl) wn ?_
 rintro σ12 ⟨H, -⟩
 refine w_end ?_
 refine q_then ?_
 refine c_seq ?_
 refine rg ?_
 refine st (v := (pt bh_0 oh_0)) (rv_move rfl) ?_
 refine st (v := (pt bh_0 oh_0)) (rv_move rfl) ?_
 refine st (v := (pt bh_0 oh_0)) (rv_nilCheck rfl) ?_
 have hc13 := H.cell (u := (Sl ah_0 h_0 ch_0)) (o' := oh_0) 1 0 rfl rfl rfl
 refine st (v := (Sl ah_0 h_0 ch_0)) (rv_load1 Try.underlying51 rfl rfl hc13) ?_
 refine st (v := (I (w64 ((h_0.length : Int) - 1)))) (rv_move rfl) ?_
 obtain ⟨xs14, hx15, h'⟩ := bind_some h
 clear h
 have h := h'; clear h'
 obtain ⟨a16, c17, hs18, -⟩ := (H.own 2 rfl).slice hx15
 refine st (v := (Sl a16 xs14 c17)) (rv_slice_h Try.underlying51 ti91 hs18 rfl rfl) ?_
 refine st (v := (pt bh_0 oh_0)) (rv_nilCheck rfl) ?_
 have hv20 := (H.own 2 rfl).view hx15 hs18
 replace H := (H.front (i := 2) rfl).turn (d := Ch.own 0 0 (Sl a16 xs14 c17) xs14) (fun _ => hv20.1) hv20.2; clear hv20
 refine st_exS (ex_store_box (k := 0) (cs := [(Sl ah_0 h_0 ch_0)]) (vs := [(Sl a16 xs14 c17)]) (cs' := [(Sl a16 xs14 c17)]) H (i := 2) rfl ti51 rfl rfl rfl rfl rfl (Nat.le_of_ble_eq_true rfl) (by simp [plain]) rfl) wn ?_
 rintro σ21 ⟨H, -⟩
 refine w_end ?_
 refine q_then ?_
 refine c_seq ?_
 refine rg ?_
 have hc22 := H.cells 2 rfl
 refine st (v := (.agg #[(I x3.1), (I x3.2)])) (rv_load (cs := [(I x3.1), (I x3.2)]) Try.underlying91 rfl ti91 rfl rfl hc22) ?_
 refine st (v := (.iface 91 (.agg #[(I x3.1), (I x3.2)]))) (rv_makeInterface Try.underlying91 rfl rfl) ?_
 refine st (v := (.iface 91 (.agg #[(I x3.1), (I x3.2)]))) (rv_assign rfl) ?_
 refine w_end ?_
 refine q_then ?_
 refine c_ret ?_
 obtain rfl := Option.some.inj h
 exact fin_ret (v := (.iface 91 (.agg #[(I x3.1), (I x3.2)]))) (results_ok Try.results158 (res_tmp (v := (.iface 91 (.agg #[(I x3.1), (I x3.2)]))) rfl res_nil) rfl) ⟨a16, c17, rfl, rfl⟩ (H.sel' [0, 1] rfl rfl)

theorem c_container_heap_Pop__impl_hitHeap {h_0 : List (Int × Int)} {ah_0 : Option Addr} {ch_0 : Nat} {loh_0 bh_0 oh_0 : Nat} {preh_0 sufh_0 : List Value} {r : ((Int) × (Int)) × (List (Int × Int))} (h : M.container_heap_Pop__impl_hitHeap h_0 = some r) :
    Cal2 Try.prog 94 [(.iface 111 (pt bh_0 oh_0))] [Ch.bx loh_0 bh_0 oh_0 [(Sl ah_0 h_0 ch_0)] preh_0 sufh_0, Ch.own 0 0 (Sl ah_0 h_0 ch_0) h_0] (fun n0 v L => ∃ (az1 : Option Addr), ∃ (cz2 : Nat), v = (.iface 91 (.agg #[(I r.1.1), (I r.1.2)])) ∧ L = [Ch.bx loh_0 bh_0 oh_0 [(Sl az1 r.2 cz2)] preh_0 sufh_0, Ch.own 0 0 (Sl az1 r.2 cz2) r.2]) := by
 refine cal2 (n := 15) Try.func94 rfl rfl rfl rfl ?_
 intro S0 σ0 n0 hn0 H
 unfold M.container_heap_Pop__impl_hitHeap at h
 refine c_seq ?_
 refine rg ?_
 refine st (v := .nilIface) (rv_assign rfl) ?_
 refine w_end ?_
 refine q_then ?_
 refine c_seq ?_
 refine rg ?_
 refine st (v := (.iface 111 (pt bh_0 oh_0))) (rv_move rfl) ?_
 obtain ⟨r1, hx2, h'⟩ := bind_some h
 clear h
 have h := h'; clear h'
 have hc3 := c_impl_hitHeap_Len (ah_0 := ah_0) (ch_0 := ch_0) hx2
 have hle := Nat.le_trans hn0 H.size
 refine st_call (cx_lend (Loan.lend Loan.nil) hc3 (ent_iv hc3.fn (by kernel_rfl) Try.underlying111 Try.underlying51 rfl rfl (H.cell (u := (Sl ah_0 h_0 ch_0)) (o' := oh_0) 0 0 rfl rfl rfl) rfl) (show Hp S0 σ0 _ ([Ch.own 0 0 (Sl ah_0 h_0 ch_0) h_0] ++ ([] ++ [Ch.bx loh_0 bh_0 oh_0 [(Sl ah_0 h_0 ch_0)] preh_0 sufh_0])) from (H.sel' [1, 0] rfl rfl)) (by rintro _ _ _ ⟨rfl, rfl⟩; exact trivial)) wn ?_
 rintro _ σ4 ⟨_, ⟨rfl, rfl⟩, H, -, -⟩
 replace H : Hp S0 σ0 σ4 [Ch.own 0 0 (Sl ah_0 h_0 ch_0) h_0, Ch.bx loh_0 bh_0 oh_0 [(Sl ah_0 h_0 ch_0)] preh_0 sufh_0] := H
 clear hle
 replace H : Hp S0 σ0 σ4 [Ch.own 0 0 (Sl ah_0 h_0 ch_0) h_0, Ch.bx loh_0 bh_0 oh_0 [(Sl ah_0 h_0 ch_0)] preh_0 sufh_0] := H
 refine st (v := (I (w64 (r1 - 1)))) (rv_sub (a := r1) (b := 1) rfl rfl) ?_
 refine st (v := (I (w64 (r1 - 1)))) (rv_assign rfl) ?_
 refine w_end ?_
 refine q_then ?_
 refine c_seq ?_
 refine rg ?_
 refine st (v := (.iface 111 (pt bh_0 oh_0))) (rv_move rfl) ?_
 refine st (v := (I (w64 (r1 - 1)))) (rv_move rfl) ?_
 obtain ⟨r5, hx6, h'⟩ := bind_some h
 clear h
 have h := h'; clear h'
 have hc7 := c_impl_hitHeap_Swap (ah_0 := ah_0) (ch_0 := ch_0) hx6
 refine st_call (cx_call hc7 (ent_iv hc7.fn (by kernel_rfl) Try.underlying111 Try.underlying51 rfl rfl (H.cell (u := (Sl ah_0 h_0 ch_0)) (o' := oh_0) 1 0 rfl rfl rfl) rfl) hn0 (show Hp S0 σ0 _ ([Ch.own 0 0 (Sl ah_0 h_0 ch_0) h_0] ++ [Ch.bx loh_0 bh_0 oh_0 [(Sl ah_0 h_0 ch_0)] preh_0 sufh_0]) from (H.sel' [0, 1] rfl rfl))) wn ?_
 rintro _ σ9 ⟨_, ⟨rfl, rfl, hn8⟩, H, -⟩
 replace H : Hp S0 σ0 σ9 [Ch.own 0 0 (Sl ah_0 r5 ch_0) r5, Ch.bx loh_0 bh_0 oh_0 [(Sl ah_0 h_0 ch_0)] preh_0 sufh_0] := H
 have hsl : (Sl ah_0 h_0 ch_0) = (Sl ah_0 r5 ch_0) := sl_len hn8.symm
 try rw [hsl]
 try rw [hsl] at H
 clear hsl
 refine w_end ?_
 refine q_then ?_
 refine c_seq ?_
 refine rg ?_
 refine st (v := (.iface 111 (pt bh_0 oh_0))) (rv_move rfl) ?_
 refine st (v := (I (w64 (r1 - 1)))) (rv_move rfl) ?_
 obtain ⟨r10, hx11, h'⟩ := bind_some h
 clear h
 have h := h'; clear h'
 have hc12 := c_container_heap_down__impl_hitHeap (loh_0 := loh_0) (bh_0 := bh_0) (oh_0 := oh_0) (preh_0 := preh_0) (sufh_0 := sufh_0) (ah_0 := ah_0) (ch_0 := ch_0) hx11
 refine st_call (cx_call hc12 (ent_f hc12.fn rfl) hn0 (show Hp S0 σ0 _ ([Ch.bx loh_0 bh_0 oh_0 [(Sl ah_0 r5 ch_0)] preh_0 sufh_0, Ch.own 0 0 (Sl ah_0 r5 ch_0) r5] ++ []) from (H.sel' [1, 0] rfl rfl))) wn ?_
 rintro _ σ15 ⟨_, ⟨a13, c14, rfl, rfl⟩, H, -⟩
 replace H : Hp S0 σ0 σ15 [Ch.bx loh_0 bh_0 oh_0 [(Sl a13 r10.2 c14)] preh_0 sufh_0, Ch.own 0 0 (Sl a13 r10.2 c14) r10.2] := H
 refine w_end ?_
 refine q_then ?_
 refine c_seq ?_
 refine rg ?_
 refine st (v := (.iface 111 (pt bh_0 oh_0))) (rv_move rfl) ?_
 obtain ⟨r16, hx17, h'⟩ := bind_some h
 clear h
 have h := h'; clear h'
 have hc18 := c_impl_hitHeap_Pop (loh_0 := loh_0) (bh_0 := bh_0) (oh_0 := oh_0) (preh_0 := preh_0) (sufh_0 := sufh_0) (ah_0 := a13) (ch_0 := c14) hx17
 refine st_call (cx_call hc18 (ent_ip hc18.fn (by kernel_rfl) Try.underlying111 rfl rfl) hn0 (show Hp S0 σ0 _ ([Ch.bx loh_0 bh_0 oh_0 [(Sl a13 r10.2 c14)] preh_0 sufh_0, Ch.own 0 0 (Sl a13 r10.2 c14) r10.2] ++ []) from (H.sel' [0, 1] rfl rfl))) wn ?_
 rintro _ σ21 ⟨_, ⟨a19, c20, rfl, rfl⟩, H, -⟩
 replace H : Hp S0 σ0 σ21 [Ch.bx loh_0 bh_0 oh_0 [(Sl a19 r16.2 c20)] preh_0 sufh_0, Ch.own 0 0 (Sl a19 r16.2 c20) r16.2] := H
 refine st (v := (.iface 91 (.agg #[(I r16.1.1), (I r16.1.2)]))) (rv_assign rfl) ?_
 refine w_end ?_
 refine q_then ?_
 refine c_ret ?_
 obtain rfl := Option.some.inj h
 exact fin_ret (v := (.iface 91 (.agg #[(I r16.1.1), (I r16.1.2)]))) (results_ok Try.results94 (res_tmp (v := (.iface 91 (.agg #[(I r16.1.1), (I r16.1.2)]))) rfl res_nil) rfl) ⟨a19, c20, rfl, rfl⟩ (H.sel' [0, 1] rfl rfl)

theorem c_impl_nearestHits_offer {n_0 : Int × (List (Int × Int))} {h_1 : Int × Int} {an_0_1 : Option Addr} {cn_0_1 : Nat} {lon_0 bn_0 on_0 : Nat} {pren_0 sufn_0 : List Value} {r : (Int × (List (Int × Int)))} (h : M.impl_nearestHits_offer n_0 h_1 = some r) :
    Cal2 Try.prog 75 [(pt bn_0 on_0), (.agg #[(I h_1.1), (I h_1.2)])] [Ch.bx lon_0 bn_0 on_0 [(I n_0.1), (Sl an_0_1 n_0.2 cn_0_1)] pren_0 sufn_0, Ch.own 0 0 (Sl an_0_1 n_0.2 cn_0_1) n_0.2] (fun n0 v L => ∃ (az1 : Option Addr), ∃ (cz2 : Nat), v = (.tuple #[]) ∧ L = [Ch.bx lon_0 bn_0 on_0 [(I r.1), (Sl az1 r.2 cz2)] pren_0 sufn_0, Ch.own 0 0 (Sl az1 r.2 cz2) r.2]) := by
 refine cal2 (n := 26) Try.func75 rfl rfl rfl rfl ?_
 intro S0 σ0 n0 hn0 H
 unfold M.impl_nearestHits_offer at h
 refine c_seq ?_
 refine rg ?_
 refine st_ex (ex_box (cs := [(I h_1.1), (I h_1.2)]) H hn0 rfl rfl) wn ?_
 rintro _ σ2 ⟨b1, rfl, H, -⟩
 refine w_end ?_
 refine q_then ?_
 refine c_seq ?_
 refine rgP (σ := σ2) 6 (by kernel_rfl) (by kernel_rfl) (by kernel_rfl) ?_
 refine sq (v := (pt bn_0 on_0)) (rv_move rfl) ?_
 refine sq (v := (pt bn_0 on_0)) (rv_nilCheck rfl) ?_
 refine sq (v := (pt bn_0 (on_0 + 1))) (rv_fieldAddr (off := 1) (ft := 51) Try.underlying53 rfl ti51 rfl rfl) ?_
 refine sq (v := (.iface 111 (pt bn_0 (on_0 + 1)))) (rv_makeInterface Try.underlying111 rfl rfl) ?_
 have hc3 := H.cells 0 rfl
 refine sq (v := (.agg #[(I h_1.1), (I h_1.2)])) (rv_load (cs := [(I h_1.1), (I h_1.2)]) Try.underlying91 rfl ti91 rfl rfl hc3) ?_
 refine sq (v := (.iface 91 (.agg #[(I h_1.1), (I h_1.2)]))) (rv_makeInterface Try.underlying91 rfl rfl) ?_
 refine sq_end ?_
 intro σ4 hm5
 replace H := H.grow (hm5.mono fun _ h => h); clear hm5
 replace H := Hp.focus (c1 := [(I n_0.1)]) (c2 := [(Sl an_0_1 n_0.2 cn_0_1)]) (c3 := []) (o' := (on_0 + 1)) H 1 rfl rfl
 obtain ⟨r6, hx7, h'⟩ := bind_some h
 clear h
 have h := h'; clear h'
 have hc8 := c_container_heap_Push__impl_hitHeap__impl_Hit (loh_0 := lon_0) (bh_0 := bn_0) (oh_0 := (on_0 + 1)) (preh_0 := (pren_0 ++ [(I n_0.1)])) (sufh_0 := ([] ++ sufn_0)) (ah_0 := an_0_1) (ch_0 := cn_0_1) hx7
 refine st_call (cx_call hc8 (ent_f hc8.fn rfl) hn0 (show Hp S0 σ0 _ ([Ch.bx lon_0 bn_0 (on_0 + 1) [(Sl an_0_1 n_0.2 cn_0_1)] (pren_0 ++ [(I n_0.1)]) ([] ++ sufn_0), Ch.own 0 0 (Sl an_0_1 n_0.2 cn_0_1) n_0.2] ++ [Ch.bx n0 b1 0 [(I h_1.1), (I h_1.2)] [] []]) from (H.sel' [0, 2, 1] rfl rfl))) wn ?_
 rintro _ σ11 ⟨_, ⟨a9, c10, rfl, rfl⟩, H, -⟩
 replace H : Hp S0 σ0 σ11 [Ch.bx lon_0 bn_0 (on_0 + 1) [(Sl a9 r6 c10)] (pren_0 ++ [(I n_0.1)]) ([] ++ sufn_0), Ch.own 0 0 (Sl a9 r6 c10) r6, Ch.bx n0 b1 0 [(I h_1.1), (I h_1.2)] [] []] := H
 replace H : Hp S0 σ0 σ11 [Ch.bx lon_0 bn_0 on_0 [(I n_0.1), (Sl a9 r6 c10)] pren_0 sufn_0, Ch.own 0 0 (Sl a9 r6 c10) r6, Ch.bx n0 b1 0 [(I h_1.1), (I h_1.2)] [] []] := Hp.unfocus (o := on_0) (c1 := [(I n_0.1)]) (c2 := [(Sl a9 r6 c10)]) (c3 := []) (pre := pren_0) (suf := sufn_0) H 0 rfl rfl
 refine w_end ?_
 refine q_then ?_
 refine c_seq ?_
 refine rgP (σ := σ11) 9 (by kernel_rfl) (by kernel_rfl) (by kernel_rfl) ?_
 refine sq (v := (pt bn_0 on_0)) (rv_move rfl) ?_
 refine sq (v := (pt bn_0 on_0)) (rv_nilCheck rfl) ?_
 refine sq (v := (pt bn_0 (on_0 + 1))) (rv_fieldAddr (off := 1) (ft := 51) Try.underlying53 rfl ti51 rfl rfl) ?_
 have hc12 := H.cell (u := (Sl a9 r6 c10)) (o' := (on_0 + 1)) 0 1 rfl rfl rfl
 refine sq (v := (Sl a9 r6 c10)) (rv_load1 Try.underlying51 rfl rfl hc12) ?_
 refine sq (v := (I (r6.length : Int))) (rv_len Try.underlying51 rfl) ?_
 refine sq (v := (pt bn_0 on_0)) (rv_move rfl) ?_
 refine sq (v := (pt bn_0 on_0)) (rv_nilCheck rfl) ?_
 refine sq (v := (pt bn_0 on_0)) (rv_fieldAddr (off := 0) (ft := 3) Try.underlying53 rfl ti3 rfl rfl) ?_
 have hc13 := H.cell (u := (I n_0.1)) (o' := on_0) 0 0 rfl rfl rfl
 refine sq (v := (I n_0.1)) (rv_load1 Try.underlying3 rfl rfl hc13) ?_
 refine sq_end ?_
 intro σ14 hm15
 replace H := H.grow (hm15.mono fun _ h => h); clear hm15
 refine st (v := (B (decide (n_0.1 < (r6.length : Int))))) (rv_gtr (a := (r6.length : Int)) (b := n_0.1) rfl rfl) ?_
 refine w_end ?_
 refine q_then ?_
 refine cd_cond (decide (n_0.1 < (r6.length : Int))) rfl (fun hb16 => ?_) (fun hb16 => ?_)
 ·replace h := bif_t hb16 h
  refine rg ?_
  refine st (v := (pt bn_0 on_0)) (rv_move rfl) ?_
  refine st (v := (pt bn_0 on_0)) (rv_nilCheck rfl) ?_
  refine st (v := (pt bn_0 (on_0 + 1))) (rv_fieldAddr (off := 1) (ft := 51) Try.underlying53 rfl ti51 rfl rfl) ?_
  refine st (v := (.iface 111 (pt bn_0 (on_0 + 1)))) (rv_makeInterface Try.underlying111 rfl rfl) ?_
  replace H := Hp.focus (c1 := [(I n_0.1)]) (c2 := [(Sl a9 r6 c10)]) (c3 := []) (o' := (on_0 + 1)) H 0 rfl rfl
  obtain ⟨r17, hx18, h'⟩ := bind_some h
  clear h
  have h := h'; clear h'
  have hc19 := c_container_heap_Pop__impl_hitHeap (loh_0 := lon_0) (bh_0 := bn_0) (oh_0 := (on_0 + 1)) (preh_0 := (pren_0 ++ [(I n_0.1)])) (sufh_0 := ([] ++ sufn_0)) (ah_0 := a9) (ch_0 := c10) hx18
  refine st_call (cx_call hc19 (ent_f hc19.fn rfl) hn0 (show Hp S0 σ0 _ ([Ch.bx lon_0 bn_0 (on_0 + 1) [(Sl a9 r6 c10)] (pren_0 ++ [(I n_0.1)]) ([] ++ sufn_0), Ch.own 0 0 (Sl a9 r6 c10) r6] ++ [Ch.bx n0 b1 0 [(I h_1.1), (I h_1.2)] [] []]) from (H.sel' [0, 1, 2] rfl rfl))) wn ?_
  rintro _ σ22 ⟨_, ⟨a20, c21, rfl, rfl⟩, H, -⟩
  replace H : Hp S0 σ0 σ22 [Ch.bx lon_0 bn_0 (on_0 + 1) [(Sl a20 r17.2 c21)] (pren_0 ++ [(I n_0.1)]) ([] ++ sufn_0), Ch.own 0 0 (Sl a20 r17.2 c21) r17.2, Ch.bx n0 b1 0 [(I h_1.1), (I h_1.2)] [] []] := H
  replace H : Hp S0 σ0 σ22 [Ch.bx lon_0 bn_0 on_0 [(I n_0.1), (Sl a20 r17.2 c21)] pren_0 sufn_0, Ch.own 0 0 (Sl a20 r17.2 c21) r17.2, Ch.bx n0 b1 0 [(I h_1.1), (I h_1.2)] [] []] := Hp.unfocus (o := on_0) (c1 := [(I n_0.1)]) (c2 := [(Sl a20 r17.2 c21)]) (c3 := []) (pre := pren_0) (suf := sufn_0) H 0 rfl rfl
  refine w_end ?_
  obtain rfl := Option.some.inj h
  exact fin_end (v := (.tuple #[])) (results_ok Try.results75 res_nil rfl) ⟨a20, c21, rfl, rfl⟩ (H.sel' [0, 1] rfl rfl)
 ·replace h := bif_f hb16 h
  refine c_skip ?_
  obtain rfl := Option.some.inj h
  exact fin_end (v := (.tuple #[])) (results_ok Try.results75 res_nil rfl) ⟨a9, c10, rfl, rfl⟩ (H.sel' [0, 1] rfl rfl)

theorem c_impl_branch_turns {b_0 : Tr (Int × (List Int) × Int)} {dist_1 : Int} {ab_0 : Option Addr} {r : ((Tr (Int × (List Int) × Int)) × Int) × ((Tr (Int × (List Int) × Int)) × Int)} (h : M.impl_branch_turns b_0 dist_1 = some r) :
    Cal2 Try.prog 76 [(.pointer ab_0), (I dist_1)] [Ch.pr 0 (.pointer ab_0) b_0] (fun n0 v L => ∃ (az1 : Option Addr), ∃ (az2 : Option Addr), v = (.tuple #[(.agg #[(.pointer az1), (I r.1.2)]), (.agg #[(.pointer az2), (I r.2.2)])]) ∧ L = [Ch.pr 0 (.pointer az1) r.1.1, Ch.pr 0 (.pointer az2) r.2.1]) := by
 refine cal2 (n := 44) Try.func76 rfl rfl rfl rfl ?_
 intro S0 σ0 n0 hn0 H
 unfold M.impl_branch_turns at h
 refine c_seq ?_
 refine rg ?_
 refine st_ex (ex_alloc (cs := [(.pointer none), (I 0)]) H hn0 ti87 rfl) wn ?_
 rintro _ σ2 ⟨b1, rfl, H, -⟩
 refine st_ex (ex_alloc (cs := [(.pointer none), (I 0)]) H hn0 ti87 rfl) wn ?_
 rintro _ σ4 ⟨b3, rfl, H, -⟩
 refine w_end ?_
 refine q_then ?_
 refine c_seq ?_
 refine c_seq ?_
 refine rg ?_
 refine st (v := (I dist_1)) (rv_move rfl) ?_
 refine st (v := (.pointer ab_0)) (rv_move rfl) ?_
 obtain ⟨x5, hx6, h'⟩ := bind_some h
 clear h
 have h := h'; clear h'
 obtain ⟨b8, o9, hi7⟩ := (H.pr 2 rfl).ex hx6
 refine st (v := (pt b8 o9)) (rv_nilCheckT hi7 rfl) ?_
 refine st (v := (pt b8 (o9 + 3))) (rv_fieldAddr (off := 3) (ft := 3) Try.underlying94 rfl ti3 rfl rfl) ?_
 have hc10 := ((H.pr 2 rfl).at hx6 hi7).snd.fst.int
 refine st (v := (I x5.2.1)) (rv_load1 Try.underlying3 rfl rfl hc10) ?_
 refine st (v := (B (decide (dist_1 ≤ x5.2.1)))) (rv_leq (a := dist_1) (b := x5.2.1) rfl rfl) ?_
 refine w_end ?_
 refine q_then ?_
 refine cd_cond (decide (dist_1 ≤ x5.2.1)) rfl (fun hb11 => ?_) (fun hb11 => ?_)
 ·replace h := bif_t hb11 h
  refine c_seq ?_
  obtain ⟨x12, hx13, h'⟩ := bind_some h
  clear h
  have h := h'; clear h'
  obtain ⟨b15, o16, hi14⟩ := (H.pr 2 rfl).ex hx13
  obtain ⟨v20, hc19, hR18⟩ := ((H.pr 2 rfl).at hx13 hi14).snd.snd.fst.tree
  obtain ⟨a17, rfl⟩ := hR18.isPtr
  replace H := H.add (d := Ch.pr 0 (.pointer a17) x12.2.2.1) hR18 (fun _ h => h)
  clear hR18
  obtain ⟨x21, hx22, h'⟩ := bind_some h
  clear h
  have h := h'; clear h'
  obtain ⟨b24, o25, hi23⟩ := (H.pr 3 rfl).ex hx22
  obtain ⟨v29, hc28, hR27⟩ := ((H.pr 3 rfl).at hx22 hi23).snd.snd.snd.tree
  obtain ⟨a26, rfl⟩ := hR27.isPtr
  replace H := H.add (d := Ch.pr 0 (.pointer a26) x21.2.2.2) hR27 (fun _ h => h)
  clear hR27
  obtain ⟨x30, hx31, h'⟩ := bind_some h
  clear h
  have h := h'; clear h'
  obtain ⟨b33, o34, hi32⟩ := (H.pr 4 rfl).ex hx31
  have hc35 := ((H.pr 4 rfl).at hx31 hi32).snd.fst.int
  have Hs := H
  refine rg2 (σ := σ4) (Nm := Unit) 17 [16] [[false], [true]] [[(0, 0)], [(0, 0)], [(0, 0)], [(0, 0)], [(0, 0)], [(0, 0), (1, 1)], [(0, 0), (1, 1)], [(0, 0), (1, 1)], [(0, 0), (1, 1)], [(0, 0), (1, 1)], [(0, 0), (1, 1)], [(0, 0), (1, 1)], [(0, 0), (1, 1)], [(0, 0), (1, 1)], [(0, 0), (1, 1)], [(0, 0), (1, 1)], [(0, 1)]] 1 [fun _ => fun σm => Hp S0 σ0 σm [Ch.pr 0 (.pointer a26) x21.2.2.2, Ch.pr 0 (.pointer a17) x12.2.2.1, Ch.bx n0 b3 0 [(.pointer none), (I 0)] [] [], Ch.bx n0 b1 0 [(.pointer none), (I 0)] [] [], Ch.pr 0 (.pointer ab_0) b_0] ∧ Md (cov []) σ4 σm, fun _ => fun σm => Hp S0 σ0 σm [Ch.bx n0 b1 0 [(.pointer a17), (I 0)] [] [], Ch.pr 0 (.pointer a26) x21.2.2.2, Ch.pr 0 (.pointer a17) x12.2.2.1, Ch.bx n0 b3 0 [(.pointer none), (I 0)] [] [], Ch.pr 0 (.pointer ab_0) b_0] ∧ Md (fun i => (cov []) i ∨ (fun i => i = b1) i) σ4 σm] [fun _ => (.pointer ab_0), fun _ => (pt b15 o16), fun _ => (pt b15 (o16 + 4)), fun _ => (.pointer a17), fun _ => (.agg #[(.pointer a17), (I 0)]), fun _ => (.pointer ab_0), fun _ => (pt b24 o25), fun _ => (pt b24 (o25 + 5)), fun _ => (.pointer a26), fun _ => (.pointer ab_0), fun _ => (pt b33 o34), fun _ => (pt b33 (o34 + 3)), fun _ => (I x30.2.1), fun _ => (I dist_1), fun _ => (I (w64 (x30.2.1 - dist_1))), fun _ => (.agg #[(.pointer a26), (I (w64 (x30.2.1 - dist_1)))]), fun _ => undef] () (by kernel_rfl) (by kernel_rfl) ?_ ?_ ?_
  ·intro σm m0
   exact ⟨H.grow (m0.mono fun _ h => h.elim), m0⟩
  ·refine ac rfl (by
     intro k _nm ρ σm hJ hoff hdep
     have e0 := look_off (N := 44) (hoff 0 rfl) rfl
     exact dp_v (v := (.pointer ab_0)) wn (rv_move e0) rfl hJ) ?_
   refine ac rfl (by
     intro k _nm ρ σm hJ hoff hdep
     have e12 := hdep 0 rfl rfl 12 rfl
     exact dp_v (v := (pt b15 o16)) wn (rv_nilCheckT hi14 e12) rfl hJ) ?_
   refine ac rfl (by
     intro k _nm ρ σm hJ hoff hdep
     have e13 := hdep 1 rfl rfl 13 rfl
     exact dp_v (v := (pt b15 (o16 + 4))) wn (rv_fieldAddr (off := 4) (ft := 56) Try.underlying94 rfl ti56 rfl e13) rfl hJ) ?_
   refine all_cons (by
     refine ⟨?_, ?_⟩
     ·intro _nm ρ σm hJ hoff hdep
      have e14 := hdep 2 rfl rfl 14 rfl
      obtain ⟨H, m⟩ := id hJ
      replace hc19 := (Hs.pr 4 rfl).hmd hx13 hi14 (k := 4) (by decide) hc19 m
      exact dp_v (v := (.pointer a17)) wn (rv_load1 Try.underlying56 rfl e14 hc19) rfl hJ
     trivial) ?_
   refine ac rfl (by
     intro k _nm ρ σm hJ hoff hdep
     have e15 : look 44 ρ 15 = (.pointer a17) := hdep 3 rfl rfl 15 rfl
     exact dp_v (v := (.agg #[(.pointer a17), (I 0)])) wn (rv_build (ps := [(0, (.pointer a17))]) Try.underlying87 ti87 (bp87 Try.underlying87) (by show [(0, look 44 ρ 15)] = _; rw [e15]) (by kernel_rfl)) rfl hJ) ?_
   refine ac rfl (by
     intro k _nm ρ σm hJ hoff hdep
     have e0 := look_off (N := 44) (hoff 0 rfl) rfl
     exact dp_v (v := (.pointer ab_0)) wn (rv_move e0) rfl hJ) ?_
   refine ac rfl (by
     intro k _nm ρ σm hJ hoff hdep
     have e17 := hdep 5 rfl rfl 17 rfl
     exact dp_v (v := (pt b24 o25)) wn (rv_nilCheckT hi23 e17) rfl hJ) ?_
   refine ac rfl (by
     intro k _nm ρ σm hJ hoff hdep
     have e18 := hdep 6 rfl rfl 18 rfl
     exact dp_v (v := (pt b24 (o25 + 5))) wn (rv_fieldAddr (off := 5) (ft := 56) Try.underlying94 rfl ti56 rfl e18) rfl hJ) ?_
   refine all_cons (by
     refine ⟨?_, ?_⟩
     ·intro _nm ρ σm hJ hoff hdep
      have e19 := hdep 7 rfl rfl 19 rfl
      obtain ⟨H, m⟩ := id hJ
      replace hc28 := (Hs.pr 4 rfl).hmd hx22 hi23 (k := 5) (by decide) hc28 m
      exact dp_v (v := (.pointer a26)) wn (rv_load1 Try.underlying56 rfl e19 hc28) rfl hJ
     refine ⟨?_, ?_⟩
     ·intro _nm ρ σm hJ hoff hdep
      have e19 := hdep 7 rfl rfl 19 rfl
      obtain ⟨H, m⟩ := id hJ
      replace hc28 := (Hs.pr 4 rfl).hmd hx22 hi23 (k := 5) (by decide) hc28 m
      exact dp_v (v := (.pointer a26)) wn (rv_load1 Try.underlying56 rfl e19 hc28) rfl hJ
     trivial) ?_
   refine ac rfl (by
     intro k _nm ρ σm hJ hoff hdep
     have e0 := look_off (N := 44) (hoff 0 rfl) rfl
     exact dp_v (v := (.pointer ab_0)) wn (rv_move e0) rfl hJ) ?_
   refine ac rfl (by
     intro k _nm ρ σm hJ hoff hdep
     have e21 := hdep 9 rfl rfl 21 rfl
     exact dp_v (v := (pt b33 o34)) wn (rv_nilCheckT hi32 e21) rfl hJ) ?_
   refine ac rfl (by
     intro k _nm ρ σm hJ hoff hdep
     have e22 := hdep 10 rfl rfl 22 rfl
     exact dp_v (v := (pt b33 (o34 + 3))) wn (rv_fieldAddr (off := 3) (ft := 3) Try.underlying94 rfl ti3 rfl e22) rfl hJ) ?_
   refine all_cons (by
     refine ⟨?_, ?_⟩
     ·intro _nm ρ σm hJ hoff hdep
      have e23 := hdep 11 rfl rfl 23 rfl
      obtain ⟨H, m⟩ := id hJ
      replace hc35 := (Hs.pr 4 rfl).hmd hx31 hi32 (k := 3) (by decide) hc35 m
      exact dp_v (v := (I x30.2.1)) wn (rv_load1 Try.underlying3 rfl e23 hc35) rfl hJ
     refine ⟨?_, ?_⟩
     ·intro _nm ρ σm hJ hoff hdep
      have e23 := hdep 11 rfl rfl 23 rfl
      obtain ⟨H, m⟩ := id hJ
      replace hc35 := (Hs.pr 4 rfl).hmd hx31 hi32 (k := 3) (by decide) hc35 m
      exact dp_v (v := (I x30.2.1)) wn (rv_load1 Try.underlying3 rfl e23 hc35) rfl hJ
     trivial) ?_
   refine ac rfl (by
     intro k _nm ρ σm hJ hoff hdep
     have e1 := look_off (N := 44) (hoff 1 rfl) rfl
     exact dp_v (v := (I dist_1)) wn (rv_move e1) rfl hJ) ?_
   refine ac rfl (by
     intro k _nm ρ σm hJ hoff hdep
     have e24 := hdep 12 rfl rfl 24 rfl
     have e25 := hdep 13 rfl rfl 25 rfl
     exact dp_v (v := (I (w64 (x30.2.1 - dist_1)))) wn (rv_sub (a := x30.2.1) (b := dist_1) e24 e25) rfl hJ) ?_
   refine ac rfl (by
     intro k _nm ρ σm hJ hoff hdep
     have e20 : look 44 ρ 20 = (.pointer a26) := hdep 8 rfl rfl 20 rfl
     have e26 : look 44 ρ 26 = (I (w64 (x30.2.1 - dist_1))) := hdep 14 rfl rfl 26 rfl
     exact dp_v (v := (.agg #[(.pointer a26), (I (w64 (x30.2.1 - dist_1)))])) wn (rv_build (ps := [(0, (.pointer a26)), (1, (I (w64 (x30.2.1 - dist_1))))]) Try.underlying87 ti87 (bp87 Try.underlying87) (by show [(0, look 44 ρ 20), (1, look 44 ρ 26)] = _; rw [e20, e26]) (by kernel_rfl)) rfl hJ) ?_
   refine all_cons (by
     refine ⟨?_, ?_⟩
     ·intro _nm ρ σm hJ hoff hdep
      have e4 := look_off (N := 44) (hoff 4 rfl) rfl
      have e16 := hdep 4 rfl rfl 16 rfl
      obtain ⟨H, m⟩ := id hJ
      refine dp_exS wn rfl (ex_store_box (k := 0) (cs := [(.pointer none), (I 0)]) (vs := [(.pointer a17), (I 0)]) (cs' := [(.pointer a17), (I 0)]) H (i := 3) rfl ti87 e4 rfl e16 rfl rfl (Nat.le_of_ble_eq_true rfl) (by simp [plain]) rfl) ?_
      rintro σq ⟨H2, m2⟩
      exact ⟨_, (), rfl, ⟨H2.sel' [0, 1, 2, 3, 4] rfl rfl, m.comp m2⟩, stab [0, 1, 2, 3, 4, 5, 6, 7, 8, 9, 10, 11, 12, 13, 14, 15] (by kernel_rfl) ⟨rfl, rfl, rfl, rfl, rfl, rfl, rfl, rfl, rfl, rfl, rfl, rfl, rfl, rfl, rfl, rfl, trivial⟩⟩
     trivial) ?_
   exact all_nil
  ·intro _nm ρ σ36 hJ hoff hrel
   have e4 := look_off (N := 44) (hoff 4 rfl) rfl
   have e5 := look_off (N := 44) (hoff 5 rfl) rfl
   have e27 := hrel 15 rfl 27 rfl
   obtain ⟨H, -⟩ := (show Hp S0 σ0 σ36 [Ch.bx n0 b1 0 [(.pointer a17), (I 0)] [] [], Ch.pr 0 (.pointer a26) x21.2.2.2, Ch.pr 0 (.pointer a17) x12.2.2.1, Ch.bx n0 b3 0 [(.pointer none), (I 0)] [] [], Ch.pr 0 (.pointer ab_0) b_0] ∧ Md (fun i => (cov []) i ∨ (fun i => i = b1) i) σ4 σ36 from hJ)
   clear hJ Hs
   rw [fr_lookL (L := [(4, (pt b1 0)), (5, (pt b3 0)), (27, (.agg #[(.pointer a26), (I (w64 (x30.2.1 - dist_1)))]))]) ⟨e4, e5, e27, trivial⟩]
   clear hoff hrel e4 e5 e27
   refine st_exS (ex_store_box (k := 0) (cs := [(.pointer none), (I 0)]) (vs := [(.pointer a26), (I (w64 (x30.2.1 - dist_1)))]) (cs' := [(.pointer a26), (I (w64 (x30.2.1 - dist_1)))]) H (i := 3) rfl ti87 rfl rfl rfl rfl rfl (Nat.le_of_ble_eq_true rfl) (by simp [plain]) rfl) wn ?_
   rintro σ37 ⟨H, -⟩
   refine w_end ?_
   refine q_then ?_
   refine c_ret ?_
   refine q_then_r ?_
   obtain rfl := Option.some.inj h
   exact fin_ret (v := (.tuple #[(.agg #[(.pointer a17), (I 0)]), (.agg #[(.pointer a26), (I (w64 (x30.2.1 - dist_1)))])])) (results_ok Try.results76 (res_cell rfl (run_cellRes (cs := [(.pointer a17), (I 0)]) Try.underlying87 rfl ti87 rfl (H.cells 1 rfl)) (res_cell rfl (run_cellRes (cs := [(.pointer a26), (I (w64 (x30.2.1 - dist_1)))]) Try.underlying87 rfl ti87 rfl (H.cells 0 rfl)) res_nil)) rfl) ⟨a17, a26, rfl, rfl⟩ (H.sel' [3, 2] rfl rfl)
 ·replace h := bif_f hb11 h
  refine c_skip ?_
  refine q_then ?_
  refine c_seq ?_
  obtain ⟨x38, hx39, h'⟩ := bind_some h
  clear h
  have h := h'; clear h'
  obtain ⟨b41, o42, hi40⟩ := (H.pr 2 rfl).ex hx39
  obtain ⟨v46, hc45, hR44⟩ := ((H.pr 2 rfl).at hx39 hi40).snd.snd.snd.tree
  obtain ⟨a43, rfl⟩ := hR44.isPtr
  replace H := H.add (d := Ch.pr 0 (.pointer a43) x38.2.2.2) hR44 (fun _ h => h)
  clear hR44
  obtain ⟨x47, hx48, h'⟩ := bind_some h
  clear h
  have h := h'; clear h'
  obtain ⟨b50, o51, hi49⟩ := (H.pr 3 rfl).ex hx48
  obtain ⟨v55, hc54, hR53⟩ := ((H.pr 3 rfl).at hx48 hi49).snd.snd.fst.tree
  obtain ⟨a52, rfl⟩ := hR53.isPtr
  replace H := H.add (d := Ch.pr 0 (.pointer a52) x47.2.2.1) hR53 (fun _ h => h)
  clear hR53
  obtain ⟨x56, hx57, h'⟩ := bind_some h
  clear h
  have h := h'; clear h'
  obtain ⟨b59, o60, hi58⟩ := (H.pr 4 rfl).ex hx57
  have hc61 := ((H.pr 4 rfl).at hx57 hi58).snd.fst.int
  have Hs := H
  refine rg2 (σ := σ4) (Nm := Unit) 17 [16] [[false], [true]] [[(0, 0)], [(0, 0)], [(0, 0)], [(0, 0)], [(0, 0)], [(0, 0), (1, 1)], [(0, 0), (1, 1)], [(0, 0), (1, 1)], [(0, 0), (1, 1)], [(0, 0), (1, 1)], [(0, 0), (1, 1)], [(0, 0), (1, 1)], [(0, 0), (1, 1)], [(0, 0), (1, 1)], [(0, 0), (1, 1)], [(0, 0), (1, 1)], [(0, 1)]] 1 [fun _ => fun σm => Hp S0 σ0 σm [Ch.pr 0 (.pointer a52) x47.2.2.1, Ch.pr 0 (.pointer a43) x38.2.2.2, Ch.bx n0 b3 0 [(.pointer none), (I 0)] [] [], Ch.bx n0 b1 0 [(.pointer none), (I 0)] [] [], Ch.pr 0 (.pointer ab_0) b_0] ∧ Md (cov []) σ4 σm, fun _ => fun σm => Hp S0 σ0 σm [Ch.bx n0 b1 0 [(.pointer a43), (I 0)] [] [], Ch.pr 0 (.pointer a52) x47.2.2.1, Ch.pr 0 (.pointer a43) x38.2.2.2, Ch.bx n0 b3 0 [(.pointer none), (I 0)] [] [], Ch.pr 0 (.pointer ab_0) b_0] ∧ Md (fun i => (cov []) i ∨ (fun i => i = b1) i) σ4 σm] [fun _ => (.pointer ab_0), fun _ => (pt b41 o42), fun _ => (pt b41 (o42 + 5)), fun _ => (.pointer a43), fun _ => (.agg #[(.pointer a43), (I 0)]), fun _ => (.pointer ab_0), fun _ => (pt b50 o51), fun _ => (pt b50 (o51 + 4)), fun _ => (.pointer a52), fun _ => (I dist_1), fun _ => (.pointer ab_0), fun _ => (pt b59 o60), fun _ => (pt b59 (o60 + 3)), fun _ => (I x56.2.1), fun _ => (I (w64 (dist_1 - x56.2.1))), fun _ => (.agg #[(.pointer a52), (I (w64 (dist_1 - x56.2.1)))]), fun _ => undef] () (by kernel_rfl) (by kernel_rfl) ?_ ?_ ?_
  ·intro σm m0
   exact ⟨H.grow (m0.mono fun _ h => h.elim), m0⟩
  ·refine ac rfl (by
     intro k _nm ρ σm hJ hoff hdep
     have e0 := look_off (N := 44) (hoff 0 rfl) rfl
     exact dp_v (v := (.pointer ab_0)) wn (rv_move e0) rfl hJ) ?_
   refine ac rfl (by
     intro k _nm ρ σm hJ hoff hdep
     have e28 := hdep 0 rfl rfl 28 rfl
     exact dp_v (v := (pt b41 o42)) wn (rv_nilCheckT hi40 e28) rfl hJ) ?_
   refine ac rfl (by
     intro k _nm ρ σm hJ hoff hdep
     have e29 := hdep 1 rfl rfl 29 rfl
     exact dp_v (v := (pt b41 (o42 + 5))) wn (rv_fieldAddr (off := 5) (ft := 56) Try.underlying94 rfl ti56 rfl e29) rfl hJ) ?_
   refine all_cons (by
     refine ⟨?_, ?_⟩
     ·intro _nm ρ σm hJ hoff hdep
      have e30 := hdep 2 rfl rfl 30 rfl
      obtain ⟨H, m⟩ := id hJ
      replace hc45 := (Hs.pr 4 rfl).hmd hx39 hi40 (k := 5) (by decide) hc45 m
      exact dp_v (v := (.pointer a43)) wn (rv_load1 Try.underlying56 rfl e30 hc45) rfl hJ
     trivial) ?_
   refine ac rfl (by
     intro k _nm ρ σm hJ hoff hdep
     have e31 : look 44 ρ 31 = (.pointer a43) := hdep 3 rfl rfl 31 rfl
     exact dp_v (v := (.agg #[(.pointer a43), (I 0)])) wn (rv_build (ps := [(0, (.pointer a43))]) Try.underlying87 ti87 (bp87 Try.underlying87) (by show [(0, look 44 ρ 31)] = _; rw [e31]) (by kernel_rfl)) rfl hJ) ?_
   refine ac rfl (by
     intro k _nm ρ σm hJ hoff hdep
     have e0 := look_off (N := 44) (hoff 0 rfl) rfl
     exact dp_v (v := (.pointer ab_0)) wn (rv_move e0) rfl hJ) ?_
   refine ac rfl (by
     intro k _nm ρ σm hJ hoff hdep
     have e33 := hdep 5 rfl rfl 33 rfl
     exact dp_v (v := (pt b50 o51)) wn (rv_nilCheckT hi49 e33) rfl hJ) ?_
   refine ac rfl (by
     intro k _nm ρ σm hJ hoff hdep
     have e34 := hdep 6 rfl rfl 34 rfl
     exact dp_v (v := (pt b50 (o51 + 4))) wn (rv_fieldAddr (off := 4) (ft := 56) Try.underlying94 rfl ti56 rfl e34) rfl hJ) ?_
   refine all_cons (by
     refine ⟨?_, ?_⟩
     ·intro _nm ρ σm hJ hoff hdep
      have e35 := hdep 7 rfl rfl 35 rfl
      obtain ⟨H, m⟩ := id hJ
      replace hc54 := (Hs.pr 4 rfl).hmd hx48 hi49 (k := 4) (by decide) hc54 m
      exact dp_v (v := (.pointer a52)) wn (rv_load1 Try.underlying56 rfl e35 hc54) rfl hJ
     refine ⟨?_, ?_⟩
     ·intro _nm ρ σm hJ hoff hdep
      have e35 := hdep 7 rfl rfl 35 rfl
      obtain ⟨H, m⟩ := id hJ
      replace hc54 := (Hs.pr 4 rfl).hmd hx48 hi49 (k := 4) (by decide) hc54 m
      exact dp_v (v := (.pointer a52)) wn (rv_load1 Try.underlying56 rfl e35 hc54) rfl hJ
     trivial) ?_
   refine ac rfl (by
     intro k _nm ρ σm hJ hoff hdep
     have e1 := look_off (N := 44) (hoff 1 rfl) rfl
     exact dp_v (v := (I dist_1)) wn (rv_move e1) rfl hJ) ?_
   refine ac rfl (by
     intro k _nm ρ σm hJ hoff hdep
     have e0 := look_off (N := 44) (hoff 0 rfl) rfl
     exact dp_v (v := (.pointer ab_0)) wn (rv_move e0) rfl hJ) ?_
   refine ac rfl (by
     intro k _nm ρ σm hJ hoff hdep
     have e38 := hdep 10 rfl rfl 38 rfl
     exact dp_v (v := (pt b59 o60)) wn (rv_nilCheckT hi58 e38) rfl hJ) ?_
   refine ac rfl (by
     intro k _nm ρ σm hJ hoff hdep
     have e39 := hdep 11 rfl rfl 39 rfl
     exact dp_v (v := (pt b59 (o60 + 3))) wn (rv_fieldAddr (off := 3) (ft := 3) Try.underlying94 rfl ti3 rfl e39) rfl hJ) ?_
   refine all_cons (by
     refine ⟨?_, ?_⟩
     ·intro _nm ρ σm hJ hoff hdep
      have e40 := hdep 12 rfl rfl 40 rfl
      obtain ⟨H, m⟩ := id hJ
      replace hc61 := (Hs.pr 4 rfl).hmd hx57 hi58 (k := 3) (by decide) hc61 m
      exact dp_v (v := (I x56.2.1)) wn (rv_load1 Try.underlying3 rfl e40 hc61) rfl hJ
     refine ⟨?_, ?_⟩
     ·intro _nm ρ σm hJ hoff hdep
      have e40 := hdep 12 rfl rfl 40 rfl
      obtain ⟨H, m⟩ := id hJ
      replace hc61 := (Hs.pr 4 rfl).hmd hx57 hi58 (k := 3) (by decide) hc61 m
      exact dp_v (v := (I x56.2.1)) wn (rv_load1 Try.underlying3 rfl e40 hc61) rfl hJ
     trivial) ?_
   refine ac rfl (by
     intro k _nm ρ σm hJ hoff hdep
     have e37 := hdep 9 rfl rfl 37 rfl
     have e41 := hdep 13 rfl rfl 41 rfl
     exact dp_v (v := (I (w64 (dist_1 - x56.2.1)))) wn (rv_sub (a := dist_1) (b := x56.2.1) e37 e41) rfl hJ) ?_
   refine ac rfl (by
     intro k _nm ρ σm hJ hoff hdep
     have e36 : look 44 ρ 36 = (.pointer a52) := hdep 8 rfl rfl 36 rfl
     have e42 : look 44 ρ 42 = (I (w64 (dist_1 - x56.2.1))) := hdep 14 rfl rfl 42 rfl
     exact dp_v (v := (.agg #[(.pointer a52), (I (w64 (dist_1 - x56.2.1)))])) wn (rv_build (ps := [(0, (.pointer a52)), (1, (I (w64 (dist_1 - x56.2.1))))]) Try.underlying87 ti87 (bp87 Try.underlying87) (by show [(0, look 44 ρ 36), (1, look 44 ρ 42)] = _; rw [e36, e42]) (by kernel_rfl)) rfl hJ) ?_
   refine all_cons (by
     refine ⟨?_, ?_⟩
     ·intro _nm ρ σm hJ hoff hdep
      have e4 := look_off (N := 44) (hoff 4 rfl) rfl
      have e32 := hdep 4 rfl rfl 32 rfl
      obtain ⟨H, m⟩ := id hJ
      refine dp_exS wn rfl (ex_store_box (k := 0) (cs := [(.pointer none), (I 0)]) (vs := [(.pointer a43), (I 0)]) (cs' := [(.pointer a43), (I 0)]) H (i := 3) rfl ti87 e4 rfl e32 rfl rfl (Nat.le_of_ble_eq_true rfl) (by simp [plain]) rfl) ?_
      rintro σq ⟨H2, m2⟩
      exact ⟨_, (), rfl, ⟨H2.sel' [0, 1, 2, 3, 4] rfl rfl, m.comp m2⟩, stab [0, 1, 2, 3, 4, 5, 6, 7, 8, 9, 10, 11, 12, 13, 14, 15] (by kernel_rfl) ⟨rfl, rfl, rfl, rfl, rfl, rfl, rfl, rfl, rfl, rfl, rfl, rfl, rfl, rfl, rfl, rfl, trivial⟩⟩
     trivial) ?_
   exact all_nil
  ·intro _nm ρ σ62 hJ hoff hrel
   have e4 := look_off (N := 44) (hoff 4 rfl) rfl
   have e5 := look_off (N := 44) (hoff 5 rfl) rfl
   have e43 := hrel 15 rfl 43 rfl
   obtain ⟨H, -⟩ := (show Hp S0 σ0 σ62 [Ch.bx n0 b1 0 [(.pointer a43), (I 0)] [] [], Ch.pr 0 (.pointer a52) x47.2.2.1, Ch.pr 0 (.pointer a43) x38.2.2.2, Ch.bx n0 b3 0 [(.pointer none), (I 0)] [] [], Ch.pr 0 (.pointer ab_0) b_0] ∧ Md (fun i => (cov []) i ∨ (fun i => i = b1) i) σ4 σ62 from hJ)
   clear hJ Hs
   rw [fr_lookL (L := [(4, (pt b1 0)), (5, (pt b3 0)), (43, (.agg #[(.pointer a52), (I (w64 (dist_1 - x56.2.1)))]))]) ⟨e4, e5, e43, trivial⟩]
   clear hoff hrel e4 e5 e43
   refine st_exS (ex_store_box (k := 0) (cs := [(.pointer none), (I 0)]) (vs := [(.pointer a52), (I (w64 (dist_1 - x56.2.1)))]) (cs' := [(.pointer a52), (I (w64 (dist_1 - x56.2.1)))]) H (i := 3) rfl ti87 rfl rfl rfl rfl rfl (Nat.le_of_ble_eq_true rfl) (by simp [plain]) rfl) wn ?_
   rintro σ63 ⟨H, -⟩
   refine w_end ?_
   refine q_then ?_
   refine c_ret ?_
   obtain rfl := Option.some.inj h
   exact fin_ret (v := (.tuple #[(.agg #[(.pointer a43), (I 0)]), (.agg #[(.pointer a52), (I (w64 (dist_1 - x56.2.1)))])])) (results_ok Try.results76 (res_cell rfl (run_cellRes (cs := [(.pointer a43), (I 0)]) Try.underlying87 rfl ti87 rfl (H.cells 1 rfl)) (res_cell rfl (run_cellRes (cs := [(.pointer a52), (I (w64 (dist_1 - x56.2.1)))]) Try.underlying87 rfl ti87 rfl (H.cells 0 rfl)) res_nil)) rfl) ⟨a43, a52, rfl, rfl⟩ (H.sel' [3, 2] rfl rfl)

theorem c_impl_nearestHits_reach {n_0 : Int × (List (Int × Int))} {an_0_1 : Option Addr} {cn_0_1 : Nat} {lon_0 bn_0 on_0 : Nat} {pren_0 sufn_0 : List Value} {r : Int} (h : M.impl_nearestHits_reach n_0 = some r) :
    Cal2 Try.prog 73 [(pt bn_0 on_0)] [Ch.bx lon_0 bn_0 on_0 [(I n_0.1), (Sl an_0_1 n_0.2 cn_0_1)] pren_0 sufn_0, Ch.own 0 0 (Sl an_0_1 n_0.2 cn_0_1) n_0.2] (fun n0 v L => v = (I r) ∧ L = [Ch.bx lon_0 bn_0 on_0 [(I n_0.1), (Sl an_0_1 n_0.2 cn_0_1)] pren_0 sufn_0, Ch.own 0 0 (Sl an_0_1 n_0.2 cn_0_1) n_0.2]) := by
 refine cal2 (n := 20) Try.func73 rfl rfl rfl rfl ?_
 intro S0 σ0 n0 hn0 H
 unfold M.impl_nearestHits_reach at h
 refine c_seq ?_
 refine rg ?_
 refine st (v := (I 0)) (rv_assign rfl) ?_
 refine w_end ?_
 refine q_then ?_
 refine c_seq ?_
 refine c_seq ?_
 refine rgP (σ := σ0) 9 (by kernel_rfl) (by kernel_rfl) (by kernel_rfl) ?_
 refine sq (v := (pt bn_0 on_0)) (rv_move rfl) ?_
 refine sq (v := (pt bn_0 on_0)) (rv_nilCheck rfl) ?_
 refine sq (v := (pt bn_0 (on_0 + 1))) (rv_fieldAddr (off := 1) (ft := 51) Try.underlying53 rfl ti51 rfl rfl) ?_
 have hc1 := H.cell (u := (Sl an_0_1 n_0.2 cn_0_1)) (o' := (on_0 + 1)) 0 1 rfl rfl rfl
 refine sq (v := (Sl an_0_1 n_0.2 cn_0_1)) (rv_load1 Try.underlying51 rfl rfl hc1) ?_
 refine sq (v := (I (n_0.2.length : Int))) (rv_len Try.underlying51 rfl) ?_
 refine sq (v := (pt bn_0 on_0)) (rv_move rfl) ?_
 refine sq (v := (pt bn_0 on_0)) (rv_nilCheck rfl) ?_
 refine sq (v := (pt bn_0 on_0)) (rv_fieldAddr (off := 0) (ft := 3) Try.underlying53 rfl ti3 rfl rfl) ?_
 have hc2 := H.cell (u := (I n_0.1)) (o' := on_0) 0 0 rfl rfl rfl
 refine sq (v := (I n_0.1)) (rv_load1 Try.underlying3 rfl rfl hc2) ?_
 refine sq_end ?_
 intro σ3 hm4
 replace H := H.grow (hm4.mono fun _ h => h); clear hm4
 refine st (v := (B (decide ((n_0.2.length : Int) < n_0.1)))) (rv_lss (a := (n_0.2.length : Int)) (b := n_0.1) rfl rfl) ?_
 refine w_end ?_
 refine q_then ?_
 refine cd_cond (decide ((n_0.2.length : Int) < n_0.1)) rfl (fun hb5 => ?_) (fun hb5 => ?_)
 ·replace h := bif_t hb5 h
  refine c_seq ?_
  refine rg ?_
  refine st (v := (I 1000000)) (rv_assign rfl) ?_
  refine w_end ?_
  refine q_then ?_
  refine c_ret ?_
  refine q_then_r ?_
  obtain rfl := Option.some.inj h
  exact fin_ret (v := (I 1000000)) (results_ok Try.results73 (res_tmp (v := (I 1000000)) rfl res_nil) rfl) ⟨rfl, rfl⟩ (H.sel' [0, 1] rfl rfl)
 ·replace h := bif_f hb5 h
  refine c_skip ?_
  refine q_then ?_
  refine c_seq ?_
  refine rg ?_
  refine st (v := (pt bn_0 on_0)) (rv_move rfl) ?_
  refine st (v := (pt bn_0 on_0)) (rv_nilCheck rfl) ?_
  refine st (v := (pt bn_0 (on_0 + 1))) (rv_fieldAddr (off := 1) (ft := 51) Try.underlying53 rfl ti51 rfl rfl) ?_
  have hc6 := H.cell (u := (Sl an_0_1 n_0.2 cn_0_1)) (o' := (on_0 + 1)) 0 1 rfl rfl rfl
  refine st (v := (Sl an_0_1 n_0.2 cn_0_1)) (rv_load1 Try.underlying51 rfl rfl hc6) ?_
  obtain ⟨x7, hx8, h'⟩ := bind_some h
  clear h
  have h := h'; clear h'
  obtain ⟨b10, o11, hi9, -⟩ := (H.own 1 rfl).ix hx8
  refine st (v := (pt b10 o11)) (rv_ix Try.underlying51 ti91 rfl rfl hi9) ?_
  refine st (v := (pt b10 (o11 + 1))) (rv_fieldAddr (off := 1) (ft := 3) Try.underlying91 rfl ti3 rfl rfl) ?_
  have hc12 := ((H.own 1 rfl).at hx8 hi9).snd.int
  refine st (v := (I x7.2)) (rv_load1 Try.underlying3 rfl rfl hc12) ?_
  refine st (v := (I x7.2)) (rv_assign rfl) ?_
  refine w_end ?_
  refine q_then ?_
  refine c_ret ?_
  obtain rfl := Option.some.inj h
  exact fin_ret (v := (I x7.2)) (results_ok Try.results73 (res_tmp (v := (I x7.2)) rfl res_nil) rfl) ⟨rfl, rfl⟩ (H.sel' [0, 1] rfl rfl)

theorem c_impl_searchTree {top_0 : Tr (Int × (List Int) × Int)} {kind_1 : Int} {at_2 : List Int} {k_3 : Int} {atop_0 : Option Addr} {aat_2 : Option Addr} {cat_2 : Nat} {r : (Int × (List (Int × Int))) × Int} (h : M.impl_searchTree top_0 kind_1 at_2 k_3 = some r) :
    Cal2 Try.prog 39 [(.pointer atop_0), (I kind_1), (Sl aat_2 at_2 cat_2), (I k_3)] [Ch.pr 0 (.pointer atop_0) top_0, Ch.ro 0 (Sl aat_2 at_2 cat_2) at_2] (fun n0 v L => ∃ (az1 : Option Addr), ∃ (cz2 : Nat), v = (.tuple #[(.agg #[(I r.1.1), (Sl az1 r.1.2 cz2)]), (I r.2)]) ∧ L = [Ch.own 0 n0 (Sl az1 r.1.2 cz2) r.1.2]) := by
 refine cal2 (n := 72) Try.func39 rfl rfl rfl rfl ?_
 intro S0 σ0 n0 hn0 H
 unfold M.impl_searchTree at h
 refine c_seq ?_
 refine rg ?_
 refine st_ex (ex_alloc (cs := [(I 0), (.slice none 0 0)]) H hn0 ti53 rfl) wn ?_
 rintro _ σ2 ⟨b1, rfl, H, -⟩
 refine st (v := (I 0)) (rv_assign rfl) ?_
 refine w_end ?_
 refine q_then ?_
 refine c_seq ?_
 refine rg ?_
 refine st (v := (I k_3)) (rv_move rfl) ?_
 refine st (v := (.agg #[(I k_3), (.slice none 0 0)])) (rv_build (ps := [(0, (I k_3))]) Try.underlying53 ti53 (bp53 Try.underlying53) rfl (by kernel_rfl)) ?_
 refine st_ex (ex_alloc (cs := [(I 0), (.slice none 0 0)]) H hn0 ti53 rfl) wn ?_
 rintro _ σ4 ⟨b3, rfl, H, -⟩
 refine st_exS (ex_store_box (k := 0) (cs := [(I 0), (.slice none 0 0)]) (vs := [(I k_3), (.slice none 0 0)]) (cs' := [(I k_3), (.slice none 0 0)]) H (i := 0) rfl ti53 rfl rfl rfl rfl rfl (Nat.le_of_ble_eq_true rfl) (by simp [plain]) rfl) wn ?_
 rintro σ5 ⟨H, -⟩
 refine st (v := (I 0)) (rv_assign rfl) ?_
 refine w_end ?_
 refine q_then ?_
 refine c_seq ?_
 refine rg ?_
 refine st (v := (.pointer atop_0)) (rv_move rfl) ?_
 refine st (v := (.agg #[(.pointer atop_0), (I 0)])) (rv_build (ps := [(0, (.pointer atop_0))]) Try.underlying87 ti87 (bp87 Try.underlying87) rfl (by kernel_rfl)) ?_
 refine st_ex (ex_buildSlice (el := 0) (xs := ([(top_0, 0)] : List ((Tr (Int × (List Int) × Int)) × Int))) (ps := [(0, (.agg #[(.pointer atop_0), (I 0)]))]) (cs := [(.pointer atop_0), (I 0)]) H hn0 Try.underlying88 ti87 rfl rfl (by kernel_rfl) (.cons (c := [(.pointer atop_0), (I 0)]) ⟨[(.pointer atop_0)], [(I 0)], rfl, ⟨_, rfl, (H.pr 2 rfl)⟩, rfl⟩ (.nil)) rfl) wn ?_
 rintro _ σ7 ⟨b6, rfl, H, -⟩
 refine st (v := (Sl (some ⟨b6, 0, none⟩) ([(top_0, 0)] : List ((Tr (Int × (List Int) × Int)) × Int)) 1)) (rv_assign rfl) ?_
 refine w_end ?_
 refine q_then ?_
 refine c_seq ?_
 obtain ⟨o8, hj, h'⟩ := bind_some h
 clear h
 refine c_cut (fun e a w => e = .normal ∧ ∃ (ρ : Nat → Value) (σ : St) (aj1 : Option Addr) (cj2 : Nat), a = fr 72 (updL ρ [(8, (pt b1 0)), (10, (pt b3 0)), (11, (I o8.2))]) ∧ w = σ.w ∧ Hp S0 σ0 σ [Ch.bx n0 b3 0 [(I o8.1.1), (Sl aj1 o8.1.2 cj2)] [] [], Ch.own 0 0 (Sl aj1 o8.1.2 cj2) o8.1.2, Ch.bx n0 b1 0 [(I 0), (.slice none 0 0)] [] []]) ?_ ?_
 ·clear h'
  rename _ = some o8 => h
  refine c_blk ?_
  replace H := H.nilOwn (Int × Int) 0 0
  refine wp_loopM _ h (fun s9 a w => ∃ (ρ : Nat → Value) (σ : St) (aj1 : Option Addr) (cj2 : Nat) (aj3 : Option Addr) (cj4 : Nat), a = fr 72 (updL ρ [(1, (I kind_1)), (2, (Sl aat_2 at_2 cat_2)), (8, (pt b1 0)), (10, (pt b3 0)), (11, (I s9.2.1)), (12, (Sl aj3 s9.2.2 cj4))]) ∧ w = σ.w ∧ Hp S0 σ0 σ [Ch.bx n0 b3 0 [(I s9.1.1), (Sl aj1 s9.1.2 cj2)] [] [], Ch.own 0 0 (Sl aj1 s9.1.2 cj2) s9.1.2, Ch.ro 0 (Sl aat_2 at_2 cat_2) at_2, Ch.bx n0 b1 0 [(I 0), (.slice none 0 0)] [] [], Ch.own n0 0 (Sl aj3 s9.2.2 cj4) s9.2.2]) ⟨_, σ7, none, 0, (some ⟨b6, 0, none⟩), 1, fr_join ⟨rfl, rfl, rfl, rfl, rfl, rfl, trivial⟩, rfl, H.sel' [2, 0, 5, 3, 1] rfl rfl⟩ ?_
  clear h H
  rintro s9 a w o ⟨ρ, σ10, a11, c12, a13, c14, rfl, rfl, H⟩ h hres
  refine c_seq ?_
  refine c_seq ?_
  refine rg ?_
  refine st (v := (Sl a13 s9.2.2 c14)) (rv_move rfl) ?_
  refine st (v := (I (s9.2.2.length : Int))) (rv_len Try.underlying88 rfl) ?_
  refine st (v := (B (decide (0 < (s9.2.2.length : Int))))) (rv_gtr (a := (s9.2.2.length : Int)) (b := 0) rfl rfl) ?_
  refine w_end ?_
  refine q_then ?_
  refine cd_cond (decide (0 < (s9.2.2.length : Int))) rfl (fun hb15 => ?_) (fun hb15 => ?_)
  ·replace h := bif_t hb15 h
   refine c_skip ?_
   refine q_then ?_
   refine c_blk ?_
   refine c_seq ?_
   refine rg ?_
   refine st (v := (Sl a13 s9.2.2 c14)) (rv_move rfl) ?_
   refine st (v := (Sl a13 s9.2.2 c14)) (rv_move rfl) ?_
   refine st (v := (I (s9.2.2.length : Int))) (rv_len Try.underlying88 rfl) ?_
   refine st (v := (I (w64 ((s9.2.2.length : Int) - 1)))) (rv_sub (a := (s9.2.2.length : Int)) (b := 1) rfl rfl) ?_
   obtain ⟨x16, hx17, h'⟩ := bind_some h
   clear h
   have h := h'; clear h'
   obtain ⟨b19, o20, hi18, -⟩ := (H.own 4 rfl).ix hx17
   refine st (v := (pt b19 o20)) (rv_ix Try.underlying88 ti87 rfl rfl hi18) ?_
   obtain ⟨_, ⟨_, _, rfl, ⟨_, rfl, hR24⟩, rfl⟩, hl21, hc22⟩ := ((H.own 4 rfl).at hx17 hi18).cells
   obtain ⟨a23, rfl⟩ := hR24.isPtr
   replace H := H.add (d := Ch.pr 0 (.pointer a23) x16.1) hR24 (fun _ h => h)
   clear hR24
   refine st (v := (.agg #[(.pointer a23), (I x16.2)])) (rv_load Try.underlying87 rfl ti87 rfl hl21 hc22) ?_
   refine st_ex (ex_alloc (cs := [(.pointer none), (I 0)]) H hn0 ti87 rfl) wn ?_
   rintro _ σ26 ⟨b25, rfl, H, -⟩
   refine st_exS (ex_store_box (k := 0) (cs := [(.pointer none), (I 0)]) (vs := [(.pointer a23), (I x16.2)]) (cs' := [(.pointer a23), (I x16.2)]) H (i := 0) rfl ti87 rfl rfl rfl rfl rfl (Nat.le_of_ble_eq_true rfl) (by simp [plain]) rfl) wn ?_
   rintro σ27 ⟨H, -⟩
   refine w_end ?_
   refine q_then ?_
   refine c_seq ?_
   refine rg ?_
   refine st (v := (Sl a13 s9.2.2 c14)) (rv_move rfl) ?_
   refine st (v := (Sl a13 s9.2.2 c14)) (rv_move rfl) ?_
   refine st (v := (I (s9.2.2.length : Int))) (rv_len Try.underlying88 rfl) ?_
   refine st (v := (I (w64 ((s9.2.2.length : Int) - 1)))) (rv_sub (a := (s9.2.2.length : Int)) (b := 1) rfl rfl) ?_
   obtain ⟨xs28, hx29, h'⟩ := bind_some h
   clear h
   have h := h'; clear h'
   obtain ⟨a30, c31, hs32, hR33, hb34⟩ := (H.own 6 rfl).slice hx29
   replace H := (H.front (i := 6) rfl).turn (d := Ch.own n0 0 (Sl a30 xs28 c31) xs28) (fun _ => hR33) hb34; clear hR33 hb34
   refine st (v := (Sl a30 xs28 c31)) (rv_slice_h Try.underlying88 ti87 hs32 rfl rfl) ?_
   refine st (v := (Sl a30 xs28 c31)) (rv_assign rfl) ?_
   refine w_end ?_
   refine q_then ?_
   refine c_seq ?_
   refine c_seq ?_
   obtain ⟨o35, hj, h'⟩ := bind_some h
   clear h
   refine c_cut (fun e a w => e = .normal ∧ ∃ (ρ : Nat → Value) (σ : St), a = fr 72 (updL ρ [(1, (I kind_1)), (2, (Sl aat_2 at_2 cat_2)), (8, (pt b1 0)), (10, (pt b3 0)), (11, (I s9.2.1)), (12, (Sl a30 xs28 c31)), (13, (pt b25 0)), (44, (B o35))]) ∧ w = σ.w ∧ Hp S0 σ0 σ [Ch.ro 0 (Sl aat_2 at_2 cat_2) at_2, Ch.bx n0 b1 0 [(I 0), (.slice none 0 0)] [] [], Ch.own 0 0 (Sl a11 s9.1.2 c12) s9.1.2, Ch.bx n0 b3 0 [(I s9.1.1), (Sl a11 s9.1.2 c12)] [] [], Ch.own n0 0 (Sl a30 xs28 c31) xs28, Ch.pr 0 (.pointer a23) x16.1, Ch.bx n0 b25 0 [(.pointer a23), (I x16.2)] [] []]) ?_ ?_
   ·clear h'
    rename _ = some o35 => h
    have hc36 := H.cell (u := (.pointer a23)) (o' := 0) 1 0 rfl rfl rfl
    rcases Bool.eq_false_or_eq_true x16.1.isNil with hb37 | hb37
    ·replace h := bif_t hb37 h
     have Hs := H
     refine rg2 (σ := σ27) (Nm := Unit) 7 [] [[]] [[(0, 0)], [(0, 0)], [(0, 0)], [(0, 0)], [(0, 0)], [(0, 0)], [(0, 0)]] 0 [fun _ => fun σm => Hp S0 σ0 σm [Ch.own n0 0 (Sl a30 xs28 c31) xs28, Ch.bx n0 b25 0 [(.pointer a23), (I x16.2)] [] [], Ch.pr 0 (.pointer a23) x16.1, Ch.bx n0 b3 0 [(I s9.1.1), (Sl a11 s9.1.2 c12)] [] [], Ch.own 0 0 (Sl a11 s9.1.2 c12) s9.1.2, Ch.ro 0 (Sl aat_2 at_2 cat_2) at_2, Ch.bx n0 b1 0 [(I 0), (.slice none 0 0)] [] []] ∧ Md (cov []) σ27 σm] [fun _ => (pt b25 0), fun _ => (.pointer a23), fun _ => (B x16.1.isNil), fun _ => (B x16.1.isNil), fun _ => undef, fun _ => undef, fun _ => undef] () (by kernel_rfl) (by kernel_rfl) ?_ ?_ ?_
     ·intro σm m0
      exact ⟨H.grow (m0.mono fun _ h => h.elim), m0⟩
     ·refine ac rfl (by
        intro k _nm ρ σm hJ hoff hdep
        have e13 := look_off (N := 72) (hoff 13 rfl) rfl
        exact dp_v (v := (pt b25 0)) wn (rv_fieldAddr (off := 0) (ft := 56) Try.underlying87 rfl ti56 rfl e13) rfl hJ) ?_
      refine all_cons (by
        refine ⟨?_, ?_⟩
        ·intro _nm ρ σm hJ hoff hdep
         have e36 := hdep 0 rfl rfl 36 rfl
         obtain ⟨H, m⟩ := id hJ
         have hc36 := H.cell (u := (.pointer a23)) (o' := 0) 1 0 rfl rfl rfl
         exact dp_v (v := (.pointer a23)) wn (rv_load1 Try.underlying56 rfl e36 hc36) rfl hJ
        trivial) ?_
      refine ac rfl (by
        intro k _nm ρ σm hJ hoff hdep
        have e37 := hdep 1 rfl rfl 37 rfl
        exact dp_v (v := (B x16.1.isNil)) wn (rv_eqlNil Try.underlying56 (H.pr 2 rfl) e37 rfl) rfl hJ) ?_
      refine ac rfl (by
        intro k _nm ρ σm hJ hoff hdep
        have e38 := hdep 2 rfl rfl 38 rfl
        exact dp_v (v := (B x16.1.isNil)) wn (rv_move e38) rfl hJ) ?_
      refine ac rfl (by
        intro k _nm ρ σm hJ hoff hdep
        have e39 := hdep 3 rfl rfl 39 rfl
        exact dp_skip (wanted_no rfl (yv_of rfl (e39.trans (congrArg B hb37)))) rfl hJ) ?_
      refine ac rfl (by
        intro k _nm ρ σm hJ hoff hdep
        have e39 := hdep 3 rfl rfl 39 rfl
        exact dp_skip (wanted_no rfl (yv_of rfl (e39.trans (congrArg B hb37)))) rfl hJ) ?_
      refine ac rfl (by
        intro k _nm ρ σm hJ hoff hdep
        have e39 := hdep 3 rfl rfl 39 rfl
        exact dp_skip (wanted_no rfl (yv_of rfl (e39.trans (congrArg B hb37)))) rfl hJ) ?_
      exact all_nil
     ·intro _nm ρ σ38 hJ hoff hrel
      have e1 := look_off (N := 72) (hoff 1 rfl) rfl
      have e2 := look_off (N := 72) (hoff 2 rfl) rfl
      have e8 := look_off (N := 72) (hoff 8 rfl) rfl
      have e10 := look_off (N := 72) (hoff 10 rfl) rfl
      have e11 := look_off (N := 72) (hoff 11 rfl) rfl
      have e12 := look_off (N := 72) (hoff 12 rfl) rfl
      have e13 := look_off (N := 72) (hoff 13 rfl) rfl
      have e39 := hrel 3 rfl 39 rfl
      have e41 := hrel 5 rfl 41 rfl
      have e42 := hrel 6 rfl 42 rfl
      obtain ⟨H, -⟩ := (show Hp S0 σ0 σ38 [Ch.own n0 0 (Sl a30 xs28 c31) xs28, Ch.bx n0 b25 0 [(.pointer a23), (I x16.2)] [] [], Ch.pr 0 (.pointer a23) x16.1, Ch.bx n0 b3 0 [(I s9.1.1), (Sl a11 s9.1.2 c12)] [] [], Ch.own 0 0 (Sl a11 s9.1.2 c12) s9.1.2, Ch.ro 0 (Sl aat_2 at_2 cat_2) at_2, Ch.bx n0 b1 0 [(I 0), (.slice none 0 0)] [] []] ∧ Md (cov []) σ27 σ38 from hJ)
      clear hJ Hs
      rw [fr_lookL (L := [(1, (I kind_1)), (2, (Sl aat_2 at_2 cat_2)), (8, (pt b1 0)), (10, (pt b3 0)), (11, (I s9.2.1)), (12, (Sl a30 xs28 c31)), (13, (pt b25 0)), (39, (B x16.1.isNil)), (41, undef), (42, undef)]) ⟨e1, e2, e8, e10, e11, e12, e13, e39, e41, e42, trivial⟩]
      clear hoff hrel e1 e2 e8 e10 e11 e12 e13 e39 e41 e42
      refine st_skip (congrArg some hb37) ?_
      refine st (v := (B true)) (rv_pick_t (congrArg B hb37) rfl) ?_
      refine w_end ?_
      obtain rfl := Option.some.inj h
      exact ⟨rfl, _, σ38, fr_join ⟨rfl, rfl, rfl, rfl, rfl, rfl, rfl, rfl, trivial⟩, rfl, H.sel' [5, 6, 4, 3, 0, 2, 1] rfl rfl⟩
    ·replace h := bif_f hb37 h
     have hc39 := H.cell (u := (I x16.2)) (o' := 1) 1 1 rfl rfl rfl
     obtain ⟨r40, hx41, h'⟩ := bind_some h
     clear h
     have h := h'; clear h'
     have hc42 := c_impl_nearestHits_reach (lon_0 := n0) (bn_0 := b3) (on_0 := 0) (pren_0 := []) (sufn_0 := []) (an_0_1 := a11) (cn_0_1 := c12) hx41
     have Hs := H
     refine rg2 (σ := σ27) (Nm := Unit) 7 [6] [[false], [true]] [[(0, 0)], [(0, 0)], [(0, 0)], [(0, 0)], [(0, 0), (1, 1)], [(0, 0), (1, 1)], [(0, 1)]] 1 [fun _ => fun σm => Hp S0 σ0 σm [Ch.own n0 0 (Sl a30 xs28 c31) xs28, Ch.bx n0 b25 0 [(.pointer a23), (I x16.2)] [] [], Ch.pr 0 (.pointer a23) x16.1, Ch.bx n0 b3 0 [(I s9.1.1), (Sl a11 s9.1.2 c12)] [] [], Ch.own 0 0 (Sl a11 s9.1.2 c12) s9.1.2, Ch.ro 0 (Sl aat_2 at_2 cat_2) at_2, Ch.bx n0 b1 0 [(I 0), (.slice none 0 0)] [] []] ∧ Md (cov []) σ27 σm, fun _ => fun σm => Hp S0 σ0 σm [Ch.bx n0 b3 0 [(I s9.1.1), (Sl a11 s9.1.2 c12)] [] [], Ch.own 0 0 (Sl a11 s9.1.2 c12) s9.1.2, Ch.own n0 0 (Sl a30 xs28 c31) xs28, Ch.bx n0 b25 0 [(.pointer a23), (I x16.2)] [] [], Ch.pr 0 (.pointer a23) x16.1, Ch.ro 0 (Sl aat_2 at_2 cat_2) at_2, Ch.bx n0 b1 0 [(I 0), (.slice none 0 0)] [] []] ∧ Md (fun i => (cov []) i ∨ (cov [Ch.bx n0 b3 0 [(I s9.1.1), (Sl a11 s9.1.2 c12)] [] [], Ch.own 0 0 (Sl a11 s9.1.2 c12) s9.1.2]) i) σ27 σm] [fun _ => (pt b25 0), fun _ => (.pointer a23), fun _ => (B x16.1.isNil), fun _ => (B x16.1.isNil), fun _ => (pt b25 1), fun _ => (I x16.2), fun _ => (I r40)] () (by kernel_rfl) (by kernel_rfl) ?_ ?_ ?_
     ·intro σm m0
      exact ⟨H.grow (m0.mono fun _ h => h.elim), m0⟩
     ·refine ac rfl (by
        intro k _nm ρ σm hJ hoff hdep
        have e13 := look_off (N := 72) (hoff 13 rfl) rfl
        exact dp_v (v := (pt b25 0)) wn (rv_fieldAddr (off := 0) (ft := 56) Try.underlying87 rfl ti56 rfl e13) rfl hJ) ?_
      refine all_cons (by
        refine ⟨?_, ?_⟩
        ·intro _nm ρ σm hJ hoff hdep
         have e36 := hdep 0 rfl rfl 36 rfl
         obtain ⟨H, m⟩ := id hJ
         have hc36 := H.cell (u := (.pointer a23)) (o' := 0) 1 0 rfl rfl rfl
         exact dp_v (v := (.pointer a23)) wn (rv_load1 Try.underlying56 rfl e36 hc36) rfl hJ
        trivial) ?_
      refine ac rfl (by
        intro k _nm ρ σm hJ hoff hdep
        have e37 := hdep 1 rfl rfl 37 rfl
        exact dp_v (v := (B x16.1.isNil)) wn (rv_eqlNil Try.underlying56 (H.pr 2 rfl) e37 rfl) rfl hJ) ?_
      refine ac rfl (by
        intro k _nm ρ σm hJ hoff hdep
        have e38 := hdep 2 rfl rfl 38 rfl
        exact dp_v (v := (B x16.1.isNil)) wn (rv_move e38) rfl hJ) ?_
      refine ac rfl (by
        intro k _nm ρ σm hJ hoff hdep
        have e13 := look_off (N := 72) (hoff 13 rfl) rfl
        have e39 := hdep 3 rfl rfl 39 rfl
        exact dp_v (v := (pt b25 1)) (wanted_yes rfl (yv_of rfl (e39.trans (congrArg B hb37)))) (rv_fieldAddr (off := 1) (ft := 3) Try.underlying87 rfl ti3 rfl e13) rfl hJ) ?_
      refine all_cons (by
        refine ⟨?_, ?_⟩
        ·intro _nm ρ σm hJ hoff hdep
         have e40 := hdep 4 rfl rfl 40 rfl
         have e39 := hdep 3 rfl rfl 39 rfl
         obtain ⟨H, m⟩ := id hJ
         have hc39 := H.cell (u := (I x16.2)) (o' := 1) 1 1 rfl rfl rfl
         exact dp_v (v := (I x16.2)) (wanted_yes rfl (yv_of rfl (e39.trans (congrArg B hb37)))) (rv_load1 Try.underlying3 rfl e40 hc39) rfl hJ
        refine ⟨?_, ?_⟩
        ·intro _nm ρ σm hJ hoff hdep
         have e40 := hdep 4 rfl rfl 40 rfl
         have e39 := hdep 3 rfl rfl 39 rfl
         obtain ⟨H, m⟩ := id hJ
         have hc39 := H.cell (u := (I x16.2)) (o' := 1) 3 1 rfl rfl rfl
         exact dp_v (v := (I x16.2)) (wanted_yes rfl (yv_of rfl (e39.trans (congrArg B hb37)))) (rv_load1 Try.underlying3 rfl e40 hc39) rfl hJ
        trivial) ?_
      refine all_cons (by
        refine ⟨?_, ?_⟩
        ·intro _nm ρ σm hJ hoff hdep
         have e10 : look 72 ρ 10 = (pt b3 0) := look_off (hoff 10 rfl) rfl
         have e39 := hdep 3 rfl rfl 39 rfl
         obtain ⟨H, m⟩ := id hJ
         refine dp_cx (wanted_yes rfl (yv_of rfl (e39.trans (congrArg B hb37)))) (cx_call hc42 (ent_f hc42.fn (by show [look 72 ρ 10] = _; rw [e10])) hn0 (show Hp S0 σ0 _ ([Ch.bx n0 b3 0 [(I s9.1.1), (Sl a11 s9.1.2 c12)] [] [], Ch.own 0 0 (Sl a11 s9.1.2 c12) s9.1.2] ++ [Ch.own n0 0 (Sl a30 xs28 c31) xs28, Ch.bx n0 b25 0 [(.pointer a23), (I x16.2)] [] [], Ch.pr 0 (.pointer a23) x16.1, Ch.ro 0 (Sl aat_2 at_2 cat_2) at_2, Ch.bx n0 b1 0 [(I 0), (.slice none 0 0)] [] []]) from (H.sel' [3, 4, 0, 1, 2, 5, 6] rfl rfl))) ?_
         rintro _ σq ⟨_, ⟨rfl, rfl⟩, H2, m2⟩
         exact ⟨_, (), rfl, rfl, ⟨H2.sel' [0, 1, 2, 3, 4, 5, 6] rfl rfl, m.comp m2⟩, stab [0, 1, 2, 3, 4, 5] (by kernel_rfl) ⟨rfl, rfl, rfl, rfl, rfl, rfl, trivial⟩⟩
        trivial) ?_
      exact all_nil
     ·intro _nm ρ σ43 hJ hoff hrel
      have e1 := look_off (N := 72) (hoff 1 rfl) rfl
      have e2 := look_off (N := 72) (hoff 2 rfl) rfl
      have e8 := look_off (N := 72) (hoff 8 rfl) rfl
      have e10 := look_off (N := 72) (hoff 10 rfl) rfl
      have e11 := look_off (N := 72) (hoff 11 rfl) rfl
      have e12 := look_off (N := 72) (hoff 12 rfl) rfl
      have e13 := look_off (N := 72) (hoff 13 rfl) rfl
      have e39 := hrel 3 rfl 39 rfl
      have e41 := hrel 5 rfl 41 rfl
      have e42 := hrel 6 rfl 42 rfl
      obtain ⟨H, -⟩ := (show Hp S0 σ0 σ43 [Ch.bx n0 b3 0 [(I s9.1.1), (Sl a11 s9.1.2 c12)] [] [], Ch.own 0 0 (Sl a11 s9.1.2 c12) s9.1.2, Ch.own n0 0 (Sl a30 xs28 c31) xs28, Ch.bx n0 b25 0 [(.pointer a23), (I x16.2)] [] [], Ch.pr 0 (.pointer a23) x16.1, Ch.ro 0 (Sl aat_2 at_2 cat_2) at_2, Ch.bx n0 b1 0 [(I 0), (.slice none 0 0)] [] []] ∧ Md (fun i => (cov []) i ∨ (cov [Ch.bx n0 b3 0 [(I s9.1.1), (Sl a11 s9.1.2 c12)] [] [], Ch.own 0 0 (Sl a11 s9.1.2 c12) s9.1.2]) i) σ27 σ43 from hJ)
      clear hJ Hs
      rw [fr_lookL (L := [(1, (I kind_1)), (2, (Sl aat_2 at_2 cat_2)), (8, (pt b1 0)), (10, (pt b3 0)), (11, (I s9.2.1)), (12, (Sl a30 xs28 c31)), (13, (pt b25 0)), (39, (B x16.1.isNil)), (41, (I x16.2)), (42, (I r40))]) ⟨e1, e2, e8, e10, e11, e12, e13, e39, e41, e42, trivial⟩]
      clear hoff hrel e1 e2 e8 e10 e11 e12 e13 e39 e41 e42
      refine st_g (v := (B (decide (r40 < x16.2)))) (congrArg some hb37) (rv_gtr (a := x16.2) (b := r40) rfl rfl) ?_
      refine st (v := (B (decide (r40 < x16.2)))) (rv_pick_f (congrArg B hb37) rfl) ?_
      refine w_end ?_
      obtain rfl := Option.some.inj h
      exact ⟨rfl, _, σ43, fr_join ⟨rfl, rfl, rfl, rfl, rfl, rfl, rfl, rfl, trivial⟩, rfl, H.sel' [5, 6, 1, 0, 2, 4, 3] rfl rfl⟩
   ·clear hj
    have h := h'
    clear h' H
    rintro e a w ⟨rfl, ρ, σ44, rfl, rfl, H⟩
    refine q_then ?_
    refine cd_cond o35 rfl (fun hb45 => ?_) (fun hb45 => ?_)
    ·replace h := bif_t hb45 h
     refine c_exit ?_
     refine q_then_x ?_
     refine q_blk_hit ?_
     refine q_then ?_
     obtain rfl := Option.some.inj h
     exact ⟨_, rfl, _, σ44, a11, c12, a30, c31, fr_join ⟨rfl, rfl, rfl, rfl, rfl, rfl, trivial⟩, rfl, H.sel' [3, 2, 0, 1, 4] rfl rfl⟩
    ·replace h := bif_f hb45 h
     refine c_skip ?_
     refine q_then ?_
     refine c_seq ?_
     refine rg ?_
     refine st (v := (I s9.2.1)) (rv_move rfl) ?_
     refine st (v := (I (w64 (s9.2.1 + 1)))) (rv_add (a := s9.2.1) (b := 1) rfl rfl) ?_
     refine st (v := (I (w64 (s9.2.1 + 1)))) (rv_assign rfl) ?_
     refine w_end ?_
     refine q_then ?_
     refine c_seq ?_
     refine rg ?_
     refine st (v := (pt b25 0)) (rv_fieldAddr (off := 0) (ft := 56) Try.underlying87 rfl ti56 rfl rfl) ?_
     have hc46 := H.cell (u := (.pointer a23)) (o' := 0) 6 0 rfl rfl rfl
     refine st (v := (.pointer a23)) (rv_load1 Try.underlying56 rfl rfl hc46) ?_
     obtain ⟨x47, hx48, h'⟩ := bind_some h
     clear h
     have h := h'; clear h'
     obtain ⟨b50, o51, hi49⟩ := (H.pr 5 rfl).ex hx48
     refine st (v := (pt b50 o51)) (rv_nilCheckT hi49 rfl) ?_
     refine st (v := (pt b50 (o51 + 0))) (rv_fieldAddr (off := 0) (ft := 41) Try.underlying94 rfl ti41 rfl rfl) ?_
     obtain ⟨_, ⟨_, _, rfl, rfl, ⟨_, _, rfl, ⟨_, rfl, hR56⟩, rfl⟩⟩, hl52, hc53⟩ := ((H.pr 5 rfl).at hx48 hi49).fst.cells
     obtain ⟨a54, c55, rfl⟩ := hR56.isSl
     replace H := H.add (d := Ch.ro 0 (Sl a54 x47.1.2.1 c55) x47.1.2.1) hR56 (fun _ h => h)
     clear hR56
     refine st (v := (.agg #[(I x47.1.1), (Sl a54 x47.1.2.1 c55), (I x47.1.2.2)])) (rv_load Try.underlying41 rfl ti41 rfl hl52 hc53) ?_
     refine st (v := (I kind_1)) (rv_move rfl) ?_
     refine st (v := (Sl aat_2 at_2 cat_2)) (rv_move rfl) ?_
     obtain ⟨r57, hx58, h'⟩ := bind_some h
     clear h
     have h := h'; clear h'
     have hc59 := c_impl_hitOf (ax_0_1 := a54) (cx_0_1 := c55) (aat_2 := aat_2) (cat_2 := cat_2) hx58
     refine st_call (cx_call hc59 (ent_f hc59.fn rfl) hn0 (show Hp S0 σ0 _ ([Ch.ro 0 (Sl a54 x47.1.2.1 c55) x47.1.2.1, Ch.ro 0 (Sl aat_2 at_2 cat_2) at_2] ++ [Ch.ro 0 (Sl a54 x47.1.2.1 c55) x47.1.2.1, Ch.ro 0 (Sl aat_2 at_2 cat_2) at_2, Ch.bx n0 b1 0 [(I 0), (.slice none 0 0)] [] [], Ch.own 0 0 (Sl a11 s9.1.2 c12) s9.1.2, Ch.bx n0 b3 0 [(I s9.1.1), (Sl a11 s9.1.2 c12)] [] [], Ch.own n0 0 (Sl a30 xs28 c31) xs28, Ch.pr 0 (.pointer a23) x16.1, Ch.bx n0 b25 0 [(.pointer a23), (I x16.2)] [] []]) from (H.sel' [0, 1, 0, 1, 2, 3, 4, 5, 6, 7] rfl rfl))) wn ?_
     rintro _ σ60 ⟨_, ⟨rfl, rfl⟩, H, -⟩
     replace H : Hp S0 σ0 σ60 [Ch.ro 0 (Sl a54 x47.1.2.1 c55) x47.1.2.1, Ch.ro 0 (Sl aat_2 at_2 cat_2) at_2, Ch.bx n0 b1 0 [(I 0), (.slice none 0 0)] [] [], Ch.own 0 0 (Sl a11 s9.1.2 c12) s9.1.2, Ch.bx n0 b3 0 [(I s9.1.1), (Sl a11 s9.1.2 c12)] [] [], Ch.own n0 0 (Sl a30 xs28 c31) xs28, Ch.pr 0 (.pointer a23) x16.1, Ch.bx n0 b25 0 [(.pointer a23), (I x16.2)] [] []] := H
     replace H : Hp S0 σ0 σ60 [Ch.ro 0 (Sl aat_2 at_2 cat_2) at_2, Ch.bx n0 b1 0 [(I 0), (.slice none 0 0)] [] [], Ch.own 0 0 (Sl a11 s9.1.2 c12) s9.1.2, Ch.bx n0 b3 0 [(I s9.1.1), (Sl a11 s9.1.2 c12)] [] [], Ch.own n0 0 (Sl a30 xs28 c31) xs28, Ch.pr 0 (.pointer a23) x16.1, Ch.bx n0 b25 0 [(.pointer a23), (I x16.2)] [] []] := H.sel' [1, 2, 3, 4, 5, 6, 7] rfl rfl
     refine st_ex (ex_alloc (cs := [(I 0), (I 0)]) H hn0 ti91 rfl) wn ?_
     rintro _ σ62 ⟨b61, rfl, H, -⟩
     refine st_exS (ex_store_box (k := 0) (cs := [(I 0), (I 0)]) (vs := [(I r57.1), (I r57.2)]) (cs' := [(I r57.1), (I r57.2)]) H (i := 0) rfl ti91 rfl rfl rfl rfl rfl (Nat.le_of_ble_eq_true rfl) (by simp [plain]) rfl) wn ?_
     rintro σ63 ⟨H, -⟩
     refine w_end ?_
     refine q_then ?_
     refine c_seq ?_
     refine rg ?_
     have hc64 := H.cells 0 rfl
     refine st (v := (.agg #[(I r57.1), (I r57.2)])) (rv_load (cs := [(I r57.1), (I r57.2)]) Try.underlying91 rfl ti91 rfl rfl hc64) ?_
     obtain ⟨r65, hx66, h'⟩ := bind_some h
     clear h
     have h := h'; clear h'
     have hc67 := c_impl_nearestHits_offer (lon_0 := n0) (bn_0 := b3) (on_0 := 0) (pren_0 := []) (sufn_0 := []) (an_0_1 := a11) (cn_0_1 := c12) hx66
     refine st_call (cx_call hc67 (ent_f hc67.fn rfl) hn0 (show Hp S0 σ0 _ ([Ch.bx n0 b3 0 [(I s9.1.1), (Sl a11 s9.1.2 c12)] [] [], Ch.own 0 0 (Sl a11 s9.1.2 c12) s9.1.2] ++ [Ch.bx n0 b61 0 [(I r57.1), (I r57.2)] [] [], Ch.ro 0 (Sl aat_2 at_2 cat_2) at_2, Ch.bx n0 b1 0 [(I 0), (.slice none 0 0)] [] [], Ch.own n0 0 (Sl a30 xs28 c31) xs28, Ch.pr 0 (.pointer a23) x16.1, Ch.bx n0 b25 0 [(.pointer a23), (I x16.2)] [] []]) from (H.sel' [4, 3, 0, 1, 2, 5, 6, 7] rfl rfl))) wn ?_
     rintro _ σ70 ⟨_, ⟨a68, c69, rfl, rfl⟩, H, -⟩
     replace H : Hp S0 σ0 σ70 [Ch.bx n0 b3 0 [(I r65.1), (Sl a68 r65.2 c69)] [] [], Ch.own 0 0 (Sl a68 r65.2 c69) r65.2, Ch.bx n0 b61 0 [(I r57.1), (I r57.2)] [] [], Ch.ro 0 (Sl aat_2 at_2 cat_2) at_2, Ch.bx n0 b1 0 [(I 0), (.slice none 0 0)] [] [], Ch.own n0 0 (Sl a30 xs28 c31) xs28, Ch.pr 0 (.pointer a23) x16.1, Ch.bx n0 b25 0 [(.pointer a23), (I x16.2)] [] []] := H
     refine w_end ?_
     refine q_then ?_
     refine c_seq ?_
     refine rg ?_
     refine st (v := (pt b25 0)) (rv_fieldAddr (off := 0) (ft := 56) Try.underlying87 rfl ti56 rfl rfl) ?_
     have hc71 := H.cell (u := (.pointer a23)) (o' := 0) 7 0 rfl rfl rfl
     refine st (v := (.pointer a23)) (rv_load1 Try.underlying56 rfl rfl hc71) ?_
     refine st (v := (pt b61 1)) (rv_fieldAddr (off := 1) (ft := 3) Try.underlying91 rfl ti3 rfl rfl) ?_
     have hc72 := H.cell (u := (I r57.2)) (o' := 1) 2 1 rfl rfl rfl
     refine st (v := (I r57.2)) (rv_load1 Try.underlying3 rfl rfl hc72) ?_
     obtain ⟨r73, hx74, h'⟩ := bind_some h
     clear h
     have h := h'; clear h'
     have hc75 := c_impl_branch_turns (ab_0 := a23) hx74
     refine st_call (cx_call hc75 (ent_f hc75.fn rfl) hn0 (show Hp S0 σ0 _ ([Ch.pr 0 (.pointer a23) x16.1] ++ [Ch.bx n0 b3 0 [(I r65.1), (Sl a68 r65.2 c69)] [] [], Ch.own 0 0 (Sl a68 r65.2 c69) r65.2, Ch.bx n0 b61 0 [(I r57.1), (I r57.2)] [] [], Ch.ro 0 (Sl aat_2 at_2 cat_2) at_2, Ch.bx n0 b1 0 [(I 0), (.slice none 0 0)] [] [], Ch.own n0 0 (Sl a30 xs28 c31) xs28, Ch.pr 0 (.pointer a23) x16.1, Ch.bx n0 b25 0 [(.pointer a23), (I x16.2)] [] []]) from (H.sel' [6, 0, 1, 2, 3, 4, 5, 6, 7] rfl rfl))) wn ?_
     rintro _ σ78 ⟨_, ⟨a76, a77, rfl, rfl⟩, H, -⟩
     replace H : Hp S0 σ0 σ78 [Ch.pr 0 (.pointer a76) r73.1.1, Ch.pr 0 (.pointer a77) r73.2.1, Ch.bx n0 b3 0 [(I r65.1), (Sl a68 r65.2 c69)] [] [], Ch.own 0 0 (Sl a68 r65.2 c69) r65.2, Ch.bx n0 b61 0 [(I r57.1), (I r57.2)] [] [], Ch.ro 0 (Sl aat_2 at_2 cat_2) at_2, Ch.bx n0 b1 0 [(I 0), (.slice none 0 0)] [] [], Ch.own n0 0 (Sl a30 xs28 c31) xs28, Ch.pr 0 (.pointer a23) x16.1, Ch.bx n0 b25 0 [(.pointer a23), (I x16.2)] [] []] := H
     replace H : Hp S0 σ0 σ78 [Ch.pr 0 (.pointer a76) r73.1.1, Ch.pr 0 (.pointer a77) r73.2.1, Ch.bx n0 b3 0 [(I r65.1), (Sl a68 r65.2 c69)] [] [], Ch.own 0 0 (Sl a68 r65.2 c69) r65.2, Ch.ro 0 (Sl aat_2 at_2 cat_2) at_2, Ch.bx n0 b1 0 [(I 0), (.slice none 0 0)] [] [], Ch.own n0 0 (Sl a30 xs28 c31) xs28] := H.sel' [0, 1, 2, 3, 5, 6, 7] rfl rfl
     refine st (v := (.tuple #[(.agg #[(.pointer a76), (I r73.1.2)]), (.agg #[(.pointer a77), (I r73.2.2)])])) (rv_move rfl) ?_
     refine st (v := (.agg #[(.pointer a76), (I r73.1.2)])) (rv_extract rfl rfl) ?_
     refine st (v := (.agg #[(.pointer a77), (I r73.2.2)])) (rv_extract rfl rfl) ?_
     refine st_ex (ex_alloc (cs := [(.pointer none), (I 0)]) H hn0 ti87 rfl) wn ?_
     rintro _ σ80 ⟨b79, rfl, H, -⟩
     refine st_ex (ex_alloc (cs := [(.pointer none), (I 0)]) H hn0 ti87 rfl) wn ?_
     rintro _ σ82 ⟨b81, rfl, H, -⟩
     refine st_exS (ex_store_box (k := 0) (cs := [(.pointer none), (I 0)]) (vs := [(.pointer a76), (I r73.1.2)]) (cs' := [(.pointer a76), (I r73.1.2)]) H (i := 1) rfl ti87 rfl rfl rfl rfl rfl (Nat.le_of_ble_eq_true rfl) (by simp [plain]) rfl) wn ?_
     rintro σ83 ⟨H, -⟩
     refine st_exS (ex_store_box (k := 0) (cs := [(.pointer none), (I 0)]) (vs := [(.pointer a77), (I r73.2.2)]) (cs' := [(.pointer a77), (I r73.2.2)]) H (i := 1) rfl ti87 rfl rfl rfl rfl rfl (Nat.le_of_ble_eq_true rfl) (by simp [plain]) rfl) wn ?_
     rintro σ84 ⟨H, -⟩
     refine w_end ?_
     refine q_then ?_
     refine rg ?_
     refine st (v := (Sl a30 xs28 c31)) (rv_move rfl) ?_
     have hc85 := H.cells 0 rfl
     refine st (v := (.agg #[(.pointer a77), (I r73.2.2)])) (rv_load (cs := [(.pointer a77), (I r73.2.2)]) Try.underlying87 rfl ti87 rfl rfl hc85) ?_
     have hc86 := H.cells 1 rfl
     refine st (v := (.agg #[(.pointer a76), (I r73.1.2)])) (rv_load (cs := [(.pointer a76), (I r73.1.2)]) Try.underlying87 rfl ti87 rfl rfl hc86) ?_
     refine st_ex (ex_buildSlice (el := 0) (xs := ([(r73.2.1, r73.2.2), (r73.1.1, r73.1.2)] : List ((Tr (Int × (List Int) × Int)) × Int))) (ps := [(0, (.agg #[(.pointer a77), (I r73.2.2)])), (1, (.agg #[(.pointer a76), (I r73.1.2)]))]) (cs := [(.pointer a77), (I r73.2.2), (.pointer a76), (I r73.1.2)]) H hn0 Try.underlying88 ti87 rfl rfl (by kernel_rfl) (.cons (c := [(.pointer a77), (I r73.2.2)]) ⟨[(.pointer a77)], [(I r73.2.2)], rfl, ⟨_, rfl, (H.pr 3 rfl)⟩, rfl⟩ (.cons (c := [(.pointer a76), (I r73.1.2)]) ⟨[(.pointer a76)], [(I r73.1.2)], rfl, ⟨_, rfl, (H.pr 2 rfl)⟩, rfl⟩ (.nil))) rfl) wn ?_
     rintro _ σ88 ⟨b87, rfl, H, -⟩
     replace H : Hp S0 σ0 σ88 [Ch.own n0 0 (Sl (some ⟨b87, 0, none⟩) ([(r73.2.1, r73.2.2), (r73.1.1, r73.1.2)] : List ((Tr (Int × (List Int) × Int)) × Int)) 2) ([(r73.2.1, r73.2.2), (r73.1.1, r73.1.2)] : List ((Tr (Int × (List Int) × Int)) × Int)), Ch.bx n0 b3 0 [(I r65.1), (Sl a68 r65.2 c69)] [] [], Ch.own 0 0 (Sl a68 r65.2 c69) r65.2, Ch.ro 0 (Sl aat_2 at_2 cat_2) at_2, Ch.bx n0 b1 0 [(I 0), (.slice none 0 0)] [] [], Ch.own n0 0 (Sl a30 xs28 c31) xs28] := H.sel' [0, 5, 6, 7, 8, 9] rfl rfl
     obtain ⟨xs89, hx90, h'⟩ := bind_some h
     clear h
     have h := h'; clear h'
     refine st_ex (ex_append H (i := 5) rfl Try.underlying88 Try.underlying88 ti87 rfl rfl (by decide) (H.own 0 rfl).rd hx90 hn0 rfl rfl) wn ?_
     rintro _ σ93 ⟨a91, c92, rfl, H, -⟩
     refine st (v := (Sl a91 xs89 c92)) (rv_assign rfl) ?_
     refine w_end ?_
     refine q_blk ?_
     refine q_then ?_
     obtain rfl := Option.some.inj h
     exact ⟨_, rfl, _, σ93, a68, c69, a91, c92, fr_join ⟨rfl, rfl, rfl, rfl, rfl, rfl, trivial⟩, rfl, H.sel' [2, 3, 4, 5, 0] rfl rfl⟩
  ·replace h := bif_f hb15 h
   refine c_exit ?_
   refine q_then_x ?_
   refine q_then_x ?_
   refine q_blk_hit ?_
   obtain rfl := Option.some.inj h
   obtain rfl := hres _ rfl
   exact ⟨rfl, _, σ10, a11, c12, fr_join ⟨rfl, rfl, rfl, trivial⟩, rfl, H.sel' [0, 1, 3] rfl rfl⟩
 ·clear hj
  have h := h'
  clear h' H
  rintro e a w ⟨rfl, ρ, σ94, a95, c96, rfl, rfl, H⟩
  refine q_then ?_
  refine c_seq ?_
  refine rg ?_
  have hc97 := H.cells 0 rfl
  refine st (v := (.agg #[(I o8.1.1), (Sl a95 o8.1.2 c96)])) (rv_load (cs := [(I o8.1.1), (Sl a95 o8.1.2 c96)]) Try.underlying53 rfl ti53 rfl rfl hc97) ?_
  refine st (v := (I o8.2)) (rv_move rfl) ?_
  refine st_exS (ex_store_box (k := 0) (cs := [(I 0), (.slice none 0 0)]) (vs := [(I o8.1.1), (Sl a95 o8.1.2 c96)]) (cs' := [(I o8.1.1), (Sl a95 o8.1.2 c96)]) H (i := 2) rfl ti53 rfl rfl rfl rfl rfl (Nat.le_of_ble_eq_true rfl) (by simp [plain]) rfl) wn ?_
  rintro σ98 ⟨H, -⟩
  refine st (v := (I o8.2)) (rv_assign rfl) ?_
  refine w_end ?_
  refine q_then ?_
  refine c_ret ?_
  replace H := H.ownSc 2 0 n0 rfl (Nat.le_refl _)
  obtain rfl := Option.some.inj h
  exact fin_ret (v := (.tuple #[(.agg #[(I o8.1.1), (Sl a95 o8.1.2 c96)]), (I o8.2)])) (results_ok Try.results39 (res_cell rfl (run_cellRes (cs := [(I o8.1.1), (Sl a95 o8.1.2 c96)]) Try.underlying53 rfl ti53 rfl (H.cells 1 rfl)) (res_tmp (v := (I o8.2)) rfl res_nil)) rfl) ⟨a95, c96, rfl, rfl⟩ (H.sel' [0] rfl rfl)

theorem c_slices_Clone_impl_Item_impl_Item {s_0 : List (Int × (List Int) × Int)} {as_0 : Option Addr} {cs_0 : Nat} {r : (List (Int × (List Int) × Int))} (h : M.slices_Clone_impl_Item_impl_Item s_0 = some r) :
    Cal2 Try.prog 95 [(Sl as_0 s_0 cs_0)] [Ch.ro 0 (Sl as_0 s_0 cs_0) s_0] (fun n0 v L => ∃ (az1 : Option Addr), ∃ (cz2 : Nat), v = (Sl az1 r cz2) ∧ L = [Ch.own n0 0 (Sl az1 r cz2) r]) := by
 refine cal2 (n := 8) Try.func95 rfl rfl rfl rfl ?_
 intro S0 σ0 n0 hn0 H
 unfold M.slices_Clone_impl_Item_impl_Item at h
 refine c_seq ?_
 refine rg ?_
 refine st (v := (.slice none 0 0)) (rv_assign rfl) ?_
 refine w_end ?_
 refine q_then ?_
 refine c_seq ?_
 refine c_seq ?_
 refine rg ?_
 refine st (v := (Sl as_0 s_0 cs_0)) (rv_move rfl) ?_
 refine st (v := (B as_0.isNone)) (rv_nilS Try.underlying23 rfl rfl) ?_
 refine w_end ?_
 refine q_then ?_
 refine cd_cond as_0.isNone rfl (fun hb1 => ?_) (fun hb1 => ?_)
 ·have hq := RS.nilOf hb1 (H.ro 0 rfl)
  subst hq
  replace h : some [] = some r := by simpa [gapp] using h
  refine c_seq ?_
  refine rg ?_
  refine st (v := (.slice none 0 0)) (rv_assign rfl) ?_
  refine w_end ?_
  refine q_then ?_
  refine c_ret ?_
  refine q_then_r ?_
  replace H := H.nilOwn (Int × (List Int) × Int) n0 0
  obtain rfl := Option.some.inj h
  exact fin_ret (v := (.slice none 0 0)) (results_ok Try.results95 (res_tmp (v := (.slice none 0 0)) rfl res_nil) rfl) ⟨none, 0, rfl, rfl⟩ (H.sel' [0] rfl rfl)
 ·refine c_skip ?_
  refine q_then ?_
  refine c_seq ?_
  refine rg ?_
  refine st_ex (ex_buildSlice (el := n0) (xs := ([] : List (Int × (List Int) × Int))) (ps := []) (cs := []) H hn0 Try.underlying23 ti41 rfl rfl (by kernel_rfl) (.nil) rfl) wn ?_
  rintro _ σ3 ⟨b2, rfl, H, -⟩
  refine st (v := (Sl as_0 s_0 cs_0)) (rv_move rfl) ?_
  replace H := H.ownLow 0 n0 0 rfl (Nat.le_refl _) (Nat.zero_le _)
  obtain ⟨xs4, hx5, h'⟩ := bind_some h
  clear h
  have h := h'; clear h'
  refine st_ex (ex_append H (i := 0) rfl Try.underlying23 Try.underlying23 ti41 rfl rfl (by decide) (H.ro 1 rfl).rd hx5 hn0 rfl rfl) wn ?_
  rintro _ σ8 ⟨a6, c7, rfl, H, -⟩
  refine st (v := (Sl a6 xs4 c7)) (rv_assign rfl) ?_
  refine w_end ?_
  refine q_then ?_
  refine c_ret ?_
  obtain rfl := Option.some.inj h
  exact fin_ret (v := (Sl a6 xs4 c7)) (results_ok Try.results95 (res_tmp (v := (Sl a6 xs4 c7)) rfl res_nil) rfl) ⟨a6, c7, rfl, rfl⟩ (H.sel' [0] rfl rfl)

theorem c_slices_xorshift_Next {r_0 : Int} {lor_0 br_0 or_0 : Nat} {prer_0 sufr_0 : List Value} {r : Int × Int} (h : M.slices_xorshift_Next r_0 = some r) :
    Cal2 Try.prog 134 [(pt br_0 or_0)] [Ch.bx lor_0 br_0 or_0 [(.int .u64 r_0)] prer_0 sufr_0] (fun n0 v L => v = (.int .u64 r.1) ∧ L = [Ch.bx lor_0 br_0 or_0 [(.int .u64 r.2)] prer_0 sufr_0]) := by
 refine cal2 (n := 33) Try.func134 rfl rfl rfl rfl ?_
 intro S0 σ0 n0 hn0 H
 unfold M.slices_xorshift_Next at h
 refine c_seq ?_
 refine rg ?_
 refine st (v := (.int .u64 0)) (rv_assign rfl) ?_
 refine w_end ?_
 refine q_then ?_
 refine c_seq ?_
 refine rgP (σ := σ0) 7 (by kernel_rfl) (by kernel_rfl) (by kernel_rfl) ?_
 refine sq (v := (pt br_0 or_0)) (rv_move rfl) ?_
 refine sq (v := (pt br_0 or_0)) (rv_nilCheck rfl) ?_
 have hc1 := H.cell (u := (.int .u64 r_0)) (o' := or_0) 0 0 rfl rfl rfl
 refine sq (v := (.int .u64 r_0)) (rv_load1 Try.underlying151 rfl rfl hc1) ?_
 refine sq (v := (pt br_0 or_0)) (rv_move rfl) ?_
 refine sq (v := (pt br_0 or_0)) (rv_nilCheck rfl) ?_
 have hc2 := H.cell (u := (.int .u64 r_0)) (o' := or_0) 0 0 rfl rfl rfl
 refine sq (v := (.int .u64 r_0)) (rv_load1 Try.underlying151 rfl rfl hc2) ?_
 refine sq (v := (.int .u64 (gshl .u64 r_0 13))) (rvk_shl (k := .u64) (k' := .u64) (a := r_0) (b := 13) rfl rfl (by decide)) ?_
 refine sq_end ?_
 intro σ3 hm4
 replace H := H.grow (hm4.mono fun _ h => h); clear hm4
 refine st (v := (.int .u64 (gxork .u64 r_0 (gshl .u64 r_0 13)))) (rvk_xor (k := .u64) (a := r_0) (b := (gshl .u64 r_0 13)) rfl rfl) ?_
 refine st (v := (pt br_0 or_0)) (rv_nilCheck rfl) ?_
 refine st_exS (ex_store_box (k := 0) (cs := [(.int .u64 r_0)]) (vs := [(.int .u64 (gxork .u64 r_0 (gshl .u64 r_0 13)))]) (cs' := [(.int .u64 (gxork .u64 r_0 (gshl .u64 r_0 13)))]) H (i := 0) rfl ti151 rfl rfl rfl rfl rfl (Nat.le_of_ble_eq_true rfl) (by simp [plain]) rfl) wn ?_
 rintro σ5 ⟨H, -⟩
 refine w_end ?_
 refine q_then ?_
 refine c_seq ?_
 refine rgP (σ := σ5) 7 (by kernel_rfl) (by kernel_rfl) (by kernel_rfl) ?_
 refine sq (v := (pt br_0 or_0)) (rv_move rfl) ?_
 refine sq (v := (pt br_0 or_0)) (rv_nilCheck rfl) ?_
 have hc6 := H.cell (u := (.int .u64 (gxork .u64 r_0 (gshl .u64 r_0 13)))) (o' := or_0) 0 0 rfl rfl rfl
 refine sq (v := (.int .u64 (gxork .u64 r_0 (gshl .u64 r_0 13)))) (rv_load1 Try.underlying151 rfl rfl hc6) ?_
 refine sq (v := (pt br_0 or_0)) (rv_move rfl) ?_
 refine sq (v := (pt br_0 or_0)) (rv_nilCheck rfl) ?_
 have hc7 := H.cell (u := (.int .u64 (gxork .u64 r_0 (gshl .u64 r_0 13)))) (o' := or_0) 0 0 rfl rfl rfl
 refine sq (v := (.int .u64 (gxork .u64 r_0 (gshl .u64 r_0 13)))) (rv_load1 Try.underlying151 rfl rfl hc7) ?_
 refine sq (v := (.int .u64 (gshr .u64 (gxork .u64 r_0 (gshl .u64 r_0 13)) 7))) (rvk_shr (k := .u64) (k' := .u64) (a := (gxork .u64 r_0 (gshl .u64 r_0 13))) (b := 7) rfl rfl (by decide)) ?_
 refine sq_end ?_
 intro σ8 hm9
 replace H := H.grow (hm9.mono fun _ h => h); clear hm9
 refine st (v := (.int .u64 (gxork .u64 (gxork .u64 r_0 (gshl .u64 r_0 13)) (gshr .u64 (gxork .u64 r_0 (gshl .u64 r_0 13)) 7)))) (rvk_xor (k := .u64) (a := (gxork .u64 r_0 (gshl .u64 r_0 13))) (b := (gshr .u64 (gxork .u64 r_0 (gshl .u64 r_0 13)) 7)) rfl rfl) ?_
 refine st (v := (pt br_0 or_0)) (rv_nilCheck rfl) ?_
 refine st_exS (ex_store_box (k := 0) (cs := [(.int .u64 (gxork .u64 r_0 (gshl .u64 r_0 13)))]) (vs := [(.int .u64 (gxork .u64 (gxork .u64 r_0 (gshl .u64 r_0 13)) (gshr .u64 (gxork .u64 r_0 (gshl .u64 r_0 13)) 7)))]) (cs' := [(.int .u64 (gxork .u64 (gxork .u64 r_0 (gshl .u64 r_0 13)) (gshr .u64 (gxork .u64 r_0 (gshl .u64 r_0 13)) 7)))]) H (i := 0) rfl ti151 rfl rfl rfl rfl rfl (Nat.le_of_ble_eq_true rfl) (by simp [plain]) rfl) wn ?_
 rintro σ10 ⟨H, -⟩
 refine w_end ?_
 refine q_then ?_
 refine c_seq ?_
 refine rgP (σ := σ10) 7 (by kernel_rfl) (by kernel_rfl) (by kernel_rfl) ?_
 refine sq (v := (pt br_0 or_0)) (rv_move rfl) ?_
 refine sq (v := (pt br_0 or_0)) (rv_nilCheck rfl) ?_
 have hc11 := H.cell (u := (.int .u64 (gxork .u64 (gxork .u64 r_0 (gshl .u64 r_0 13)) (gshr .u64 (gxork .u64 r_0 (gshl .u64 r_0 13)) 7)))) (o' := or_0) 0 0 rfl rfl rfl
 refine sq (v := (.int .u64 (gxork .u64 (gxork .u64 r_0 (gshl .u64 r_0 13)) (gshr .u64 (gxork .u64 r_0 (gshl .u64 r_0 13)) 7)))) (rv_load1 Try.underlying151 rfl rfl hc11) ?_
 refine sq (v := (pt br_0 or_0)) (rv_move rfl) ?_
 refine sq (v := (pt br_0 or_0)) (rv_nilCheck rfl) ?_
 have hc12 := H.cell (u := (.int .u64 (gxork .u64 (gxork .u64 r_0 (gshl .u64 r_0 13)) (gshr .u64 (gxork .u64 r_0 (gshl .u64 r_0 13)) 7)))) (o' := or_0) 0 0 rfl rfl rfl
 refine sq (v := (.int .u64 (gxork .u64 (gxork .u64 r_0 (gshl .u64 r_0 13)) (gshr .u64 (gxork .u64 r_0 (gshl .u64 r_0 13)) 7)))) (rv_load1 Try.underlying151 rfl rfl hc12) ?_
 refine sq (v := (.int .u64 (gshl .u64 (gxork .u64 (gxork .u64 r_0 (gshl .u64 r_0 13)) (gshr .u64 (gxork .u64 r_0 (gshl .u64 r_0 13)) 7)) 17))) (rvk_shl (k := .u64) (k' := .u64) (a := (gxork .u64 (gxork .u64 r_0 (gshl .u64 r_0 13)) (gshr .u64 (gxork .u64 r_0 (gshl .u64 r_0 13)) 7))) (b := 17) rfl rfl (by decide)) ?_
 refine sq_end ?_
 intro σ13 hm14
 replace H := H.grow (hm14.mono fun _ h => h); clear hm14
 refine st (v := (.int .u64 (gxork .u64 (gxork .u64 (gxork .u64 r_0 (gshl .u64 r_0 13)) (gshr .u64 (gxork .u64 r_0 (gshl .u64 r_0 13)) 7)) (gshl .u64 (gxork .u64 (gxork .u64 r_0 (gshl .u64 r_0 13)) (gshr .u64 (gxork .u64 r_0 (gshl .u64 r_0 13)) 7)) 17)))) (rvk_xor (k := .u64) (a := (gxork .u64 (gxork .u64 r_0 (gshl .u64 r_0 13)) (gshr .u64 (gxork .u64 r_0 (gshl .u64 r_0 13)) 7))) (b := (gshl .u64 (gxork .u64 (gxork .u64 r_0 (gshl .u64 r_0 13)) (gshr .u64 (gxork .u64 r_0 (gshl .u64 r_0 13)) 7)) 17)) rfl rfl) ?_
 refine st (v := (pt br_0 or_0)) (rv_nilCheck rfl) ?_
 refine st_exS (ex_store_box (k := 0) (cs := [(.int .u64 (gxork .u64 (gxork .u64 r_0 (gshl .u64 r_0 13)) (gshr .u64 (gxork .u64 r_0 (gshl .u64 r_0 13)) 7)))]) (vs := [(.int .u64 (gxork .u64 (gxork .u64 (gxork .u64 r_0 (gshl .u64 r_0 13)) (gshr .u64 (gxork .u64 r_0 (gshl .u64 r_0 13)) 7)) (gshl .u64 (gxork .u64 (gxork .u64 r_0 (gshl .u64 r_0 13)) (gshr .u64 (gxork .u64 r_0 (gshl .u64 r_0 13)) 7)) 17)))]) (cs' := [(.int .u64 (gxork .u64 (gxork .u64 (gxork .u64 r_0 (gshl .u64 r_0 13)) (gshr .u64 (gxork .u64 r_0 (gshl .u64 r_0 13)) 7)) (gshl .u64 (gxork .u64 (gxork .u64 r_0 (gshl .u64 r_0 13)) (gshr .u64 (gxork .u64 r_0 (gshl .u64 r_0 13)) 7)) 17)))]) H (i := 0) rfl ti151 rfl rfl rfl rfl rfl (Nat.le_of_ble_eq_true rfl) (by simp [plain]) rfl) wn ?_
 rintro σ15 ⟨H, -⟩
 refine w_end ?_
 refine q_then ?_
 refine c_seq ?_
 refine rg ?_
 refine st (v := (pt br_0 or_0)) (rv_move rfl) ?_
 refine st (v := (pt br_0 or_0)) (rv_nilCheck rfl) ?_
 have hc16 := H.cell (u := (.int .u64 (gxork .u64 (gxork .u64 (gxork .u64 r_0 (gshl .u64 r_0 13)) (gshr .u64 (gxork .u64 r_0 (gshl .u64 r_0 13)) 7)) (gshl .u64 (gxork .u64 (gxork .u64 r_0 (gshl .u64 r_0 13)) (gshr .u64 (gxork .u64 r_0 (gshl .u64 r_0 13)) 7)) 17)))) (o' := or_0) 0 0 rfl rfl rfl
 refine st (v := (.int .u64 (gxork .u64 (gxork .u64 (gxork .u64 r_0 (gshl .u64 r_0 13)) (gshr .u64 (gxork .u64 r_0 (gshl .u64 r_0 13)) 7)) (gshl .u64 (gxork .u64 (gxork .u64 r_0 (gshl .u64 r_0 13)) (gshr .u64 (gxork .u64 r_0 (gshl .u64 r_0 13)) 7)) 17)))) (rv_load1 Try.underlying151 rfl rfl hc16) ?_
 refine st (v := (.int .u64 (gxork .u64 (gxork .u64 (gxork .u64 r_0 (gshl .u64 r_0 13)) (gshr .u64 (gxork .u64 r_0 (gshl .u64 r_0 13)) 7)) (gshl .u64 (gxork .u64 (gxork .u64 r_0 (gshl .u64 r_0 13)) (gshr .u64 (gxork .u64 r_0 (gshl .u64 r_0 13)) 7)) 17)))) (rv_assign rfl) ?_
 refine w_end ?_
 refine q_then ?_
 refine c_ret ?_
 obtain rfl := Option.some.inj h
 exact fin_ret (v := (.int .u64 (gxork .u64 (gxork .u64 (gxork .u64 r_0 (gshl .u64 r_0 13)) (gshr .u64 (gxork .u64 r_0 (gshl .u64 r_0 13)) 7)) (gshl .u64 (gxork .u64 (gxork .u64 r_0 (gshl .u64 r_0 13)) (gshr .u64 (gxork .u64 r_0 (gshl .u64 r_0 13)) 7)) 17)))) (results_ok Try.results134 (res_tmp (v := (.int .u64 (gxork .u64 (gxork .u64 (gxork .u64 r_0 (gshl .u64 r_0 13)) (gshr .u64 (gxork .u64 r_0 (gshl .u64 r_0 13)) 7)) (gshl .u64 (gxork .u64 (gxork .u64 r_0 (gshl .u64 r_0 13)) (gshr .u64 (gxork .u64 r_0 (gshl .u64 r_0 13)) 7)) 17)))) rfl res_nil) rfl) ⟨rfl, rfl⟩ (H.sel' [0] rfl rfl)

theorem c_impl_sortByDistance_1__p3__p24 {x_0 : Int × (List Int) × Int} {y_1 : Int × (List Int) × Int} {p_2 : Int} {p_3 : List Int} {ax_0_1 : Option Addr} {cx_0_1 : Nat} {ay_1_1 : Option Addr} {cy_1_1 : Nat} {bp_2 op_2 : Nat} {bp_3 op_3 : Nat} {r : Int} (h : M.impl_sortByDistance_1__p3__p24 x_0 y_1 p_2 p_3 = some r) :
    Cal2 Try.prog 97 [(.agg #[(I x_0.1), (Sl ax_0_1 x_0.2.1 cx_0_1), (I x_0.2.2)]), (.agg #[(I y_1.1), (Sl ay_1_1 y_1.2.1 cy_1_1), (I y_1.2.2)]), (pt bp_2 op_2), (pt bp_3 op_3)] [Ch.ro 0 (Sl ax_0_1 x_0.2.1 cx_0_1) x_0.2.1, Ch.ro 0 (Sl ay_1_1 y_1.2.1 cy_1_1) y_1.2.1, Ch.ro 0 (Sl (some ⟨bp_2, op_2, none⟩) ([p_2] : List Int) 1) ([p_2] : List Int), Ch.ro 0 (Sl (some ⟨bp_3, op_3, none⟩) ([p_3] : List (List Int)) 1) ([p_3] : List (List Int))] (fun n0 v L => v = (I r) ∧ L = []) := by
 refine cal2 (n := 16) Try.func97 rfl rfl rfl rfl ?_
 intro S0 σ0 n0 hn0 H
 unfold M.impl_sortByDistance_1__p3__p24 at h
 have hxp_2 : gidx ([p_2] : List Int) 0 = some p_2 := rfl
 have hip_2 : Ix (Sl (some ⟨bp_2, op_2, none⟩) ([p_2] : List Int) 1) 0 1 bp_2 op_2 := ix_one
 have hxp_3 : gidx ([p_3] : List (List Int)) 0 = some p_3 := rfl
 have hip_3 : Ix (Sl (some ⟨bp_3, op_3, none⟩) ([p_3] : List (List Int)) 1) 0 1 bp_3 op_3 := ix_one
 refine c_seq ?_
 refine rg ?_
 refine st_ex (ex_box (cs := [(I x_0.1), (Sl ax_0_1 x_0.2.1 cx_0_1), (I x_0.2.2)]) H hn0 rfl rfl) wn ?_
 rintro _ σ2 ⟨b1, rfl, H, -⟩
 refine st_ex (ex_box (cs := [(I y_1.1), (Sl ay_1_1 y_1.2.1 cy_1_1), (I y_1.2.2)]) H hn0 rfl rfl) wn ?_
 rintro _ σ4 ⟨b3, rfl, H, -⟩
 refine st (v := (I 0)) (rv_assign rfl) ?_
 refine w_end ?_
 refine q_then ?_
 refine c_seq ?_
 have hc5 := H.cells 1 rfl
 have hc6 := ((H.ro 4 rfl).at hxp_2 hip_2).int
 obtain ⟨v10, hc11, hR9⟩ := ((H.ro 5 rfl).at hxp_3 hip_3).slice
 obtain ⟨a7, c8, rfl⟩ := hR9.isSl
 replace H := H.add (d := Ch.ro 0 (Sl a7 p_3 c8) p_3) hR9 (fun _ h => h)
 clear hR9
 obtain ⟨r12, hx13, h'⟩ := bind_some h
 clear h
 have h := h'; clear h'
 have hc14 := c_impl_hitOf (ax_0_1 := ax_0_1) (cx_0_1 := cx_0_1) (aat_2 := a7) (cat_2 := c8) hx13
 have hc15 := H.cells 1 rfl
 have hc16 := ((H.ro 5 rfl).at hxp_2 hip_2).int
 obtain ⟨v20, hc21, hR19⟩ := ((H.ro 6 rfl).at hxp_3 hip_3).slice
 obtain ⟨a17, c18, rfl⟩ := hR19.isSl
 replace H := H.add (d := Ch.ro 0 (Sl a17 p_3 c18) p_3) hR19 (fun _ h => h)
 clear hR19
 have Hs := H
 refine rg2 (σ := σ4) (Nm := Unit) 7 [3] [[false], [true]] [[(0, 0)], [(0, 0)], [(0, 0)], [(0, 1)], [(0, 0), (1, 1)], [(0, 0), (1, 1)], [(0, 0), (1, 1)]] 1 [fun _ => fun σm => Hp S0 σ0 σm [Ch.ro 0 (Sl a17 p_3 c18) p_3, Ch.ro 0 (Sl a7 p_3 c8) p_3, Ch.bx n0 b3 0 [(I y_1.1), (Sl ay_1_1 y_1.2.1 cy_1_1), (I y_1.2.2)] [] [], Ch.bx n0 b1 0 [(I x_0.1), (Sl ax_0_1 x_0.2.1 cx_0_1), (I x_0.2.2)] [] [], Ch.ro 0 (Sl ax_0_1 x_0.2.1 cx_0_1) x_0.2.1, Ch.ro 0 (Sl ay_1_1 y_1.2.1 cy_1_1) y_1.2.1, Ch.ro 0 (Sl (some ⟨bp_2, op_2, none⟩) ([p_2] : List Int) 1) ([p_2] : List Int), Ch.ro 0 (Sl (some ⟨bp_3, op_3, none⟩) ([p_3] : List (List Int)) 1) ([p_3] : List (List Int))] ∧ Md (cov []) σ4 σm, fun _ => fun σm => Hp S0 σ0 σm [Ch.ro 0 (Sl a17 p_3 c18) p_3, Ch.ro 0 (Sl a7 p_3 c8) p_3, Ch.bx n0 b3 0 [(I y_1.1), (Sl ay_1_1 y_1.2.1 cy_1_1), (I y_1.2.2)] [] [], Ch.bx n0 b1 0 [(I x_0.1), (Sl ax_0_1 x_0.2.1 cx_0_1), (I x_0.2.2)] [] [], Ch.ro 0 (Sl ax_0_1 x_0.2.1 cx_0_1) x_0.2.1, Ch.ro 0 (Sl ay_1_1 y_1.2.1 cy_1_1) y_1.2.1, Ch.ro 0 (Sl (some ⟨bp_2, op_2, none⟩) ([p_2] : List Int) 1) ([p_2] : List Int), Ch.ro 0 (Sl (some ⟨bp_3, op_3, none⟩) ([p_3] : List (List Int)) 1) ([p_3] : List (List Int))] ∧ Md (cov []) σ4 σm] [fun _ => (.agg #[(I x_0.1), (Sl ax_0_1 x_0.2.1 cx_0_1), (I x_0.2.2)]), fun _ => (I p_2), fun _ => (Sl a7 p_3 c8), fun _ => (.agg #[(I r12.1), (I r12.2)]), fun _ => (.agg #[(I y_1.1), (Sl ay_1_1 y_1.2.1 cy_1_1), (I y_1.2.2)]), fun _ => (I p_2), fun _ => (Sl a17 p_3 c18)] () (by kernel_rfl) (by kernel_rfl) ?_ ?_ ?_
 ·intro σm m0
  exact ⟨H.grow (m0.mono fun _ h => h.elim), m0⟩
 ·refine all_cons (by
    refine ⟨?_, ?_⟩
    ·intro _nm ρ σm hJ hoff hdep
     have e4 := look_off (N := 16) (hoff 4 rfl) rfl
     obtain ⟨H, m⟩ := id hJ
     have hc5 := H.cells 3 rfl
     exact dp_v (v := (.agg #[(I x_0.1), (Sl ax_0_1 x_0.2.1 cx_0_1), (I x_0.2.2)])) wn (rv_load (cs := [(I x_0.1), (Sl ax_0_1 x_0.2.1 cx_0_1), (I x_0.2.2)]) Try.underlying41 rfl ti41 e4 rfl hc5) rfl hJ
    trivial) ?_
  refine all_cons (by
    refine ⟨?_, ?_⟩
    ·intro _nm ρ σm hJ hoff hdep
     have e2 := look_off (N := 16) (hoff 2 rfl) rfl
     obtain ⟨H, m⟩ := id hJ
     replace hc6 := (Hs.ro 6 rfl).hmd hxp_2 hip_2 (k := 0) (by decide) hc6 m
     exact dp_v (v := (I p_2)) wn (rv_load1 Try.underlying3 rfl e2 hc6) rfl hJ
    trivial) ?_
  refine all_cons (by
    refine ⟨?_, ?_⟩
    ·intro _nm ρ σm hJ hoff hdep
     have e3 := look_off (N := 16) (hoff 3 rfl) rfl
     obtain ⟨H, m⟩ := id hJ
     replace hc11 := (Hs.ro 7 rfl).hmd hxp_3 hip_3 (k := 0) (by decide) hc11 m
     exact dp_v (v := (Sl a7 p_3 c8)) wn (rv_load1 Try.underlying24 rfl e3 hc11) rfl hJ
    trivial) ?_
  refine all_cons (by
    refine ⟨?_, ?_⟩
    ·intro _nm ρ σm hJ hoff hdep
     have e7 : look 16 ρ 7 = (.agg #[(I x_0.1), (Sl ax_0_1 x_0.2.1 cx_0_1), (I x_0.2.2)]) := hdep 0 rfl rfl 7 rfl
     have e8 : look 16 ρ 8 = (I p_2) := hdep 1 rfl rfl 8 rfl
     have e9 : look 16 ρ 9 = (Sl a7 p_3 c8) := hdep 2 rfl rfl 9 rfl
     obtain ⟨H, m⟩ := id hJ
     refine dp_cx wn (cx_call hc14 (ent_f hc14.fn (by show [look 16 ρ 7, look 16 ρ 8, look 16 ρ 9] = _; rw [e7, e8, e9])) hn0 (show Hp S0 σ0 _ ([Ch.ro 0 (Sl ax_0_1 x_0.2.1 cx_0_1) x_0.2.1, Ch.ro 0 (Sl a7 p_3 c8) p_3] ++ [Ch.ro 0 (Sl a17 p_3 c18) p_3, Ch.ro 0 (Sl a7 p_3 c8) p_3, Ch.bx n0 b3 0 [(I y_1.1), (Sl ay_1_1 y_1.2.1 cy_1_1), (I y_1.2.2)] [] [], Ch.bx n0 b1 0 [(I x_0.1), (Sl ax_0_1 x_0.2.1 cx_0_1), (I x_0.2.2)] [] [], Ch.ro 0 (Sl ax_0_1 x_0.2.1 cx_0_1) x_0.2.1, Ch.ro 0 (Sl ay_1_1 y_1.2.1 cy_1_1) y_1.2.1, Ch.ro 0 (Sl (some ⟨bp_2, op_2, none⟩) ([p_2] : List Int) 1) ([p_2] : List Int), Ch.ro 0 (Sl (some ⟨bp_3, op_3, none⟩) ([p_3] : List (List Int)) 1) ([p_3] : List (List Int))]) from (H.sel' [4, 1, 0, 1, 2, 3, 4, 5, 6, 7] rfl rfl))) ?_
     rintro _ σq ⟨_, ⟨rfl, rfl⟩, H2, m2⟩
     exact ⟨_, (), rfl, rfl, ⟨H2.sel' [0, 1, 2, 3, 4, 5, 6, 7] rfl rfl, m.comp0 (m2.mono (fun i h => by simp [cov, Ch.ro] at h))⟩, stab [0, 1, 2, 4, 5, 6] (by kernel_rfl) ⟨rfl, rfl, rfl, rfl, rfl, rfl, trivial⟩⟩
    trivial) ?_
  refine all_cons (by
    refine ⟨?_, ?_⟩
    ·intro _nm ρ σm hJ hoff hdep
     have e5 := look_off (N := 16) (hoff 5 rfl) rfl
     obtain ⟨H, m⟩ := id hJ
     have hc15 := H.cells 2 rfl
     exact dp_v (v := (.agg #[(I y_1.1), (Sl ay_1_1 y_1.2.1 cy_1_1), (I y_1.2.2)])) wn (rv_load (cs := [(I y_1.1), (Sl ay_1_1 y_1.2.1 cy_1_1), (I y_1.2.2)]) Try.underlying41 rfl ti41 e5 rfl hc15) rfl hJ
    refine ⟨?_, ?_⟩
    ·intro _nm ρ σm hJ hoff hdep
     have e5 := look_off (N := 16) (hoff 5 rfl) rfl
     obtain ⟨H, m⟩ := id hJ
     have hc15 := H.cells 2 rfl
     exact dp_v (v := (.agg #[(I y_1.1), (Sl ay_1_1 y_1.2.1 cy_1_1), (I y_1.2.2)])) wn (rv_load (cs := [(I y_1.1), (Sl ay_1_1 y_1.2.1 cy_1_1), (I y_1.2.2)]) Try.underlying41 rfl ti41 e5 rfl hc15) rfl hJ
    trivial) ?_
  refine all_cons (by
    refine ⟨?_, ?_⟩
    ·intro _nm ρ σm hJ hoff hdep
     have e2 := look_off (N := 16) (hoff 2 rfl) rfl
     obtain ⟨H, m⟩ := id hJ
     replace hc16 := (Hs.ro 6 rfl).hmd hxp_2 hip_2 (k := 0) (by decide) hc16 m
     exact dp_v (v := (I p_2)) wn (rv_load1 Try.underlying3 rfl e2 hc16) rfl hJ
    refine ⟨?_, ?_⟩
    ·intro _nm ρ σm hJ hoff hdep
     have e2 := look_off (N := 16) (hoff 2 rfl) rfl
     obtain ⟨H, m⟩ := id hJ
     replace hc16 := (Hs.ro 6 rfl).hmd hxp_2 hip_2 (k := 0) (by decide) hc16 m
     exact dp_v (v := (I p_2)) wn (rv_load1 Try.underlying3 rfl e2 hc16) rfl hJ
    trivial) ?_
  refine all_cons (by
    refine ⟨?_, ?_⟩
    ·intro _nm ρ σm hJ hoff hdep
     have e3 := look_off (N := 16) (hoff 3 rfl) rfl
     obtain ⟨H, m⟩ := id hJ
     replace hc21 := (Hs.ro 7 rfl).hmd hxp_3 hip_3 (k := 0) (by decide) hc21 m
     exact dp_v (v := (Sl a17 p_3 c18)) wn (rv_load1 Try.underlying24 rfl e3 hc21) rfl hJ
    refine ⟨?_, ?_⟩
    ·intro _nm ρ σm hJ hoff hdep
     have e3 := look_off (N := 16) (hoff 3 rfl) rfl
     obtain ⟨H, m⟩ := id hJ
     replace hc21 := (Hs.ro 7 rfl).hmd hxp_3 hip_3 (k := 0) (by decide) hc21 m
     exact dp_v (v := (Sl a17 p_3 c18)) wn (rv_load1 Try.underlying24 rfl e3 hc21) rfl hJ
    trivial) ?_
  exact all_nil
 ·intro _nm ρ σ22 hJ hoff hrel
  have e10 := hrel 3 rfl 10 rfl
  have e11 := hrel 4 rfl 11 rfl
  have e12 := hrel 5 rfl 12 rfl
  have e13 := hrel 6 rfl 13 rfl
  obtain ⟨H, -⟩ := (show Hp S0 σ0 σ22 [Ch.ro 0 (Sl a17 p_3 c18) p_3, Ch.ro 0 (Sl a7 p_3 c8) p_3, Ch.bx n0 b3 0 [(I y_1.1), (Sl ay_1_1 y_1.2.1 cy_1_1), (I y_1.2.2)] [] [], Ch.bx n0 b1 0 [(I x_0.1), (Sl ax_0_1 x_0.2.1 cx_0_1), (I x_0.2.2)] [] [], Ch.ro 0 (Sl ax_0_1 x_0.2.1 cx_0_1) x_0.2.1, Ch.ro 0 (Sl ay_1_1 y_1.2.1 cy_1_1) y_1.2.1, Ch.ro 0 (Sl (some ⟨bp_2, op_2, none⟩) ([p_2] : List Int) 1) ([p_2] : List Int), Ch.ro 0 (Sl (some ⟨bp_3, op_3, none⟩) ([p_3] : List (List Int)) 1) ([p_3] : List (List Int))] ∧ Md (cov []) σ4 σ22 from hJ)
  clear hJ Hs
  rw [fr_lookL (L := [(10, (.agg #[(I r12.1), (I r12.2)])), (11, (.agg #[(I y_1.1), (Sl ay_1_1 y_1.2.1 cy_1_1), (I y_1.2.2)])), (12, (I p_2)), (13, (Sl a17 p_3 c18))]) ⟨e10, e11, e12, e13, trivial⟩]
  clear hoff hrel e10 e11 e12 e13
  obtain ⟨r23, hx24, h'⟩ := bind_some h
  clear h
  have h := h'; clear h'
  have hc25 := c_impl_hitOf (ax_0_1 := ay_1_1) (cx_0_1 := cy_1_1) (aat_2 := a17) (cat_2 := c18) hx24
  refine st_call (cx_call hc25 (ent_f hc25.fn rfl) hn0 (show Hp S0 σ0 _ ([Ch.ro 0 (Sl ay_1_1 y_1.2.1 cy_1_1) y_1.2.1, Ch.ro 0 (Sl a17 p_3 c18) p_3] ++ [Ch.ro 0 (Sl a17 p_3 c18) p_3, Ch.ro 0 (Sl a7 p_3 c8) p_3, Ch.bx n0 b3 0 [(I y_1.1), (Sl ay_1_1 y_1.2.1 cy_1_1), (I y_1.2.2)] [] [], Ch.bx n0 b1 0 [(I x_0.1), (Sl ax_0_1 x_0.2.1 cx_0_1), (I x_0.2.2)] [] [], Ch.ro 0 (Sl ax_0_1 x_0.2.1 cx_0_1) x_0.2.1, Ch.ro 0 (Sl ay_1_1 y_1.2.1 cy_1_1) y_1.2.1, Ch.ro 0 (Sl (some ⟨bp_2, op_2, none⟩) ([p_2] : List Int) 1) ([p_2] : List Int), Ch.ro 0 (Sl (some ⟨bp_3, op_3, none⟩) ([p_3] : List (List Int)) 1) ([p_3] : List (List Int))]) from (H.sel' [5, 0, 0, 1, 2, 3, 4, 5, 6, 7] rfl rfl))) wn ?_
  rintro _ σ26 ⟨_, ⟨rfl, rfl⟩, H, -⟩
  replace H : Hp S0 σ0 σ26 [Ch.ro 0 (Sl a17 p_3 c18) p_3, Ch.ro 0 (Sl a7 p_3 c8) p_3, Ch.bx n0 b3 0 [(I y_1.1), (Sl ay_1_1 y_1.2.1 cy_1_1), (I y_1.2.2)] [] [], Ch.bx n0 b1 0 [(I x_0.1), (Sl ax_0_1 x_0.2.1 cx_0_1), (I x_0.2.2)] [] [], Ch.ro 0 (Sl ax_0_1 x_0.2.1 cx_0_1) x_0.2.1, Ch.ro 0 (Sl ay_1_1 y_1.2.1 cy_1_1) y_1.2.1, Ch.ro 0 (Sl (some ⟨bp_2, op_2, none⟩) ([p_2] : List Int) 1) ([p_2] : List Int), Ch.ro 0 (Sl (some ⟨bp_3, op_3, none⟩) ([p_3] : List (List Int)) 1) ([p_3] : List (List Int))] := H
  replace H : Hp S0 σ0 σ26 [] := H.sel' [] rfl rfl
  obtain ⟨r27, hx28, h'⟩ := bind_some h
  clear h
  have h := h'; clear h'
  have hc29 := c_impl_compareHits hx28
  refine st_call (cx_call hc29 (ent_f hc29.fn rfl) hn0 (show Hp S0 σ0 _ ([] ++ []) from (H.sel' [] rfl rfl))) wn ?_
  rintro _ σ30 ⟨_, ⟨rfl, rfl⟩, H, -⟩
  replace H : Hp S0 σ0 σ30 [] := H
  refine st (v := (I r27)) (rv_assign rfl) ?_
  refine w_end ?_
  refine q_then ?_
  refine c_ret ?_
  obtain rfl := Option.some.inj h
  exact fin_ret (v := (I r27)) (results_ok Try.results97 (res_tmp (v := (I r27)) rfl res_nil) rfl) ⟨rfl, rfl⟩ (H.sel' [] rfl rfl)

def sort96_ren : Go.Shelf.Ren := ⟨fun | 6 => 96 | 15 => 114 | 14 => 113 | 28 => 128 | 29 => 129 | 20 => 120 | 21 => 121 | 22 => 122 | 23 => 123 | 24 => 124 | 25 => 125 | 26 => 126 | 27 => 127 | 46 => 132 | 47 => 133 | 48 => 134 | 49 => 135 | 50 => 136 | 57 => 137 | n => n, fun | 22 => 23 | 24 => 41 | 25 => 116 | 3 => 3 | 39 => 133 | 0 => 0 | 53 => 147 | 55 => 149 | 4 => 4 | 46 => 140 | 45 => 139 | 50 => 144 | 5 => 5 | 9 => 9 | 66 => 151 | 70 => 155 | 76 => 157 | 77 => 158 | n => n, fun | n => n⟩
theorem sort96 : Go.Proofs.SlLaysF0.n6 Try.prog sort96_ren := {
  mixed := by kernel_rfl
  f6 := ⟨Try.f96.name, by decide, Try.func96.trans (congrArg some (by kernel_rfl))⟩
  f14 := ⟨Try.f113.name, by decide, Try.func113.trans (congrArg some (by kernel_rfl))⟩
  f15 := Try.func114.trans (congrArg some (by kernel_rfl))
  f20 := ⟨Try.f120.name, by decide, Try.func120.trans (congrArg some (by kernel_rfl))⟩
  f21 := ⟨Try.f121.name, by decide, Try.func121.trans (congrArg some (by kernel_rfl))⟩
  f22 := ⟨Try.f122.name, by decide, Try.func122.trans (congrArg some (by kernel_rfl))⟩
  f23 := ⟨Try.f123.name, by decide, Try.func123.trans (congrArg some (by kernel_rfl))⟩
  f24 := ⟨Try.f124.name, by decide, Try.func124.trans (congrArg some (by kernel_rfl))⟩
  f25 := ⟨Try.f125.name, by decide, Try.func125.trans (congrArg some (by kernel_rfl))⟩
  f26 := ⟨Try.f126.name, by decide, Try.func126.trans (congrArg some (by kernel_rfl))⟩
  f27 := ⟨Try.f127.name, by decide, Try.func127.trans (congrArg some (by kernel_rfl))⟩
  f28 := Try.func128.trans (congrArg some (by kernel_rfl))
  f29 := Try.func129.trans (congrArg some (by kernel_rfl))
  f46 := ⟨Try.f132.name, by decide, Try.func132.trans (congrArg some (by kernel_rfl))⟩
  f47 := Try.func133.trans (congrArg some (by kernel_rfl))
  f48 := Try.func134.trans (congrArg some (by kernel_rfl))
  f49 := ⟨Try.f135.name, by decide, Try.func135.trans (congrArg some (by kernel_rfl))⟩
  f50 := ⟨Try.f136.name, by decide, Try.func136.trans (congrArg some (by kernel_rfl))⟩
  f57 := ⟨Try.f137.name, by decide, Try.func137.trans (congrArg some (by kernel_rfl))⟩
  t0 := Try.underlying0
  a0 := Try.isAgg0
  z0 := Try.sizeOf0
  v0 := Try.zeroValue0
  t3 := Try.underlying3
  a3 := Try.isAgg3
  z3 := Try.sizeOf3
  v3 := Try.zeroValue3
  t4 := Try.underlying4
  a4 := Try.isAgg4
  z4 := Try.sizeOf4
  v4 := Try.zeroValue4
  t5 := Try.underlying5
  a5 := Try.isAgg5
  z5 := Try.sizeOf5
  v5 := Try.zeroValue5
  t9 := Try.underlying9
  a9 := Try.isAgg9
  z9 := Try.sizeOf9
  v9 := Try.zeroValue9
  t22 := Try.underlying23
  a22 := Try.isAgg23
  z22 := Try.sizeOf23
  v22 := Try.zeroValue23
  t25 := Try.underlying116
  a25 := Try.isAgg116
  z25 := Try.sizeOf116
  v25 := Try.zeroValue116
  t39 := Try.underlying133
  a39 := Try.isAgg133
  z39 := Try.sizeOf133
  v39 := Try.zeroValue133
  t45 := Try.underlying139
  a45 := Try.isAgg139
  z45 := Try.sizeOf139
  v45 := Try.zeroValue139
  t46 := Try.underlying140
  a46 := Try.isAgg140
  z46 := Try.sizeOf140
  v46 := Try.zeroValue140
  t50 := Try.underlying144
  a50 := Try.isAgg144
  z50 := Try.sizeOf144
  v50 := Try.zeroValue144
  t53 := Try.underlying147
  a53 := Try.isAgg147
  z53 := Try.sizeOf147
  v53 := Try.zeroValue147
  t55 := Try.underlying149
  a55 := Try.isAgg149
  z55 := Try.sizeOf149
  v55 := Try.zeroValue149
  t66 := Try.underlying151
  a66 := Try.isAgg151
  z66 := Try.sizeOf151
  v66 := Try.zeroValue151
  t70 := Try.underlying155
  a70 := Try.isAgg155
  z70 := Try.sizeOf155
  v70 := Try.zeroValue155
  t76 := Try.underlying157
  a76 := Try.isAgg157
  z76 := Try.sizeOf157
  v76 := Try.zeroValue157
  t77 := Try.underlying158
  a77 := Try.isAgg158
  z77 := Try.sizeOf158
  v77 := Try.zeroValue158 }

theorem c_slices_SortFunc_impl_Item_impl_Item__impl_sortByDistance_1 {x_0 : List (Int × (List Int) × Int)} {cmp_1_0 : Int} {cmp_1_1 : List Int} {ax_0 : Option Addr} {cx_0 : Nat} {locmp_1_0 bcmp_1_0 ocmp_1_0 : Nat} {precmp_1_0 sufcmp_1_0 : List Value} {acmp_1_1 : Option Addr} {ccmp_1_1 : Nat} {locmp_1_1 bcmp_1_1 ocmp_1_1 : Nat} {precmp_1_1 sufcmp_1_1 : List Value} {r : List (Int × (List Int) × Int)} (h : M.slices_SortFunc_impl_Item_impl_Item__impl_sortByDistance_1 x_0 cmp_1_0 cmp_1_1 = some r) :
    Cal2 Try.prog 96 [(Sl ax_0 x_0 cx_0), (.func (.func 97) #[] #[(pt bcmp_1_0 ocmp_1_0), (pt bcmp_1_1 ocmp_1_1)])] [Ch.own 0 0 (Sl ax_0 x_0 cx_0) x_0, Ch.bx locmp_1_0 bcmp_1_0 ocmp_1_0 [(I cmp_1_0)] precmp_1_0 sufcmp_1_0, Ch.bx locmp_1_1 bcmp_1_1 ocmp_1_1 [(Sl acmp_1_1 cmp_1_1 ccmp_1_1)] precmp_1_1 sufcmp_1_1, Ch.ro 0 (Sl acmp_1_1 cmp_1_1 ccmp_1_1) cmp_1_1] (fun n0 v L => v = (.tuple #[]) ∧ L = [Ch.own 0 0 (Sl ax_0 r cx_0) r, Ch.bx locmp_1_0 bcmp_1_0 ocmp_1_0 [(I cmp_1_0)] precmp_1_0 sufcmp_1_0, Ch.bx locmp_1_1 bcmp_1_1 ocmp_1_1 [(Sl acmp_1_1 cmp_1_1 ccmp_1_1)] precmp_1_1 sufcmp_1_1] ∧ r.length = x_0.length) := by
 obtain ⟨hn, hs, hL, rfl⟩ := sortD_some h
 have hE : ∀ σ σ' : St, Ext σ σ' → (RS 0 σ (Sl (some ⟨bcmp_1_0, ocmp_1_0, none⟩) ([cmp_1_0] : List Int) 1) ([cmp_1_0] : List Int) ∧ RS 0 σ (Sl (some ⟨bcmp_1_1, ocmp_1_1, none⟩) ([cmp_1_1] : List (List Int)) 1) ([cmp_1_1] : List (List Int)) ∧ RS 0 σ (Sl acmp_1_1 cmp_1_1 ccmp_1_1) cmp_1_1) → (RS 0 σ' (Sl (some ⟨bcmp_1_0, ocmp_1_0, none⟩) ([cmp_1_0] : List Int) 1) ([cmp_1_0] : List Int) ∧ RS 0 σ' (Sl (some ⟨bcmp_1_1, ocmp_1_1, none⟩) ([cmp_1_1] : List (List Int)) 1) ([cmp_1_1] : List (List Int)) ∧ RS 0 σ' (Sl acmp_1_1 cmp_1_1 ccmp_1_1) cmp_1_1) := fun σ σ' hE hp => ⟨hp.1.ext hE, hp.2.1.ext hE, hp.2.2.ext hE⟩
 have hB : ∀ σ : St, allAs σ [Ch.bx locmp_1_0 bcmp_1_0 ocmp_1_0 [(I cmp_1_0)] precmp_1_0 sufcmp_1_0, Ch.bx locmp_1_1 bcmp_1_1 ocmp_1_1 [(Sl acmp_1_1 cmp_1_1 ccmp_1_1)] precmp_1_1 sufcmp_1_1, Ch.ro 0 (Sl acmp_1_1 cmp_1_1 ccmp_1_1) cmp_1_1] → apart [Ch.bx locmp_1_0 bcmp_1_0 ocmp_1_0 [(I cmp_1_0)] precmp_1_0 sufcmp_1_0, Ch.bx locmp_1_1 bcmp_1_1 ocmp_1_1 [(Sl acmp_1_1 cmp_1_1 ccmp_1_1)] precmp_1_1 sufcmp_1_1, Ch.ro 0 (Sl acmp_1_1 cmp_1_1 ccmp_1_1) cmp_1_1] → ∃ σp, Pb (cov [Ch.bx locmp_1_0 bcmp_1_0 ocmp_1_0 [(I cmp_1_0)] precmp_1_0 sufcmp_1_0, Ch.bx locmp_1_1 bcmp_1_1 ocmp_1_1 [(Sl acmp_1_1 cmp_1_1 ccmp_1_1)] precmp_1_1 sufcmp_1_1, Ch.ro 0 (Sl acmp_1_1 cmp_1_1 ccmp_1_1) cmp_1_1]) σ σp ∧ (RS 0 σp (Sl (some ⟨bcmp_1_0, ocmp_1_0, none⟩) ([cmp_1_0] : List Int) 1) ([cmp_1_0] : List Int) ∧ RS 0 σp (Sl (some ⟨bcmp_1_1, ocmp_1_1, none⟩) ([cmp_1_1] : List (List Int)) 1) ([cmp_1_1] : List (List Int)) ∧ RS 0 σp (Sl acmp_1_1 cmp_1_1 ccmp_1_1) cmp_1_1) := by
     intro σ hA hP
     obtain ⟨σ0, p0, r0, a0⟩ := pubBox (α := Int) (x := cmp_1_0) hA hP (by exact rfl)
     obtain ⟨σ1, p1, r1, a1⟩ := pubBox (α := List Int) (x := cmp_1_1) a0 hP.2 (by exact ⟨_, rfl, (a0.2.1 : RS 0 σ0 (Sl acmp_1_1 cmp_1_1 ccmp_1_1) cmp_1_1)⟩)
     exact ⟨σ1, (p0.trans p1).mono (fun i h => h.elim (fun h => .inl h) (fun h => .inr (.inl h))), (r0.ext p1.md.ext), r1, a1.1⟩
 have hC : ∀ σ : St, (RS 0 σ (Sl (some ⟨bcmp_1_0, ocmp_1_0, none⟩) ([cmp_1_0] : List Int) 1) ([cmp_1_0] : List Int) ∧ RS 0 σ (Sl (some ⟨bcmp_1_1, ocmp_1_1, none⟩) ([cmp_1_1] : List (List Int)) 1) ([cmp_1_1] : List (List Int)) ∧ RS 0 σ (Sl acmp_1_1 cmp_1_1 ccmp_1_1) cmp_1_1) → ∀ x ∈ x_0, ∀ y ∈ x_0, ∀ cx cy, Rp.rp 0 σ cx x → Rp.rp 0 σ cy y → Calls Try.prog 97 ([Value.agg cx.toArray, Value.agg cy.toArray] ++ [(pt bcmp_1_0 ocmp_1_0), (pt bcmp_1_1 ocmp_1_1)]).toArray σ.w fun e w' => e = .returned (I ((M.impl_sortByDistance_1__p3__p24 (x.1, x.2.1, x.2.2) (y.1, y.2.1, y.2.2) cmp_1_0 cmp_1_1).getD 0)) ∧ ∃ q os, w' = Go.Sort.grow (σ.w.drewN q) os := by
     intro σ hp x hx y hy cx cy rx ry
     obtain ⟨r, hr⟩ := hs x hx y hy
     obtain ⟨_, _, rfl, rfl, ⟨_, _, rfl, ⟨_, rfl, hRx_1⟩, rfl⟩⟩ := rx
     obtain ⟨_, _, rfl, rfl, ⟨_, _, rfl, ⟨_, rfl, hRy_1⟩, rfl⟩⟩ := ry
     obtain ⟨ax_1, cx_1, rfl⟩ := hRx_1.isSl
     obtain ⟨ay_1, cy_1, rfl⟩ := hRy_1.isSl
     have hc := c_impl_sortByDistance_1__p3__p24 (ax_0_1 := ax_1) (cx_0_1 := cx_1) (ay_1_1 := ay_1) (cy_1_1 := cy_1) (bp_2 := bcmp_1_0) (op_2 := ocmp_1_0) (bp_3 := bcmp_1_1) (op_3 := ocmp_1_1) hr
     refine (hc.runs σ 0 (Nat.zero_le _) (Hp.begin ⟨hRx_1, ⟨hRy_1, ⟨hp.1, ⟨hp.2.1, trivial⟩⟩⟩⟩ ⟨fun _ h => h.elim, ⟨fun _ h => h.elim, ⟨fun _ h => h.elim, ⟨fun _ h => h.elim, trivial⟩⟩⟩⟩)).mono ?_
     rintro e w' ⟨v, σ', L', rfl, rfl, ⟨rfl, -⟩, H⟩
     exact ⟨by rw [hr]; rfl, (H.md.mono fun i => fun h => h.elim (fun h => h.elim) (fun h => h.elim (fun h => h.elim) (fun h => h.elim (fun h => h.elim) (fun h => h.elim (fun h => h.elim) (fun h => h))))).grown⟩
 refine (sort_cal2 (α := (Int × (List Int) × Int)) sort96 Try.isAgg41 Try.sizeOf41 (xs := x_0) (a := ax_0) (c := cx_0) (g := 97) (cb := [(pt bcmp_1_0 ocmp_1_0), (pt bcmp_1_1 ocmp_1_1)]) (B := [Ch.bx locmp_1_0 bcmp_1_0 ocmp_1_0 [(I cmp_1_0)] precmp_1_0 sufcmp_1_0, Ch.bx locmp_1_1 bcmp_1_1 ocmp_1_1 [(Sl acmp_1_1 cmp_1_1 ccmp_1_1)] precmp_1_1 sufcmp_1_1, Ch.ro 0 (Sl acmp_1_1 cmp_1_1 ccmp_1_1) cmp_1_1]) (fun x y => (M.impl_sortByDistance_1__p3__p24 (x.1, x.2.1, x.2.2) (y.1, y.2.1, y.2.2) cmp_1_0 cmp_1_1).getD 0) hL hn ⟨_, _, Try.func97, rfl, rfl⟩ _ hE hB hC).conv ?_
 rintro m v L ⟨rfl, rfl⟩
 exact ⟨_, ⟨rfl, rfl, sortL_len⟩, fun H => H.sel' [0, 1, 2] rfl rfl⟩

end Go.Vs
