/- The functions compute what their models say. -/
import Derived.Test.YtdjjikmfkejdiadKProbeCostMoreC4
set_option linter.unusedVariables false
set_option linter.unusedSimpArgs false
set_option maxRecDepth 20000
namespace Go.Vs
open Go Go.Proofs
attribute [local irreducible] Code.wp Code.wpIn wpList wpListIn wpQuiet Calls CallsIn

theorem c_spec_centreOf {centres_0 : List (List Int)} {at_1 : List Int} {acentres_0 : Option Addr} {ccentres_0 : Nat} {aat_1 : Option Addr} {cat_1 : Nat} {r : Int} (h : M.spec_centreOf centres_0 at_1 = some r) :
    Cal2 Try.prog 97 [(Sl acentres_0 centres_0 ccentres_0), (Sl aat_1 at_1 cat_1)] [Ch.ro 0 (Sl acentres_0 centres_0 ccentres_0) centres_0, Ch.ro 0 (Sl aat_1 at_1 cat_1) at_1] (fun n0 v L => v = (I r) ∧ L = []) := by
 refine cal2 (n := 28) Try.func97 rfl rfl rfl rfl ?_
 intro S0 σ0 n0 hn0 H
 unfold M.spec_centreOf at h
 refine c_seq ?_
 refine rg ?_
 refine st (v := (I 0)) (rv_assign rfl) ?_
 refine w_end ?_
 refine q_then ?_
 refine c_seq ?_
 refine rg ?_
 refine st (v := (I 0)) (rv_assign rfl) ?_
 refine w_end ?_
 refine q_then ?_
 refine c_seq ?_
 refine c_seq ?_
 refine rg ?_
 refine st (v := (I 1)) (rv_assign rfl) ?_
 refine w_end ?_
 refine q_then ?_
 obtain ⟨o1, hj, h'⟩ := bind_some h
 clear h
 refine c_cut (fun e a w => e = .normal ∧ ∃ (ρ : Nat → Value) (σ : St), a = fr 28 (updL ρ [(5, (I o1))]) ∧ w = σ.w ∧ Hp S0 σ0 σ []) ?_ ?_
 ·clear h'
  rename _ = some o1 => h
  refine c_blk ?_
  refine wp_loopM _ h (fun s2 a w => ∃ (ρ : Nat → Value) (σ : St), a = fr 28 (updL ρ [(0, (Sl acentres_0 centres_0 ccentres_0)), (1, (Sl aat_1 at_1 cat_1)), (5, (I s2.1)), (6, (I s2.2))]) ∧ w = σ.w ∧ Hp S0 σ0 σ [Ch.ro 0 (Sl acentres_0 centres_0 ccentres_0) centres_0, Ch.ro 0 (Sl aat_1 at_1 cat_1) at_1]) ⟨_, σ0, fr_join ⟨rfl, rfl, rfl, rfl, trivial⟩, rfl, H.sel' [0, 1] rfl rfl⟩ ?_
  clear h H
  rintro s2 a w o ⟨ρ, σ3, rfl, rfl, H⟩ h hres
  refine c_seq ?_
  refine c_seq ?_
  refine rg ?_
  refine st (v := (I s2.2)) (rv_move rfl) ?_
  refine st (v := (Sl acentres_0 centres_0 ccentres_0)) (rv_move rfl) ?_
  refine st (v := (I (centres_0.length : Int))) (rv_len Try.underlying52 rfl) ?_
  refine st (v := (B (decide (s2.2 < (centres_0.length : Int))))) (rv_lss (a := s2.2) (b := (centres_0.length : Int)) rfl rfl) ?_
  refine w_end ?_
  refine q_then ?_
  refine cd_cond (decide (s2.2 < (centres_0.length : Int))) rfl (fun hb4 => ?_) (fun hb4 => ?_)
  ·replace h := bif_t hb4 h
   refine c_skip ?_
   refine q_then ?_
   refine c_seq ?_
   obtain ⟨o5, hj, h'⟩ := bind_some h
   clear h
   refine c_cut (fun e a w => e = .normal ∧ ∃ (ρ : Nat → Value) (σ : St), a = fr 28 (updL ρ [(0, (Sl acentres_0 centres_0 ccentres_0)), (1, (Sl aat_1 at_1 cat_1)), (5, (I o5)), (6, (I s2.2))]) ∧ w = σ.w ∧ Hp S0 σ0 σ [Ch.ro 0 (Sl acentres_0 centres_0 ccentres_0) centres_0, Ch.ro 0 (Sl aat_1 at_1 cat_1) at_1]) ?_ ?_
   ·clear h'
    rename _ = some o5 => h
    refine c_blk ?_
    refine c_seq ?_
    obtain ⟨x6, hx7, h'⟩ := bind_some h
    clear h
    have h := h'; clear h'
    obtain ⟨b9, o10, hi8, -⟩ := (H.ro 0 rfl).ix hx7
    obtain ⟨v14, hc15, hR13⟩ := ((H.ro 0 rfl).at hx7 hi8).slice
    obtain ⟨a11, c12, rfl⟩ := hR13.isSl
    replace H := H.add (d := Ch.ro 0 (Sl a11 x6 c12) x6) hR13 (fun _ h => h)
    clear hR13
    obtain ⟨r16, hx17, h'⟩ := bind_some h
    clear h
    have h := h'; clear h'
    have hc18 := c_spec_dist (aa_1 := a11) (ca_1 := c12) (ab_2 := aat_1) (cb_2 := cat_1) hx17
    obtain ⟨x19, hx20, h'⟩ := bind_some h
    clear h
    have h := h'; clear h'
    obtain ⟨b22, o23, hi21, -⟩ := (H.ro 1 rfl).ix hx20
    obtain ⟨v27, hc28, hR26⟩ := ((H.ro 1 rfl).at hx20 hi21).slice
    obtain ⟨a24, c25, rfl⟩ := hR26.isSl
    replace H := H.add (d := Ch.ro 0 (Sl a24 x19 c25) x19) hR26 (fun _ h => h)
    clear hR26
    have Hs := H
    refine rg2 (σ := σ3) (Nm := Unit) 11 [5] [[false], [true]] [[(0, 0)], [(0, 0)], [(0, 0)], [(0, 0)], [(0, 0)], [(0, 1)], [(0, 0), (1, 1)], [(0, 0), (1, 1)], [(0, 0), (1, 1)], [(0, 0), (1, 1)], [(0, 0), (1, 1)]] 1 [fun _ => fun σm => Hp S0 σ0 σm [Ch.ro 0 (Sl a24 x19 c25) x19, Ch.ro 0 (Sl a11 x6 c12) x6, Ch.ro 0 (Sl acentres_0 centres_0 ccentres_0) centres_0, Ch.ro 0 (Sl aat_1 at_1 cat_1) at_1] ∧ Md (cov []) σ3 σm, fun _ => fun σm => Hp S0 σ0 σm [Ch.ro 0 (Sl a24 x19 c25) x19, Ch.ro 0 (Sl a11 x6 c12) x6, Ch.ro 0 (Sl acentres_0 centres_0 ccentres_0) centres_0, Ch.ro 0 (Sl aat_1 at_1 cat_1) at_1] ∧ Md (cov []) σ3 σm] [fun _ => (Sl acentres_0 centres_0 ccentres_0), fun _ => (I s2.2), fun _ => (pt b9 o10), fun _ => (Sl a11 x6 c12), fun _ => (Sl aat_1 at_1 cat_1), fun _ => (I r16), fun _ => (Sl acentres_0 centres_0 ccentres_0), fun _ => (I s2.1), fun _ => (pt b22 o23), fun _ => (Sl a24 x19 c25), fun _ => (Sl aat_1 at_1 cat_1)] () (by kernel_rfl) (by kernel_rfl) ?_ ?_ ?_
    ·intro σm m0
     exact ⟨H.grow (m0.mono fun _ h => h.elim), m0⟩
    ·refine ac rfl (by
       intro k _nm ρ σm hJ hoff hdep
       have e0 := look_off (N := 28) (hoff 0 rfl) rfl
       exact dp_v (v := (Sl acentres_0 centres_0 ccentres_0)) wn (rv_move e0) rfl hJ) ?_
     refine ac rfl (by
       intro k _nm ρ σm hJ hoff hdep
       have e6 := look_off (N := 28) (hoff 6 rfl) rfl
       exact dp_v (v := (I s2.2)) wn (rv_move e6) rfl hJ) ?_
     refine ac rfl (by
       intro k _nm ρ σm hJ hoff hdep
       have e13 := hdep 0 rfl rfl 13 rfl
       have e14 := hdep 1 rfl rfl 14 rfl
       exact dp_v (v := (pt b9 o10)) wn (rv_ix Try.underlying52 ti24 e13 e14 hi8) rfl hJ) ?_
     refine all_cons (by
       refine ⟨?_, ?_⟩
       ·intro _nm ρ σm hJ hoff hdep
        have e15 := hdep 2 rfl rfl 15 rfl
        obtain ⟨H, m⟩ := id hJ
        replace hc15 := (Hs.ro 2 rfl).hmd hx7 hi8 (k := 0) (by decide) hc15 m
        exact dp_v (v := (Sl a11 x6 c12)) wn (rv_load1 Try.underlying24 rfl e15 hc15) rfl hJ
       trivial) ?_
     refine ac rfl (by
       intro k _nm ρ σm hJ hoff hdep
       have e1 := look_off (N := 28) (hoff 1 rfl) rfl
       exact dp_v (v := (Sl aat_1 at_1 cat_1)) wn (rv_move e1) rfl hJ) ?_
     refine all_cons (by
       refine ⟨?_, ?_⟩
       ·intro _nm ρ σm hJ hoff hdep
        have e16 : look 28 ρ 16 = (Sl a11 x6 c12) := hdep 3 rfl rfl 16 rfl
        have e17 : look 28 ρ 17 = (Sl aat_1 at_1 cat_1) := hdep 4 rfl rfl 17 rfl
        obtain ⟨H, m⟩ := id hJ
        refine dp_cx wn (cx_call hc18 (ent_f hc18.fn (by show [(I 3), look 28 ρ 16, look 28 ρ 17] = _; rw [e16, e17])) hn0 (show Hp S0 σ0 _ ([Ch.ro 0 (Sl a11 x6 c12) x6, Ch.ro 0 (Sl aat_1 at_1 cat_1) at_1] ++ [Ch.ro 0 (Sl a24 x19 c25) x19, Ch.ro 0 (Sl a11 x6 c12) x6, Ch.ro 0 (Sl acentres_0 centres_0 ccentres_0) centres_0, Ch.ro 0 (Sl aat_1 at_1 cat_1) at_1]) from (H.sel' [1, 3, 0, 1, 2, 3] rfl rfl))) ?_
        rintro _ σq ⟨_, ⟨rfl, rfl⟩, H2, m2⟩
        exact ⟨_, (), rfl, rfl, ⟨H2.sel' [0, 1, 2, 3] rfl rfl, m.comp0 (m2.mono (fun i h => by simp [cov, Ch.ro] at h))⟩, stab [0, 1, 2, 3, 4, 6, 7, 8, 9, 10] (by kernel_rfl) ⟨rfl, rfl, rfl, rfl, rfl, rfl, rfl, rfl, rfl, rfl, trivial⟩⟩
       trivial) ?_
     refine ac rfl (by
       intro k _nm ρ σm hJ hoff hdep
       have e0 := look_off (N := 28) (hoff 0 rfl) rfl
       exact dp_v (v := (Sl acentres_0 centres_0 ccentres_0)) wn (rv_move e0) rfl hJ) ?_
     refine ac rfl (by
       intro k _nm ρ σm hJ hoff hdep
       have e5 := look_off (N := 28) (hoff 5 rfl) rfl
       exact dp_v (v := (I s2.1)) wn (rv_move e5) rfl hJ) ?_
     refine ac rfl (by
       intro k _nm ρ σm hJ hoff hdep
       have e19 := hdep 6 rfl rfl 19 rfl
       have e20 := hdep 7 rfl rfl 20 rfl
       exact dp_v (v := (pt b22 o23)) wn (rv_ix Try.underlying52 ti24 e19 e20 hi21) rfl hJ) ?_
     refine all_cons (by
       refine ⟨?_, ?_⟩
       ·intro _nm ρ σm hJ hoff hdep
        have e21 := hdep 8 rfl rfl 21 rfl
        obtain ⟨H, m⟩ := id hJ
        replace hc28 := (Hs.ro 2 rfl).hmd hx20 hi21 (k := 0) (by decide) hc28 m
        exact dp_v (v := (Sl a24 x19 c25)) wn (rv_load1 Try.underlying24 rfl e21 hc28) rfl hJ
       refine ⟨?_, ?_⟩
       ·intro _nm ρ σm hJ hoff hdep
        have e21 := hdep 8 rfl rfl 21 rfl
        obtain ⟨H, m⟩ := id hJ
        replace hc28 := (Hs.ro 2 rfl).hmd hx20 hi21 (k := 0) (by decide) hc28 m
        exact dp_v (v := (Sl a24 x19 c25)) wn (rv_load1 Try.underlying24 rfl e21 hc28) rfl hJ
       trivial) ?_
     refine ac rfl (by
       intro k _nm ρ σm hJ hoff hdep
       have e1 := look_off (N := 28) (hoff 1 rfl) rfl
       exact dp_v (v := (Sl aat_1 at_1 cat_1)) wn (rv_move e1) rfl hJ) ?_
     exact all_nil
    ·intro _nm ρ σ29 hJ hoff hrel
     have e0 := look_off (N := 28) (hoff 0 rfl) rfl
     have e1 := look_off (N := 28) (hoff 1 rfl) rfl
     have e5 := look_off (N := 28) (hoff 5 rfl) rfl
     have e6 := look_off (N := 28) (hoff 6 rfl) rfl
     have e18 := hrel 5 rfl 18 rfl
     have e22 := hrel 9 rfl 22 rfl
     have e23 := hrel 10 rfl 23 rfl
     obtain ⟨H, -⟩ := (show Hp S0 σ0 σ29 [Ch.ro 0 (Sl a24 x19 c25) x19, Ch.ro 0 (Sl a11 x6 c12) x6, Ch.ro 0 (Sl acentres_0 centres_0 ccentres_0) centres_0, Ch.ro 0 (Sl aat_1 at_1 cat_1) at_1] ∧ Md (cov []) σ3 σ29 from hJ)
     clear hJ Hs
     rw [fr_lookL (L := [(0, (Sl acentres_0 centres_0 ccentres_0)), (1, (Sl aat_1 at_1 cat_1)), (5, (I s2.1)), (6, (I s2.2)), (18, (I r16)), (22, (Sl a24 x19 c25)), (23, (Sl aat_1 at_1 cat_1))]) ⟨e0, e1, e5, e6, e18, e22, e23, trivial⟩]
     clear hoff hrel e0 e1 e5 e6 e18 e22 e23
     obtain ⟨r30, hx31, h'⟩ := bind_some h
     clear h
     have h := h'; clear h'
     have hc32 := c_spec_dist (aa_1 := a24) (ca_1 := c25) (ab_2 := aat_1) (cb_2 := cat_1) hx31
     refine st_call (cx_call hc32 (ent_f hc32.fn rfl) hn0 (show Hp S0 σ0 _ ([Ch.ro 0 (Sl a24 x19 c25) x19, Ch.ro 0 (Sl aat_1 at_1 cat_1) at_1] ++ [Ch.ro 0 (Sl a24 x19 c25) x19, Ch.ro 0 (Sl a11 x6 c12) x6, Ch.ro 0 (Sl acentres_0 centres_0 ccentres_0) centres_0, Ch.ro 0 (Sl aat_1 at_1 cat_1) at_1]) from (H.sel' [0, 3, 0, 1, 2, 3] rfl rfl))) wn ?_
     rintro _ σ33 ⟨_, ⟨rfl, rfl⟩, H, -⟩
     replace H : Hp S0 σ0 σ33 [Ch.ro 0 (Sl a24 x19 c25) x19, Ch.ro 0 (Sl a11 x6 c12) x6, Ch.ro 0 (Sl acentres_0 centres_0 ccentres_0) centres_0, Ch.ro 0 (Sl aat_1 at_1 cat_1) at_1] := H
     refine st (v := (B (decide (r16 < r30)))) (rv_lss (a := r16) (b := r30) rfl rfl) ?_
     refine w_end ?_
     refine q_then ?_
     refine cd_cond (decide (r16 < r30)) rfl (fun hb34 => ?_) (fun hb34 => ?_)
     ·replace h := bif_t hb34 h
      refine rg ?_
      refine st (v := (I s2.2)) (rv_move rfl) ?_
      refine st (v := (I s2.2)) (rv_assign rfl) ?_
      refine w_end ?_
      refine q_blk ?_
      obtain rfl := Option.some.inj h
      exact ⟨rfl, _, σ33, fr_join ⟨rfl, rfl, rfl, rfl, trivial⟩, rfl, H.sel' [2, 3] rfl rfl⟩
     ·replace h := bif_f hb34 h
      refine c_skip ?_
      refine q_blk ?_
      obtain rfl := Option.some.inj h
      exact ⟨rfl, _, σ33, fr_join ⟨rfl, rfl, rfl, rfl, trivial⟩, rfl, H.sel' [2, 3] rfl rfl⟩
   ·clear hj
    have h := h'
    clear h' H
    rintro e a w ⟨rfl, ρ, σ35, rfl, rfl, H⟩
    refine q_then ?_
    refine rg ?_
    refine st (v := (I s2.2)) (rv_move rfl) ?_
    refine st (v := (I (w64 (s2.2 + 1)))) (rv_add (a := s2.2) (b := 1) rfl rfl) ?_
    refine st (v := (I (w64 (s2.2 + 1)))) (rv_assign rfl) ?_
    refine w_end ?_
    refine q_then ?_
    obtain rfl := Option.some.inj h
    exact ⟨_, rfl, _, σ35, fr_join ⟨rfl, rfl, rfl, rfl, trivial⟩, rfl, H.sel' [0, 1] rfl rfl⟩
  ·replace h := bif_f hb4 h
   refine c_exit ?_
   refine q_then_x ?_
   refine q_then_x ?_
   refine q_blk_hit ?_
   obtain rfl := Option.some.inj h
   obtain rfl := hres _ rfl
   exact ⟨rfl, _, σ3, fr_join ⟨rfl, trivial⟩, rfl, H.sel' [] rfl rfl⟩
 ·clear hj
  have h := h'
  clear h' H
  rintro e a w ⟨rfl, ρ, σ36, rfl, rfl, H⟩
  refine q_then ?_
  refine c_seq ?_
  refine rg ?_
  refine st (v := (I o1)) (rv_move rfl) ?_
  refine st (v := (I o1)) (rv_assign rfl) ?_
  refine w_end ?_
  refine q_then ?_
  refine c_ret ?_
  obtain rfl := Option.some.inj h
  exact fin_ret (v := (I o1)) (results_ok Try.results97 (res_tmp (v := (I o1)) rfl res_nil) rfl) ⟨rfl, rfl⟩ (H.sel' [] rfl rfl)

theorem c_spec_nearer {a_0 : Int × Int} {b_1 : Int × Int}  {r : Bool} (h : M.spec_nearer a_0 b_1 = some r) :
    Cal2 Try.prog 155 [(.agg #[(I a_0.1), (I a_0.2)]), (.agg #[(I b_1.1), (I b_1.2)])] [] (fun n0 v L => v = (B r) ∧ L = []) := by
 refine cal2 (n := 24) Try.func155 rfl rfl rfl rfl ?_
 intro S0 σ0 n0 hn0 H
 unfold M.spec_nearer at h
 refine c_seq ?_
 refine rg ?_
 refine st_ex (ex_box (cs := [(I a_0.1), (I a_0.2)]) H hn0 rfl rfl) wn ?_
 rintro _ σ2 ⟨b1, rfl, H, -⟩
 refine st_ex (ex_box (cs := [(I b_1.1), (I b_1.2)]) H hn0 rfl rfl) wn ?_
 rintro _ σ4 ⟨b3, rfl, H, -⟩
 refine st (v := (B false)) (rv_assign rfl) ?_
 refine w_end ?_
 refine q_then ?_
 refine c_seq ?_
 refine rg ?_
 refine st (v := (pt b1 1)) (rv_fieldAddr (off := 1) (ft := 3) Try.underlying86 rfl ti3 rfl rfl) ?_
 have hc5 := H.cell (u := (I a_0.2)) (o' := 1) 1 1 rfl rfl rfl
 refine st (v := (I a_0.2)) (rv_load1 Try.underlying3 rfl rfl hc5) ?_
 refine st (v := (pt b3 1)) (rv_fieldAddr (off := 1) (ft := 3) Try.underlying86 rfl ti3 rfl rfl) ?_
 have hc6 := H.cell (u := (I b_1.2)) (o' := 1) 0 1 rfl rfl rfl
 refine st (v := (I b_1.2)) (rv_load1 Try.underlying3 rfl rfl hc6) ?_
 refine st (v := (B (decide (a_0.2 < b_1.2)))) (rv_lss (a := a_0.2) (b := b_1.2) rfl rfl) ?_
 refine st (v := (B (decide (a_0.2 < b_1.2)))) (rv_move rfl) ?_
 rcases Bool.eq_false_or_eq_true (decide (a_0.2 < b_1.2)) with hb7 | hb7
 ·replace h := bif_t hb7 h
  refine st_skip (congrArg some hb7) ?_
  refine st_skip (congrArg some hb7) ?_
  refine st_skip (congrArg some hb7) ?_
  refine st_skip (congrArg some hb7) ?_
  refine st_skip (congrArg some hb7) ?_
  refine st_skip (congrArg some hb7) ?_
  refine st_skip_u rfl ?_
  refine st_skip_u rfl ?_
  refine st_skip_u rfl ?_
  refine st_skip_u rfl ?_
  refine st_skip_u rfl ?_
  refine st_skip (congrArg some hb7) ?_
  refine st (v := (B true)) (rv_pick_t (congrArg B hb7) rfl) ?_
  refine st (v := (B true)) (rv_assign rfl) ?_
  refine w_end ?_
  refine q_then ?_
  refine c_ret ?_
  obtain rfl := Option.some.inj h
  exact fin_ret (v := (B true)) (results_ok Try.results155 (res_tmp (v := (B true)) rfl res_nil) rfl) ⟨rfl, rfl⟩ (H.sel' [] rfl rfl)
 ·replace h := bif_f hb7 h
  refine st_g (v := (pt b1 1)) (congrArg some hb7) (rv_fieldAddr (off := 1) (ft := 3) Try.underlying86 rfl ti3 rfl rfl) ?_
  have hc8 := H.cell (u := (I a_0.2)) (o' := 1) 1 1 rfl rfl rfl
  refine st_g (v := (I a_0.2)) (congrArg some hb7) (rv_load1 Try.underlying3 rfl rfl hc8) ?_
  refine st_g (v := (pt b3 1)) (congrArg some hb7) (rv_fieldAddr (off := 1) (ft := 3) Try.underlying86 rfl ti3 rfl rfl) ?_
  have hc9 := H.cell (u := (I b_1.2)) (o' := 1) 0 1 rfl rfl rfl
  refine st_g (v := (I b_1.2)) (congrArg some hb7) (rv_load1 Try.underlying3 rfl rfl hc9) ?_
  refine st_g (v := (B (a_0.2 == b_1.2))) (congrArg some hb7) (rv_eql (a := a_0.2) (b := b_1.2) rfl rfl) ?_
  refine st_g (v := (B (a_0.2 == b_1.2))) (congrArg some hb7) (rv_move rfl) ?_
  rcases Bool.eq_false_or_eq_true (a_0.2 == b_1.2) with hb10 | hb10
  ·replace h := bif_t hb10 h
   refine st_g (v := (pt b1 0)) (congrArg some hb10) (rv_fieldAddr (off := 0) (ft := 3) Try.underlying86 rfl ti3 rfl rfl) ?_
   have hc11 := H.cell (u := (I a_0.1)) (o' := 0) 1 0 rfl rfl rfl
   refine st_g (v := (I a_0.1)) (congrArg some hb10) (rv_load1 Try.underlying3 rfl rfl hc11) ?_
   refine st_g (v := (pt b3 0)) (congrArg some hb10) (rv_fieldAddr (off := 0) (ft := 3) Try.underlying86 rfl ti3 rfl rfl) ?_
   have hc12 := H.cell (u := (I b_1.1)) (o' := 0) 0 0 rfl rfl rfl
   refine st_g (v := (I b_1.1)) (congrArg some hb10) (rv_load1 Try.underlying3 rfl rfl hc12) ?_
   refine st_g (v := (B (decide (a_0.1 < b_1.1)))) (congrArg some hb10) (rv_lss (a := a_0.1) (b := b_1.1) rfl rfl) ?_
   refine st_g (v := (B (decide (a_0.1 < b_1.1)))) (congrArg some hb7) (rv_pick_t (congrArg B hb10) rfl) ?_
   refine st (v := (B (decide (a_0.1 < b_1.1)))) (rv_pick_f (congrArg B hb7) rfl) ?_
   refine st (v := (B (decide (a_0.1 < b_1.1)))) (rv_assign rfl) ?_
   refine w_end ?_
   refine q_then ?_
   refine c_ret ?_
   obtain rfl := Option.some.inj h
   exact fin_ret (v := (B (decide (a_0.1 < b_1.1)))) (results_ok Try.results155 (res_tmp (v := (B (decide (a_0.1 < b_1.1)))) rfl res_nil) rfl) ⟨rfl, rfl⟩ (H.sel' [] rfl rfl)
  ·replace h := bif_f hb10 h
   refine st_skip (congrArg some hb10) ?_
   refine st_skip (congrArg some hb10) ?_
   refine st_skip (congrArg some hb10) ?_
   refine st_skip (congrArg some hb10) ?_
   refine st_skip (congrArg some hb10) ?_
   refine st_g (v := (B false)) (congrArg some hb7) (rv_pick_f (congrArg B hb10) rfl) ?_
   refine st (v := (B false)) (rv_pick_f (congrArg B hb7) rfl) ?_
   refine st (v := (B false)) (rv_assign rfl) ?_
   refine w_end ?_
   refine q_then ?_
   refine c_ret ?_
   obtain rfl := Option.some.inj h
   exact fin_ret (v := (B false)) (results_ok Try.results155 (res_tmp (v := (B false)) rfl res_nil) rfl) ⟨rfl, rfl⟩ (H.sel' [] rfl rfl)

theorem c_spec_addHit {list_0 : List (Int × Int)} {h_1 : Int × Int} {k_2 : Int} {alist_0 : Option Addr} {clist_0 : Nat} {r : (List (Int × Int))} (h : M.spec_addHit list_0 h_1 k_2 = some r) :
    Cal2 Try.prog 142 [(Sl alist_0 list_0 clist_0), (.agg #[(I h_1.1), (I h_1.2)]), (I k_2)] [Ch.ro 0 (Sl alist_0 list_0 clist_0) list_0] (fun n0 v L => ∃ (az1 : Option Addr), ∃ (cz2 : Nat), v = (Sl az1 r cz2) ∧ L = [Ch.own n0 n0 (Sl az1 r cz2) r]) := by
 refine cal2 (n := 58) Try.func142 rfl rfl rfl rfl ?_
 intro S0 σ0 n0 hn0 H
 unfold M.spec_addHit at h
 refine c_seq ?_
 refine rg ?_
 refine st_ex (ex_box (cs := [(I h_1.1), (I h_1.2)]) H hn0 rfl rfl) wn ?_
 rintro _ σ2 ⟨b1, rfl, H, -⟩
 refine st (v := (.slice none 0 0)) (rv_assign rfl) ?_
 refine w_end ?_
 refine q_then ?_
 refine c_seq ?_
 obtain ⟨xs4, hx5, h'⟩ := bind_some h
 clear h
 have h := h'; clear h'
 have hc8 := H.cells 0 rfl
 have Hs := H
 refine rg2 (σ := σ2) (Nm := (Nat) × (Option Addr) × (Nat) × (Nat)) 5 [0, 2, 4] [[false, false, false], [true, false, false], [false, false, true], [true, true, false], [true, false, true], [true, true, true]] [[(0, 1), (2, 4)], [(0, 0), (1, 1), (2, 2), (4, 4)], [(1, 3), (4, 5)], [(0, 0), (1, 1), (3, 3)], [(0, 2), (1, 4), (3, 5)]] 5 [fun ((b3, a6, c7, b9) : (Nat) × (Option Addr) × (Nat) × (Nat)) => fun σm => Hp S0 σ0 σm [Ch.bx n0 b1 0 [(I h_1.1), (I h_1.2)] [] [], Ch.ro 0 (Sl alist_0 list_0 clist_0) list_0] ∧ Md (cov []) σ2 σm, fun ((b3, a6, c7, b9) : (Nat) × (Option Addr) × (Nat) × (Nat)) => fun σm => Hp S0 σ0 σm [Ch.own n0 n0 (Sl (some ⟨b3, 0, none⟩) ([] : List (Int × Int)) 0) ([] : List (Int × Int)), Ch.bx n0 b1 0 [(I h_1.1), (I h_1.2)] [] [], Ch.ro 0 (Sl alist_0 list_0 clist_0) list_0] ∧ Md (cov []) σ2 σm, fun ((b3, a6, c7, b9) : (Nat) × (Option Addr) × (Nat) × (Nat)) => fun σm => Hp S0 σ0 σm [Ch.own n0 n0 (Sl (some ⟨b9, 0, none⟩) ([(h_1.1, h_1.2)] : List (Int × Int)) 1) ([(h_1.1, h_1.2)] : List (Int × Int)), Ch.bx n0 b1 0 [(I h_1.1), (I h_1.2)] [] [], Ch.ro 0 (Sl alist_0 list_0 clist_0) list_0] ∧ Md (cov []) σ2 σm, fun ((b3, a6, c7, b9) : (Nat) × (Option Addr) × (Nat) × (Nat)) => fun σm => Hp S0 σ0 σm [Ch.own n0 n0 (Sl a6 xs4 c7) xs4, Ch.bx n0 b1 0 [(I h_1.1), (I h_1.2)] [] [], Ch.ro 0 (Sl alist_0 list_0 clist_0) list_0] ∧ Md (fun i => (cov []) i ∨ (fun b => blk (Sl (some ⟨b3, 0, none⟩) ([] : List (Int × Int)) 0) = some b) i) σ2 σm, fun ((b3, a6, c7, b9) : (Nat) × (Option Addr) × (Nat) × (Nat)) => fun σm => Hp S0 σ0 σm [Ch.own n0 n0 (Sl (some ⟨b9, 0, none⟩) ([(h_1.1, h_1.2)] : List (Int × Int)) 1) ([(h_1.1, h_1.2)] : List (Int × Int)), Ch.own n0 n0 (Sl (some ⟨b3, 0, none⟩) ([] : List (Int × Int)) 0) ([] : List (Int × Int)), Ch.bx n0 b1 0 [(I h_1.1), (I h_1.2)] [] [], Ch.ro 0 (Sl alist_0 list_0 clist_0) list_0] ∧ Md (cov []) σ2 σm, fun ((b3, a6, c7, b9) : (Nat) × (Option Addr) × (Nat) × (Nat)) => fun σm => Hp S0 σ0 σm [Ch.own n0 n0 (Sl (some ⟨b9, 0, none⟩) ([(h_1.1, h_1.2)] : List (Int × Int)) 1) ([(h_1.1, h_1.2)] : List (Int × Int)), Ch.own n0 n0 (Sl a6 xs4 c7) xs4, Ch.bx n0 b1 0 [(I h_1.1), (I h_1.2)] [] [], Ch.ro 0 (Sl alist_0 list_0 clist_0) list_0] ∧ Md (fun i => (cov []) i ∨ (fun b => blk (Sl (some ⟨b3, 0, none⟩) ([] : List (Int × Int)) 0) = some b) i) σ2 σm] [fun ((b3, a6, c7, b9) : (Nat) × (Option Addr) × (Nat) × (Nat)) => (Sl (some ⟨b3, 0, none⟩) ([] : List (Int × Int)) 0), fun ((b3, a6, c7, b9) : (Nat) × (Option Addr) × (Nat) × (Nat)) => (Sl alist_0 list_0 clist_0), fun ((b3, a6, c7, b9) : (Nat) × (Option Addr) × (Nat) × (Nat)) => (Sl a6 xs4 c7), fun ((b3, a6, c7, b9) : (Nat) × (Option Addr) × (Nat) × (Nat)) => (.agg #[(I h_1.1), (I h_1.2)]), fun ((b3, a6, c7, b9) : (Nat) × (Option Addr) × (Nat) × (Nat)) => (Sl (some ⟨b9, 0, none⟩) ([(h_1.1, h_1.2)] : List (Int × Int)) 1)] (0, none, 0, 0) (by kernel_rfl) (by kernel_rfl) ?_ ?_ ?_
 ·intro σm m0
  exact ⟨H.grow (m0.mono fun _ h => h.elim), m0⟩
 ·refine all_cons (by
    refine ⟨?_, ?_⟩
    ·rintro ⟨b3, a6, c7, b9⟩ ρ σm hJ hoff hdep
     obtain ⟨H, m⟩ := id hJ
     refine dp_ex wn (ex_buildSlice (el := n0) (xs := ([] : List (Int × Int))) (ps := []) (cs := []) H hn0 Try.underlying32 ti86 rfl rfl (by kernel_rfl) (.nil) rfl) ?_
     rintro _ σq ⟨b3x, rfl, H2, m2⟩
     exact ⟨_, (b3x, a6, c7, b9), rfl, rfl, ⟨H2.sel' [0, 1, 2] rfl rfl, m.comp0 m2⟩, stab [1, 3, 4] (by kernel_rfl) ⟨rfl, rfl, rfl, trivial⟩⟩
    refine ⟨?_, ?_⟩
    ·rintro ⟨b3, a6, c7, b9⟩ ρ σm hJ hoff hdep
     obtain ⟨H, m⟩ := id hJ
     refine dp_ex wn (ex_buildSlice (el := n0) (xs := ([] : List (Int × Int))) (ps := []) (cs := []) H hn0 Try.underlying32 ti86 rfl rfl (by kernel_rfl) (.nil) rfl) ?_
     rintro _ σq ⟨b3x, rfl, H2, m2⟩
     exact ⟨_, (b3x, a6, c7, b9), rfl, rfl, ⟨H2.sel' [1, 0, 2, 3] rfl rfl, m.comp0 m2⟩, stab [1, 3, 4] (by kernel_rfl) ⟨rfl, rfl, rfl, trivial⟩⟩
    trivial) ?_
  refine ac rfl (by
    intro k; rintro ⟨b3, a6, c7, b9⟩ ρ σm hJ hoff hdep
    have e0 := look_off (N := 58) (hoff 0 rfl) rfl
    exact dp_v (v := (Sl alist_0 list_0 clist_0)) wn (rv_move e0) rfl hJ) ?_
  refine all_cons (by
    refine ⟨?_, ?_⟩
    ·rintro ⟨b3, a6, c7, b9⟩ ρ σm hJ hoff hdep
     have e10 := hdep 0 rfl rfl 10 rfl
     have e11 := hdep 1 rfl rfl 11 rfl
     obtain ⟨H, m⟩ := id hJ
     refine dp_ex wn (ex_append H (i := 0) rfl Try.underlying32 Try.underlying32 ti86 rfl rfl (by decide) ((H.ro 2 rfl).rd.sc) hx5 hn0 e10 e11) ?_
     rintro _ σq ⟨a6x, c7x, rfl, H2, m2⟩
     exact ⟨_, (b3, a6x, c7x, b9), rfl, rfl, ⟨H2.sel' [0, 1, 2] rfl rfl, m.comp m2⟩, stab [0, 1, 3, 4] (by kernel_rfl) ⟨rfl, rfl, rfl, rfl, trivial⟩⟩
    refine ⟨?_, ?_⟩
    ·rintro ⟨b3, a6, c7, b9⟩ ρ σm hJ hoff hdep
     have e10 := hdep 0 rfl rfl 10 rfl
     have e11 := hdep 1 rfl rfl 11 rfl
     obtain ⟨H, m⟩ := id hJ
     refine dp_ex wn (ex_append H (i := 1) rfl Try.underlying32 Try.underlying32 ti86 rfl rfl (by decide) ((H.ro 3 rfl).rd.sc) hx5 hn0 e10 e11) ?_
     rintro _ σq ⟨a6x, c7x, rfl, H2, m2⟩
     exact ⟨_, (b3, a6x, c7x, b9), rfl, rfl, ⟨H2.sel' [1, 0, 2, 3] rfl rfl, m.comp m2⟩, stab [0, 1, 3, 4] (by kernel_rfl) ⟨rfl, rfl, rfl, rfl, trivial⟩⟩
    trivial) ?_
  refine all_cons (by
    refine ⟨?_, ?_⟩
    ·rintro ⟨b3, a6, c7, b9⟩ ρ σm hJ hoff hdep
     have e4 := look_off (N := 58) (hoff 4 rfl) rfl
     obtain ⟨H, m⟩ := id hJ
     have hc8 := H.cells 0 rfl
     exact dp_v (v := (.agg #[(I h_1.1), (I h_1.2)])) wn (rv_load (cs := [(I h_1.1), (I h_1.2)]) Try.underlying86 rfl ti86 e4 rfl hc8) rfl hJ
    refine ⟨?_, ?_⟩
    ·rintro ⟨b3, a6, c7, b9⟩ ρ σm hJ hoff hdep
     have e4 := look_off (N := 58) (hoff 4 rfl) rfl
     obtain ⟨H, m⟩ := id hJ
     have hc8 := H.cells 1 rfl
     exact dp_v (v := (.agg #[(I h_1.1), (I h_1.2)])) wn (rv_load (cs := [(I h_1.1), (I h_1.2)]) Try.underlying86 rfl ti86 e4 rfl hc8) rfl hJ
    refine ⟨?_, ?_⟩
    ·rintro ⟨b3, a6, c7, b9⟩ ρ σm hJ hoff hdep
     have e4 := look_off (N := 58) (hoff 4 rfl) rfl
     obtain ⟨H, m⟩ := id hJ
     have hc8 := H.cells 1 rfl
     exact dp_v (v := (.agg #[(I h_1.1), (I h_1.2)])) wn (rv_load (cs := [(I h_1.1), (I h_1.2)]) Try.underlying86 rfl ti86 e4 rfl hc8) rfl hJ
    trivial) ?_
  refine all_cons (by
    refine ⟨?_, ?_⟩
    ·rintro ⟨b3, a6, c7, b9⟩ ρ σm hJ hoff hdep
     have e13 : look 58 ρ 13 = (.agg #[(I h_1.1), (I h_1.2)]) := hdep 3 rfl rfl 13 rfl
     obtain ⟨H, m⟩ := id hJ
     refine dp_ex wn (ex_buildSlice (el := n0) (xs := ([(h_1.1, h_1.2)] : List (Int × Int))) (ps := [(0, (.agg #[(I h_1.1), (I h_1.2)]))]) (cs := [(I h_1.1), (I h_1.2)]) H hn0 Try.underlying32 ti86 rfl (by show [(0, look 58 ρ 13)] = _; rw [e13]) (by kernel_rfl) (.cons (c := [(I h_1.1), (I h_1.2)]) ⟨[(I h_1.1)], [(I h_1.2)], rfl, rfl, rfl⟩ (.nil)) rfl) ?_
     rintro _ σq ⟨b9x, rfl, H2, m2⟩
     exact ⟨_, (b3, a6, c7, b9x), rfl, rfl, ⟨H2.sel' [0, 1, 2] rfl rfl, m.comp0 m2⟩, stab [0, 1, 2, 3] (by kernel_rfl) ⟨rfl, rfl, rfl, rfl, trivial⟩⟩
    refine ⟨?_, ?_⟩
    ·rintro ⟨b3, a6, c7, b9⟩ ρ σm hJ hoff hdep
     have e13 : look 58 ρ 13 = (.agg #[(I h_1.1), (I h_1.2)]) := hdep 3 rfl rfl 13 rfl
     obtain ⟨H, m⟩ := id hJ
     refine dp_ex wn (ex_buildSlice (el := n0) (xs := ([(h_1.1, h_1.2)] : List (Int × Int))) (ps := [(0, (.agg #[(I h_1.1), (I h_1.2)]))]) (cs := [(I h_1.1), (I h_1.2)]) H hn0 Try.underlying32 ti86 rfl (by show [(0, look 58 ρ 13)] = _; rw [e13]) (by kernel_rfl) (.cons (c := [(I h_1.1), (I h_1.2)]) ⟨[(I h_1.1)], [(I h_1.2)], rfl, rfl, rfl⟩ (.nil)) rfl) ?_
     rintro _ σq ⟨b9x, rfl, H2, m2⟩
     exact ⟨_, (b3, a6, c7, b9x), rfl, rfl, ⟨H2.sel' [0, 1, 2, 3] rfl rfl, m.comp0 m2⟩, stab [0, 1, 2, 3] (by kernel_rfl) ⟨rfl, rfl, rfl, rfl, trivial⟩⟩
    refine ⟨?_, ?_⟩
    ·rintro ⟨b3, a6, c7, b9⟩ ρ σm hJ hoff hdep
     have e13 : look 58 ρ 13 = (.agg #[(I h_1.1), (I h_1.2)]) := hdep 3 rfl rfl 13 rfl
     obtain ⟨H, m⟩ := id hJ
     refine dp_ex wn (ex_buildSlice (el := n0) (xs := ([(h_1.1, h_1.2)] : List (Int × Int))) (ps := [(0, (.agg #[(I h_1.1), (I h_1.2)]))]) (cs := [(I h_1.1), (I h_1.2)]) H hn0 Try.underlying32 ti86 rfl (by show [(0, look 58 ρ 13)] = _; rw [e13]) (by kernel_rfl) (.cons (c := [(I h_1.1), (I h_1.2)]) ⟨[(I h_1.1)], [(I h_1.2)], rfl, rfl, rfl⟩ (.nil)) rfl) ?_
     rintro _ σq ⟨b9x, rfl, H2, m2⟩
     exact ⟨_, (b3, a6, c7, b9x), rfl, rfl, ⟨H2.sel' [0, 1, 2, 3] rfl rfl, m.comp0 m2⟩, stab [0, 1, 2, 3] (by kernel_rfl) ⟨rfl, rfl, rfl, rfl, trivial⟩⟩
    trivial) ?_
  exact all_nil
 ·rintro ⟨b3, a6, c7, b9⟩ ρ σ10 hJ hoff hrel
  have e2 := look_off (N := 58) (hoff 2 rfl) rfl
  have e12 := hrel 2 rfl 12 rfl
  have e14 := hrel 4 rfl 14 rfl
  obtain ⟨H, -⟩ := (show Hp S0 σ0 σ10 [Ch.own n0 n0 (Sl (some ⟨b9, 0, none⟩) ([(h_1.1, h_1.2)] : List (Int × Int)) 1) ([(h_1.1, h_1.2)] : List (Int × Int)), Ch.own n0 n0 (Sl a6 xs4 c7) xs4, Ch.bx n0 b1 0 [(I h_1.1), (I h_1.2)] [] [], Ch.ro 0 (Sl alist_0 list_0 clist_0) list_0] ∧ Md (fun i => (cov []) i ∨ (fun b => blk (Sl (some ⟨b3, 0, none⟩) ([] : List (Int × Int)) 0) = some b) i) σ2 σ10 from hJ)
  clear hJ Hs
  rw [fr_lookL (L := [(2, (I k_2)), (12, (Sl a6 xs4 c7)), (14, (Sl (some ⟨b9, 0, none⟩) ([(h_1.1, h_1.2)] : List (Int × Int)) 1))]) ⟨e2, e12, e14, trivial⟩]
  clear hoff hrel e2 e12 e14
  obtain ⟨xs11, hx12, h'⟩ := bind_some h
  clear h
  have h := h'; clear h'
  refine st_ex (ex_append H (i := 1) rfl Try.underlying32 Try.underlying32 ti86 rfl rfl (by decide) (H.own 0 rfl).rd hx12 hn0 rfl rfl) wn ?_
  rintro _ σ15 ⟨a13, c14, rfl, H, -⟩
  refine st (v := (Sl a13 xs11 c14)) (rv_assign rfl) ?_
  refine w_end ?_
  refine q_then ?_
  refine c_seq ?_
  refine c_seq ?_
  refine rg ?_
  refine st (v := (Sl a13 xs11 c14)) (rv_move rfl) ?_
  refine st (v := (I (xs11.length : Int))) (rv_len Try.underlying32 rfl) ?_
  refine st (v := (I (w64 ((xs11.length : Int) - 1)))) (rv_sub (a := (xs11.length : Int)) (b := 1) rfl rfl) ?_
  refine st (v := (I (w64 ((xs11.length : Int) - 1)))) (rv_assign rfl) ?_
  refine w_end ?_
  refine q_then ?_
  obtain ⟨o16, hj, h'⟩ := bind_some h
  clear h
  refine c_cut (fun e a w => e = .normal ∧ ∃ (ρ : Nat → Value) (σ : St), a = fr 58 (updL ρ [(2, (I k_2)), (7, (Sl a13 o16 c14))]) ∧ w = σ.w ∧ Hp S0 σ0 σ [Ch.own n0 n0 (Sl a13 o16 c14) o16] ∧ o16.length = xs11.length) ?_ ?_
  ·clear h'
   rename _ = some o16 => h
   refine c_blk ?_
   refine wp_loopM _ h (fun s17 a w => ∃ (ρ : Nat → Value) (σ : St), a = fr 58 (updL ρ [(2, (I k_2)), (7, (Sl a13 s17.1 c14)), (8, (I s17.2))]) ∧ w = σ.w ∧ Hp S0 σ0 σ [Ch.own n0 n0 (Sl a13 s17.1 c14) s17.1] ∧ s17.1.length = xs11.length) ⟨_, σ15, fr_join ⟨rfl, rfl, rfl, trivial⟩, rfl, H.sel' [0] rfl rfl, rfl⟩ ?_
   clear h H
   rintro s17 a w o ⟨ρ, σ18, rfl, rfl, H, hn19⟩ h hres
   refine c_seq ?_
   refine c_seq ?_
   obtain ⟨o20, hj, h'⟩ := bind_some h
   clear h
   refine c_cut (fun e a w => e = .normal ∧ ∃ (ρ : Nat → Value) (σ : St), a = fr 58 (updL ρ [(2, (I k_2)), (7, (Sl a13 s17.1 c14)), (8, (I s17.2)), (32, (B o20))]) ∧ w = σ.w ∧ Hp S0 σ0 σ [Ch.own n0 n0 (Sl a13 s17.1 c14) s17.1]) ?_ ?_
   ·clear h'
    rename _ = some o20 => h
    refine rgP (σ := σ18) 12 (by kernel_rfl) (by kernel_rfl) (by kernel_rfl) ?_
    refine sq (v := (I s17.2)) (rv_move rfl) ?_
    refine sq (v := (B (decide (0 < s17.2)))) (rv_gtr (a := s17.2) (b := 0) rfl rfl) ?_
    refine sq (v := (B (decide (0 < s17.2)))) (rv_move rfl) ?_
    rcases Bool.eq_false_or_eq_true (decide (0 < s17.2)) with hb21 | hb21
    ·replace h := bif_t hb21 h
     refine sq_g (v := (Sl a13 s17.1 c14)) (congrArg some hb21) (rv_move rfl) ?_
     refine sq_g (v := (I s17.2)) (congrArg some hb21) (rv_move rfl) ?_
     obtain ⟨x22, hx23, h'⟩ := bind_some h
     clear h
     have h := h'; clear h'
     obtain ⟨b25, o26, hi24, -⟩ := (H.own 0 rfl).ix hx23
     refine sq_g (v := (pt b25 o26)) (congrArg some hb21) (rv_ix Try.underlying32 ti86 rfl rfl hi24) ?_
     obtain ⟨_, ⟨_, _, rfl, rfl, rfl⟩, hl27, hc28⟩ := ((H.own 0 rfl).at hx23 hi24).cells
     refine sq_g (v := (.agg #[(I x22.1), (I x22.2)])) (congrArg some hb21) (rv_load Try.underlying86 rfl ti86 rfl hl27 hc28) ?_
     refine sq_g (v := (Sl a13 s17.1 c14)) (congrArg some hb21) (rv_move rfl) ?_
     refine sq_g (v := (I s17.2)) (congrArg some hb21) (rv_move rfl) ?_
     refine sq_g (v := (I (w64 (s17.2 - 1)))) (congrArg some hb21) (rv_sub (a := s17.2) (b := 1) rfl rfl) ?_
     obtain ⟨x29, hx30, h'⟩ := bind_some h
     clear h
     have h := h'; clear h'
     obtain ⟨b32, o33, hi31, -⟩ := (H.own 0 rfl).ix hx30
     refine sq_g (v := (pt b32 o33)) (congrArg some hb21) (rv_ix Try.underlying32 ti86 rfl rfl hi31) ?_
     obtain ⟨_, ⟨_, _, rfl, rfl, rfl⟩, hl34, hc35⟩ := ((H.own 0 rfl).at hx30 hi31).cells
     refine sq_g (v := (.agg #[(I x29.1), (I x29.2)])) (congrArg some hb21) (rv_load Try.underlying86 rfl ti86 rfl hl34 hc35) ?_
     refine sq_end ?_
     intro σ36 hm37
     replace H := H.grow (hm37.mono fun _ h => h); clear hm37
     obtain ⟨r38, hx39, h'⟩ := bind_some h
     clear h
     have h := h'; clear h'
     have hc40 := c_spec_nearer hx39
     refine st_call (cx_call hc40 (ent_f hc40.fn rfl) hn0 (show Hp S0 σ0 _ ([] ++ [Ch.own n0 n0 (Sl a13 s17.1 c14) s17.1]) from (H.sel' [0] rfl rfl))) (wanted_yes rfl (by exact (congrArg some hb21))) ?_
     rintro _ σ41 ⟨_, ⟨rfl, rfl⟩, H, -⟩
     replace H : Hp S0 σ0 σ41 [Ch.own n0 n0 (Sl a13 s17.1 c14) s17.1] := H
     refine st (v := (B r38)) (rv_pick_t (congrArg B hb21) rfl) ?_
     refine w_end ?_
     obtain rfl := Option.some.inj h
     exact ⟨rfl, _, σ41, fr_join ⟨rfl, rfl, rfl, rfl, trivial⟩, rfl, H.sel' [0] rfl rfl⟩
    ·replace h := bif_f hb21 h
     refine sq_skip (congrArg some hb21) ?_
     refine sq_skip (congrArg some hb21) ?_
     refine sq_skip (congrArg some hb21) ?_
     refine sq_skip (congrArg some hb21) ?_
     refine sq_skip (congrArg some hb21) ?_
     refine sq_skip (congrArg some hb21) ?_
     refine sq_skip (congrArg some hb21) ?_
     refine sq_skip (congrArg some hb21) ?_
     refine sq_skip (congrArg some hb21) ?_
     refine sq_end ?_
     intro σ42 hm43
     replace H := H.grow (hm43.mono fun _ h => h); clear hm43
     refine st_skip (congrArg some hb21) ?_
     refine st (v := (B false)) (rv_pick_f (congrArg B hb21) rfl) ?_
     refine w_end ?_
     obtain rfl := Option.some.inj h
     exact ⟨rfl, _, σ42, fr_join ⟨rfl, rfl, rfl, rfl, trivial⟩, rfl, H.sel' [0] rfl rfl⟩
   ·clear hj
    have h := h'
    clear h' H
    rintro e a w ⟨rfl, ρ, σ44, rfl, rfl, H⟩
    refine q_then ?_
    refine cd_cond o20 rfl (fun hb45 => ?_) (fun hb45 => ?_)
    ·replace h := bif_t hb45 h
     refine c_skip ?_
     refine q_then ?_
     refine c_seq ?_
     refine c_blk ?_
     refine c_seq ?_
     refine rg ?_
     refine st (v := (Sl a13 s17.1 c14)) (rv_move rfl) ?_
     refine st (v := (I s17.2)) (rv_move rfl) ?_
     obtain ⟨x46, hx47, h'⟩ := bind_some h
     clear h
     have h := h'; clear h'
     obtain ⟨b49, o50, hi48, -⟩ := (H.own 0 rfl).ix hx47
     refine st (v := (pt b49 o50)) (rv_ix Try.underlying32 ti86 rfl rfl hi48) ?_
     obtain ⟨_, ⟨_, _, rfl, rfl, rfl⟩, hl51, hc52⟩ := ((H.own 0 rfl).at hx47 hi48).cells
     refine st (v := (.agg #[(I x46.1), (I x46.2)])) (rv_load Try.underlying86 rfl ti86 rfl hl51 hc52) ?_
     refine st_ex (ex_alloc (cs := [(I 0), (I 0)]) H hn0 ti86 rfl) wn ?_
     rintro _ σ54 ⟨b53, rfl, H, -⟩
     refine st_exS (ex_store_box (k := 0) (cs := [(I 0), (I 0)]) (vs := [(I x46.1), (I x46.2)]) (cs' := [(I x46.1), (I x46.2)]) H (i := 0) rfl ti86 rfl rfl rfl rfl rfl (Nat.le_of_ble_eq_true rfl) (by simp [plain]) rfl) wn ?_
     rintro σ55 ⟨H, -⟩
     refine w_end ?_
     refine q_then ?_
     refine c_seq ?_
     refine rg ?_
     refine st (v := (Sl a13 s17.1 c14)) (rv_move rfl) ?_
     refine st (v := (I s17.2)) (rv_move rfl) ?_
     refine st (v := (Sl a13 s17.1 c14)) (rv_move rfl) ?_
     refine st (v := (I s17.2)) (rv_move rfl) ?_
     refine st (v := (I (w64 (s17.2 - 1)))) (rv_sub (a := s17.2) (b := 1) rfl rfl) ?_
     obtain ⟨x56, hx57, h'⟩ := bind_some h
     clear h
     have h := h'; clear h'
     obtain ⟨b59, o60, hi58, -⟩ := (H.own 1 rfl).ix hx57
     refine st (v := (pt b59 o60)) (rv_ix Try.underlying32 ti86 rfl rfl hi58) ?_
     obtain ⟨_, ⟨_, _, rfl, rfl, rfl⟩, hl61, hc62⟩ := ((H.own 1 rfl).at hx57 hi58).cells
     refine st (v := (.agg #[(I x56.1), (I x56.2)])) (rv_load Try.underlying86 rfl ti86 rfl hl61 hc62) ?_
     obtain ⟨x63, hx64, h'⟩ := bind_some h
     clear h
     have h := h'; clear h'
     obtain ⟨b66, o67, hi65, -⟩ := (H.own 1 rfl).ix hx64
     refine st (v := (pt b66 o67)) (rv_ix Try.underlying32 ti86 rfl rfl hi65) ?_
     refine st_exS (ex_store_own (e' := (x56.1, x56.2)) (vs := [(I x56.1), (I x56.2)]) (k := 0) H (i := 1) rfl ti86 hx64 hi65 rfl rfl rfl rfl rfl (Nat.le_of_ble_eq_true rfl) (by simp [plain]) (by rintro _ ⟨_, _, rfl, rfl, rfl⟩; exact ⟨[(I x56.1)], [(I x56.2)], rfl, rfl, rfl⟩)) wn ?_
     rintro σ68 ⟨H, -⟩
     have hsl : (Sl a13 s17.1 c14) = (Sl a13 (s17.1.set s17.2.toNat (x56.1, x56.2)) c14) := sl_len List.length_set.symm
     rw [hsl]; rw [hsl] at H; clear hsl
     refine w_end ?_
     refine q_then ?_
     refine rg ?_
     refine st (v := (Sl a13 (s17.1.set s17.2.toNat (x56.1, x56.2)) c14)) (rv_move rfl) ?_
     refine st (v := (I s17.2)) (rv_move rfl) ?_
     refine st (v := (I (w64 (s17.2 - 1)))) (rv_sub (a := s17.2) (b := 1) rfl rfl) ?_
     have hc69 := H.cells 1 rfl
     refine st (v := (.agg #[(I x46.1), (I x46.2)])) (rv_load (cs := [(I x46.1), (I x46.2)]) Try.underlying86 rfl ti86 rfl rfl hc69) ?_
     obtain ⟨x70, hx71, h'⟩ := bind_some h
     clear h
     have h := h'; clear h'
     obtain ⟨b73, o74, hi72, -⟩ := (H.own 0 rfl).ix hx71
     refine st (v := (pt b73 o74)) (rv_ix Try.underlying32 ti86 rfl rfl hi72) ?_
     refine st_exS (ex_store_own (e' := (x46.1, x46.2)) (vs := [(I x46.1), (I x46.2)]) (k := 0) H (i := 0) rfl ti86 hx71 hi72 rfl rfl rfl rfl rfl (Nat.le_of_ble_eq_true rfl) (by simp [plain]) (by rintro _ ⟨_, _, rfl, rfl, rfl⟩; exact ⟨[(I x46.1)], [(I x46.2)], rfl, rfl, rfl⟩)) wn ?_
     rintro σ75 ⟨H, -⟩
     have hsl : (Sl a13 (s17.1.set s17.2.toNat (x56.1, x56.2)) c14) = (Sl a13 ((s17.1.set s17.2.toNat (x56.1, x56.2)).set (w64 (s17.2 - 1)).toNat (x46.1, x46.2)) c14) := sl_len List.length_set.symm
     rw [hsl]; rw [hsl] at H; clear hsl
     refine w_end ?_
     refine q_blk ?_
     refine q_then ?_
     refine rg ?_
     refine st (v := (I s17.2)) (rv_move rfl) ?_
     refine st (v := (I (w64 (s17.2 - 1)))) (rv_sub (a := s17.2) (b := 1) rfl rfl) ?_
     refine st (v := (I (w64 (s17.2 - 1)))) (rv_assign rfl) ?_
     refine w_end ?_
     refine q_then ?_
     obtain rfl := Option.some.inj h
     exact ⟨_, rfl, _, σ75, fr_join ⟨rfl, rfl, rfl, trivial⟩, rfl, H.sel' [0] rfl rfl, (List.length_set.trans (List.length_set.trans hn19))⟩
    ·replace h := bif_f hb45 h
     refine c_exit ?_
     refine q_then_x ?_
     refine q_then_x ?_
     refine q_blk_hit ?_
     obtain rfl := Option.some.inj h
     obtain rfl := hres _ rfl
     exact ⟨rfl, _, σ44, fr_join ⟨rfl, rfl, trivial⟩, rfl, H.sel' [0] rfl rfl, hn19⟩
  ·clear hj
   have h := h'
   clear h' H
   rintro e a w ⟨rfl, ρ, σ76, rfl, rfl, H, hn77⟩
   refine q_then ?_
   refine c_seq ?_
   refine rg ?_
   refine st (v := (Sl a13 o16 c14)) (rv_move rfl) ?_
   refine st (v := (I k_2)) (rv_move rfl) ?_
   refine st (v := (Sl a13 o16 c14)) (rv_move rfl) ?_
   refine st (v := (I (o16.length : Int))) (rv_len Try.underlying32 rfl) ?_
   refine st (v := (I (min k_2 (o16.length : Int)))) (rv_min rfl rfl) ?_
   obtain ⟨xs78, hx79, h'⟩ := bind_some h
   clear h
   have h := h'; clear h'
   obtain ⟨a80, c81, hs82, hR83, hb84⟩ := (H.own 0 rfl).slice hx79
   replace H := (H.front (i := 0) rfl).turn (d := Ch.own n0 n0 (Sl a80 xs78 c81) xs78) (fun _ => hR83) hb84; clear hR83 hb84
   refine st (v := (Sl a80 xs78 c81)) (rv_slice_h Try.underlying32 ti86 hs82 rfl rfl) ?_
   refine st (v := (Sl a80 xs78 c81)) (rv_assign rfl) ?_
   refine w_end ?_
   refine q_then ?_
   refine c_ret ?_
   obtain rfl := Option.some.inj h
   exact fin_ret (v := (Sl a80 xs78 c81)) (results_ok Try.results142 (res_tmp (v := (Sl a80 xs78 c81)) rfl res_nil) rfl) ⟨a80, c81, rfl, rfl⟩ (H.sel' [0] rfl rfl)

theorem c_spec_probes {centres_0 : List (List Int)} {at_1 : List Int} {many_2 : Int} {acentres_0 : Option Addr} {ccentres_0 : Nat} {aat_1 : Option Addr} {cat_1 : Nat} {r : (List Int)} (h : M.spec_probes centres_0 at_1 many_2 = some r) :
    Cal2 Try.prog 105 [(Sl acentres_0 centres_0 ccentres_0), (Sl aat_1 at_1 cat_1), (I many_2)] [Ch.ro 0 (Sl acentres_0 centres_0 ccentres_0) centres_0, Ch.ro 0 (Sl aat_1 at_1 cat_1) at_1] (fun n0 v L => ∃ (az1 : Option Addr), ∃ (cz2 : Nat), v = (Sl az1 r cz2) ∧ L = [Ch.own n0 n0 (Sl az1 r cz2) r]) := by
 refine cal2 (n := 45) Try.func105 rfl rfl rfl rfl ?_
 intro S0 σ0 n0 hn0 H
 unfold M.spec_probes at h
 refine c_seq ?_
 refine rg ?_
 refine st (v := (.slice none 0 0)) (rv_assign rfl) ?_
 refine w_end ?_
 refine q_then ?_
 refine c_seq ?_
 refine rg ?_
 refine st_ex (ex_buildSlice (el := n0) (xs := ([] : List (Int × Int))) (ps := []) (cs := []) H hn0 Try.underlying32 ti86 rfl rfl (by kernel_rfl) (.nil) rfl) wn ?_
 rintro _ σ2 ⟨b1, rfl, H, -⟩
 refine st (v := (Sl (some ⟨b1, 0, none⟩) ([] : List (Int × Int)) 0)) (rv_assign rfl) ?_
 refine w_end ?_
 refine q_then ?_
 refine c_seq ?_
 refine c_seq ?_
 refine rg ?_
 refine st (v := (I 0)) (rv_assign rfl) ?_
 refine w_end ?_
 refine q_then ?_
 obtain ⟨o3, hj, h'⟩ := bind_some h
 clear h
 refine c_cut (fun e a w => e = .normal ∧ ∃ (ρ : Nat → Value) (σ : St) (aj1 : Option Addr) (cj2 : Nat), a = fr 45 (updL ρ [(7, (Sl aj1 o3 cj2))]) ∧ w = σ.w ∧ Hp S0 σ0 σ [Ch.own n0 n0 (Sl aj1 o3 cj2) o3]) ?_ ?_
 ·clear h'
  rename _ = some o3 => h
  refine c_blk ?_
  refine wp_loopM _ h (fun s4 a w => ∃ (ρ : Nat → Value) (σ : St) (aj1 : Option Addr) (cj2 : Nat), a = fr 45 (updL ρ [(0, (Sl acentres_0 centres_0 ccentres_0)), (1, (Sl aat_1 at_1 cat_1)), (2, (I many_2)), (7, (Sl aj1 s4.1 cj2)), (8, (I s4.2))]) ∧ w = σ.w ∧ Hp S0 σ0 σ [Ch.ro 0 (Sl acentres_0 centres_0 ccentres_0) centres_0, Ch.ro 0 (Sl aat_1 at_1 cat_1) at_1, Ch.own n0 n0 (Sl aj1 s4.1 cj2) s4.1]) ⟨_, σ2, (some ⟨b1, 0, none⟩), 0, fr_join ⟨rfl, rfl, rfl, rfl, rfl, trivial⟩, rfl, H.sel' [1, 2, 0] rfl rfl⟩ ?_
  clear h H
  rintro s4 a w o ⟨ρ, σ5, a6, c7, rfl, rfl, H⟩ h hres
  refine c_seq ?_
  refine c_seq ?_
  refine rg ?_
  refine st (v := (I s4.2)) (rv_move rfl) ?_
  refine st (v := (Sl acentres_0 centres_0 ccentres_0)) (rv_move rfl) ?_
  refine st (v := (I (centres_0.length : Int))) (rv_len Try.underlying52 rfl) ?_
  refine st (v := (B (decide (s4.2 < (centres_0.length : Int))))) (rv_lss (a := s4.2) (b := (centres_0.length : Int)) rfl rfl) ?_
  refine w_end ?_
  refine q_then ?_
  refine cd_cond (decide (s4.2 < (centres_0.length : Int))) rfl (fun hb8 => ?_) (fun hb8 => ?_)
  ·replace h := bif_t hb8 h
   refine c_skip ?_
   refine q_then ?_
   refine c_seq ?_
   refine c_blk ?_
   refine rg ?_
   refine st (v := (Sl a6 s4.1 c7)) (rv_move rfl) ?_
   refine st (v := (I s4.2)) (rv_move rfl) ?_
   refine st (v := (Sl acentres_0 centres_0 ccentres_0)) (rv_move rfl) ?_
   refine st (v := (I s4.2)) (rv_move rfl) ?_
   obtain ⟨x9, hx10, h'⟩ := bind_some h
   clear h
   have h := h'; clear h'
   obtain ⟨b12, o13, hi11, -⟩ := (H.ro 0 rfl).ix hx10
   refine st (v := (pt b12 o13)) (rv_ix Try.underlying52 ti24 rfl rfl hi11) ?_
   obtain ⟨v17, hc18, hR16⟩ := ((H.ro 0 rfl).at hx10 hi11).slice
   obtain ⟨a14, c15, rfl⟩ := hR16.isSl
   replace H := H.add (d := Ch.ro 0 (Sl a14 x9 c15) x9) hR16 (fun _ h => h)
   clear hR16
   refine st (v := (Sl a14 x9 c15)) (rv_load1 Try.underlying24 rfl rfl hc18) ?_
   refine st (v := (Sl aat_1 at_1 cat_1)) (rv_move rfl) ?_
   obtain ⟨r19, hx20, h'⟩ := bind_some h
   clear h
   have h := h'; clear h'
   have hc21 := c_spec_dist (aa_1 := a14) (ca_1 := c15) (ab_2 := aat_1) (cb_2 := cat_1) hx20
   refine st_call (cx_call hc21 (ent_f hc21.fn rfl) hn0 (show Hp S0 σ0 _ ([Ch.ro 0 (Sl a14 x9 c15) x9, Ch.ro 0 (Sl aat_1 at_1 cat_1) at_1] ++ [Ch.ro 0 (Sl a14 x9 c15) x9, Ch.ro 0 (Sl acentres_0 centres_0 ccentres_0) centres_0, Ch.ro 0 (Sl aat_1 at_1 cat_1) at_1, Ch.own n0 n0 (Sl a6 s4.1 c7) s4.1]) from (H.sel' [0, 2, 0, 1, 2, 3] rfl rfl))) wn ?_
   rintro _ σ22 ⟨_, ⟨rfl, rfl⟩, H, -⟩
   replace H : Hp S0 σ0 σ22 [Ch.ro 0 (Sl a14 x9 c15) x9, Ch.ro 0 (Sl acentres_0 centres_0 ccentres_0) centres_0, Ch.ro 0 (Sl aat_1 at_1 cat_1) at_1, Ch.own n0 n0 (Sl a6 s4.1 c7) s4.1] := H
   refine st (v := (.agg #[(I s4.2), (I r19)])) (rv_build (ps := [(0, (I s4.2)), (1, (I r19))]) Try.underlying86 ti86 (bp86 Try.underlying86) rfl (by kernel_rfl)) ?_
   refine st (v := (I many_2)) (rv_move rfl) ?_
   obtain ⟨σ23, hw24, H, -⟩ := H.pub 3 rfl (Nat.le_refl _)
   rw [← hw24]; clear hw24
   replace H := H.roLow 0 0 rfl (Nat.zero_le _)
   obtain ⟨r25, hx26, h'⟩ := bind_some h
   clear h
   have h := h'; clear h'
   have hc27 := c_spec_addHit (alist_0 := a6) (clist_0 := c7) hx26
   refine st_call (cx_call hc27 (ent_f hc27.fn rfl) hn0 (show Hp S0 σ0 _ ([Ch.ro 0 (Sl a6 s4.1 c7) s4.1] ++ [Ch.ro 0 (Sl a6 s4.1 c7) s4.1, Ch.ro n0 (Sl a6 s4.1 c7) s4.1, Ch.ro 0 (Sl a14 x9 c15) x9, Ch.ro 0 (Sl acentres_0 centres_0 ccentres_0) centres_0, Ch.ro 0 (Sl aat_1 at_1 cat_1) at_1]) from (H.sel' [0, 0, 1, 2, 3, 4] rfl rfl))) wn ?_
   rintro _ σ30 ⟨_, ⟨a28, c29, rfl, rfl⟩, H, -⟩
   replace H : Hp S0 σ0 σ30 [Ch.own n0 n0 (Sl a28 r25 c29) r25, Ch.ro 0 (Sl a6 s4.1 c7) s4.1, Ch.ro n0 (Sl a6 s4.1 c7) s4.1, Ch.ro 0 (Sl a14 x9 c15) x9, Ch.ro 0 (Sl acentres_0 centres_0 ccentres_0) centres_0, Ch.ro 0 (Sl aat_1 at_1 cat_1) at_1] := H
   refine st (v := (Sl a28 r25 c29)) (rv_assign rfl) ?_
   refine w_end ?_
   refine q_blk ?_
   refine q_then ?_
   refine rg ?_
   refine st (v := (I s4.2)) (rv_move rfl) ?_
   refine st (v := (I (w64 (s4.2 + 1)))) (rv_add (a := s4.2) (b := 1) rfl rfl) ?_
   refine st (v := (I (w64 (s4.2 + 1)))) (rv_assign rfl) ?_
   refine w_end ?_
   refine q_then ?_
   obtain rfl := Option.some.inj h
   exact ⟨_, rfl, _, σ30, a28, c29, fr_join ⟨rfl, rfl, rfl, rfl, rfl, trivial⟩, rfl, H.sel' [4, 5, 0] rfl rfl⟩
  ·replace h := bif_f hb8 h
   refine c_exit ?_
   refine q_then_x ?_
   refine q_then_x ?_
   refine q_blk_hit ?_
   obtain rfl := Option.some.inj h
   obtain rfl := hres _ rfl
   exact ⟨rfl, _, σ5, a6, c7, fr_join ⟨rfl, trivial⟩, rfl, H.sel' [2] rfl rfl⟩
 ·clear hj
  have h := h'
  clear h' H
  rintro e a w ⟨rfl, ρ, σ31, a32, c33, rfl, rfl, H⟩
  refine q_then ?_
  refine c_seq ?_
  refine rg ?_
  refine st_ex (ex_buildSlice (el := n0) (xs := ([] : List Int)) (ps := []) (cs := []) H hn0 Try.underlying24 ti3 rfl rfl (by kernel_rfl) (.nil) rfl) wn ?_
  rintro _ σ35 ⟨b34, rfl, H, -⟩
  refine st (v := (Sl (some ⟨b34, 0, none⟩) ([] : List Int) 0)) (rv_assign rfl) ?_
  refine w_end ?_
  refine q_then ?_
  refine c_seq ?_
  refine c_seq ?_
  refine rg ?_
  refine st (v := (I 0)) (rv_assign rfl) ?_
  refine w_end ?_
  refine q_then ?_
  obtain ⟨o36, hj, h'⟩ := bind_some h
  clear h
  refine c_cut (fun e a w => e = .normal ∧ ∃ (ρ : Nat → Value) (σ : St) (aj1 : Option Addr) (cj2 : Nat), a = fr 45 (updL ρ [(9, (Sl aj1 o36 cj2))]) ∧ w = σ.w ∧ Hp S0 σ0 σ [Ch.own n0 n0 (Sl aj1 o36 cj2) o36]) ?_ ?_
  ·clear h'
   rename _ = some o36 => h
   refine c_blk ?_
   refine wp_loopM _ h (fun s37 a w => ∃ (ρ : Nat → Value) (σ : St) (aj1 : Option Addr) (cj2 : Nat), a = fr 45 (updL ρ [(7, (Sl a32 o3 c33)), (9, (Sl aj1 s37.1 cj2)), (10, (I s37.2))]) ∧ w = σ.w ∧ Hp S0 σ0 σ [Ch.own n0 n0 (Sl a32 o3 c33) o3, Ch.own n0 n0 (Sl aj1 s37.1 cj2) s37.1]) ⟨_, σ35, (some ⟨b34, 0, none⟩), 0, fr_join ⟨rfl, rfl, rfl, trivial⟩, rfl, H.sel' [1, 0] rfl rfl⟩ ?_
   clear h H
   rintro s37 a w o ⟨ρ, σ38, a39, c40, rfl, rfl, H⟩ h hres
   refine c_seq ?_
   refine c_seq ?_
   refine rg ?_
   refine st (v := (I s37.2)) (rv_move rfl) ?_
   refine st (v := (Sl a32 o3 c33)) (rv_move rfl) ?_
   refine st (v := (I (o3.length : Int))) (rv_len Try.underlying32 rfl) ?_
   refine st (v := (B (decide (s37.2 < (o3.length : Int))))) (rv_lss (a := s37.2) (b := (o3.length : Int)) rfl rfl) ?_
   refine w_end ?_
   refine q_then ?_
   refine cd_cond (decide (s37.2 < (o3.length : Int))) rfl (fun hb41 => ?_) (fun hb41 => ?_)
   ·replace h := bif_t hb41 h
    refine c_skip ?_
    refine q_then ?_
    refine c_seq ?_
    refine c_blk ?_
    refine rg ?_
    refine st (v := (Sl a39 s37.1 c40)) (rv_move rfl) ?_
    refine st (v := (Sl a32 o3 c33)) (rv_move rfl) ?_
    refine st (v := (I s37.2)) (rv_move rfl) ?_
    obtain ⟨x42, hx43, h'⟩ := bind_some h
    clear h
    have h := h'; clear h'
    obtain ⟨b45, o46, hi44, -⟩ := (H.own 0 rfl).ix hx43
    refine st (v := (pt b45 o46)) (rv_ix Try.underlying32 ti86 rfl rfl hi44) ?_
    refine st (v := (pt b45 (o46 + 0))) (rv_fieldAddr (off := 0) (ft := 3) Try.underlying86 rfl ti3 rfl rfl) ?_
    have hc47 := ((H.own 0 rfl).at hx43 hi44).fst.int
    refine st (v := (I x42.1)) (rv_load1 Try.underlying3 rfl rfl hc47) ?_
    refine st_ex (ex_buildSlice (el := n0) (xs := ([x42.1] : List Int)) (ps := [(0, (I x42.1))]) (cs := [(I x42.1)]) H hn0 Try.underlying24 ti3 rfl rfl (by kernel_rfl) (.cons (c := [(I x42.1)]) rfl (.nil)) rfl) wn ?_
    rintro _ σ49 ⟨b48, rfl, H, -⟩
    obtain ⟨xs50, hx51, h'⟩ := bind_some h
    clear h
    have h := h'; clear h'
    refine st_ex (ex_append H (i := 2) rfl Try.underlying24 Try.underlying24 ti3 rfl rfl (by decide) (H.own 0 rfl).rd hx51 hn0 rfl rfl) wn ?_
    rintro _ σ54 ⟨a52, c53, rfl, H, -⟩
    refine st (v := (Sl a52 xs50 c53)) (rv_assign rfl) ?_
    refine w_end ?_
    refine q_blk ?_
    refine q_then ?_
    refine rg ?_
    refine st (v := (I s37.2)) (rv_move rfl) ?_
    refine st (v := (I (w64 (s37.2 + 1)))) (rv_add (a := s37.2) (b := 1) rfl rfl) ?_
    refine st (v := (I (w64 (s37.2 + 1)))) (rv_assign rfl) ?_
    refine w_end ?_
    refine q_then ?_
    obtain rfl := Option.some.inj h
    exact ⟨_, rfl, _, σ54, a52, c53, fr_join ⟨rfl, rfl, rfl, trivial⟩, rfl, H.sel' [2, 0] rfl rfl⟩
   ·replace h := bif_f hb41 h
    refine c_exit ?_
    refine q_then_x ?_
    refine q_then_x ?_
    refine q_blk_hit ?_
    obtain rfl := Option.some.inj h
    obtain rfl := hres _ rfl
    exact ⟨rfl, _, σ38, a39, c40, fr_join ⟨rfl, trivial⟩, rfl, H.sel' [1] rfl rfl⟩
  ·clear hj
   have h := h'
   clear h' H
   rintro e a w ⟨rfl, ρ, σ55, a56, c57, rfl, rfl, H⟩
   refine q_then ?_
   refine c_seq ?_
   refine rg ?_
   refine st (v := (Sl a56 o36 c57)) (rv_move rfl) ?_
   refine st (v := (Sl a56 o36 c57)) (rv_assign rfl) ?_
   refine w_end ?_
   refine q_then ?_
   refine c_ret ?_
   obtain rfl := Option.some.inj h
   exact fin_ret (v := (Sl a56 o36 c57)) (results_ok Try.results105 (res_tmp (v := (Sl a56 o36 c57)) rfl res_nil) rfl) ⟨a56, c57, rfl, rfl⟩ (H.sel' [0] rfl rfl)

theorem c_spec_isIn {list_0 : List Int} {n_1 : Int} {alist_0 : Option Addr} {clist_0 : Nat} {r : Bool} (h : M.spec_isIn list_0 n_1 = some r) :
    Cal2 Try.prog 107 [(Sl alist_0 list_0 clist_0), (I n_1)] [Ch.ro 0 (Sl alist_0 list_0 clist_0) list_0] (fun n0 v L => v = (B r) ∧ L = []) := by
 refine cal2 (n := 18) Try.func107 rfl rfl rfl rfl ?_
 intro S0 σ0 n0 hn0 H
 unfold M.spec_isIn at h
 refine c_seq ?_
 refine rg ?_
 refine st (v := (B false)) (rv_assign rfl) ?_
 refine w_end ?_
 refine q_then ?_
 refine c_seq ?_
 refine c_seq ?_
 refine rg ?_
 refine st (v := (I 0)) (rv_assign rfl) ?_
 refine w_end ?_
 refine q_then ?_
 obtain ⟨o1, hj, h'⟩ := bind_some h
 clear h
 refine c_cut (fun e a w => (∃ t, o1 = (.inl t) ∧ e = .normal ∧ ∃ (ρ : Nat → Value) (σ : St), a = fr 18 (updL ρ []) ∧ w = σ.w ∧ Hp S0 σ0 σ []) ∨ (∃ t, o1 = (.inr t) ∧ e = .ret ∧ ∃ (ρ : Nat → Value) (σ : St), a = fr 18 (updL ρ [(4, (B t))]) ∧ w = σ.w ∧ Hp S0 σ0 σ [])) ?_ ?_
 ·clear h'
  rename _ = some o1 => h
  refine c_blk ?_
  refine wp_loopM _ h (fun s2 a w => ∃ (ρ : Nat → Value) (σ : St), a = fr 18 (updL ρ [(0, (Sl alist_0 list_0 clist_0)), (1, (I n_1)), (5, (I s2))]) ∧ w = σ.w ∧ Hp S0 σ0 σ [Ch.ro 0 (Sl alist_0 list_0 clist_0) list_0]) ⟨_, σ0, fr_join ⟨rfl, rfl, rfl, trivial⟩, rfl, H.sel' [0] rfl rfl⟩ ?_
  clear h H
  rintro s2 a w o ⟨ρ, σ3, rfl, rfl, H⟩ h hres
  refine c_seq ?_
  refine c_seq ?_
  refine rg ?_
  refine st (v := (I s2)) (rv_move rfl) ?_
  refine st (v := (Sl alist_0 list_0 clist_0)) (rv_move rfl) ?_
  refine st (v := (I (list_0.length : Int))) (rv_len Try.underlying24 rfl) ?_
  refine st (v := (B (decide (s2 < (list_0.length : Int))))) (rv_lss (a := s2) (b := (list_0.length : Int)) rfl rfl) ?_
  refine w_end ?_
  refine q_then ?_
  refine cd_cond (decide (s2 < (list_0.length : Int))) rfl (fun hb4 => ?_) (fun hb4 => ?_)
  ·replace h := bif_t hb4 h
   refine c_skip ?_
   refine q_then ?_
   refine c_seq ?_
   refine c_blk ?_
   refine c_seq ?_
   refine rg ?_
   refine st (v := (Sl alist_0 list_0 clist_0)) (rv_move rfl) ?_
   refine st (v := (I s2)) (rv_move rfl) ?_
   obtain ⟨x5, hx6, h'⟩ := bind_some h
   clear h
   have h := h'; clear h'
   obtain ⟨b8, o9, hi7, -⟩ := (H.ro 0 rfl).ix hx6
   refine st (v := (pt b8 o9)) (rv_ix Try.underlying24 ti3 rfl rfl hi7) ?_
   have hc10 := ((H.ro 0 rfl).at hx6 hi7).int
   refine st (v := (I x5)) (rv_load1 Try.underlying3 rfl rfl hc10) ?_
   refine st (v := (I n_1)) (rv_move rfl) ?_
   refine st (v := (B (x5 == n_1))) (rv_eql (a := x5) (b := n_1) rfl rfl) ?_
   refine w_end ?_
   refine q_then ?_
   refine cd_cond (x5 == n_1) rfl (fun hb11 => ?_) (fun hb11 => ?_)
   ·replace h := bif_t hb11 h
    refine c_seq ?_
    refine rg ?_
    refine st (v := (B true)) (rv_assign rfl) ?_
    refine w_end ?_
    refine q_then ?_
    refine c_ret ?_
    refine q_blk_r ?_
    refine q_then_r ?_
    refine q_then_r ?_
    refine q_blk_r ?_
    obtain rfl := Option.some.inj h
    obtain rfl := hres _ rfl
    exact .inr (⟨_, rfl, rfl, _, σ3, fr_join ⟨rfl, trivial⟩, rfl, H.sel' [] rfl rfl⟩)
   ·replace h := bif_f hb11 h
    refine c_skip ?_
    refine q_blk ?_
    refine q_then ?_
    refine rg ?_
    refine st (v := (I s2)) (rv_move rfl) ?_
    refine st (v := (I (w64 (s2 + 1)))) (rv_add (a := s2) (b := 1) rfl rfl) ?_
    refine st (v := (I (w64 (s2 + 1)))) (rv_assign rfl) ?_
    refine w_end ?_
    refine q_then ?_
    obtain rfl := Option.some.inj h
    exact ⟨_, rfl, _, σ3, fr_join ⟨rfl, rfl, rfl, trivial⟩, rfl, H.sel' [0] rfl rfl⟩
  ·replace h := bif_f hb4 h
   refine c_exit ?_
   refine q_then_x ?_
   refine q_then_x ?_
   refine q_blk_hit ?_
   obtain rfl := Option.some.inj h
   obtain rfl := hres _ rfl
   exact .inl ⟨_, rfl, rfl, _, σ3, fr_join trivial, rfl, H.sel' [] rfl rfl⟩
 ·clear hj
  have h := h'
  clear h' H
  rintro e a w (⟨t12, rfl, rfl, ρ, σ13, rfl, rfl, H⟩ | ⟨t14, rfl, rfl, ρ, σ15, rfl, rfl, H⟩)
  ·replace h := selim_l h
   refine q_then ?_
   refine c_seq ?_
   refine rg ?_
   refine st (v := (B false)) (rv_assign rfl) ?_
   refine w_end ?_
   refine q_then ?_
   refine c_ret ?_
   obtain rfl := Option.some.inj h
   exact fin_ret (v := (B false)) (results_ok Try.results107 (res_tmp (v := (B false)) rfl res_nil) rfl) ⟨rfl, rfl⟩ (H.sel' [] rfl rfl)
  ·replace h := selim_r h
   refine q_then_r ?_
   obtain rfl := Option.some.inj h
   exact fin_ret (v := (B t14)) (results_ok Try.results107 (res_tmp (v := (B t14)) rfl res_nil) rfl) ⟨rfl, rfl⟩ (H.sel' [] rfl rfl)

theorem c_spec_ProbeCost {centres_0 : List (List Int)} {list_1 : List (Int × (List Int) × Int)} {at_2 : List Int} {many_3 : Int} {acentres_0 : Option Addr} {ccentres_0 : Nat} {alist_1 : Option Addr} {clist_1 : Nat} {aat_2 : Option Addr} {cat_2 : Nat} {r : Int} (h : M.spec_ProbeCost centres_0 list_1 at_2 many_3 = some r) :
    Cal2 Try.prog 47 [(Sl acentres_0 centres_0 ccentres_0), (Sl alist_1 list_1 clist_1), (Sl aat_2 at_2 cat_2), (I many_3)] [Ch.ro 0 (Sl acentres_0 centres_0 ccentres_0) centres_0, Ch.ro 0 (Sl alist_1 list_1 clist_1) list_1, Ch.ro 0 (Sl aat_2 at_2 cat_2) at_2] (fun n0 v L => v = (I r) ∧ L = []) := by
 refine cal2 (n := 51) Try.func47 rfl rfl rfl rfl ?_
 intro S0 σ0 n0 hn0 H
 unfold M.spec_ProbeCost at h
 refine c_seq ?_
 refine rg ?_
 refine st (v := (I 0)) (rv_assign rfl) ?_
 refine w_end ?_
 refine q_then ?_
 refine c_seq ?_
 refine c_seq ?_
 obtain ⟨o1, hj, h'⟩ := bind_some h
 clear h
 refine c_cut (fun e a w => e = .normal ∧ ∃ (ρ : Nat → Value) (σ : St), a = fr 51 (updL ρ [(0, (Sl acentres_0 centres_0 ccentres_0)), (1, (Sl alist_1 list_1 clist_1)), (2, (Sl aat_2 at_2 cat_2)), (3, (I many_3)), (25, (B o1))]) ∧ w = σ.w ∧ Hp S0 σ0 σ [Ch.ro 0 (Sl acentres_0 centres_0 ccentres_0) centres_0, Ch.ro 0 (Sl alist_1 list_1 clist_1) list_1, Ch.ro 0 (Sl aat_2 at_2 cat_2) at_2]) ?_ ?_
 ·clear h'
  rename _ = some o1 => h
  refine rg ?_
  refine st (v := (Sl acentres_0 centres_0 ccentres_0)) (rv_move rfl) ?_
  obtain ⟨r2, hx3, h'⟩ := bind_some h
  clear h
  have h := h'; clear h'
  have hc4 := c_spec_validCentres (alist_0 := acentres_0) (clist_0 := ccentres_0) hx3
  refine st_call (cx_call hc4 (ent_f hc4.fn rfl) hn0 (show Hp S0 σ0 _ ([Ch.ro 0 (Sl acentres_0 centres_0 ccentres_0) centres_0] ++ [Ch.ro 0 (Sl acentres_0 centres_0 ccentres_0) centres_0, Ch.ro 0 (Sl alist_1 list_1 clist_1) list_1, Ch.ro 0 (Sl aat_2 at_2 cat_2) at_2]) from (H.sel' [0, 0, 1, 2] rfl rfl))) wn ?_
  rintro _ σ5 ⟨_, ⟨rfl, rfl⟩, H, -⟩
  replace H : Hp S0 σ0 σ5 [Ch.ro 0 (Sl acentres_0 centres_0 ccentres_0) centres_0, Ch.ro 0 (Sl alist_1 list_1 clist_1) list_1, Ch.ro 0 (Sl aat_2 at_2 cat_2) at_2] := H
  refine st (v := (B (!r2))) (rv_not rfl) ?_
  refine st (v := (B (!r2))) (rv_move rfl) ?_
  rcases Bool.eq_false_or_eq_true (!r2) with hb6 | hb6
  ·replace h := bif_t hb6 h
   refine st_skip (congrArg some hb6) ?_
   refine st_skip (congrArg some hb6) ?_
   refine st_skip (congrArg some hb6) ?_
   refine st_skip (congrArg some hb6) ?_
   refine st (v := (B true)) (rv_pick_t (congrArg B hb6) rfl) ?_
   refine st (v := (B true)) (rv_move rfl) ?_
   refine st_skip rfl ?_
   refine st_skip rfl ?_
   refine st_skip rfl ?_
   refine st (v := (B true)) (rv_pick_t rfl rfl) ?_
   refine w_end ?_
   obtain rfl := Option.some.inj h
   exact ⟨rfl, _, σ5, fr_join ⟨rfl, rfl, rfl, rfl, rfl, trivial⟩, rfl, H.sel' [0, 1, 2] rfl rfl⟩
  ·replace h := bif_f hb6 h
   refine st_g (v := (Sl alist_1 list_1 clist_1)) (congrArg some hb6) (rv_move rfl) ?_
   refine st_g (v := (Sl aat_2 at_2 cat_2)) (congrArg some hb6) (rv_move rfl) ?_
   obtain ⟨r7, hx8, h'⟩ := bind_some h
   clear h
   have h := h'; clear h'
   have hc9 := c_spec_validQuery (alist_0 := alist_1) (clist_0 := clist_1) (aat_2 := aat_2) (cat_2 := cat_2) hx8
   refine st_call (cx_call hc9 (ent_f hc9.fn rfl) hn0 (show Hp S0 σ0 _ ([Ch.ro 0 (Sl alist_1 list_1 clist_1) list_1, Ch.ro 0 (Sl aat_2 at_2 cat_2) at_2] ++ [Ch.ro 0 (Sl acentres_0 centres_0 ccentres_0) centres_0, Ch.ro 0 (Sl alist_1 list_1 clist_1) list_1, Ch.ro 0 (Sl aat_2 at_2 cat_2) at_2]) from (H.sel' [1, 2, 0, 1, 2] rfl rfl))) (wanted_yes rfl (by exact (congrArg some hb6))) ?_
   rintro _ σ10 ⟨_, ⟨rfl, rfl⟩, H, -⟩
   replace H : Hp S0 σ0 σ10 [Ch.ro 0 (Sl acentres_0 centres_0 ccentres_0) centres_0, Ch.ro 0 (Sl alist_1 list_1 clist_1) list_1, Ch.ro 0 (Sl aat_2 at_2 cat_2) at_2] := H
   refine st_g (v := (B (!r7))) (congrArg some hb6) (rv_not rfl) ?_
   refine st (v := (B (!r7))) (rv_pick_f (congrArg B hb6) rfl) ?_
   refine st (v := (B (!r7))) (rv_move rfl) ?_
   rcases Bool.eq_false_or_eq_true (!r7) with hb11 | hb11
   ·replace h := bif_t hb11 h
    refine st_skip (congrArg some hb11) ?_
    refine st_skip (congrArg some hb11) ?_
    refine st_skip (congrArg some hb11) ?_
    refine st (v := (B true)) (rv_pick_t (congrArg B hb11) rfl) ?_
    refine w_end ?_
    obtain rfl := Option.some.inj h
    exact ⟨rfl, _, σ10, fr_join ⟨rfl, rfl, rfl, rfl, rfl, trivial⟩, rfl, H.sel' [0, 1, 2] rfl rfl⟩
   ·replace h := bif_f hb11 h
    refine st_g (v := (I many_3)) (congrArg some hb11) (rv_move rfl) ?_
    obtain ⟨r12, hx13, h'⟩ := bind_some h
    clear h
    have h := h'; clear h'
    have hc14 := c_spec_inRange hx13
    refine st_call (cx_call hc14 (ent_f hc14.fn rfl) hn0 (show Hp S0 σ0 _ ([] ++ [Ch.ro 0 (Sl acentres_0 centres_0 ccentres_0) centres_0, Ch.ro 0 (Sl alist_1 list_1 clist_1) list_1, Ch.ro 0 (Sl aat_2 at_2 cat_2) at_2]) from (H.sel' [0, 1, 2] rfl rfl))) (wanted_yes rfl (by exact (congrArg some hb11))) ?_
    rintro _ σ15 ⟨_, ⟨rfl, rfl⟩, H, -⟩
    replace H : Hp S0 σ0 σ15 [Ch.ro 0 (Sl acentres_0 centres_0 ccentres_0) centres_0, Ch.ro 0 (Sl alist_1 list_1 clist_1) list_1, Ch.ro 0 (Sl aat_2 at_2 cat_2) at_2] := H
    refine st_g (v := (B (!r12))) (congrArg some hb11) (rv_not rfl) ?_
    refine st (v := (B (!r12))) (rv_pick_f (congrArg B hb11) rfl) ?_
    refine w_end ?_
    obtain rfl := Option.some.inj h
    exact ⟨rfl, _, σ15, fr_join ⟨rfl, rfl, rfl, rfl, rfl, trivial⟩, rfl, H.sel' [0, 1, 2] rfl rfl⟩
 ·clear hj
  have h := h'
  clear h' H
  rintro e a w ⟨rfl, ρ, σ16, rfl, rfl, H⟩
  refine q_then ?_
  refine cd_cond o1 rfl (fun hb17 => ?_) (fun hb17 => ?_)
  ·replace h := bif_t hb17 h
   refine c_seq ?_
   refine rg ?_
   refine st (v := (I (-1))) (rv_assign rfl) ?_
   refine w_end ?_
   refine q_then ?_
   refine c_ret ?_
   refine q_then_r ?_
   obtain rfl := Option.some.inj h
   exact fin_ret (v := (I (-1))) (results_ok Try.results47 (res_tmp (v := (I (-1))) rfl res_nil) rfl) ⟨rfl, rfl⟩ (H.sel' [] rfl rfl)
  ·replace h := bif_f hb17 h
   refine c_skip ?_
   refine q_then ?_
   refine c_seq ?_
   refine rg ?_
   refine st (v := (Sl acentres_0 centres_0 ccentres_0)) (rv_move rfl) ?_
   refine st (v := (I (centres_0.length : Int))) (rv_len Try.underlying52 rfl) ?_
   refine st (v := (I (centres_0.length : Int))) (rv_assign rfl) ?_
   refine w_end ?_
   refine q_then ?_
   refine c_seq ?_
   refine rg ?_
   refine st (v := (Sl acentres_0 centres_0 ccentres_0)) (rv_move rfl) ?_
   refine st (v := (Sl aat_2 at_2 cat_2)) (rv_move rfl) ?_
   refine st (v := (I many_3)) (rv_move rfl) ?_
   obtain ⟨r18, hx19, h'⟩ := bind_some h
   clear h
   have h := h'; clear h'
   have hc20 := c_spec_probes (acentres_0 := acentres_0) (ccentres_0 := ccentres_0) (aat_1 := aat_2) (cat_1 := cat_2) hx19
   refine st_call (cx_call hc20 (ent_f hc20.fn rfl) hn0 (show Hp S0 σ0 _ ([Ch.ro 0 (Sl acentres_0 centres_0 ccentres_0) centres_0, Ch.ro 0 (Sl aat_2 at_2 cat_2) at_2] ++ [Ch.ro 0 (Sl acentres_0 centres_0 ccentres_0) centres_0, Ch.ro 0 (Sl alist_1 list_1 clist_1) list_1, Ch.ro 0 (Sl aat_2 at_2 cat_2) at_2]) from (H.sel' [0, 2, 0, 1, 2] rfl rfl))) wn ?_
   rintro _ σ23 ⟨_, ⟨a21, c22, rfl, rfl⟩, H, -⟩
   replace H : Hp S0 σ0 σ23 [Ch.own n0 n0 (Sl a21 r18 c22) r18, Ch.ro 0 (Sl acentres_0 centres_0 ccentres_0) centres_0, Ch.ro 0 (Sl alist_1 list_1 clist_1) list_1, Ch.ro 0 (Sl aat_2 at_2 cat_2) at_2] := H
   refine st (v := (Sl a21 r18 c22)) (rv_assign rfl) ?_
   refine w_end ?_
   refine q_then ?_
   refine c_seq ?_
   refine c_seq ?_
   refine rg ?_
   refine st (v := (I 0)) (rv_assign rfl) ?_
   refine w_end ?_
   refine q_then ?_
   obtain ⟨o24, hj, h'⟩ := bind_some h
   clear h
   refine c_cut (fun e a w => e = .normal ∧ ∃ (ρ : Nat → Value) (σ : St), a = fr 51 (updL ρ [(9, (I o24))]) ∧ w = σ.w ∧ Hp S0 σ0 σ []) ?_ ?_
   ·clear h'
    rename _ = some o24 => h
    refine c_blk ?_
    refine wp_loopM _ h (fun s25 a w => ∃ (ρ : Nat → Value) (σ : St), a = fr 51 (updL ρ [(0, (Sl acentres_0 centres_0 ccentres_0)), (1, (Sl alist_1 list_1 clist_1)), (9, (I s25.1)), (10, (Sl a21 r18 c22)), (11, (I s25.2))]) ∧ w = σ.w ∧ Hp S0 σ0 σ [Ch.ro 0 (Sl acentres_0 centres_0 ccentres_0) centres_0, Ch.ro 0 (Sl alist_1 list_1 clist_1) list_1, Ch.own n0 n0 (Sl a21 r18 c22) r18]) ⟨_, σ23, fr_join ⟨rfl, rfl, rfl, rfl, rfl, trivial⟩, rfl, H.sel' [1, 2, 0] rfl rfl⟩ ?_
    clear h H
    rintro s25 a w o ⟨ρ, σ26, rfl, rfl, H⟩ h hres
    refine c_seq ?_
    refine c_seq ?_
    refine rg ?_
    refine st (v := (I s25.2)) (rv_move rfl) ?_
    refine st (v := (Sl alist_1 list_1 clist_1)) (rv_move rfl) ?_
    refine st (v := (I (list_1.length : Int))) (rv_len Try.underlying23 rfl) ?_
    refine st (v := (B (decide (s25.2 < (list_1.length : Int))))) (rv_lss (a := s25.2) (b := (list_1.length : Int)) rfl rfl) ?_
    refine w_end ?_
    refine q_then ?_
    refine cd_cond (decide (s25.2 < (list_1.length : Int))) rfl (fun hb27 => ?_) (fun hb27 => ?_)
    ·replace h := bif_t hb27 h
     refine c_skip ?_
     refine q_then ?_
     refine c_seq ?_
     refine c_blk ?_
     refine rg ?_
     refine st (v := (I s25.1)) (rv_move rfl) ?_
     refine st (v := (Sl a21 r18 c22)) (rv_move rfl) ?_
     refine st (v := (Sl acentres_0 centres_0 ccentres_0)) (rv_move rfl) ?_
     refine st (v := (Sl alist_1 list_1 clist_1)) (rv_move rfl) ?_
     refine st (v := (I s25.2)) (rv_move rfl) ?_
     obtain ⟨x28, hx29, h'⟩ := bind_some h
     clear h
     have h := h'; clear h'
     obtain ⟨b31, o32, hi30, -⟩ := (H.ro 1 rfl).ix hx29
     refine st (v := (pt b31 o32)) (rv_ix Try.underlying23 ti40 rfl rfl hi30) ?_
     refine st (v := (pt b31 (o32 + 1))) (rv_fieldAddr (off := 1) (ft := 24) Try.underlying40 rfl ti24 rfl rfl) ?_
     obtain ⟨v36, hc37, hR35⟩ := ((H.ro 1 rfl).at hx29 hi30).snd.fst.slice
     obtain ⟨a33, c34, rfl⟩ := hR35.isSl
     replace H := H.add (d := Ch.ro 0 (Sl a33 x28.2.1 c34) x28.2.1) hR35 (fun _ h => h)
     clear hR35
     refine st (v := (Sl a33 x28.2.1 c34)) (rv_load1 Try.underlying24 rfl rfl hc37) ?_
     obtain ⟨r38, hx39, h'⟩ := bind_some h
     clear h
     have h := h'; clear h'
     have hc40 := c_spec_centreOf (acentres_0 := acentres_0) (ccentres_0 := ccentres_0) (aat_1 := a33) (cat_1 := c34) hx39
     refine st_call (cx_call hc40 (ent_f hc40.fn rfl) hn0 (show Hp S0 σ0 _ ([Ch.ro 0 (Sl acentres_0 centres_0 ccentres_0) centres_0, Ch.ro 0 (Sl a33 x28.2.1 c34) x28.2.1] ++ [Ch.ro 0 (Sl a33 x28.2.1 c34) x28.2.1, Ch.ro 0 (Sl acentres_0 centres_0 ccentres_0) centres_0, Ch.ro 0 (Sl alist_1 list_1 clist_1) list_1, Ch.own n0 n0 (Sl a21 r18 c22) r18]) from (H.sel' [1, 0, 0, 1, 2, 3] rfl rfl))) wn ?_
     rintro _ σ41 ⟨_, ⟨rfl, rfl⟩, H, -⟩
     replace H : Hp S0 σ0 σ41 [Ch.ro 0 (Sl a33 x28.2.1 c34) x28.2.1, Ch.ro 0 (Sl acentres_0 centres_0 ccentres_0) centres_0, Ch.ro 0 (Sl alist_1 list_1 clist_1) list_1, Ch.own n0 n0 (Sl a21 r18 c22) r18] := H
     obtain ⟨r42, hx43, h'⟩ := bind_some h
     clear h
     have h := h'; clear h'
     have hc44 := c_spec_isIn (alist_0 := a21) (clist_0 := c22) hx43
     have hle := Nat.le_trans hn0 H.size
     refine st_call (cx_lend (Loan.lend Loan.nil) hc44 (ent_f hc44.fn rfl) (show Hp S0 σ0 _ ([Ch.own n0 n0 (Sl a21 r18 c22) r18] ++ ([] ++ [Ch.ro 0 (Sl a33 x28.2.1 c34) x28.2.1, Ch.ro 0 (Sl acentres_0 centres_0 ccentres_0) centres_0, Ch.ro 0 (Sl alist_1 list_1 clist_1) list_1])) from (H.sel' [3, 0, 1, 2] rfl rfl)) (by rintro _ _ _ ⟨rfl, rfl⟩; exact trivial)) wn ?_
     rintro _ σ45 ⟨_, ⟨rfl, rfl⟩, H, -, -⟩
     replace H : Hp S0 σ0 σ45 [Ch.own n0 n0 (Sl a21 r18 c22) r18, Ch.ro 0 (Sl a33 x28.2.1 c34) x28.2.1, Ch.ro 0 (Sl acentres_0 centres_0 ccentres_0) centres_0, Ch.ro 0 (Sl alist_1 list_1 clist_1) list_1] := H
     clear hle
     replace H : Hp S0 σ0 σ45 [Ch.own n0 n0 (Sl a21 r18 c22) r18, Ch.ro 0 (Sl a33 x28.2.1 c34) x28.2.1, Ch.ro 0 (Sl acentres_0 centres_0 ccentres_0) centres_0, Ch.ro 0 (Sl alist_1 list_1 clist_1) list_1] := H
     obtain ⟨r46, hx47, h'⟩ := bind_some h
     clear h
     have h := h'; clear h'
     have hc48 := c_spec_toInt hx47
     refine st_call (cx_call hc48 (ent_f hc48.fn rfl) hn0 (show Hp S0 σ0 _ ([] ++ [Ch.own n0 n0 (Sl a21 r18 c22) r18, Ch.ro 0 (Sl a33 x28.2.1 c34) x28.2.1, Ch.ro 0 (Sl acentres_0 centres_0 ccentres_0) centres_0, Ch.ro 0 (Sl alist_1 list_1 clist_1) list_1]) from (H.sel' [0, 1, 2, 3] rfl rfl))) wn ?_
     rintro _ σ49 ⟨_, ⟨rfl, rfl⟩, H, -⟩
     replace H : Hp S0 σ0 σ49 [Ch.own n0 n0 (Sl a21 r18 c22) r18, Ch.ro 0 (Sl a33 x28.2.1 c34) x28.2.1, Ch.ro 0 (Sl acentres_0 centres_0 ccentres_0) centres_0, Ch.ro 0 (Sl alist_1 list_1 clist_1) list_1] := H
     refine st (v := (I (w64 (s25.1 + r46)))) (rv_add (a := s25.1) (b := r46) rfl rfl) ?_
     refine st (v := (I (w64 (s25.1 + r46)))) (rv_assign rfl) ?_
     refine w_end ?_
     refine q_blk ?_
     refine q_then ?_
     refine rg ?_
     refine st (v := (I s25.2)) (rv_move rfl) ?_
     refine st (v := (I (w64 (s25.2 + 1)))) (rv_add (a := s25.2) (b := 1) rfl rfl) ?_
     refine st (v := (I (w64 (s25.2 + 1)))) (rv_assign rfl) ?_
     refine w_end ?_
     refine q_then ?_
     obtain rfl := Option.some.inj h
     exact ⟨_, rfl, _, σ49, fr_join ⟨rfl, rfl, rfl, rfl, rfl, trivial⟩, rfl, H.sel' [2, 3, 0] rfl rfl⟩
    ·replace h := bif_f hb27 h
     refine c_exit ?_
     refine q_then_x ?_
     refine q_then_x ?_
     refine q_blk_hit ?_
     obtain rfl := Option.some.inj h
     obtain rfl := hres _ rfl
     exact ⟨rfl, _, σ26, fr_join ⟨rfl, trivial⟩, rfl, H.sel' [] rfl rfl⟩
   ·clear hj
    have h := h'
    clear h' H
    rintro e a w ⟨rfl, ρ, σ50, rfl, rfl, H⟩
    refine q_then ?_
    refine c_seq ?_
    refine rg ?_
    refine st (v := (I o24)) (rv_move rfl) ?_
    refine st (v := (I o24)) (rv_assign rfl) ?_
    refine w_end ?_
    refine q_then ?_
    refine c_ret ?_
    obtain rfl := Option.some.inj h
    exact fin_ret (v := (I o24)) (results_ok Try.results47 (res_tmp (v := (I o24)) rfl res_nil) rfl) ⟨rfl, rfl⟩ (H.sel' [] rfl rfl)

theorem c_laws_FnProbeCostMore {code_0 : List UInt8} {acode_0 : Option Addr} {ccode_0 : Nat} {r : Bool} (h : M.laws_FnProbeCostMore code_0 = some r) :
    Cal2 Try.prog 12 [(Sl acode_0 code_0 ccode_0)] [Ch.ro 0 (Sl acode_0 code_0 ccode_0) code_0] (fun n0 v L => v = (B r) ∧ L = []) := by
 refine cal2 (n := 65) Try.func12 rfl rfl rfl rfl ?_
 intro S0 σ0 n0 hn0 H
 unfold M.laws_FnProbeCostMore at h
 refine c_seq ?_
 refine rg ?_
 refine st (v := (B false)) (rv_assign rfl) ?_
 refine w_end ?_
 refine q_then ?_
 refine c_seq ?_
 refine c_seq ?_
 refine rg ?_
 refine st (v := (Sl acode_0 code_0 ccode_0)) (rv_move rfl) ?_
 refine st (v := (I (code_0.length : Int))) (rv_len Try.underlying22 rfl) ?_
 refine st (v := (B (decide (1048576 < (code_0.length : Int))))) (rv_gtr (a := (code_0.length : Int)) (b := 1048576) rfl rfl) ?_
 refine w_end ?_
 refine q_then ?_
 refine cd_cond (decide (1048576 < (code_0.length : Int))) rfl (fun hb1 => ?_) (fun hb1 => ?_)
 ·replace h := bif_t hb1 h
  refine c_seq ?_
  refine rg ?_
  refine st (v := (B true)) (rv_assign rfl) ?_
  refine w_end ?_
  refine q_then ?_
  refine c_ret ?_
  refine q_then_r ?_
  obtain rfl := Option.some.inj h
  exact fin_ret (v := (B true)) (results_ok Try.results12 (res_tmp (v := (B true)) rfl res_nil) rfl) ⟨rfl, rfl⟩ (H.sel' [] rfl rfl)
 ·replace h := bif_f hb1 h
  refine c_skip ?_
  refine q_then ?_
  refine c_seq ?_
  refine rg ?_
  refine st (v := (Sl acode_0 code_0 ccode_0)) (rv_move rfl) ?_
  obtain ⟨r2, hx3, h'⟩ := bind_some h
  clear h
  have h := h'; clear h'
  have hc4 := c_spec_DrawProbeCost (acode_0 := acode_0) (ccode_0 := ccode_0) hx3
  refine st_call (cx_call hc4 (ent_f hc4.fn rfl) hn0 (show Hp S0 σ0 _ ([Ch.ro 0 (Sl acode_0 code_0 ccode_0) code_0] ++ [Ch.ro 0 (Sl acode_0 code_0 ccode_0) code_0]) from (H.sel' [0, 0] rfl rfl))) wn ?_
  rintro _ σ11 ⟨_, ⟨a5, c6, a7, c8, a9, c10, rfl, rfl⟩, H, -⟩
  replace H : Hp S0 σ0 σ11 [Ch.own n0 n0 (Sl a5 r2.1 c6) r2.1, Ch.own n0 n0 (Sl a7 r2.2.1 c8) r2.2.1, Ch.own n0 n0 (Sl a9 r2.2.2.1 c10) r2.2.2.1, Ch.ro 0 (Sl acode_0 code_0 ccode_0) code_0] := H
  refine st (v := (.tuple #[(Sl a5 r2.1 c6), (Sl a7 r2.2.1 c8), (Sl a9 r2.2.2.1 c10), (I r2.2.2.2)])) (rv_move rfl) ?_
  refine st (v := (Sl a5 r2.1 c6)) (rv_extract rfl rfl) ?_
  refine st (v := (Sl a7 r2.2.1 c8)) (rv_extract rfl rfl) ?_
  refine st (v := (Sl a9 r2.2.2.1 c10)) (rv_extract rfl rfl) ?_
  refine st (v := (I r2.2.2.2)) (rv_extract rfl rfl) ?_
  refine st (v := (Sl a5 r2.1 c6)) (rv_assign rfl) ?_
  refine st (v := (Sl a7 r2.2.1 c8)) (rv_assign rfl) ?_
  refine st (v := (Sl a9 r2.2.2.1 c10)) (rv_assign rfl) ?_
  refine st (v := (I r2.2.2.2)) (rv_assign rfl) ?_
  refine w_end ?_
  refine q_then ?_
  refine c_seq ?_
  refine rg ?_
  refine st (v := (Sl a5 r2.1 c6)) (rv_move rfl) ?_
  refine st (v := (Sl a7 r2.2.1 c8)) (rv_move rfl) ?_
  refine st (v := (Sl a9 r2.2.2.1 c10)) (rv_move rfl) ?_
  refine st (v := (I r2.2.2.2)) (rv_move rfl) ?_
  obtain ⟨r12, hx13, h'⟩ := bind_some h
  clear h
  have h := h'; clear h'
  have hc14 := c_impl_ProbeCost (acentres_0 := a5) (ccentres_0 := c6) (alist_1 := a7) (clist_1 := c8) (aat_2 := a9) (cat_2 := c10) hx13
  have hle := Nat.le_trans hn0 H.size
  refine st_call (cx_lend (Loan.lend (Loan.lend (Loan.lend Loan.nil))) hc14 (ent_f hc14.fn rfl) (show Hp S0 σ0 _ ([Ch.own n0 n0 (Sl a5 r2.1 c6) r2.1, Ch.own n0 n0 (Sl a7 r2.2.1 c8) r2.2.1, Ch.own n0 n0 (Sl a9 r2.2.2.1 c10) r2.2.2.1] ++ ([] ++ [Ch.ro 0 (Sl acode_0 code_0 ccode_0) code_0])) from (H.sel' [0, 1, 2, 3] rfl rfl)) (by rintro _ _ _ ⟨rfl, rfl⟩; exact trivial)) wn ?_
  rintro _ σ15 ⟨_, ⟨rfl, rfl⟩, H, -, -⟩
  replace H : Hp S0 σ0 σ15 [Ch.own n0 n0 (Sl a5 r2.1 c6) r2.1, Ch.own n0 n0 (Sl a7 r2.2.1 c8) r2.2.1, Ch.own n0 n0 (Sl a9 r2.2.2.1 c10) r2.2.2.1, Ch.ro 0 (Sl acode_0 code_0 ccode_0) code_0] := H
  clear hle
  replace H : Hp S0 σ0 σ15 [Ch.own n0 n0 (Sl a5 r2.1 c6) r2.1, Ch.own n0 n0 (Sl a7 r2.2.1 c8) r2.2.1, Ch.own n0 n0 (Sl a9 r2.2.2.1 c10) r2.2.2.1, Ch.ro 0 (Sl acode_0 code_0 ccode_0) code_0] := H
  refine st (v := (I r12)) (rv_assign rfl) ?_
  refine w_end ?_
  refine q_then ?_
  refine c_seq ?_
  refine c_seq ?_
  obtain ⟨o16, hj, h'⟩ := bind_some h
  clear h
  refine c_cut (fun e a w => e = .normal ∧ ∃ (ρ : Nat → Value) (σ : St), a = fr 65 (updL ρ [(3, (Sl a5 r2.1 c6)), (4, (Sl a7 r2.2.1 c8)), (5, (Sl a9 r2.2.2.1 c10)), (6, (I r2.2.2.2)), (7, (I r12)), (37, (B o16))]) ∧ w = σ.w ∧ Hp S0 σ0 σ [Ch.own n0 n0 (Sl a5 r2.1 c6) r2.1, Ch.own n0 n0 (Sl a7 r2.2.1 c8) r2.2.1, Ch.own n0 n0 (Sl a9 r2.2.2.1 c10) r2.2.2.1]) ?_ ?_
  ·clear h'
   rename _ = some o16 => h
   refine rg ?_
   refine st (v := (I r12)) (rv_move rfl) ?_
   refine st (v := (Sl a5 r2.1 c6)) (rv_move rfl) ?_
   refine st (v := (Sl a7 r2.2.1 c8)) (rv_move rfl) ?_
   refine st (v := (Sl a9 r2.2.2.1 c10)) (rv_move rfl) ?_
   refine st (v := (I r2.2.2.2)) (rv_move rfl) ?_
   obtain ⟨r17, hx18, h'⟩ := bind_some h
   clear h
   have h := h'; clear h'
   have hc19 := c_spec_ProbeCost (acentres_0 := a5) (ccentres_0 := c6) (alist_1 := a7) (clist_1 := c8) (aat_2 := a9) (cat_2 := c10) hx18
   have hle := Nat.le_trans hn0 H.size
   refine st_call (cx_lend (Loan.lend (Loan.lend (Loan.lend Loan.nil))) hc19 (ent_f hc19.fn rfl) (show Hp S0 σ0 _ ([Ch.own n0 n0 (Sl a5 r2.1 c6) r2.1, Ch.own n0 n0 (Sl a7 r2.2.1 c8) r2.2.1, Ch.own n0 n0 (Sl a9 r2.2.2.1 c10) r2.2.2.1] ++ ([] ++ [Ch.ro 0 (Sl acode_0 code_0 ccode_0) code_0])) from (H.sel' [0, 1, 2, 3] rfl rfl)) (by rintro _ _ _ ⟨rfl, rfl⟩; exact trivial)) wn ?_
   rintro _ σ20 ⟨_, ⟨rfl, rfl⟩, H, -, -⟩
   replace H : Hp S0 σ0 σ20 [Ch.own n0 n0 (Sl a5 r2.1 c6) r2.1, Ch.own n0 n0 (Sl a7 r2.2.1 c8) r2.2.1, Ch.own n0 n0 (Sl a9 r2.2.2.1 c10) r2.2.2.1, Ch.ro 0 (Sl acode_0 code_0 ccode_0) code_0] := H
   clear hle
   replace H : Hp S0 σ0 σ20 [Ch.own n0 n0 (Sl a5 r2.1 c6) r2.1, Ch.own n0 n0 (Sl a7 r2.2.1 c8) r2.2.1, Ch.own n0 n0 (Sl a9 r2.2.2.1 c10) r2.2.2.1, Ch.ro 0 (Sl acode_0 code_0 ccode_0) code_0] := H
   refine st (v := (B (r12 != r17))) (rv_neq (a := r12) (b := r17) rfl rfl) ?_
   refine st (v := (B (r12 != r17))) (rv_move rfl) ?_
   rcases Bool.eq_false_or_eq_true (r12 != r17) with hb21 | hb21
   ·replace h := bif_t hb21 h
    refine st_skip (congrArg some hb21) ?_
    refine st_skip (congrArg some hb21) ?_
    refine st (v := (B true)) (rv_pick_t (congrArg B hb21) rfl) ?_
    refine st (v := (B true)) (rv_move rfl) ?_
    refine st_skip rfl ?_
    refine st_skip rfl ?_
    refine st (v := (B true)) (rv_pick_t rfl rfl) ?_
    refine w_end ?_
    obtain rfl := Option.some.inj h
    exact ⟨rfl, _, σ20, fr_join ⟨rfl, rfl, rfl, rfl, rfl, rfl, trivial⟩, rfl, H.sel' [0, 1, 2] rfl rfl⟩
   ·replace h := bif_f hb21 h
    refine st_g (v := (I r12)) (congrArg some hb21) (rv_move rfl) ?_
    refine st_g (v := (B (decide (r12 < 0)))) (congrArg some hb21) (rv_lss (a := r12) (b := 0) rfl rfl) ?_
    refine st (v := (B (decide (r12 < 0)))) (rv_pick_f (congrArg B hb21) rfl) ?_
    refine st (v := (B (decide (r12 < 0)))) (rv_move rfl) ?_
    rcases Bool.eq_false_or_eq_true (decide (r12 < 0)) with hb22 | hb22
    ·replace h := bif_t hb22 h
     refine st_skip (congrArg some hb22) ?_
     refine st_skip (congrArg some hb22) ?_
     refine st (v := (B true)) (rv_pick_t (congrArg B hb22) rfl) ?_
     refine w_end ?_
     obtain rfl := Option.some.inj h
     exact ⟨rfl, _, σ20, fr_join ⟨rfl, rfl, rfl, rfl, rfl, rfl, trivial⟩, rfl, H.sel' [0, 1, 2] rfl rfl⟩
    ·replace h := bif_f hb22 h
     refine st_g (v := (I r2.2.2.2)) (congrArg some hb22) (rv_move rfl) ?_
     refine st_g (v := (B (r2.2.2.2 == 4))) (congrArg some hb22) (rv_eql (a := r2.2.2.2) (b := 4) rfl rfl) ?_
     refine st (v := (B (r2.2.2.2 == 4))) (rv_pick_f (congrArg B hb22) rfl) ?_
     refine w_end ?_
     obtain rfl := Option.some.inj h
     exact ⟨rfl, _, σ20, fr_join ⟨rfl, rfl, rfl, rfl, rfl, rfl, trivial⟩, rfl, H.sel' [0, 1, 2] rfl rfl⟩
  ·clear hj
   have h := h'
   clear h' H
   rintro e a w ⟨rfl, ρ, σ23, rfl, rfl, H⟩
   refine q_then ?_
   refine cd_cond o16 rfl (fun hb24 => ?_) (fun hb24 => ?_)
   ·replace h := bif_t hb24 h
    refine c_seq ?_
    refine rg ?_
    refine st (v := (I r12)) (rv_move rfl) ?_
    refine st (v := (Sl a5 r2.1 c6)) (rv_move rfl) ?_
    refine st (v := (Sl a7 r2.2.1 c8)) (rv_move rfl) ?_
    refine st (v := (Sl a9 r2.2.2.1 c10)) (rv_move rfl) ?_
    refine st (v := (I r2.2.2.2)) (rv_move rfl) ?_
    obtain ⟨σ25, hw26, H, -⟩ := H.pub 0 rfl (Nat.le_refl _)
    rw [← hw26]; clear hw26
    obtain ⟨σ27, hw28, H, -⟩ := H.pub 1 rfl (Nat.le_refl _)
    rw [← hw28]; clear hw28
    obtain ⟨σ29, hw30, H, -⟩ := H.pub 2 rfl (Nat.le_refl _)
    rw [← hw30]; clear hw30
    replace H := H.roLow 2 0 rfl (Nat.zero_le _)
    replace H := H.roLow 2 0 rfl (Nat.zero_le _)
    replace H := H.roLow 2 0 rfl (Nat.zero_le _)
    obtain ⟨r31, hx32, h'⟩ := bind_some h
    clear h
    have h := h'; clear h'
    have hc33 := c_spec_ProbeCost (acentres_0 := a5) (ccentres_0 := c6) (alist_1 := a7) (clist_1 := c8) (aat_2 := a9) (cat_2 := c10) hx32
    refine st_call (cx_call hc33 (ent_f hc33.fn rfl) hn0 (show Hp S0 σ0 _ ([Ch.ro 0 (Sl a5 r2.1 c6) r2.1, Ch.ro 0 (Sl a7 r2.2.1 c8) r2.2.1, Ch.ro 0 (Sl a9 r2.2.2.1 c10) r2.2.2.1] ++ [Ch.ro 0 (Sl a9 r2.2.2.1 c10) r2.2.2.1, Ch.ro 0 (Sl a7 r2.2.1 c8) r2.2.1, Ch.ro 0 (Sl a5 r2.1 c6) r2.1, Ch.ro n0 (Sl a9 r2.2.2.1 c10) r2.2.2.1, Ch.ro n0 (Sl a7 r2.2.1 c8) r2.2.1, Ch.ro n0 (Sl a5 r2.1 c6) r2.1]) from (H.sel' [2, 1, 0, 0, 1, 2, 3, 4, 5] rfl rfl))) wn ?_
    rintro _ σ34 ⟨_, ⟨rfl, rfl⟩, H, -⟩
    replace H : Hp S0 σ0 σ34 [Ch.ro 0 (Sl a9 r2.2.2.1 c10) r2.2.2.1, Ch.ro 0 (Sl a7 r2.2.1 c8) r2.2.1, Ch.ro 0 (Sl a5 r2.1 c6) r2.1, Ch.ro n0 (Sl a9 r2.2.2.1 c10) r2.2.2.1, Ch.ro n0 (Sl a7 r2.2.1 c8) r2.2.1, Ch.ro n0 (Sl a5 r2.1 c6) r2.1] := H
    refine st (v := (B (r12 == r31))) (rv_eql (a := r12) (b := r31) rfl rfl) ?_
    refine st (v := (B (r12 == r31))) (rv_assign rfl) ?_
    refine w_end ?_
    refine q_then ?_
    refine c_ret ?_
    refine q_then_r ?_
    obtain rfl := Option.some.inj h
    exact fin_ret (v := (B (r12 == r31))) (results_ok Try.results12 (res_tmp (v := (B (r12 == r31))) rfl res_nil) rfl) ⟨rfl, rfl⟩ (H.sel' [] rfl rfl)
   ·replace h := bif_f hb24 h
    refine c_skip ?_
    refine q_then ?_
    refine c_seq ?_
    refine rg ?_
    refine st (v := (Sl a5 r2.1 c6)) (rv_move rfl) ?_
    refine st (v := (Sl a7 r2.2.1 c8)) (rv_move rfl) ?_
    refine st (v := (Sl a9 r2.2.2.1 c10)) (rv_move rfl) ?_
    refine st (v := (I r2.2.2.2)) (rv_move rfl) ?_
    refine st (v := (I (w64 (r2.2.2.2 + 1)))) (rv_add (a := r2.2.2.2) (b := 1) rfl rfl) ?_
    obtain ⟨r35, hx36, h'⟩ := bind_some h
    clear h
    have h := h'; clear h'
    have hc37 := c_impl_ProbeCost (acentres_0 := a5) (ccentres_0 := c6) (alist_1 := a7) (clist_1 := c8) (aat_2 := a9) (cat_2 := c10) hx36
    have hle := Nat.le_trans hn0 H.size
    refine st_call (cx_lend (Loan.lend (Loan.lend (Loan.lend Loan.nil))) hc37 (ent_f hc37.fn rfl) (show Hp S0 σ0 _ ([Ch.own n0 n0 (Sl a5 r2.1 c6) r2.1, Ch.own n0 n0 (Sl a7 r2.2.1 c8) r2.2.1, Ch.own n0 n0 (Sl a9 r2.2.2.1 c10) r2.2.2.1] ++ ([] ++ [])) from (H.sel' [0, 1, 2] rfl rfl)) (by rintro _ _ _ ⟨rfl, rfl⟩; exact trivial)) wn ?_
    rintro _ σ38 ⟨_, ⟨rfl, rfl⟩, H, -, -⟩
    replace H : Hp S0 σ0 σ38 [Ch.own n0 n0 (Sl a5 r2.1 c6) r2.1, Ch.own n0 n0 (Sl a7 r2.2.1 c8) r2.2.1, Ch.own n0 n0 (Sl a9 r2.2.2.1 c10) r2.2.2.1] := H
    clear hle
    replace H : Hp S0 σ0 σ38 [Ch.own n0 n0 (Sl a5 r2.1 c6) r2.1, Ch.own n0 n0 (Sl a7 r2.2.1 c8) r2.2.1, Ch.own n0 n0 (Sl a9 r2.2.2.1 c10) r2.2.2.1] := H
    refine st (v := (I r12)) (rv_move rfl) ?_
    refine st (v := (B (decide (r12 ≤ r35)))) (rv_geq (a := r35) (b := r12) rfl rfl) ?_
    refine st (v := (B (decide (r12 ≤ r35)))) (rv_move rfl) ?_
    rcases Bool.eq_false_or_eq_true (decide (r12 ≤ r35)) with hb39 | hb39
    ·replace h := bif_t hb39 h
     refine st_g (v := (Sl a5 r2.1 c6)) (congrArg some hb39) (rv_move rfl) ?_
     refine st_g (v := (Sl a7 r2.2.1 c8)) (congrArg some hb39) (rv_move rfl) ?_
     refine st_g (v := (Sl a9 r2.2.2.1 c10)) (congrArg some hb39) (rv_move rfl) ?_
     obtain ⟨σ40, hw41, H, -⟩ := H.pub 2 rfl (Nat.le_refl _)
     rw [← hw41]; clear hw41
     replace H := H.roLow 0 0 rfl (Nat.zero_le _)
     obtain ⟨r42, hx43, h'⟩ := bind_some h
     clear h
     have h := h'; clear h'
     have hc44 := c_impl_ProbeCost (acentres_0 := a5) (ccentres_0 := c6) (alist_1 := a7) (clist_1 := c8) (aat_2 := a9) (cat_2 := c10) hx43
     have hle := Nat.le_trans hn0 H.size
     refine st_call (cx_lend (Loan.lend (Loan.lend (Loan.same Loan.nil))) hc44 (ent_f hc44.fn rfl) (show Hp S0 σ0 _ ([Ch.own n0 n0 (Sl a5 r2.1 c6) r2.1, Ch.own n0 n0 (Sl a7 r2.2.1 c8) r2.2.1] ++ ([Ch.ro 0 (Sl a9 r2.2.2.1 c10) r2.2.2.1] ++ [Ch.ro 0 (Sl a9 r2.2.2.1 c10) r2.2.2.1, Ch.ro n0 (Sl a9 r2.2.2.1 c10) r2.2.2.1])) from (H.sel' [2, 3, 0, 0, 1] rfl rfl)) (by rintro _ _ _ ⟨rfl, rfl⟩; exact trivial)) (wanted_yes rfl (by exact (congrArg some hb39))) ?_
     rintro _ σ45 ⟨_, ⟨rfl, rfl⟩, H, -, -⟩
     replace H : Hp S0 σ0 σ45 [Ch.own n0 n0 (Sl a5 r2.1 c6) r2.1, Ch.own n0 n0 (Sl a7 r2.2.1 c8) r2.2.1, Ch.ro 0 (Sl a9 r2.2.2.1 c10) r2.2.2.1, Ch.ro n0 (Sl a9 r2.2.2.1 c10) r2.2.2.1] := H
     clear hle
     replace H : Hp S0 σ0 σ45 [Ch.own n0 n0 (Sl a5 r2.1 c6) r2.1, Ch.own n0 n0 (Sl a7 r2.2.1 c8) r2.2.1, Ch.ro 0 (Sl a9 r2.2.2.1 c10) r2.2.2.1, Ch.ro n0 (Sl a9 r2.2.2.1 c10) r2.2.2.1] := H
     refine st_g (v := (Sl a5 r2.1 c6)) (congrArg some hb39) (rv_move rfl) ?_
     refine st_g (v := (I (r2.1.length : Int))) (congrArg some hb39) (rv_len Try.underlying52 rfl) ?_
     refine st_g (v := (Sl a7 r2.2.1 c8)) (congrArg some hb39) (rv_move rfl) ?_
     refine st_g (v := (I (r2.2.1.length : Int))) (congrArg some hb39) (rv_len Try.underlying23 rfl) ?_
     refine st_g (v := (I (w64 ((r2.1.length : Int) + (r2.2.1.length : Int))))) (congrArg some hb39) (rv_add (a := (r2.1.length : Int)) (b := (r2.2.1.length : Int)) rfl rfl) ?_
     refine st_g (v := (B (r42 == (w64 ((r2.1.length : Int) + (r2.2.1.length : Int)))))) (congrArg some hb39) (rv_eql (a := r42) (b := (w64 ((r2.1.length : Int) + (r2.2.1.length : Int)))) rfl rfl) ?_
     refine st (v := (B (r42 == (w64 ((r2.1.length : Int) + (r2.2.1.length : Int)))))) (rv_pick_t (congrArg B hb39) rfl) ?_
     refine st (v := (B (r42 == (w64 ((r2.1.length : Int) + (r2.2.1.length : Int)))))) (rv_assign rfl) ?_
     refine w_end ?_
     refine q_then ?_
     refine c_ret ?_
     obtain rfl := Option.some.inj h
     exact fin_ret (v := (B (r42 == (w64 ((r2.1.length : Int) + (r2.2.1.length : Int)))))) (results_ok Try.results12 (res_tmp (v := (B (r42 == (w64 ((r2.1.length : Int) + (r2.2.1.length : Int)))))) rfl res_nil) rfl) ⟨rfl, rfl⟩ (H.sel' [] rfl rfl)
    ·replace h := bif_f hb39 h
     refine st_skip (congrArg some hb39) ?_
     refine st_skip (congrArg some hb39) ?_
     refine st_skip (congrArg some hb39) ?_
     refine st_skip (congrArg some hb39) ?_
     refine st_skip (congrArg some hb39) ?_
     refine st_skip (congrArg some hb39) ?_
     refine st_skip (congrArg some hb39) ?_
     refine st_skip (congrArg some hb39) ?_
     refine st_skip (congrArg some hb39) ?_
     refine st_skip (congrArg some hb39) ?_
     refine st (v := (B false)) (rv_pick_f (congrArg B hb39) rfl) ?_
     refine st (v := (B false)) (rv_assign rfl) ?_
     refine w_end ?_
     refine q_then ?_
     refine c_ret ?_
     obtain rfl := Option.some.inj h
     exact fin_ret (v := (B false)) (results_ok Try.results12 (res_tmp (v := (B false)) rfl res_nil) rfl) ⟨rfl, rfl⟩ (H.sel' [] rfl rfl)

end Go.Vs
