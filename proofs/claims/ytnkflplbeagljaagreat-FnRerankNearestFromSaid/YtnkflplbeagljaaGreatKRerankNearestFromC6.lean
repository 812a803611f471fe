/- The functions compute what their models say. -/
import Derived.Test.YtnkflplbeagljaaGreatKRerankNearestFromC5
set_option linter.unusedVariables false
set_option linter.unusedSimpArgs false
set_option maxRecDepth 20000
namespace Go.Vs
open Go Go.Proofs
attribute [local irreducible] Code.wp Code.wpIn wpList wpListIn wpQuiet Calls CallsIn

theorem c_spec_closest {Ah : List (List Int)} {Ca : List Int} {Aj : Option Addr} {Ak : Nat} {Cb : Option Addr} {Cc : Nat} {r : Int} (h : M.spec_closest Ah Ca = some r) :
    Cal2 Tryz.prog 118 [(Sl Aj Ah Ak), (Sl Cb Ca Cc)] [Ch.ro 0 (Sl Aj Ah Ak) Ah, Ch.ro 0 (Sl Cb Ca Cc) Ca] (fun n0 v L => v = (I r) ∧ L = []) := by
 refine cal2 (n := 28) Tryz.func118 rfl rfl rfl rfl ?_
 intro S0 σ0 n0 hn0 H
 unfold M.spec_closest at h
 refine c_seq (rg (sa (I 0) rfl (w_end (q_then (c_seq (rg (sa (I 0) rfl (w_end (q_then (c_seq (c_seq ?_)))))))))))
 refine rg (sa (I 1) rfl (w_end (q_then ?_)))
 obtain ⟨o1, hj, h'⟩ := bind_some h
 clear h
 refine c_cut (fun e a w => e = .normal ∧ ∃ (ρ : Nat → Value) (σ : St), a = fr 28 (updL ρ [(5, (I o1))]) ∧ w = σ.w ∧ Hp S0 σ0 σ []) ?_ ?_
 ·clear h'
  rename _ = some o1 => h
  refine c_blk (wp_loopM _ h (fun s2 a w => ∃ (ρ : Nat → Value) (σ : St), a = fr 28 (updL ρ [(0, (Sl Aj Ah Ak)), (1, (Sl Cb Ca Cc)), (5, (I s2.1)), (6, (I s2.2))]) ∧ w = σ.w ∧ Hp S0 σ0 σ [Ch.ro 0 (Sl Aj Ah Ak) Ah, Ch.ro 0 (Sl Cb Ca Cc) Ca]) ⟨_, σ0, fr_join ⟨rfl, rfl, rfl, rfl, trivial⟩, rfl, H.sel' [0, 1] rfl rfl⟩ ?_)
  clear h H
  rintro s2 a w o ⟨ρ, σ3, rfl, rfl, H⟩ h hres
  refine c_seq (c_seq (rg (sm (I s2.2) rfl (sm (Sl Aj Ah Ak) rfl (st (v := (I (Ah.length : Int))) (rv_len Tryz.underlying37 rfl) (st (v := (B (decide (s2.2 < (Ah.length : Int))))) (rv_lss (a := s2.2) (b := (Ah.length : Int)) rfl rfl) (w_end (q_then ?_))))))))
  refine cd_cond (decide (s2.2 < (Ah.length : Int))) rfl (fun hb4 => ?_) (fun hb4 => ?_)
  ·replace h := bif_t hb4 h
   refine c_skip (q_then (c_seq ?_))
   obtain ⟨o5, hj, h'⟩ := bind_some h
   clear h
   refine c_cut (fun e a w => e = .normal ∧ ∃ (ρ : Nat → Value) (σ : St), a = fr 28 (updL ρ [(0, (Sl Aj Ah Ak)), (1, (Sl Cb Ca Cc)), (5, (I o5)), (6, (I s2.2))]) ∧ w = σ.w ∧ Hp S0 σ0 σ [Ch.ro 0 (Sl Aj Ah Ak) Ah, Ch.ro 0 (Sl Cb Ca Cc) Ca]) ?_ ?_
   ·clear h'
    rename _ = some o5 => h
    refine c_blk (c_seq ?_)
    revert h; refine br fun x6 hx7 h => ?_
    obtain ⟨b9, o10, hi8, -⟩ := (H.ro 0 rfl).ix hx7
    obtain ⟨v14, hc15, hR13⟩ := ((H.ro 0 rfl).at hx7 hi8).slice
    obtain ⟨a11, c12, rfl⟩ := hR13.isSl
    replace H := H.add (d := Ch.ro 0 (Sl a11 x6 c12) x6) hR13 (fun _ h => h)
    clear hR13
    revert h; refine br fun r16 hx17 h => ?_
    have hc18 := c_spec_halfDist (Ad := a11) (Ae := c12) (Af := Cb) (Ag := Cc) hx17
    revert h; refine br fun x19 hx20 h => ?_
    obtain ⟨b22, o23, hi21, -⟩ := (H.ro 1 rfl).ix hx20
    obtain ⟨v27, hc28, hR26⟩ := ((H.ro 1 rfl).at hx20 hi21).slice
    obtain ⟨a24, c25, rfl⟩ := hR26.isSl
    replace H := H.add (d := Ch.ro 0 (Sl a24 x19 c25) x19) hR26 (fun _ h => h)
    clear hR26
    have Hs := H
    refine rg2 (σ := σ3) (Nm := Unit) 11 [5] [[false], [true]] [[(0, 0)], [(0, 0)], [(0, 0)], [(0, 0)], [(0, 0)], [(0, 1)], [(0, 0), (1, 1)], [(0, 0), (1, 1)], [(0, 0), (1, 1)], [(0, 0), (1, 1)], [(0, 0), (1, 1)]] 1 [fun _ => fun σm => Hp S0 σ0 σm [Ch.ro 0 (Sl a24 x19 c25) x19, Ch.ro 0 (Sl a11 x6 c12) x6, Ch.ro 0 (Sl Aj Ah Ak) Ah, Ch.ro 0 (Sl Cb Ca Cc) Ca] ∧ Md (cov []) σ3 σm, fun _ => fun σm => Hp S0 σ0 σm [Ch.ro 0 (Sl a24 x19 c25) x19, Ch.ro 0 (Sl a11 x6 c12) x6, Ch.ro 0 (Sl Aj Ah Ak) Ah, Ch.ro 0 (Sl Cb Ca Cc) Ca] ∧ Md (cov []) σ3 σm] [fun _ => (Sl Aj Ah Ak), fun _ => (I s2.2), fun _ => (pt b9 o10), fun _ => (Sl a11 x6 c12), fun _ => (Sl Cb Ca Cc), fun _ => (I r16), fun _ => (Sl Aj Ah Ak), fun _ => (I s2.1), fun _ => (pt b22 o23), fun _ => (Sl a24 x19 c25), fun _ => (Sl Cb Ca Cc)] () (by kernel_rfl) (by kernel_rfl) ?_ ?_ ?_
    ·intro σm m0
     exact ⟨H.grow (m0.mono fun _ h => h.elim), m0⟩
    ·refine ac rfl (by
       intro k _nm ρ σm hJ hoff hdep
       have e0 := look_off (N := 28) (hoff 0 rfl) rfl
       exact dp_v (v := (Sl Aj Ah Ak)) wn (rv_move e0) rfl hJ) ?_
     refine ac rfl (by
       intro k _nm ρ σm hJ hoff hdep
       have e6 := look_off (N := 28) (hoff 6 rfl) rfl
       exact dp_v (v := (I s2.2)) wn (rv_move e6) rfl hJ) ?_
     refine ac rfl (by
       intro k _nm ρ σm hJ hoff hdep
       have e13 := hdep 0 rfl rfl 13 rfl
       have e14 := hdep 1 rfl rfl 14 rfl
       exact dp_v (v := (pt b9 o10)) wn (rv_ix Tryz.underlying37 ti24 e13 e14 hi8) rfl hJ) ?_
     refine all_cons (by
       refine ⟨?_, ?_⟩
       ·intro _nm ρ σm hJ hoff hdep
        have e15 := hdep 2 rfl rfl 15 rfl
        obtain ⟨H, m⟩ := id hJ
        replace hc15 := (Hs.ro 2 rfl).hmd hx7 hi8 (k := 0) (by decide) hc15 m
        exact dp_v (v := (Sl a11 x6 c12)) wn (rv_load1 Tryz.underlying24 rfl e15 hc15) rfl hJ
       trivial) ?_
     refine ac rfl (by
       intro k _nm ρ σm hJ hoff hdep
       have e1 := look_off (N := 28) (hoff 1 rfl) rfl
       exact dp_v (v := (Sl Cb Ca Cc)) wn (rv_move e1) rfl hJ) ?_
     refine all_cons (by
       refine ⟨?_, ?_⟩
       ·intro _nm ρ σm hJ hoff hdep
        have e16 : look 28 ρ 16 = (Sl a11 x6 c12) := hdep 3 rfl rfl 16 rfl
        have e17 : look 28 ρ 17 = (Sl Cb Ca Cc) := hdep 4 rfl rfl 17 rfl
        obtain ⟨H, m⟩ := id hJ
        refine dp_cx wn (cx_call hc18 (ent_f hc18.fn (by show [look 28 ρ 16, look 28 ρ 17] = _; rw [e16, e17])) hn0 (H.sel' [1, 3, 0, 1, 2, 3] rfl rfl : Hp S0 σ0 _ ([_, _] ++ _))) ?_
        rintro _ σq ⟨_, ⟨rfl, rfl⟩, H2, m2⟩
        exact ⟨_, (), rfl, rfl, ⟨H2.sel' [0, 1, 2, 3] rfl rfl, m.comp0 (m2.mono (fun i h => by simp [cov, Ch.ro] at h))⟩, stab [0, 1, 2, 3, 4, 6, 7, 8, 9, 10] (by kernel_rfl) ⟨rfl, rfl, rfl, rfl, rfl, rfl, rfl, rfl, rfl, rfl, trivial⟩⟩
       trivial) ?_
     refine ac rfl (by
       intro k _nm ρ σm hJ hoff hdep
       have e0 := look_off (N := 28) (hoff 0 rfl) rfl
       exact dp_v (v := (Sl Aj Ah Ak)) wn (rv_move e0) rfl hJ) ?_
     refine ac rfl (by
       intro k _nm ρ σm hJ hoff hdep
       have e5 := look_off (N := 28) (hoff 5 rfl) rfl
       exact dp_v (v := (I s2.1)) wn (rv_move e5) rfl hJ) ?_
     refine ac rfl (by
       intro k _nm ρ σm hJ hoff hdep
       have e19 := hdep 6 rfl rfl 19 rfl
       have e20 := hdep 7 rfl rfl 20 rfl
       exact dp_v (v := (pt b22 o23)) wn (rv_ix Tryz.underlying37 ti24 e19 e20 hi21) rfl hJ) ?_
     refine all_cons (by
       refine ⟨?_, ?_⟩
       ·intro _nm ρ σm hJ hoff hdep
        have e21 := hdep 8 rfl rfl 21 rfl
        obtain ⟨H, m⟩ := id hJ
        replace hc28 := (Hs.ro 2 rfl).hmd hx20 hi21 (k := 0) (by decide) hc28 m
        exact dp_v (v := (Sl a24 x19 c25)) wn (rv_load1 Tryz.underlying24 rfl e21 hc28) rfl hJ
       refine ⟨?_, ?_⟩
       ·intro _nm ρ σm hJ hoff hdep
        have e21 := hdep 8 rfl rfl 21 rfl
        obtain ⟨H, m⟩ := id hJ
        replace hc28 := (Hs.ro 2 rfl).hmd hx20 hi21 (k := 0) (by decide) hc28 m
        exact dp_v (v := (Sl a24 x19 c25)) wn (rv_load1 Tryz.underlying24 rfl e21 hc28) rfl hJ
       trivial) ?_
     refine ac rfl (by
       intro k _nm ρ σm hJ hoff hdep
       have e1 := look_off (N := 28) (hoff 1 rfl) rfl
       exact dp_v (v := (Sl Cb Ca Cc)) wn (rv_move e1) rfl hJ) ?_
     exact all_nil
    ·intro _nm ρ σ29 hJ hoff hrel
     have e0 := look_off (N := 28) (hoff 0 rfl) rfl
     have e1 := look_off (N := 28) (hoff 1 rfl) rfl
     have e5 := look_off (N := 28) (hoff 5 rfl) rfl
     have e6 := look_off (N := 28) (hoff 6 rfl) rfl
     have e18 := hrel 5 rfl 18 rfl
     have e22 := hrel 9 rfl 22 rfl
     have e23 := hrel 10 rfl 23 rfl
     obtain ⟨H, -⟩ := (show Hp S0 σ0 σ29 [Ch.ro 0 (Sl a24 x19 c25) x19, Ch.ro 0 (Sl a11 x6 c12) x6, Ch.ro 0 (Sl Aj Ah Ak) Ah, Ch.ro 0 (Sl Cb Ca Cc) Ca] ∧ Md (cov []) σ3 σ29 from hJ)
     clear hJ Hs
     rw [fr_lookL (L := [(0, (Sl Aj Ah Ak)), (1, (Sl Cb Ca Cc)), (5, (I s2.1)), (6, (I s2.2)), (18, (I r16)), (22, (Sl a24 x19 c25)), (23, (Sl Cb Ca Cc))]) ⟨e0, e1, e5, e6, e18, e22, e23, trivial⟩]
     clear hoff hrel e0 e1 e5 e6 e18 e22 e23
     revert h; refine br fun r30 hx31 h => ?_
     have hc32 := c_spec_halfDist (Ad := a24) (Ae := c25) (Af := Cb) (Ag := Cc) hx31
     refine st_call (cx_call hc32 (ent_f hc32.fn rfl) hn0 (H.sel' [0, 3, 0, 1, 2, 3] rfl rfl : Hp S0 σ0 _ ([_, _] ++ _))) wn ?_
     rintro _ σ33 ⟨_, ⟨rfl, rfl⟩, H, -⟩
     replace H : Hp _ _ _ [_, _, _, _] := H
     refine st (v := (B (decide (r16 < r30)))) (rv_lss (a := r16) (b := r30) rfl rfl) (w_end (q_then ?_))
     refine cd_cond (decide (r16 < r30)) rfl (fun hb34 => ?_) (fun hb34 => ?_)
     ·replace h := bif_t hb34 h
      refine rg (sm (I s2.2) rfl (sa (I s2.2) rfl (w_end (q_blk ?_))))
      obtain rfl := sj h
      exact ⟨rfl, _, σ33, fr_join ⟨rfl, rfl, rfl, rfl, trivial⟩, rfl, H.sel' [2, 3] rfl rfl⟩
     ·replace h := bif_f hb34 h
      refine c_skip (q_blk ?_)
      obtain rfl := sj h
      exact ⟨rfl, _, σ33, fr_join ⟨rfl, rfl, rfl, rfl, trivial⟩, rfl, H.sel' [2, 3] rfl rfl⟩
   ·clear hj
    have h := h'
    clear h' H
    rintro e a w ⟨rfl, ρ, σ35, rfl, rfl, H⟩
    refine q_then (rg (sm (I s2.2) rfl (st (v := (I (w64 (s2.2 + 1)))) (rv_add (a := s2.2) (b := 1) rfl rfl) (sa (I (w64 (s2.2 + 1))) rfl (w_end (q_then ?_))))))
    obtain rfl := sj h
    exact ⟨_, rfl, _, σ35, fr_join ⟨rfl, rfl, rfl, rfl, trivial⟩, rfl, H.sel' [0, 1] rfl rfl⟩
  ·replace h := bif_f hb4 h
   refine c_exit (q_then_x (q_then_x (q_blk_hit ?_)))
   obtain rfl := sj h
   obtain rfl := hres _ rfl
   exact ⟨rfl, _, σ3, fr_join ⟨rfl, trivial⟩, rfl, H.sel' [] rfl rfl⟩
 ·clear hj
  have h := h'
  clear h' H
  rintro e a w ⟨rfl, ρ, σ36, rfl, rfl, H⟩
  refine q_then (c_seq (rg (sm (I o1) rfl (sa (I o1) rfl (w_end (q_then (c_ret ?_)))))))
  obtain rfl := sj h
  exact fin_ret (v := (I o1)) (results_ok Tryz.results118 (res_tmp (v := (I o1)) rfl res_nil) rfl) ⟨rfl, rfl⟩ (H.sel' [] rfl rfl)

theorem c_spec_encode {Bu : (List (List Int)) × (List (List Int))} {Cd : List Int} {Bv : Option Addr} {Bw : Nat} {By : Option Addr} {Bz : Nat} {Ce : Option Addr} {Cf : Nat} {r : Int} (h : M.spec_encode Bu Cd = some r) :
    Cal2 Tryz.prog 73 [(.agg #[(Sl Bv Bu.1 Bw), (Sl By Bu.2 Bz)]), (Sl Ce Cd Cf)] [Ch.ro 0 (Sl Bv Bu.1 Bw) Bu.1, Ch.ro 0 (Sl By Bu.2 Bz) Bu.2, Ch.ro 0 (Sl Ce Cd Cf) Cd] (fun n0 v L => v = (I r) ∧ L = []) := by
 refine cal2 (n := 17) Tryz.func73 rfl rfl rfl rfl ?_
 intro S0 σ0 n0 hn0 H
 unfold M.spec_encode at h
 refine c_seq (rg (st_ex (ex_box (cs := [(Sl Bv Bu.1 Bw), (Sl By Bu.2 Bz)]) H hn0 rfl rfl) wn ?_))
 rintro _ σ2 ⟨b1, rfl, H, -⟩
 refine sa (I 0) rfl (w_end (q_then (c_seq ?_)))
 have hc3 := H.cell (u := (Sl Bv Bu.1 Bw)) (o' := 0) 0 0 rfl rfl rfl
 revert h; refine br fun xs4 hx5 h => ?_
 obtain ⟨a6, c7, hs8, hR9⟩ := (H.ro 3 rfl).slice hx5
 replace H := H.add (d := Ch.ro 0 (Sl a6 xs4 c7) xs4) hR9 (fun _ h => h)
 clear hR9
 revert h; refine br fun r10 hx11 h => ?_
 have hc12 := c_spec_closest (Aj := Bv) (Ak := Bw) (Cb := a6) (Cc := c7) hx11
 have hc13 := H.cell (u := (Sl By Bu.2 Bz)) (o' := 1) 1 1 rfl rfl rfl
 revert h; refine br fun xs14 hx15 h => ?_
 obtain ⟨a16, c17, hs18, hR19⟩ := (H.ro 4 rfl).slice hx15
 replace H := H.add (d := Ch.ro 0 (Sl a16 xs14 c17) xs14) hR19 (fun _ h => h)
 clear hR19
 revert h; refine br fun r20 hx21 h => ?_
 have hc22 := c_spec_closest (Aj := By) (Ak := Bz) (Cb := a16) (Cc := c17) hx21
 have Hs := H
 refine rg2 (σ := σ2) (Nm := Unit) 11 [4, 10] [[false, false], [true, false], [true, true]] [[(0, 0)], [(0, 0)], [(0, 0)], [(0, 0)], [(0, 1)], [(1, 1), (2, 2)], [(0, 0), (1, 1)], [(0, 0), (1, 1)], [(0, 0), (1, 1)], [(0, 0), (1, 1)], [(1, 2)]] 2 [fun _ => fun σm => Hp S0 σ0 σm [Ch.ro 0 (Sl a16 xs14 c17) xs14, Ch.ro 0 (Sl a6 xs4 c7) xs4, Ch.bx n0 b1 0 [(Sl Bv Bu.1 Bw), (Sl By Bu.2 Bz)] [] [], Ch.ro 0 (Sl Bv Bu.1 Bw) Bu.1, Ch.ro 0 (Sl By Bu.2 Bz) Bu.2, Ch.ro 0 (Sl Ce Cd Cf) Cd] ∧ Md (cov []) σ2 σm, fun _ => fun σm => Hp S0 σ0 σm [Ch.ro 0 (Sl a16 xs14 c17) xs14, Ch.ro 0 (Sl a6 xs4 c7) xs4, Ch.bx n0 b1 0 [(Sl Bv Bu.1 Bw), (Sl By Bu.2 Bz)] [] [], Ch.ro 0 (Sl Bv Bu.1 Bw) Bu.1, Ch.ro 0 (Sl By Bu.2 Bz) Bu.2, Ch.ro 0 (Sl Ce Cd Cf) Cd] ∧ Md (cov []) σ2 σm, fun _ => fun σm => Hp S0 σ0 σm [Ch.ro 0 (Sl a16 xs14 c17) xs14, Ch.ro 0 (Sl a6 xs4 c7) xs4, Ch.bx n0 b1 0 [(Sl Bv Bu.1 Bw), (Sl By Bu.2 Bz)] [] [], Ch.ro 0 (Sl Bv Bu.1 Bw) Bu.1, Ch.ro 0 (Sl By Bu.2 Bz) Bu.2, Ch.ro 0 (Sl Ce Cd Cf) Cd] ∧ Md (cov []) σ2 σm] [fun _ => (pt b1 0), fun _ => (Sl Bv Bu.1 Bw), fun _ => (Sl Ce Cd Cf), fun _ => (Sl a6 xs4 c7), fun _ => (I r10), fun _ => (I (w64 (r10 * 4))), fun _ => (pt b1 1), fun _ => (Sl By Bu.2 Bz), fun _ => (Sl Ce Cd Cf), fun _ => (Sl a16 xs14 c17), fun _ => (I r20)] () (by kernel_rfl) (by kernel_rfl) ?_ ?_ ?_
 ·intro σm m0
  exact ⟨H.grow (m0.mono fun _ h => h.elim), m0⟩
 ·refine ac rfl (by
    intro k _nm ρ σm hJ hoff hdep
    have e2 := look_off (N := 17) (hoff 2 rfl) rfl
    exact dp_v (v := (pt b1 0)) wn (rv_fieldAddr (off := 0) (ft := 37) Tryz.underlying47 rfl ti37 rfl e2) rfl hJ) ?_
  refine all_cons (by
    refine ⟨?_, ?_⟩
    ·intro _nm ρ σm hJ hoff hdep
     have e5 := hdep 0 rfl rfl 5 rfl
     obtain ⟨H, m⟩ := id hJ
     have hc3 := H.cell (u := (Sl Bv Bu.1 Bw)) (o' := 0) 2 0 rfl rfl rfl
     exact dp_v (v := (Sl Bv Bu.1 Bw)) wn (rv_load1 Tryz.underlying37 rfl e5 hc3) rfl hJ
    trivial) ?_
  refine ac rfl (by
    intro k _nm ρ σm hJ hoff hdep
    have e1 := look_off (N := 17) (hoff 1 rfl) rfl
    exact dp_v (v := (Sl Ce Cd Cf)) wn (rv_move e1) rfl hJ) ?_
  refine ac rfl (by
    intro k _nm ρ σm hJ hoff hdep
    have e7 := hdep 2 rfl rfl 7 rfl
    exact dp_v (v := (Sl a6 xs4 c7)) wn (rv_slice_h Tryz.underlying24 ti3 hs8 e7 rfl) rfl hJ) ?_
  refine all_cons (by
    refine ⟨?_, ?_⟩
    ·intro _nm ρ σm hJ hoff hdep
     have e6 : look 17 ρ 6 = (Sl Bv Bu.1 Bw) := hdep 1 rfl rfl 6 rfl
     have e8 : look 17 ρ 8 = (Sl a6 xs4 c7) := hdep 3 rfl rfl 8 rfl
     obtain ⟨H, m⟩ := id hJ
     refine dp_cx wn (cx_call hc12 (ent_f hc12.fn (by show [look 17 ρ 6, look 17 ρ 8] = _; rw [e6, e8])) hn0 (H.sel' [3, 1, 0, 1, 2, 3, 4, 5] rfl rfl : Hp S0 σ0 _ ([_, _] ++ _))) ?_
     rintro _ σq ⟨_, ⟨rfl, rfl⟩, H2, m2⟩
     exact ⟨_, (), rfl, rfl, ⟨H2.sel' [0, 1, 2, 3, 4, 5] rfl rfl, m.comp0 (m2.mono (fun i h => by simp [cov, Ch.ro] at h))⟩, stab [0, 1, 2, 3, 6, 7, 8, 9] (by kernel_rfl) ⟨rfl, rfl, rfl, rfl, rfl, rfl, rfl, rfl, trivial⟩⟩
    trivial) ?_
  refine ac rfl (by
    intro k _nm ρ σm hJ hoff hdep
    have e9 := hdep 4 rfl rfl 9 rfl
    exact dp_v (v := (I (w64 (r10 * 4)))) wn (rv_mul (a := r10) (b := 4) e9 rfl) rfl hJ) ?_
  refine ac rfl (by
    intro k _nm ρ σm hJ hoff hdep
    have e2 := look_off (N := 17) (hoff 2 rfl) rfl
    exact dp_v (v := (pt b1 1)) wn (rv_fieldAddr (off := 1) (ft := 37) Tryz.underlying47 rfl ti37 rfl e2) rfl hJ) ?_
  refine all_cons (by
    refine ⟨?_, ?_⟩
    ·intro _nm ρ σm hJ hoff hdep
     have e11 := hdep 6 rfl rfl 11 rfl
     obtain ⟨H, m⟩ := id hJ
     have hc13 := H.cell (u := (Sl By Bu.2 Bz)) (o' := 1) 2 1 rfl rfl rfl
     exact dp_v (v := (Sl By Bu.2 Bz)) wn (rv_load1 Tryz.underlying37 rfl e11 hc13) rfl hJ
    refine ⟨?_, ?_⟩
    ·intro _nm ρ σm hJ hoff hdep
     have e11 := hdep 6 rfl rfl 11 rfl
     obtain ⟨H, m⟩ := id hJ
     have hc13 := H.cell (u := (Sl By Bu.2 Bz)) (o' := 1) 2 1 rfl rfl rfl
     exact dp_v (v := (Sl By Bu.2 Bz)) wn (rv_load1 Tryz.underlying37 rfl e11 hc13) rfl hJ
    trivial) ?_
  refine ac rfl (by
    intro k _nm ρ σm hJ hoff hdep
    have e1 := look_off (N := 17) (hoff 1 rfl) rfl
    exact dp_v (v := (Sl Ce Cd Cf)) wn (rv_move e1) rfl hJ) ?_
  refine ac rfl (by
    intro k _nm ρ σm hJ hoff hdep
    have e13 := hdep 8 rfl rfl 13 rfl
    exact dp_v (v := (Sl a16 xs14 c17)) wn (rv_slice_l Tryz.underlying24 ti3 hs18 e13 rfl) rfl hJ) ?_
  refine all_cons (by
    refine ⟨?_, ?_⟩
    ·intro _nm ρ σm hJ hoff hdep
     have e12 : look 17 ρ 12 = (Sl By Bu.2 Bz) := hdep 7 rfl rfl 12 rfl
     have e14 : look 17 ρ 14 = (Sl a16 xs14 c17) := hdep 9 rfl rfl 14 rfl
     obtain ⟨H, m⟩ := id hJ
     refine dp_cx wn (cx_call hc22 (ent_f hc22.fn (by show [look 17 ρ 12, look 17 ρ 14] = _; rw [e12, e14])) hn0 (H.sel' [4, 0, 0, 1, 2, 3, 4, 5] rfl rfl : Hp S0 σ0 _ ([_, _] ++ _))) ?_
     rintro _ σq ⟨_, ⟨rfl, rfl⟩, H2, m2⟩
     exact ⟨_, (), rfl, rfl, ⟨H2.sel' [0, 1, 2, 3, 4, 5] rfl rfl, m.comp0 (m2.mono (fun i h => by simp [cov, Ch.ro] at h))⟩, stab [0, 1, 2, 3, 4, 5, 6, 7, 8, 9] (by kernel_rfl) ⟨rfl, rfl, rfl, rfl, rfl, rfl, rfl, rfl, rfl, rfl, trivial⟩⟩
    trivial) ?_
  exact all_nil
 ·intro _nm ρ σ23 hJ hoff hrel
  have e10 := hrel 5 rfl 10 rfl
  have e15 := hrel 10 rfl 15 rfl
  obtain ⟨H, -⟩ := (show Hp S0 σ0 σ23 [Ch.ro 0 (Sl a16 xs14 c17) xs14, Ch.ro 0 (Sl a6 xs4 c7) xs4, Ch.bx n0 b1 0 [(Sl Bv Bu.1 Bw), (Sl By Bu.2 Bz)] [] [], Ch.ro 0 (Sl Bv Bu.1 Bw) Bu.1, Ch.ro 0 (Sl By Bu.2 Bz) Bu.2, Ch.ro 0 (Sl Ce Cd Cf) Cd] ∧ Md (cov []) σ2 σ23 from hJ)
  clear hJ Hs
  rw [fr_lookL (L := [(10, (I (w64 (r10 * 4)))), (15, (I r20))]) ⟨e10, e15, trivial⟩]
  clear hoff hrel e10 e15
  refine st (v := (I (w64 ((w64 (r10 * 4)) + r20)))) (rv_add (a := (w64 (r10 * 4))) (b := r20) rfl rfl) (sa (I (w64 ((w64 (r10 * 4)) + r20))) rfl (w_end (q_then (c_ret ?_))))
  obtain rfl := sj h
  exact fin_ret (v := (I (w64 ((w64 (r10 * 4)) + r20)))) (results_ok Tryz.results73 (res_tmp (v := (I (w64 ((w64 (r10 * 4)) + r20)))) rfl res_nil) rfl) ⟨rfl, rfl⟩ (H.sel' [] rfl rfl)

theorem c_spec_CodeNearest {Bu : (List (List Int)) × (List (List Int))} {Gb : List (Int × (List Int) × Int)} {Cn : List Int} {Cp : Int} {Bv : Option Addr} {Bw : Nat} {By : Option Addr} {Bz : Nat} {Gc : Option Addr} {Gd : Nat} {Cq : Option Addr} {Cr : Nat} {r : (List (Int × Int))} (h : M.spec_CodeNearest Bu Gb Cn Cp = some r) :
    Cal2 Tryz.prog 25 [(.agg #[(Sl Bv Bu.1 Bw), (Sl By Bu.2 Bz)]), (Sl Gc Gb Gd), (Sl Cq Cn Cr), (I Cp)] [Ch.ro 0 (Sl Bv Bu.1 Bw) Bu.1, Ch.ro 0 (Sl By Bu.2 Bz) Bu.2, Ch.ro 0 (Sl Gc Gb Gd) Gb, Ch.ro 0 (Sl Cq Cn Cr) Cn] (fun n0 v L => ∃ (az1 : Option Addr), ∃ (cz2 : Nat), v = (Sl az1 r cz2) ∧ L = [Ch.own n0 n0 (Sl az1 r cz2) r]) := by
 refine cal2 (n := 53) Tryz.func25 rfl rfl rfl rfl ?_
 intro S0 σ0 n0 hn0 H
 unfold M.spec_CodeNearest at h
 refine c_seq (rg (st_ex (ex_box (cs := [(Sl Bv Bu.1 Bw), (Sl By Bu.2 Bz)]) H hn0 rfl rfl) wn ?_))
 rintro _ σ2 ⟨b1, rfl, H, -⟩
 refine sa (.slice none 0 0) rfl (w_end (q_then (c_seq (rg ?_))))
 refine st_ex (ex_buildSlice (el := n0) (xs := ([] : List (Int × Int))) (ps := []) (cs := []) H hn0 Tryz.underlying27 ti44 rfl rfl (by kernel_rfl) (.nil) rfl) wn ?_
 rintro _ σ4 ⟨b3, rfl, H, -⟩
 refine sa (Sl (some ⟨b3, 0, none⟩) ([] : List (Int × Int)) 0) rfl (w_end (q_then (c_seq (c_seq ?_))))
 obtain ⟨o5, hj, h'⟩ := bind_some h
 clear h
 refine c_cut (fun e a w => e = .normal ∧ ∃ (ρ : Nat → Value) (σ : St), a = fr 53 (updL ρ [(1, (Sl Gc Gb Gd)), (2, (Sl Cq Cn Cr)), (3, (I Cp)), (4, (pt b1 0)), (9, (Sl (some ⟨b3, 0, none⟩) ([] : List (Int × Int)) 0)), (25, (B o5))]) ∧ w = σ.w ∧ Hp S0 σ0 σ [Ch.ro 0 (Sl Gc Gb Gd) Gb, Ch.ro 0 (Sl Cq Cn Cr) Cn, Ch.ro 0 (Sl Bv Bu.1 Bw) Bu.1, Ch.ro 0 (Sl By Bu.2 Bz) Bu.2, Ch.bx n0 b1 0 [(Sl Bv Bu.1 Bw), (Sl By Bu.2 Bz)] [] [], Ch.own n0 n0 (Sl (some ⟨b3, 0, none⟩) ([] : List (Int × Int)) 0) ([] : List (Int × Int))]) ?_ ?_
 ·clear h'
  rename _ = some o5 => h
  refine rg ?_
  have hc6 := H.cells 1 rfl
  refine st (v := (.agg #[(Sl Bv Bu.1 Bw), (Sl By Bu.2 Bz)])) (rv_load (cs := [(Sl Bv Bu.1 Bw), (Sl By Bu.2 Bz)]) Tryz.underlying47 rfl ti47 rfl rfl hc6) ?_
  revert h; refine br fun r7 hx8 h => ?_
  have hc9 := c_spec_validBook (Bv := Bv) (Bw := Bw) (By := By) (Bz := Bz) hx8
  refine st_call (cx_call hc9 (ent_f hc9.fn rfl) hn0 (H.sel' [2, 3, 0, 1, 2, 3, 4, 5] rfl rfl : Hp S0 σ0 _ ([_, _] ++ _))) wn ?_
  rintro _ σ10 ⟨_, ⟨rfl, rfl⟩, H, -⟩
  replace H : Hp _ _ _ [_, _, _, _, _, _] := H
  refine st (v := (B (!r7))) (rv_not rfl) (sm (B (!r7)) rfl ?_)
  rcases Bool.eq_false_or_eq_true (!r7) with hb11 | hb11
  ·replace h := bif_t hb11 h
   refine st_skip (congrArg some hb11) (st_skip (congrArg some hb11) (st_skip (congrArg some hb11) (st_skip (congrArg some hb11) (st (v := (B true)) (rv_pick_t (congrArg B hb11) rfl) (sm (B true) rfl (st_skip rfl (st_skip rfl (st_skip rfl (st (v := (B true)) (rv_pick_t rfl rfl) (w_end ?_))))))))))
   obtain rfl := sj h
   exact ⟨rfl, _, σ10, fr_join ⟨rfl, rfl, rfl, rfl, rfl, rfl, trivial⟩, rfl, H.sel' [4, 5, 2, 3, 1, 0] rfl rfl⟩
  ·replace h := bif_f hb11 h
   refine st_g (v := (Sl Gc Gb Gd)) (congrArg some hb11) (rv_move rfl) (st_g (v := (Sl Cq Cn Cr)) (congrArg some hb11) (rv_move rfl) ?_)
   revert h; refine br fun r12 hx13 h => ?_
   have hc14 := c_spec_validQuery (Aj := Gc) (Ak := Gd) (Cq := Cq) (Cr := Cr) hx13
   refine st_call (cx_call hc14 (ent_f hc14.fn rfl) hn0 (H.sel' [4, 5, 0, 1, 2, 3, 4, 5] rfl rfl : Hp S0 σ0 _ ([_, _] ++ _))) (wanted_yes rfl (by exact (congrArg some hb11))) ?_
   rintro _ σ15 ⟨_, ⟨rfl, rfl⟩, H, -⟩
   replace H : Hp _ _ _ [_, _, _, _, _, _] := H
   refine st_g (v := (B (!r12))) (congrArg some hb11) (rv_not rfl) (st (v := (B (!r12))) (rv_pick_f (congrArg B hb11) rfl) (sm (B (!r12)) rfl ?_))
   rcases Bool.eq_false_or_eq_true (!r12) with hb16 | hb16
   ·replace h := bif_t hb16 h
    refine st_skip (congrArg some hb16) (st_skip (congrArg some hb16) (st_skip (congrArg some hb16) (st (v := (B true)) (rv_pick_t (congrArg B hb16) rfl) (w_end ?_))))
    obtain rfl := sj h
    exact ⟨rfl, _, σ15, fr_join ⟨rfl, rfl, rfl, rfl, rfl, rfl, trivial⟩, rfl, H.sel' [4, 5, 2, 3, 1, 0] rfl rfl⟩
   ·replace h := bif_f hb16 h
    refine st_g (v := (I Cp)) (congrArg some hb16) (rv_move rfl) ?_
    revert h; refine br fun r17 hx18 h => ?_
    have hc19 := c_spec_inRange hx18
    refine st_call (cx_call hc19 (ent_f hc19.fn rfl) hn0 (H.sel' [0, 1, 2, 3, 4, 5] rfl rfl : Hp S0 σ0 _ ([] ++ _))) (wanted_yes rfl (by exact (congrArg some hb16))) ?_
    rintro _ σ20 ⟨_, ⟨rfl, rfl⟩, H, -⟩
    replace H : Hp _ _ _ [_, _, _, _, _, _] := H
    refine st_g (v := (B (!r17))) (congrArg some hb16) (rv_not rfl) (st (v := (B (!r17))) (rv_pick_f (congrArg B hb16) rfl) (w_end ?_))
    obtain rfl := sj h
    exact ⟨rfl, _, σ20, fr_join ⟨rfl, rfl, rfl, rfl, rfl, rfl, trivial⟩, rfl, H.sel' [4, 5, 2, 3, 1, 0] rfl rfl⟩
 ·clear hj
  have h := h'
  clear h' H
  rintro e a w ⟨rfl, ρ, σ21, rfl, rfl, H⟩
  refine q_then ?_
  refine cd_cond o5 rfl (fun hb22 => ?_) (fun hb22 => ?_)
  ·replace h := bif_t hb22 h
   refine c_seq (rg (sa (.slice none 0 0) rfl (w_end (q_then (c_ret (q_then_r ?_))))))
   replace H := H.nilOwn (Int × Int) n0 n0
   obtain rfl := sj h
   exact fin_ret (v := (.slice none 0 0)) (results_ok Tryz.results25 (res_tmp (v := (.slice none 0 0)) rfl res_nil) rfl) ⟨none, 0, rfl, rfl⟩ (H.sel' [0] rfl rfl)
  ·replace h := bif_f hb22 h
   refine c_skip (q_then (c_seq (c_seq (rg (sa (I 0) rfl (w_end (q_then ?_)))))))
   obtain ⟨o23, hj, h'⟩ := bind_some h
   clear h
   refine c_cut (fun e a w => e = .normal ∧ ∃ (ρ : Nat → Value) (σ : St) (aj1 : Option Addr) (cj2 : Nat), a = fr 53 (updL ρ [(9, (Sl aj1 o23 cj2))]) ∧ w = σ.w ∧ Hp S0 σ0 σ [Ch.own n0 n0 (Sl aj1 o23 cj2) o23]) ?_ ?_
   ·clear h'
    rename _ = some o23 => h
    refine c_blk (wp_loopM _ h (fun s24 a w => ∃ (ρ : Nat → Value) (σ : St) (aj1 : Option Addr) (cj2 : Nat), a = fr 53 (updL ρ [(1, (Sl Gc Gb Gd)), (2, (Sl Cq Cn Cr)), (3, (I Cp)), (4, (pt b1 0)), (9, (Sl aj1 s24.1 cj2)), (10, (I s24.2))]) ∧ w = σ.w ∧ Hp S0 σ0 σ [Ch.ro 0 (Sl Gc Gb Gd) Gb, Ch.ro 0 (Sl Cq Cn Cr) Cn, Ch.ro 0 (Sl Bv Bu.1 Bw) Bu.1, Ch.ro 0 (Sl By Bu.2 Bz) Bu.2, Ch.bx n0 b1 0 [(Sl Bv Bu.1 Bw), (Sl By Bu.2 Bz)] [] [], Ch.own n0 n0 (Sl aj1 s24.1 cj2) s24.1]) ⟨_, σ21, (some ⟨b3, 0, none⟩), 0, fr_join ⟨rfl, rfl, rfl, rfl, rfl, rfl, trivial⟩, rfl, H.sel' [0, 1, 2, 3, 4, 5] rfl rfl⟩ ?_)
    clear h H
    rintro s24 a w o ⟨ρ, σ25, a26, c27, rfl, rfl, H⟩ h hres
    refine c_seq (c_seq (rg (sm (I s24.2) rfl (sm (Sl Gc Gb Gd) rfl (st (v := (I (Gb.length : Int))) (rv_len Tryz.underlying23 rfl) (st (v := (B (decide (s24.2 < (Gb.length : Int))))) (rv_lss (a := s24.2) (b := (Gb.length : Int)) rfl rfl) (w_end (q_then ?_))))))))
    refine cd_cond (decide (s24.2 < (Gb.length : Int))) rfl (fun hb28 => ?_) (fun hb28 => ?_)
    ·replace h := bif_t hb28 h
     refine c_skip (q_then (c_seq (c_blk ?_)))
     revert h; refine br fun x29 hx30 h => ?_
     obtain ⟨b32, o33, hi31, -⟩ := (H.ro 0 rfl).ix hx30
     have hc34 := ((H.ro 0 rfl).at hx30 hi31).fst.int
     have hc35 := H.cells 4 rfl
     have hc36 := H.cells 4 rfl
     revert h; refine br fun x37 hx38 h => ?_
     obtain ⟨b40, o41, hi39, -⟩ := (H.ro 0 rfl).ix hx38
     obtain ⟨v45, hc46, hR44⟩ := ((H.ro 0 rfl).at hx38 hi39).snd.fst.slice
     obtain ⟨a42, c43, rfl⟩ := hR44.isSl
     replace H := H.add (d := Ch.ro 0 (Sl a42 x37.2.1 c43) x37.2.1) hR44 (fun _ h => h)
     clear hR44
     revert h; refine br fun r47 hx48 h => ?_
     have hc49 := c_spec_encode (Bv := Bv) (Bw := Bw) (By := By) (Bz := Bz) (Ce := a42) (Cf := c43) hx48
     revert h; refine br fun r50 hx51 h => ?_
     have hc52 := c_spec_decode (Bv := Bv) (Bw := Bw) (By := By) (Bz := Bz) hx51
     revert h; refine br fun r55 hx56 h => ?_
     have hc57 := fun (a53 : Option Addr) (c54 : Nat) => c_spec_dist (Gu := a53) (Gv := c54) (Gw := Cq) (Gx := Cr) hx56
     have Hs := H
     refine rg2 (σ := σ25) (Nm := (Option Addr) × (Nat)) 19 [13, 14, 16] [[false, false, false], [true, false, false], [true, true, false], [true, true, true]] [[(0, 0), (1, 1), (2, 2), (3, 3)], [(0, 0), (1, 1), (2, 2), (3, 3)], [(0, 0), (1, 1), (2, 2), (3, 3)], [(0, 0), (1, 1), (2, 2), (3, 3)], [(0, 0), (1, 1), (2, 2), (3, 3)], [(0, 0), (1, 1), (2, 2), (3, 3)], [(0, 0), (1, 1)], [(0, 0)], [(0, 0)], [(0, 0)], [(0, 0)], [(0, 0)], [(0, 0)], [(0, 1)], [(1, 2)], [(0, 0), (1, 1), (2, 2)], [(2, 3)], [(3, 3)], [(0, 0), (1, 1), (2, 2), (3, 3)]] 3 [fun ((a53, c54) : (Option Addr) × (Nat)) => fun σm => Hp S0 σ0 σm [Ch.ro 0 (Sl a42 x37.2.1 c43) x37.2.1, Ch.ro 0 (Sl Gc Gb Gd) Gb, Ch.ro 0 (Sl Cq Cn Cr) Cn, Ch.ro 0 (Sl Bv Bu.1 Bw) Bu.1, Ch.ro 0 (Sl By Bu.2 Bz) Bu.2, Ch.bx n0 b1 0 [(Sl Bv Bu.1 Bw), (Sl By Bu.2 Bz)] [] [], Ch.own n0 n0 (Sl a26 s24.1 c27) s24.1] ∧ Md (cov []) σ25 σm, fun ((a53, c54) : (Option Addr) × (Nat)) => fun σm => Hp S0 σ0 σm [Ch.ro 0 (Sl a42 x37.2.1 c43) x37.2.1, Ch.ro 0 (Sl Gc Gb Gd) Gb, Ch.ro 0 (Sl Cq Cn Cr) Cn, Ch.ro 0 (Sl Bv Bu.1 Bw) Bu.1, Ch.ro 0 (Sl By Bu.2 Bz) Bu.2, Ch.bx n0 b1 0 [(Sl Bv Bu.1 Bw), (Sl By Bu.2 Bz)] [] [], Ch.own n0 n0 (Sl a26 s24.1 c27) s24.1] ∧ Md (cov []) σ25 σm, fun ((a53, c54) : (Option Addr) × (Nat)) => fun σm => Hp S0 σ0 σm [Ch.ro 0 (Sl a53 r50 c54) r50, Ch.ro 0 (Sl a42 x37.2.1 c43) x37.2.1, Ch.ro 0 (Sl Gc Gb Gd) Gb, Ch.ro 0 (Sl Cq Cn Cr) Cn, Ch.ro 0 (Sl Bv Bu.1 Bw) Bu.1, Ch.ro 0 (Sl By Bu.2 Bz) Bu.2, Ch.bx n0 b1 0 [(Sl Bv Bu.1 Bw), (Sl By Bu.2 Bz)] [] [], Ch.own n0 n0 (Sl a26 s24.1 c27) s24.1] ∧ Md (fun i => (cov []) i ∨ (fun i => (cov [Ch.ro 0 (Sl Bv Bu.1 Bw) Bu.1, Ch.ro 0 (Sl By Bu.2 Bz) Bu.2]) i ∨ (fun b => blk (Sl a53 r50 c54) = some b) i) i) σ25 σm, fun ((a53, c54) : (Option Addr) × (Nat)) => fun σm => Hp S0 σ0 σm [Ch.ro 0 (Sl a53 r50 c54) r50, Ch.ro 0 (Sl a42 x37.2.1 c43) x37.2.1, Ch.ro 0 (Sl Gc Gb Gd) Gb, Ch.ro 0 (Sl Cq Cn Cr) Cn, Ch.ro 0 (Sl Bv Bu.1 Bw) Bu.1, Ch.ro 0 (Sl By Bu.2 Bz) Bu.2, Ch.bx n0 b1 0 [(Sl Bv Bu.1 Bw), (Sl By Bu.2 Bz)] [] [], Ch.own n0 n0 (Sl a26 s24.1 c27) s24.1] ∧ Md (fun i => (cov []) i ∨ (fun i => (cov [Ch.ro 0 (Sl Bv Bu.1 Bw) Bu.1, Ch.ro 0 (Sl By Bu.2 Bz) Bu.2]) i ∨ (fun b => blk (Sl a53 r50 c54) = some b) i) i) σ25 σm] [fun ((a53, c54) : (Option Addr) × (Nat)) => (Sl a26 s24.1 c27), fun ((a53, c54) : (Option Addr) × (Nat)) => (Sl Gc Gb Gd), fun ((a53, c54) : (Option Addr) × (Nat)) => (I s24.2), fun ((a53, c54) : (Option Addr) × (Nat)) => (pt b32 o33), fun ((a53, c54) : (Option Addr) × (Nat)) => (pt b32 (o33 + 0)), fun ((a53, c54) : (Option Addr) × (Nat)) => (I x29.1), fun ((a53, c54) : (Option Addr) × (Nat)) => (.agg #[(Sl Bv Bu.1 Bw), (Sl By Bu.2 Bz)]), fun ((a53, c54) : (Option Addr) × (Nat)) => (.agg #[(Sl Bv Bu.1 Bw), (Sl By Bu.2 Bz)]), fun ((a53, c54) : (Option Addr) × (Nat)) => (Sl Gc Gb Gd), fun ((a53, c54) : (Option Addr) × (Nat)) => (I s24.2), fun ((a53, c54) : (Option Addr) × (Nat)) => (pt b40 o41), fun ((a53, c54) : (Option Addr) × (Nat)) => (pt b40 (o41 + 1)), fun ((a53, c54) : (Option Addr) × (Nat)) => (Sl a42 x37.2.1 c43), fun ((a53, c54) : (Option Addr) × (Nat)) => (I r47), fun ((a53, c54) : (Option Addr) × (Nat)) => (Sl a53 r50 c54), fun ((a53, c54) : (Option Addr) × (Nat)) => (Sl Cq Cn Cr), fun ((a53, c54) : (Option Addr) × (Nat)) => (I r55), fun ((a53, c54) : (Option Addr) × (Nat)) => (.agg #[(I x29.1), (I r55)]), fun ((a53, c54) : (Option Addr) × (Nat)) => (I Cp)] (none, 0) (by kernel_rfl) (by kernel_rfl) ?_ ?_ ?_
     ·intro σm m0
      exact ⟨H.grow (m0.mono fun _ h => h.elim), m0⟩
     ·refine ac rfl (by
        intro k; rintro ⟨a53, c54⟩ ρ σm hJ hoff hdep
        have e9 := look_off (N := 53) (hoff 9 rfl) rfl
        exact dp_v (v := (Sl a26 s24.1 c27)) wn (rv_move e9) rfl hJ) ?_
      refine ac rfl (by
        intro k; rintro ⟨a53, c54⟩ ρ σm hJ hoff hdep
        have e1 := look_off (N := 53) (hoff 1 rfl) rfl
        exact dp_v (v := (Sl Gc Gb Gd)) wn (rv_move e1) rfl hJ) ?_
      refine ac rfl (by
        intro k; rintro ⟨a53, c54⟩ ρ σm hJ hoff hdep
        have e10 := look_off (N := 53) (hoff 10 rfl) rfl
        exact dp_v (v := (I s24.2)) wn (rv_move e10) rfl hJ) ?_
      refine ac rfl (by
        intro k; rintro ⟨a53, c54⟩ ρ σm hJ hoff hdep
        have e33 := hdep 1 rfl rfl 33 rfl
        have e34 := hdep 2 rfl rfl 34 rfl
        exact dp_v (v := (pt b32 o33)) wn (rv_ix Tryz.underlying23 ti33 e33 e34 hi31) rfl hJ) ?_
      refine ac rfl (by
        intro k; rintro ⟨a53, c54⟩ ρ σm hJ hoff hdep
        have e35 := hdep 3 rfl rfl 35 rfl
        exact dp_v (v := (pt b32 (o33 + 0))) wn (rv_fieldAddr (off := 0) (ft := 3) Tryz.underlying33 rfl ti3 rfl e35) rfl hJ) ?_
      refine all_cons (by
        refine ⟨?_, ?_⟩
        ·rintro ⟨a53, c54⟩ ρ σm hJ hoff hdep
         have e36 := hdep 4 rfl rfl 36 rfl
         obtain ⟨H, m⟩ := id hJ
         replace hc34 := (Hs.ro 1 rfl).hmd hx30 hi31 (k := 0) (by decide) hc34 m
         exact dp_v (v := (I x29.1)) wn (rv_load1 Tryz.underlying3 rfl e36 hc34) rfl hJ
        refine ⟨?_, ?_⟩
        ·rintro ⟨a53, c54⟩ ρ σm hJ hoff hdep
         have e36 := hdep 4 rfl rfl 36 rfl
         obtain ⟨H, m⟩ := id hJ
         replace hc34 := (Hs.ro 1 rfl).hmd hx30 hi31 (k := 0) (by decide) hc34 m
         exact dp_v (v := (I x29.1)) wn (rv_load1 Tryz.underlying3 rfl e36 hc34) rfl hJ
        refine ⟨?_, ?_⟩
        ·rintro ⟨a53, c54⟩ ρ σm hJ hoff hdep
         have e36 := hdep 4 rfl rfl 36 rfl
         obtain ⟨H, m⟩ := id hJ
         replace hc34 := (Hs.ro 1 rfl).hmd hx30 hi31 (k := 0) (by decide) hc34 m
         exact dp_v (v := (I x29.1)) wn (rv_load1 Tryz.underlying3 rfl e36 hc34) rfl hJ
        refine ⟨?_, ?_⟩
        ·rintro ⟨a53, c54⟩ ρ σm hJ hoff hdep
         have e36 := hdep 4 rfl rfl 36 rfl
         obtain ⟨H, m⟩ := id hJ
         replace hc34 := (Hs.ro 1 rfl).hmd hx30 hi31 (k := 0) (by decide) hc34 m
         exact dp_v (v := (I x29.1)) wn (rv_load1 Tryz.underlying3 rfl e36 hc34) rfl hJ
        trivial) ?_
      refine all_cons (by
        refine ⟨?_, ?_⟩
        ·rintro ⟨a53, c54⟩ ρ σm hJ hoff hdep
         have e4 := look_off (N := 53) (hoff 4 rfl) rfl
         obtain ⟨H, m⟩ := id hJ
         have hc35 := H.cells 5 rfl
         exact dp_v (v := (.agg #[(Sl Bv Bu.1 Bw), (Sl By Bu.2 Bz)])) wn (rv_load (cs := [(Sl Bv Bu.1 Bw), (Sl By Bu.2 Bz)]) Tryz.underlying47 rfl ti47 e4 rfl hc35) rfl hJ
        refine ⟨?_, ?_⟩
        ·rintro ⟨a53, c54⟩ ρ σm hJ hoff hdep
         have e4 := look_off (N := 53) (hoff 4 rfl) rfl
         obtain ⟨H, m⟩ := id hJ
         have hc35 := H.cells 5 rfl
         exact dp_v (v := (.agg #[(Sl Bv Bu.1 Bw), (Sl By Bu.2 Bz)])) wn (rv_load (cs := [(Sl Bv Bu.1 Bw), (Sl By Bu.2 Bz)]) Tryz.underlying47 rfl ti47 e4 rfl hc35) rfl hJ
        trivial) ?_
      refine all_cons (by
        refine ⟨?_, ?_⟩
        ·rintro ⟨a53, c54⟩ ρ σm hJ hoff hdep
         have e4 := look_off (N := 53) (hoff 4 rfl) rfl
         obtain ⟨H, m⟩ := id hJ
         have hc36 := H.cells 5 rfl
         exact dp_v (v := (.agg #[(Sl Bv Bu.1 Bw), (Sl By Bu.2 Bz)])) wn (rv_load (cs := [(Sl Bv Bu.1 Bw), (Sl By Bu.2 Bz)]) Tryz.underlying47 rfl ti47 e4 rfl hc36) rfl hJ
        trivial) ?_
      refine ac rfl (by
        intro k; rintro ⟨a53, c54⟩ ρ σm hJ hoff hdep
        have e1 := look_off (N := 53) (hoff 1 rfl) rfl
        exact dp_v (v := (Sl Gc Gb Gd)) wn (rv_move e1) rfl hJ) ?_
      refine ac rfl (by
        intro k; rintro ⟨a53, c54⟩ ρ σm hJ hoff hdep
        have e10 := look_off (N := 53) (hoff 10 rfl) rfl
        exact dp_v (v := (I s24.2)) wn (rv_move e10) rfl hJ) ?_
      refine ac rfl (by
        intro k; rintro ⟨a53, c54⟩ ρ σm hJ hoff hdep
        have e40 := hdep 8 rfl rfl 40 rfl
        have e41 := hdep 9 rfl rfl 41 rfl
        exact dp_v (v := (pt b40 o41)) wn (rv_ix Tryz.underlying23 ti33 e40 e41 hi39) rfl hJ) ?_
      refine ac rfl (by
        intro k; rintro ⟨a53, c54⟩ ρ σm hJ hoff hdep
        have e42 := hdep 10 rfl rfl 42 rfl
        exact dp_v (v := (pt b40 (o41 + 1))) wn (rv_fieldAddr (off := 1) (ft := 24) Tryz.underlying33 rfl ti24 rfl e42) rfl hJ) ?_
      refine all_cons (by
        refine ⟨?_, ?_⟩
        ·rintro ⟨a53, c54⟩ ρ σm hJ hoff hdep
         have e43 := hdep 11 rfl rfl 43 rfl
         obtain ⟨H, m⟩ := id hJ
         replace hc46 := (Hs.ro 1 rfl).hmd hx38 hi39 (k := 1) (by decide) hc46 m
         exact dp_v (v := (Sl a42 x37.2.1 c43)) wn (rv_load1 Tryz.underlying24 rfl e43 hc46) rfl hJ
        trivial) ?_
      refine all_cons (by
        refine ⟨?_, ?_⟩
        ·rintro ⟨a53, c54⟩ ρ σm hJ hoff hdep
         have e39 : look 53 ρ 39 = (.agg #[(Sl Bv Bu.1 Bw), (Sl By Bu.2 Bz)]) := hdep 7 rfl rfl 39 rfl
         have e44 : look 53 ρ 44 = (Sl a42 x37.2.1 c43) := hdep 12 rfl rfl 44 rfl
         obtain ⟨H, m⟩ := id hJ
         refine dp_cx wn (cx_call hc49 (ent_f hc49.fn (by show [look 53 ρ 39, look 53 ρ 44] = _; rw [e39, e44])) hn0 (H.sel' [3, 4, 0, 0, 1, 2, 3, 4, 5, 6] rfl rfl : Hp S0 σ0 _ ([_, _, _] ++ _))) ?_
         rintro _ σq ⟨_, ⟨rfl, rfl⟩, H2, m2⟩
         exact ⟨_, (a53, c54), rfl, rfl, ⟨H2.sel' [0, 1, 2, 3, 4, 5, 6] rfl rfl, m.comp0 (m2.mono (fun i h => by simp [cov, Ch.ro] at h))⟩, stab [0, 1, 2, 3, 4, 5, 6, 7, 8, 9, 10, 11, 12, 15, 18] (by kernel_rfl) ⟨rfl, rfl, rfl, rfl, rfl, rfl, rfl, rfl, rfl, rfl, rfl, rfl, rfl, rfl, rfl, trivial⟩⟩
        trivial) ?_
      refine all_cons (by
        refine ⟨?_, ?_⟩
        ·rintro ⟨a53, c54⟩ ρ σm hJ hoff hdep
         have e38 : look 53 ρ 38 = (.agg #[(Sl Bv Bu.1 Bw), (Sl By Bu.2 Bz)]) := hdep 6 rfl rfl 38 rfl
         have e45 : look 53 ρ 45 = (I r47) := hdep 13 rfl rfl 45 rfl
         obtain ⟨H, m⟩ := id hJ
         refine dp_cx wn (cx_call hc52 (ent_f hc52.fn (by show [look 53 ρ 38, look 53 ρ 45] = _; rw [e38, e45])) hn0 (H.sel' [3, 4, 0, 1, 2, 3, 4, 5, 6] rfl rfl : Hp S0 σ0 _ ([_, _] ++ _))) ?_
         rintro _ σq ⟨_, ⟨a53x, c54x, rfl, rfl⟩, H2, m2⟩
         obtain ⟨σr0, hwr0, H2, mr0⟩ := H2.pubSc 0 rfl
         exact ⟨_, (a53x, c54x), hwr0, rfl, ⟨H2.sel' [0, 1, 2, 3, 4, 5, 6, 7] rfl rfl, m.comp (m2.comp mr0)⟩, stab [0, 1, 2, 3, 4, 5, 6, 7, 8, 9, 10, 11, 12, 13, 15, 18] (by kernel_rfl) ⟨rfl, rfl, rfl, rfl, rfl, rfl, rfl, rfl, rfl, rfl, rfl, rfl, rfl, rfl, rfl, rfl, trivial⟩⟩
        trivial) ?_
      refine ac rfl (by
        intro k; rintro ⟨a53, c54⟩ ρ σm hJ hoff hdep
        have e2 := look_off (N := 53) (hoff 2 rfl) rfl
        exact dp_v (v := (Sl Cq Cn Cr)) wn (rv_move e2) rfl hJ) ?_
      refine all_cons (by
        refine ⟨?_, ?_⟩
        ·rintro ⟨a53, c54⟩ ρ σm hJ hoff hdep
         have e46 : look 53 ρ 46 = (Sl a53 r50 c54) := hdep 14 rfl rfl 46 rfl
         have e47 : look 53 ρ 47 = (Sl Cq Cn Cr) := hdep 15 rfl rfl 47 rfl
         obtain ⟨H, m⟩ := id hJ
         refine dp_cx wn (cx_call (hc57 a53 c54) (ent_f (hc57 a53 c54).fn (by show [(I 3), look 53 ρ 46, look 53 ρ 47] = _; rw [e46, e47])) hn0 (H.sel' [0, 3, 0, 1, 2, 3, 4, 5, 6, 7] rfl rfl : Hp S0 σ0 _ ([_, _] ++ _))) ?_
         rintro _ σq ⟨_, ⟨rfl, rfl⟩, H2, m2⟩
         exact ⟨_, (a53, c54), rfl, rfl, ⟨H2.sel' [0, 1, 2, 3, 4, 5, 6, 7] rfl rfl, m.comp0 (m2.mono (fun i h => by simp [cov, Ch.ro] at h))⟩, stab [0, 1, 2, 3, 4, 5, 6, 7, 8, 9, 10, 11, 12, 13, 14, 15, 18] (by kernel_rfl) ⟨rfl, rfl, rfl, rfl, rfl, rfl, rfl, rfl, rfl, rfl, rfl, rfl, rfl, rfl, rfl, rfl, rfl, trivial⟩⟩
        trivial) ?_
      refine ac rfl (by
        intro k; rintro ⟨a53, c54⟩ ρ σm hJ hoff hdep
        have e37 : look 53 ρ 37 = (I x29.1) := hdep 5 rfl rfl 37 rfl
        have e48 : look 53 ρ 48 = (I r55) := hdep 16 rfl rfl 48 rfl
        exact dp_v (v := (.agg #[(I x29.1), (I r55)])) wn (rv_build (ps := [(0, (I x29.1)), (1, (I r55))]) Tryz.underlying44 ti44 (bp44 Tryz.underlying44) (by show [(0, look 53 ρ 37), (1, look 53 ρ 48)] = _; rw [e37, e48]) (by kernel_rfl)) rfl hJ) ?_
      refine ac rfl (by
        intro k; rintro ⟨a53, c54⟩ ρ σm hJ hoff hdep
        have e3 := look_off (N := 53) (hoff 3 rfl) rfl
        exact dp_v (v := (I Cp)) wn (rv_move e3) rfl hJ) ?_
      exact all_nil
     ·rintro ⟨a53, c54⟩ ρ σ58 hJ hoff hrel
      have e1 := look_off (N := 53) (hoff 1 rfl) rfl
      have e2 := look_off (N := 53) (hoff 2 rfl) rfl
      have e3 := look_off (N := 53) (hoff 3 rfl) rfl
      have e4 := look_off (N := 53) (hoff 4 rfl) rfl
      have e10 := look_off (N := 53) (hoff 10 rfl) rfl
      have e32 := hrel 0 rfl 32 rfl
      have e49 := hrel 17 rfl 49 rfl
      have e50 := hrel 18 rfl 50 rfl
      obtain ⟨H, -⟩ := (show Hp S0 σ0 σ58 [Ch.ro 0 (Sl a53 r50 c54) r50, Ch.ro 0 (Sl a42 x37.2.1 c43) x37.2.1, Ch.ro 0 (Sl Gc Gb Gd) Gb, Ch.ro 0 (Sl Cq Cn Cr) Cn, Ch.ro 0 (Sl Bv Bu.1 Bw) Bu.1, Ch.ro 0 (Sl By Bu.2 Bz) Bu.2, Ch.bx n0 b1 0 [(Sl Bv Bu.1 Bw), (Sl By Bu.2 Bz)] [] [], Ch.own n0 n0 (Sl a26 s24.1 c27) s24.1] ∧ Md (fun i => (cov []) i ∨ (fun i => (cov [Ch.ro 0 (Sl Bv Bu.1 Bw) Bu.1, Ch.ro 0 (Sl By Bu.2 Bz) Bu.2]) i ∨ (fun b => blk (Sl a53 r50 c54) = some b) i) i) σ25 σ58 from hJ)
      clear hJ Hs
      rw [fr_lookL (L := [(1, (Sl Gc Gb Gd)), (2, (Sl Cq Cn Cr)), (3, (I Cp)), (4, (pt b1 0)), (10, (I s24.2)), (32, (Sl a26 s24.1 c27)), (49, (.agg #[(I x29.1), (I r55)])), (50, (I Cp))]) ⟨e1, e2, e3, e4, e10, e32, e49, e50, trivial⟩]
      clear hoff hrel e1 e2 e3 e4 e10 e32 e49 e50
      obtain ⟨σ59, hw60, H, -⟩ := H.pub 7 rfl (Nat.le_refl _)
      rw [← hw60]; clear hw60
      replace H := H.roLow 0 0 rfl (Nat.zero_le _)
      revert h; refine br fun r61 hx62 h => ?_
      have hc63 := c_spec_addHit (Aj := a26) (Ak := c27) hx62
      refine st_call (cx_call hc63 (ent_f hc63.fn rfl) hn0 (H.sel' [0, 0, 1, 2, 3, 4, 5, 6, 7, 8] rfl rfl : Hp S0 σ0 _ ([_] ++ _))) wn ?_
      rintro _ σ66 ⟨_, ⟨a64, c65, rfl, rfl⟩, H, -⟩
      replace H : Hp _ _ _ [_, _, _, _, _, _, _, _, _, _] := H
      replace H : Hp S0 σ0 σ66 [Ch.own n0 n0 (Sl a64 r61 c65) r61, Ch.ro 0 (Sl Gc Gb Gd) Gb, Ch.ro 0 (Sl Cq Cn Cr) Cn, Ch.ro 0 (Sl Bv Bu.1 Bw) Bu.1, Ch.ro 0 (Sl By Bu.2 Bz) Bu.2, Ch.bx n0 b1 0 [(Sl Bv Bu.1 Bw), (Sl By Bu.2 Bz)] [] []] := H.sel' [0, 5, 6, 7, 8, 9] rfl rfl
      refine sa (Sl a64 r61 c65) rfl (w_end (q_blk (q_then (rg (sm (I s24.2) rfl (st (v := (I (w64 (s24.2 + 1)))) (rv_add (a := s24.2) (b := 1) rfl rfl) (sa (I (w64 (s24.2 + 1))) rfl (w_end (q_then ?_)))))))))
      obtain rfl := sj h
      exact ⟨_, rfl, _, σ66, a64, c65, fr_join ⟨rfl, rfl, rfl, rfl, rfl, rfl, trivial⟩, rfl, H.sel' [1, 2, 3, 4, 5, 0] rfl rfl⟩
    ·replace h := bif_f hb28 h
     refine c_exit (q_then_x (q_then_x (q_blk_hit ?_)))
     obtain rfl := sj h
     obtain rfl := hres _ rfl
     exact ⟨rfl, _, σ25, a26, c27, fr_join ⟨rfl, trivial⟩, rfl, H.sel' [5] rfl rfl⟩
   ·clear hj
    have h := h'
    clear h' H
    rintro e a w ⟨rfl, ρ, σ67, a68, c69, rfl, rfl, H⟩
    refine q_then (c_seq (rg (sm (Sl a68 o23 c69) rfl (sa (Sl a68 o23 c69) rfl (w_end (q_then (c_ret ?_)))))))
    obtain rfl := sj h
    exact fin_ret (v := (Sl a68 o23 c69)) (results_ok Tryz.results25 (res_tmp (v := (Sl a68 o23 c69)) rfl res_nil) rfl) ⟨a68, c69, rfl, rfl⟩ (H.sel' [0] rfl rfl)

theorem c_spec_nearest {Ah : List (Int × (List Int) × Int)} {Cm : Int} {Cn : List Int} {Cp : Int} {Aj : Option Addr} {Ak : Nat} {Cq : Option Addr} {Cr : Nat} {r : (List (Int × Int))} (h : M.spec_nearest Ah Cm Cn Cp = some r) :
    Cal2 Tryz.prog 41 [(Sl Aj Ah Ak), (I Cm), (Sl Cq Cn Cr), (I Cp)] [Ch.ro 0 (Sl Aj Ah Ak) Ah, Ch.ro 0 (Sl Cq Cn Cr) Cn] (fun n0 v L => ∃ (az1 : Option Addr), ∃ (cz2 : Nat), v = (Sl az1 r cz2) ∧ L = [Ch.own n0 n0 (Sl az1 r cz2) r]) := by
 refine cal2 (n := 36) Tryz.func41 rfl rfl rfl rfl ?_
 intro S0 σ0 n0 hn0 H
 unfold M.spec_nearest at h
 refine c_seq (rg (sa (.slice none 0 0) rfl (w_end (q_then (c_seq (rg ?_))))))
 refine st_ex (ex_buildSlice (el := n0) (xs := ([] : List (Int × Int))) (ps := []) (cs := []) H hn0 Tryz.underlying27 ti44 rfl rfl (by kernel_rfl) (.nil) rfl) wn ?_
 rintro _ σ2 ⟨b1, rfl, H, -⟩
 refine sa (Sl (some ⟨b1, 0, none⟩) ([] : List (Int × Int)) 0) rfl (w_end (q_then (c_seq (c_seq (rg (sa (I 0) rfl (w_end (q_then ?_))))))))
 obtain ⟨o3, hj, h'⟩ := bind_some h
 clear h
 refine c_cut (fun e a w => e = .normal ∧ ∃ (ρ : Nat → Value) (σ : St) (aj1 : Option Addr) (cj2 : Nat), a = fr 36 (updL ρ [(9, (Sl aj1 o3 cj2))]) ∧ w = σ.w ∧ Hp S0 σ0 σ [Ch.own n0 n0 (Sl aj1 o3 cj2) o3]) ?_ ?_
 ·clear h'
  rename _ = some o3 => h
  refine c_blk (wp_loopM _ h (fun s4 a w => ∃ (ρ : Nat → Value) (σ : St) (aj1 : Option Addr) (cj2 : Nat), a = fr 36 (updL ρ [(0, (Sl Aj Ah Ak)), (1, (I Cm)), (2, (Sl Cq Cn Cr)), (3, (I Cp)), (9, (Sl aj1 s4.1 cj2)), (10, (I s4.2))]) ∧ w = σ.w ∧ Hp S0 σ0 σ [Ch.ro 0 (Sl Aj Ah Ak) Ah, Ch.ro 0 (Sl Cq Cn Cr) Cn, Ch.own n0 n0 (Sl aj1 s4.1 cj2) s4.1]) ⟨_, σ2, (some ⟨b1, 0, none⟩), 0, fr_join ⟨rfl, rfl, rfl, rfl, rfl, rfl, trivial⟩, rfl, H.sel' [1, 2, 0] rfl rfl⟩ ?_)
  clear h H
  rintro s4 a w o ⟨ρ, σ5, a6, c7, rfl, rfl, H⟩ h hres
  refine c_seq (c_seq (rg (sm (I s4.2) rfl (sm (Sl Aj Ah Ak) rfl (st (v := (I (Ah.length : Int))) (rv_len Tryz.underlying23 rfl) (st (v := (B (decide (s4.2 < (Ah.length : Int))))) (rv_lss (a := s4.2) (b := (Ah.length : Int)) rfl rfl) (w_end (q_then ?_))))))))
  refine cd_cond (decide (s4.2 < (Ah.length : Int))) rfl (fun hb8 => ?_) (fun hb8 => ?_)
  ·replace h := bif_t hb8 h
   refine c_skip (q_then (c_seq (c_blk ?_)))
   revert h; refine br fun x9 hx10 h => ?_
   obtain ⟨b12, o13, hi11, -⟩ := (H.ro 0 rfl).ix hx10
   have hc14 := ((H.ro 0 rfl).at hx10 hi11).fst.int
   revert h; refine br fun x15 hx16 h => ?_
   obtain ⟨b18, o19, hi17, -⟩ := (H.ro 0 rfl).ix hx16
   obtain ⟨v23, hc24, hR22⟩ := ((H.ro 0 rfl).at hx16 hi17).snd.fst.slice
   obtain ⟨a20, c21, rfl⟩ := hR22.isSl
   replace H := H.add (d := Ch.ro 0 (Sl a20 x15.2.1 c21) x15.2.1) hR22 (fun _ h => h)
   clear hR22
   revert h; refine br fun r25 hx26 h => ?_
   have hc27 := c_spec_dist (Gu := a20) (Gv := c21) (Gw := Cq) (Gx := Cr) hx26
   have Hs := H
   refine rg2 (σ := σ5) (Nm := Unit) 16 [13] [[false], [true]] [[(0, 0), (1, 1)], [(0, 0), (1, 1)], [(0, 0), (1, 1)], [(0, 0), (1, 1)], [(0, 0), (1, 1)], [(0, 0), (1, 1)], [(0, 0)], [(0, 0)], [(0, 0)], [(0, 0)], [(0, 0)], [(0, 0)], [(0, 0)], [(0, 1)], [(1, 1)], [(0, 0), (1, 1)]] 1 [fun _ => fun σm => Hp S0 σ0 σm [Ch.ro 0 (Sl a20 x15.2.1 c21) x15.2.1, Ch.ro 0 (Sl Aj Ah Ak) Ah, Ch.ro 0 (Sl Cq Cn Cr) Cn, Ch.own n0 n0 (Sl a6 s4.1 c7) s4.1] ∧ Md (cov []) σ5 σm, fun _ => fun σm => Hp S0 σ0 σm [Ch.ro 0 (Sl a20 x15.2.1 c21) x15.2.1, Ch.ro 0 (Sl Aj Ah Ak) Ah, Ch.ro 0 (Sl Cq Cn Cr) Cn, Ch.own n0 n0 (Sl a6 s4.1 c7) s4.1] ∧ Md (cov []) σ5 σm] [fun _ => (Sl a6 s4.1 c7), fun _ => (Sl Aj Ah Ak), fun _ => (I s4.2), fun _ => (pt b12 o13), fun _ => (pt b12 (o13 + 0)), fun _ => (I x9.1), fun _ => (I Cm), fun _ => (Sl Aj Ah Ak), fun _ => (I s4.2), fun _ => (pt b18 o19), fun _ => (pt b18 (o19 + 1)), fun _ => (Sl a20 x15.2.1 c21), fun _ => (Sl Cq Cn Cr), fun _ => (I r25), fun _ => (.agg #[(I x9.1), (I r25)]), fun _ => (I Cp)] () (by kernel_rfl) (by kernel_rfl) ?_ ?_ ?_
   ·intro σm m0
    exact ⟨H.grow (m0.mono fun _ h => h.elim), m0⟩
   ·refine ac rfl (by
      intro k _nm ρ σm hJ hoff hdep
      have e9 := look_off (N := 36) (hoff 9 rfl) rfl
      exact dp_v (v := (Sl a6 s4.1 c7)) wn (rv_move e9) rfl hJ) ?_
    refine ac rfl (by
      intro k _nm ρ σm hJ hoff hdep
      have e0 := look_off (N := 36) (hoff 0 rfl) rfl
      exact dp_v (v := (Sl Aj Ah Ak)) wn (rv_move e0) rfl hJ) ?_
    refine ac rfl (by
      intro k _nm ρ σm hJ hoff hdep
      have e10 := look_off (N := 36) (hoff 10 rfl) rfl
      exact dp_v (v := (I s4.2)) wn (rv_move e10) rfl hJ) ?_
    refine ac rfl (by
      intro k _nm ρ σm hJ hoff hdep
      have e19 := hdep 1 rfl rfl 19 rfl
      have e20 := hdep 2 rfl rfl 20 rfl
      exact dp_v (v := (pt b12 o13)) wn (rv_ix Tryz.underlying23 ti33 e19 e20 hi11) rfl hJ) ?_
    refine ac rfl (by
      intro k _nm ρ σm hJ hoff hdep
      have e21 := hdep 3 rfl rfl 21 rfl
      exact dp_v (v := (pt b12 (o13 + 0))) wn (rv_fieldAddr (off := 0) (ft := 3) Tryz.underlying33 rfl ti3 rfl e21) rfl hJ) ?_
    refine all_cons (by
      refine ⟨?_, ?_⟩
      ·intro _nm ρ σm hJ hoff hdep
       have e22 := hdep 4 rfl rfl 22 rfl
       obtain ⟨H, m⟩ := id hJ
       replace hc14 := (Hs.ro 1 rfl).hmd hx10 hi11 (k := 0) (by decide) hc14 m
       exact dp_v (v := (I x9.1)) wn (rv_load1 Tryz.underlying3 rfl e22 hc14) rfl hJ
      refine ⟨?_, ?_⟩
      ·intro _nm ρ σm hJ hoff hdep
       have e22 := hdep 4 rfl rfl 22 rfl
       obtain ⟨H, m⟩ := id hJ
       replace hc14 := (Hs.ro 1 rfl).hmd hx10 hi11 (k := 0) (by decide) hc14 m
       exact dp_v (v := (I x9.1)) wn (rv_load1 Tryz.underlying3 rfl e22 hc14) rfl hJ
      trivial) ?_
    refine ac rfl (by
      intro k _nm ρ σm hJ hoff hdep
      have e1 := look_off (N := 36) (hoff 1 rfl) rfl
      exact dp_v (v := (I Cm)) wn (rv_move e1) rfl hJ) ?_
    refine ac rfl (by
      intro k _nm ρ σm hJ hoff hdep
      have e0 := look_off (N := 36) (hoff 0 rfl) rfl
      exact dp_v (v := (Sl Aj Ah Ak)) wn (rv_move e0) rfl hJ) ?_
    refine ac rfl (by
      intro k _nm ρ σm hJ hoff hdep
      have e10 := look_off (N := 36) (hoff 10 rfl) rfl
      exact dp_v (v := (I s4.2)) wn (rv_move e10) rfl hJ) ?_
    refine ac rfl (by
      intro k _nm ρ σm hJ hoff hdep
      have e25 := hdep 7 rfl rfl 25 rfl
      have e26 := hdep 8 rfl rfl 26 rfl
      exact dp_v (v := (pt b18 o19)) wn (rv_ix Tryz.underlying23 ti33 e25 e26 hi17) rfl hJ) ?_
    refine ac rfl (by
      intro k _nm ρ σm hJ hoff hdep
      have e27 := hdep 9 rfl rfl 27 rfl
      exact dp_v (v := (pt b18 (o19 + 1))) wn (rv_fieldAddr (off := 1) (ft := 24) Tryz.underlying33 rfl ti24 rfl e27) rfl hJ) ?_
    refine all_cons (by
      refine ⟨?_, ?_⟩
      ·intro _nm ρ σm hJ hoff hdep
       have e28 := hdep 10 rfl rfl 28 rfl
       obtain ⟨H, m⟩ := id hJ
       replace hc24 := (Hs.ro 1 rfl).hmd hx16 hi17 (k := 1) (by decide) hc24 m
       exact dp_v (v := (Sl a20 x15.2.1 c21)) wn (rv_load1 Tryz.underlying24 rfl e28 hc24) rfl hJ
      trivial) ?_
    refine ac rfl (by
      intro k _nm ρ σm hJ hoff hdep
      have e2 := look_off (N := 36) (hoff 2 rfl) rfl
      exact dp_v (v := (Sl Cq Cn Cr)) wn (rv_move e2) rfl hJ) ?_
    refine all_cons (by
      refine ⟨?_, ?_⟩
      ·intro _nm ρ σm hJ hoff hdep
       have e24 : look 36 ρ 24 = (I Cm) := hdep 6 rfl rfl 24 rfl
       have e29 : look 36 ρ 29 = (Sl a20 x15.2.1 c21) := hdep 11 rfl rfl 29 rfl
       have e30 : look 36 ρ 30 = (Sl Cq Cn Cr) := hdep 12 rfl rfl 30 rfl
       obtain ⟨H, m⟩ := id hJ
       refine dp_cx wn (cx_call hc27 (ent_f hc27.fn (by show [look 36 ρ 24, look 36 ρ 29, look 36 ρ 30] = _; rw [e24, e29, e30])) hn0 (H.sel' [0, 2, 0, 1, 2, 3] rfl rfl : Hp S0 σ0 _ ([_, _] ++ _))) ?_
       rintro _ σq ⟨_, ⟨rfl, rfl⟩, H2, m2⟩
       exact ⟨_, (), rfl, rfl, ⟨H2.sel' [0, 1, 2, 3] rfl rfl, m.comp0 (m2.mono (fun i h => by simp [cov, Ch.ro] at h))⟩, stab [0, 1, 2, 3, 4, 5, 6, 7, 8, 9, 10, 11, 12, 15] (by kernel_rfl) ⟨rfl, rfl, rfl, rfl, rfl, rfl, rfl, rfl, rfl, rfl, rfl, rfl, rfl, rfl, trivial⟩⟩
      trivial) ?_
    refine ac rfl (by
      intro k _nm ρ σm hJ hoff hdep
      have e23 : look 36 ρ 23 = (I x9.1) := hdep 5 rfl rfl 23 rfl
      have e31 : look 36 ρ 31 = (I r25) := hdep 13 rfl rfl 31 rfl
      exact dp_v (v := (.agg #[(I x9.1), (I r25)])) wn (rv_build (ps := [(0, (I x9.1)), (1, (I r25))]) Tryz.underlying44 ti44 (bp44 Tryz.underlying44) (by show [(0, look 36 ρ 23), (1, look 36 ρ 31)] = _; rw [e23, e31]) (by kernel_rfl)) rfl hJ) ?_
    refine ac rfl (by
      intro k _nm ρ σm hJ hoff hdep
      have e3 := look_off (N := 36) (hoff 3 rfl) rfl
      exact dp_v (v := (I Cp)) wn (rv_move e3) rfl hJ) ?_
    exact all_nil
   ·intro _nm ρ σ28 hJ hoff hrel
    have e0 := look_off (N := 36) (hoff 0 rfl) rfl
    have e1 := look_off (N := 36) (hoff 1 rfl) rfl
    have e2 := look_off (N := 36) (hoff 2 rfl) rfl
    have e3 := look_off (N := 36) (hoff 3 rfl) rfl
    have e10 := look_off (N := 36) (hoff 10 rfl) rfl
    have e18 := hrel 0 rfl 18 rfl
    have e32 := hrel 14 rfl 32 rfl
    have e33 := hrel 15 rfl 33 rfl
    obtain ⟨H, -⟩ := (show Hp S0 σ0 σ28 [Ch.ro 0 (Sl a20 x15.2.1 c21) x15.2.1, Ch.ro 0 (Sl Aj Ah Ak) Ah, Ch.ro 0 (Sl Cq Cn Cr) Cn, Ch.own n0 n0 (Sl a6 s4.1 c7) s4.1] ∧ Md (cov []) σ5 σ28 from hJ)
    clear hJ Hs
    rw [fr_lookL (L := [(0, (Sl Aj Ah Ak)), (1, (I Cm)), (2, (Sl Cq Cn Cr)), (3, (I Cp)), (10, (I s4.2)), (18, (Sl a6 s4.1 c7)), (32, (.agg #[(I x9.1), (I r25)])), (33, (I Cp))]) ⟨e0, e1, e2, e3, e10, e18, e32, e33, trivial⟩]
    clear hoff hrel e0 e1 e2 e3 e10 e18 e32 e33
    obtain ⟨σ29, hw30, H, -⟩ := H.pub 3 rfl (Nat.le_refl _)
    rw [← hw30]; clear hw30
    replace H := H.roLow 0 0 rfl (Nat.zero_le _)
    revert h; refine br fun r31 hx32 h => ?_
    have hc33 := c_spec_addHit (Aj := a6) (Ak := c7) hx32
    refine st_call (cx_call hc33 (ent_f hc33.fn rfl) hn0 (H.sel' [0, 0, 1, 2, 3, 4] rfl rfl : Hp S0 σ0 _ ([_] ++ _))) wn ?_
    rintro _ σ36 ⟨_, ⟨a34, c35, rfl, rfl⟩, H, -⟩
    replace H : Hp _ _ _ [_, _, _, _, _, _] := H
    refine sa (Sl a34 r31 c35) rfl (w_end (q_blk (q_then (rg (sm (I s4.2) rfl (st (v := (I (w64 (s4.2 + 1)))) (rv_add (a := s4.2) (b := 1) rfl rfl) (sa (I (w64 (s4.2 + 1))) rfl (w_end (q_then ?_)))))))))
    obtain rfl := sj h
    exact ⟨_, rfl, _, σ36, a34, c35, fr_join ⟨rfl, rfl, rfl, rfl, rfl, rfl, trivial⟩, rfl, H.sel' [4, 5, 0] rfl rfl⟩
  ·replace h := bif_f hb8 h
   refine c_exit (q_then_x (q_then_x (q_blk_hit ?_)))
   obtain rfl := sj h
   obtain rfl := hres _ rfl
   exact ⟨rfl, _, σ5, a6, c7, fr_join ⟨rfl, trivial⟩, rfl, H.sel' [2] rfl rfl⟩
 ·clear hj
  have h := h'
  clear h' H
  rintro e a w ⟨rfl, ρ, σ37, a38, c39, rfl, rfl, H⟩
  refine q_then (c_seq (rg (sm (Sl a38 o3 c39) rfl (sa (Sl a38 o3 c39) rfl (w_end (q_then (c_ret ?_)))))))
  obtain rfl := sj h
  exact fin_ret (v := (Sl a38 o3 c39)) (results_ok Tryz.results41 (res_tmp (v := (Sl a38 o3 c39)) rfl res_nil) rfl) ⟨a38, c39, rfl, rfl⟩ (H.sel' [0] rfl rfl)

theorem c_spec_keyAt {Ah : List (Int × (List Int) × Int)} {Bk : Int} {Aj : Option Addr} {Ak : Nat} {r : Int} (h : M.spec_keyAt Ah Bk = some r) :
    Cal2 Tryz.prog 81 [(Sl Aj Ah Ak), (I Bk)] [Ch.ro 0 (Sl Aj Ah Ak) Ah] (fun n0 v L => v = (I r) ∧ L = []) := by
 refine cal2 (n := 20) Tryz.func81 rfl rfl rfl rfl ?_
 intro S0 σ0 n0 hn0 H
 unfold M.spec_keyAt at h
 refine c_seq (rg (sa (I 0) rfl (w_end (q_then (c_seq (c_seq (rg (sa (I 0) rfl (w_end (q_then ?_))))))))))
 obtain ⟨o1, hj, h'⟩ := bind_some h
 clear h
 refine c_cut (fun e a w => (∃ t, o1 = (.inl t) ∧ e = .normal ∧ ∃ (ρ : Nat → Value) (σ : St), a = fr 20 (updL ρ []) ∧ w = σ.w ∧ Hp S0 σ0 σ []) ∨ (∃ t, o1 = (.inr t) ∧ e = .ret ∧ ∃ (ρ : Nat → Value) (σ : St), a = fr 20 (updL ρ [(4, (I t))]) ∧ w = σ.w ∧ Hp S0 σ0 σ [])) ?_ ?_
 ·clear h'
  rename _ = some o1 => h
  refine c_blk (wp_loopM _ h (fun s2 a w => ∃ (ρ : Nat → Value) (σ : St), a = fr 20 (updL ρ [(0, (Sl Aj Ah Ak)), (1, (I Bk)), (5, (I s2))]) ∧ w = σ.w ∧ Hp S0 σ0 σ [Ch.ro 0 (Sl Aj Ah Ak) Ah]) ⟨_, σ0, fr_join ⟨rfl, rfl, rfl, trivial⟩, rfl, H.sel' [0] rfl rfl⟩ ?_)
  clear h H
  rintro s2 a w o ⟨ρ, σ3, rfl, rfl, H⟩ h hres
  refine c_seq (c_seq (rg (sm (I s2) rfl (sm (Sl Aj Ah Ak) rfl (st (v := (I (Ah.length : Int))) (rv_len Tryz.underlying23 rfl) (st (v := (B (decide (s2 < (Ah.length : Int))))) (rv_lss (a := s2) (b := (Ah.length : Int)) rfl rfl) (w_end (q_then ?_))))))))
  refine cd_cond (decide (s2 < (Ah.length : Int))) rfl (fun hb4 => ?_) (fun hb4 => ?_)
  ·replace h := bif_t hb4 h
   refine c_skip (q_then (c_seq (c_blk (c_seq (rg (sm (Sl Aj Ah Ak) rfl (sm (I s2) rfl ?_)))))))
   revert h; refine br fun x5 hx6 h => ?_
   obtain ⟨b8, o9, hi7, -⟩ := (H.ro 0 rfl).ix hx6
   refine st (v := (pt b8 o9)) (rv_ix Tryz.underlying23 ti33 rfl rfl hi7) (st (v := (pt b8 (o9 + 0))) (rv_fieldAddr (off := 0) (ft := 3) Tryz.underlying33 rfl ti3 rfl rfl) ?_)
   have hc10 := ((H.ro 0 rfl).at hx6 hi7).fst.int
   refine st (v := (I x5.1)) (rv_load1 Tryz.underlying3 rfl rfl hc10) (sm (I Bk) rfl (st (v := (B (x5.1 == Bk))) (rv_eql (a := x5.1) (b := Bk) rfl rfl) (w_end (q_then ?_))))
   refine cd_cond (x5.1 == Bk) rfl (fun hb11 => ?_) (fun hb11 => ?_)
   ·replace h := bif_t hb11 h
    refine c_seq (rg (sm (I s2) rfl (sa (I s2) rfl (w_end (q_then (c_ret (q_blk_r (q_then_r (q_then_r (q_blk_r ?_))))))))))
    obtain rfl := sj h
    obtain rfl := hres _ rfl
    exact .inr (⟨_, rfl, rfl, _, σ3, fr_join ⟨rfl, trivial⟩, rfl, H.sel' [] rfl rfl⟩)
   ·replace h := bif_f hb11 h
    refine c_skip (q_blk (q_then (rg (sm (I s2) rfl (st (v := (I (w64 (s2 + 1)))) (rv_add (a := s2) (b := 1) rfl rfl) (sa (I (w64 (s2 + 1))) rfl (w_end (q_then ?_))))))))
    obtain rfl := sj h
    exact ⟨_, rfl, _, σ3, fr_join ⟨rfl, rfl, rfl, trivial⟩, rfl, H.sel' [0] rfl rfl⟩
  ·replace h := bif_f hb4 h
   refine c_exit (q_then_x (q_then_x (q_blk_hit ?_)))
   obtain rfl := sj h
   obtain rfl := hres _ rfl
   exact .inl ⟨_, rfl, rfl, _, σ3, fr_join trivial, rfl, H.sel' [] rfl rfl⟩
 ·clear hj
  have h := h'
  clear h' H
  rintro e a w (⟨t12, rfl, rfl, ρ, σ13, rfl, rfl, H⟩ | ⟨t14, rfl, rfl, ρ, σ15, rfl, rfl, H⟩)
  ·replace h := selim_l h
   refine q_then (c_seq (rg (sa (I (-1)) rfl (w_end (q_then (c_ret ?_))))))
   obtain rfl := sj h
   exact fin_ret (v := (I (-1))) (results_ok Tryz.results81 (res_tmp (v := (I (-1))) rfl res_nil) rfl) ⟨rfl, rfl⟩ (H.sel' [] rfl rfl)
  ·replace h := selim_r h
   refine q_then_r ?_
   obtain rfl := sj h
   exact fin_ret (v := (I t14)) (results_ok Tryz.results81 (res_tmp (v := (I t14)) rfl res_nil) rfl) ⟨rfl, rfl⟩ (H.sel' [] rfl rfl)

theorem c_spec_RerankNearest {Bu : (List (List Int)) × (List (List Int))} {Gb : List (Int × (List Int) × Int)} {Cn : List Int} {Hr : Int} {Ht : Int} {Bv : Option Addr} {Bw : Nat} {By : Option Addr} {Bz : Nat} {Gc : Option Addr} {Gd : Nat} {Cq : Option Addr} {Cr : Nat} {r : (List (Int × Int))} (h : M.spec_RerankNearest Bu Gb Cn Hr Ht = some r) :
    Cal2 Tryz.prog 30 [(.agg #[(Sl Bv Bu.1 Bw), (Sl By Bu.2 Bz)]), (Sl Gc Gb Gd), (Sl Cq Cn Cr), (I Hr), (I Ht)] [Ch.ro 0 (Sl Bv Bu.1 Bw) Bu.1, Ch.ro 0 (Sl By Bu.2 Bz) Bu.2, Ch.ro 0 (Sl Gc Gb Gd) Gb, Ch.ro 0 (Sl Cq Cn Cr) Cn] (fun n0 v L => ∃ (az1 : Option Addr), ∃ (cz2 : Nat), v = (Sl az1 r cz2) ∧ L = [Ch.own n0 n0 (Sl az1 r cz2) r]) := by
 refine cal2 (n := 62) Tryz.func30 rfl rfl rfl rfl ?_
 intro S0 σ0 n0 hn0 H
 unfold M.spec_RerankNearest at h
 refine c_seq (rg (st_ex (ex_box (cs := [(Sl Bv Bu.1 Bw), (Sl By Bu.2 Bz)]) H hn0 rfl rfl) wn ?_))
 rintro _ σ2 ⟨b1, rfl, H, -⟩
 refine sa (.slice none 0 0) rfl (w_end (q_then (c_seq (c_seq ?_))))
 obtain ⟨o3, hj, h'⟩ := bind_some h
 clear h
 refine c_cut (fun e a w => e = .normal ∧ ∃ (ρ : Nat → Value) (σ : St), a = fr 62 (updL ρ [(1, (Sl Gc Gb Gd)), (2, (Sl Cq Cn Cr)), (3, (I Hr)), (4, (I Ht)), (5, (pt b1 0)), (32, (B o3))]) ∧ w = σ.w ∧ Hp S0 σ0 σ [Ch.ro 0 (Sl Gc Gb Gd) Gb, Ch.ro 0 (Sl Cq Cn Cr) Cn, Ch.ro 0 (Sl Bv Bu.1 Bw) Bu.1, Ch.ro 0 (Sl By Bu.2 Bz) Bu.2, Ch.bx n0 b1 0 [(Sl Bv Bu.1 Bw), (Sl By Bu.2 Bz)] [] []]) ?_ ?_
 ·clear h'
  rename _ = some o3 => h
  refine rg (sm (I Ht) rfl ?_)
  revert h; refine br fun r4 hx5 h => ?_
  have hc6 := c_spec_inRange hx5
  refine st_call (cx_call hc6 (ent_f hc6.fn rfl) hn0 (H.sel' [0, 1, 2, 3, 4] rfl rfl : Hp S0 σ0 _ ([] ++ _))) wn ?_
  rintro _ σ7 ⟨_, ⟨rfl, rfl⟩, H, -⟩
  replace H : Hp _ _ _ [_, _, _, _, _] := H
  refine st (v := (B (!r4))) (rv_not rfl) (sm (B (!r4)) rfl ?_)
  rcases Bool.eq_false_or_eq_true (!r4) with hb8 | hb8
  ·replace h := bif_t hb8 h
   refine st_skip (congrArg some hb8) (st_skip (congrArg some hb8) (st_skip (congrArg some hb8) (st (v := (B true)) (rv_pick_t (congrArg B hb8) rfl) (sm (B true) rfl (st_skip rfl (st_skip rfl (st_skip rfl (st (v := (B true)) (rv_pick_t rfl rfl) (sm (B true) rfl (st_skip rfl (st_skip rfl ?_)))))))))))
   refine st_skip rfl (st_skip rfl (st (v := (B true)) (rv_pick_t rfl rfl) (w_end ?_)))
   obtain rfl := sj h
   exact ⟨rfl, _, σ7, fr_join ⟨rfl, rfl, rfl, rfl, rfl, rfl, trivial⟩, rfl, H.sel' [3, 4, 1, 2, 0] rfl rfl⟩
  ·replace h := bif_f hb8 h
   refine st_g (v := (I Hr)) (congrArg some hb8) (rv_move rfl) ?_
   revert h; refine br fun r9 hx10 h => ?_
   have hc11 := c_spec_inRange hx10
   refine st_call (cx_call hc11 (ent_f hc11.fn rfl) hn0 (H.sel' [0, 1, 2, 3, 4] rfl rfl : Hp S0 σ0 _ ([] ++ _))) (wanted_yes rfl (by exact (congrArg some hb8))) ?_
   rintro _ σ12 ⟨_, ⟨rfl, rfl⟩, H, -⟩
   replace H : Hp _ _ _ [_, _, _, _, _] := H
   refine st_g (v := (B (!r9))) (congrArg some hb8) (rv_not rfl) (st (v := (B (!r9))) (rv_pick_f (congrArg B hb8) rfl) (sm (B (!r9)) rfl ?_))
   rcases Bool.eq_false_or_eq_true (!r9) with hb13 | hb13
   ·replace h := bif_t hb13 h
    refine st_skip (congrArg some hb13) (st_skip (congrArg some hb13) (st_skip (congrArg some hb13) (st (v := (B true)) (rv_pick_t (congrArg B hb13) rfl) (sm (B true) rfl (st_skip rfl (st_skip rfl (st_skip rfl (st_skip rfl (st (v := (B true)) (rv_pick_t rfl rfl) (w_end ?_))))))))))
    obtain rfl := sj h
    exact ⟨rfl, _, σ12, fr_join ⟨rfl, rfl, rfl, rfl, rfl, rfl, trivial⟩, rfl, H.sel' [3, 4, 1, 2, 0] rfl rfl⟩
   ·replace h := bif_f hb13 h
    have hc14 := H.cells 0 rfl
    refine st_g (v := (.agg #[(Sl Bv Bu.1 Bw), (Sl By Bu.2 Bz)])) (congrArg some hb13) (rv_load (cs := [(Sl Bv Bu.1 Bw), (Sl By Bu.2 Bz)]) Tryz.underlying47 rfl ti47 rfl rfl hc14) ?_
    revert h; refine br fun r15 hx16 h => ?_
    have hc17 := c_spec_validBook (Bv := Bv) (Bw := Bw) (By := By) (Bz := Bz) hx16
    refine st_call (cx_call hc17 (ent_f hc17.fn rfl) hn0 (H.sel' [1, 2, 0, 1, 2, 3, 4] rfl rfl : Hp S0 σ0 _ ([_, _] ++ _))) (wanted_yes rfl (by exact (congrArg some hb13))) ?_
    rintro _ σ18 ⟨_, ⟨rfl, rfl⟩, H, -⟩
    replace H : Hp _ _ _ [_, _, _, _, _] := H
    refine st_g (v := (B (!r15))) (congrArg some hb13) (rv_not rfl) (st (v := (B (!r15))) (rv_pick_f (congrArg B hb13) rfl) (sm (B (!r15)) rfl ?_))
    rcases Bool.eq_false_or_eq_true (!r15) with hb19 | hb19
    ·replace h := bif_t hb19 h
     refine st_skip (congrArg some hb19) (st_skip (congrArg some hb19) (st_skip (congrArg some hb19) (st_skip (congrArg some hb19) (st (v := (B true)) (rv_pick_t (congrArg B hb19) rfl) (w_end ?_)))))
     obtain rfl := sj h
     exact ⟨rfl, _, σ18, fr_join ⟨rfl, rfl, rfl, rfl, rfl, rfl, trivial⟩, rfl, H.sel' [3, 4, 1, 2, 0] rfl rfl⟩
    ·replace h := bif_f hb19 h
     refine st_g (v := (Sl Gc Gb Gd)) (congrArg some hb19) (rv_move rfl) (st_g (v := (Sl Cq Cn Cr)) (congrArg some hb19) (rv_move rfl) ?_)
     revert h; refine br fun r20 hx21 h => ?_
     have hc22 := c_spec_validQuery (Aj := Gc) (Ak := Gd) (Cq := Cq) (Cr := Cr) hx21
     refine st_call (cx_call hc22 (ent_f hc22.fn rfl) hn0 (H.sel' [3, 4, 0, 1, 2, 3, 4] rfl rfl : Hp S0 σ0 _ ([_, _] ++ _))) (wanted_yes rfl (by exact (congrArg some hb19))) ?_
     rintro _ σ23 ⟨_, ⟨rfl, rfl⟩, H, -⟩
     replace H : Hp _ _ _ [_, _, _, _, _] := H
     refine st_g (v := (B (!r20))) (congrArg some hb19) (rv_not rfl) (st (v := (B (!r20))) (rv_pick_f (congrArg B hb19) rfl) (w_end ?_))
     obtain rfl := sj h
     exact ⟨rfl, _, σ23, fr_join ⟨rfl, rfl, rfl, rfl, rfl, rfl, trivial⟩, rfl, H.sel' [3, 4, 1, 2, 0] rfl rfl⟩
 ·clear hj
  have h := h'
  clear h' H
  rintro e a w ⟨rfl, ρ, σ24, rfl, rfl, H⟩
  refine q_then ?_
  refine cd_cond o3 rfl (fun hb25 => ?_) (fun hb25 => ?_)
  ·replace h := bif_t hb25 h
   refine c_seq (rg (sa (.slice none 0 0) rfl (w_end (q_then (c_ret (q_then_r ?_))))))
   replace H := H.nilOwn (Int × Int) n0 n0
   obtain rfl := sj h
   exact fin_ret (v := (.slice none 0 0)) (results_ok Tryz.results30 (res_tmp (v := (.slice none 0 0)) rfl res_nil) rfl) ⟨none, 0, rfl, rfl⟩ (H.sel' [0] rfl rfl)
  ·replace h := bif_f hb25 h
   refine c_skip (q_then (c_seq (rg ?_)))
   refine st_ex (ex_buildSlice (el := n0) (xs := ([] : List (Int × (List Int) × Int))) (ps := []) (cs := []) H hn0 Tryz.underlying23 ti33 rfl rfl (by kernel_rfl) (.nil) rfl) wn ?_
   rintro _ σ27 ⟨b26, rfl, H, -⟩
   refine sa (Sl (some ⟨b26, 0, none⟩) ([] : List (Int × (List Int) × Int)) 0) rfl (w_end (q_then (c_seq (rg ?_))))
   have hc28 := H.cells 5 rfl
   refine st (v := (.agg #[(Sl Bv Bu.1 Bw), (Sl By Bu.2 Bz)])) (rv_load (cs := [(Sl Bv Bu.1 Bw), (Sl By Bu.2 Bz)]) Tryz.underlying47 rfl ti47 rfl rfl hc28) (sm (Sl Gc Gb Gd) rfl (sm (Sl Cq Cn Cr) rfl (sm (I Hr) rfl ?_)))
   revert h; refine br fun r29 hx30 h => ?_
   have hc31 := c_spec_CodeNearest (Bv := Bv) (Bw := Bw) (By := By) (Bz := Bz) (Gc := Gc) (Gd := Gd) (Cq := Cq) (Cr := Cr) hx30
   refine st_call (cx_call hc31 (ent_f hc31.fn rfl) hn0 (H.sel' [3, 4, 1, 2, 0, 1, 2, 3, 4, 5] rfl rfl : Hp S0 σ0 _ ([_, _, _, _] ++ _))) wn ?_
   rintro _ σ34 ⟨_, ⟨a32, c33, rfl, rfl⟩, H, -⟩
   replace H : Hp _ _ _ [_, _, _, _, _, _, _] := H
   refine sa (Sl a32 r29 c33) rfl (w_end (q_then (c_seq (c_seq (rg (sa (I 0) rfl (w_end (q_then ?_))))))))
   obtain ⟨o35, hj, h'⟩ := bind_some h
   clear h
   refine c_cut (fun e a w => e = .normal ∧ ∃ (ρ : Nat → Value) (σ : St) (aj1 : Option Addr) (cj2 : Nat), a = fr 62 (updL ρ [(2, (Sl Cq Cn Cr)), (4, (I Ht)), (11, (Sl aj1 o35 cj2))]) ∧ w = σ.w ∧ Hp S0 σ0 σ [Ch.ro 0 (Sl Cq Cn Cr) Cn, Ch.own n0 0 (Sl aj1 o35 cj2) o35]) ?_ ?_
   ·clear h'
    rename _ = some o35 => h
    refine c_blk ?_
    replace H := H.ownLow 1 n0 0 rfl (Nat.le_refl _) (Nat.zero_le _)
    refine wp_loopM _ h (fun s36 a w => ∃ (ρ : Nat → Value) (σ : St) (aj1 : Option Addr) (cj2 : Nat), a = fr 62 (updL ρ [(1, (Sl Gc Gb Gd)), (2, (Sl Cq Cn Cr)), (4, (I Ht)), (11, (Sl aj1 s36.1 cj2)), (12, (Sl a32 r29 c33)), (13, (I s36.2))]) ∧ w = σ.w ∧ Hp S0 σ0 σ [Ch.ro 0 (Sl Gc Gb Gd) Gb, Ch.ro 0 (Sl Cq Cn Cr) Cn, Ch.own n0 0 (Sl aj1 s36.1 cj2) s36.1, Ch.own n0 n0 (Sl a32 r29 c33) r29]) ⟨_, σ34, (some ⟨b26, 0, none⟩), 0, fr_join ⟨rfl, rfl, rfl, rfl, rfl, rfl, trivial⟩, rfl, H.sel' [2, 3, 0, 1] rfl rfl⟩ ?_
    clear h H
    rintro s36 a w o ⟨ρ, σ37, a38, c39, rfl, rfl, H⟩ h hres
    refine c_seq (c_seq (rg (sm (I s36.2) rfl (sm (Sl a32 r29 c33) rfl (st (v := (I (r29.length : Int))) (rv_len Tryz.underlying27 rfl) (st (v := (B (decide (s36.2 < (r29.length : Int))))) (rv_lss (a := s36.2) (b := (r29.length : Int)) rfl rfl) (w_end (q_then ?_))))))))
    refine cd_cond (decide (s36.2 < (r29.length : Int))) rfl (fun hb40 => ?_) (fun hb40 => ?_)
    ·replace h := bif_t hb40 h
     refine c_skip (q_then (c_seq (c_blk (rg (sm (Sl a38 s36.1 c39) rfl (sm (Sl Gc Gb Gd) rfl (sm (Sl Gc Gb Gd) rfl (sm (Sl a32 r29 c33) rfl (sm (I s36.2) rfl ?_)))))))))
     revert h; refine br fun x41 hx42 h => ?_
     obtain ⟨b44, o45, hi43, -⟩ := (H.own 3 rfl).ix hx42
     refine st (v := (pt b44 o45)) (rv_ix Tryz.underlying27 ti44 rfl rfl hi43) (st (v := (pt b44 (o45 + 0))) (rv_fieldAddr (off := 0) (ft := 3) Tryz.underlying44 rfl ti3 rfl rfl) ?_)
     have hc46 := ((H.own 3 rfl).at hx42 hi43).fst.int
     refine st (v := (I x41.1)) (rv_load1 Tryz.underlying3 rfl rfl hc46) ?_
     revert h; refine br fun r47 hx48 h => ?_
     have hc49 := c_spec_keyAt (Aj := Gc) (Ak := Gd) hx48
     refine st_call (cx_call hc49 (ent_f hc49.fn rfl) hn0 (H.sel' [0, 0, 1, 2, 3] rfl rfl : Hp S0 σ0 _ ([_] ++ _))) wn ?_
     rintro _ σ50 ⟨_, ⟨rfl, rfl⟩, H, -⟩
     replace H : Hp _ _ _ [_, _, _, _] := H
     revert h; refine br fun x51 hx52 h => ?_
     obtain ⟨b54, o55, hi53, -⟩ := (H.ro 0 rfl).ix hx52
     refine st (v := (pt b54 o55)) (rv_ix Tryz.underlying23 ti33 rfl rfl hi53) ?_
     obtain ⟨_, ⟨_, _, rfl, rfl, ⟨_, _, rfl, ⟨_, rfl, hR60⟩, rfl⟩⟩, hl56, hc57⟩ := ((H.ro 0 rfl).at hx52 hi53).cells
     obtain ⟨a58, c59, rfl⟩ := hR60.isSl
     replace H := H.add (d := Ch.ro 0 (Sl a58 x51.2.1 c59) x51.2.1) hR60 (fun _ h => h)
     clear hR60
     refine st (v := (.agg #[(I x51.1), (Sl a58 x51.2.1 c59), (I x51.2.2)])) (rv_load Tryz.underlying33 rfl ti33 rfl hl56 hc57) ?_
     refine st_ex (ex_buildSlice (el := 0) (xs := ([(x51.1, x51.2.1, x51.2.2)] : List (Int × (List Int) × Int))) (ps := [(0, (.agg #[(I x51.1), (Sl a58 x51.2.1 c59), (I x51.2.2)]))]) (cs := [(I x51.1), (Sl a58 x51.2.1 c59), (I x51.2.2)]) H hn0 Tryz.underlying23 ti33 rfl rfl (by kernel_rfl) (.cons (c := [(I x51.1), (Sl a58 x51.2.1 c59), (I x51.2.2)]) ⟨[(I x51.1)], [(Sl a58 x51.2.1 c59), (I x51.2.2)], rfl, rfl, ⟨[(Sl a58 x51.2.1 c59)], [(I x51.2.2)], rfl, ⟨_, rfl, (H.ro 0 rfl)⟩, rfl⟩⟩ (.nil)) rfl) wn ?_
     rintro _ σ62 ⟨b61, rfl, H, -⟩
     revert h; refine br fun xs63 hx64 h => ?_
     refine st_ex (ex_append H (i := 4) rfl Tryz.underlying23 Tryz.underlying23 ti33 rfl rfl (by decide) (H.own 0 rfl).rd hx64 hn0 rfl rfl) wn ?_
     rintro _ σ67 ⟨a65, c66, rfl, H, -⟩
     refine sa (Sl a65 xs63 c66) rfl (w_end (q_blk (q_then (rg (sm (I s36.2) rfl (st (v := (I (w64 (s36.2 + 1)))) (rv_add (a := s36.2) (b := 1) rfl rfl) (sa (I (w64 (s36.2 + 1))) rfl (w_end (q_then ?_)))))))))
     obtain rfl := sj h
     exact ⟨_, rfl, _, σ67, a65, c66, fr_join ⟨rfl, rfl, rfl, rfl, rfl, rfl, trivial⟩, rfl, H.sel' [3, 4, 0, 5] rfl rfl⟩
    ·replace h := bif_f hb40 h
     refine c_exit (q_then_x (q_then_x (q_blk_hit ?_)))
     obtain rfl := sj h
     obtain rfl := hres _ rfl
     exact ⟨rfl, _, σ37, a38, c39, fr_join ⟨rfl, rfl, rfl, trivial⟩, rfl, H.sel' [1, 2] rfl rfl⟩
   ·clear hj
    have h := h'
    clear h' H
    rintro e a w ⟨rfl, ρ, σ68, a69, c70, rfl, rfl, H⟩
    refine q_then (c_seq (rg (sm (Sl a69 o35 c70) rfl (sm (Sl Cq Cn Cr) rfl (sm (I Ht) rfl ?_)))))
    obtain ⟨σ71, hw72, H, -⟩ := H.pub 1 rfl (Nat.zero_le _)
    rw [← hw72]; clear hw72
    revert h; refine br fun r73 hx74 h => ?_
    have hc75 := c_spec_nearest (Aj := a69) (Ak := c70) (Cq := Cq) (Cr := Cr) hx74
    refine st_call (cx_call hc75 (ent_f hc75.fn rfl) hn0 (H.sel' [0, 1, 0, 1] rfl rfl : Hp S0 σ0 _ ([_, _] ++ _))) wn ?_
    rintro _ σ78 ⟨_, ⟨a76, c77, rfl, rfl⟩, H, -⟩
    replace H : Hp _ _ _ [_, _, _] := H
    refine sa (Sl a76 r73 c77) rfl (w_end (q_then (c_ret ?_)))
    obtain rfl := sj h
    exact fin_ret (v := (Sl a76 r73 c77)) (results_ok Tryz.results30 (res_tmp (v := (Sl a76 r73 c77)) rfl res_nil) rfl) ⟨a76, c77, rfl, rfl⟩ (H.sel' [0] rfl rfl)

theorem c_laws_FnRerankNearestFrom {Ge : List UInt8} {Gf : Option Addr} {Gg : Nat} {r : Bool} (h : M.laws_FnRerankNearestFrom Ge = some r) :
    Cal2 Tryz.prog 6 [(Sl Gf Ge Gg)] [Ch.ro 0 (Sl Gf Ge Gg) Ge] (fun n0 v L => v = (B r) ∧ L = []) := by
 refine cal2 (n := 72) Tryz.func6 rfl rfl rfl rfl ?_
 intro S0 σ0 n0 hn0 H
 unfold M.laws_FnRerankNearestFrom at h
 refine c_seq (rg (sa (B false) rfl (w_end (q_then (c_seq (c_seq (rg (sm (Sl Gf Ge Gg) rfl (st (v := (I (Ge.length : Int))) (rv_len Tryz.underlying22 rfl) (st (v := (B (decide (1048576 < (Ge.length : Int))))) (rv_gtr (a := (Ge.length : Int)) (b := 1048576) rfl rfl) (w_end ?_)))))))))))
 refine q_then ?_
 refine cd_cond (decide (1048576 < (Ge.length : Int))) rfl (fun hb1 => ?_) (fun hb1 => ?_)
 ·replace h := bif_t hb1 h
  refine c_seq (rg (sa (B true) rfl (w_end (q_then (c_ret (q_then_r ?_))))))
  obtain rfl := sj h
  exact fin_ret (v := (B true)) (results_ok Tryz.results6 (res_tmp (v := (B true)) rfl res_nil) rfl) ⟨rfl, rfl⟩ (H.sel' [] rfl rfl)
 ·replace h := bif_f hb1 h
  refine c_skip (q_then (c_seq (rg (sm (Sl Gf Ge Gg) rfl ?_))))
  revert h; refine br fun r2 hx3 h => ?_
  have hc4 := c_spec_DrawRerankNearest (Gf := Gf) (Gg := Gg) hx3
  refine st_call (cx_call hc4 (ent_f hc4.fn rfl) hn0 (H.sel' [0, 0] rfl rfl : Hp S0 σ0 _ ([_] ++ _))) wn ?_
  rintro _ σ13 ⟨_, ⟨a5, c6, a7, c8, a9, c10, a11, c12, rfl, rfl⟩, H, -⟩
  replace H : Hp _ _ _ [_, _, _, _, _] := H
  refine sm (.tuple #[(.agg #[(Sl a5 r2.1.1 c6), (Sl a7 r2.1.2 c8)]), (Sl a9 r2.2.1 c10), (Sl a11 r2.2.2.1 c12), (I r2.2.2.2.1), (I r2.2.2.2.2)]) rfl (st (v := (.agg #[(Sl a5 r2.1.1 c6), (Sl a7 r2.1.2 c8)])) (rv_extract rfl rfl) (st (v := (Sl a9 r2.2.1 c10)) (rv_extract rfl rfl) (st (v := (Sl a11 r2.2.2.1 c12)) (rv_extract rfl rfl) (st (v := (I r2.2.2.2.1)) (rv_extract rfl rfl) (st (v := (I r2.2.2.2.2)) (rv_extract rfl rfl) (st_ex (ex_alloc (cs := [(.slice none 0 0), (.slice none 0 0)]) H hn0 ti47 rfl) wn ?_))))))
  rintro _ σ15 ⟨b14, rfl, H, -⟩
  refine st_exS (ex_store_box (k := 0) (cs := [(.slice none 0 0), (.slice none 0 0)]) (vs := [(Sl a5 r2.1.1 c6), (Sl a7 r2.1.2 c8)]) (cs' := [(Sl a5 r2.1.1 c6), (Sl a7 r2.1.2 c8)]) H (i := 0) rfl ti47 rfl rfl rfl rfl rfl (Nat.le_of_ble_eq_true rfl) (by simp [plain]) rfl) wn ?_
  rintro σ16 ⟨H, -⟩
  refine sa (Sl a9 r2.2.1 c10) rfl (sa (Sl a11 r2.2.2.1 c12) rfl (sa (I r2.2.2.2.1) rfl (sa (I r2.2.2.2.2) rfl (w_end (q_then (c_seq (rg ?_)))))))
  have hc17 := H.cells 0 rfl
  refine st (v := (.agg #[(Sl a5 r2.1.1 c6), (Sl a7 r2.1.2 c8)])) (rv_load (cs := [(Sl a5 r2.1.1 c6), (Sl a7 r2.1.2 c8)]) Tryz.underlying47 rfl ti47 rfl rfl hc17) (sm (Sl a9 r2.2.1 c10) rfl (sm (Sl a11 r2.2.2.1 c12) rfl (sm (I r2.2.2.2.1) rfl (sm (I r2.2.2.2.2) rfl ?_))))
  revert h; refine br fun r18 hx19 h => ?_
  have hc20 := c_impl_RerankNearest (Bv := a5) (Bw := c6) (By := a7) (Bz := c8) (Gc := a9) (Gd := c10) (Cq := a11) (Cr := c12) hx19
  have hle := Nat.le_trans hn0 H.size
  refine st_call (cx_lend (Loan.lend (Loan.lend (Loan.lend (Loan.lend Loan.nil)))) hc20 (ent_f hc20.fn rfl) (show Hp S0 σ0 _ ([Ch.own n0 n0 (Sl a5 r2.1.1 c6) r2.1.1, Ch.own n0 n0 (Sl a7 r2.1.2 c8) r2.1.2, Ch.own n0 n0 (Sl a9 r2.2.1 c10) r2.2.1, Ch.own n0 n0 (Sl a11 r2.2.2.1 c12) r2.2.2.1] ++ ([] ++ [Ch.bx n0 b14 0 [(Sl a5 r2.1.1 c6), (Sl a7 r2.1.2 c8)] [] [], Ch.ro 0 (Sl Gf Ge Gg) Ge])) from (H.sel' [1, 2, 3, 4, 0, 5] rfl rfl)) (by rintro _ _ _ ⟨_, _, rfl, rfl⟩; exact ⟨Ab.ownSc, trivial⟩)) wn ?_
  rintro _ σ23 ⟨_, ⟨a21, c22, rfl, rfl⟩, H, -, -⟩
  replace H : Hp _ _ _ [_, _, _, _, _, _, _] := H
  replace H := H.ownLow 0 0 n0 rfl (Nat.le_refl _) hle
  clear hle
  replace H : Hp _ _ _ [_, _, _, _, _, _, _] := H
  refine sa (Sl a21 r18 c22) rfl (w_end (q_then (c_seq (c_seq ?_))))
  obtain ⟨o24, hj, h'⟩ := bind_some h
  clear h
  refine c_cut (fun e a w => e = .normal ∧ ∃ (ρ : Nat → Value) (σ : St), a = fr 72 (updL ρ [(3, (pt b14 0)), (4, (Sl a9 r2.2.1 c10)), (5, (Sl a11 r2.2.2.1 c12)), (6, (I r2.2.2.2.1)), (7, (I r2.2.2.2.2)), (8, (Sl a21 r18 c22)), (41, (B o24))]) ∧ w = σ.w ∧ Hp S0 σ0 σ [Ch.own n0 n0 (Sl a5 r2.1.1 c6) r2.1.1, Ch.own n0 n0 (Sl a7 r2.1.2 c8) r2.1.2, Ch.bx n0 b14 0 [(Sl a5 r2.1.1 c6), (Sl a7 r2.1.2 c8)] [] [], Ch.own n0 n0 (Sl a9 r2.2.1 c10) r2.2.1, Ch.own n0 n0 (Sl a11 r2.2.2.1 c12) r2.2.2.1, Ch.own 0 n0 (Sl a21 r18 c22) r18]) ?_ ?_
  ·clear h'
   rename _ = some o24 => h
   refine rg (sm (Sl a21 r18 c22) rfl ?_)
   have hc25 := H.cells 5 rfl
   refine st (v := (.agg #[(Sl a5 r2.1.1 c6), (Sl a7 r2.1.2 c8)])) (rv_load (cs := [(Sl a5 r2.1.1 c6), (Sl a7 r2.1.2 c8)]) Tryz.underlying47 rfl ti47 rfl rfl hc25) (sm (Sl a9 r2.2.1 c10) rfl (sm (Sl a11 r2.2.2.1 c12) rfl (sm (I r2.2.2.2.1) rfl (sm (I r2.2.2.2.2) rfl ?_))))
   revert h; refine br fun r26 hx27 h => ?_
   have hc28 := c_spec_RerankNearest (Bv := a5) (Bw := c6) (By := a7) (Bz := c8) (Gc := a9) (Gd := c10) (Cq := a11) (Cr := c12) hx27
   have hle := Nat.le_trans hn0 H.size
   refine st_call (cx_lend (Loan.lend (Loan.lend (Loan.lend (Loan.lend Loan.nil)))) hc28 (ent_f hc28.fn rfl) (show Hp S0 σ0 _ ([Ch.own n0 n0 (Sl a5 r2.1.1 c6) r2.1.1, Ch.own n0 n0 (Sl a7 r2.1.2 c8) r2.1.2, Ch.own n0 n0 (Sl a9 r2.2.1 c10) r2.2.1, Ch.own n0 n0 (Sl a11 r2.2.2.1 c12) r2.2.2.1] ++ ([] ++ [Ch.own 0 n0 (Sl a21 r18 c22) r18, Ch.bx n0 b14 0 [(Sl a5 r2.1.1 c6), (Sl a7 r2.1.2 c8)] [] [], Ch.ro 0 (Sl Gf Ge Gg) Ge])) from (H.sel' [1, 2, 3, 4, 0, 5, 6] rfl rfl)) (by rintro _ _ _ ⟨_, _, rfl, rfl⟩; exact ⟨Ab.ownSc, trivial⟩)) wn ?_
   rintro _ σ31 ⟨_, ⟨a29, c30, rfl, rfl⟩, H, -, -⟩
   replace H : Hp _ _ _ [_, _, _, _, _, _, _, _] := H
   replace H := H.ownLow 0 n0 n0 rfl hle hle
   clear hle
   replace H : Hp _ _ _ [_, _, _, _, _, _, _, _] := H
   replace H : Hp S0 σ0 σ31 [Ch.own n0 n0 (Sl a29 r26 c30) r26, Ch.own n0 n0 (Sl a5 r2.1.1 c6) r2.1.1, Ch.own n0 n0 (Sl a7 r2.1.2 c8) r2.1.2, Ch.own n0 n0 (Sl a9 r2.2.1 c10) r2.2.1, Ch.own n0 n0 (Sl a11 r2.2.2.1 c12) r2.2.2.1, Ch.own 0 n0 (Sl a21 r18 c22) r18, Ch.bx n0 b14 0 [(Sl a5 r2.1.1 c6), (Sl a7 r2.1.2 c8)] [] []] := H.sel' [0, 1, 2, 3, 4, 5, 6] rfl rfl
   obtain ⟨σ32, hw33, H, -⟩ := H.pub 0 rfl (Nat.le_refl _)
   rw [← hw33]; clear hw33
   replace H := H.roLow 0 0 rfl (Nat.zero_le _)
   revert h; refine br fun r34 hx35 h => ?_
   have hc36 := c_laws_equalHits (Ad := a21) (Ae := c22) (Af := a29) (Ag := c30) hx35
   have hle := Nat.le_trans hn0 H.size
   refine st_call (cx_lend (Loan.lend (Loan.same Loan.nil)) hc36 (ent_f hc36.fn rfl) (show Hp S0 σ0 _ ([Ch.own 0 n0 (Sl a21 r18 c22) r18] ++ ([Ch.ro 0 (Sl a29 r26 c30) r26] ++ [Ch.ro 0 (Sl a29 r26 c30) r26, Ch.ro n0 (Sl a29 r26 c30) r26, Ch.own n0 n0 (Sl a5 r2.1.1 c6) r2.1.1, Ch.own n0 n0 (Sl a7 r2.1.2 c8) r2.1.2, Ch.own n0 n0 (Sl a9 r2.2.1 c10) r2.2.1, Ch.own n0 n0 (Sl a11 r2.2.2.1 c12) r2.2.2.1, Ch.bx n0 b14 0 [(Sl a5 r2.1.1 c6), (Sl a7 r2.1.2 c8)] [] []])) from (H.sel' [6, 0, 0, 1, 2, 3, 4, 5, 7] rfl rfl)) (by rintro _ _ _ ⟨rfl, rfl⟩; exact trivial)) wn ?_
   rintro _ σ37 ⟨_, ⟨rfl, rfl⟩, H, -, -⟩
   replace H : Hp _ _ _ [_, _, _, _, _, _, _, _] := H
   clear hle
   replace H : Hp _ _ _ [_, _, _, _, _, _, _, _] := H
   replace H : Hp S0 σ0 σ37 [Ch.own 0 n0 (Sl a21 r18 c22) r18, Ch.own n0 n0 (Sl a5 r2.1.1 c6) r2.1.1, Ch.own n0 n0 (Sl a7 r2.1.2 c8) r2.1.2, Ch.own n0 n0 (Sl a9 r2.2.1 c10) r2.2.1, Ch.own n0 n0 (Sl a11 r2.2.2.1 c12) r2.2.2.1, Ch.bx n0 b14 0 [(Sl a5 r2.1.1 c6), (Sl a7 r2.1.2 c8)] [] []] := H.sel' [0, 3, 4, 5, 6, 7] rfl rfl
   refine st (v := (B (!r34))) (rv_not rfl) (sm (B (!r34)) rfl ?_)
   rcases Bool.eq_false_or_eq_true (!r34) with hb38 | hb38
   ·replace h := bif_t hb38 h
    refine st_skip (congrArg some hb38) (st_skip (congrArg some hb38) (st_skip (congrArg some hb38) (st (v := (B true)) (rv_pick_t (congrArg B hb38) rfl) (w_end ?_))))
    obtain rfl := sj h
    exact ⟨rfl, _, σ37, fr_join ⟨rfl, rfl, rfl, rfl, rfl, rfl, rfl, trivial⟩, rfl, H.sel' [1, 2, 5, 3, 4, 0] rfl rfl⟩
   ·replace h := bif_f hb38 h
    refine st_g (v := (Sl a21 r18 c22)) (congrArg some hb38) (rv_move rfl) (st_g (v := (I (r18.length : Int))) (congrArg some hb38) (rv_len Tryz.underlying27 rfl) (st_g (v := (B ((r18.length : Int) == 0))) (congrArg some hb38) (rv_eql (a := (r18.length : Int)) (b := 0) rfl rfl) (st (v := (B ((r18.length : Int) == 0))) (rv_pick_f (congrArg B hb38) rfl) (w_end ?_))))
    obtain rfl := sj h
    exact ⟨rfl, _, σ37, fr_join ⟨rfl, rfl, rfl, rfl, rfl, rfl, rfl, trivial⟩, rfl, H.sel' [1, 2, 5, 3, 4, 0] rfl rfl⟩
  ·clear hj
   have h := h'
   clear h' H
   rintro e a w ⟨rfl, ρ, σ39, rfl, rfl, H⟩
   refine q_then ?_
   refine cd_cond o24 rfl (fun hb40 => ?_) (fun hb40 => ?_)
   ·replace h := bif_t hb40 h
    refine c_seq (rg (sm (Sl a21 r18 c22) rfl ?_))
    have hc41 := H.cells 2 rfl
    refine st (v := (.agg #[(Sl a5 r2.1.1 c6), (Sl a7 r2.1.2 c8)])) (rv_load (cs := [(Sl a5 r2.1.1 c6), (Sl a7 r2.1.2 c8)]) Tryz.underlying47 rfl ti47 rfl rfl hc41) (sm (Sl a9 r2.2.1 c10) rfl (sm (Sl a11 r2.2.2.1 c12) rfl (sm (I r2.2.2.2.1) rfl (sm (I r2.2.2.2.2) rfl ?_))))
    obtain ⟨σ42, hw43, H, -⟩ := H.pub 0 rfl (Nat.le_refl _)
    rw [← hw43]; clear hw43
    obtain ⟨σ44, hw45, H, -⟩ := H.pub 1 rfl (Nat.le_refl _)
    rw [← hw45]; clear hw45
    obtain ⟨σ46, hw47, H, -⟩ := H.pub 3 rfl (Nat.le_refl _)
    rw [← hw47]; clear hw47
    obtain ⟨σ48, hw49, H, -⟩ := H.pub 4 rfl (Nat.le_refl _)
    rw [← hw49]; clear hw49
    replace H := H.roLow 3 0 rfl (Nat.zero_le _)
    replace H := H.roLow 3 0 rfl (Nat.zero_le _)
    replace H := H.roLow 3 0 rfl (Nat.zero_le _)
    replace H := H.roLow 3 0 rfl (Nat.zero_le _)
    revert h; refine br fun r50 hx51 h => ?_
    have hc52 := c_spec_RerankNearest (Bv := a5) (Bw := c6) (By := a7) (Bz := c8) (Gc := a9) (Gd := c10) (Cq := a11) (Cr := c12) hx51
    refine st_call (cx_call hc52 (ent_f hc52.fn rfl) hn0 (H.sel' [3, 2, 1, 0, 0, 1, 2, 3, 4, 5, 6, 7, 8, 9] rfl rfl : Hp S0 σ0 _ ([_, _, _, _] ++ _))) wn ?_
    rintro _ σ55 ⟨_, ⟨a53, c54, rfl, rfl⟩, H, -⟩
    replace H : Hp _ _ _ [_, _, _, _, _, _, _, _, _, _, _] := H
    replace H : Hp S0 σ0 σ55 [Ch.own n0 n0 (Sl a53 r50 c54) r50, Ch.own 0 n0 (Sl a21 r18 c22) r18] := H.sel' [0, 10] rfl rfl
    replace H := H.ownLow 1 0 0 rfl (Nat.le_refl _) (Nat.zero_le _)
    obtain ⟨σ56, hw57, H, -⟩ := H.pub 0 rfl (Nat.le_refl _)
    rw [← hw57]; clear hw57
    obtain ⟨σ58, hw59, H, -⟩ := H.pub 1 rfl (Nat.le_refl _)
    rw [← hw59]; clear hw59
    replace H := H.roLow 0 0 rfl (Nat.zero_le _)
    revert h; refine br fun r60 hx61 h => ?_
    have hc62 := c_laws_equalHits (Ad := a21) (Ae := c22) (Af := a53) (Ag := c54) hx61
    refine st_call (cx_call hc62 (ent_f hc62.fn rfl) hn0 (H.sel' [2, 0, 0, 1, 2] rfl rfl : Hp S0 σ0 _ ([_, _] ++ _))) wn ?_
    rintro _ σ63 ⟨_, ⟨rfl, rfl⟩, H, -⟩
    replace H : Hp _ _ _ [_, _, _] := H
    refine sa (B r60) rfl (w_end (q_then (c_ret (q_then_r ?_))))
    obtain rfl := sj h
    exact fin_ret (v := (B r60)) (results_ok Tryz.results6 (res_tmp (v := (B r60)) rfl res_nil) rfl) ⟨rfl, rfl⟩ (H.sel' [] rfl rfl)
   ·replace h := bif_f hb40 h
    refine c_skip (q_then (c_seq (rg ?_)))
    have hc64 := H.cells 2 rfl
    refine st (v := (.agg #[(Sl a5 r2.1.1 c6), (Sl a7 r2.1.2 c8)])) (rv_load (cs := [(Sl a5 r2.1.1 c6), (Sl a7 r2.1.2 c8)]) Tryz.underlying47 rfl ti47 rfl rfl hc64) (sm (Sl a9 r2.2.1 c10) rfl (sm (Sl a11 r2.2.2.1 c12) rfl (sm (I r2.2.2.2.1) rfl ?_)))
    obtain ⟨σ65, hw66, H, -⟩ := H.pub 0 rfl (Nat.le_refl _)
    rw [← hw66]; clear hw66
    obtain ⟨σ67, hw68, H, -⟩ := H.pub 1 rfl (Nat.le_refl _)
    rw [← hw68]; clear hw68
    obtain ⟨σ69, hw70, H, -⟩ := H.pub 3 rfl (Nat.le_refl _)
    rw [← hw70]; clear hw70
    obtain ⟨σ71, hw72, H, -⟩ := H.pub 4 rfl (Nat.le_refl _)
    rw [← hw72]; clear hw72
    replace H := H.roLow 3 0 rfl (Nat.zero_le _)
    replace H := H.roLow 3 0 rfl (Nat.zero_le _)
    replace H := H.roLow 3 0 rfl (Nat.zero_le _)
    replace H := H.roLow 3 0 rfl (Nat.zero_le _)
    revert h; refine br fun r73 hx74 h => ?_
    have hc75 := c_impl_CodeNearest (Bv := a5) (Bw := c6) (By := a7) (Bz := c8) (Gc := a9) (Gd := c10) (Cq := a11) (Cr := c12) hx74
    refine st_call (cx_call hc75 (ent_f hc75.fn rfl) hn0 (H.sel' [3, 2, 1, 0, 0, 1, 2, 3, 4, 5, 6, 7, 8, 9] rfl rfl : Hp S0 σ0 _ ([_, _, _, _] ++ _))) wn ?_
    rintro _ σ78 ⟨_, ⟨a76, c77, rfl, rfl⟩, H, -⟩
    replace H : Hp _ _ _ [_, _, _, _, _, _, _, _, _, _, _] := H
    replace H : Hp S0 σ0 σ78 [Ch.own 0 n0 (Sl a76 r73 c77) r73, Ch.own 0 n0 (Sl a21 r18 c22) r18] := H.sel' [0, 10] rfl rfl
    replace H := H.ownLow 0 0 0 rfl (Nat.le_refl _) (Nat.zero_le _)
    obtain ⟨σ79, hw80, H, -⟩ := H.pub 0 rfl (Nat.le_refl _)
    rw [← hw80]; clear hw80
    revert h; refine br fun r81 hx82 h => ?_
    have hc83 := c_laws_keys (Aj := a76) (Ak := c77) hx82
    refine st_call (cx_call hc83 (ent_f hc83.fn rfl) hn0 (H.sel' [0, 0, 1] rfl rfl : Hp S0 σ0 _ ([_] ++ _))) wn ?_
    rintro _ σ86 ⟨_, ⟨a84, c85, rfl, rfl⟩, H, -⟩
    replace H : Hp _ _ _ [_, _, _] := H
    refine sa (Sl a84 r81 c85) rfl (w_end (q_then (c_seq (c_seq (rg (sa (I 0) rfl (w_end (q_then ?_))))))))
    obtain ⟨o87, hj, h'⟩ := bind_some h
    clear h
    refine c_cut (fun e a w => (∃ t, o87 = (.inl t) ∧ e = .normal ∧ ∃ (ρ : Nat → Value) (σ : St), a = fr 72 (updL ρ [(8, (Sl a21 r18 c22))]) ∧ w = σ.w ∧ Hp S0 σ0 σ [Ch.own 0 n0 (Sl a21 r18 c22) r18]) ∨ (∃ t, o87 = (.inr t) ∧ e = .ret ∧ ∃ (ρ : Nat → Value) (σ : St), a = fr 72 (updL ρ [(2, (B t))]) ∧ w = σ.w ∧ Hp S0 σ0 σ [])) ?_ ?_
    ·clear h'
     rename _ = some o87 => h
     refine c_blk (wp_loopM _ h (fun s88 a w => ∃ (ρ : Nat → Value) (σ : St), a = fr 72 (updL ρ [(8, (Sl a21 r18 c22)), (9, (Sl a84 r81 c85)), (10, (I s88))]) ∧ w = σ.w ∧ Hp S0 σ0 σ [Ch.own 0 n0 (Sl a21 r18 c22) r18, Ch.own n0 n0 (Sl a84 r81 c85) r81]) ⟨_, σ86, fr_join ⟨rfl, rfl, rfl, trivial⟩, rfl, H.sel' [2, 0] rfl rfl⟩ ?_)
     clear h H
     rintro s88 a w o ⟨ρ, σ89, rfl, rfl, H⟩ h hres
     refine c_seq (c_seq (rg (sm (I s88) rfl (sm (Sl a21 r18 c22) rfl (st (v := (I (r18.length : Int))) (rv_len Tryz.underlying27 rfl) (st (v := (B (decide (s88 < (r18.length : Int))))) (rv_lss (a := s88) (b := (r18.length : Int)) rfl rfl) (w_end (q_then ?_))))))))
     refine cd_cond (decide (s88 < (r18.length : Int))) rfl (fun hb90 => ?_) (fun hb90 => ?_)
     ·replace h := bif_t hb90 h
      refine c_skip (q_then (c_seq (c_blk (c_seq (rg (sm (Sl a84 r81 c85) rfl (sm (Sl a21 r18 c22) rfl (sm (I s88) rfl ?_))))))))
      revert h; refine br fun x91 hx92 h => ?_
      obtain ⟨b94, o95, hi93, -⟩ := (H.own 0 rfl).ix hx92
      refine st (v := (pt b94 o95)) (rv_ix Tryz.underlying27 ti44 rfl rfl hi93) (st (v := (pt b94 (o95 + 0))) (rv_fieldAddr (off := 0) (ft := 3) Tryz.underlying44 rfl ti3 rfl rfl) ?_)
      have hc96 := ((H.own 0 rfl).at hx92 hi93).fst.int
      refine st (v := (I x91.1)) (rv_load1 Tryz.underlying3 rfl rfl hc96) ?_
      revert h; refine br fun r97 hx98 h => ?_
      have hc99 := c_laws_isIn (Aj := a84) (Ak := c85) hx98
      have hle := Nat.le_trans hn0 H.size
      refine st_call (cx_lend (Loan.lend Loan.nil) hc99 (ent_f hc99.fn rfl) (show Hp S0 σ0 _ ([Ch.own n0 n0 (Sl a84 r81 c85) r81] ++ ([] ++ [Ch.own 0 n0 (Sl a21 r18 c22) r18])) from (H.sel' [1, 0] rfl rfl)) (by rintro _ _ _ ⟨rfl, rfl⟩; exact trivial)) wn ?_
      rintro _ σ100 ⟨_, ⟨rfl, rfl⟩, H, -, -⟩
      replace H : Hp _ _ _ [_, _] := H
      clear hle
      replace H : Hp _ _ _ [_, _] := H
      refine st (v := (B (!r97))) (rv_not rfl) (w_end (q_then ?_))
      refine cd_cond (!r97) rfl (fun hb101 => ?_) (fun hb101 => ?_)
      ·replace h := bif_t hb101 h
       refine c_seq (rg (sa (B false) rfl (w_end (q_then (c_ret (q_blk_r (q_then_r (q_then_r (q_blk_r ?_)))))))))
       obtain rfl := sj h
       obtain rfl := hres _ rfl
       exact .inr (⟨_, rfl, rfl, _, σ100, fr_join ⟨rfl, trivial⟩, rfl, H.sel' [] rfl rfl⟩)
      ·replace h := bif_f hb101 h
       refine c_skip (q_blk (q_then (rg (sm (I s88) rfl (st (v := (I (w64 (s88 + 1)))) (rv_add (a := s88) (b := 1) rfl rfl) (sa (I (w64 (s88 + 1))) rfl (w_end (q_then ?_))))))))
       obtain rfl := sj h
       exact ⟨_, rfl, _, σ100, fr_join ⟨rfl, rfl, rfl, trivial⟩, rfl, H.sel' [1, 0] rfl rfl⟩
     ·replace h := bif_f hb90 h
      refine c_exit (q_then_x (q_then_x (q_blk_hit ?_)))
      obtain rfl := sj h
      obtain rfl := hres _ rfl
      exact .inl ⟨_, rfl, rfl, _, σ89, fr_join ⟨rfl, trivial⟩, rfl, H.sel' [0] rfl rfl⟩
    ·clear hj
     have h := h'
     clear h' H
     rintro e a w (⟨t102, rfl, rfl, ρ, σ103, rfl, rfl, H⟩ | ⟨t110, rfl, rfl, ρ, σ111, rfl, rfl, H⟩)
     ·replace h := selim_l h
      refine q_then (c_seq (rg (sm (Sl a21 r18 c22) rfl ?_)))
      replace H := H.ownLow 0 0 0 rfl (Nat.le_refl _) (Nat.zero_le _)
      obtain ⟨σ104, hw105, H, -⟩ := H.pub 0 rfl (Nat.le_refl _)
      rw [← hw105]; clear hw105
      revert h; refine br fun r106 hx107 h => ?_
      have hc108 := c_impl_ValidHits (Aj := a21) (Ak := c22) hx107
      refine st_call (cx_call hc108 (ent_f hc108.fn rfl) hn0 (H.sel' [0, 0] rfl rfl : Hp S0 σ0 _ ([_] ++ _))) wn ?_
      rintro _ σ109 ⟨_, ⟨rfl, rfl⟩, H, -⟩
      replace H : Hp _ _ _ [_] := H
      refine sa (B r106) rfl (w_end (q_then (c_ret ?_)))
      obtain rfl := sj h
      exact fin_ret (v := (B r106)) (results_ok Tryz.results6 (res_tmp (v := (B r106)) rfl res_nil) rfl) ⟨rfl, rfl⟩ (H.sel' [] rfl rfl)
     ·replace h := selim_r h
      refine q_then_r ?_
      obtain rfl := sj h
      exact fin_ret (v := (B t110)) (results_ok Tryz.results6 (res_tmp (v := (B t110)) rfl res_nil) rfl) ⟨rfl, rfl⟩ (H.sel' [] rfl rfl)

end Go.Vs
