/- The functions compute what their models say. -/
import Derived.Test.YtdjjikmfkejdiacGreatKNearestPutC2
set_option linter.unusedVariables false
set_option linter.unusedSimpArgs false
set_option maxRecDepth 20000
namespace Go.Vs
open Go Go.Proofs
attribute [local irreducible] Code.wp Code.wpIn wpList wpListIn wpQuiet Calls CallsIn

theorem c_spec_validStore {Av : List (Int × (List Int) × Int)} {Aw : Option Addr} {Ax : Nat} {r : Bool} (h : M.spec_validStore Av = some r) :
    Cal2 Tryz.prog 56 [(Sl Aw Av Ax)] [Ch.ro 0 (Sl Aw Av Ax) Av] (fun n0 v L => v = (B r) ∧ L = []) := by
 refine cal2 (n := 37) Tryz.func56 rfl rfl rfl rfl ?_
 intro S0 σ0 n0 hn0 H
 unfold M.spec_validStore at h
 refine c_seq (rg (sa (B false) rfl (w_end (q_then (c_seq (c_seq (rg (sa (I 0) rfl (w_end (q_then ?_))))))))))
 obtain ⟨o1, hj, h'⟩ := bind_some h
 clear h
 refine c_cut (fun e a w => (∃ t, o1 = (.inl t) ∧ e = .normal ∧ ∃ (ρ : Nat → Value) (σ : St), a = fr 37 (updL ρ [(0, (Sl Aw Av Ax))]) ∧ w = σ.w ∧ Hp S0 σ0 σ [Ch.ro 0 (Sl Aw Av Ax) Av]) ∨ (∃ t, o1 = (.inr t) ∧ e = .ret ∧ ∃ (ρ : Nat → Value) (σ : St), a = fr 37 (updL ρ [(2, (B t))]) ∧ w = σ.w ∧ Hp S0 σ0 σ [])) ?_ ?_
 ·clear h'
  rename _ = some o1 => h
  refine c_blk (wp_loopM _ h (fun s2 a w => ∃ (ρ : Nat → Value) (σ : St), a = fr 37 (updL ρ [(0, (Sl Aw Av Ax)), (3, (I s2))]) ∧ w = σ.w ∧ Hp S0 σ0 σ [Ch.ro 0 (Sl Aw Av Ax) Av]) ⟨_, σ0, fr_join ⟨rfl, rfl, trivial⟩, rfl, H.sel' [0] rfl rfl⟩ ?_)
  clear h H
  rintro s2 a w o ⟨ρ, σ3, rfl, rfl, H⟩ h hres
  refine c_seq (c_seq (rg (sm (I s2) rfl (sm (Sl Aw Av Ax) rfl (st (v := (I (Av.length : Int))) (rv_len Tryz.underlying24 rfl) (st (v := (B (decide (s2 < (Av.length : Int))))) (rv_lss (a := s2) (b := (Av.length : Int)) rfl rfl) (w_end (q_then ?_))))))))
  refine cd_cond (decide (s2 < (Av.length : Int))) rfl (fun hb4 => ?_) (fun hb4 => ?_)
  ·replace h := bif_t hb4 h
   refine c_skip (q_then (c_seq (c_blk (c_seq ?_))))
   obtain ⟨o5, hj, h'⟩ := bind_some h
   clear h
   refine c_cut (fun e a w => e = .normal ∧ ∃ (ρ : Nat → Value) (σ : St), a = fr 37 (updL ρ [(0, (Sl Aw Av Ax)), (3, (I s2)), (33, (B o5))]) ∧ w = σ.w ∧ Hp S0 σ0 σ [Ch.ro 0 (Sl Aw Av Ax) Av]) ?_ ?_
   ·clear h'
    rename _ = some o5 => h
    revert h; refine br fun x6 hx7 h => ?_
    obtain ⟨b9, o10, hi8, -⟩ := (H.ro 0 rfl).ix hx7
    obtain ⟨_, ⟨_, _, rfl, rfl, ⟨_, _, rfl, ⟨_, rfl, hR15⟩, rfl⟩⟩, hl11, hc12⟩ := ((H.ro 0 rfl).at hx7 hi8).cells
    obtain ⟨a13, c14, rfl⟩ := hR15.isSl
    replace H := H.add (d := Ch.ro 0 (Sl a13 x6.2.1 c14) x6.2.1) hR15 (fun _ h => h)
    clear hR15
    revert h; refine br fun r16 hx17 h => ?_
    have hc18 := c_spec_validItem (As := a13) (Au := c14) hx17
    rcases Bool.eq_false_or_eq_true (!r16) with hb19 | hb19
    ·replace h := bif_t hb19 h
     have Hs := H
     refine rg2 (σ := σ3) (Nm := Unit) 21 [4] [[false], [true]] [[(0, 0)], [(0, 0)], [(0, 0)], [(0, 0)], [(0, 1)], [(1, 1)], [(1, 1)], [(1, 1)], [(1, 1)], [(1, 1)], [(1, 1)], [(1, 1)], [(1, 1)], [(1, 1)], [(1, 1)], [(1, 1)], [(1, 1)], [(1, 1)], [(1, 1)], [(1, 1)], [(1, 1)]] 1 [fun _ => fun σm => Hp S0 σ0 σm [Ch.ro 0 (Sl a13 x6.2.1 c14) x6.2.1, Ch.ro 0 (Sl Aw Av Ax) Av] ∧ Md (cov []) σ3 σm, fun _ => fun σm => Hp S0 σ0 σm [Ch.ro 0 (Sl a13 x6.2.1 c14) x6.2.1, Ch.ro 0 (Sl Aw Av Ax) Av] ∧ Md (cov []) σ3 σm] [fun _ => (Sl Aw Av Ax), fun _ => (I s2), fun _ => (pt b9 o10), fun _ => (.agg #[(I x6.1), (Sl a13 x6.2.1 c14), (I x6.2.2)]), fun _ => (B r16), fun _ => (B (!r16)), fun _ => (B (!r16)), fun _ => undef, fun _ => undef, fun _ => undef, fun _ => undef, fun _ => undef, fun _ => undef, fun _ => undef, fun _ => undef, fun _ => undef, fun _ => undef, fun _ => undef, fun _ => undef, fun _ => undef, fun _ => undef] () (by kernel_rfl) (by kernel_rfl) ?_ ?_ ?_
     ·intro σm m0
      exact ⟨H.grow (m0.mono fun _ h => h.elim), m0⟩
     ·refine ac rfl (by
        intro k _nm ρ σm hJ hoff hdep
        have e0 := look_off (N := 37) (hoff 0 rfl) rfl
        exact dp_v (v := (Sl Aw Av Ax)) wn (rv_move e0) rfl hJ) ?_
      refine ac rfl (by
        intro k _nm ρ σm hJ hoff hdep
        have e3 := look_off (N := 37) (hoff 3 rfl) rfl
        exact dp_v (v := (I s2)) wn (rv_move e3) rfl hJ) ?_
      refine ac rfl (by
        intro k _nm ρ σm hJ hoff hdep
        have e10 := hdep 0 rfl rfl 10 rfl
        have e11 := hdep 1 rfl rfl 11 rfl
        exact dp_v (v := (pt b9 o10)) wn (rv_ix Tryz.underlying24 ti41 e10 e11 hi8) rfl hJ) ?_
      refine all_cons (by
        refine ⟨?_, ?_⟩
        ·intro _nm ρ σm hJ hoff hdep
         have e12 := hdep 2 rfl rfl 12 rfl
         obtain ⟨H, m⟩ := id hJ
         replace hc12 := fun j hj => (Hs.ro 1 rfl).hmd hx7 hi8 (k := j) (Nat.lt_of_lt_of_eq hj hl11) (hc12 j hj) m
         exact dp_v (v := (.agg #[(I x6.1), (Sl a13 x6.2.1 c14), (I x6.2.2)])) wn (rv_load Tryz.underlying41 rfl ti41 e12 hl11 hc12) rfl hJ
        trivial) ?_
      refine all_cons (by
        refine ⟨?_, ?_⟩
        ·intro _nm ρ σm hJ hoff hdep
         have e13 : look 37 ρ 13 = (.agg #[(I x6.1), (Sl a13 x6.2.1 c14), (I x6.2.2)]) := hdep 3 rfl rfl 13 rfl
         obtain ⟨H, m⟩ := id hJ
         refine dp_cx wn (cx_call hc18 (ent_f hc18.fn (by show [look 37 ρ 13] = _; rw [e13])) hn0 (H.sel' [0, 0, 1] rfl rfl : Hp S0 σ0 _ ([_] ++ _))) ?_
         rintro _ σq ⟨_, ⟨rfl, rfl⟩, H2, m2⟩
         exact ⟨_, (), rfl, rfl, ⟨H2.sel' [0, 1] rfl rfl, m.comp0 (m2.mono (fun i h => by simp [cov, Ch.ro] at h))⟩, stab [0, 1, 2, 3] (by kernel_rfl) ⟨rfl, rfl, rfl, rfl, trivial⟩⟩
        trivial) ?_
      refine ac rfl (by
        intro k _nm ρ σm hJ hoff hdep
        have e14 := hdep 4 rfl rfl 14 rfl
        exact dp_v (v := (B (!r16))) wn (rv_not e14) rfl hJ) ?_
      refine ac rfl (by
        intro k _nm ρ σm hJ hoff hdep
        have e15 := hdep 5 rfl rfl 15 rfl
        exact dp_v (v := (B (!r16))) wn (rv_move e15) rfl hJ) ?_
      refine ac rfl (by
        intro k _nm ρ σm hJ hoff hdep
        have e16 := hdep 6 rfl rfl 16 rfl
        exact dp_skip (wanted_no rfl (yv_of rfl (e16.trans (congrArg B hb19)))) rfl hJ) ?_
      refine ac rfl (by
        intro k _nm ρ σm hJ hoff hdep
        have e16 := hdep 6 rfl rfl 16 rfl
        exact dp_skip (wanted_no rfl (yv_of rfl (e16.trans (congrArg B hb19)))) rfl hJ) ?_
      refine ac rfl (by
        intro k _nm ρ σm hJ hoff hdep
        have e16 := hdep 6 rfl rfl 16 rfl
        exact dp_skip (wanted_no rfl (yv_of rfl (e16.trans (congrArg B hb19)))) rfl hJ) ?_
      refine ac rfl (by
        intro k _nm ρ σm hJ hoff hdep
        have e19 := hdep 9 rfl rfl 19 rfl
        exact dp_skip (wanted_u rfl (yv_undef rfl e19)) rfl hJ) ?_
      refine ac rfl (by
        intro k _nm ρ σm hJ hoff hdep
        have e19 := hdep 9 rfl rfl 19 rfl
        exact dp_skip (wanted_u rfl (yv_undef rfl e19)) rfl hJ) ?_
      refine ac rfl (by
        intro k _nm ρ σm hJ hoff hdep
        have e19 := hdep 9 rfl rfl 19 rfl
        exact dp_skip (wanted_u rfl (yv_undef rfl e19)) rfl hJ) ?_
      refine ac rfl (by
        intro k _nm ρ σm hJ hoff hdep
        have e19 := hdep 9 rfl rfl 19 rfl
        exact dp_skip (wanted_u rfl (yv_undef rfl e19)) rfl hJ) ?_
      refine ac rfl (by
        intro k _nm ρ σm hJ hoff hdep
        have e19 := hdep 9 rfl rfl 19 rfl
        exact dp_skip (wanted_u rfl (yv_undef rfl e19)) rfl hJ) ?_
      refine ac rfl (by
        intro k _nm ρ σm hJ hoff hdep
        have e19 := hdep 9 rfl rfl 19 rfl
        exact dp_skip (wanted_u rfl (yv_undef rfl e19)) rfl hJ) ?_
      refine ac rfl (by
        intro k _nm ρ σm hJ hoff hdep
        have e19 := hdep 9 rfl rfl 19 rfl
        exact dp_skip (wanted_u rfl (yv_undef rfl e19)) rfl hJ) ?_
      refine ac rfl (by
        intro k _nm ρ σm hJ hoff hdep
        have e19 := hdep 9 rfl rfl 19 rfl
        exact dp_skip (wanted_u rfl (yv_undef rfl e19)) rfl hJ) ?_
      refine ac rfl (by
        intro k _nm ρ σm hJ hoff hdep
        have e19 := hdep 9 rfl rfl 19 rfl
        exact dp_skip (wanted_u rfl (yv_undef rfl e19)) rfl hJ) ?_
      refine ac rfl (by
        intro k _nm ρ σm hJ hoff hdep
        have e19 := hdep 9 rfl rfl 19 rfl
        exact dp_skip (wanted_u rfl (yv_undef rfl e19)) rfl hJ) ?_
      refine ac rfl (by
        intro k _nm ρ σm hJ hoff hdep
        have e19 := hdep 9 rfl rfl 19 rfl
        exact dp_skip (wanted_u rfl (yv_undef rfl e19)) rfl hJ) ?_
      exact all_nil
     ·intro _nm ρ σ20 hJ hoff hrel
      have e0 := look_off (N := 37) (hoff 0 rfl) rfl
      have e3 := look_off (N := 37) (hoff 3 rfl) rfl
      have e16 := hrel 6 rfl 16 rfl
      have e19 := hrel 9 rfl 19 rfl
      have e24 := hrel 14 rfl 24 rfl
      have e30 := hrel 20 rfl 30 rfl
      obtain ⟨H, -⟩ := (show Hp S0 σ0 σ20 [Ch.ro 0 (Sl a13 x6.2.1 c14) x6.2.1, Ch.ro 0 (Sl Aw Av Ax) Av] ∧ Md (cov []) σ3 σ20 from hJ)
      clear hJ Hs
      rw [fr_lookL (L := [(0, (Sl Aw Av Ax)), (3, (I s2)), (16, (B (!r16))), (19, undef), (24, undef), (30, undef)]) ⟨e0, e3, e16, e19, e24, e30, trivial⟩]
      clear hoff hrel e0 e3 e16 e19 e24 e30
      refine st_skip_u rfl (st_skip (congrArg some hb19) (st (v := (B true)) (rv_pick_t (congrArg B hb19) rfl) (w_end ?_)))
      obtain rfl := sj h
      exact ⟨rfl, _, σ20, fr_join ⟨rfl, rfl, rfl, trivial⟩, rfl, H.sel' [1] rfl rfl⟩
    ·replace h := bif_f hb19 h
     rcases Bool.eq_false_or_eq_true (decide (0 < s2)) with hb21 | hb21
     ·replace h := bif_t hb21 h
      revert h; refine br fun x22 hx23 h => ?_
      obtain ⟨b25, o26, hi24, -⟩ := (H.ro 1 rfl).ix hx23
      have hc27 := ((H.ro 1 rfl).at hx23 hi24).fst.int
      revert h; refine br fun x28 hx29 h => ?_
      obtain ⟨b31, o32, hi30, -⟩ := (H.ro 1 rfl).ix hx29
      have hc33 := ((H.ro 1 rfl).at hx29 hi30).fst.int
      have Hs := H
      refine rg2 (σ := σ3) (Nm := Unit) 21 [4] [[false], [true]] [[(0, 0)], [(0, 0)], [(0, 0)], [(0, 0)], [(0, 1)], [(1, 1)], [(1, 1)], [(1, 1)], [(1, 1)], [(1, 1)], [(1, 1)], [(1, 1)], [(1, 1)], [(1, 1)], [(1, 1)], [(1, 1)], [(1, 1)], [(1, 1)], [(1, 1)], [(1, 1)], [(1, 1)]] 1 [fun _ => fun σm => Hp S0 σ0 σm [Ch.ro 0 (Sl a13 x6.2.1 c14) x6.2.1, Ch.ro 0 (Sl Aw Av Ax) Av] ∧ Md (cov []) σ3 σm, fun _ => fun σm => Hp S0 σ0 σm [Ch.ro 0 (Sl a13 x6.2.1 c14) x6.2.1, Ch.ro 0 (Sl Aw Av Ax) Av] ∧ Md (cov []) σ3 σm] [fun _ => (Sl Aw Av Ax), fun _ => (I s2), fun _ => (pt b9 o10), fun _ => (.agg #[(I x6.1), (Sl a13 x6.2.1 c14), (I x6.2.2)]), fun _ => (B r16), fun _ => (B (!r16)), fun _ => (B (!r16)), fun _ => (I s2), fun _ => (B (decide (0 < s2))), fun _ => (B (decide (0 < s2))), fun _ => (Sl Aw Av Ax), fun _ => (I s2), fun _ => (pt b25 o26), fun _ => (pt b25 (o26 + 0)), fun _ => (I x22.1), fun _ => (Sl Aw Av Ax), fun _ => (I s2), fun _ => (I (w64 (s2 - 1))), fun _ => (pt b31 o32), fun _ => (pt b31 (o32 + 0)), fun _ => (I x28.1)] () (by kernel_rfl) (by kernel_rfl) ?_ ?_ ?_
      ·intro σm m0
       exact ⟨H.grow (m0.mono fun _ h => h.elim), m0⟩
      ·refine ac rfl (by
         intro k _nm ρ σm hJ hoff hdep
         have e0 := look_off (N := 37) (hoff 0 rfl) rfl
         exact dp_v (v := (Sl Aw Av Ax)) wn (rv_move e0) rfl hJ) ?_
       refine ac rfl (by
         intro k _nm ρ σm hJ hoff hdep
         have e3 := look_off (N := 37) (hoff 3 rfl) rfl
         exact dp_v (v := (I s2)) wn (rv_move e3) rfl hJ) ?_
       refine ac rfl (by
         intro k _nm ρ σm hJ hoff hdep
         have e10 := hdep 0 rfl rfl 10 rfl
         have e11 := hdep 1 rfl rfl 11 rfl
         exact dp_v (v := (pt b9 o10)) wn (rv_ix Tryz.underlying24 ti41 e10 e11 hi8) rfl hJ) ?_
       refine all_cons (by
         refine ⟨?_, ?_⟩
         ·intro _nm ρ σm hJ hoff hdep
          have e12 := hdep 2 rfl rfl 12 rfl
          obtain ⟨H, m⟩ := id hJ
          replace hc12 := fun j hj => (Hs.ro 1 rfl).hmd hx7 hi8 (k := j) (Nat.lt_of_lt_of_eq hj hl11) (hc12 j hj) m
          exact dp_v (v := (.agg #[(I x6.1), (Sl a13 x6.2.1 c14), (I x6.2.2)])) wn (rv_load Tryz.underlying41 rfl ti41 e12 hl11 hc12) rfl hJ
         trivial) ?_
       refine all_cons (by
         refine ⟨?_, ?_⟩
         ·intro _nm ρ σm hJ hoff hdep
          have e13 : look 37 ρ 13 = (.agg #[(I x6.1), (Sl a13 x6.2.1 c14), (I x6.2.2)]) := hdep 3 rfl rfl 13 rfl
          obtain ⟨H, m⟩ := id hJ
          refine dp_cx wn (cx_call hc18 (ent_f hc18.fn (by show [look 37 ρ 13] = _; rw [e13])) hn0 (H.sel' [0, 0, 1] rfl rfl : Hp S0 σ0 _ ([_] ++ _))) ?_
          rintro _ σq ⟨_, ⟨rfl, rfl⟩, H2, m2⟩
          exact ⟨_, (), rfl, rfl, ⟨H2.sel' [0, 1] rfl rfl, m.comp0 (m2.mono (fun i h => by simp [cov, Ch.ro] at h))⟩, stab [0, 1, 2, 3] (by kernel_rfl) ⟨rfl, rfl, rfl, rfl, trivial⟩⟩
         trivial) ?_
       refine ac rfl (by
         intro k _nm ρ σm hJ hoff hdep
         have e14 := hdep 4 rfl rfl 14 rfl
         exact dp_v (v := (B (!r16))) wn (rv_not e14) rfl hJ) ?_
       refine ac rfl (by
         intro k _nm ρ σm hJ hoff hdep
         have e15 := hdep 5 rfl rfl 15 rfl
         exact dp_v (v := (B (!r16))) wn (rv_move e15) rfl hJ) ?_
       refine ac rfl (by
         intro k _nm ρ σm hJ hoff hdep
         have e3 := look_off (N := 37) (hoff 3 rfl) rfl
         have e16 := hdep 6 rfl rfl 16 rfl
         exact dp_v (v := (I s2)) (wanted_yes rfl (yv_of rfl (e16.trans (congrArg B hb19)))) (rv_move e3) rfl hJ) ?_
       refine ac rfl (by
         intro k _nm ρ σm hJ hoff hdep
         have e17 := hdep 7 rfl rfl 17 rfl
         have e16 := hdep 6 rfl rfl 16 rfl
         exact dp_v (v := (B (decide (0 < s2)))) (wanted_yes rfl (yv_of rfl (e16.trans (congrArg B hb19)))) (rv_gtr (a := s2) (b := 0) e17 rfl) rfl hJ) ?_
       refine ac rfl (by
         intro k _nm ρ σm hJ hoff hdep
         have e18 := hdep 8 rfl rfl 18 rfl
         have e16 := hdep 6 rfl rfl 16 rfl
         exact dp_v (v := (B (decide (0 < s2)))) (wanted_yes rfl (yv_of rfl (e16.trans (congrArg B hb19)))) (rv_move e18) rfl hJ) ?_
       refine ac rfl (by
         intro k _nm ρ σm hJ hoff hdep
         have e0 := look_off (N := 37) (hoff 0 rfl) rfl
         have e19 := hdep 9 rfl rfl 19 rfl
         exact dp_v (v := (Sl Aw Av Ax)) (wanted_yes rfl (yv_of rfl (e19.trans (congrArg B hb21)))) (rv_move e0) rfl hJ) ?_
       refine ac rfl (by
         intro k _nm ρ σm hJ hoff hdep
         have e3 := look_off (N := 37) (hoff 3 rfl) rfl
         have e19 := hdep 9 rfl rfl 19 rfl
         exact dp_v (v := (I s2)) (wanted_yes rfl (yv_of rfl (e19.trans (congrArg B hb21)))) (rv_move e3) rfl hJ) ?_
       refine ac rfl (by
         intro k _nm ρ σm hJ hoff hdep
         have e20 := hdep 10 rfl rfl 20 rfl
         have e21 := hdep 11 rfl rfl 21 rfl
         have e19 := hdep 9 rfl rfl 19 rfl
         exact dp_v (v := (pt b25 o26)) (wanted_yes rfl (yv_of rfl (e19.trans (congrArg B hb21)))) (rv_ix Tryz.underlying24 ti41 e20 e21 hi24) rfl hJ) ?_
       refine ac rfl (by
         intro k _nm ρ σm hJ hoff hdep
         have e22 := hdep 12 rfl rfl 22 rfl
         have e19 := hdep 9 rfl rfl 19 rfl
         exact dp_v (v := (pt b25 (o26 + 0))) (wanted_yes rfl (yv_of rfl (e19.trans (congrArg B hb21)))) (rv_fieldAddr (off := 0) (ft := 3) Tryz.underlying41 rfl ti3 rfl e22) rfl hJ) ?_
       refine all_cons (by
         refine ⟨?_, ?_⟩
         ·intro _nm ρ σm hJ hoff hdep
          have e23 := hdep 13 rfl rfl 23 rfl
          have e19 := hdep 9 rfl rfl 19 rfl
          obtain ⟨H, m⟩ := id hJ
          replace hc27 := (Hs.ro 1 rfl).hmd hx23 hi24 (k := 0) (by decide) hc27 m
          exact dp_v (v := (I x22.1)) (wanted_yes rfl (yv_of rfl (e19.trans (congrArg B hb21)))) (rv_load1 Tryz.underlying3 rfl e23 hc27) rfl hJ
         trivial) ?_
       refine ac rfl (by
         intro k _nm ρ σm hJ hoff hdep
         have e0 := look_off (N := 37) (hoff 0 rfl) rfl
         have e19 := hdep 9 rfl rfl 19 rfl
         exact dp_v (v := (Sl Aw Av Ax)) (wanted_yes rfl (yv_of rfl (e19.trans (congrArg B hb21)))) (rv_move e0) rfl hJ) ?_
       refine ac rfl (by
         intro k _nm ρ σm hJ hoff hdep
         have e3 := look_off (N := 37) (hoff 3 rfl) rfl
         have e19 := hdep 9 rfl rfl 19 rfl
         exact dp_v (v := (I s2)) (wanted_yes rfl (yv_of rfl (e19.trans (congrArg B hb21)))) (rv_move e3) rfl hJ) ?_
       refine ac rfl (by
         intro k _nm ρ σm hJ hoff hdep
         have e26 := hdep 16 rfl rfl 26 rfl
         have e19 := hdep 9 rfl rfl 19 rfl
         exact dp_v (v := (I (w64 (s2 - 1)))) (wanted_yes rfl (yv_of rfl (e19.trans (congrArg B hb21)))) (rv_sub (a := s2) (b := 1) e26 rfl) rfl hJ) ?_
       refine ac rfl (by
         intro k _nm ρ σm hJ hoff hdep
         have e25 := hdep 15 rfl rfl 25 rfl
         have e27 := hdep 17 rfl rfl 27 rfl
         have e19 := hdep 9 rfl rfl 19 rfl
         exact dp_v (v := (pt b31 o32)) (wanted_yes rfl (yv_of rfl (e19.trans (congrArg B hb21)))) (rv_ix Tryz.underlying24 ti41 e25 e27 hi30) rfl hJ) ?_
       refine ac rfl (by
         intro k _nm ρ σm hJ hoff hdep
         have e28 := hdep 18 rfl rfl 28 rfl
         have e19 := hdep 9 rfl rfl 19 rfl
         exact dp_v (v := (pt b31 (o32 + 0))) (wanted_yes rfl (yv_of rfl (e19.trans (congrArg B hb21)))) (rv_fieldAddr (off := 0) (ft := 3) Tryz.underlying41 rfl ti3 rfl e28) rfl hJ) ?_
       refine all_cons (by
         refine ⟨?_, ?_⟩
         ·intro _nm ρ σm hJ hoff hdep
          have e29 := hdep 19 rfl rfl 29 rfl
          have e19 := hdep 9 rfl rfl 19 rfl
          obtain ⟨H, m⟩ := id hJ
          replace hc33 := (Hs.ro 1 rfl).hmd hx29 hi30 (k := 0) (by decide) hc33 m
          exact dp_v (v := (I x28.1)) (wanted_yes rfl (yv_of rfl (e19.trans (congrArg B hb21)))) (rv_load1 Tryz.underlying3 rfl e29 hc33) rfl hJ
         trivial) ?_
       exact all_nil
      ·intro _nm ρ σ34 hJ hoff hrel
       have e0 := look_off (N := 37) (hoff 0 rfl) rfl
       have e3 := look_off (N := 37) (hoff 3 rfl) rfl
       have e16 := hrel 6 rfl 16 rfl
       have e19 := hrel 9 rfl 19 rfl
       have e24 := hrel 14 rfl 24 rfl
       have e30 := hrel 20 rfl 30 rfl
       obtain ⟨H, -⟩ := (show Hp S0 σ0 σ34 [Ch.ro 0 (Sl a13 x6.2.1 c14) x6.2.1, Ch.ro 0 (Sl Aw Av Ax) Av] ∧ Md (cov []) σ3 σ34 from hJ)
       clear hJ Hs
       rw [fr_lookL (L := [(0, (Sl Aw Av Ax)), (3, (I s2)), (16, (B (!r16))), (19, (B (decide (0 < s2)))), (24, (I x22.1)), (30, (I x28.1))]) ⟨e0, e3, e16, e19, e24, e30, trivial⟩]
       clear hoff hrel e0 e3 e16 e19 e24 e30
       refine st_g (v := (B (decide (x22.1 ≤ x28.1)))) (congrArg some hb21) (rv_leq (a := x22.1) (b := x28.1) rfl rfl) (st_g (v := (B (decide (x22.1 ≤ x28.1)))) (congrArg some hb19) (rv_pick_t (congrArg B hb21) rfl) (st (v := (B (decide (x22.1 ≤ x28.1)))) (rv_pick_f (congrArg B hb19) rfl) (w_end ?_)))
       obtain rfl := sj h
       exact ⟨rfl, _, σ34, fr_join ⟨rfl, rfl, rfl, trivial⟩, rfl, H.sel' [1] rfl rfl⟩
     ·replace h := bif_f hb21 h
      have Hs := H
      refine rg2 (σ := σ3) (Nm := Unit) 21 [4] [[false], [true]] [[(0, 0)], [(0, 0)], [(0, 0)], [(0, 0)], [(0, 1)], [(1, 1)], [(1, 1)], [(1, 1)], [(1, 1)], [(1, 1)], [(1, 1)], [(1, 1)], [(1, 1)], [(1, 1)], [(1, 1)], [(1, 1)], [(1, 1)], [(1, 1)], [(1, 1)], [(1, 1)], [(1, 1)]] 1 [fun _ => fun σm => Hp S0 σ0 σm [Ch.ro 0 (Sl a13 x6.2.1 c14) x6.2.1, Ch.ro 0 (Sl Aw Av Ax) Av] ∧ Md (cov []) σ3 σm, fun _ => fun σm => Hp S0 σ0 σm [Ch.ro 0 (Sl a13 x6.2.1 c14) x6.2.1, Ch.ro 0 (Sl Aw Av Ax) Av] ∧ Md (cov []) σ3 σm] [fun _ => (Sl Aw Av Ax), fun _ => (I s2), fun _ => (pt b9 o10), fun _ => (.agg #[(I x6.1), (Sl a13 x6.2.1 c14), (I x6.2.2)]), fun _ => (B r16), fun _ => (B (!r16)), fun _ => (B (!r16)), fun _ => (I s2), fun _ => (B (decide (0 < s2))), fun _ => (B (decide (0 < s2))), fun _ => undef, fun _ => undef, fun _ => undef, fun _ => undef, fun _ => undef, fun _ => undef, fun _ => undef, fun _ => undef, fun _ => undef, fun _ => undef, fun _ => undef] () (by kernel_rfl) (by kernel_rfl) ?_ ?_ ?_
      ·intro σm m0
       exact ⟨H.grow (m0.mono fun _ h => h.elim), m0⟩
      ·refine ac rfl (by
         intro k _nm ρ σm hJ hoff hdep
         have e0 := look_off (N := 37) (hoff 0 rfl) rfl
         exact dp_v (v := (Sl Aw Av Ax)) wn (rv_move e0) rfl hJ) ?_
       refine ac rfl (by
         intro k _nm ρ σm hJ hoff hdep
         have e3 := look_off (N := 37) (hoff 3 rfl) rfl
         exact dp_v (v := (I s2)) wn (rv_move e3) rfl hJ) ?_
       refine ac rfl (by
         intro k _nm ρ σm hJ hoff hdep
         have e10 := hdep 0 rfl rfl 10 rfl
         have e11 := hdep 1 rfl rfl 11 rfl
         exact dp_v (v := (pt b9 o10)) wn (rv_ix Tryz.underlying24 ti41 e10 e11 hi8) rfl hJ) ?_
       refine all_cons (by
         refine ⟨?_, ?_⟩
         ·intro _nm ρ σm hJ hoff hdep
          have e12 := hdep 2 rfl rfl 12 rfl
          obtain ⟨H, m⟩ := id hJ
          replace hc12 := fun j hj => (Hs.ro 1 rfl).hmd hx7 hi8 (k := j) (Nat.lt_of_lt_of_eq hj hl11) (hc12 j hj) m
          exact dp_v (v := (.agg #[(I x6.1), (Sl a13 x6.2.1 c14), (I x6.2.2)])) wn (rv_load Tryz.underlying41 rfl ti41 e12 hl11 hc12) rfl hJ
         trivial) ?_
       refine all_cons (by
         refine ⟨?_, ?_⟩
         ·intro _nm ρ σm hJ hoff hdep
          have e13 : look 37 ρ 13 = (.agg #[(I x6.1), (Sl a13 x6.2.1 c14), (I x6.2.2)]) := hdep 3 rfl rfl 13 rfl
          obtain ⟨H, m⟩ := id hJ
          refine dp_cx wn (cx_call hc18 (ent_f hc18.fn (by show [look 37 ρ 13] = _; rw [e13])) hn0 (H.sel' [0, 0, 1] rfl rfl : Hp S0 σ0 _ ([_] ++ _))) ?_
          rintro _ σq ⟨_, ⟨rfl, rfl⟩, H2, m2⟩
          exact ⟨_, (), rfl, rfl, ⟨H2.sel' [0, 1] rfl rfl, m.comp0 (m2.mono (fun i h => by simp [cov, Ch.ro] at h))⟩, stab [0, 1, 2, 3] (by kernel_rfl) ⟨rfl, rfl, rfl, rfl, trivial⟩⟩
         trivial) ?_
       refine ac rfl (by
         intro k _nm ρ σm hJ hoff hdep
         have e14 := hdep 4 rfl rfl 14 rfl
         exact dp_v (v := (B (!r16))) wn (rv_not e14) rfl hJ) ?_
       refine ac rfl (by
         intro k _nm ρ σm hJ hoff hdep
         have e15 := hdep 5 rfl rfl 15 rfl
         exact dp_v (v := (B (!r16))) wn (rv_move e15) rfl hJ) ?_
       refine ac rfl (by
         intro k _nm ρ σm hJ hoff hdep
         have e3 := look_off (N := 37) (hoff 3 rfl) rfl
         have e16 := hdep 6 rfl rfl 16 rfl
         exact dp_v (v := (I s2)) (wanted_yes rfl (yv_of rfl (e16.trans (congrArg B hb19)))) (rv_move e3) rfl hJ) ?_
       refine ac rfl (by
         intro k _nm ρ σm hJ hoff hdep
         have e17 := hdep 7 rfl rfl 17 rfl
         have e16 := hdep 6 rfl rfl 16 rfl
         exact dp_v (v := (B (decide (0 < s2)))) (wanted_yes rfl (yv_of rfl (e16.trans (congrArg B hb19)))) (rv_gtr (a := s2) (b := 0) e17 rfl) rfl hJ) ?_
       refine ac rfl (by
         intro k _nm ρ σm hJ hoff hdep
         have e18 := hdep 8 rfl rfl 18 rfl
         have e16 := hdep 6 rfl rfl 16 rfl
         exact dp_v (v := (B (decide (0 < s2)))) (wanted_yes rfl (yv_of rfl (e16.trans (congrArg B hb19)))) (rv_move e18) rfl hJ) ?_
       refine ac rfl (by
         intro k _nm ρ σm hJ hoff hdep
         have e19 := hdep 9 rfl rfl 19 rfl
         exact dp_skip (wanted_no rfl (yv_of rfl (e19.trans (congrArg B hb21)))) rfl hJ) ?_
       refine ac rfl (by
         intro k _nm ρ σm hJ hoff hdep
         have e19 := hdep 9 rfl rfl 19 rfl
         exact dp_skip (wanted_no rfl (yv_of rfl (e19.trans (congrArg B hb21)))) rfl hJ) ?_
       refine ac rfl (by
         intro k _nm ρ σm hJ hoff hdep
         have e19 := hdep 9 rfl rfl 19 rfl
         exact dp_skip (wanted_no rfl (yv_of rfl (e19.trans (congrArg B hb21)))) rfl hJ) ?_
       refine ac rfl (by
         intro k _nm ρ σm hJ hoff hdep
         have e19 := hdep 9 rfl rfl 19 rfl
         exact dp_skip (wanted_no rfl (yv_of rfl (e19.trans (congrArg B hb21)))) rfl hJ) ?_
       refine ac rfl (by
         intro k _nm ρ σm hJ hoff hdep
         have e19 := hdep 9 rfl rfl 19 rfl
         exact dp_skip (wanted_no rfl (yv_of rfl (e19.trans (congrArg B hb21)))) rfl hJ) ?_
       refine ac rfl (by
         intro k _nm ρ σm hJ hoff hdep
         have e19 := hdep 9 rfl rfl 19 rfl
         exact dp_skip (wanted_no rfl (yv_of rfl (e19.trans (congrArg B hb21)))) rfl hJ) ?_
       refine ac rfl (by
         intro k _nm ρ σm hJ hoff hdep
         have e19 := hdep 9 rfl rfl 19 rfl
         exact dp_skip (wanted_no rfl (yv_of rfl (e19.trans (congrArg B hb21)))) rfl hJ) ?_
       refine ac rfl (by
         intro k _nm ρ σm hJ hoff hdep
         have e19 := hdep 9 rfl rfl 19 rfl
         exact dp_skip (wanted_no rfl (yv_of rfl (e19.trans (congrArg B hb21)))) rfl hJ) ?_
       refine ac rfl (by
         intro k _nm ρ σm hJ hoff hdep
         have e19 := hdep 9 rfl rfl 19 rfl
         exact dp_skip (wanted_no rfl (yv_of rfl (e19.trans (congrArg B hb21)))) rfl hJ) ?_
       refine ac rfl (by
         intro k _nm ρ σm hJ hoff hdep
         have e19 := hdep 9 rfl rfl 19 rfl
         exact dp_skip (wanted_no rfl (yv_of rfl (e19.trans (congrArg B hb21)))) rfl hJ) ?_
       refine ac rfl (by
         intro k _nm ρ σm hJ hoff hdep
         have e19 := hdep 9 rfl rfl 19 rfl
         exact dp_skip (wanted_no rfl (yv_of rfl (e19.trans (congrArg B hb21)))) rfl hJ) ?_
       exact all_nil
      ·intro _nm ρ σ35 hJ hoff hrel
       have e0 := look_off (N := 37) (hoff 0 rfl) rfl
       have e3 := look_off (N := 37) (hoff 3 rfl) rfl
       have e16 := hrel 6 rfl 16 rfl
       have e19 := hrel 9 rfl 19 rfl
       have e24 := hrel 14 rfl 24 rfl
       have e30 := hrel 20 rfl 30 rfl
       obtain ⟨H, -⟩ := (show Hp S0 σ0 σ35 [Ch.ro 0 (Sl a13 x6.2.1 c14) x6.2.1, Ch.ro 0 (Sl Aw Av Ax) Av] ∧ Md (cov []) σ3 σ35 from hJ)
       clear hJ Hs
       rw [fr_lookL (L := [(0, (Sl Aw Av Ax)), (3, (I s2)), (16, (B (!r16))), (19, (B (decide (0 < s2)))), (24, undef), (30, undef)]) ⟨e0, e3, e16, e19, e24, e30, trivial⟩]
       clear hoff hrel e0 e3 e16 e19 e24 e30
       refine st_skip (congrArg some hb21) (st_g (v := (B false)) (congrArg some hb19) (rv_pick_f (congrArg B hb21) rfl) (st (v := (B false)) (rv_pick_f (congrArg B hb19) rfl) (w_end ?_)))
       obtain rfl := sj h
       exact ⟨rfl, _, σ35, fr_join ⟨rfl, rfl, rfl, trivial⟩, rfl, H.sel' [1] rfl rfl⟩
   ·clear hj
    have h := h'
    clear h' H
    rintro e a w ⟨rfl, ρ, σ36, rfl, rfl, H⟩
    refine q_then ?_
    refine cd_cond o5 rfl (fun hb37 => ?_) (fun hb37 => ?_)
    ·replace h := bif_t hb37 h
     refine c_seq (rg (sa (B false) rfl (w_end (q_then (c_ret (q_blk_r (q_then_r (q_then_r (q_blk_r ?_)))))))))
     obtain rfl := sj h
     obtain rfl := hres _ rfl
     exact .inr (⟨_, rfl, rfl, _, σ36, fr_join ⟨rfl, trivial⟩, rfl, H.sel' [] rfl rfl⟩)
    ·replace h := bif_f hb37 h
     refine c_skip (q_blk (q_then (rg (sm (I s2) rfl (st (v := (I (w64 (s2 + 1)))) (rv_add (a := s2) (b := 1) rfl rfl) (sa (I (w64 (s2 + 1))) rfl (w_end (q_then ?_))))))))
     obtain rfl := sj h
     exact ⟨_, rfl, _, σ36, fr_join ⟨rfl, rfl, trivial⟩, rfl, H.sel' [0] rfl rfl⟩
  ·replace h := bif_f hb4 h
   refine c_exit (q_then_x (q_then_x (q_blk_hit ?_)))
   obtain rfl := sj h
   obtain rfl := hres _ rfl
   exact .inl ⟨_, rfl, rfl, _, σ3, fr_join ⟨rfl, trivial⟩, rfl, H.sel' [0] rfl rfl⟩
 ·clear hj
  have h := h'
  clear h' H
  rintro e a w (⟨t38, rfl, rfl, ρ, σ39, rfl, rfl, H⟩ | ⟨t40, rfl, rfl, ρ, σ41, rfl, rfl, H⟩)
  ·replace h := selim_l h
   refine q_then (c_seq (rg (sm (Sl Aw Av Ax) rfl (st (v := (I (Av.length : Int))) (rv_len Tryz.underlying24 rfl) (st (v := (B (decide ((Av.length : Int) ≤ 16)))) (rv_leq (a := (Av.length : Int)) (b := 16) rfl rfl) (sa (B (decide ((Av.length : Int) ≤ 16))) rfl (w_end (q_then (c_ret ?_)))))))))
   obtain rfl := sj h
   exact fin_ret (v := (B (decide ((Av.length : Int) ≤ 16)))) (results_ok Tryz.results56 (res_tmp (v := (B (decide ((Av.length : Int) ≤ 16)))) rfl res_nil) rfl) ⟨rfl, rfl⟩ (H.sel' [] rfl rfl)
  ·replace h := selim_r h
   refine q_then_r ?_
   obtain rfl := sj h
   exact fin_ret (v := (B t40)) (results_ok Tryz.results56 (res_tmp (v := (B t40)) rfl res_nil) rfl) ⟨rfl, rfl⟩ (H.sel' [] rfl rfl)

theorem c_spec_copyItem {Ar : Int × (List Int) × Int} {As : Option Addr} {Au : Nat} {r : (Int × (List Int) × Int)} (h : M.spec_copyItem Ar = some r) :
    Cal2 Tryz.prog 96 [(.agg #[(I Ar.1), (Sl As Ar.2.1 Au), (I Ar.2.2)])] [Ch.ro 0 (Sl As Ar.2.1 Au) Ar.2.1] (fun n0 v L => ∃ (az1 : Option Addr), ∃ (cz2 : Nat), v = (.agg #[(I r.1), (Sl az1 r.2.1 cz2), (I r.2.2)]) ∧ L = [Ch.own n0 n0 (Sl az1 r.2.1 cz2) r.2.1]) := by
 refine cal2 (n := 11) Tryz.func96 rfl rfl rfl rfl ?_
 intro S0 σ0 n0 hn0 H
 unfold M.spec_copyItem at h
 refine c_seq (rg (st_ex (ex_box (cs := [(I Ar.1), (Sl As Ar.2.1 Au), (I Ar.2.2)]) H hn0 rfl rfl) wn ?_))
 rintro _ σ2 ⟨b1, rfl, H, -⟩
 refine st_ex (ex_alloc (cs := [(I 0), (.slice none 0 0), (I 0)]) H hn0 ti41 rfl) wn ?_
 rintro _ σ4 ⟨b3, rfl, H, -⟩
 refine w_end (q_then (c_seq ?_))
 have hc5 := H.cell (u := (I Ar.1)) (o' := 0) 1 0 rfl rfl rfl
 have hc6 := H.cell (u := (Sl As Ar.2.1 Au)) (o' := 1) 1 1 rfl rfl rfl
 revert h; refine br fun r7 hx8 h => ?_
 have hc9 := c_spec_copyInts (Aw := As) (Ax := Au) hx8
 have hc12 := H.cell (u := (I Ar.2.2)) (o' := 2) 1 2 rfl rfl rfl
 have Hs := H
 refine rg2 (σ := σ4) (Nm := (Option Addr) × (Nat)) 7 [4] [[false], [true]] [[(0, 0), (1, 1)], [(0, 0), (1, 1)], [(0, 0)], [(0, 0)], [(0, 1)], [(0, 0), (1, 1)], [(0, 0), (1, 1)]] 1 [fun ((a10, c11) : (Option Addr) × (Nat)) => fun σm => Hp S0 σ0 σm [Ch.bx n0 b3 0 [(I 0), (.slice none 0 0), (I 0)] [] [], Ch.bx n0 b1 0 [(I Ar.1), (Sl As Ar.2.1 Au), (I Ar.2.2)] [] [], Ch.ro 0 (Sl As Ar.2.1 Au) Ar.2.1] ∧ Md (cov []) σ4 σm, fun ((a10, c11) : (Option Addr) × (Nat)) => fun σm => Hp S0 σ0 σm [Ch.own n0 n0 (Sl a10 r7 c11) r7, Ch.bx n0 b3 0 [(I 0), (.slice none 0 0), (I 0)] [] [], Ch.bx n0 b1 0 [(I Ar.1), (Sl As Ar.2.1 Au), (I Ar.2.2)] [] [], Ch.ro 0 (Sl As Ar.2.1 Au) Ar.2.1] ∧ Md (cov []) σ4 σm] [fun ((a10, c11) : (Option Addr) × (Nat)) => (pt b1 0), fun ((a10, c11) : (Option Addr) × (Nat)) => (I Ar.1), fun ((a10, c11) : (Option Addr) × (Nat)) => (pt b1 1), fun ((a10, c11) : (Option Addr) × (Nat)) => (Sl As Ar.2.1 Au), fun ((a10, c11) : (Option Addr) × (Nat)) => (Sl a10 r7 c11), fun ((a10, c11) : (Option Addr) × (Nat)) => (pt b1 2), fun ((a10, c11) : (Option Addr) × (Nat)) => (I Ar.2.2)] (none, 0) (by kernel_rfl) (by kernel_rfl) ?_ ?_ ?_
 ·intro σm m0
  exact ⟨H.grow (m0.mono fun _ h => h.elim), m0⟩
 ·refine ac rfl (by
    intro k; rintro ⟨a10, c11⟩ ρ σm hJ hoff hdep
    have e1 := look_off (N := 11) (hoff 1 rfl) rfl
    exact dp_v (v := (pt b1 0)) wn (rv_fieldAddr (off := 0) (ft := 3) Tryz.underlying41 rfl ti3 rfl e1) rfl hJ) ?_
  refine all_cons (by
    refine ⟨?_, ?_⟩
    ·rintro ⟨a10, c11⟩ ρ σm hJ hoff hdep
     have e3 := hdep 0 rfl rfl 3 rfl
     obtain ⟨H, m⟩ := id hJ
     have hc5 := H.cell (u := (I Ar.1)) (o' := 0) 1 0 rfl rfl rfl
     exact dp_v (v := (I Ar.1)) wn (rv_load1 Tryz.underlying3 rfl e3 hc5) rfl hJ
    refine ⟨?_, ?_⟩
    ·rintro ⟨a10, c11⟩ ρ σm hJ hoff hdep
     have e3 := hdep 0 rfl rfl 3 rfl
     obtain ⟨H, m⟩ := id hJ
     have hc5 := H.cell (u := (I Ar.1)) (o' := 0) 2 0 rfl rfl rfl
     exact dp_v (v := (I Ar.1)) wn (rv_load1 Tryz.underlying3 rfl e3 hc5) rfl hJ
    trivial) ?_
  refine ac rfl (by
    intro k; rintro ⟨a10, c11⟩ ρ σm hJ hoff hdep
    have e1 := look_off (N := 11) (hoff 1 rfl) rfl
    exact dp_v (v := (pt b1 1)) wn (rv_fieldAddr (off := 1) (ft := 25) Tryz.underlying41 rfl ti25 rfl e1) rfl hJ) ?_
  refine all_cons (by
    refine ⟨?_, ?_⟩
    ·rintro ⟨a10, c11⟩ ρ σm hJ hoff hdep
     have e5 := hdep 2 rfl rfl 5 rfl
     obtain ⟨H, m⟩ := id hJ
     have hc6 := H.cell (u := (Sl As Ar.2.1 Au)) (o' := 1) 1 1 rfl rfl rfl
     exact dp_v (v := (Sl As Ar.2.1 Au)) wn (rv_load1 Tryz.underlying25 rfl e5 hc6) rfl hJ
    trivial) ?_
  refine all_cons (by
    refine ⟨?_, ?_⟩
    ·rintro ⟨a10, c11⟩ ρ σm hJ hoff hdep
     have e6 : look 11 ρ 6 = (Sl As Ar.2.1 Au) := hdep 3 rfl rfl 6 rfl
     obtain ⟨H, m⟩ := id hJ
     refine dp_cx wn (cx_call hc9 (ent_f hc9.fn (by show [look 11 ρ 6] = _; rw [e6])) hn0 (H.sel' [2, 0, 1, 2] rfl rfl : Hp S0 σ0 _ ([_] ++ _))) ?_
     rintro _ σq ⟨_, ⟨a10x, c11x, rfl, rfl⟩, H2, m2⟩
     exact ⟨_, (a10x, c11x), rfl, rfl, ⟨H2.sel' [0, 1, 2, 3] rfl rfl, m.comp0 (m2.mono (fun i h => by simp [cov, Ch.ro] at h))⟩, stab [0, 1, 2, 3, 5, 6] (by kernel_rfl) ⟨rfl, rfl, rfl, rfl, rfl, rfl, trivial⟩⟩
    trivial) ?_
  refine ac rfl (by
    intro k; rintro ⟨a10, c11⟩ ρ σm hJ hoff hdep
    have e1 := look_off (N := 11) (hoff 1 rfl) rfl
    exact dp_v (v := (pt b1 2)) wn (rv_fieldAddr (off := 2) (ft := 3) Tryz.underlying41 rfl ti3 rfl e1) rfl hJ) ?_
  refine all_cons (by
    refine ⟨?_, ?_⟩
    ·rintro ⟨a10, c11⟩ ρ σm hJ hoff hdep
     have e8 := hdep 5 rfl rfl 8 rfl
     obtain ⟨H, m⟩ := id hJ
     have hc12 := H.cell (u := (I Ar.2.2)) (o' := 2) 1 2 rfl rfl rfl
     exact dp_v (v := (I Ar.2.2)) wn (rv_load1 Tryz.underlying3 rfl e8 hc12) rfl hJ
    refine ⟨?_, ?_⟩
    ·rintro ⟨a10, c11⟩ ρ σm hJ hoff hdep
     have e8 := hdep 5 rfl rfl 8 rfl
     obtain ⟨H, m⟩ := id hJ
     have hc12 := H.cell (u := (I Ar.2.2)) (o' := 2) 2 2 rfl rfl rfl
     exact dp_v (v := (I Ar.2.2)) wn (rv_load1 Tryz.underlying3 rfl e8 hc12) rfl hJ
    trivial) ?_
  exact all_nil
 ·rintro ⟨a10, c11⟩ ρ σ13 hJ hoff hrel
  have e2 := look_off (N := 11) (hoff 2 rfl) rfl
  have e4 := hrel 1 rfl 4 rfl
  have e7 := hrel 4 rfl 7 rfl
  have e9 := hrel 6 rfl 9 rfl
  obtain ⟨H, -⟩ := (show Hp S0 σ0 σ13 [Ch.own n0 n0 (Sl a10 r7 c11) r7, Ch.bx n0 b3 0 [(I 0), (.slice none 0 0), (I 0)] [] [], Ch.bx n0 b1 0 [(I Ar.1), (Sl As Ar.2.1 Au), (I Ar.2.2)] [] [], Ch.ro 0 (Sl As Ar.2.1 Au) Ar.2.1] ∧ Md (cov []) σ4 σ13 from hJ)
  clear hJ Hs
  rw [fr_lookL (L := [(2, (pt b3 0)), (4, (I Ar.1)), (7, (Sl a10 r7 c11)), (9, (I Ar.2.2))]) ⟨e2, e4, e7, e9, trivial⟩]
  clear hoff hrel e2 e4 e7 e9
  refine st (v := (.agg #[(I Ar.1), (Sl a10 r7 c11), (I Ar.2.2)])) (rv_build (ps := [(0, (I Ar.1)), (1, (Sl a10 r7 c11)), (2, (I Ar.2.2))]) Tryz.underlying41 ti41 (bp41 Tryz.underlying41) rfl (by kernel_rfl)) ?_
  refine st_exS (ex_store_box (k := 0) (cs := [(I 0), (.slice none 0 0), (I 0)]) (vs := [(I Ar.1), (Sl a10 r7 c11), (I Ar.2.2)]) (cs' := [(I Ar.1), (Sl a10 r7 c11), (I Ar.2.2)]) H (i := 1) rfl ti41 rfl rfl rfl rfl rfl (Nat.le_of_ble_eq_true rfl) (by simp [plain]) rfl) wn ?_
  rintro σ14 ⟨H, -⟩
  refine w_end (q_then (c_ret ?_))
  obtain rfl := sj h
  exact fin_ret (v := (.agg #[(I Ar.1), (Sl a10 r7 c11), (I Ar.2.2)])) (results_ok Tryz.results96 (res_cell rfl (run_cellRes (cs := [(I Ar.1), (Sl a10 r7 c11), (I Ar.2.2)]) Tryz.underlying41 rfl ti41 rfl (H.cells 0 rfl)) res_nil) rfl) ⟨a10, c11, rfl, rfl⟩ (H.sel' [1] rfl rfl)

theorem c_spec_put {Av : List (Int × (List Int) × Int)} {Bg : Int × (List Int) × Int} {Aw : Option Addr} {Ax : Nat} {Fo : Option Addr} {Fp : Nat} {r : (List (Int × (List Int) × Int))} (h : M.spec_put Av Bg = some r) :
    Cal2 Tryz.prog 86 [(Sl Aw Av Ax), (.agg #[(I Bg.1), (Sl Fo Bg.2.1 Fp), (I Bg.2.2)])] [Ch.ro 0 (Sl Aw Av Ax) Av, Ch.ro 0 (Sl Fo Bg.2.1 Fp) Bg.2.1] (fun n0 v L => ∃ (az1 : Option Addr), ∃ (cz2 : Nat), v = (Sl az1 r cz2) ∧ L = [Ch.own n0 n0 (Sl az1 r cz2) r]) := by
 refine cal2 (n := 59) Tryz.func86 rfl rfl rfl rfl ?_
 intro S0 σ0 n0 hn0 H
 unfold M.spec_put at h
 refine c_seq (rg (st_ex (ex_box (cs := [(I Bg.1), (Sl Fo Bg.2.1 Fp), (I Bg.2.2)]) H hn0 rfl rfl) wn ?_))
 rintro _ σ2 ⟨b1, rfl, H, -⟩
 refine sa (.slice none 0 0) rfl (w_end (q_then (c_seq (rg ?_))))
 refine st_ex (ex_buildSlice (el := n0) (xs := ([] : List (Int × (List Int) × Int))) (ps := []) (cs := []) H hn0 Tryz.underlying24 ti41 rfl rfl (by kernel_rfl) (.nil) rfl) wn ?_
 rintro _ σ4 ⟨b3, rfl, H, -⟩
 refine sa (Sl (some ⟨b3, 0, none⟩) ([] : List (Int × (List Int) × Int)) 0) rfl (w_end (q_then (c_seq (c_seq (rg (sa (I 0) rfl (w_end (q_then ?_))))))))
 obtain ⟨o5, hj, h'⟩ := bind_some h
 clear h
 refine c_cut (fun e a w => e = .normal ∧ ∃ (ρ : Nat → Value) (σ : St) (aj1 : Option Addr) (cj2 : Nat), a = fr 59 (updL ρ [(0, (Sl Aw Av Ax)), (3, (pt b1 0)), (5, (Sl aj1 o5 cj2))]) ∧ w = σ.w ∧ Hp S0 σ0 σ [Ch.ro 0 (Sl Aw Av Ax) Av, Ch.ro 0 (Sl Fo Bg.2.1 Fp) Bg.2.1, Ch.bx n0 b1 0 [(I Bg.1), (Sl Fo Bg.2.1 Fp), (I Bg.2.2)] [] [], Ch.own n0 n0 (Sl aj1 o5 cj2) o5]) ?_ ?_
 ·clear h'
  rename _ = some o5 => h
  refine c_blk (wp_loopM _ h (fun s6 a w => ∃ (ρ : Nat → Value) (σ : St) (aj1 : Option Addr) (cj2 : Nat), a = fr 59 (updL ρ [(0, (Sl Aw Av Ax)), (3, (pt b1 0)), (5, (Sl aj1 s6.1 cj2)), (6, (I s6.2))]) ∧ w = σ.w ∧ Hp S0 σ0 σ [Ch.ro 0 (Sl Aw Av Ax) Av, Ch.ro 0 (Sl Fo Bg.2.1 Fp) Bg.2.1, Ch.bx n0 b1 0 [(I Bg.1), (Sl Fo Bg.2.1 Fp), (I Bg.2.2)] [] [], Ch.own n0 n0 (Sl aj1 s6.1 cj2) s6.1]) ⟨_, σ4, (some ⟨b3, 0, none⟩), 0, fr_join ⟨rfl, rfl, rfl, rfl, trivial⟩, rfl, H.sel' [2, 3, 1, 0] rfl rfl⟩ ?_)
  clear h H
  rintro s6 a w o ⟨ρ, σ7, a8, c9, rfl, rfl, H⟩ h hres
  refine c_seq (c_seq (rg (sm (I s6.2) rfl (sm (Sl Aw Av Ax) rfl (st (v := (I (Av.length : Int))) (rv_len Tryz.underlying24 rfl) (st (v := (B (decide (s6.2 < (Av.length : Int))))) (rv_lss (a := s6.2) (b := (Av.length : Int)) rfl rfl) (w_end (q_then ?_))))))))
  refine cd_cond (decide (s6.2 < (Av.length : Int))) rfl (fun hb10 => ?_) (fun hb10 => ?_)
  ·replace h := bif_t hb10 h
   refine c_skip (q_then (c_seq ?_))
   obtain ⟨o11, hj, h'⟩ := bind_some h
   clear h
   refine c_cut (fun e a w => e = .normal ∧ ∃ (ρ : Nat → Value) (σ : St) (aj1 : Option Addr) (cj2 : Nat), a = fr 59 (updL ρ [(0, (Sl Aw Av Ax)), (3, (pt b1 0)), (5, (Sl aj1 o11 cj2)), (6, (I s6.2))]) ∧ w = σ.w ∧ Hp S0 σ0 σ [Ch.ro 0 (Sl Aw Av Ax) Av, Ch.ro 0 (Sl Fo Bg.2.1 Fp) Bg.2.1, Ch.bx n0 b1 0 [(I Bg.1), (Sl Fo Bg.2.1 Fp), (I Bg.2.2)] [] [], Ch.own n0 n0 (Sl aj1 o11 cj2) o11]) ?_ ?_
   ·clear h'
    rename _ = some o11 => h
    refine c_blk (c_seq ?_)
    refine rgP (σ := σ7) 7 (by kernel_rfl) (by kernel_rfl) (by kernel_rfl) ?_
    refine sq (v := (Sl Aw Av Ax)) (rv_move rfl) (sq (v := (I s6.2)) (rv_move rfl) ?_)
    revert h; refine br fun x12 hx13 h => ?_
    obtain ⟨b15, o16, hi14, -⟩ := (H.ro 0 rfl).ix hx13
    refine sq (v := (pt b15 o16)) (rv_ix Tryz.underlying24 ti41 rfl rfl hi14) (sq (v := (pt b15 (o16 + 0))) (rv_fieldAddr (off := 0) (ft := 3) Tryz.underlying41 rfl ti3 rfl rfl) ?_)
    have hc17 := ((H.ro 0 rfl).at hx13 hi14).fst.int
    refine sq (v := (I x12.1)) (rv_load1 Tryz.underlying3 rfl rfl hc17) (sq (v := (pt b1 0)) (rv_fieldAddr (off := 0) (ft := 3) Tryz.underlying41 rfl ti3 rfl rfl) ?_)
    have hc18 := H.cell (u := (I Bg.1)) (o' := 0) 2 0 rfl rfl rfl
    refine sq (v := (I Bg.1)) (rv_load1 Tryz.underlying3 rfl rfl hc18) (sq_end ?_)
    intro σ19 hm20
    replace H := H.grow (hm20.mono fun _ h => h); clear hm20
    refine st (v := (B (decide (x12.1 < Bg.1)))) (rv_lss (a := x12.1) (b := Bg.1) rfl rfl) (w_end (q_then ?_))
    refine cd_cond (decide (x12.1 < Bg.1)) rfl (fun hb21 => ?_) (fun hb21 => ?_)
    ·replace h := bif_t hb21 h
     refine rg (sm (Sl a8 s6.1 c9) rfl (sm (Sl Aw Av Ax) rfl (sm (I s6.2) rfl ?_)))
     revert h; refine br fun x22 hx23 h => ?_
     obtain ⟨b25, o26, hi24, -⟩ := (H.ro 0 rfl).ix hx23
     refine st (v := (pt b25 o26)) (rv_ix Tryz.underlying24 ti41 rfl rfl hi24) ?_
     obtain ⟨_, ⟨_, _, rfl, rfl, ⟨_, _, rfl, ⟨_, rfl, hR31⟩, rfl⟩⟩, hl27, hc28⟩ := ((H.ro 0 rfl).at hx23 hi24).cells
     obtain ⟨a29, c30, rfl⟩ := hR31.isSl
     replace H := H.add (d := Ch.ro 0 (Sl a29 x22.2.1 c30) x22.2.1) hR31 (fun _ h => h)
     clear hR31
     refine st (v := (.agg #[(I x22.1), (Sl a29 x22.2.1 c30), (I x22.2.2)])) (rv_load Tryz.underlying41 rfl ti41 rfl hl27 hc28) ?_
     revert h; refine br fun r32 hx33 h => ?_
     have hc34 := c_spec_copyItem (As := a29) (Au := c30) hx33
     refine st_call (cx_call hc34 (ent_f hc34.fn rfl) hn0 (H.sel' [0, 0, 1, 2, 3, 4] rfl rfl : Hp S0 σ0 _ ([_] ++ _))) wn ?_
     rintro _ σ37 ⟨_, ⟨a35, c36, rfl, rfl⟩, H, -⟩
     replace H : Hp _ _ _ [_, _, _, _, _, _] := H
     obtain ⟨σ38, hw39, H, -⟩ := H.pub 0 rfl (Nat.le_refl _)
     rw [← hw39]; clear hw39
     refine st_ex (ex_buildSlice (el := n0) (xs := ([(r32.1, r32.2.1, r32.2.2)] : List (Int × (List Int) × Int))) (ps := [(0, (.agg #[(I r32.1), (Sl a35 r32.2.1 c36), (I r32.2.2)]))]) (cs := [(I r32.1), (Sl a35 r32.2.1 c36), (I r32.2.2)]) H hn0 Tryz.underlying24 ti41 rfl rfl (by kernel_rfl) (.cons (c := [(I r32.1), (Sl a35 r32.2.1 c36), (I r32.2.2)]) ⟨[(I r32.1)], [(Sl a35 r32.2.1 c36), (I r32.2.2)], rfl, rfl, ⟨[(Sl a35 r32.2.1 c36)], [(I r32.2.2)], rfl, ⟨_, rfl, (H.ro 0 rfl)⟩, rfl⟩⟩ (.nil)) rfl) wn ?_
     rintro _ σ41 ⟨b40, rfl, H, -⟩
     revert h; refine br fun xs42 hx43 h => ?_
     refine st_ex (ex_append H (i := 6) rfl Tryz.underlying24 Tryz.underlying24 ti41 rfl rfl (by decide) (H.own 0 rfl).rd hx43 hn0 rfl rfl) wn ?_
     rintro _ σ46 ⟨a44, c45, rfl, H, -⟩
     refine sa (Sl a44 xs42 c45) rfl (w_end (q_blk ?_))
     obtain rfl := sj h
     exact ⟨rfl, _, σ46, a44, c45, fr_join ⟨rfl, rfl, rfl, rfl, trivial⟩, rfl, H.sel' [4, 5, 6, 0] rfl rfl⟩
    ·replace h := bif_f hb21 h
     refine c_skip (q_blk ?_)
     obtain rfl := sj h
     exact ⟨rfl, _, σ19, a8, c9, fr_join ⟨rfl, rfl, rfl, rfl, trivial⟩, rfl, H.sel' [0, 1, 2, 3] rfl rfl⟩
   ·clear hj
    have h := h'
    clear h' H
    rintro e a w ⟨rfl, ρ, σ47, a48, c49, rfl, rfl, H⟩
    refine q_then (rg (sm (I s6.2) rfl (st (v := (I (w64 (s6.2 + 1)))) (rv_add (a := s6.2) (b := 1) rfl rfl) (sa (I (w64 (s6.2 + 1))) rfl (w_end (q_then ?_))))))
    obtain rfl := sj h
    exact ⟨_, rfl, _, σ47, a48, c49, fr_join ⟨rfl, rfl, rfl, rfl, trivial⟩, rfl, H.sel' [0, 1, 2, 3] rfl rfl⟩
  ·replace h := bif_f hb10 h
   refine c_exit (q_then_x (q_then_x (q_blk_hit ?_)))
   obtain rfl := sj h
   obtain rfl := hres _ rfl
   exact ⟨rfl, _, σ7, a8, c9, fr_join ⟨rfl, rfl, rfl, trivial⟩, rfl, H.sel' [0, 1, 2, 3] rfl rfl⟩
 ·clear hj
  have h := h'
  clear h' H
  rintro e a w ⟨rfl, ρ, σ50, a51, c52, rfl, rfl, H⟩
  refine q_then (c_seq (rg (sm (Sl a51 o5 c52) rfl ?_)))
  have hc53 := H.cells 2 rfl
  refine st (v := (.agg #[(I Bg.1), (Sl Fo Bg.2.1 Fp), (I Bg.2.2)])) (rv_load (cs := [(I Bg.1), (Sl Fo Bg.2.1 Fp), (I Bg.2.2)]) Tryz.underlying41 rfl ti41 rfl rfl hc53) ?_
  revert h; refine br fun r54 hx55 h => ?_
  have hc56 := c_spec_copyItem (As := Fo) (Au := Fp) hx55
  refine st_call (cx_call hc56 (ent_f hc56.fn rfl) hn0 (H.sel' [1, 0, 1, 2, 3] rfl rfl : Hp S0 σ0 _ ([_] ++ _))) wn ?_
  rintro _ σ59 ⟨_, ⟨a57, c58, rfl, rfl⟩, H, -⟩
  replace H : Hp _ _ _ [_, _, _, _, _] := H
  obtain ⟨σ60, hw61, H, -⟩ := H.pub 0 rfl (Nat.le_refl _)
  rw [← hw61]; clear hw61
  refine st_ex (ex_buildSlice (el := n0) (xs := ([(r54.1, r54.2.1, r54.2.2)] : List (Int × (List Int) × Int))) (ps := [(0, (.agg #[(I r54.1), (Sl a57 r54.2.1 c58), (I r54.2.2)]))]) (cs := [(I r54.1), (Sl a57 r54.2.1 c58), (I r54.2.2)]) H hn0 Tryz.underlying24 ti41 rfl rfl (by kernel_rfl) (.cons (c := [(I r54.1), (Sl a57 r54.2.1 c58), (I r54.2.2)]) ⟨[(I r54.1)], [(Sl a57 r54.2.1 c58), (I r54.2.2)], rfl, rfl, ⟨[(Sl a57 r54.2.1 c58)], [(I r54.2.2)], rfl, ⟨_, rfl, (H.ro 0 rfl)⟩, rfl⟩⟩ (.nil)) rfl) wn ?_
  rintro _ σ63 ⟨b62, rfl, H, -⟩
  revert h; refine br fun xs64 hx65 h => ?_
  refine st_ex (ex_append H (i := 5) rfl Tryz.underlying24 Tryz.underlying24 ti41 rfl rfl (by decide) (H.own 0 rfl).rd hx65 hn0 rfl rfl) wn ?_
  rintro _ σ68 ⟨a66, c67, rfl, H, -⟩
  refine sa (Sl a66 xs64 c67) rfl (w_end (q_then (c_seq (c_seq (rg (sa (I 0) rfl (w_end (q_then ?_))))))))
  obtain ⟨o69, hj, h'⟩ := bind_some h
  clear h
  refine c_cut (fun e a w => e = .normal ∧ ∃ (ρ : Nat → Value) (σ : St) (aj1 : Option Addr) (cj2 : Nat), a = fr 59 (updL ρ [(5, (Sl aj1 o69 cj2))]) ∧ w = σ.w ∧ Hp S0 σ0 σ [Ch.own n0 n0 (Sl aj1 o69 cj2) o69]) ?_ ?_
  ·clear h'
   rename _ = some o69 => h
   refine c_blk (wp_loopM _ h (fun s70 a w => ∃ (ρ : Nat → Value) (σ : St) (aj1 : Option Addr) (cj2 : Nat), a = fr 59 (updL ρ [(0, (Sl Aw Av Ax)), (3, (pt b1 0)), (5, (Sl aj1 s70.1 cj2)), (7, (I s70.2))]) ∧ w = σ.w ∧ Hp S0 σ0 σ [Ch.ro 0 (Sl Aw Av Ax) Av, Ch.ro 0 (Sl Fo Bg.2.1 Fp) Bg.2.1, Ch.bx n0 b1 0 [(I Bg.1), (Sl Fo Bg.2.1 Fp), (I Bg.2.2)] [] [], Ch.own n0 n0 (Sl aj1 s70.1 cj2) s70.1]) ⟨_, σ68, a66, c67, fr_join ⟨rfl, rfl, rfl, rfl, trivial⟩, rfl, H.sel' [3, 4, 5, 0] rfl rfl⟩ ?_)
   clear h H
   rintro s70 a w o ⟨ρ, σ71, a72, c73, rfl, rfl, H⟩ h hres
   refine c_seq (c_seq (rg (sm (I s70.2) rfl (sm (Sl Aw Av Ax) rfl (st (v := (I (Av.length : Int))) (rv_len Tryz.underlying24 rfl) (st (v := (B (decide (s70.2 < (Av.length : Int))))) (rv_lss (a := s70.2) (b := (Av.length : Int)) rfl rfl) (w_end (q_then ?_))))))))
   refine cd_cond (decide (s70.2 < (Av.length : Int))) rfl (fun hb74 => ?_) (fun hb74 => ?_)
   ·replace h := bif_t hb74 h
    refine c_skip (q_then (c_seq ?_))
    obtain ⟨o75, hj, h'⟩ := bind_some h
    clear h
    refine c_cut (fun e a w => e = .normal ∧ ∃ (ρ : Nat → Value) (σ : St) (aj1 : Option Addr) (cj2 : Nat), a = fr 59 (updL ρ [(0, (Sl Aw Av Ax)), (3, (pt b1 0)), (5, (Sl aj1 o75 cj2)), (7, (I s70.2))]) ∧ w = σ.w ∧ Hp S0 σ0 σ [Ch.ro 0 (Sl Aw Av Ax) Av, Ch.ro 0 (Sl Fo Bg.2.1 Fp) Bg.2.1, Ch.bx n0 b1 0 [(I Bg.1), (Sl Fo Bg.2.1 Fp), (I Bg.2.2)] [] [], Ch.own n0 n0 (Sl aj1 o75 cj2) o75]) ?_ ?_
    ·clear h'
     rename _ = some o75 => h
     refine c_blk (c_seq ?_)
     refine rgP (σ := σ71) 7 (by kernel_rfl) (by kernel_rfl) (by kernel_rfl) ?_
     refine sq (v := (Sl Aw Av Ax)) (rv_move rfl) (sq (v := (I s70.2)) (rv_move rfl) ?_)
     revert h; refine br fun x76 hx77 h => ?_
     obtain ⟨b79, o80, hi78, -⟩ := (H.ro 0 rfl).ix hx77
     refine sq (v := (pt b79 o80)) (rv_ix Tryz.underlying24 ti41 rfl rfl hi78) (sq (v := (pt b79 (o80 + 0))) (rv_fieldAddr (off := 0) (ft := 3) Tryz.underlying41 rfl ti3 rfl rfl) ?_)
     have hc81 := ((H.ro 0 rfl).at hx77 hi78).fst.int
     refine sq (v := (I x76.1)) (rv_load1 Tryz.underlying3 rfl rfl hc81) (sq (v := (pt b1 0)) (rv_fieldAddr (off := 0) (ft := 3) Tryz.underlying41 rfl ti3 rfl rfl) ?_)
     have hc82 := H.cell (u := (I Bg.1)) (o' := 0) 2 0 rfl rfl rfl
     refine sq (v := (I Bg.1)) (rv_load1 Tryz.underlying3 rfl rfl hc82) (sq_end ?_)
     intro σ83 hm84
     replace H := H.grow (hm84.mono fun _ h => h); clear hm84
     refine st (v := (B (decide (Bg.1 < x76.1)))) (rv_gtr (a := x76.1) (b := Bg.1) rfl rfl) (w_end (q_then ?_))
     refine cd_cond (decide (Bg.1 < x76.1)) rfl (fun hb85 => ?_) (fun hb85 => ?_)
     ·replace h := bif_t hb85 h
      refine rg (sm (Sl a72 s70.1 c73) rfl (sm (Sl Aw Av Ax) rfl (sm (I s70.2) rfl ?_)))
      revert h; refine br fun x86 hx87 h => ?_
      obtain ⟨b89, o90, hi88, -⟩ := (H.ro 0 rfl).ix hx87
      refine st (v := (pt b89 o90)) (rv_ix Tryz.underlying24 ti41 rfl rfl hi88) ?_
      obtain ⟨_, ⟨_, _, rfl, rfl, ⟨_, _, rfl, ⟨_, rfl, hR95⟩, rfl⟩⟩, hl91, hc92⟩ := ((H.ro 0 rfl).at hx87 hi88).cells
      obtain ⟨a93, c94, rfl⟩ := hR95.isSl
      replace H := H.add (d := Ch.ro 0 (Sl a93 x86.2.1 c94) x86.2.1) hR95 (fun _ h => h)
      clear hR95
      refine st (v := (.agg #[(I x86.1), (Sl a93 x86.2.1 c94), (I x86.2.2)])) (rv_load Tryz.underlying41 rfl ti41 rfl hl91 hc92) ?_
      revert h; refine br fun r96 hx97 h => ?_
      have hc98 := c_spec_copyItem (As := a93) (Au := c94) hx97
      refine st_call (cx_call hc98 (ent_f hc98.fn rfl) hn0 (H.sel' [0, 0, 1, 2, 3, 4] rfl rfl : Hp S0 σ0 _ ([_] ++ _))) wn ?_
      rintro _ σ101 ⟨_, ⟨a99, c100, rfl, rfl⟩, H, -⟩
      replace H : Hp _ _ _ [_, _, _, _, _, _] := H
      obtain ⟨σ102, hw103, H, -⟩ := H.pub 0 rfl (Nat.le_refl _)
      rw [← hw103]; clear hw103
      refine st_ex (ex_buildSlice (el := n0) (xs := ([(r96.1, r96.2.1, r96.2.2)] : List (Int × (List Int) × Int))) (ps := [(0, (.agg #[(I r96.1), (Sl a99 r96.2.1 c100), (I r96.2.2)]))]) (cs := [(I r96.1), (Sl a99 r96.2.1 c100), (I r96.2.2)]) H hn0 Tryz.underlying24 ti41 rfl rfl (by kernel_rfl) (.cons (c := [(I r96.1), (Sl a99 r96.2.1 c100), (I r96.2.2)]) ⟨[(I r96.1)], [(Sl a99 r96.2.1 c100), (I r96.2.2)], rfl, rfl, ⟨[(Sl a99 r96.2.1 c100)], [(I r96.2.2)], rfl, ⟨_, rfl, (H.ro 0 rfl)⟩, rfl⟩⟩ (.nil)) rfl) wn ?_
      rintro _ σ105 ⟨b104, rfl, H, -⟩
      revert h; refine br fun xs106 hx107 h => ?_
      refine st_ex (ex_append H (i := 6) rfl Tryz.underlying24 Tryz.underlying24 ti41 rfl rfl (by decide) (H.own 0 rfl).rd hx107 hn0 rfl rfl) wn ?_
      rintro _ σ110 ⟨a108, c109, rfl, H, -⟩
      refine sa (Sl a108 xs106 c109) rfl (w_end (q_blk ?_))
      obtain rfl := sj h
      exact ⟨rfl, _, σ110, a108, c109, fr_join ⟨rfl, rfl, rfl, rfl, trivial⟩, rfl, H.sel' [4, 5, 6, 0] rfl rfl⟩
     ·replace h := bif_f hb85 h
      refine c_skip (q_blk ?_)
      obtain rfl := sj h
      exact ⟨rfl, _, σ83, a72, c73, fr_join ⟨rfl, rfl, rfl, rfl, trivial⟩, rfl, H.sel' [0, 1, 2, 3] rfl rfl⟩
    ·clear hj
     have h := h'
     clear h' H
     rintro e a w ⟨rfl, ρ, σ111, a112, c113, rfl, rfl, H⟩
     refine q_then (rg (sm (I s70.2) rfl (st (v := (I (w64 (s70.2 + 1)))) (rv_add (a := s70.2) (b := 1) rfl rfl) (sa (I (w64 (s70.2 + 1))) rfl (w_end (q_then ?_))))))
     obtain rfl := sj h
     exact ⟨_, rfl, _, σ111, a112, c113, fr_join ⟨rfl, rfl, rfl, rfl, trivial⟩, rfl, H.sel' [0, 1, 2, 3] rfl rfl⟩
   ·replace h := bif_f hb74 h
    refine c_exit (q_then_x (q_then_x (q_blk_hit ?_)))
    obtain rfl := sj h
    obtain rfl := hres _ rfl
    exact ⟨rfl, _, σ71, a72, c73, fr_join ⟨rfl, trivial⟩, rfl, H.sel' [3] rfl rfl⟩
  ·clear hj
   have h := h'
   clear h' H
   rintro e a w ⟨rfl, ρ, σ114, a115, c116, rfl, rfl, H⟩
   refine q_then (c_seq (rg (sm (Sl a115 o69 c116) rfl (sa (Sl a115 o69 c116) rfl (w_end (q_then (c_ret ?_)))))))
   obtain rfl := sj h
   exact fin_ret (v := (Sl a115 o69 c116)) (results_ok Tryz.results86 (res_tmp (v := (Sl a115 o69 c116)) rfl res_nil) rfl) ⟨a115, c116, rfl, rfl⟩ (H.sel' [0] rfl rfl)

theorem c_spec_PutItem {Av : List (Int × (List Int) × Int)} {Bg : Int × (List Int) × Int} {Aw : Option Addr} {Ax : Nat} {Fo : Option Addr} {Fp : Nat} {r : (List (Int × (List Int) × Int)) × Bool} (h : M.spec_PutItem Av Bg = some r) :
    Cal2 Tryz.prog 68 [(Sl Aw Av Ax), (.agg #[(I Bg.1), (Sl Fo Bg.2.1 Fp), (I Bg.2.2)])] [Ch.ro 0 (Sl Aw Av Ax) Av, Ch.ro 0 (Sl Fo Bg.2.1 Fp) Bg.2.1] (fun n0 v L => ∃ (az1 : Option Addr), ∃ (cz2 : Nat), v = (.tuple #[(Sl az1 r.1 cz2), (B r.2)]) ∧ L = [Ch.own n0 n0 (Sl az1 r.1 cz2) r.1]) := by
 refine cal2 (n := 22) Tryz.func68 rfl rfl rfl rfl ?_
 intro S0 σ0 n0 hn0 H
 unfold M.spec_PutItem at h
 refine c_seq (rg (st_ex (ex_box (cs := [(I Bg.1), (Sl Fo Bg.2.1 Fp), (I Bg.2.2)]) H hn0 rfl rfl) wn ?_))
 rintro _ σ2 ⟨b1, rfl, H, -⟩
 refine sa (.slice none 0 0) rfl (sa (B false) rfl (w_end (q_then (c_seq (c_seq ?_)))))
 obtain ⟨o3, hj, h'⟩ := bind_some h
 clear h
 refine c_cut (fun e a w => e = .normal ∧ ∃ (ρ : Nat → Value) (σ : St), a = fr 22 (updL ρ [(0, (Sl Aw Av Ax)), (3, (pt b1 0)), (14, (B o3))]) ∧ w = σ.w ∧ Hp S0 σ0 σ [Ch.ro 0 (Sl Aw Av Ax) Av, Ch.ro 0 (Sl Fo Bg.2.1 Fp) Bg.2.1, Ch.bx n0 b1 0 [(I Bg.1), (Sl Fo Bg.2.1 Fp), (I Bg.2.2)] [] []]) ?_ ?_
 ·clear h'
  rename _ = some o3 => h
  refine rg (sm (Sl Aw Av Ax) rfl ?_)
  revert h; refine br fun r4 hx5 h => ?_
  have hc6 := c_spec_validStore (Aw := Aw) (Ax := Ax) hx5
  refine st_call (cx_call hc6 (ent_f hc6.fn rfl) hn0 (H.sel' [1, 0, 1, 2] rfl rfl : Hp S0 σ0 _ ([_] ++ _))) wn ?_
  rintro _ σ7 ⟨_, ⟨rfl, rfl⟩, H, -⟩
  replace H : Hp _ _ _ [_, _, _] := H
  refine st (v := (B (!r4))) (rv_not rfl) (sm (B (!r4)) rfl ?_)
  rcases Bool.eq_false_or_eq_true (!r4) with hb8 | hb8
  ·replace h := bif_t hb8 h
   refine st_skip (congrArg some hb8) (st_skip (congrArg some hb8) (st_skip (congrArg some hb8) (st (v := (B true)) (rv_pick_t (congrArg B hb8) rfl) (w_end ?_))))
   obtain rfl := sj h
   exact ⟨rfl, _, σ7, fr_join ⟨rfl, rfl, rfl, trivial⟩, rfl, H.sel' [1, 2, 0] rfl rfl⟩
  ·replace h := bif_f hb8 h
   have hc9 := H.cells 0 rfl
   refine st_g (v := (.agg #[(I Bg.1), (Sl Fo Bg.2.1 Fp), (I Bg.2.2)])) (congrArg some hb8) (rv_load (cs := [(I Bg.1), (Sl Fo Bg.2.1 Fp), (I Bg.2.2)]) Tryz.underlying41 rfl ti41 rfl rfl hc9) ?_
   revert h; refine br fun r10 hx11 h => ?_
   have hc12 := c_spec_validItem (As := Fo) (Au := Fp) hx11
   refine st_call (cx_call hc12 (ent_f hc12.fn rfl) hn0 (H.sel' [2, 0, 1, 2] rfl rfl : Hp S0 σ0 _ ([_] ++ _))) (wanted_yes rfl (by exact (congrArg some hb8))) ?_
   rintro _ σ13 ⟨_, ⟨rfl, rfl⟩, H, -⟩
   replace H : Hp _ _ _ [_, _, _] := H
   refine st_g (v := (B (!r10))) (congrArg some hb8) (rv_not rfl) (st (v := (B (!r10))) (rv_pick_f (congrArg B hb8) rfl) (w_end ?_))
   obtain rfl := sj h
   exact ⟨rfl, _, σ13, fr_join ⟨rfl, rfl, rfl, trivial⟩, rfl, H.sel' [1, 2, 0] rfl rfl⟩
 ·clear hj
  have h := h'
  clear h' H
  rintro e a w ⟨rfl, ρ, σ14, rfl, rfl, H⟩
  refine q_then ?_
  refine cd_cond o3 rfl (fun hb15 => ?_) (fun hb15 => ?_)
  ·replace h := bif_t hb15 h
   refine c_seq (rg (sa (.slice none 0 0) rfl (sa (B false) rfl (w_end (q_then (c_ret (q_then_r ?_)))))))
   replace H := H.nilOwn (Int × (List Int) × Int) n0 n0
   obtain rfl := sj h
   exact fin_ret (v := (.tuple #[(.slice none 0 0), (B false)])) (results_ok Tryz.results68 (res_tmp (v := (.slice none 0 0)) rfl (res_tmp (v := (B false)) rfl res_nil)) rfl) ⟨none, 0, rfl, rfl⟩ (H.sel' [0] rfl rfl)
  ·replace h := bif_f hb15 h
   refine c_skip (q_then (c_seq (rg (sm (Sl Aw Av Ax) rfl ?_))))
   have hc16 := H.cells 2 rfl
   refine st (v := (.agg #[(I Bg.1), (Sl Fo Bg.2.1 Fp), (I Bg.2.2)])) (rv_load (cs := [(I Bg.1), (Sl Fo Bg.2.1 Fp), (I Bg.2.2)]) Tryz.underlying41 rfl ti41 rfl rfl hc16) ?_
   revert h; refine br fun r17 hx18 h => ?_
   have hc19 := c_spec_put (Aw := Aw) (Ax := Ax) (Fo := Fo) (Fp := Fp) hx18
   refine st_call (cx_call hc19 (ent_f hc19.fn rfl) hn0 (H.sel' [0, 1, 0, 1, 2] rfl rfl : Hp S0 σ0 _ ([_, _] ++ _))) wn ?_
   rintro _ σ22 ⟨_, ⟨a20, c21, rfl, rfl⟩, H, -⟩
   replace H : Hp _ _ _ [_, _, _, _] := H
   refine sa (Sl a20 r17 c21) rfl (w_end (q_then (c_seq (c_seq (rg (sm (Sl a20 r17 c21) rfl ?_))))))
   revert h; refine br fun r23 hx24 h => ?_
   have hc25 := c_spec_validStore (Aw := a20) (Ax := c21) hx24
   have hle := Nat.le_trans hn0 H.size
   refine st_call (cx_lend (Loan.lend Loan.nil) hc25 (ent_f hc25.fn rfl) (show Hp S0 σ0 _ ([Ch.own n0 n0 (Sl a20 r17 c21) r17] ++ ([] ++ [Ch.ro 0 (Sl Aw Av Ax) Av, Ch.ro 0 (Sl Fo Bg.2.1 Fp) Bg.2.1, Ch.bx n0 b1 0 [(I Bg.1), (Sl Fo Bg.2.1 Fp), (I Bg.2.2)] [] []])) from (H.sel' [0, 1, 2, 3] rfl rfl)) (by rintro _ _ _ ⟨rfl, rfl⟩; exact trivial)) wn ?_
   rintro _ σ26 ⟨_, ⟨rfl, rfl⟩, H, -, -⟩
   replace H : Hp _ _ _ [_, _, _, _] := H
   clear hle
   replace H : Hp _ _ _ [_, _, _, _] := H
   refine st (v := (B (!r23))) (rv_not rfl) (w_end (q_then ?_))
   refine cd_cond (!r23) rfl (fun hb27 => ?_) (fun hb27 => ?_)
   ·replace h := bif_t hb27 h
    refine c_seq (rg (sa (.slice none 0 0) rfl (sa (B false) rfl (w_end (q_then (c_ret (q_then_r ?_)))))))
    replace H := H.nilOwn (Int × (List Int) × Int) n0 n0
    obtain rfl := sj h
    exact fin_ret (v := (.tuple #[(.slice none 0 0), (B false)])) (results_ok Tryz.results68 (res_tmp (v := (.slice none 0 0)) rfl (res_tmp (v := (B false)) rfl res_nil)) rfl) ⟨none, 0, rfl, rfl⟩ (H.sel' [0] rfl rfl)
   ·replace h := bif_f hb27 h
    refine c_skip (q_then (c_seq (rg (sm (Sl a20 r17 c21) rfl (sa (Sl a20 r17 c21) rfl (sa (B true) rfl (w_end (q_then (c_ret ?_)))))))))
    obtain rfl := sj h
    exact fin_ret (v := (.tuple #[(Sl a20 r17 c21), (B true)])) (results_ok Tryz.results68 (res_tmp (v := (Sl a20 r17 c21)) rfl (res_tmp (v := (B true)) rfl res_nil)) rfl) ⟨a20, c21, rfl, rfl⟩ (H.sel' [0] rfl rfl)

theorem c_spec_someItem {Ci : (List UInt8) × Int} {Fh : Option Addr} {Fi : Nat} {Cj Ck Cl : Nat} {Cm Cn : List Value} {r : (Int × (List Int) × Int) × ((List UInt8) × Int)} (h : M.spec_someItem Ci = some r) :
    Cal2 Tryz.prog 69 [(pt Ck Cl)] [Ch.bx Cj Ck Cl [(Sl Fh Ci.1 Fi), (I Ci.2)] Cm Cn, Ch.ro 0 (Sl Fh Ci.1 Fi) Ci.1] (fun n0 v L => ∃ (az1 : Option Addr), ∃ (cz2 : Nat), ∃ (az3 : Option Addr), ∃ (cz4 : Nat), v = (.agg #[(I r.1.1), (Sl az1 r.1.2.1 cz2), (I r.1.2.2)]) ∧ L = [Ch.own n0 n0 (Sl az1 r.1.2.1 cz2) r.1.2.1, Ch.bx Cj Ck Cl [(Sl az3 r.2.1 cz4), (I r.2.2)] Cm Cn, Ch.ro 0 (Sl az3 r.2.1 cz4) r.2.1]) := by
 refine cal2 (n := 11) Tryz.func69 rfl rfl rfl rfl ?_
 intro S0 σ0 n0 hn0 H
 unfold M.spec_someItem at h
 refine c_seq (rg (st_ex (ex_alloc (cs := [(I 0), (.slice none 0 0), (I 0)]) H hn0 ti41 rfl) wn ?_))
 rintro _ σ2 ⟨b1, rfl, H, -⟩
 refine w_end (q_then (c_seq (rg (sm (pt Ck Cl) rfl ?_))))
 revert h; refine br fun r3 hx4 h => ?_
 have hc5 := c_spec_reader_pick (Cj := Cj) (Ck := Ck) (Cl := Cl) (Cm := Cm) (Cn := Cn) (Fh := Fh) (Fi := Fi) hx4
 refine st_call (cx_call hc5 (ent_f hc5.fn rfl) hn0 (H.sel' [1, 2, 0, 2] rfl rfl : Hp S0 σ0 _ ([_, _] ++ _))) wn ?_
 rintro _ σ8 ⟨_, ⟨a6, c7, rfl, rfl⟩, H, -⟩
 replace H : Hp _ _ _ [_, _, _, _] := H
 refine st (v := (I (w64 (1 + r3.1)))) (rv_add (a := 1) (b := r3.1) rfl rfl) (sm (pt Ck Cl) rfl ?_)
 revert h; refine br fun r9 hx10 h => ?_
 have hc11 := c_spec_someVector (Cj := Cj) (Ck := Ck) (Cl := Cl) (Cm := Cm) (Cn := Cn) (Fh := a6) (Fi := c7) hx10
 refine st_call (cx_call hc11 (ent_f hc11.fn rfl) hn0 (H.sel' [0, 1, 1, 2, 3] rfl rfl : Hp S0 σ0 _ ([_, _] ++ _))) wn ?_
 rintro _ σ16 ⟨_, ⟨a12, c13, a14, c15, rfl, rfl⟩, H, -⟩
 replace H : Hp _ _ _ [_, _, _, _, _, _] := H
 refine sm (pt Ck Cl) rfl ?_
 revert h; refine br fun r17 hx18 h => ?_
 have hc19 := c_spec_reader_pick (Cj := Cj) (Ck := Ck) (Cl := Cl) (Cm := Cm) (Cn := Cn) (Fh := a14) (Fi := c15) hx18
 refine st_call (cx_call hc19 (ent_f hc19.fn rfl) hn0 (H.sel' [1, 2, 0, 2, 3, 4, 5] rfl rfl : Hp S0 σ0 _ ([_, _] ++ _))) wn ?_
 rintro _ σ22 ⟨_, ⟨a20, c21, rfl, rfl⟩, H, -⟩
 replace H : Hp _ _ _ [_, _, _, _, _, _, _] := H
 refine st (v := (.agg #[(I (w64 (1 + r3.1))), (Sl a12 r9.1 c13), (I r17.1)])) (rv_build (ps := [(0, (I (w64 (1 + r3.1)))), (1, (Sl a12 r9.1 c13)), (2, (I r17.1))]) Tryz.underlying41 ti41 (bp41 Tryz.underlying41) rfl (by kernel_rfl)) ?_
 refine st_exS (ex_store_box (k := 0) (cs := [(I 0), (.slice none 0 0), (I 0)]) (vs := [(I (w64 (1 + r3.1))), (Sl a12 r9.1 c13), (I r17.1)]) (cs' := [(I (w64 (1 + r3.1))), (Sl a12 r9.1 c13), (I r17.1)]) H (i := 5) rfl ti41 rfl rfl rfl rfl rfl (Nat.le_of_ble_eq_true rfl) (by simp [plain]) rfl) wn ?_
 rintro σ23 ⟨H, -⟩
 refine w_end (q_then (c_ret ?_))
 obtain rfl := sj h
 exact fin_ret (v := (.agg #[(I (w64 (1 + r3.1))), (Sl a12 r9.1 c13), (I r17.1)])) (results_ok Tryz.results69 (res_cell rfl (run_cellRes (cs := [(I (w64 (1 + r3.1))), (Sl a12 r9.1 c13), (I r17.1)]) Tryz.underlying41 rfl ti41 rfl (H.cells 0 rfl)) res_nil) rfl) ⟨a12, c13, a20, c21, rfl, rfl⟩ (H.sel' [3, 1, 2] rfl rfl)

theorem c_spec_someStore {Ci : (List UInt8) × Int} {Fh : Option Addr} {Fi : Nat} {Cj Ck Cl : Nat} {Cm Cn : List Value} {r : (List (Int × (List Int) × Int)) × ((List UInt8) × Int)} (h : M.spec_someStore Ci = some r) :
    Cal2 Tryz.prog 43 [(pt Ck Cl)] [Ch.bx Cj Ck Cl [(Sl Fh Ci.1 Fi), (I Ci.2)] Cm Cn, Ch.ro 0 (Sl Fh Ci.1 Fi) Ci.1] (fun n0 v L => ∃ (az1 : Option Addr), ∃ (cz2 : Nat), ∃ (az3 : Option Addr), ∃ (cz4 : Nat), v = (Sl az1 r.1 cz2) ∧ L = [Ch.own n0 n0 (Sl az1 r.1 cz2) r.1, Ch.bx Cj Ck Cl [(Sl az3 r.2.1 cz4), (I r.2.2)] Cm Cn, Ch.ro 0 (Sl az3 r.2.1 cz4) r.2.1]) := by
 refine cal2 (n := 25) Tryz.func43 rfl rfl rfl rfl ?_
 intro S0 σ0 n0 hn0 H
 unfold M.spec_someStore at h
 refine c_seq (rg (sa (.slice none 0 0) rfl (w_end (q_then (c_seq (rg ?_))))))
 refine st_ex (ex_buildSlice (el := n0) (xs := ([] : List (Int × (List Int) × Int))) (ps := []) (cs := []) H hn0 Tryz.underlying24 ti41 rfl rfl (by kernel_rfl) (.nil) rfl) wn ?_
 rintro _ σ2 ⟨b1, rfl, H, -⟩
 refine sa (Sl (some ⟨b1, 0, none⟩) ([] : List (Int × (List Int) × Int)) 0) rfl (w_end (q_then (c_seq (c_seq (rg (sm (pt Ck Cl) rfl ?_))))))
 refine st_ex (ex_buildSlice (el := n0) (xs := ([4, 6, 8, 3, 1, 0, 20, 12] : List Int)) (ps := [(0, (I 4)), (1, (I 6)), (2, (I 8)), (3, (I 3)), (4, (I 1)), (5, (I 0)), (6, (I 20)), (7, (I 12))]) (cs := [(I 4), (I 6), (I 8), (I 3), (I 1), (I 0), (I 20), (I 12)]) H hn0 Tryz.underlying25 ti3 rfl rfl (by kernel_rfl) (.cons (c := [(I 4)]) rfl (.cons (c := [(I 6)]) rfl (.cons (c := [(I 8)]) rfl (.cons (c := [(I 3)]) rfl (.cons (c := [(I 1)]) rfl (.cons (c := [(I 0)]) rfl (.cons (c := [(I 20)]) rfl (.cons (c := [(I 12)]) rfl (.nil))))))))) rfl) wn ?_
 rintro _ σ4 ⟨b3, rfl, H, -⟩
 obtain ⟨σ5, hw6, H, -⟩ := H.pub 0 rfl (Nat.le_refl _)
 rw [← hw6]; clear hw6
 replace H := H.roLow 0 0 rfl (Nat.zero_le _)
 revert h; refine br fun r7 hx8 h => ?_
 have hc9 := c_spec_reader_one (Cj := Cj) (Ck := Ck) (Cl := Cl) (Cm := Cm) (Cn := Cn) (Fh := Fh) (Fi := Fi) (Fk := (some ⟨b3, 0, none⟩)) (Fl := 8) hx8
 refine st_call (cx_call hc9 (ent_f hc9.fn rfl) hn0 (H.sel' [3, 4, 0, 0, 1, 2, 4] rfl rfl : Hp S0 σ0 _ ([_, _, _] ++ _))) wn ?_
 rintro _ σ12 ⟨_, ⟨a10, c11, rfl, rfl⟩, H, -⟩
 replace H : Hp _ _ _ [_, _, _, _, _, _] := H
 refine sa (I r7.1) rfl (w_end (q_then ?_))
 obtain ⟨o13, hj, h'⟩ := bind_some h
 clear h
 refine c_cut (fun e a w => e = .normal ∧ ∃ (ρ : Nat → Value) (σ : St) (aj1 : Option Addr) (cj2 : Nat) (aj3 : Option Addr) (cj4 : Nat), a = fr 25 (updL ρ [(0, (pt Ck Cl)), (3, (Sl aj3 o13.2 cj4))]) ∧ w = σ.w ∧ Hp S0 σ0 σ [Ch.bx Cj Ck Cl [(Sl aj1 o13.1.1 cj2), (I o13.1.2)] Cm Cn, Ch.ro 0 (Sl aj1 o13.1.1 cj2) o13.1.1, Ch.own n0 n0 (Sl aj3 o13.2 cj4) o13.2]) ?_ ?_
 ·clear h'
  rename _ = some o13 => h
  refine c_blk (wp_loopM _ h (fun s14 a w => ∃ (ρ : Nat → Value) (σ : St) (aj1 : Option Addr) (cj2 : Nat) (aj3 : Option Addr) (cj4 : Nat), a = fr 25 (updL ρ [(0, (pt Ck Cl)), (3, (Sl aj3 s14.2.1 cj4)), (4, (I s14.2.2))]) ∧ w = σ.w ∧ Hp S0 σ0 σ [Ch.bx Cj Ck Cl [(Sl aj1 s14.1.1 cj2), (I s14.1.2)] Cm Cn, Ch.ro 0 (Sl aj1 s14.1.1 cj2) s14.1.1, Ch.own n0 n0 (Sl aj3 s14.2.1 cj4) s14.2.1]) ⟨_, σ12, a10, c11, (some ⟨b1, 0, none⟩), 0, fr_join ⟨rfl, rfl, rfl, trivial⟩, rfl, H.sel' [0, 1, 4] rfl rfl⟩ ?_)
  clear h H
  rintro s14 a w o ⟨ρ, σ15, a16, c17, a18, c19, rfl, rfl, H⟩ h hres
  refine c_seq (c_seq (rg (sm (I s14.2.2) rfl (st (v := (B (decide (0 < s14.2.2)))) (rv_gtr (a := s14.2.2) (b := 0) rfl rfl) (w_end (q_then ?_))))))
  refine cd_cond (decide (0 < s14.2.2)) rfl (fun hb20 => ?_) (fun hb20 => ?_)
  ·replace h := bif_t hb20 h
   refine c_skip (q_then (c_seq ?_))
   obtain ⟨o21, hj, h'⟩ := bind_some h
   clear h
   refine c_cut (fun e a w => e = .normal ∧ ∃ (ρ : Nat → Value) (σ : St) (aj1 : Option Addr) (cj2 : Nat) (aj3 : Option Addr) (cj4 : Nat), a = fr 25 (updL ρ [(0, (pt Ck Cl)), (3, (Sl aj3 o21.2 cj4)), (4, (I s14.2.2))]) ∧ w = σ.w ∧ Hp S0 σ0 σ [Ch.bx Cj Ck Cl [(Sl aj1 o21.1.1 cj2), (I o21.1.2)] Cm Cn, Ch.ro 0 (Sl aj1 o21.1.1 cj2) o21.1.1, Ch.own n0 n0 (Sl aj3 o21.2 cj4) o21.2]) ?_ ?_
   ·clear h'
    rename _ = some o21 => h
    refine c_blk (c_seq (rg (sm (Sl a18 s14.2.1 c19) rfl (sm (pt Ck Cl) rfl ?_))))
    revert h; refine br fun r22 hx23 h => ?_
    have hc24 := c_spec_someItem (Cj := Cj) (Ck := Ck) (Cl := Cl) (Cm := Cm) (Cn := Cn) (Fh := a16) (Fi := c17) hx23
    refine st_call (cx_call hc24 (ent_f hc24.fn rfl) hn0 (H.sel' [0, 1, 1, 2] rfl rfl : Hp S0 σ0 _ ([_, _] ++ _))) wn ?_
    rintro _ σ29 ⟨_, ⟨a25, c26, a27, c28, rfl, rfl⟩, H, -⟩
    replace H : Hp _ _ _ [_, _, _, _, _] := H
    obtain ⟨σ30, hw31, H, -⟩ := H.pub 0 rfl (Nat.le_refl _)
    rw [← hw31]; clear hw31
    replace H := H.roLow 0 0 rfl (Nat.zero_le _)
    revert h; refine br fun r32 hx33 h => ?_
    have hc34 := c_spec_PutItem (Aw := a18) (Ax := c19) (Fo := a25) (Fp := c26) hx33
    have hle := Nat.le_trans hn0 H.size
    refine st_call (cx_lend (Loan.lend (Loan.same Loan.nil)) hc34 (ent_f hc34.fn rfl) (show Hp S0 σ0 _ ([Ch.own n0 n0 (Sl a18 s14.2.1 c19) s14.2.1] ++ ([Ch.ro 0 (Sl a25 r22.1.2.1 c26) r22.1.2.1] ++ [Ch.ro 0 (Sl a25 r22.1.2.1 c26) r22.1.2.1, Ch.ro n0 (Sl a25 r22.1.2.1 c26) r22.1.2.1, Ch.bx Cj Ck Cl [(Sl a27 r22.2.1 c28), (I r22.2.2)] Cm Cn, Ch.ro 0 (Sl a27 r22.2.1 c28) r22.2.1, Ch.ro 0 (Sl a16 s14.1.1 c17) s14.1.1])) from (H.sel' [5, 0, 0, 1, 2, 3, 4] rfl rfl)) (by rintro _ _ _ ⟨_, _, rfl, rfl⟩; exact ⟨Ab.own (Nat.le_refl _), trivial⟩)) wn ?_
    rintro _ σ37 ⟨_, ⟨a35, c36, rfl, rfl⟩, H, -, -⟩
    replace H : Hp _ _ _ [_, _, _, _, _, _, _] := H
    replace H := H.ownLow 0 n0 n0 rfl hle hle
    clear hle
    replace H : Hp _ _ _ [_, _, _, _, _, _, _] := H
    refine sm (.tuple #[(Sl a35 r32.1 c36), (B r32.2)]) rfl (st (v := (Sl a35 r32.1 c36)) (rv_extract rfl rfl) (st (v := (B r32.2)) (rv_extract rfl rfl) (sa (Sl a35 r32.1 c36) rfl (sa (B r32.2) rfl (w_end (q_then (c_seq (rg (sm (B r32.2) rfl (w_end (q_then ?_)))))))))))
    refine cd_cond r32.2 rfl (fun hb38 => ?_) (fun hb38 => ?_)
    ·replace h := bif_t hb38 h
     refine rg (sm (Sl a35 r32.1 c36) rfl (sa (Sl a35 r32.1 c36) rfl (w_end (q_blk ?_))))
     obtain rfl := sj h
     exact ⟨rfl, _, σ37, a27, c28, a35, c36, fr_join ⟨rfl, rfl, rfl, trivial⟩, rfl, H.sel' [4, 5, 0] rfl rfl⟩
    ·replace h := bif_f hb38 h
     refine c_skip (q_blk ?_)
     obtain rfl := sj h
     exact ⟨rfl, _, σ37, a27, c28, a18, c19, fr_join ⟨rfl, rfl, rfl, trivial⟩, rfl, H.sel' [4, 5, 1] rfl rfl⟩
   ·clear hj
    have h := h'
    clear h' H
    rintro e a w ⟨rfl, ρ, σ39, a40, c41, a42, c43, rfl, rfl, H⟩
    refine q_then (rg (sm (I s14.2.2) rfl (st (v := (I (w64 (s14.2.2 - 1)))) (rv_sub (a := s14.2.2) (b := 1) rfl rfl) (sa (I (w64 (s14.2.2 - 1))) rfl (w_end (q_then ?_))))))
    obtain rfl := sj h
    exact ⟨_, rfl, _, σ39, a40, c41, a42, c43, fr_join ⟨rfl, rfl, rfl, trivial⟩, rfl, H.sel' [0, 1, 2] rfl rfl⟩
  ·replace h := bif_f hb20 h
   refine c_exit (q_then_x (q_then_x (q_blk_hit ?_)))
   obtain rfl := sj h
   obtain rfl := hres _ rfl
   exact ⟨rfl, _, σ15, a16, c17, a18, c19, fr_join ⟨rfl, rfl, trivial⟩, rfl, H.sel' [0, 1, 2] rfl rfl⟩
 ·clear hj
  have h := h'
  clear h' H
  rintro e a w ⟨rfl, ρ, σ44, a45, c46, a47, c48, rfl, rfl, H⟩
  refine q_then (c_seq (rg (sm (Sl a47 o13.2 c48) rfl (sa (Sl a47 o13.2 c48) rfl (w_end (q_then (c_ret ?_)))))))
  obtain rfl := sj h
  exact fin_ret (v := (Sl a47 o13.2 c48)) (results_ok Tryz.results43 (res_tmp (v := (Sl a47 o13.2 c48)) rfl res_nil) rfl) ⟨a47, c48, a45, c46, rfl, rfl⟩ (H.sel' [2, 0, 1] rfl rfl)

theorem c_spec_anyItem {Ci : (List UInt8) × Int} {Fh : Option Addr} {Fi : Nat} {Cj Ck Cl : Nat} {Cm Cn : List Value} {r : (Int × (List Int) × Int) × ((List UInt8) × Int)} (h : M.spec_anyItem Ci = some r) :
    Cal2 Tryz.prog 44 [(pt Ck Cl)] [Ch.bx Cj Ck Cl [(Sl Fh Ci.1 Fi), (I Ci.2)] Cm Cn, Ch.ro 0 (Sl Fh Ci.1 Fi) Ci.1] (fun n0 v L => ∃ (az1 : Option Addr), ∃ (cz2 : Nat), ∃ (az3 : Option Addr), ∃ (cz4 : Nat), v = (.agg #[(I r.1.1), (Sl az1 r.1.2.1 cz2), (I r.1.2.2)]) ∧ L = [Ch.own n0 n0 (Sl az1 r.1.2.1 cz2) r.1.2.1, Ch.bx Cj Ck Cl [(Sl az3 r.2.1 cz4), (I r.2.2)] Cm Cn, Ch.ro 0 (Sl az3 r.2.1 cz4) r.2.1]) := by
 refine cal2 (n := 26) Tryz.func44 rfl rfl rfl rfl ?_
 intro S0 σ0 n0 hn0 H
 unfold M.spec_anyItem at h
 refine c_seq (rg (st_ex (ex_alloc (cs := [(I 0), (.slice none 0 0), (I 0)]) H hn0 ti41 rfl) wn ?_))
 rintro _ σ2 ⟨b1, rfl, H, -⟩
 refine w_end (q_then (c_seq (rg (sm (pt Ck Cl) rfl ?_))))
 revert h; refine br fun r3 hx4 h => ?_
 have hc5 := c_spec_someItem (Cj := Cj) (Ck := Ck) (Cl := Cl) (Cm := Cm) (Cn := Cn) (Fh := Fh) (Fi := Fi) hx4
 refine st_call (cx_call hc5 (ent_f hc5.fn rfl) hn0 (H.sel' [1, 2, 0, 2] rfl rfl : Hp S0 σ0 _ ([_, _] ++ _))) wn ?_
 rintro _ σ10 ⟨_, ⟨a6, c7, a8, c9, rfl, rfl⟩, H, -⟩
 replace H : Hp _ _ _ [_, _, _, _, _] := H
 refine st_ex (ex_alloc (cs := [(I 0), (.slice none 0 0), (I 0)]) H hn0 ti41 rfl) wn ?_
 rintro _ σ12 ⟨b11, rfl, H, -⟩
 refine st_exS (ex_store_box (k := 0) (cs := [(I 0), (.slice none 0 0), (I 0)]) (vs := [(I r3.1.1), (Sl a6 r3.1.2.1 c7), (I r3.1.2.2)]) (cs' := [(I r3.1.1), (Sl a6 r3.1.2.1 c7), (I r3.1.2.2)]) H (i := 0) rfl ti41 rfl rfl rfl rfl rfl (Nat.le_of_ble_eq_true rfl) (by simp [plain]) rfl) wn ?_
 rintro σ13 ⟨H, -⟩
 refine w_end (q_then (c_seq (c_seq (rg (sm (pt Ck Cl) rfl ?_)))))
 revert h; refine br fun r14 hx15 h => ?_
 have hc16 := c_spec_reader_pick (Cj := Cj) (Ck := Ck) (Cl := Cl) (Cm := Cm) (Cn := Cn) (Fh := a8) (Fi := c9) hx15
 refine st_call (cx_call hc16 (ent_f hc16.fn rfl) hn0 (H.sel' [2, 3, 0, 1, 3, 4, 5] rfl rfl : Hp S0 σ0 _ ([_, _] ++ _))) wn ?_
 rintro _ σ19 ⟨_, ⟨a17, c18, rfl, rfl⟩, H, -⟩
 replace H : Hp _ _ _ [_, _, _, _, _, _, _] := H
 refine w_end (q_then ?_)
 obtain ⟨o20, hj, h'⟩ := bind_some h
 clear h
 refine c_cut (fun e a w => e = .normal ∧ ∃ (ρ : Nat → Value) (σ : St) (aj1 : Option Addr) (cj2 : Nat) (aj3 : Option Addr) (cj4 : Nat), a = fr 26 (updL ρ [(0, (pt Ck Cl)), (2, (pt b1 0)), (3, (pt b11 0))]) ∧ w = σ.w ∧ Hp S0 σ0 σ [Ch.bx Cj Ck Cl [(Sl aj1 o20.1.1 cj2), (I o20.1.2)] Cm Cn, Ch.ro 0 (Sl aj1 o20.1.1 cj2) o20.1.1, Ch.bx n0 b11 0 [(I o20.2.1), (Sl aj3 o20.2.2.1 cj4), (I o20.2.2.2)] [] [], Ch.own n0 n0 (Sl aj3 o20.2.2.1 cj4) o20.2.2.1, Ch.bx n0 b1 0 [(I 0), (.slice none 0 0), (I 0)] [] []]) ?_ ?_
 ·clear h'
  rename _ = some o20 => h
  refine c_blk (c_seq (rg (st (v := (B (r14.1 == 0))) (rv_eql (a := r14.1) (b := 0) rfl rfl) (sa (B (r14.1 == 0)) rfl (w_end (q_then ?_))))))
  refine cd_cond (r14.1 == 0) rfl (fun hb21 => ?_) (fun hb21 => ?_)
  ·replace h := bif_t hb21 h
   refine rg (sm (pt Ck Cl) rfl ?_)
   refine st_ex (ex_buildSlice (el := n0) (xs := ([0, 99, 100] : List Int)) (ps := [(0, (I 0)), (1, (I 99)), (2, (I 100))]) (cs := [(I 0), (I 99), (I 100)]) H hn0 Tryz.underlying25 ti3 rfl rfl (by kernel_rfl) (.cons (c := [(I 0)]) rfl (.cons (c := [(I 99)]) rfl (.cons (c := [(I 100)]) rfl (.nil)))) rfl) wn ?_
   rintro _ σ23 ⟨b22, rfl, H, -⟩
   replace H : Hp S0 σ0 σ23 [Ch.own n0 n0 (Sl (some ⟨b22, 0, none⟩) ([0, 99, 100] : List Int) 3) ([0, 99, 100] : List Int), Ch.bx Cj Ck Cl [(Sl a17 r14.2.1 c18), (I r14.2.2)] Cm Cn, Ch.ro 0 (Sl a17 r14.2.1 c18) r14.2.1, Ch.bx n0 b11 0 [(I r3.1.1), (Sl a6 r3.1.2.1 c7), (I r3.1.2.2)] [] [], Ch.own n0 n0 (Sl a6 r3.1.2.1 c7) r3.1.2.1, Ch.bx n0 b1 0 [(I 0), (.slice none 0 0), (I 0)] [] []] := H.sel' [0, 1, 2, 3, 4, 6] rfl rfl
   obtain ⟨σ24, hw25, H, -⟩ := H.pub 0 rfl (Nat.le_refl _)
   rw [← hw25]; clear hw25
   replace H := H.roLow 0 0 rfl (Nat.zero_le _)
   revert h; refine br fun r26 hx27 h => ?_
   have hc28 := c_spec_reader_one (Cj := Cj) (Ck := Ck) (Cl := Cl) (Cm := Cm) (Cn := Cn) (Fh := a17) (Fi := c18) (Fk := (some ⟨b22, 0, none⟩)) (Fl := 3) hx27
   refine st_call (cx_call hc28 (ent_f hc28.fn rfl) hn0 (H.sel' [2, 3, 0, 0, 1, 3, 4, 5, 6] rfl rfl : Hp S0 σ0 _ ([_, _, _] ++ _))) wn ?_
   rintro _ σ31 ⟨_, ⟨a29, c30, rfl, rfl⟩, H, -⟩
   replace H : Hp _ _ _ [_, _, _, _, _, _, _, _] := H
   replace H : Hp S0 σ0 σ31 [Ch.bx Cj Ck Cl [(Sl a29 r26.2.1 c30), (I r26.2.2)] Cm Cn, Ch.ro 0 (Sl a29 r26.2.1 c30) r26.2.1, Ch.bx n0 b11 0 [(I r3.1.1), (Sl a6 r3.1.2.1 c7), (I r3.1.2.2)] [] [], Ch.own n0 n0 (Sl a6 r3.1.2.1 c7) r3.1.2.1, Ch.bx n0 b1 0 [(I 0), (.slice none 0 0), (I 0)] [] []] := H.sel' [0, 1, 5, 6, 7] rfl rfl
   refine st (v := (pt b11 0)) (rv_fieldAddr (off := 0) (ft := 3) Tryz.underlying41 rfl ti3 rfl rfl) ?_
   refine st_exS (ex_store_box (k := 0) (cs := [(I r3.1.1), (Sl a6 r3.1.2.1 c7), (I r3.1.2.2)]) (vs := [(I r26.1)]) (cs' := [(I r26.1), (Sl a6 r3.1.2.1 c7), (I r3.1.2.2)]) H (i := 2) rfl ti3 rfl rfl rfl rfl rfl (Nat.le_of_ble_eq_true rfl) (by simp [plain]) rfl) wn ?_
   rintro σ32 ⟨H, -⟩
   refine w_end (q_blk ?_)
   obtain rfl := sj h
   exact ⟨rfl, _, σ32, a29, c30, a6, c7, fr_join ⟨rfl, rfl, rfl, trivial⟩, rfl, H.sel' [1, 2, 0, 3, 4] rfl rfl⟩
  ·replace h := bif_f hb21 h
   refine c_seq (rg (st (v := (B (r14.1 == 1))) (rv_eql (a := r14.1) (b := 1) rfl rfl) (sa (B (r14.1 == 1)) rfl (w_end (q_then ?_)))))
   refine cd_cond (r14.1 == 1) rfl (fun hb33 => ?_) (fun hb33 => ?_)
   ·replace h := bif_t hb33 h
    refine rg (sm (pt Ck Cl) rfl ?_)
    revert h; refine br fun r34 hx35 h => ?_
    have hc36 := c_spec_anyVector (Cj := Cj) (Ck := Ck) (Cl := Cl) (Cm := Cm) (Cn := Cn) (Fh := a17) (Fi := c18) hx35
    refine st_call (cx_call hc36 (ent_f hc36.fn rfl) hn0 (H.sel' [0, 1, 1, 2, 3, 4, 5, 6] rfl rfl : Hp S0 σ0 _ ([_, _] ++ _))) wn ?_
    rintro _ σ41 ⟨_, ⟨a37, c38, a39, c40, rfl, rfl⟩, H, -⟩
    replace H : Hp _ _ _ [_, _, _, _, _, _, _, _, _] := H
    replace H : Hp S0 σ0 σ41 [Ch.own n0 n0 (Sl a37 r34.1 c38) r34.1, Ch.bx Cj Ck Cl [(Sl a39 r34.2.1 c40), (I r34.2.2)] Cm Cn, Ch.ro 0 (Sl a39 r34.2.1 c40) r34.2.1, Ch.bx n0 b11 0 [(I r3.1.1), (Sl a6 r3.1.2.1 c7), (I r3.1.2.2)] [] [], Ch.own n0 n0 (Sl a6 r3.1.2.1 c7) r3.1.2.1, Ch.bx n0 b1 0 [(I 0), (.slice none 0 0), (I 0)] [] []] := H.sel' [0, 1, 2, 4, 5, 7] rfl rfl
    refine st (v := (pt b11 1)) (rv_fieldAddr (off := 1) (ft := 25) Tryz.underlying41 rfl ti25 rfl rfl) ?_
    refine st_exS (ex_store_box (k := 1) (cs := [(I r3.1.1), (Sl a6 r3.1.2.1 c7), (I r3.1.2.2)]) (vs := [(Sl a37 r34.1 c38)]) (cs' := [(I r3.1.1), (Sl a37 r34.1 c38), (I r3.1.2.2)]) H (i := 3) rfl ti25 rfl rfl rfl rfl rfl (Nat.le_of_ble_eq_true rfl) (by simp [plain]) rfl) wn ?_
    rintro σ42 ⟨H, -⟩
    refine w_end (q_blk ?_)
    obtain rfl := sj h
    exact ⟨rfl, _, σ42, a39, c40, a37, c38, fr_join ⟨rfl, rfl, rfl, trivial⟩, rfl, H.sel' [2, 3, 0, 1, 5] rfl rfl⟩
   ·replace h := bif_f hb33 h
    refine c_seq (rg (st (v := (B (r14.1 == 2))) (rv_eql (a := r14.1) (b := 2) rfl rfl) (sa (B (r14.1 == 2)) rfl (w_end (q_then ?_)))))
    refine cd_cond (r14.1 == 2) rfl (fun hb43 => ?_) (fun hb43 => ?_)
    ·replace h := bif_t hb43 h
     refine rg (sm (pt Ck Cl) rfl ?_)
     refine st_ex (ex_buildSlice (el := n0) (xs := ([-1, 16] : List Int)) (ps := [(0, (I (-1))), (1, (I 16))]) (cs := [(I (-1)), (I 16)]) H hn0 Tryz.underlying25 ti3 rfl rfl (by kernel_rfl) (.cons (c := [(I (-1))]) rfl (.cons (c := [(I 16)]) rfl (.nil))) rfl) wn ?_
     rintro _ σ45 ⟨b44, rfl, H, -⟩
     replace H : Hp S0 σ0 σ45 [Ch.own n0 n0 (Sl (some ⟨b44, 0, none⟩) ([-1, 16] : List Int) 2) ([-1, 16] : List Int), Ch.bx Cj Ck Cl [(Sl a17 r14.2.1 c18), (I r14.2.2)] Cm Cn, Ch.ro 0 (Sl a17 r14.2.1 c18) r14.2.1, Ch.bx n0 b11 0 [(I r3.1.1), (Sl a6 r3.1.2.1 c7), (I r3.1.2.2)] [] [], Ch.own n0 n0 (Sl a6 r3.1.2.1 c7) r3.1.2.1, Ch.bx n0 b1 0 [(I 0), (.slice none 0 0), (I 0)] [] []] := H.sel' [0, 1, 2, 3, 4, 6] rfl rfl
     obtain ⟨σ46, hw47, H, -⟩ := H.pub 0 rfl (Nat.le_refl _)
     rw [← hw47]; clear hw47
     replace H := H.roLow 0 0 rfl (Nat.zero_le _)
     revert h; refine br fun r48 hx49 h => ?_
     have hc50 := c_spec_reader_one (Cj := Cj) (Ck := Ck) (Cl := Cl) (Cm := Cm) (Cn := Cn) (Fh := a17) (Fi := c18) (Fk := (some ⟨b44, 0, none⟩)) (Fl := 2) hx49
     refine st_call (cx_call hc50 (ent_f hc50.fn rfl) hn0 (H.sel' [2, 3, 0, 0, 1, 3, 4, 5, 6] rfl rfl : Hp S0 σ0 _ ([_, _, _] ++ _))) wn ?_
     rintro _ σ53 ⟨_, ⟨a51, c52, rfl, rfl⟩, H, -⟩
     replace H : Hp _ _ _ [_, _, _, _, _, _, _, _] := H
     replace H : Hp S0 σ0 σ53 [Ch.bx Cj Ck Cl [(Sl a51 r48.2.1 c52), (I r48.2.2)] Cm Cn, Ch.ro 0 (Sl a51 r48.2.1 c52) r48.2.1, Ch.bx n0 b11 0 [(I r3.1.1), (Sl a6 r3.1.2.1 c7), (I r3.1.2.2)] [] [], Ch.own n0 n0 (Sl a6 r3.1.2.1 c7) r3.1.2.1, Ch.bx n0 b1 0 [(I 0), (.slice none 0 0), (I 0)] [] []] := H.sel' [0, 1, 5, 6, 7] rfl rfl
     refine st (v := (pt b11 2)) (rv_fieldAddr (off := 2) (ft := 3) Tryz.underlying41 rfl ti3 rfl rfl) ?_
     refine st_exS (ex_store_box (k := 2) (cs := [(I r3.1.1), (Sl a6 r3.1.2.1 c7), (I r3.1.2.2)]) (vs := [(I r48.1)]) (cs' := [(I r3.1.1), (Sl a6 r3.1.2.1 c7), (I r48.1)]) H (i := 2) rfl ti3 rfl rfl rfl rfl rfl (Nat.le_of_ble_eq_true rfl) (by simp [plain]) rfl) wn ?_
     rintro σ54 ⟨H, -⟩
     refine w_end (q_blk ?_)
     obtain rfl := sj h
     exact ⟨rfl, _, σ54, a51, c52, a6, c7, fr_join ⟨rfl, rfl, rfl, trivial⟩, rfl, H.sel' [1, 2, 0, 3, 4] rfl rfl⟩
    ·replace h := bif_f hb43 h
     refine c_skip (q_blk ?_)
     obtain rfl := sj h
     exact ⟨rfl, _, σ19, a17, c18, a6, c7, fr_join ⟨rfl, rfl, rfl, trivial⟩, rfl, H.sel' [0, 1, 2, 3, 5] rfl rfl⟩
 ·clear hj
  have h := h'
  clear h' H
  rintro e a w ⟨rfl, ρ, σ55, a56, c57, a58, c59, rfl, rfl, H⟩
  refine q_then (c_seq (rg ?_))
  have hc60 := H.cells 2 rfl
  refine st (v := (.agg #[(I o20.2.1), (Sl a58 o20.2.2.1 c59), (I o20.2.2.2)])) (rv_load (cs := [(I o20.2.1), (Sl a58 o20.2.2.1 c59), (I o20.2.2.2)]) Tryz.underlying41 rfl ti41 rfl rfl hc60) ?_
  refine st_exS (ex_store_box (k := 0) (cs := [(I 0), (.slice none 0 0), (I 0)]) (vs := [(I o20.2.1), (Sl a58 o20.2.2.1 c59), (I o20.2.2.2)]) (cs' := [(I o20.2.1), (Sl a58 o20.2.2.1 c59), (I o20.2.2.2)]) H (i := 4) rfl ti41 rfl rfl rfl rfl rfl (Nat.le_of_ble_eq_true rfl) (by simp [plain]) rfl) wn ?_
  rintro σ61 ⟨H, -⟩
  refine w_end (q_then (c_ret ?_))
  obtain rfl := sj h
  exact fin_ret (v := (.agg #[(I o20.2.1), (Sl a58 o20.2.2.1 c59), (I o20.2.2.2)])) (results_ok Tryz.results44 (res_cell rfl (run_cellRes (cs := [(I o20.2.1), (Sl a58 o20.2.2.1 c59), (I o20.2.2.2)]) Tryz.underlying41 rfl ti41 rfl (H.cells 0 rfl)) res_nil) rfl) ⟨a58, c59, a56, c57, rfl, rfl⟩ (H.sel' [4, 1, 2] rfl rfl)

theorem c_spec_anyStore {Ci : (List UInt8) × Int} {Fh : Option Addr} {Fi : Nat} {Cj Ck Cl : Nat} {Cm Cn : List Value} {r : (List (Int × (List Int) × Int)) × ((List UInt8) × Int)} (h : M.spec_anyStore Ci = some r) :
    Cal2 Tryz.prog 17 [(pt Ck Cl)] [Ch.bx Cj Ck Cl [(Sl Fh Ci.1 Fi), (I Ci.2)] Cm Cn, Ch.ro 0 (Sl Fh Ci.1 Fi) Ci.1] (fun n0 v L => ∃ (az1 : Option Addr), ∃ (cz2 : Nat), ∃ (az3 : Option Addr), ∃ (cz4 : Nat), v = (Sl az1 r.1 cz2) ∧ L = [Ch.own n0 n0 (Sl az1 r.1 cz2) r.1, Ch.bx Cj Ck Cl [(Sl az3 r.2.1 cz4), (I r.2.2)] Cm Cn, Ch.ro 0 (Sl az3 r.2.1 cz4) r.2.1]) := by
 refine cal2 (n := 30) Tryz.func17 rfl rfl rfl rfl ?_
 intro S0 σ0 n0 hn0 H
 unfold M.spec_anyStore at h
 refine c_seq (rg (sa (.slice none 0 0) rfl (w_end (q_then (c_seq (rg (sm (pt Ck Cl) rfl ?_)))))))
 revert h; refine br fun r1 hx2 h => ?_
 have hc3 := c_spec_someStore (Cj := Cj) (Ck := Ck) (Cl := Cl) (Cm := Cm) (Cn := Cn) (Fh := Fh) (Fi := Fi) hx2
 refine st_call (cx_call hc3 (ent_f hc3.fn rfl) hn0 (H.sel' [0, 1, 1] rfl rfl : Hp S0 σ0 _ ([_, _] ++ _))) wn ?_
 rintro _ σ8 ⟨_, ⟨a4, c5, a6, c7, rfl, rfl⟩, H, -⟩
 replace H : Hp _ _ _ [_, _, _, _] := H
 refine sa (Sl a4 r1.1 c5) rfl (w_end (q_then (c_seq (c_seq (rg (sm (pt Ck Cl) rfl ?_))))))
 revert h; refine br fun r9 hx10 h => ?_
 have hc11 := c_spec_reader_pick (Cj := Cj) (Ck := Ck) (Cl := Cl) (Cm := Cm) (Cn := Cn) (Fh := a6) (Fi := c7) hx10
 refine st_call (cx_call hc11 (ent_f hc11.fn rfl) hn0 (H.sel' [1, 2, 0, 2, 3] rfl rfl : Hp S0 σ0 _ ([_, _] ++ _))) wn ?_
 rintro _ σ14 ⟨_, ⟨a12, c13, rfl, rfl⟩, H, -⟩
 replace H : Hp _ _ _ [_, _, _, _, _] := H
 refine w_end (q_then ?_)
 obtain ⟨o15, hj, h'⟩ := bind_some h
 clear h
 refine c_cut (fun e a w => e = .normal ∧ ∃ (ρ : Nat → Value) (σ : St) (aj1 : Option Addr) (cj2 : Nat) (aj3 : Option Addr) (cj4 : Nat), a = fr 30 (updL ρ [(0, (pt Ck Cl)), (3, (Sl aj3 o15.2 cj4))]) ∧ w = σ.w ∧ Hp S0 σ0 σ [Ch.bx Cj Ck Cl [(Sl aj1 o15.1.1 cj2), (I o15.1.2)] Cm Cn, Ch.ro 0 (Sl aj1 o15.1.1 cj2) o15.1.1, Ch.own n0 n0 (Sl aj3 o15.2 cj4) o15.2]) ?_ ?_
 ·clear h'
  rename _ = some o15 => h
  refine c_blk (c_seq (rg (st (v := (B (r9.1 == 0))) (rv_eql (a := r9.1) (b := 0) rfl rfl) (sa (B (r9.1 == 0)) rfl (w_end (q_then ?_))))))
  refine cd_cond (r9.1 == 0) rfl (fun hb16 => ?_) (fun hb16 => ?_)
  ·replace h := bif_t hb16 h
   refine rg (sm (Sl a4 r1.1 c5) rfl (sm (pt Ck Cl) rfl ?_))
   revert h; refine br fun r17 hx18 h => ?_
   have hc19 := c_spec_anyItem (Cj := Cj) (Ck := Ck) (Cl := Cl) (Cm := Cm) (Cn := Cn) (Fh := a12) (Fi := c13) hx18
   refine st_call (cx_call hc19 (ent_f hc19.fn rfl) hn0 (H.sel' [0, 1, 1, 2, 3, 4] rfl rfl : Hp S0 σ0 _ ([_, _] ++ _))) wn ?_
   rintro _ σ24 ⟨_, ⟨a20, c21, a22, c23, rfl, rfl⟩, H, -⟩
   replace H : Hp _ _ _ [_, _, _, _, _, _, _] := H
   obtain ⟨σ25, hw26, H, -⟩ := H.pub 0 rfl (Nat.le_refl _)
   rw [← hw26]; clear hw26
   refine st_ex (ex_buildSlice (el := n0) (xs := ([(r17.1.1, r17.1.2.1, r17.1.2.2)] : List (Int × (List Int) × Int))) (ps := [(0, (.agg #[(I r17.1.1), (Sl a20 r17.1.2.1 c21), (I r17.1.2.2)]))]) (cs := [(I r17.1.1), (Sl a20 r17.1.2.1 c21), (I r17.1.2.2)]) H hn0 Tryz.underlying24 ti41 rfl rfl (by kernel_rfl) (.cons (c := [(I r17.1.1), (Sl a20 r17.1.2.1 c21), (I r17.1.2.2)]) ⟨[(I r17.1.1)], [(Sl a20 r17.1.2.1 c21), (I r17.1.2.2)], rfl, rfl, ⟨[(Sl a20 r17.1.2.1 c21)], [(I r17.1.2.2)], rfl, ⟨_, rfl, (H.ro 0 rfl)⟩, rfl⟩⟩ (.nil)) rfl) wn ?_
   rintro _ σ28 ⟨b27, rfl, H, -⟩
   replace H : Hp S0 σ0 σ28 [Ch.own n0 n0 (Sl (some ⟨b27, 0, none⟩) ([(r17.1.1, r17.1.2.1, r17.1.2.2)] : List (Int × (List Int) × Int)) 1) ([(r17.1.1, r17.1.2.1, r17.1.2.2)] : List (Int × (List Int) × Int)), Ch.bx Cj Ck Cl [(Sl a22 r17.2.1 c23), (I r17.2.2)] Cm Cn, Ch.ro 0 (Sl a22 r17.2.1 c23) r17.2.1, Ch.own n0 n0 (Sl a4 r1.1 c5) r1.1] := H.sel' [0, 2, 3, 5] rfl rfl
   revert h; refine br fun xs29 hx30 h => ?_
   refine st_ex (ex_append H (i := 3) rfl Tryz.underlying24 Tryz.underlying24 ti41 rfl rfl (by decide) (H.own 0 rfl).rd hx30 hn0 rfl rfl) wn ?_
   rintro _ σ33 ⟨a31, c32, rfl, H, -⟩
   refine sa (Sl a31 xs29 c32) rfl (w_end (q_blk ?_))
   obtain rfl := sj h
   exact ⟨rfl, _, σ33, a22, c23, a31, c32, fr_join ⟨rfl, rfl, trivial⟩, rfl, H.sel' [2, 3, 0] rfl rfl⟩
  ·replace h := bif_f hb16 h
   refine c_seq (rg (st (v := (B (r9.1 == 1))) (rv_eql (a := r9.1) (b := 1) rfl rfl) (sa (B (r9.1 == 1)) rfl (w_end (q_then ?_)))))
   refine cd_cond (r9.1 == 1) rfl (fun hb34 => ?_) (fun hb34 => ?_)
   ·replace h := bif_t hb34 h
    refine c_seq (rg (sm (Sl a4 r1.1 c5) rfl (st (v := (I (r1.1.length : Int))) (rv_len Tryz.underlying24 rfl) (st (v := (B (decide (0 < (r1.1.length : Int))))) (rv_gtr (a := (r1.1.length : Int)) (b := 0) rfl rfl) (w_end (q_then ?_))))))
    refine cd_cond (decide (0 < (r1.1.length : Int))) rfl (fun hb35 => ?_) (fun hb35 => ?_)
    ·replace h := bif_t hb35 h
     refine rg (sm (Sl a4 r1.1 c5) rfl (sm (pt Ck Cl) rfl (sm (Sl a4 r1.1 c5) rfl (st (v := (I (r1.1.length : Int))) (rv_len Tryz.underlying24 rfl) ?_))))
     revert h; refine br fun r36 hx37 h => ?_
     have hc38 := c_spec_reader_pick (Cj := Cj) (Ck := Ck) (Cl := Cl) (Cm := Cm) (Cn := Cn) (Fh := a12) (Fi := c13) hx37
     refine st_call (cx_call hc38 (ent_f hc38.fn rfl) hn0 (H.sel' [0, 1, 1, 2, 3, 4] rfl rfl : Hp S0 σ0 _ ([_, _] ++ _))) wn ?_
     rintro _ σ41 ⟨_, ⟨a39, c40, rfl, rfl⟩, H, -⟩
     replace H : Hp _ _ _ [_, _, _, _, _, _] := H
     refine sm (pt Ck Cl) rfl ?_
     revert h; refine br fun r42 hx43 h => ?_
     have hc44 := c_spec_anyVector (Cj := Cj) (Ck := Ck) (Cl := Cl) (Cm := Cm) (Cn := Cn) (Fh := a39) (Fi := c40) hx43
     refine st_call (cx_call hc44 (ent_f hc44.fn rfl) hn0 (H.sel' [0, 1, 1, 2, 3, 4, 5] rfl rfl : Hp S0 σ0 _ ([_, _] ++ _))) wn ?_
     rintro _ σ49 ⟨_, ⟨a45, c46, a47, c48, rfl, rfl⟩, H, -⟩
     replace H : Hp _ _ _ [_, _, _, _, _, _, _, _] := H
     replace H : Hp S0 σ0 σ49 [Ch.own n0 n0 (Sl a45 r42.1 c46) r42.1, Ch.bx Cj Ck Cl [(Sl a47 r42.2.1 c48), (I r42.2.2)] Cm Cn, Ch.ro 0 (Sl a47 r42.2.1 c48) r42.2.1, Ch.own n0 n0 (Sl a4 r1.1 c5) r1.1] := H.sel' [0, 1, 2, 5] rfl rfl
     revert h; refine br fun x50 hx51 h => ?_
     obtain ⟨b53, o54, hi52, -⟩ := (H.own 3 rfl).ix hx51
     refine st (v := (pt b53 o54)) (rv_ix Tryz.underlying24 ti41 rfl rfl hi52) (st (v := (pt b53 (o54 + 1))) (rv_fieldAddr (off := 1) (ft := 25) Tryz.underlying41 rfl ti25 rfl rfl) ?_)
     obtain ⟨σ55, hw56, H, -⟩ := H.pub 0 rfl (Nat.le_refl _)
     rw [← hw56]; clear hw56
     refine st_exS (ex_store_own (e' := (x50.1, r42.1, x50.2.2)) (vs := [(Sl a45 r42.1 c46)]) (k := 1) H (i := 3) rfl ti25 hx51 hi52 rfl rfl rfl rfl rfl (Nat.le_of_ble_eq_true rfl) (by simp [plain]) (by rintro _ ⟨_, _, rfl, rfl, ⟨_, _, rfl, ⟨_, rfl, hR59⟩, rfl⟩⟩; exact ⟨[(I x50.1)], [(Sl a45 r42.1 c46), (I x50.2.2)], rfl, rfl, ⟨[(Sl a45 r42.1 c46)], [(I x50.2.2)], rfl, ⟨_, rfl, (H.ro 0 rfl)⟩, rfl⟩⟩)) wn ?_
     rintro σ60 ⟨H, -⟩
     have hsl : (Sl a4 r1.1 c5) = (Sl a4 (r1.1.set r36.1.toNat (x50.1, r42.1, x50.2.2)) c5) := sl_len List.length_set.symm
     rw [hsl]; rw [hsl] at H; clear hsl
     refine w_end (q_blk ?_)
     obtain rfl := sj h
     exact ⟨rfl, _, σ60, a47, c48, a4, c5, fr_join ⟨rfl, rfl, trivial⟩, rfl, H.sel' [2, 3, 0] rfl rfl⟩
    ·replace h := bif_f hb35 h
     refine c_skip (q_blk ?_)
     obtain rfl := sj h
     exact ⟨rfl, _, σ14, a12, c13, a4, c5, fr_join ⟨rfl, rfl, trivial⟩, rfl, H.sel' [0, 1, 2] rfl rfl⟩
   ·replace h := bif_f hb34 h
    refine c_skip (q_blk ?_)
    obtain rfl := sj h
    exact ⟨rfl, _, σ14, a12, c13, a4, c5, fr_join ⟨rfl, rfl, trivial⟩, rfl, H.sel' [0, 1, 2] rfl rfl⟩
 ·clear hj
  have h := h'
  clear h' H
  rintro e a w ⟨rfl, ρ, σ61, a62, c63, a64, c65, rfl, rfl, H⟩
  refine q_then (c_seq (rg (sm (Sl a64 o15.2 c65) rfl (sa (Sl a64 o15.2 c65) rfl (w_end (q_then (c_ret ?_)))))))
  obtain rfl := sj h
  exact fin_ret (v := (Sl a64 o15.2 c65)) (results_ok Tryz.results17 (res_tmp (v := (Sl a64 o15.2 c65)) rfl res_nil) rfl) ⟨a64, c65, a62, c63, rfl, rfl⟩ (H.sel' [2, 0, 1] rfl rfl)

theorem c_spec_someK {Ci : (List UInt8) × Int} {Fh : Option Addr} {Fi : Nat} {Cj Ck Cl : Nat} {Cm Cn : List Value} {r : Int × ((List UInt8) × Int)} (h : M.spec_someK Ci = some r) :
    Cal2 Tryz.prog 20 [(pt Ck Cl)] [Ch.bx Cj Ck Cl [(Sl Fh Ci.1 Fi), (I Ci.2)] Cm Cn, Ch.ro 0 (Sl Fh Ci.1 Fi) Ci.1] (fun n0 v L => ∃ (az1 : Option Addr), ∃ (cz2 : Nat), v = (I r.1) ∧ L = [Ch.bx Cj Ck Cl [(Sl az1 r.2.1 cz2), (I r.2.2)] Cm Cn, Ch.ro 0 (Sl az1 r.2.1 cz2) r.2.1]) := by
 refine cal2 (n := 6) Tryz.func20 rfl rfl rfl rfl ?_
 intro S0 σ0 n0 hn0 H
 unfold M.spec_someK at h
 refine c_seq (rg (sa (I 0) rfl (w_end (q_then (c_seq (rg (sm (pt Ck Cl) rfl ?_)))))))
 refine st_ex (ex_buildSlice (el := n0) (xs := ([1, 2, 3, 5, 16, 4, 0, 17] : List Int)) (ps := [(0, (I 1)), (1, (I 2)), (2, (I 3)), (3, (I 5)), (4, (I 16)), (5, (I 4)), (6, (I 0)), (7, (I 17))]) (cs := [(I 1), (I 2), (I 3), (I 5), (I 16), (I 4), (I 0), (I 17)]) H hn0 Tryz.underlying25 ti3 rfl rfl (by kernel_rfl) (.cons (c := [(I 1)]) rfl (.cons (c := [(I 2)]) rfl (.cons (c := [(I 3)]) rfl (.cons (c := [(I 5)]) rfl (.cons (c := [(I 16)]) rfl (.cons (c := [(I 4)]) rfl (.cons (c := [(I 0)]) rfl (.cons (c := [(I 17)]) rfl (.nil))))))))) rfl) wn ?_
 rintro _ σ2 ⟨b1, rfl, H, -⟩
 obtain ⟨σ3, hw4, H, -⟩ := H.pub 0 rfl (Nat.le_refl _)
 rw [← hw4]; clear hw4
 replace H := H.roLow 0 0 rfl (Nat.zero_le _)
 revert h; refine br fun r5 hx6 h => ?_
 have hc7 := c_spec_reader_one (Cj := Cj) (Ck := Ck) (Cl := Cl) (Cm := Cm) (Cn := Cn) (Fh := Fh) (Fi := Fi) (Fk := (some ⟨b1, 0, none⟩)) (Fl := 8) hx6
 refine st_call (cx_call hc7 (ent_f hc7.fn rfl) hn0 (H.sel' [2, 3, 0, 0, 1, 3] rfl rfl : Hp S0 σ0 _ ([_, _, _] ++ _))) wn ?_
 rintro _ σ10 ⟨_, ⟨a8, c9, rfl, rfl⟩, H, -⟩
 replace H : Hp _ _ _ [_, _, _, _, _] := H
 refine sa (I r5.1) rfl (w_end (q_then (c_ret ?_)))
 obtain rfl := sj h
 exact fin_ret (v := (I r5.1)) (results_ok Tryz.results20 (res_tmp (v := (I r5.1)) rfl res_nil) rfl) ⟨a8, c9, rfl, rfl⟩ (H.sel' [0, 1] rfl rfl)

theorem c_spec_anyKind {Ci : (List UInt8) × Int} {Fh : Option Addr} {Fi : Nat} {Cj Ck Cl : Nat} {Cm Cn : List Value} {r : Int × ((List UInt8) × Int)} (h : M.spec_anyKind Ci = some r) :
    Cal2 Tryz.prog 33 [(pt Ck Cl)] [Ch.bx Cj Ck Cl [(Sl Fh Ci.1 Fi), (I Ci.2)] Cm Cn, Ch.ro 0 (Sl Fh Ci.1 Fi) Ci.1] (fun n0 v L => ∃ (az1 : Option Addr), ∃ (cz2 : Nat), v = (I r.1) ∧ L = [Ch.bx Cj Ck Cl [(Sl az1 r.2.1 cz2), (I r.2.2)] Cm Cn, Ch.ro 0 (Sl az1 r.2.1 cz2) r.2.1]) := by
 refine cal2 (n := 6) Tryz.func33 rfl rfl rfl rfl ?_
 intro S0 σ0 n0 hn0 H
 unfold M.spec_anyKind at h
 refine c_seq (rg (sa (I 0) rfl (w_end (q_then (c_seq (rg (sm (pt Ck Cl) rfl ?_)))))))
 refine st_ex (ex_buildSlice (el := n0) (xs := ([1, 2, 3, 4, 1, 2, 3, 4, 1, 2, 0, 5] : List Int)) (ps := [(0, (I 1)), (1, (I 2)), (2, (I 3)), (3, (I 4)), (4, (I 1)), (5, (I 2)), (6, (I 3)), (7, (I 4)), (8, (I 1)), (9, (I 2)), (10, (I 0)), (11, (I 5))]) (cs := [(I 1), (I 2), (I 3), (I 4), (I 1), (I 2), (I 3), (I 4), (I 1), (I 2), (I 0), (I 5)]) H hn0 Tryz.underlying25 ti3 rfl rfl (by kernel_rfl) (.cons (c := [(I 1)]) rfl (.cons (c := [(I 2)]) rfl (.cons (c := [(I 3)]) rfl (.cons (c := [(I 4)]) rfl (.cons (c := [(I 1)]) rfl (.cons (c := [(I 2)]) rfl (.cons (c := [(I 3)]) rfl (.cons (c := [(I 4)]) rfl (.cons (c := [(I 1)]) rfl (.cons (c := [(I 2)]) rfl (.cons (c := [(I 0)]) rfl (.cons (c := [(I 5)]) rfl (.nil))))))))))))) rfl) wn ?_
 rintro _ σ2 ⟨b1, rfl, H, -⟩
 obtain ⟨σ3, hw4, H, -⟩ := H.pub 0 rfl (Nat.le_refl _)
 rw [← hw4]; clear hw4
 replace H := H.roLow 0 0 rfl (Nat.zero_le _)
 revert h; refine br fun r5 hx6 h => ?_
 have hc7 := c_spec_reader_one (Cj := Cj) (Ck := Ck) (Cl := Cl) (Cm := Cm) (Cn := Cn) (Fh := Fh) (Fi := Fi) (Fk := (some ⟨b1, 0, none⟩)) (Fl := 12) hx6
 refine st_call (cx_call hc7 (ent_f hc7.fn rfl) hn0 (H.sel' [2, 3, 0, 0, 1, 3] rfl rfl : Hp S0 σ0 _ ([_, _, _] ++ _))) wn ?_
 rintro _ σ10 ⟨_, ⟨a8, c9, rfl, rfl⟩, H, -⟩
 replace H : Hp _ _ _ [_, _, _, _, _] := H
 refine sa (I r5.1) rfl (w_end (q_then (c_ret ?_)))
 obtain rfl := sj h
 exact fin_ret (v := (I r5.1)) (results_ok Tryz.results33 (res_tmp (v := (I r5.1)) rfl res_nil) rfl) ⟨a8, c9, rfl, rfl⟩ (H.sel' [0, 1] rfl rfl)

theorem c_spec_DrawNearest {Fd : List UInt8} {Fe : Option Addr} {Ff : Nat} {r : (List (Int × (List Int) × Int)) × Int × (List Int) × Int} (h : M.spec_DrawNearest Fd = some r) :
    Cal2 Tryz.prog 12 [(Sl Fe Fd Ff)] [Ch.ro 0 (Sl Fe Fd Ff) Fd] (fun n0 v L => ∃ (az1 : Option Addr), ∃ (cz2 : Nat), ∃ (az3 : Option Addr), ∃ (cz4 : Nat), v = (.tuple #[(Sl az1 r.1 cz2), (I r.2.1), (Sl az3 r.2.2.1 cz4), (I r.2.2.2)]) ∧ L = [Ch.own n0 n0 (Sl az1 r.1 cz2) r.1, Ch.own n0 n0 (Sl az3 r.2.2.1 cz4) r.2.2.1]) := by
 refine cal2 (n := 40) Tryz.func12 rfl rfl rfl rfl ?_
 intro S0 σ0 n0 hn0 H
 unfold M.spec_DrawNearest at h
 refine c_seq (rg (sa (.slice none 0 0) rfl (sa (I 0) rfl (sa (.slice none 0 0) rfl (sa (I 0) rfl (w_end (q_then (c_seq (rg (sm (Sl Fe Fd Ff) rfl ?_))))))))))
 revert h; refine br fun r1 hx2 h => ?_
 have hc3 := c_spec_newReader (Fe := Fe) (Ff := Ff) hx2
 refine st_call (cx_call hc3 (ent_f hc3.fn rfl) hn0 (H.sel' [0, 0] rfl rfl : Hp S0 σ0 _ ([_] ++ _))) wn ?_
 rintro _ σ7 ⟨_, ⟨b4, a5, c6, rfl, rfl⟩, H, -⟩
 replace H : Hp _ _ _ [_, _, _] := H
 refine sa (pt b4 0) rfl (w_end (q_then (c_seq (rg (sm (pt b4 0) rfl ?_)))))
 revert h; refine br fun r8 hx9 h => ?_
 have hc10 := c_spec_anyStore (Cj := n0) (Ck := b4) (Cl := 0) (Cm := []) (Cn := []) (Fh := a5) (Fi := c6) hx9
 refine st_call (cx_call hc10 (ent_f hc10.fn rfl) hn0 (H.sel' [0, 1, 1, 2] rfl rfl : Hp S0 σ0 _ ([_, _] ++ _))) wn ?_
 rintro _ σ15 ⟨_, ⟨a11, c12, a13, c14, rfl, rfl⟩, H, -⟩
 replace H : Hp _ _ _ [_, _, _, _, _] := H
 refine sa (Sl a11 r8.1 c12) rfl (w_end (q_then (c_seq (rg (sm (pt b4 0) rfl ?_)))))
 revert h; refine br fun r16 hx17 h => ?_
 have hc18 := c_spec_anyKind (Cj := n0) (Ck := b4) (Cl := 0) (Cm := []) (Cn := []) (Fh := a13) (Fi := c14) hx17
 refine st_call (cx_call hc18 (ent_f hc18.fn rfl) hn0 (H.sel' [1, 2, 0, 2, 3, 4] rfl rfl : Hp S0 σ0 _ ([_, _] ++ _))) wn ?_
 rintro _ σ21 ⟨_, ⟨a19, c20, rfl, rfl⟩, H, -⟩
 replace H : Hp _ _ _ [_, _, _, _, _, _] := H
 refine sa (I r16.1) rfl (w_end (q_then (c_seq (rg (sm (pt b4 0) rfl ?_)))))
 revert h; refine br fun r22 hx23 h => ?_
 have hc24 := c_spec_anyVector (Cj := n0) (Ck := b4) (Cl := 0) (Cm := []) (Cn := []) (Fh := a19) (Fi := c20) hx23
 refine st_call (cx_call hc24 (ent_f hc24.fn rfl) hn0 (H.sel' [0, 1, 1, 2, 3, 4, 5] rfl rfl : Hp S0 σ0 _ ([_, _] ++ _))) wn ?_
 rintro _ σ29 ⟨_, ⟨a25, c26, a27, c28, rfl, rfl⟩, H, -⟩
 replace H : Hp _ _ _ [_, _, _, _, _, _, _, _] := H
 replace H : Hp S0 σ0 σ29 [Ch.own n0 n0 (Sl a25 r22.1 c26) r22.1, Ch.bx n0 b4 0 [(Sl a27 r22.2.1 c28), (I r22.2.2)] [] [], Ch.ro 0 (Sl a27 r22.2.1 c28) r22.2.1, Ch.own n0 n0 (Sl a11 r8.1 c12) r8.1] := H.sel' [0, 1, 2, 4] rfl rfl
 refine sa (Sl a25 r22.1 c26) rfl (w_end (q_then (c_seq (c_seq ?_))))
 obtain ⟨o30, hj, h'⟩ := bind_some h
 clear h
 refine c_cut (fun e a w => e = .normal ∧ ∃ (ρ : Nat → Value) (σ : St) (aj1 : Option Addr) (cj2 : Nat), a = fr 40 (updL ρ [(6, (pt b4 0)), (7, (Sl a11 r8.1 c12)), (8, (I r16.1)), (9, (Sl a25 r22.1 c26)), (25, (B o30.2))]) ∧ w = σ.w ∧ Hp S0 σ0 σ [Ch.bx n0 b4 0 [(Sl aj1 o30.1.1 cj2), (I o30.1.2)] [] [], Ch.ro 0 (Sl aj1 o30.1.1 cj2) o30.1.1, Ch.own n0 n0 (Sl a11 r8.1 c12) r8.1, Ch.own n0 n0 (Sl a25 r22.1 c26) r22.1]) ?_ ?_
 ·clear h'
  rename _ = some o30 => h
  refine rg (sm (Sl a11 r8.1 c12) rfl (st (v := (I (r8.1.length : Int))) (rv_len Tryz.underlying24 rfl) (st (v := (B (decide (0 < (r8.1.length : Int))))) (rv_gtr (a := (r8.1.length : Int)) (b := 0) rfl rfl) (sm (B (decide (0 < (r8.1.length : Int)))) rfl ?_))))
  rcases Bool.eq_false_or_eq_true (decide (0 < (r8.1.length : Int))) with hb31 | hb31
  ·replace h := bif_t hb31 h
   refine st_g (v := (pt b4 0)) (congrArg some hb31) (rv_move rfl) ?_
   revert h; refine br fun r32 hx33 h => ?_
   have hc34 := c_spec_reader_pick (Cj := n0) (Ck := b4) (Cl := 0) (Cm := []) (Cn := []) (Fh := a27) (Fi := c28) hx33
   refine st_call (cx_call hc34 (ent_f hc34.fn rfl) hn0 (H.sel' [1, 2, 0, 2, 3] rfl rfl : Hp S0 σ0 _ ([_, _] ++ _))) (wanted_yes rfl (by exact (congrArg some hb31))) ?_
   rintro _ σ37 ⟨_, ⟨a35, c36, rfl, rfl⟩, H, -⟩
   replace H : Hp _ _ _ [_, _, _, _, _] := H
   refine st_g (v := (B (r32.1 == 0))) (congrArg some hb31) (rv_eql (a := r32.1) (b := 0) rfl rfl) (st (v := (B (r32.1 == 0))) (rv_pick_t (congrArg B hb31) rfl) (w_end ?_))
   obtain rfl := sj h
   exact ⟨rfl, _, σ37, a35, c36, fr_join ⟨rfl, rfl, rfl, rfl, rfl, trivial⟩, rfl, H.sel' [0, 1, 4, 2] rfl rfl⟩
  ·replace h := bif_f hb31 h
   refine st_skip (congrArg some hb31) (st_skip (congrArg some hb31) (st_skip (congrArg some hb31) (st (v := (B false)) (rv_pick_f (congrArg B hb31) rfl) (w_end ?_))))
   obtain rfl := sj h
   exact ⟨rfl, _, σ29, a27, c28, fr_join ⟨rfl, rfl, rfl, rfl, rfl, trivial⟩, rfl, H.sel' [1, 2, 3, 0] rfl rfl⟩
 ·clear hj
  have h := h'
  clear h' H
  rintro e a w ⟨rfl, ρ, σ38, a39, c40, rfl, rfl, H⟩
  refine q_then ?_
  obtain ⟨o41, hj, h'⟩ := bind_some h
  clear h
  refine c_cut (fun e a w => e = .normal ∧ ∃ (ρ : Nat → Value) (σ : St) (aj1 : Option Addr) (cj2 : Nat) (aj3 : Option Addr) (cj4 : Nat), a = fr 40 (updL ρ [(6, (pt b4 0)), (7, (Sl a11 r8.1 c12)), (8, (I r16.1)), (9, (Sl aj3 o41.2 cj4))]) ∧ w = σ.w ∧ Hp S0 σ0 σ [Ch.bx n0 b4 0 [(Sl aj1 o41.1.1 cj2), (I o41.1.2)] [] [], Ch.ro 0 (Sl aj1 o41.1.1 cj2) o41.1.1, Ch.own n0 n0 (Sl a11 r8.1 c12) r8.1, Ch.own n0 n0 (Sl aj3 o41.2 cj4) o41.2]) ?_ ?_
  ·clear h'
   rename _ = some o41 => h
   refine cd_cond o30.2 rfl (fun hb42 => ?_) (fun hb42 => ?_)
   ·replace h := bif_t hb42 h
    refine rg (sm (Sl a11 r8.1 c12) rfl (sm (pt b4 0) rfl (sm (Sl a11 r8.1 c12) rfl (st (v := (I (r8.1.length : Int))) (rv_len Tryz.underlying24 rfl) ?_))))
    revert h; refine br fun r43 hx44 h => ?_
    have hc45 := c_spec_reader_pick (Cj := n0) (Ck := b4) (Cl := 0) (Cm := []) (Cn := []) (Fh := a39) (Fi := c40) hx44
    refine st_call (cx_call hc45 (ent_f hc45.fn rfl) hn0 (H.sel' [0, 1, 1, 2, 3] rfl rfl : Hp S0 σ0 _ ([_, _] ++ _))) wn ?_
    rintro _ σ48 ⟨_, ⟨a46, c47, rfl, rfl⟩, H, -⟩
    replace H : Hp _ _ _ [_, _, _, _, _] := H
    revert h; refine br fun x49 hx50 h => ?_
    obtain ⟨b52, o53, hi51, -⟩ := (H.own 3 rfl).ix hx50
    refine st (v := (pt b52 o53)) (rv_ix Tryz.underlying24 ti41 rfl rfl hi51) (st (v := (pt b52 (o53 + 1))) (rv_fieldAddr (off := 1) (ft := 25) Tryz.underlying41 rfl ti25 rfl rfl) ?_)
    obtain ⟨v57, hc58, hR56⟩ := ((H.own 3 rfl).at hx50 hi51).snd.fst.slice
    obtain ⟨a54, c55, rfl⟩ := hR56.isSl
    replace H := H.add (d := Ch.ro n0 (Sl a54 x49.2.1 c55) x49.2.1) hR56 (fun _ h => h)
    clear hR56
    refine st (v := (Sl a54 x49.2.1 c55)) (rv_load1 Tryz.underlying25 rfl rfl hc58) ?_
    replace H := H.roLow 0 0 rfl (Nat.zero_le _)
    revert h; refine br fun r59 hx60 h => ?_
    have hc61 := c_spec_copyInts (Aw := a54) (Ax := c55) hx60
    refine st_call (cx_call hc61 (ent_f hc61.fn rfl) hn0 (H.sel' [0, 0, 1, 2, 3, 4, 5, 6] rfl rfl : Hp S0 σ0 _ ([_] ++ _))) wn ?_
    rintro _ σ64 ⟨_, ⟨a62, c63, rfl, rfl⟩, H, -⟩
    replace H : Hp _ _ _ [_, _, _, _, _, _, _, _] := H
    replace H : Hp S0 σ0 σ64 [Ch.own n0 n0 (Sl a62 r59 c63) r59, Ch.bx n0 b4 0 [(Sl a46 r43.2.1 c47), (I r43.2.2)] [] [], Ch.ro 0 (Sl a46 r43.2.1 c47) r43.2.1, Ch.own n0 n0 (Sl a11 r8.1 c12) r8.1] := H.sel' [0, 3, 4, 6] rfl rfl
    refine sa (Sl a62 r59 c63) rfl (w_end ?_)
    obtain rfl := sj h
    exact ⟨rfl, _, σ64, a46, c47, a62, c63, fr_join ⟨rfl, rfl, rfl, rfl, trivial⟩, rfl, H.sel' [1, 2, 3, 0] rfl rfl⟩
   ·replace h := bif_f hb42 h
    refine c_skip ?_
    obtain rfl := sj h
    exact ⟨rfl, _, σ38, a39, c40, a25, c26, fr_join ⟨rfl, rfl, rfl, rfl, trivial⟩, rfl, H.sel' [0, 1, 2, 3] rfl rfl⟩
  ·clear hj
   have h := h'
   clear h' H
   rintro e a w ⟨rfl, ρ, σ65, a66, c67, a68, c69, rfl, rfl, H⟩
   refine q_then (c_seq (rg (sm (Sl a11 r8.1 c12) rfl (sm (I r16.1) rfl (sm (Sl a68 o41.2 c69) rfl (sm (pt b4 0) rfl ?_))))))
   revert h; refine br fun r70 hx71 h => ?_
   have hc72 := c_spec_someK (Cj := n0) (Ck := b4) (Cl := 0) (Cm := []) (Cn := []) (Fh := a66) (Fi := c67) hx71
   refine st_call (cx_call hc72 (ent_f hc72.fn rfl) hn0 (H.sel' [0, 1, 1, 2, 3] rfl rfl : Hp S0 σ0 _ ([_, _] ++ _))) wn ?_
   rintro _ σ75 ⟨_, ⟨a73, c74, rfl, rfl⟩, H, -⟩
   replace H : Hp _ _ _ [_, _, _, _, _] := H
   refine sa (Sl a11 r8.1 c12) rfl (sa (I r16.1) rfl (sa (Sl a68 o41.2 c69) rfl (sa (I r70.1) rfl (w_end (q_then (c_ret ?_))))))
   obtain rfl := sj h
   exact fin_ret (v := (.tuple #[(Sl a11 r8.1 c12), (I r16.1), (Sl a68 o41.2 c69), (I r70.1)])) (results_ok Tryz.results12 (res_tmp (v := (Sl a11 r8.1 c12)) rfl (res_tmp (v := (I r16.1)) rfl (res_tmp (v := (Sl a68 o41.2 c69)) rfl (res_tmp (v := (I r70.1)) rfl res_nil)))) rfl) ⟨a11, c12, a68, c69, rfl, rfl⟩ (H.sel' [3, 4] rfl rfl)

theorem c_spec_validKind {Ay : Int}  {r : Bool} (h : M.spec_validKind Ay = some r) :
    Cal2 Tryz.prog 57 [(I Ay)] [] (fun n0 v L => v = (B r) ∧ L = []) := by
 refine cal2 (n := 5) Tryz.func57 rfl rfl rfl rfl ?_
 intro S0 σ0 n0 hn0 H
 unfold M.spec_validKind at h
 refine c_seq (rg (sa (B false) rfl (w_end (q_then (c_seq (rg (sm (I Ay) rfl ?_)))))))
 revert h; refine br fun r1 hx2 h => ?_
 have hc3 := c_spec_inRange hx2
 refine st_call (cx_call hc3 (ent_f hc3.fn rfl) hn0 (H.sel' [] rfl rfl : Hp S0 σ0 _ ([] ++ _))) wn ?_
 rintro _ σ4 ⟨_, ⟨rfl, rfl⟩, H, -⟩
 replace H : Hp _ _ _ [] := H
 refine sa (B r1) rfl (w_end (q_then (c_ret ?_)))
 obtain rfl := sj h
 exact fin_ret (v := (B r1)) (results_ok Tryz.results57 (res_tmp (v := (B r1)) rfl res_nil) rfl) ⟨rfl, rfl⟩ (H.sel' [] rfl rfl)

theorem c_spec_validQuery {Av : List (Int × (List Int) × Int)} {Ba : Int} {Bb : List Int} {Aw : Option Addr} {Ax : Nat} {Bd : Option Addr} {Be : Nat} {r : Bool} (h : M.spec_validQuery Av Ba Bb = some r) :
    Cal2 Tryz.prog 26 [(Sl Aw Av Ax), (I Ba), (Sl Bd Bb Be)] [Ch.ro 0 (Sl Aw Av Ax) Av, Ch.ro 0 (Sl Bd Bb Be) Bb] (fun n0 v L => v = (B r) ∧ L = []) := by
 refine cal2 (n := 17) Tryz.func26 rfl rfl rfl rfl ?_
 intro S0 σ0 n0 hn0 H
 unfold M.spec_validQuery at h
 refine c_seq (rg (sa (B false) rfl (w_end (q_then (c_seq (rg (sm (Sl Aw Av Ax) rfl ?_)))))))
 revert h; refine br fun r1 hx2 h => ?_
 have hc3 := c_spec_validStore (Aw := Aw) (Ax := Ax) hx2
 refine st_call (cx_call hc3 (ent_f hc3.fn rfl) hn0 (H.sel' [0, 0, 1] rfl rfl : Hp S0 σ0 _ ([_] ++ _))) wn ?_
 rintro _ σ4 ⟨_, ⟨rfl, rfl⟩, H, -⟩
 replace H : Hp _ _ _ [_, _] := H
 refine sm (B r1) rfl ?_
 rcases Bool.eq_false_or_eq_true r1 with hb5 | hb5
 ·replace h := bif_t hb5 h
  refine st_g (v := (I Ba)) (congrArg some hb5) (rv_move rfl) ?_
  revert h; refine br fun r6 hx7 h => ?_
  have hc8 := c_spec_validKind hx7
  refine st_call (cx_call hc8 (ent_f hc8.fn rfl) hn0 (H.sel' [0, 1] rfl rfl : Hp S0 σ0 _ ([] ++ _))) (wanted_yes rfl (by exact (congrArg some hb5))) ?_
  rintro _ σ9 ⟨_, ⟨rfl, rfl⟩, H, -⟩
  replace H : Hp _ _ _ [_, _] := H
  refine st (v := (B r6)) (rv_pick_t (congrArg B hb5) rfl) (sm (B r6) rfl ?_)
  rcases Bool.eq_false_or_eq_true r6 with hb10 | hb10
  ·replace h := bif_t hb10 h
   refine st_g (v := (Sl Bd Bb Be)) (congrArg some hb10) (rv_move rfl) ?_
   revert h; refine br fun r11 hx12 h => ?_
   have hc13 := c_spec_isVector (Am := Bd) (Ao := Be) hx12
   refine st_call (cx_call hc13 (ent_f hc13.fn rfl) hn0 (H.sel' [1, 0, 1] rfl rfl : Hp S0 σ0 _ ([_] ++ _))) (wanted_yes rfl (by exact (congrArg some hb10))) ?_
   rintro _ σ14 ⟨_, ⟨rfl, rfl⟩, H, -⟩
   replace H : Hp _ _ _ [_, _] := H
   refine st (v := (B r11)) (rv_pick_t (congrArg B hb10) rfl) (sa (B r11) rfl (w_end (q_then (c_ret ?_))))
   obtain rfl := sj h
   exact fin_ret (v := (B r11)) (results_ok Tryz.results26 (res_tmp (v := (B r11)) rfl res_nil) rfl) ⟨rfl, rfl⟩ (H.sel' [] rfl rfl)
  ·replace h := bif_f hb10 h
   refine st_skip (congrArg some hb10) (st_skip (congrArg some hb10) (st (v := (B false)) (rv_pick_f (congrArg B hb10) rfl) (sa (B false) rfl (w_end (q_then (c_ret ?_))))))
   obtain rfl := sj h
   exact fin_ret (v := (B false)) (results_ok Tryz.results26 (res_tmp (v := (B false)) rfl res_nil) rfl) ⟨rfl, rfl⟩ (H.sel' [] rfl rfl)
 ·replace h := bif_f hb5 h
  refine st_skip (congrArg some hb5) (st_skip (congrArg some hb5) (st (v := (B false)) (rv_pick_f (congrArg B hb5) rfl) (sm (B false) rfl (st_skip rfl (st_skip rfl (st (v := (B false)) (rv_pick_f rfl rfl) (sa (B false) rfl (w_end (q_then (c_ret ?_))))))))))
  obtain rfl := sj h
  exact fin_ret (v := (B false)) (results_ok Tryz.results26 (res_tmp (v := (B false)) rfl res_nil) rfl) ⟨rfl, rfl⟩ (H.sel' [] rfl rfl)

theorem c_spec_nearer {Aa : Int × Int} {Ac : Int × Int}  {r : Bool} (h : M.spec_nearer Aa Ac = some r) :
    Cal2 Tryz.prog 81 [(.agg #[(I Aa.1), (I Aa.2)]), (.agg #[(I Ac.1), (I Ac.2)])] [] (fun n0 v L => v = (B r) ∧ L = []) := by
 refine cal2 (n := 24) Tryz.func81 rfl rfl rfl rfl ?_
 intro S0 σ0 n0 hn0 H
 unfold M.spec_nearer at h
 refine c_seq (rg (st_ex (ex_box (cs := [(I Aa.1), (I Aa.2)]) H hn0 rfl rfl) wn ?_))
 rintro _ σ2 ⟨b1, rfl, H, -⟩
 refine st_ex (ex_box (cs := [(I Ac.1), (I Ac.2)]) H hn0 rfl rfl) wn ?_
 rintro _ σ4 ⟨b3, rfl, H, -⟩
 refine sa (B false) rfl (w_end (q_then (c_seq (rg (st (v := (pt b1 1)) (rv_fieldAddr (off := 1) (ft := 3) Tryz.underlying35 rfl ti3 rfl rfl) ?_)))))
 have hc5 := H.cell (u := (I Aa.2)) (o' := 1) 1 1 rfl rfl rfl
 refine st (v := (I Aa.2)) (rv_load1 Tryz.underlying3 rfl rfl hc5) (st (v := (pt b3 1)) (rv_fieldAddr (off := 1) (ft := 3) Tryz.underlying35 rfl ti3 rfl rfl) ?_)
 have hc6 := H.cell (u := (I Ac.2)) (o' := 1) 0 1 rfl rfl rfl
 refine st (v := (I Ac.2)) (rv_load1 Tryz.underlying3 rfl rfl hc6) (st (v := (B (decide (Aa.2 < Ac.2)))) (rv_lss (a := Aa.2) (b := Ac.2) rfl rfl) (sm (B (decide (Aa.2 < Ac.2))) rfl ?_))
 rcases Bool.eq_false_or_eq_true (decide (Aa.2 < Ac.2)) with hb7 | hb7
 ·replace h := bif_t hb7 h
  refine st_skip (congrArg some hb7) (st_skip (congrArg some hb7) (st_skip (congrArg some hb7) (st_skip (congrArg some hb7) (st_skip (congrArg some hb7) (st_skip (congrArg some hb7) (st_skip_u rfl (st_skip_u rfl (st_skip_u rfl (st_skip_u rfl (st_skip_u rfl (st_skip (congrArg some hb7) ?_)))))))))))
  refine st (v := (B true)) (rv_pick_t (congrArg B hb7) rfl) (sa (B true) rfl (w_end (q_then (c_ret ?_))))
  obtain rfl := sj h
  exact fin_ret (v := (B true)) (results_ok Tryz.results81 (res_tmp (v := (B true)) rfl res_nil) rfl) ⟨rfl, rfl⟩ (H.sel' [] rfl rfl)
 ·replace h := bif_f hb7 h
  refine st_g (v := (pt b1 1)) (congrArg some hb7) (rv_fieldAddr (off := 1) (ft := 3) Tryz.underlying35 rfl ti3 rfl rfl) ?_
  have hc8 := H.cell (u := (I Aa.2)) (o' := 1) 1 1 rfl rfl rfl
  refine st_g (v := (I Aa.2)) (congrArg some hb7) (rv_load1 Tryz.underlying3 rfl rfl hc8) (st_g (v := (pt b3 1)) (congrArg some hb7) (rv_fieldAddr (off := 1) (ft := 3) Tryz.underlying35 rfl ti3 rfl rfl) ?_)
  have hc9 := H.cell (u := (I Ac.2)) (o' := 1) 0 1 rfl rfl rfl
  refine st_g (v := (I Ac.2)) (congrArg some hb7) (rv_load1 Tryz.underlying3 rfl rfl hc9) (st_g (v := (B (Aa.2 == Ac.2))) (congrArg some hb7) (rv_eql (a := Aa.2) (b := Ac.2) rfl rfl) (st_g (v := (B (Aa.2 == Ac.2))) (congrArg some hb7) (rv_move rfl) ?_))
  rcases Bool.eq_false_or_eq_true (Aa.2 == Ac.2) with hb10 | hb10
  ·replace h := bif_t hb10 h
   refine st_g (v := (pt b1 0)) (congrArg some hb10) (rv_fieldAddr (off := 0) (ft := 3) Tryz.underlying35 rfl ti3 rfl rfl) ?_
   have hc11 := H.cell (u := (I Aa.1)) (o' := 0) 1 0 rfl rfl rfl
   refine st_g (v := (I Aa.1)) (congrArg some hb10) (rv_load1 Tryz.underlying3 rfl rfl hc11) (st_g (v := (pt b3 0)) (congrArg some hb10) (rv_fieldAddr (off := 0) (ft := 3) Tryz.underlying35 rfl ti3 rfl rfl) ?_)
   have hc12 := H.cell (u := (I Ac.1)) (o' := 0) 0 0 rfl rfl rfl
   refine st_g (v := (I Ac.1)) (congrArg some hb10) (rv_load1 Tryz.underlying3 rfl rfl hc12) (st_g (v := (B (decide (Aa.1 < Ac.1)))) (congrArg some hb10) (rv_lss (a := Aa.1) (b := Ac.1) rfl rfl) (st_g (v := (B (decide (Aa.1 < Ac.1)))) (congrArg some hb7) (rv_pick_t (congrArg B hb10) rfl) (st (v := (B (decide (Aa.1 < Ac.1)))) (rv_pick_f (congrArg B hb7) rfl) (sa (B (decide (Aa.1 < Ac.1))) rfl (w_end (q_then (c_ret ?_)))))))
   obtain rfl := sj h
   exact fin_ret (v := (B (decide (Aa.1 < Ac.1)))) (results_ok Tryz.results81 (res_tmp (v := (B (decide (Aa.1 < Ac.1)))) rfl res_nil) rfl) ⟨rfl, rfl⟩ (H.sel' [] rfl rfl)
  ·replace h := bif_f hb10 h
   refine st_skip (congrArg some hb10) (st_skip (congrArg some hb10) (st_skip (congrArg some hb10) (st_skip (congrArg some hb10) (st_skip (congrArg some hb10) (st_g (v := (B false)) (congrArg some hb7) (rv_pick_f (congrArg B hb10) rfl) (st (v := (B false)) (rv_pick_f (congrArg B hb7) rfl) (sa (B false) rfl (w_end (q_then (c_ret ?_))))))))))
   obtain rfl := sj h
   exact fin_ret (v := (B false)) (results_ok Tryz.results81 (res_tmp (v := (B false)) rfl res_nil) rfl) ⟨rfl, rfl⟩ (H.sel' [] rfl rfl)

end Go.Vs
