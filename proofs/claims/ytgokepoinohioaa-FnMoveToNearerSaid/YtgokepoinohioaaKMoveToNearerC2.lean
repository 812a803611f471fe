/- The functions compute what their models say. -/
import Derived.Test.YtgokepoinohioaaKMoveToNearerC1
set_option linter.unusedVariables false
set_option linter.unusedSimpArgs false
set_option maxRecDepth 20000
namespace Go.Vs
open Go Go.Proofs
attribute [local irreducible] Code.wp Code.wpIn wpList wpListIn wpQuiet Calls CallsIn

theorem c_spec_MoveTo {a_0 : List Int} {b_1 : List Int} {part_2 : Int} {aa_0 : Option Addr} {ca_0 : Nat} {ab_1 : Option Addr} {cb_1 : Nat} {r : (List Int)} (h : M.spec_MoveTo a_0 b_1 part_2 = some r) :
    Cal2 Try.prog 30 [(Sl aa_0 a_0 ca_0), (Sl ab_1 b_1 cb_1), (I part_2)] [Ch.ro 0 (Sl aa_0 a_0 ca_0) a_0, Ch.ro 0 (Sl ab_1 b_1 cb_1) b_1] (fun n0 v L => ∃ (az1 : Option Addr), ∃ (cz2 : Nat), v = (Sl az1 r cz2) ∧ L = [Ch.own n0 n0 (Sl az1 r cz2) r]) := by
 refine cal2 (n := 48) Try.func30 rfl rfl rfl rfl ?_
 intro S0 σ0 n0 hn0 H
 unfold M.spec_MoveTo at h
 refine c_seq ?_
 refine rg ?_
 refine st (v := (.slice none 0 0)) (rv_assign rfl) ?_
 refine w_end ?_
 refine q_then ?_
 refine c_seq ?_
 refine rg ?_
 refine st_ex (ex_buildSlice (el := n0) (xs := ([] : List Int)) (ps := []) (cs := []) H hn0 Try.underlying23 ti3 rfl rfl (by kernel_rfl) (.nil) rfl) wn ?_
 rintro _ σ2 ⟨b1, rfl, H, -⟩
 refine st (v := (Sl (some ⟨b1, 0, none⟩) ([] : List Int) 0)) (rv_assign rfl) ?_
 refine w_end ?_
 refine q_then ?_
 refine c_seq ?_
 refine c_seq ?_
 obtain ⟨o3, hj, h'⟩ := bind_some h
 clear h
 refine c_cut (fun e a w => e = .normal ∧ ∃ (ρ : Nat → Value) (σ : St), a = fr 48 (updL ρ [(0, (Sl aa_0 a_0 ca_0)), (1, (Sl ab_1 b_1 cb_1)), (2, (I part_2)), (7, (Sl (some ⟨b1, 0, none⟩) ([] : List Int) 0)), (22, (B o3))]) ∧ w = σ.w ∧ Hp S0 σ0 σ [Ch.ro 0 (Sl aa_0 a_0 ca_0) a_0, Ch.ro 0 (Sl ab_1 b_1 cb_1) b_1, Ch.own n0 n0 (Sl (some ⟨b1, 0, none⟩) ([] : List Int) 0) ([] : List Int)]) ?_ ?_
 ·clear h'
  rename _ = some o3 => h
  refine rg ?_
  refine st (v := (Sl aa_0 a_0 ca_0)) (rv_move rfl) ?_
  obtain ⟨r4, hx5, h'⟩ := bind_some h
  clear h
  have h := h'; clear h'
  have hc6 := c_spec_isVector (av_0 := aa_0) (cv_0 := ca_0) hx5
  refine st_call (cx_call hc6 (ent_f hc6.fn rfl) hn0 (show Hp S0 σ0 _ ([Ch.ro 0 (Sl aa_0 a_0 ca_0) a_0] ++ [Ch.own n0 n0 (Sl (some ⟨b1, 0, none⟩) ([] : List Int) 0) ([] : List Int), Ch.ro 0 (Sl aa_0 a_0 ca_0) a_0, Ch.ro 0 (Sl ab_1 b_1 cb_1) b_1]) from (H.sel' [1, 0, 1, 2] rfl rfl))) wn ?_
  rintro _ σ7 ⟨_, ⟨rfl, rfl⟩, H, -⟩
  replace H : Hp S0 σ0 σ7 [Ch.own n0 n0 (Sl (some ⟨b1, 0, none⟩) ([] : List Int) 0) ([] : List Int), Ch.ro 0 (Sl aa_0 a_0 ca_0) a_0, Ch.ro 0 (Sl ab_1 b_1 cb_1) b_1] := H
  refine st (v := (B (!r4))) (rv_not rfl) ?_
  refine st (v := (B (!r4))) (rv_move rfl) ?_
  rcases Bool.eq_false_or_eq_true (!r4) with hb8 | hb8
  ·replace h := bif_t hb8 h
   refine st_skip (congrArg some hb8) ?_
   refine st_skip (congrArg some hb8) ?_
   refine st_skip (congrArg some hb8) ?_
   refine st (v := (B true)) (rv_pick_t (congrArg B hb8) rfl) ?_
   refine st (v := (B true)) (rv_move rfl) ?_
   refine st_skip rfl ?_
   refine st_skip rfl ?_
   refine st_skip rfl ?_
   refine st (v := (B true)) (rv_pick_t rfl rfl) ?_
   refine w_end ?_
   obtain rfl := Option.some.inj h
   exact ⟨rfl, _, σ7, fr_join ⟨rfl, rfl, rfl, rfl, rfl, trivial⟩, rfl, H.sel' [1, 2, 0] rfl rfl⟩
  ·replace h := bif_f hb8 h
   refine st_g (v := (Sl ab_1 b_1 cb_1)) (congrArg some hb8) (rv_move rfl) ?_
   obtain ⟨r9, hx10, h'⟩ := bind_some h
   clear h
   have h := h'; clear h'
   have hc11 := c_spec_isVector (av_0 := ab_1) (cv_0 := cb_1) hx10
   refine st_call (cx_call hc11 (ent_f hc11.fn rfl) hn0 (show Hp S0 σ0 _ ([Ch.ro 0 (Sl ab_1 b_1 cb_1) b_1] ++ [Ch.own n0 n0 (Sl (some ⟨b1, 0, none⟩) ([] : List Int) 0) ([] : List Int), Ch.ro 0 (Sl aa_0 a_0 ca_0) a_0, Ch.ro 0 (Sl ab_1 b_1 cb_1) b_1]) from (H.sel' [2, 0, 1, 2] rfl rfl))) (wanted_yes rfl (by exact (congrArg some hb8))) ?_
   rintro _ σ12 ⟨_, ⟨rfl, rfl⟩, H, -⟩
   replace H : Hp S0 σ0 σ12 [Ch.own n0 n0 (Sl (some ⟨b1, 0, none⟩) ([] : List Int) 0) ([] : List Int), Ch.ro 0 (Sl aa_0 a_0 ca_0) a_0, Ch.ro 0 (Sl ab_1 b_1 cb_1) b_1] := H
   refine st_g (v := (B (!r9))) (congrArg some hb8) (rv_not rfl) ?_
   refine st (v := (B (!r9))) (rv_pick_f (congrArg B hb8) rfl) ?_
   refine st (v := (B (!r9))) (rv_move rfl) ?_
   rcases Bool.eq_false_or_eq_true (!r9) with hb13 | hb13
   ·replace h := bif_t hb13 h
    refine st_skip (congrArg some hb13) ?_
    refine st_skip (congrArg some hb13) ?_
    refine st_skip (congrArg some hb13) ?_
    refine st (v := (B true)) (rv_pick_t (congrArg B hb13) rfl) ?_
    refine w_end ?_
    obtain rfl := Option.some.inj h
    exact ⟨rfl, _, σ12, fr_join ⟨rfl, rfl, rfl, rfl, rfl, trivial⟩, rfl, H.sel' [1, 2, 0] rfl rfl⟩
   ·replace h := bif_f hb13 h
    refine st_g (v := (I part_2)) (congrArg some hb13) (rv_move rfl) ?_
    obtain ⟨r14, hx15, h'⟩ := bind_some h
    clear h
    have h := h'; clear h'
    have hc16 := c_spec_inRange hx15
    refine st_call (cx_call hc16 (ent_f hc16.fn rfl) hn0 (show Hp S0 σ0 _ ([] ++ [Ch.own n0 n0 (Sl (some ⟨b1, 0, none⟩) ([] : List Int) 0) ([] : List Int), Ch.ro 0 (Sl aa_0 a_0 ca_0) a_0, Ch.ro 0 (Sl ab_1 b_1 cb_1) b_1]) from (H.sel' [0, 1, 2] rfl rfl))) (wanted_yes rfl (by exact (congrArg some hb13))) ?_
    rintro _ σ17 ⟨_, ⟨rfl, rfl⟩, H, -⟩
    replace H : Hp S0 σ0 σ17 [Ch.own n0 n0 (Sl (some ⟨b1, 0, none⟩) ([] : List Int) 0) ([] : List Int), Ch.ro 0 (Sl aa_0 a_0 ca_0) a_0, Ch.ro 0 (Sl ab_1 b_1 cb_1) b_1] := H
    refine st_g (v := (B (!r14))) (congrArg some hb13) (rv_not rfl) ?_
    refine st (v := (B (!r14))) (rv_pick_f (congrArg B hb13) rfl) ?_
    refine w_end ?_
    obtain rfl := Option.some.inj h
    exact ⟨rfl, _, σ17, fr_join ⟨rfl, rfl, rfl, rfl, rfl, trivial⟩, rfl, H.sel' [1, 2, 0] rfl rfl⟩
 ·clear hj
  have h := h'
  clear h' H
  rintro e a w ⟨rfl, ρ, σ18, rfl, rfl, H⟩
  refine q_then ?_
  refine cd_cond o3 rfl (fun hb19 => ?_) (fun hb19 => ?_)
  ·replace h := bif_t hb19 h
   refine c_seq ?_
   refine rg ?_
   refine st (v := (.slice none 0 0)) (rv_assign rfl) ?_
   refine w_end ?_
   refine q_then ?_
   refine c_ret ?_
   refine q_then_r ?_
   replace H := H.nilOwn Int n0 n0
   obtain rfl := Option.some.inj h
   exact fin_ret (v := (.slice none 0 0)) (results_ok Try.results30 (res_tmp (v := (.slice none 0 0)) rfl res_nil) rfl) ⟨none, 0, rfl, rfl⟩ (H.sel' [0] rfl rfl)
  ·replace h := bif_f hb19 h
   refine c_skip ?_
   refine q_then ?_
   refine c_seq ?_
   refine c_seq ?_
   refine rg ?_
   refine st (v := (I 0)) (rv_assign rfl) ?_
   refine w_end ?_
   refine q_then ?_
   obtain ⟨o20, hj, h'⟩ := bind_some h
   clear h
   refine c_cut (fun e a w => e = .normal ∧ ∃ (ρ : Nat → Value) (σ : St) (aj1 : Option Addr) (cj2 : Nat), a = fr 48 (updL ρ [(7, (Sl aj1 o20 cj2))]) ∧ w = σ.w ∧ Hp S0 σ0 σ [Ch.own n0 n0 (Sl aj1 o20 cj2) o20]) ?_ ?_
   ·clear h'
    rename _ = some o20 => h
    refine c_blk ?_
    refine wp_loopM _ h (fun s21 a w => ∃ (ρ : Nat → Value) (σ : St) (aj1 : Option Addr) (cj2 : Nat), a = fr 48 (updL ρ [(0, (Sl aa_0 a_0 ca_0)), (1, (Sl ab_1 b_1 cb_1)), (2, (I part_2)), (7, (Sl aj1 s21.1 cj2)), (8, (I s21.2))]) ∧ w = σ.w ∧ Hp S0 σ0 σ [Ch.ro 0 (Sl aa_0 a_0 ca_0) a_0, Ch.ro 0 (Sl ab_1 b_1 cb_1) b_1, Ch.own n0 n0 (Sl aj1 s21.1 cj2) s21.1]) ⟨_, σ18, (some ⟨b1, 0, none⟩), 0, fr_join ⟨rfl, rfl, rfl, rfl, rfl, trivial⟩, rfl, H.sel' [0, 1, 2] rfl rfl⟩ ?_
    clear h H
    rintro s21 a w o ⟨ρ, σ22, a23, c24, rfl, rfl, H⟩ h hres
    refine c_seq ?_
    refine c_seq ?_
    refine rg ?_
    refine st (v := (I s21.2)) (rv_move rfl) ?_
    refine st (v := (B (decide (s21.2 < 4)))) (rv_lss (a := s21.2) (b := 4) rfl rfl) ?_
    refine w_end ?_
    refine q_then ?_
    refine cd_cond (decide (s21.2 < 4)) rfl (fun hb25 => ?_) (fun hb25 => ?_)
    ·replace h := bif_t hb25 h
     refine c_skip ?_
     refine q_then ?_
     refine c_seq ?_
     refine c_blk ?_
     obtain ⟨x26, hx27, h'⟩ := bind_some h
     clear h
     have h := h'; clear h'
     obtain ⟨b29, o30, hi28, -⟩ := (H.ro 0 rfl).ix hx27
     have hc31 := ((H.ro 0 rfl).at hx27 hi28).int
     obtain ⟨x32, hx33, h'⟩ := bind_some h
     clear h
     have h := h'; clear h'
     obtain ⟨b35, o36, hi34, -⟩ := (H.ro 1 rfl).ix hx33
     have hc37 := ((H.ro 1 rfl).at hx33 hi34).int
     obtain ⟨x38, hx39, h'⟩ := bind_some h
     clear h
     have h := h'; clear h'
     obtain ⟨b41, o42, hi40, -⟩ := (H.ro 0 rfl).ix hx39
     have hc43 := ((H.ro 0 rfl).at hx39 hi40).int
     obtain ⟨r44, hx45, h'⟩ := bind_some h
     clear h
     have h := h'; clear h'
     have hc46 := c_spec_floorDiv hx45
     have Hs := H
     refine rg2 (σ := σ22) (Nm := (Nat)) 19 [16, 18] [[false, false], [true, false], [true, true]] [[(0, 0), (1, 1), (2, 2)], [(0, 0), (1, 1)], [(0, 0), (1, 1)], [(0, 0), (1, 1)], [(0, 0), (1, 1)], [(0, 0)], [(0, 0)], [(0, 0)], [(0, 0)], [(0, 0)], [(0, 0)], [(0, 0)], [(0, 0)], [(0, 0)], [(0, 0)], [(0, 0)], [(0, 1)], [(1, 1)], [(1, 2)]] 2 [fun (b47 : (Nat)) => fun σm => Hp S0 σ0 σm [Ch.ro 0 (Sl aa_0 a_0 ca_0) a_0, Ch.ro 0 (Sl ab_1 b_1 cb_1) b_1, Ch.own n0 n0 (Sl a23 s21.1 c24) s21.1] ∧ Md (cov []) σ22 σm, fun (b47 : (Nat)) => fun σm => Hp S0 σ0 σm [Ch.ro 0 (Sl aa_0 a_0 ca_0) a_0, Ch.ro 0 (Sl ab_1 b_1 cb_1) b_1, Ch.own n0 n0 (Sl a23 s21.1 c24) s21.1] ∧ Md (cov []) σ22 σm, fun (b47 : (Nat)) => fun σm => Hp S0 σ0 σm [Ch.own n0 n0 (Sl (some ⟨b47, 0, none⟩) ([w64 (x26 + r44)] : List Int) 1) ([w64 (x26 + r44)] : List Int), Ch.ro 0 (Sl aa_0 a_0 ca_0) a_0, Ch.ro 0 (Sl ab_1 b_1 cb_1) b_1, Ch.own n0 n0 (Sl a23 s21.1 c24) s21.1] ∧ Md (cov []) σ22 σm] [fun (b47 : (Nat)) => (Sl a23 s21.1 c24), fun (b47 : (Nat)) => (Sl aa_0 a_0 ca_0), fun (b47 : (Nat)) => (I s21.2), fun (b47 : (Nat)) => (pt b29 o30), fun (b47 : (Nat)) => (I x26), fun (b47 : (Nat)) => (Sl ab_1 b_1 cb_1), fun (b47 : (Nat)) => (I s21.2), fun (b47 : (Nat)) => (pt b35 o36), fun (b47 : (Nat)) => (I x32), fun (b47 : (Nat)) => (Sl aa_0 a_0 ca_0), fun (b47 : (Nat)) => (I s21.2), fun (b47 : (Nat)) => (pt b41 o42), fun (b47 : (Nat)) => (I x38), fun (b47 : (Nat)) => (I (w64 (x32 - x38))), fun (b47 : (Nat)) => (I part_2), fun (b47 : (Nat)) => (I (w64 ((w64 (x32 - x38)) * part_2))), fun (b47 : (Nat)) => (I r44), fun (b47 : (Nat)) => (I (w64 (x26 + r44))), fun (b47 : (Nat)) => (Sl (some ⟨b47, 0, none⟩) ([w64 (x26 + r44)] : List Int) 1)] (0) (by kernel_rfl) (by kernel_rfl) ?_ ?_ ?_
     ·intro σm m0
      exact ⟨H.grow (m0.mono fun _ h => h.elim), m0⟩
     ·refine ac rfl (by
        intro k b47 ρ σm hJ hoff hdep
        have e7 := look_off (N := 48) (hoff 7 rfl) rfl
        exact dp_v (v := (Sl a23 s21.1 c24)) wn (rv_move e7) rfl hJ) ?_
      refine ac rfl (by
        intro k b47 ρ σm hJ hoff hdep
        have e0 := look_off (N := 48) (hoff 0 rfl) rfl
        exact dp_v (v := (Sl aa_0 a_0 ca_0)) wn (rv_move e0) rfl hJ) ?_
      refine ac rfl (by
        intro k b47 ρ σm hJ hoff hdep
        have e8 := look_off (N := 48) (hoff 8 rfl) rfl
        exact dp_v (v := (I s21.2)) wn (rv_move e8) rfl hJ) ?_
      refine ac rfl (by
        intro k b47 ρ σm hJ hoff hdep
        have e28 := hdep 1 rfl rfl 28 rfl
        have e29 := hdep 2 rfl rfl 29 rfl
        exact dp_v (v := (pt b29 o30)) wn (rv_ix Try.underlying23 ti3 e28 e29 hi28) rfl hJ) ?_
      refine all_cons (by
        refine ⟨?_, ?_⟩
        ·intro b47 ρ σm hJ hoff hdep
         have e30 := hdep 3 rfl rfl 30 rfl
         obtain ⟨H, m⟩ := id hJ
         replace hc31 := (Hs.ro 0 rfl).hmd hx27 hi28 (k := 0) (by decide) hc31 m
         exact dp_v (v := (I x26)) wn (rv_load1 Try.underlying3 rfl e30 hc31) rfl hJ
        refine ⟨?_, ?_⟩
        ·intro b47 ρ σm hJ hoff hdep
         have e30 := hdep 3 rfl rfl 30 rfl
         obtain ⟨H, m⟩ := id hJ
         replace hc31 := (Hs.ro 0 rfl).hmd hx27 hi28 (k := 0) (by decide) hc31 m
         exact dp_v (v := (I x26)) wn (rv_load1 Try.underlying3 rfl e30 hc31) rfl hJ
        trivial) ?_
      refine ac rfl (by
        intro k b47 ρ σm hJ hoff hdep
        have e1 := look_off (N := 48) (hoff 1 rfl) rfl
        exact dp_v (v := (Sl ab_1 b_1 cb_1)) wn (rv_move e1) rfl hJ) ?_
      refine ac rfl (by
        intro k b47 ρ σm hJ hoff hdep
        have e8 := look_off (N := 48) (hoff 8 rfl) rfl
        exact dp_v (v := (I s21.2)) wn (rv_move e8) rfl hJ) ?_
      refine ac rfl (by
        intro k b47 ρ σm hJ hoff hdep
        have e32 := hdep 5 rfl rfl 32 rfl
        have e33 := hdep 6 rfl rfl 33 rfl
        exact dp_v (v := (pt b35 o36)) wn (rv_ix Try.underlying23 ti3 e32 e33 hi34) rfl hJ) ?_
      refine all_cons (by
        refine ⟨?_, ?_⟩
        ·intro b47 ρ σm hJ hoff hdep
         have e34 := hdep 7 rfl rfl 34 rfl
         obtain ⟨H, m⟩ := id hJ
         replace hc37 := (Hs.ro 1 rfl).hmd hx33 hi34 (k := 0) (by decide) hc37 m
         exact dp_v (v := (I x32)) wn (rv_load1 Try.underlying3 rfl e34 hc37) rfl hJ
        trivial) ?_
      refine ac rfl (by
        intro k b47 ρ σm hJ hoff hdep
        have e0 := look_off (N := 48) (hoff 0 rfl) rfl
        exact dp_v (v := (Sl aa_0 a_0 ca_0)) wn (rv_move e0) rfl hJ) ?_
      refine ac rfl (by
        intro k b47 ρ σm hJ hoff hdep
        have e8 := look_off (N := 48) (hoff 8 rfl) rfl
        exact dp_v (v := (I s21.2)) wn (rv_move e8) rfl hJ) ?_
      refine ac rfl (by
        intro k b47 ρ σm hJ hoff hdep
        have e36 := hdep 9 rfl rfl 36 rfl
        have e37 := hdep 10 rfl rfl 37 rfl
        exact dp_v (v := (pt b41 o42)) wn (rv_ix Try.underlying23 ti3 e36 e37 hi40) rfl hJ) ?_
      refine all_cons (by
        refine ⟨?_, ?_⟩
        ·intro b47 ρ σm hJ hoff hdep
         have e38 := hdep 11 rfl rfl 38 rfl
         obtain ⟨H, m⟩ := id hJ
         replace hc43 := (Hs.ro 0 rfl).hmd hx39 hi40 (k := 0) (by decide) hc43 m
         exact dp_v (v := (I x38)) wn (rv_load1 Try.underlying3 rfl e38 hc43) rfl hJ
        trivial) ?_
      refine ac rfl (by
        intro k b47 ρ σm hJ hoff hdep
        have e35 := hdep 8 rfl rfl 35 rfl
        have e39 := hdep 12 rfl rfl 39 rfl
        exact dp_v (v := (I (w64 (x32 - x38)))) wn (rv_sub (a := x32) (b := x38) e35 e39) rfl hJ) ?_
      refine ac rfl (by
        intro k b47 ρ σm hJ hoff hdep
        have e2 := look_off (N := 48) (hoff 2 rfl) rfl
        exact dp_v (v := (I part_2)) wn (rv_move e2) rfl hJ) ?_
      refine ac rfl (by
        intro k b47 ρ σm hJ hoff hdep
        have e40 := hdep 13 rfl rfl 40 rfl
        have e41 := hdep 14 rfl rfl 41 rfl
        exact dp_v (v := (I (w64 ((w64 (x32 - x38)) * part_2)))) wn (rv_mul (a := (w64 (x32 - x38))) (b := part_2) e40 e41) rfl hJ) ?_
      refine all_cons (by
        refine ⟨?_, ?_⟩
        ·intro b47 ρ σm hJ hoff hdep
         have e42 : look 48 ρ 42 = (I (w64 ((w64 (x32 - x38)) * part_2))) := hdep 15 rfl rfl 42 rfl
         obtain ⟨H, m⟩ := id hJ
         refine dp_cx wn (cx_call hc46 (ent_f hc46.fn (by show [look 48 ρ 42, (I 1000)] = _; rw [e42])) hn0 (show Hp S0 σ0 _ ([] ++ [Ch.ro 0 (Sl aa_0 a_0 ca_0) a_0, Ch.ro 0 (Sl ab_1 b_1 cb_1) b_1, Ch.own n0 n0 (Sl a23 s21.1 c24) s21.1]) from (H.sel' [0, 1, 2] rfl rfl))) ?_
         rintro _ σq ⟨_, ⟨rfl, rfl⟩, H2, m2⟩
         exact ⟨_, b47, rfl, rfl, ⟨H2.sel' [0, 1, 2] rfl rfl, m.comp0 m2⟩, stab [0, 1, 2, 3, 4, 5, 6, 7, 8, 9, 10, 11, 12, 13, 14, 15] (by kernel_rfl) ⟨rfl, rfl, rfl, rfl, rfl, rfl, rfl, rfl, rfl, rfl, rfl, rfl, rfl, rfl, rfl, rfl, trivial⟩⟩
        trivial) ?_
      refine ac rfl (by
        intro k b47 ρ σm hJ hoff hdep
        have e31 := hdep 4 rfl rfl 31 rfl
        have e43 := hdep 16 rfl rfl 43 rfl
        exact dp_v (v := (I (w64 (x26 + r44)))) wn (rv_add (a := x26) (b := r44) e31 e43) rfl hJ) ?_
      refine all_cons (by
        refine ⟨?_, ?_⟩
        ·intro b47 ρ σm hJ hoff hdep
         have e44 : look 48 ρ 44 = (I (w64 (x26 + r44))) := hdep 17 rfl rfl 44 rfl
         obtain ⟨H, m⟩ := id hJ
         refine dp_ex wn (ex_buildSlice (el := n0) (xs := ([w64 (x26 + r44)] : List Int)) (ps := [(0, (I (w64 (x26 + r44))))]) (cs := [(I (w64 (x26 + r44)))]) H hn0 Try.underlying23 ti3 rfl (by show [(0, look 48 ρ 44)] = _; rw [e44]) (by kernel_rfl) (.cons (c := [(I (w64 (x26 + r44)))]) rfl (.nil)) rfl) ?_
         rintro _ σq ⟨b47x, rfl, H2, m2⟩
         exact ⟨_, b47x, rfl, rfl, ⟨H2.sel' [0, 1, 2, 3] rfl rfl, m.comp0 m2⟩, stab [0, 1, 2, 3, 4, 5, 6, 7, 8, 9, 10, 11, 12, 13, 14, 15, 16, 17] (by kernel_rfl) ⟨rfl, rfl, rfl, rfl, rfl, rfl, rfl, rfl, rfl, rfl, rfl, rfl, rfl, rfl, rfl, rfl, rfl, rfl, trivial⟩⟩
        trivial) ?_
      exact all_nil
     ·intro b47 ρ σ48 hJ hoff hrel
      have e0 := look_off (N := 48) (hoff 0 rfl) rfl
      have e1 := look_off (N := 48) (hoff 1 rfl) rfl
      have e2 := look_off (N := 48) (hoff 2 rfl) rfl
      have e8 := look_off (N := 48) (hoff 8 rfl) rfl
      have e27 := hrel 0 rfl 27 rfl
      have e45 := hrel 18 rfl 45 rfl
      obtain ⟨H, -⟩ := (show Hp S0 σ0 σ48 [Ch.own n0 n0 (Sl (some ⟨b47, 0, none⟩) ([w64 (x26 + r44)] : List Int) 1) ([w64 (x26 + r44)] : List Int), Ch.ro 0 (Sl aa_0 a_0 ca_0) a_0, Ch.ro 0 (Sl ab_1 b_1 cb_1) b_1, Ch.own n0 n0 (Sl a23 s21.1 c24) s21.1] ∧ Md (cov []) σ22 σ48 from hJ)
      clear hJ Hs
      rw [fr_lookL (L := [(0, (Sl aa_0 a_0 ca_0)), (1, (Sl ab_1 b_1 cb_1)), (2, (I part_2)), (8, (I s21.2)), (27, (Sl a23 s21.1 c24)), (45, (Sl (some ⟨b47, 0, none⟩) ([w64 (x26 + r44)] : List Int) 1))]) ⟨e0, e1, e2, e8, e27, e45, trivial⟩]
      clear hoff hrel e0 e1 e2 e8 e27 e45
      obtain ⟨xs49, hx50, h'⟩ := bind_some h
      clear h
      have h := h'; clear h'
      refine st_ex (ex_append H (i := 3) rfl Try.underlying23 Try.underlying23 ti3 rfl rfl (by decide) (H.own 0 rfl).rd hx50 hn0 rfl rfl) wn ?_
      rintro _ σ53 ⟨a51, c52, rfl, H, -⟩
      refine st (v := (Sl a51 xs49 c52)) (rv_assign rfl) ?_
      refine w_end ?_
      refine q_blk ?_
      refine q_then ?_
      refine rg ?_
      refine st (v := (I s21.2)) (rv_move rfl) ?_
      refine st (v := (I (w64 (s21.2 + 1)))) (rv_add (a := s21.2) (b := 1) rfl rfl) ?_
      refine st (v := (I (w64 (s21.2 + 1)))) (rv_assign rfl) ?_
      refine w_end ?_
      refine q_then ?_
      obtain rfl := Option.some.inj h
      exact ⟨_, rfl, _, σ53, a51, c52, fr_join ⟨rfl, rfl, rfl, rfl, rfl, trivial⟩, rfl, H.sel' [2, 3, 0] rfl rfl⟩
    ·replace h := bif_f hb25 h
     refine c_exit ?_
     refine q_then_x ?_
     refine q_then_x ?_
     refine q_blk_hit ?_
     obtain rfl := Option.some.inj h
     obtain rfl := hres _ rfl
     exact ⟨rfl, _, σ22, a23, c24, fr_join ⟨rfl, trivial⟩, rfl, H.sel' [2] rfl rfl⟩
   ·clear hj
    have h := h'
    clear h' H
    rintro e a w ⟨rfl, ρ, σ54, a55, c56, rfl, rfl, H⟩
    refine q_then ?_
    refine c_seq ?_
    refine rg ?_
    refine st (v := (Sl a55 o20 c56)) (rv_move rfl) ?_
    refine st (v := (Sl a55 o20 c56)) (rv_assign rfl) ?_
    refine w_end ?_
    refine q_then ?_
    refine c_ret ?_
    obtain rfl := Option.some.inj h
    exact fin_ret (v := (Sl a55 o20 c56)) (results_ok Try.results30 (res_tmp (v := (Sl a55 o20 c56)) rfl res_nil) rfl) ⟨a55, c56, rfl, rfl⟩ (H.sel' [0] rfl rfl)

theorem c_laws_FnMoveToNearer {code_0 : List UInt8} {acode_0 : Option Addr} {ccode_0 : Nat} {r : Bool} (h : M.laws_FnMoveToNearer code_0 = some r) :
    Cal2 Try.prog 12 [(Sl acode_0 code_0 ccode_0)] [Ch.ro 0 (Sl acode_0 code_0 ccode_0) code_0] (fun n0 v L => v = (B r) ∧ L = []) := by
 refine cal2 (n := 54) Try.func12 rfl rfl rfl rfl ?_
 intro S0 σ0 n0 hn0 H
 unfold M.laws_FnMoveToNearer at h
 refine c_seq ?_
 refine rg ?_
 refine st (v := (B false)) (rv_assign rfl) ?_
 refine w_end ?_
 refine q_then ?_
 refine c_seq ?_
 refine c_seq ?_
 refine rg ?_
 refine st (v := (Sl acode_0 code_0 ccode_0)) (rv_move rfl) ?_
 refine st (v := (I (code_0.length : Int))) (rv_len Try.underlying22 rfl) ?_
 refine st (v := (B (decide (1048576 < (code_0.length : Int))))) (rv_gtr (a := (code_0.length : Int)) (b := 1048576) rfl rfl) ?_
 refine w_end ?_
 refine q_then ?_
 refine cd_cond (decide (1048576 < (code_0.length : Int))) rfl (fun hb1 => ?_) (fun hb1 => ?_)
 ·replace h := bif_t hb1 h
  refine c_seq ?_
  refine rg ?_
  refine st (v := (B true)) (rv_assign rfl) ?_
  refine w_end ?_
  refine q_then ?_
  refine c_ret ?_
  refine q_then_r ?_
  obtain rfl := Option.some.inj h
  exact fin_ret (v := (B true)) (results_ok Try.results12 (res_tmp (v := (B true)) rfl res_nil) rfl) ⟨rfl, rfl⟩ (H.sel' [] rfl rfl)
 ·replace h := bif_f hb1 h
  refine c_skip ?_
  refine q_then ?_
  refine c_seq ?_
  refine rg ?_
  refine st (v := (Sl acode_0 code_0 ccode_0)) (rv_move rfl) ?_
  obtain ⟨r2, hx3, h'⟩ := bind_some h
  clear h
  have h := h'; clear h'
  have hc4 := c_spec_DrawMoveTo (acode_0 := acode_0) (ccode_0 := ccode_0) hx3
  refine st_call (cx_call hc4 (ent_f hc4.fn rfl) hn0 (show Hp S0 σ0 _ ([Ch.ro 0 (Sl acode_0 code_0 ccode_0) code_0] ++ [Ch.ro 0 (Sl acode_0 code_0 ccode_0) code_0]) from (H.sel' [0, 0] rfl rfl))) wn ?_
  rintro _ σ9 ⟨_, ⟨a5, c6, a7, c8, rfl, rfl⟩, H, -⟩
  replace H : Hp S0 σ0 σ9 [Ch.own n0 n0 (Sl a5 r2.1 c6) r2.1, Ch.own n0 n0 (Sl a7 r2.2.1 c8) r2.2.1, Ch.ro 0 (Sl acode_0 code_0 ccode_0) code_0] := H
  refine st (v := (.tuple #[(Sl a5 r2.1 c6), (Sl a7 r2.2.1 c8), (I r2.2.2)])) (rv_move rfl) ?_
  refine st (v := (Sl a5 r2.1 c6)) (rv_extract rfl rfl) ?_
  refine st (v := (Sl a7 r2.2.1 c8)) (rv_extract rfl rfl) ?_
  refine st (v := (I r2.2.2)) (rv_extract rfl rfl) ?_
  refine st (v := (Sl a5 r2.1 c6)) (rv_assign rfl) ?_
  refine st (v := (Sl a7 r2.2.1 c8)) (rv_assign rfl) ?_
  refine st (v := (I r2.2.2)) (rv_assign rfl) ?_
  refine w_end ?_
  refine q_then ?_
  refine c_seq ?_
  refine rg ?_
  refine st (v := (Sl a5 r2.1 c6)) (rv_move rfl) ?_
  refine st (v := (Sl a7 r2.2.1 c8)) (rv_move rfl) ?_
  refine st (v := (I r2.2.2)) (rv_move rfl) ?_
  obtain ⟨r10, hx11, h'⟩ := bind_some h
  clear h
  have h := h'; clear h'
  have hc12 := c_impl_MoveTo (aa_0 := a5) (ca_0 := c6) (ab_1 := a7) (cb_1 := c8) hx11
  have hle := Nat.le_trans hn0 H.size
  refine st_call (cx_lend (Loan.lend (Loan.lend Loan.nil)) hc12 (ent_f hc12.fn rfl) (show Hp S0 σ0 _ ([Ch.own n0 n0 (Sl a5 r2.1 c6) r2.1, Ch.own n0 n0 (Sl a7 r2.2.1 c8) r2.2.1] ++ ([] ++ [Ch.ro 0 (Sl acode_0 code_0 ccode_0) code_0])) from (H.sel' [0, 1, 2] rfl rfl)) (by rintro _ _ _ ⟨_, _, rfl, rfl, _⟩; exact ⟨Ab.ownSc, trivial⟩)) wn ?_
  rintro _ σ16 ⟨_, ⟨a13, c14, rfl, rfl, ht15⟩, H, -, -⟩
  replace H : Hp S0 σ0 σ16 [Ch.own σ9.size σ9.size (Sl a13 r10 c14) r10, Ch.own n0 n0 (Sl a5 r2.1 c6) r2.1, Ch.own n0 n0 (Sl a7 r2.2.1 c8) r2.2.1, Ch.ro 0 (Sl acode_0 code_0 ccode_0) code_0] := H
  replace H := H.ownLow 0 n0 n0 rfl hle hle
  clear hle
  replace H : Hp S0 σ0 σ16 [Ch.own n0 n0 (Sl a13 r10 c14) r10, Ch.own n0 n0 (Sl a5 r2.1 c6) r2.1, Ch.own n0 n0 (Sl a7 r2.2.1 c8) r2.2.1, Ch.ro 0 (Sl acode_0 code_0 ccode_0) code_0] := H
  refine st (v := (Sl a13 r10 c14)) (rv_assign rfl) ?_
  refine w_end ?_
  refine q_then ?_
  refine c_seq ?_
  refine c_seq ?_
  obtain ⟨o17, hj, h'⟩ := bind_some h
  clear h
  refine c_cut (fun e a w => e = .normal ∧ ∃ (ρ : Nat → Value) (σ : St), a = fr 54 (updL ρ [(3, (Sl a5 r2.1 c6)), (4, (Sl a7 r2.2.1 c8)), (5, (I r2.2.2)), (6, (Sl a13 r10 c14)), (35, (B o17))]) ∧ w = σ.w ∧ Hp S0 σ0 σ [Ch.own n0 n0 (Sl a5 r2.1 c6) r2.1, Ch.own n0 n0 (Sl a7 r2.2.1 c8) r2.2.1, Ch.own n0 n0 (Sl a13 r10 c14) r10]) ?_ ?_
  ·clear h'
   rename _ = some o17 => h
   refine rg ?_
   refine st (v := (Sl a13 r10 c14)) (rv_move rfl) ?_
   refine st (v := (Sl a5 r2.1 c6)) (rv_move rfl) ?_
   refine st (v := (Sl a7 r2.2.1 c8)) (rv_move rfl) ?_
   refine st (v := (I r2.2.2)) (rv_move rfl) ?_
   obtain ⟨r18, hx19, h'⟩ := bind_some h
   clear h
   have h := h'; clear h'
   have hc20 := c_spec_MoveTo (aa_0 := a5) (ca_0 := c6) (ab_1 := a7) (cb_1 := c8) hx19
   have hle := Nat.le_trans hn0 H.size
   refine st_call (cx_lend (Loan.lend (Loan.lend Loan.nil)) hc20 (ent_f hc20.fn rfl) (show Hp S0 σ0 _ ([Ch.own n0 n0 (Sl a5 r2.1 c6) r2.1, Ch.own n0 n0 (Sl a7 r2.2.1 c8) r2.2.1] ++ ([] ++ [Ch.own n0 n0 (Sl a13 r10 c14) r10, Ch.ro 0 (Sl acode_0 code_0 ccode_0) code_0])) from (H.sel' [1, 2, 0, 3] rfl rfl)) (by rintro _ _ _ ⟨_, _, rfl, rfl⟩; exact ⟨Ab.ownSc, trivial⟩)) wn ?_
   rintro _ σ23 ⟨_, ⟨a21, c22, rfl, rfl⟩, H, -, -⟩
   replace H : Hp S0 σ0 σ23 [Ch.own σ16.size σ16.size (Sl a21 r18 c22) r18, Ch.own n0 n0 (Sl a5 r2.1 c6) r2.1, Ch.own n0 n0 (Sl a7 r2.2.1 c8) r2.2.1, Ch.own n0 n0 (Sl a13 r10 c14) r10, Ch.ro 0 (Sl acode_0 code_0 ccode_0) code_0] := H
   replace H := H.ownLow 0 n0 n0 rfl hle hle
   clear hle
   replace H : Hp S0 σ0 σ23 [Ch.own n0 n0 (Sl a21 r18 c22) r18, Ch.own n0 n0 (Sl a5 r2.1 c6) r2.1, Ch.own n0 n0 (Sl a7 r2.2.1 c8) r2.2.1, Ch.own n0 n0 (Sl a13 r10 c14) r10, Ch.ro 0 (Sl acode_0 code_0 ccode_0) code_0] := H
   obtain ⟨σ24, hw25, H, -⟩ := H.pub 0 rfl (Nat.le_refl _)
   rw [← hw25]; clear hw25
   replace H := H.roLow 0 0 rfl (Nat.zero_le _)
   obtain ⟨r26, hx27, h'⟩ := bind_some h
   clear h
   have h := h'; clear h'
   have hc28 := c_laws_equalInts (aa_0 := a13) (ca_0 := c14) (ab_1 := a21) (cb_1 := c22) hx27
   have hle := Nat.le_trans hn0 H.size
   refine st_call (cx_lend (Loan.lend (Loan.same Loan.nil)) hc28 (ent_f hc28.fn rfl) (show Hp S0 σ0 _ ([Ch.own n0 n0 (Sl a13 r10 c14) r10] ++ ([Ch.ro 0 (Sl a21 r18 c22) r18] ++ [Ch.ro 0 (Sl a21 r18 c22) r18, Ch.ro n0 (Sl a21 r18 c22) r18, Ch.own n0 n0 (Sl a5 r2.1 c6) r2.1, Ch.own n0 n0 (Sl a7 r2.2.1 c8) r2.2.1, Ch.ro 0 (Sl acode_0 code_0 ccode_0) code_0])) from (H.sel' [4, 0, 0, 1, 2, 3, 5] rfl rfl)) (by rintro _ _ _ ⟨rfl, rfl⟩; exact trivial)) wn ?_
   rintro _ σ29 ⟨_, ⟨rfl, rfl⟩, H, -, -⟩
   replace H : Hp S0 σ0 σ29 [Ch.own n0 n0 (Sl a13 r10 c14) r10, Ch.ro 0 (Sl a21 r18 c22) r18, Ch.ro n0 (Sl a21 r18 c22) r18, Ch.own n0 n0 (Sl a5 r2.1 c6) r2.1, Ch.own n0 n0 (Sl a7 r2.2.1 c8) r2.2.1, Ch.ro 0 (Sl acode_0 code_0 ccode_0) code_0] := H
   clear hle
   replace H : Hp S0 σ0 σ29 [Ch.own n0 n0 (Sl a13 r10 c14) r10, Ch.ro 0 (Sl a21 r18 c22) r18, Ch.ro n0 (Sl a21 r18 c22) r18, Ch.own n0 n0 (Sl a5 r2.1 c6) r2.1, Ch.own n0 n0 (Sl a7 r2.2.1 c8) r2.2.1, Ch.ro 0 (Sl acode_0 code_0 ccode_0) code_0] := H
   refine st (v := (B (!r26))) (rv_not rfl) ?_
   refine st (v := (B (!r26))) (rv_move rfl) ?_
   rcases Bool.eq_false_or_eq_true (!r26) with hb30 | hb30
   ·replace h := bif_t hb30 h
    refine st_skip (congrArg some hb30) ?_
    refine st_skip (congrArg some hb30) ?_
    refine st_skip (congrArg some hb30) ?_
    refine st (v := (B true)) (rv_pick_t (congrArg B hb30) rfl) ?_
    refine st (v := (B true)) (rv_move rfl) ?_
    refine st_skip rfl ?_
    refine st_skip rfl ?_
    refine st (v := (B true)) (rv_pick_t rfl rfl) ?_
    refine w_end ?_
    obtain rfl := Option.some.inj h
    exact ⟨rfl, _, σ29, fr_join ⟨rfl, rfl, rfl, rfl, rfl, trivial⟩, rfl, H.sel' [3, 4, 0] rfl rfl⟩
   ·replace h := bif_f hb30 h
    refine st_g (v := (Sl a13 r10 c14)) (congrArg some hb30) (rv_move rfl) ?_
    refine st_g (v := (I (r10.length : Int))) (congrArg some hb30) (rv_len Try.underlying23 rfl) ?_
    refine st_g (v := (B ((r10.length : Int) == 0))) (congrArg some hb30) (rv_eql (a := (r10.length : Int)) (b := 0) rfl rfl) ?_
    refine st (v := (B ((r10.length : Int) == 0))) (rv_pick_f (congrArg B hb30) rfl) ?_
    refine st (v := (B ((r10.length : Int) == 0))) (rv_move rfl) ?_
    rcases Bool.eq_false_or_eq_true ((r10.length : Int) == 0) with hb31 | hb31
    ·replace h := bif_t hb31 h
     refine st_skip (congrArg some hb31) ?_
     refine st_skip (congrArg some hb31) ?_
     refine st (v := (B true)) (rv_pick_t (congrArg B hb31) rfl) ?_
     refine w_end ?_
     obtain rfl := Option.some.inj h
     exact ⟨rfl, _, σ29, fr_join ⟨rfl, rfl, rfl, rfl, rfl, trivial⟩, rfl, H.sel' [3, 4, 0] rfl rfl⟩
    ·replace h := bif_f hb31 h
     refine st_g (v := (I r2.2.2)) (congrArg some hb31) (rv_move rfl) ?_
     refine st_g (v := (B (r2.2.2 == 1000))) (congrArg some hb31) (rv_eql (a := r2.2.2) (b := 1000) rfl rfl) ?_
     refine st (v := (B (r2.2.2 == 1000))) (rv_pick_f (congrArg B hb31) rfl) ?_
     refine w_end ?_
     obtain rfl := Option.some.inj h
     exact ⟨rfl, _, σ29, fr_join ⟨rfl, rfl, rfl, rfl, rfl, trivial⟩, rfl, H.sel' [3, 4, 0] rfl rfl⟩
  ·clear hj
   have h := h'
   clear h' H
   rintro e a w ⟨rfl, ρ, σ32, rfl, rfl, H⟩
   refine q_then ?_
   refine cd_cond o17 rfl (fun hb33 => ?_) (fun hb33 => ?_)
   ·replace h := bif_t hb33 h
    refine c_seq ?_
    refine rg ?_
    refine st (v := (Sl a13 r10 c14)) (rv_move rfl) ?_
    refine st (v := (Sl a5 r2.1 c6)) (rv_move rfl) ?_
    refine st (v := (Sl a7 r2.2.1 c8)) (rv_move rfl) ?_
    refine st (v := (I r2.2.2)) (rv_move rfl) ?_
    obtain ⟨σ34, hw35, H, -⟩ := H.pub 0 rfl (Nat.le_refl _)
    rw [← hw35]; clear hw35
    obtain ⟨σ36, hw37, H, -⟩ := H.pub 1 rfl (Nat.le_refl _)
    rw [← hw37]; clear hw37
    replace H := H.roLow 1 0 rfl (Nat.zero_le _)
    replace H := H.roLow 1 0 rfl (Nat.zero_le _)
    obtain ⟨r38, hx39, h'⟩ := bind_some h
    clear h
    have h := h'; clear h'
    have hc40 := c_spec_MoveTo (aa_0 := a5) (ca_0 := c6) (ab_1 := a7) (cb_1 := c8) hx39
    refine st_call (cx_call hc40 (ent_f hc40.fn rfl) hn0 (show Hp S0 σ0 _ ([Ch.ro 0 (Sl a5 r2.1 c6) r2.1, Ch.ro 0 (Sl a7 r2.2.1 c8) r2.2.1] ++ [Ch.ro 0 (Sl a7 r2.2.1 c8) r2.2.1, Ch.ro 0 (Sl a5 r2.1 c6) r2.1, Ch.ro n0 (Sl a7 r2.2.1 c8) r2.2.1, Ch.ro n0 (Sl a5 r2.1 c6) r2.1, Ch.own n0 n0 (Sl a13 r10 c14) r10]) from (H.sel' [1, 0, 0, 1, 2, 3, 4] rfl rfl))) wn ?_
    rintro _ σ43 ⟨_, ⟨a41, c42, rfl, rfl⟩, H, -⟩
    replace H : Hp S0 σ0 σ43 [Ch.own n0 n0 (Sl a41 r38 c42) r38, Ch.ro 0 (Sl a7 r2.2.1 c8) r2.2.1, Ch.ro 0 (Sl a5 r2.1 c6) r2.1, Ch.ro n0 (Sl a7 r2.2.1 c8) r2.2.1, Ch.ro n0 (Sl a5 r2.1 c6) r2.1, Ch.own n0 n0 (Sl a13 r10 c14) r10] := H
    obtain ⟨σ44, hw45, H, -⟩ := H.pub 5 rfl (Nat.le_refl _)
    rw [← hw45]; clear hw45
    obtain ⟨σ46, hw47, H, -⟩ := H.pub 1 rfl (Nat.le_refl _)
    rw [← hw47]; clear hw47
    replace H := H.roLow 1 0 rfl (Nat.zero_le _)
    replace H := H.roLow 1 0 rfl (Nat.zero_le _)
    obtain ⟨r48, hx49, h'⟩ := bind_some h
    clear h
    have h := h'; clear h'
    have hc50 := c_laws_equalInts (aa_0 := a13) (ca_0 := c14) (ab_1 := a41) (cb_1 := c42) hx49
    refine st_call (cx_call hc50 (ent_f hc50.fn rfl) hn0 (show Hp S0 σ0 _ ([Ch.ro 0 (Sl a13 r10 c14) r10, Ch.ro 0 (Sl a41 r38 c42) r38] ++ [Ch.ro 0 (Sl a41 r38 c42) r38, Ch.ro 0 (Sl a13 r10 c14) r10, Ch.ro n0 (Sl a41 r38 c42) r38, Ch.ro n0 (Sl a13 r10 c14) r10, Ch.ro 0 (Sl a7 r2.2.1 c8) r2.2.1, Ch.ro 0 (Sl a5 r2.1 c6) r2.1, Ch.ro n0 (Sl a7 r2.2.1 c8) r2.2.1, Ch.ro n0 (Sl a5 r2.1 c6) r2.1]) from (H.sel' [1, 0, 0, 1, 2, 3, 4, 5, 6, 7] rfl rfl))) wn ?_
    rintro _ σ51 ⟨_, ⟨rfl, rfl⟩, H, -⟩
    replace H : Hp S0 σ0 σ51 [Ch.ro 0 (Sl a41 r38 c42) r38, Ch.ro 0 (Sl a13 r10 c14) r10, Ch.ro n0 (Sl a41 r38 c42) r38, Ch.ro n0 (Sl a13 r10 c14) r10, Ch.ro 0 (Sl a7 r2.2.1 c8) r2.2.1, Ch.ro 0 (Sl a5 r2.1 c6) r2.1, Ch.ro n0 (Sl a7 r2.2.1 c8) r2.2.1, Ch.ro n0 (Sl a5 r2.1 c6) r2.1] := H
    replace H : Hp S0 σ0 σ51 [] := H.sel' [] rfl rfl
    refine st (v := (B r48)) (rv_assign rfl) ?_
    refine w_end ?_
    refine q_then ?_
    refine c_ret ?_
    refine q_then_r ?_
    obtain rfl := Option.some.inj h
    exact fin_ret (v := (B r48)) (results_ok Try.results12 (res_tmp (v := (B r48)) rfl res_nil) rfl) ⟨rfl, rfl⟩ (H.sel' [] rfl rfl)
   ·replace h := bif_f hb33 h
    refine c_skip ?_
    refine q_then ?_
    refine c_seq ?_
    refine rg ?_
    refine st (v := (Sl a5 r2.1 c6)) (rv_move rfl) ?_
    refine st (v := (Sl a7 r2.2.1 c8)) (rv_move rfl) ?_
    refine st (v := (I r2.2.2)) (rv_move rfl) ?_
    refine st (v := (I (w64 (r2.2.2 + 1)))) (rv_add (a := r2.2.2) (b := 1) rfl rfl) ?_
    obtain ⟨σ52, hw53, H, -⟩ := H.pub 0 rfl (Nat.le_refl _)
    rw [← hw53]; clear hw53
    replace H := H.roLow 0 0 rfl (Nat.zero_le _)
    obtain ⟨r54, hx55, h'⟩ := bind_some h
    clear h
    have h := h'; clear h'
    have hc56 := c_impl_MoveTo (aa_0 := a5) (ca_0 := c6) (ab_1 := a7) (cb_1 := c8) hx55
    have hle := Nat.le_trans hn0 H.size
    refine st_call (cx_lend (Loan.same (Loan.lend Loan.nil)) hc56 (ent_f hc56.fn rfl) (show Hp S0 σ0 _ ([Ch.own n0 n0 (Sl a7 r2.2.1 c8) r2.2.1] ++ ([Ch.ro 0 (Sl a5 r2.1 c6) r2.1] ++ [Ch.ro 0 (Sl a5 r2.1 c6) r2.1, Ch.ro n0 (Sl a5 r2.1 c6) r2.1, Ch.own n0 n0 (Sl a13 r10 c14) r10])) from (H.sel' [2, 0, 0, 1, 3] rfl rfl)) (by rintro _ _ _ ⟨_, _, rfl, rfl, _⟩; exact ⟨Ab.ownSc, trivial⟩)) wn ?_
    rintro _ σ60 ⟨_, ⟨a57, c58, rfl, rfl, ht59⟩, H, -, -⟩
    replace H : Hp S0 σ0 σ60 [Ch.own σ52.size σ52.size (Sl a57 r54 c58) r54, Ch.own n0 n0 (Sl a7 r2.2.1 c8) r2.2.1, Ch.ro 0 (Sl a5 r2.1 c6) r2.1, Ch.ro n0 (Sl a5 r2.1 c6) r2.1, Ch.own n0 n0 (Sl a13 r10 c14) r10] := H
    replace H := H.ownLow 0 n0 n0 rfl hle hle
    clear hle
    replace H : Hp S0 σ0 σ60 [Ch.own n0 n0 (Sl a57 r54 c58) r54, Ch.own n0 n0 (Sl a7 r2.2.1 c8) r2.2.1, Ch.ro 0 (Sl a5 r2.1 c6) r2.1, Ch.ro n0 (Sl a5 r2.1 c6) r2.1, Ch.own n0 n0 (Sl a13 r10 c14) r10] := H
    refine st (v := (Sl a7 r2.2.1 c8)) (rv_move rfl) ?_
    obtain ⟨σ61, hw62, H, -⟩ := H.pub 0 rfl (Nat.le_refl _)
    rw [← hw62]; clear hw62
    replace H := H.roLow 0 0 rfl (Nat.zero_le _)
    obtain ⟨r63, hx64, h'⟩ := bind_some h
    clear h
    have h := h'; clear h'
    have hc65 := c_impl_Distance (aa_1 := a57) (ca_1 := c58) (ab_2 := a7) (cb_2 := c8) hx64
    have hle := Nat.le_trans hn0 H.size
    refine st_call (cx_lend (Loan.same (Loan.lend Loan.nil)) hc65 (ent_f hc65.fn rfl) (show Hp S0 σ0 _ ([Ch.own n0 n0 (Sl a7 r2.2.1 c8) r2.2.1] ++ ([Ch.ro 0 (Sl a57 r54 c58) r54] ++ [Ch.ro 0 (Sl a57 r54 c58) r54, Ch.ro n0 (Sl a57 r54 c58) r54, Ch.ro 0 (Sl a5 r2.1 c6) r2.1, Ch.ro n0 (Sl a5 r2.1 c6) r2.1, Ch.own n0 n0 (Sl a13 r10 c14) r10])) from (H.sel' [2, 0, 0, 1, 3, 4, 5] rfl rfl)) (by rintro _ _ _ ⟨rfl, rfl⟩; exact trivial)) wn ?_
    rintro _ σ66 ⟨_, ⟨rfl, rfl⟩, H, -, -⟩
    replace H : Hp S0 σ0 σ66 [Ch.own n0 n0 (Sl a7 r2.2.1 c8) r2.2.1, Ch.ro 0 (Sl a57 r54 c58) r54, Ch.ro n0 (Sl a57 r54 c58) r54, Ch.ro 0 (Sl a5 r2.1 c6) r2.1, Ch.ro n0 (Sl a5 r2.1 c6) r2.1, Ch.own n0 n0 (Sl a13 r10 c14) r10] := H
    clear hle
    replace H : Hp S0 σ0 σ66 [Ch.own n0 n0 (Sl a7 r2.2.1 c8) r2.2.1, Ch.ro 0 (Sl a57 r54 c58) r54, Ch.ro n0 (Sl a57 r54 c58) r54, Ch.ro 0 (Sl a5 r2.1 c6) r2.1, Ch.ro n0 (Sl a5 r2.1 c6) r2.1, Ch.own n0 n0 (Sl a13 r10 c14) r10] := H
    refine st (v := (Sl a13 r10 c14)) (rv_move rfl) ?_
    refine st (v := (Sl a7 r2.2.1 c8)) (rv_move rfl) ?_
    obtain ⟨σ67, hw68, H, -⟩ := H.pub 5 rfl (Nat.le_refl _)
    rw [← hw68]; clear hw68
    obtain ⟨σ69, hw70, H, -⟩ := H.pub 1 rfl (Nat.le_refl _)
    rw [← hw70]; clear hw70
    replace H := H.roLow 1 0 rfl (Nat.zero_le _)
    replace H := H.roLow 1 0 rfl (Nat.zero_le _)
    obtain ⟨r71, hx72, h'⟩ := bind_some h
    clear h
    have h := h'; clear h'
    have hc73 := c_impl_Distance (aa_1 := a13) (ca_1 := c14) (ab_2 := a7) (cb_2 := c8) hx72
    refine st_call (cx_call hc73 (ent_f hc73.fn rfl) hn0 (show Hp S0 σ0 _ ([Ch.ro 0 (Sl a13 r10 c14) r10, Ch.ro 0 (Sl a7 r2.2.1 c8) r2.2.1] ++ [Ch.ro 0 (Sl a7 r2.2.1 c8) r2.2.1, Ch.ro 0 (Sl a13 r10 c14) r10, Ch.ro n0 (Sl a7 r2.2.1 c8) r2.2.1, Ch.ro n0 (Sl a13 r10 c14) r10, Ch.ro 0 (Sl a57 r54 c58) r54, Ch.ro n0 (Sl a57 r54 c58) r54, Ch.ro 0 (Sl a5 r2.1 c6) r2.1, Ch.ro n0 (Sl a5 r2.1 c6) r2.1]) from (H.sel' [1, 0, 0, 1, 2, 3, 4, 5, 6, 7] rfl rfl))) wn ?_
    rintro _ σ74 ⟨_, ⟨rfl, rfl⟩, H, -⟩
    replace H : Hp S0 σ0 σ74 [Ch.ro 0 (Sl a7 r2.2.1 c8) r2.2.1, Ch.ro 0 (Sl a13 r10 c14) r10, Ch.ro n0 (Sl a7 r2.2.1 c8) r2.2.1, Ch.ro n0 (Sl a13 r10 c14) r10, Ch.ro 0 (Sl a57 r54 c58) r54, Ch.ro n0 (Sl a57 r54 c58) r54, Ch.ro 0 (Sl a5 r2.1 c6) r2.1, Ch.ro n0 (Sl a5 r2.1 c6) r2.1] := H
    replace H : Hp S0 σ0 σ74 [] := H.sel' [] rfl rfl
    refine st (v := (I (w64 (r71 + 1)))) (rv_add (a := r71) (b := 1) rfl rfl) ?_
    refine st (v := (B (decide (r63 ≤ (w64 (r71 + 1)))))) (rv_leq (a := r63) (b := (w64 (r71 + 1))) rfl rfl) ?_
    refine st (v := (B (decide (r63 ≤ (w64 (r71 + 1)))))) (rv_assign rfl) ?_
    refine w_end ?_
    refine q_then ?_
    refine c_ret ?_
    obtain rfl := Option.some.inj h
    exact fin_ret (v := (B (decide (r63 ≤ (w64 (r71 + 1)))))) (results_ok Try.results12 (res_tmp (v := (B (decide (r63 ≤ (w64 (r71 + 1)))))) rfl res_nil) rfl) ⟨rfl, rfl⟩ (H.sel' [] rfl rfl)

end Go.Vs
