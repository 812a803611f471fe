/- The functions compute what their models say. -/
import Derived.Test.YtaknnhnckdifiabAbC3
set_option linter.unusedVariables false
set_option linter.unusedSimpArgs false
set_option maxRecDepth 20000
namespace Go.Vs
open Go Go.Proofs
attribute [local irreducible] Code.wp wpList wpQuiet Calls

theorem c_impl_gapsOf {σ0 : St} {a_0 : List Int} {b_1 : List Int} (hla_0 : a_0.length = 4) (hlb_1 : b_1.length = 4) {r : (List Int)} (h : M.impl_gapsOf a_0 b_1 = some r) :
    Cal Try.prog 63 [(.agg (List.map I a_0).toArray), (.agg (List.map I b_1).toArray)] none σ0 (fun v σ' => v = (.agg (List.map I r).toArray) ∧ r.length = 4) := by
  refine ⟨⟨_, _, Try.func63, rfl, rfl⟩, ?_⟩
  refine enter (n := 29) Try.func63 rfl rfl rfl ?_
  unfold M.impl_gapsOf at h
  have hK : Mod none σ0 σ0 := Mod.refl _ _
  refine c_seq ?_
  refine rg ?_
  refine st_box (cs := (List.map I a_0)) rfl rfl ?_ (wanted_none _ rfl _)
  intro b2 σ4 hbn6 m5 hB1
  have hge3 := Nat.le_trans hK.size (Nat.le_of_eq hbn6)
  replace hK := hK.none m5
  clear hbn6 m5
  refine st_box (cs := (List.map I b_1)) rfl rfl ?_ (wanted_none _ rfl _)
  intro b8 σ10 hbn12 m11 hB7
  have hd13 := hB1.df' hbn12
  have hge9 := Nat.le_trans hK.size (Nat.le_of_eq hbn12)
  replace hB1 := hB1.mod0 m11
  replace hK := hK.none m11
  clear hbn12 m11
  refine st_alloc (cs := (List.map I (List.replicate 4 0))) ti72 rfl ?_ (wanted_none _ rfl _)
  intro b15 σ17 hbn19 m18 hB14
  have hd20 := hB1.df' hbn19
  have hd21 := hB7.df' hbn19
  have hge16 := Nat.le_trans hK.size (Nat.le_of_eq hbn19)
  replace hB1 := hB1.mod0 m18
  replace hB7 := hB7.mod0 m18
  replace hK := hK.none m18
  clear hbn19 m18
  refine w_end ?_
  refine q_then ?_
  refine c_seq ?_
  refine rg ?_
  refine st_alloc (cs := (List.map I (List.replicate 4 0))) ti72 rfl ?_ (wanted_none _ rfl _)
  intro b23 σ25 hbn27 m26 hB22
  have hd28 := hB1.df' hbn27
  have hd29 := hB7.df' hbn27
  have hd30 := hB14.df' hbn27
  have hge24 := Nat.le_trans hK.size (Nat.le_of_eq hbn27)
  replace hB1 := hB1.mod0 m26
  replace hB7 := hB7.mod0 m26
  replace hB14 := hB14.mod0 m26
  replace hK := hK.none m26
  clear hbn27 m26
  refine w_end ?_
  refine q_then ?_
  refine c_seq ?_
  refine c_seq ?_
  refine rg ?_
  refine st (v := (I 0)) (rv_move rfl) ?_
  refine w_end ?_
  refine q_then ?_
  obtain ⟨o31, hj, h'⟩ := bind_some h
  clear h
  refine c_cut (fun e a w => e = .normal ∧ ∃ (ρ : Nat → Value) (σ : St), a = fr 29 (updL ρ [(4, (pt b15 0)), (5, (pt b23 0))]) ∧ w = σ.w ∧ Mod none σ0 σ ∧ Bx σ b15 (List.map I (List.replicate 4 0)) ∧ o31.length = 4 ∧ Bx σ b23 (List.map I o31) ∧ Df (some b23) (some b15)) ?_ ?_
  · clear h'
    rename _ = some o31 => h
    refine c_blk ?_
    refine wp_loopM _ h (fun s32 a w => ∃ (ρ : Nat → Value) (σ : St), a = fr 29 (updL ρ [(2, (pt b2 0)), (3, (pt b8 0)), (4, (pt b15 0)), (5, (pt b23 0)), (7, (I s32.2))]) ∧ w = σ.w ∧ Mod none σ0 σ ∧ Bx σ b2 (List.map I a_0) ∧ Bx σ b8 (List.map I b_1) ∧ Bx σ b15 (List.map I (List.replicate 4 0)) ∧ s32.1.length = 4 ∧ Bx σ b23 (List.map I s32.1) ∧ Df (some b8) (some b2) ∧ Df (some b15) (some b2) ∧ Df (some b15) (some b8) ∧ Df (some b23) (some b2) ∧ Df (some b23) (some b8) ∧ Df (some b23) (some b15)) ⟨_, σ25, fr_join ⟨rfl, rfl, rfl, rfl, rfl, trivial⟩, rfl, hK, hB1, hB7, hB14, rfl, hB22, (hd13).symm, (hd20).symm, (hd21).symm, (hd28).symm, (hd29).symm, (hd30).symm⟩ ?_
    clear h
    rintro s32 a w o ⟨ρ, σ34, rfl, rfl, hK, hB35, hB36, hB37, hl38, hB39, hd40, hd41, hd42, hd43, hd44, hd45⟩ h hres
    refine c_seq ?_
    refine rg ?_
    refine st (v := (B (decide (s32.2 < 4)))) (rv_lss (a := s32.2) (b := 4) rfl rfl) ?_
    refine w_end ?_
    refine q_then ?_
    refine c_seq ?_
    refine cd_cond (decide (s32.2 < 4)) rfl (fun hb46 => ?_) (fun hb46 => ?_)
    · replace h := bif_t hb46 h
      refine c_skip ?_
      refine q_then ?_
      refine c_seq ?_
      refine c_blk ?_
      refine c_seq ?_
      refine rg ?_
      refine st (v := (I s32.2)) (rv_move rfl) ?_
      refine st (v := (I s32.2)) (rv_assign rfl) ?_
      refine w_end ?_
      refine q_then ?_
      obtain ⟨x47, hx48, h'⟩ := bind_some h
      clear h
      have h := h'; clear h'
      have hl49 := gidx_lt hx48 hla_0
      obtain ⟨x50, hx51, h'⟩ := bind_some h
      clear h
      have h := h'; clear h'
      have hl52 := gidx_lt hx51 hlb_1
      obtain ⟨x53, hx54, h'⟩ := bind_some h
      clear h
      have h := h'; clear h'
      have hl55 := gidx_lt hx54 hlb_1
      obtain ⟨x56, hx57, h'⟩ := bind_some h
      clear h
      have h := h'; clear h'
      have hl58 := gidx_lt hx57 hla_0
      refine rg_monoL (σ := σ34) 16 [eqv (I s32.2), eqv (I s32.2), eqv (pt b2 (0 + s32.2.toNat * 1)), eqv (I x47), eqv (I s32.2), eqv (pt b8 (0 + s32.2.toNat * 1)), eqv (I x50), eqv (I (w64 (x47 - x50))), eqv (I s32.2), eqv (pt b8 (0 + s32.2.toNat * 1)), eqv (I x53), eqv (I s32.2), eqv (pt b2 (0 + s32.2.toNat * 1)), eqv (I x56), eqv (I (w64 (x53 - x56))), eqv (I (max (w64 (x47 - x50)) (w64 (x53 - x56))))] (by kernel_rfl) (by kernel_rfl) (mono_cons mono_eqv (mono_cons mono_eqv (mono_cons mono_eqv (mono_cons mono_eqv (mono_cons mono_eqv (mono_cons mono_eqv (mono_cons mono_eqv (mono_cons mono_eqv (mono_cons mono_eqv (mono_cons mono_eqv (mono_cons mono_eqv (mono_cons mono_eqv (mono_cons mono_eqv (mono_cons mono_eqv (mono_cons mono_eqv (mono_cons mono_eqv (mono_nil))))))))))))))))) ?_ ?_
      · refine all_cons (by
            intro ρ σm m hoff hdep
            have e6 : look 29 ρ 6 = (I s32.2) := look_off (hoff 6 rfl) rfl
            exact does_v (v := (I s32.2)) (wanted_none _ rfl _) (rv_move e6) rfl) ?_
        refine all_cons (by
            intro ρ σm m hoff hdep
            have e6 : look 29 ρ 6 = (I s32.2) := look_off (hoff 6 rfl) rfl
            exact does_v (v := (I s32.2)) (wanted_none _ rfl _) (rv_move e6) rfl) ?_
        refine all_cons (by
            intro ρ σm m hoff hdep
            have e2 : look 29 ρ 2 = (pt b2 0) := look_off (hoff 2 rfl) rfl
            have e11 : look 29 ρ 11 = (I s32.2) := hdep 1 rfl rfl 11 rfl
            exact does_v (v := (pt b2 (0 + s32.2.toNat * 1))) (wanted_none _ rfl _) (rv_indexAddr_array Try.underlying72 ti3 e2 e11 hl49.1 hl49.2) rfl) ?_
        refine all_cons (by
            intro ρ σm m hoff hdep
            have e12 : look 29 ρ 12 = (pt b2 (0 + s32.2.toNat * 1)) := hdep 2 rfl rfl 12 rfl
            replace hB35 := hB35.mod0 m
            exact does_v (v := (I x47)) (wanted_none _ rfl _) (rv_load1 Try.underlying3 rfl e12 (hB35.arr hx48)) rfl) ?_
        refine all_cons (by
            intro ρ σm m hoff hdep
            have e6 : look 29 ρ 6 = (I s32.2) := look_off (hoff 6 rfl) rfl
            exact does_v (v := (I s32.2)) (wanted_none _ rfl _) (rv_move e6) rfl) ?_
        refine all_cons (by
            intro ρ σm m hoff hdep
            have e3 : look 29 ρ 3 = (pt b8 0) := look_off (hoff 3 rfl) rfl
            have e14 : look 29 ρ 14 = (I s32.2) := hdep 4 rfl rfl 14 rfl
            exact does_v (v := (pt b8 (0 + s32.2.toNat * 1))) (wanted_none _ rfl _) (rv_indexAddr_array Try.underlying72 ti3 e3 e14 hl52.1 hl52.2) rfl) ?_
        refine all_cons (by
            intro ρ σm m hoff hdep
            have e15 : look 29 ρ 15 = (pt b8 (0 + s32.2.toNat * 1)) := hdep 5 rfl rfl 15 rfl
            replace hB36 := hB36.mod0 m
            exact does_v (v := (I x50)) (wanted_none _ rfl _) (rv_load1 Try.underlying3 rfl e15 (hB36.arr hx51)) rfl) ?_
        refine all_cons (by
            intro ρ σm m hoff hdep
            have e13 : look 29 ρ 13 = (I x47) := hdep 3 rfl rfl 13 rfl
            have e16 : look 29 ρ 16 = (I x50) := hdep 6 rfl rfl 16 rfl
            exact does_v (v := (I (w64 (x47 - x50)))) (wanted_none _ rfl _) (rv_sub (a := x47) (b := x50) e13 e16) rfl) ?_
        refine all_cons (by
            intro ρ σm m hoff hdep
            have e6 : look 29 ρ 6 = (I s32.2) := look_off (hoff 6 rfl) rfl
            exact does_v (v := (I s32.2)) (wanted_none _ rfl _) (rv_move e6) rfl) ?_
        refine all_cons (by
            intro ρ σm m hoff hdep
            have e3 : look 29 ρ 3 = (pt b8 0) := look_off (hoff 3 rfl) rfl
            have e18 : look 29 ρ 18 = (I s32.2) := hdep 8 rfl rfl 18 rfl
            exact does_v (v := (pt b8 (0 + s32.2.toNat * 1))) (wanted_none _ rfl _) (rv_indexAddr_array Try.underlying72 ti3 e3 e18 hl55.1 hl55.2) rfl) ?_
        refine all_cons (by
            intro ρ σm m hoff hdep
            have e19 : look 29 ρ 19 = (pt b8 (0 + s32.2.toNat * 1)) := hdep 9 rfl rfl 19 rfl
            replace hB36 := hB36.mod0 m
            exact does_v (v := (I x53)) (wanted_none _ rfl _) (rv_load1 Try.underlying3 rfl e19 (hB36.arr hx54)) rfl) ?_
        refine all_cons (by
            intro ρ σm m hoff hdep
            have e6 : look 29 ρ 6 = (I s32.2) := look_off (hoff 6 rfl) rfl
            exact does_v (v := (I s32.2)) (wanted_none _ rfl _) (rv_move e6) rfl) ?_
        refine all_cons (by
            intro ρ σm m hoff hdep
            have e2 : look 29 ρ 2 = (pt b2 0) := look_off (hoff 2 rfl) rfl
            have e21 : look 29 ρ 21 = (I s32.2) := hdep 11 rfl rfl 21 rfl
            exact does_v (v := (pt b2 (0 + s32.2.toNat * 1))) (wanted_none _ rfl _) (rv_indexAddr_array Try.underlying72 ti3 e2 e21 hl58.1 hl58.2) rfl) ?_
        refine all_cons (by
            intro ρ σm m hoff hdep
            have e22 : look 29 ρ 22 = (pt b2 (0 + s32.2.toNat * 1)) := hdep 12 rfl rfl 22 rfl
            replace hB35 := hB35.mod0 m
            exact does_v (v := (I x56)) (wanted_none _ rfl _) (rv_load1 Try.underlying3 rfl e22 (hB35.arr hx57)) rfl) ?_
        refine all_cons (by
            intro ρ σm m hoff hdep
            have e20 : look 29 ρ 20 = (I x53) := hdep 10 rfl rfl 20 rfl
            have e23 : look 29 ρ 23 = (I x56) := hdep 13 rfl rfl 23 rfl
            exact does_v (v := (I (w64 (x53 - x56)))) (wanted_none _ rfl _) (rv_sub (a := x53) (b := x56) e20 e23) rfl) ?_
        refine all_cons (by
            intro ρ σm m hoff hdep
            have e17 : look 29 ρ 17 = (I (w64 (x47 - x50))) := hdep 7 rfl rfl 17 rfl
            have e24 : look 29 ρ 24 = (I (w64 (x53 - x56))) := hdep 14 rfl rfl 24 rfl
            exact does_v (v := (I (max (w64 (x47 - x50)) (w64 (x53 - x56))))) (wanted_none _ rfl _) (rv_max e17 e24) rfl) ?_
        exact all_nil
      · intro ρ σ59 m hoff hrel
        have e2 : look 29 ρ 2 = (pt b2 0) := look_off (hoff 2 rfl) rfl
        have e3 : look 29 ρ 3 = (pt b8 0) := look_off (hoff 3 rfl) rfl
        have e4 : look 29 ρ 4 = (pt b15 0) := look_off (hoff 4 rfl) rfl
        have e5 : look 29 ρ 5 = (pt b23 0) := look_off (hoff 5 rfl) rfl
        have e7 : look 29 ρ 7 = (I s32.2) := look_off (hoff 7 rfl) rfl
        have e10 : look 29 ρ 10 = (I s32.2) := hrel 0 rfl 10 rfl
        have e25 : look 29 ρ 25 = (I (max (w64 (x47 - x50)) (w64 (x53 - x56)))) := hrel 15 rfl 25 rfl
        replace hB35 := hB35.mod0 m
        replace hB36 := hB36.mod0 m
        replace hB37 := hB37.mod0 m
        replace hB39 := hB39.mod0 m
        replace hK := hK.none m
        rw [fr_lookL (L := [(2, (pt b2 0)), (3, (pt b8 0)), (4, (pt b15 0)), (5, (pt b23 0)), (7, (I s32.2)), (10, (I s32.2)), (25, (I (max (w64 (x47 - x50)) (w64 (x53 - x56)))))]) ⟨e2, e3, e4, e5, e7, e10, e25, trivial⟩]
        clear hoff hrel m e2 e3 e4 e5 e7 e10 e25
        obtain ⟨x60, hx61, h'⟩ := bind_some h
        clear h
        have h := h'; clear h'
        have hl62 := gidx_lt hx61 hl38
        refine st (v := (pt b23 (0 + s32.2.toNat * 1))) (rv_indexAddr_array Try.underlying72 ti3 rfl rfl hl62.1 hl62.2) ?_
        have hl67 := gidx_lt hx61 hl38
        refine st_store_box (vs := [(I (max (w64 (x47 - x50)) (w64 (x53 - x56))))]) ti3 hB39 rfl rfl rfl rfl (by rw [List.length_map, hl38]; simp; omega) (by simp [plain]) ?_
        intro σ63 m64 hB66 hs65; clear hs65
        replace hB35 := hB35.mod' m64 (hd43).symm
        replace hB36 := hB36.mod' m64 (hd44).symm
        replace hB37 := hB37.mod' m64 (hd45).symm
        replace hK := hK.some m64 hge24
        replace hB66 := Bx.cast (cs' := (List.map I (s32.1.set s32.2.toNat (max (w64 (x47 - x50)) (w64 (x53 - x56)))))) hB66 (arr_set _ _ _)
        clear hB39
        refine w_end ?_
        refine q_blk ?_
        refine q_then ?_
        refine rg ?_
        refine st (v := (I (w64 (s32.2 + 1)))) (rv_add (a := s32.2) (b := 1) rfl rfl) ?_
        refine st (v := (I (w64 (s32.2 + 1)))) (rv_move rfl) ?_
        refine w_end ?_
        refine q_then ?_
        obtain rfl := Option.some.inj h
        exact ⟨_, rfl, _, σ63, fr_join ⟨rfl, rfl, rfl, rfl, rfl, trivial⟩, rfl, hK, hB35, hB36, hB37, (set_len hl38), hB66, hd40, hd41, hd42, hd43, hd44, hd45⟩
    · replace h := bif_f hb46 h
      refine c_exit ?_
      refine q_then_x ?_
      refine q_then_x ?_
      refine q_blk_hit ?_
      obtain rfl := Option.some.inj h
      obtain rfl := hres _ rfl
      exact ⟨rfl, _, σ34, fr_join ⟨rfl, rfl, trivial⟩, rfl, hK, hB37, hl38, hB39, hd45⟩
  · clear hj
    have h := h'
    clear h'
    rintro e a w ⟨rfl, ρ, σ68, rfl, rfl, hK, hB69, hl70, hB71, hd72⟩
    refine q_then ?_
    refine c_seq ?_
    refine rg ?_
    refine st (v := (.agg (List.map I o31).toArray)) (rv_load (cs := (List.map I o31)) Try.underlying72 rfl ti72 rfl (by rw [List.length_map]; exact hl70) hB71.all) ?_
    refine st_store_box (cs := (List.map I (List.replicate 4 0))) (vs := (List.map I o31)) ti72 hB69 rfl rfl rfl (by rw [List.length_map]; exact hl70) (arr_fits hl70 rfl) (by simp [plain]) ?_
    intro σ73 m74 hB76 hs75; clear hs75
    replace hK := hK.some m74 hge16
    replace hB76 := Bx.cast (cs' := (List.map I o31)) hB76 (arr_all hl70 rfl)
    clear hB69
    refine w_end ?_
    refine q_then ?_
    refine c_ret ?_
    obtain rfl := Option.some.inj h
    exact bodyPost_ret (v := (.agg (List.map I o31).toArray)) (results_cell (cs := (List.map I o31)) Try.results63 Try.underlying72 rfl ti72 rfl (by rw [List.length_map]; exact hl70) hB76) rfl ⟨_, σ73, rfl, rfl, hK, rfl, hl70⟩

theorem c_impl_Distance {σ0 : St} {kind_0 : Int} {a_1 : List Int} {b_2 : List Int} {aa_1 : Option Addr} {ca_1 : Nat} (hRa_1 : RS 0 σ0 (Sl aa_1 a_1 ca_1) a_1) {ab_2 : Option Addr} {cb_2 : Nat} (hRb_2 : RS 0 σ0 (Sl ab_2 b_2 cb_2) b_2) {r : Int} (h : M.impl_Distance kind_0 a_1 b_2 = some r) :
    Cal Try.prog 32 [(I kind_0), (Sl aa_1 a_1 ca_1), (Sl ab_2 b_2 cb_2)] none σ0 (fun v σ' => v = (I r)) := by
  refine ⟨⟨_, _, Try.func32, rfl, rfl⟩, ?_⟩
  refine enter (n := 24) Try.func32 rfl rfl rfl ?_
  unfold M.impl_Distance at h
  have hK : Mod none σ0 σ0 := Mod.refl _ _
  refine c_seq ?_
  refine rg ?_
  refine st (v := (I 0)) (rv_assign rfl) ?_
  refine w_end ?_
  refine q_then ?_
  refine c_seq ?_
  refine c_seq ?_
  obtain ⟨o1, hj, h'⟩ := bind_some h
  clear h
  refine c_cut (fun e a w => e = .normal ∧ ∃ (ρ : Nat → Value) (σ : St), a = fr 24 (updL ρ [(0, (I kind_0)), (1, (Sl aa_1 a_1 ca_1)), (2, (Sl ab_2 b_2 cb_2)), (14, (B o1))]) ∧ w = σ.w ∧ Mod none σ0 σ ∧ RS 0 σ (Sl aa_1 a_1 ca_1) a_1 ∧ RS 0 σ (Sl ab_2 b_2 cb_2) b_2) ?_ ?_
  · clear h'
    rename _ = some o1 => h
    refine rg ?_
    refine st (v := (Sl aa_1 a_1 ca_1)) (rv_move rfl) ?_
    obtain ⟨r2, hx3, h'⟩ := bind_some h
    clear h
    have h := h'; clear h'
    refine st_call (c_impl_ValidVector hRa_1 hx3) rfl ?_
    have hKs := hK.size
    rintro _ σ4 m5 rfl
    replace hRa_1 := hRa_1.mod m5
    replace hRb_2 := hRb_2.mod m5
    replace hK := hK.none m5
    clear hKs m5
    refine st (v := (B (!r2))) (rv_not rfl) ?_
    refine st (v := (B (!r2))) (rv_move rfl) ?_
    rcases Bool.eq_false_or_eq_true (!r2) with hb6 | hb6
    · replace h := bif_t hb6 h
      refine st_skip (congrArg some hb6) ?_
      refine st_skip (congrArg some hb6) ?_
      refine st_skip (congrArg some hb6) ?_
      refine st (v := (B true)) (rv_pick_t (congrArg B hb6) rfl) ?_
      refine w_end ?_
      obtain rfl := Option.some.inj h
      exact ⟨rfl, _, σ4, fr_join ⟨rfl, rfl, rfl, rfl, trivial⟩, rfl, hK, hRa_1, hRb_2⟩
    · replace h := bif_f hb6 h
      refine st_g (v := (Sl ab_2 b_2 cb_2)) (congrArg some hb6) (rv_move rfl) ?_
      obtain ⟨r7, hx8, h'⟩ := bind_some h
      clear h
      have h := h'; clear h'
      refine st_call_g (by exact (congrArg some hb6)) (c_impl_ValidVector hRb_2 hx8) rfl ?_
      have hKs := hK.size
      rintro _ σ9 m10 rfl
      replace hRa_1 := hRa_1.mod m10
      replace hRb_2 := hRb_2.mod m10
      replace hK := hK.none m10
      clear hKs m10
      refine st_g (v := (B (!r7))) (congrArg some hb6) (rv_not rfl) ?_
      refine st (v := (B (!r7))) (rv_pick_f (congrArg B hb6) rfl) ?_
      refine w_end ?_
      obtain rfl := Option.some.inj h
      exact ⟨rfl, _, σ9, fr_join ⟨rfl, rfl, rfl, rfl, trivial⟩, rfl, hK, hRa_1, hRb_2⟩
  · clear hj
    have h := h'
    clear h'
    rintro e a w ⟨rfl, ρ, σ11, rfl, rfl, hK, hR12, hR13⟩
    refine q_then ?_
    refine cd_cond o1 rfl (fun hb14 => ?_) (fun hb14 => ?_)
    · replace h := bif_t hb14 h
      refine c_seq ?_
      refine rg ?_
      refine st (v := (I (-1))) (rv_assign rfl) ?_
      refine w_end ?_
      refine q_then ?_
      refine c_ret ?_
      refine q_then_r ?_
      obtain rfl := Option.some.inj h
      exact bodyPost_ret (v := (I (-1))) (results_fr1 Try.results32 rfl _) rfl ⟨_, σ11, rfl, rfl, hK, rfl⟩
    · replace h := bif_f hb14 h
      refine c_skip ?_
      refine q_then ?_
      refine c_seq ?_
      obtain ⟨xs15, hx16, h'⟩ := bind_some h
      clear h
      have h := h'; clear h'
      obtain ⟨hl20, hq21⟩ := garr_some hx16
      clear hx16 hq21
      obtain ⟨b17, o18, rfl, hc19⟩ := hR12.arr (Nat.lt_of_lt_of_le (by decide) hl20)
      obtain ⟨xs22, hx23, h'⟩ := bind_some h
      clear h
      have h := h'; clear h'
      obtain ⟨hl27, hq28⟩ := garr_some hx23
      clear hx23 hq28
      obtain ⟨b24, o25, rfl, hc26⟩ := hR13.arr (Nat.lt_of_lt_of_le (by decide) hl27)
      obtain ⟨r29, hx30, h'⟩ := bind_some h
      clear h
      have h := h'; clear h'
      refine rg_monoL (σ := σ11) 8 [eqv (I kind_0), eqv (Sl (some ⟨b17, o18, none⟩) a_1 ca_1), eqv (.pointer (some ⟨b17, o18, none⟩)), eqv (.agg (List.map I (List.take 4 a_1)).toArray), eqv (Sl (some ⟨b24, o25, none⟩) b_2 cb_2), eqv (.pointer (some ⟨b24, o25, none⟩)), eqv (.agg (List.map I (List.take 4 b_2)).toArray), (fun v σ => v = (.agg (List.map I r29).toArray) ∧ r29.length = 4)] (by kernel_rfl) (by kernel_rfl) (mono_cons mono_eqv (mono_cons mono_eqv (mono_cons mono_eqv (mono_cons mono_eqv (mono_cons mono_eqv (mono_cons mono_eqv (mono_cons mono_eqv (mono_cons (fun _ _ _ ⟨h0, hl31⟩ m => ⟨h0, hl31⟩) (mono_nil))))))))) ?_ ?_
      · refine all_cons (by
            intro ρ σm m hoff hdep
            have e0 : look 24 ρ 0 = (I kind_0) := look_off (hoff 0 rfl) rfl
            exact does_v (v := (I kind_0)) (wanted_none _ rfl _) (rv_move e0) rfl) ?_
        refine all_cons (by
            intro ρ σm m hoff hdep
            have e1 : look 24 ρ 1 = (Sl (some ⟨b17, o18, none⟩) a_1 ca_1) := look_off (hoff 1 rfl) rfl
            exact does_v (v := (Sl (some ⟨b17, o18, none⟩) a_1 ca_1)) (wanted_none _ rfl _) (rv_move e1) rfl) ?_
        refine all_cons (by
            intro ρ σm m hoff hdep
            have e16 : look 24 ρ 16 = (Sl (some ⟨b17, o18, none⟩) a_1 ca_1) := hdep 1 rfl rfl 16 rfl
            exact does_v (v := (.pointer (some ⟨b17, o18, none⟩))) (wanted_none _ rfl _) (rv_arrPtr Try.underlying72 e16 hl20) rfl) ?_
        refine all_cons (by
            intro ρ σm m hoff hdep
            have e17 : look 24 ρ 17 = (.pointer (some ⟨b17, o18, none⟩)) := hdep 2 rfl rfl 17 rfl
            replace hc19 := hR12.arr_mod hc19 m
            exact does_v (v := (.agg (List.map I (List.take 4 a_1)).toArray)) (wanted_none _ rfl _) (rv_load (cs := List.map I (List.take 4 a_1)) Try.underlying72 rfl ti72 e17 (by rw [List.length_map, List.length_take]; have := hl20; omega) (arr_take hc19)) rfl) ?_
        refine all_cons (by
            intro ρ σm m hoff hdep
            have e2 : look 24 ρ 2 = (Sl (some ⟨b24, o25, none⟩) b_2 cb_2) := look_off (hoff 2 rfl) rfl
            exact does_v (v := (Sl (some ⟨b24, o25, none⟩) b_2 cb_2)) (wanted_none _ rfl _) (rv_move e2) rfl) ?_
        refine all_cons (by
            intro ρ σm m hoff hdep
            have e19 : look 24 ρ 19 = (Sl (some ⟨b24, o25, none⟩) b_2 cb_2) := hdep 4 rfl rfl 19 rfl
            exact does_v (v := (.pointer (some ⟨b24, o25, none⟩))) (wanted_none _ rfl _) (rv_arrPtr Try.underlying72 e19 hl27) rfl) ?_
        refine all_cons (by
            intro ρ σm m hoff hdep
            have e20 : look 24 ρ 20 = (.pointer (some ⟨b24, o25, none⟩)) := hdep 5 rfl rfl 20 rfl
            replace hc26 := hR13.arr_mod hc26 m
            exact does_v (v := (.agg (List.map I (List.take 4 b_2)).toArray)) (wanted_none _ rfl _) (rv_load (cs := List.map I (List.take 4 b_2)) Try.underlying72 rfl ti72 e20 (by rw [List.length_map, List.length_take]; have := hl27; omega) (arr_take hc26)) rfl) ?_
        refine all_cons (by
            intro ρ σm m hoff hdep
            have e18 : look 24 ρ 18 = (.agg (List.map I (List.take 4 a_1)).toArray) := hdep 3 rfl rfl 18 rfl
            have e21 : look 24 ρ 21 = (.agg (List.map I (List.take 4 b_2)).toArray) := hdep 6 rfl rfl 21 rfl
            have hKs : σ11.size ≤ σm.size := m.size
            exact does_call (wanted_none _ rfl _) (c_impl_gapsOf (by rw [List.length_take]; have := hl20; omega) (by rw [List.length_take]; have := hl27; omega) hx30) (by show [look 24 ρ 18, look 24 ρ 21] = _; rw [e18, e21]) (by rintro v σ2 m2 ⟨rfl, hl31⟩; exact ⟨rfl, hl31⟩)) ?_
        exact all_nil
      · intro ρ σ32 m hoff hrel
        have e15 : look 24 ρ 15 = (I kind_0) := hrel 0 rfl 15 rfl
        obtain ⟨e22, hl31⟩ := hrel 7 rfl 22 rfl
        replace hK := hK.none m
        rw [fr_lookL (L := [(15, (I kind_0)), (22, (.agg (List.map I r29).toArray))]) ⟨e15, e22, trivial⟩]
        clear hoff hrel m e15 e22
        obtain ⟨r33, hx34, h'⟩ := bind_some h
        clear h
        have h := h'; clear h'
        refine st_call (c_impl_distanceOf hl31 hx34) rfl ?_
        have hKs := hK.size
        rintro _ σ35 m36 rfl
        replace hK := hK.none m36
        clear hKs m36
        refine st (v := (I r33)) (rv_assign rfl) ?_
        refine w_end ?_
        refine q_then ?_
        refine c_ret ?_
        obtain rfl := Option.some.inj h
        exact bodyPost_ret (v := (I r33)) (results_fr1 Try.results32 rfl _) rfl ⟨_, σ35, rfl, rfl, hK, rfl⟩

theorem c_spec_validKind {σ0 : St} {kind_0 : Int}  {r : Bool} (h : M.spec_validKind kind_0 = some r) :
    Cal Try.prog 64 [(I kind_0)] none σ0 (fun v σ' => v = (B r)) := by
  refine ⟨⟨_, _, Try.func64, rfl, rfl⟩, ?_⟩
  refine enter (n := 5) Try.func64 rfl rfl rfl ?_
  unfold M.spec_validKind at h
  have hK : Mod none σ0 σ0 := Mod.refl _ _
  refine c_seq ?_
  refine rg ?_
  refine st (v := (B false)) (rv_assign rfl) ?_
  refine w_end ?_
  refine q_then ?_
  refine c_seq ?_
  refine rg ?_
  refine st (v := (I kind_0)) (rv_move rfl) ?_
  obtain ⟨r1, hx2, h'⟩ := bind_some h
  clear h
  have h := h'; clear h'
  refine st_call (c_spec_inRange  hx2) rfl ?_
  have hKs := hK.size
  rintro _ σ3 m4 rfl
  replace hK := hK.none m4
  clear hKs m4
  refine st (v := (B r1)) (rv_assign rfl) ?_
  refine w_end ?_
  refine q_then ?_
  refine c_ret ?_
  obtain rfl := Option.some.inj h
  exact bodyPost_ret (v := (B r1)) (results_fr1 Try.results64 rfl _) rfl ⟨_, σ3, rfl, rfl, hK, rfl⟩

theorem c_spec_size {σ0 : St} {n_0 : Int}  {r : Int} (h : M.spec_size n_0 = some r) :
    Cal Try.prog 85 [(I n_0)] none σ0 (fun v σ' => v = (I r)) := by
  refine ⟨⟨_, _, Try.func85, rfl, rfl⟩, ?_⟩
  refine enter (n := 7) Try.func85 rfl rfl rfl ?_
  unfold M.spec_size at h
  have hK : Mod none σ0 σ0 := Mod.refl _ _
  refine c_seq ?_
  refine rg ?_
  refine st (v := (I 0)) (rv_assign rfl) ?_
  refine w_end ?_
  refine q_then ?_
  refine c_seq ?_
  refine rg ?_
  refine st (v := (I n_0)) (rv_move rfl) ?_
  refine st (v := (I n_0)) (rv_move rfl) ?_
  refine st (v := (I (w64 (0 - n_0)))) (rv_neg (a := n_0) rfl) ?_
  refine st (v := (I (max n_0 (w64 (0 - n_0))))) (rv_max rfl rfl) ?_
  refine st (v := (I (max n_0 (w64 (0 - n_0))))) (rv_assign rfl) ?_
  refine w_end ?_
  refine q_then ?_
  refine c_ret ?_
  obtain rfl := Option.some.inj h
  exact bodyPost_ret (v := (I (max n_0 (w64 (0 - n_0))))) (results_fr1 Try.results85 rfl _) rfl ⟨_, σ0, rfl, rfl, hK, rfl⟩

theorem c_spec_toInt {σ0 : St} {b_0 : Bool}  {r : Int} (h : M.spec_toInt b_0 = some r) :
    Cal Try.prog 86 [(B b_0)] none σ0 (fun v σ' => v = (I r)) := by
  refine ⟨⟨_, _, Try.func86, rfl, rfl⟩, ?_⟩
  refine enter (n := 4) Try.func86 rfl rfl rfl ?_
  unfold M.spec_toInt at h
  have hK : Mod none σ0 σ0 := Mod.refl _ _
  refine c_seq ?_
  refine rg ?_
  refine st (v := (I 0)) (rv_assign rfl) ?_
  refine w_end ?_
  refine q_then ?_
  refine c_seq ?_
  refine c_seq ?_
  refine rg ?_
  refine st (v := (B b_0)) (rv_move rfl) ?_
  refine w_end ?_
  refine q_then ?_
  refine cd_cond b_0 rfl (fun hb1 => ?_) (fun hb1 => ?_)
  · replace h := bif_t hb1 h
    refine c_seq ?_
    refine rg ?_
    refine st (v := (I 1)) (rv_assign rfl) ?_
    refine w_end ?_
    refine q_then ?_
    refine c_ret ?_
    refine q_then_r ?_
    obtain rfl := Option.some.inj h
    exact bodyPost_ret (v := (I 1)) (results_fr1 Try.results86 rfl _) rfl ⟨_, σ0, rfl, rfl, hK, rfl⟩
  · replace h := bif_f hb1 h
    refine c_skip ?_
    refine q_then ?_
    refine c_seq ?_
    refine rg ?_
    refine st (v := (I 0)) (rv_assign rfl) ?_
    refine w_end ?_
    refine q_then ?_
    refine c_ret ?_
    obtain rfl := Option.some.inj h
    exact bodyPost_ret (v := (I 0)) (results_fr1 Try.results86 rfl _) rfl ⟨_, σ0, rfl, rfl, hK, rfl⟩

theorem c_spec_dist {σ0 : St} {kind_0 : Int} {a_1 : List Int} {b_2 : List Int} {aa_1 : Option Addr} {ca_1 : Nat} (hRa_1 : RS 0 σ0 (Sl aa_1 a_1 ca_1) a_1) {ab_2 : Option Addr} {cb_2 : Nat} (hRb_2 : RS 0 σ0 (Sl ab_2 b_2 cb_2) b_2) {r : Int} (h : M.spec_dist kind_0 a_1 b_2 = some r) :
    Cal Try.prog 66 [(I kind_0), (Sl aa_1 a_1 ca_1), (Sl ab_2 b_2 cb_2)] none σ0 (fun v σ' => v = (I r)) := by
  refine ⟨⟨_, _, Try.func66, rfl, rfl⟩, ?_⟩
  refine enter (n := 50) Try.func66 rfl rfl rfl ?_
  unfold M.spec_dist at h
  have hK : Mod none σ0 σ0 := Mod.refl _ _
  refine c_seq ?_
  refine rg ?_
  refine st (v := (I 0)) (rv_assign rfl) ?_
  refine w_end ?_
  refine q_then ?_
  refine c_seq ?_
  refine rg ?_
  refine st (v := (I 0)) (rv_assign rfl) ?_
  refine w_end ?_
  refine q_then ?_
  refine c_seq ?_
  refine c_seq ?_
  refine rg ?_
  refine st (v := (I 0)) (rv_assign rfl) ?_
  refine w_end ?_
  refine q_then ?_
  obtain ⟨o1, hj, h'⟩ := bind_some h
  clear h
  refine c_cut (fun e a w => e = .normal ∧ ∃ (ρ : Nat → Value) (σ : St), a = fr 50 (updL ρ [(7, (I o1))]) ∧ w = σ.w ∧ Mod none σ0 σ) ?_ ?_
  · clear h'
    rename _ = some o1 => h
    refine c_blk ?_
    refine wp_loopM _ h (fun s2 a w => ∃ (ρ : Nat → Value) (σ : St), a = fr 50 (updL ρ [(0, (I kind_0)), (1, (Sl aa_1 a_1 ca_1)), (2, (Sl ab_2 b_2 cb_2)), (7, (I s2.1)), (8, (I s2.2))]) ∧ w = σ.w ∧ Mod none σ0 σ ∧ RS 0 σ (Sl aa_1 a_1 ca_1) a_1 ∧ RS 0 σ (Sl ab_2 b_2 cb_2) b_2) ⟨_, σ0, fr_join ⟨rfl, rfl, rfl, rfl, rfl, trivial⟩, rfl, hK, hRa_1, hRb_2⟩ ?_
    clear h
    rintro s2 a w o ⟨ρ, σ4, rfl, rfl, hK, hR5, hR6⟩ h hres
    refine c_seq ?_
    refine c_seq ?_
    refine rg ?_
    refine st (v := (I s2.2)) (rv_move rfl) ?_
    refine st (v := (Sl aa_1 a_1 ca_1)) (rv_move rfl) ?_
    refine st (v := (I (a_1.length : Int))) (rv_len Try.underlying24 rfl) ?_
    refine st (v := (B (decide (s2.2 < (a_1.length : Int))))) (rv_lss (a := s2.2) (b := (a_1.length : Int)) rfl rfl) ?_
    refine w_end ?_
    refine q_then ?_
    refine cd_cond (decide (s2.2 < (a_1.length : Int))) rfl (fun hb7 => ?_) (fun hb7 => ?_)
    · replace h := bif_t hb7 h
      refine c_skip ?_
      refine q_then ?_
      refine c_seq ?_
      obtain ⟨o8, hj, h'⟩ := bind_some h
      clear h
      refine c_cut (fun e a w => e = .normal ∧ ∃ (ρ : Nat → Value) (σ : St), a = fr 50 (updL ρ [(0, (I kind_0)), (1, (Sl aa_1 a_1 ca_1)), (2, (Sl ab_2 b_2 cb_2)), (7, (I o8)), (8, (I s2.2))]) ∧ w = σ.w ∧ Mod none σ0 σ ∧ RS 0 σ (Sl aa_1 a_1 ca_1) a_1 ∧ RS 0 σ (Sl ab_2 b_2 cb_2) b_2) ?_ ?_
      · clear h'
        rename _ = some o8 => h
        refine c_blk ?_
        refine c_seq ?_
        obtain ⟨x9, hx10, h'⟩ := bind_some h
        clear h
        have h := h'; clear h'
        obtain ⟨b12, o13, hi11, -⟩ := hR5.ix hx10
        obtain ⟨x14, hx15, h'⟩ := bind_some h
        clear h
        have h := h'; clear h'
        obtain ⟨b17, o18, hi16, -⟩ := hR6.ix hx15
        refine rg_monoL (σ := σ4) 8 [eqv (Sl aa_1 a_1 ca_1), eqv (I s2.2), eqv (pt b12 o13), eqv (I x9), eqv (Sl ab_2 b_2 cb_2), eqv (I s2.2), eqv (pt b17 o18), eqv (I x14)] (by kernel_rfl) (by kernel_rfl) (mono_cons mono_eqv (mono_cons mono_eqv (mono_cons mono_eqv (mono_cons mono_eqv (mono_cons mono_eqv (mono_cons mono_eqv (mono_cons mono_eqv (mono_cons mono_eqv (mono_nil))))))))) ?_ ?_
        · refine all_cons (by
              intro ρ σm m hoff hdep
              have e1 : look 50 ρ 1 = (Sl aa_1 a_1 ca_1) := look_off (hoff 1 rfl) rfl
              exact does_v (v := (Sl aa_1 a_1 ca_1)) (wanted_none _ rfl _) (rv_move e1) rfl) ?_
          refine all_cons (by
              intro ρ σm m hoff hdep
              have e8 : look 50 ρ 8 = (I s2.2) := look_off (hoff 8 rfl) rfl
              exact does_v (v := (I s2.2)) (wanted_none _ rfl _) (rv_move e8) rfl) ?_
          refine all_cons (by
              intro ρ σm m hoff hdep
              have e16 : look 50 ρ 16 = (Sl aa_1 a_1 ca_1) := hdep 0 rfl rfl 16 rfl
              have e17 : look 50 ρ 17 = (I s2.2) := hdep 1 rfl rfl 17 rfl
              exact does_v (v := (pt b12 o13)) (wanted_none _ rfl _) (rv_ix Try.underlying24 ti3 e16 e17 hi11) rfl) ?_
          refine all_cons (by
              intro ρ σm m hoff hdep
              have e18 : look 50 ρ 18 = (pt b12 o13) := hdep 2 rfl rfl 18 rfl
              replace hR5 := hR5.mod m
              exact does_v (v := (I x9)) (wanted_none _ rfl _) (rv_load1 Try.underlying3 rfl e18 (hR5.at hx10 hi11).int) rfl) ?_
          refine all_cons (by
              intro ρ σm m hoff hdep
              have e2 : look 50 ρ 2 = (Sl ab_2 b_2 cb_2) := look_off (hoff 2 rfl) rfl
              exact does_v (v := (Sl ab_2 b_2 cb_2)) (wanted_none _ rfl _) (rv_move e2) rfl) ?_
          refine all_cons (by
              intro ρ σm m hoff hdep
              have e8 : look 50 ρ 8 = (I s2.2) := look_off (hoff 8 rfl) rfl
              exact does_v (v := (I s2.2)) (wanted_none _ rfl _) (rv_move e8) rfl) ?_
          refine all_cons (by
              intro ρ σm m hoff hdep
              have e20 : look 50 ρ 20 = (Sl ab_2 b_2 cb_2) := hdep 4 rfl rfl 20 rfl
              have e21 : look 50 ρ 21 = (I s2.2) := hdep 5 rfl rfl 21 rfl
              exact does_v (v := (pt b17 o18)) (wanted_none _ rfl _) (rv_ix Try.underlying24 ti3 e20 e21 hi16) rfl) ?_
          refine all_cons (by
              intro ρ σm m hoff hdep
              have e22 : look 50 ρ 22 = (pt b17 o18) := hdep 6 rfl rfl 22 rfl
              replace hR6 := hR6.mod m
              exact does_v (v := (I x14)) (wanted_none _ rfl _) (rv_load1 Try.underlying3 rfl e22 (hR6.at hx15 hi16).int) rfl) ?_
          exact all_nil
        · intro ρ σ19 m hoff hrel
          have e0 : look 50 ρ 0 = (I kind_0) := look_off (hoff 0 rfl) rfl
          have e1 : look 50 ρ 1 = (Sl aa_1 a_1 ca_1) := look_off (hoff 1 rfl) rfl
          have e2 : look 50 ρ 2 = (Sl ab_2 b_2 cb_2) := look_off (hoff 2 rfl) rfl
          have e7 : look 50 ρ 7 = (I s2.1) := look_off (hoff 7 rfl) rfl
          have e8 : look 50 ρ 8 = (I s2.2) := look_off (hoff 8 rfl) rfl
          have e19 : look 50 ρ 19 = (I x9) := hrel 3 rfl 19 rfl
          have e23 : look 50 ρ 23 = (I x14) := hrel 7 rfl 23 rfl
          replace hR5 := hR5.mod m
          replace hR6 := hR6.mod m
          replace hK := hK.none m
          rw [fr_lookL (L := [(0, (I kind_0)), (1, (Sl aa_1 a_1 ca_1)), (2, (Sl ab_2 b_2 cb_2)), (7, (I s2.1)), (8, (I s2.2)), (19, (I x9)), (23, (I x14))]) ⟨e0, e1, e2, e7, e8, e19, e23, trivial⟩]
          clear hoff hrel m e0 e1 e2 e7 e8 e19 e23
          refine st (v := (I (w64 (x9 - x14)))) (rv_sub (a := x9) (b := x14) rfl rfl) ?_
          obtain ⟨r20, hx21, h'⟩ := bind_some h
          clear h
          have h := h'; clear h'
          refine st_call (c_spec_size  hx21) rfl ?_
          have hKs := hK.size
          rintro _ σ22 m23 rfl
          replace hR5 := hR5.mod m23
          replace hR6 := hR6.mod m23
          replace hK := hK.none m23
          clear hKs m23
          refine st (v := (I r20)) (rv_assign rfl) ?_
          refine w_end ?_
          refine q_then ?_
          refine c_seq ?_
          refine rg ?_
          refine st (v := (I kind_0)) (rv_move rfl) ?_
          refine w_end ?_
          refine q_then ?_
          refine c_blk ?_
          refine c_seq ?_
          refine rg ?_
          refine st (v := (B (kind_0 == 1))) (rv_eql (a := kind_0) (b := 1) rfl rfl) ?_
          refine st (v := (B (kind_0 == 1))) (rv_assign rfl) ?_
          refine w_end ?_
          refine q_then ?_
          refine cd_cond (kind_0 == 1) rfl (fun hb24 => ?_) (fun hb24 => ?_)
          · replace h := bif_t hb24 h
            refine rg ?_
            refine st (v := (I s2.1)) (rv_move rfl) ?_
            refine st (v := (I r20)) (rv_move rfl) ?_
            refine st (v := (I (w64 (s2.1 + r20)))) (rv_add (a := s2.1) (b := r20) rfl rfl) ?_
            refine st (v := (I (w64 (s2.1 + r20)))) (rv_assign rfl) ?_
            refine w_end ?_
            refine q_blk ?_
            refine q_blk ?_
            obtain rfl := Option.some.inj h
            exact ⟨rfl, _, σ22, fr_join ⟨rfl, rfl, rfl, rfl, rfl, trivial⟩, rfl, hK, hR5, hR6⟩
          · replace h := bif_f hb24 h
            refine c_seq ?_
            refine rg ?_
            refine st (v := (B (kind_0 == 2))) (rv_eql (a := kind_0) (b := 2) rfl rfl) ?_
            refine st (v := (B (kind_0 == 2))) (rv_assign rfl) ?_
            refine w_end ?_
            refine q_then ?_
            refine cd_cond (kind_0 == 2) rfl (fun hb25 => ?_) (fun hb25 => ?_)
            · replace h := bif_t hb25 h
              refine rg ?_
              refine st (v := (I s2.1)) (rv_move rfl) ?_
              refine st (v := (I r20)) (rv_move rfl) ?_
              refine st (v := (I (max s2.1 r20))) (rv_max rfl rfl) ?_
              refine st (v := (I (max s2.1 r20))) (rv_assign rfl) ?_
              refine w_end ?_
              refine q_blk ?_
              refine q_blk ?_
              obtain rfl := Option.some.inj h
              exact ⟨rfl, _, σ22, fr_join ⟨rfl, rfl, rfl, rfl, rfl, trivial⟩, rfl, hK, hR5, hR6⟩
            · replace h := bif_f hb25 h
              refine c_seq ?_
              refine rg ?_
              refine st (v := (B (kind_0 == 3))) (rv_eql (a := kind_0) (b := 3) rfl rfl) ?_
              refine st (v := (B (kind_0 == 3))) (rv_assign rfl) ?_
              refine w_end ?_
              refine q_then ?_
              refine cd_cond (kind_0 == 3) rfl (fun hb26 => ?_) (fun hb26 => ?_)
              · replace h := bif_t hb26 h
                refine rg ?_
                refine st (v := (I s2.1)) (rv_move rfl) ?_
                refine st (v := (I r20)) (rv_move rfl) ?_
                refine st (v := (I r20)) (rv_move rfl) ?_
                refine st (v := (I (w64 (r20 * r20)))) (rv_mul (a := r20) (b := r20) rfl rfl) ?_
                refine st (v := (I (w64 (s2.1 + (w64 (r20 * r20)))))) (rv_add (a := s2.1) (b := (w64 (r20 * r20))) rfl rfl) ?_
                refine st (v := (I (w64 (s2.1 + (w64 (r20 * r20)))))) (rv_assign rfl) ?_
                refine w_end ?_
                refine q_blk ?_
                refine q_blk ?_
                obtain rfl := Option.some.inj h
                exact ⟨rfl, _, σ22, fr_join ⟨rfl, rfl, rfl, rfl, rfl, trivial⟩, rfl, hK, hR5, hR6⟩
              · replace h := bif_f hb26 h
                refine rg ?_
                refine st (v := (I s2.1)) (rv_move rfl) ?_
                refine st (v := (I r20)) (rv_move rfl) ?_
                refine st (v := (B (decide (0 < r20)))) (rv_gtr (a := r20) (b := 0) rfl rfl) ?_
                obtain ⟨r27, hx28, h'⟩ := bind_some h
                clear h
                have h := h'; clear h'
                refine st_call (c_spec_toInt  hx28) rfl ?_
                have hKs := hK.size
                rintro _ σ29 m30 rfl
                replace hR5 := hR5.mod m30
                replace hR6 := hR6.mod m30
                replace hK := hK.none m30
                clear hKs m30
                refine st (v := (I (w64 (s2.1 + r27)))) (rv_add (a := s2.1) (b := r27) rfl rfl) ?_
                refine st (v := (I (w64 (s2.1 + r27)))) (rv_assign rfl) ?_
                refine w_end ?_
                refine q_blk ?_
                refine q_blk ?_
                obtain rfl := Option.some.inj h
                exact ⟨rfl, _, σ29, fr_join ⟨rfl, rfl, rfl, rfl, rfl, trivial⟩, rfl, hK, hR5, hR6⟩
      · clear hj
        have h := h'
        clear h'
        rintro e a w ⟨rfl, ρ, σ31, rfl, rfl, hK, hR32, hR33⟩
        refine q_then ?_
        refine rg ?_
        refine st (v := (I s2.2)) (rv_move rfl) ?_
        refine st (v := (I (w64 (s2.2 + 1)))) (rv_add (a := s2.2) (b := 1) rfl rfl) ?_
        refine st (v := (I (w64 (s2.2 + 1)))) (rv_assign rfl) ?_
        refine w_end ?_
        refine q_then ?_
        obtain rfl := Option.some.inj h
        exact ⟨_, rfl, _, σ31, fr_join ⟨rfl, rfl, rfl, rfl, rfl, trivial⟩, rfl, hK, hR32, hR33⟩
    · replace h := bif_f hb7 h
      refine c_exit ?_
      refine q_then_x ?_
      refine q_then_x ?_
      refine q_blk_hit ?_
      obtain rfl := Option.some.inj h
      obtain rfl := hres _ rfl
      exact ⟨rfl, _, σ4, fr_join ⟨rfl, trivial⟩, rfl, hK⟩
  · clear hj
    have h := h'
    clear h'
    rintro e a w ⟨rfl, ρ, σ34, rfl, rfl, hK⟩
    refine q_then ?_
    refine c_seq ?_
    refine rg ?_
    refine st (v := (I o1)) (rv_move rfl) ?_
    refine st (v := (I o1)) (rv_assign rfl) ?_
    refine w_end ?_
    refine q_then ?_
    refine c_ret ?_
    obtain rfl := Option.some.inj h
    exact bodyPost_ret (v := (I o1)) (results_fr1 Try.results66 rfl _) rfl ⟨_, σ34, rfl, rfl, hK, rfl⟩

theorem c_spec_Distance {σ0 : St} {kind_0 : Int} {a_1 : List Int} {b_2 : List Int} {aa_1 : Option Addr} {ca_1 : Nat} (hRa_1 : RS 0 σ0 (Sl aa_1 a_1 ca_1) a_1) {ab_2 : Option Addr} {cb_2 : Nat} (hRb_2 : RS 0 σ0 (Sl ab_2 b_2 cb_2) b_2) {r : Int} (h : M.spec_Distance kind_0 a_1 b_2 = some r) :
    Cal Try.prog 33 [(I kind_0), (Sl aa_1 a_1 ca_1), (Sl ab_2 b_2 cb_2)] none σ0 (fun v σ' => v = (I r)) := by
  refine ⟨⟨_, _, Try.func33, rfl, rfl⟩, ?_⟩
  refine enter (n := 24) Try.func33 rfl rfl rfl ?_
  unfold M.spec_Distance at h
  have hK : Mod none σ0 σ0 := Mod.refl _ _
  refine c_seq ?_
  refine rg ?_
  refine st (v := (I 0)) (rv_assign rfl) ?_
  refine w_end ?_
  refine q_then ?_
  refine c_seq ?_
  refine c_seq ?_
  obtain ⟨o1, hj, h'⟩ := bind_some h
  clear h
  refine c_cut (fun e a w => e = .normal ∧ ∃ (ρ : Nat → Value) (σ : St), a = fr 24 (updL ρ [(0, (I kind_0)), (1, (Sl aa_1 a_1 ca_1)), (2, (Sl ab_2 b_2 cb_2)), (19, (B o1))]) ∧ w = σ.w ∧ Mod none σ0 σ ∧ RS 0 σ (Sl aa_1 a_1 ca_1) a_1 ∧ RS 0 σ (Sl ab_2 b_2 cb_2) b_2) ?_ ?_
  · clear h'
    rename _ = some o1 => h
    refine rg ?_
    refine st (v := (I kind_0)) (rv_move rfl) ?_
    obtain ⟨r2, hx3, h'⟩ := bind_some h
    clear h
    have h := h'; clear h'
    refine st_call (c_spec_validKind  hx3) rfl ?_
    have hKs := hK.size
    rintro _ σ4 m5 rfl
    replace hRa_1 := hRa_1.mod m5
    replace hRb_2 := hRb_2.mod m5
    replace hK := hK.none m5
    clear hKs m5
    refine st (v := (B (!r2))) (rv_not rfl) ?_
    refine st (v := (B (!r2))) (rv_move rfl) ?_
    rcases Bool.eq_false_or_eq_true (!r2) with hb6 | hb6
    · replace h := bif_t hb6 h
      refine st_skip (congrArg some hb6) ?_
      refine st_skip (congrArg some hb6) ?_
      refine st_skip (congrArg some hb6) ?_
      refine st (v := (B true)) (rv_pick_t (congrArg B hb6) rfl) ?_
      refine st (v := (B true)) (rv_move rfl) ?_
      refine st_skip rfl ?_
      refine st_skip rfl ?_
      refine st_skip rfl ?_
      refine st (v := (B true)) (rv_pick_t rfl rfl) ?_
      refine w_end ?_
      obtain rfl := Option.some.inj h
      exact ⟨rfl, _, σ4, fr_join ⟨rfl, rfl, rfl, rfl, trivial⟩, rfl, hK, hRa_1, hRb_2⟩
    · replace h := bif_f hb6 h
      refine st_g (v := (Sl aa_1 a_1 ca_1)) (congrArg some hb6) (rv_move rfl) ?_
      obtain ⟨r7, hx8, h'⟩ := bind_some h
      clear h
      have h := h'; clear h'
      refine st_call_g (by exact (congrArg some hb6)) (c_spec_isVector hRa_1 hx8) rfl ?_
      have hKs := hK.size
      rintro _ σ9 m10 rfl
      replace hRa_1 := hRa_1.mod m10
      replace hRb_2 := hRb_2.mod m10
      replace hK := hK.none m10
      clear hKs m10
      refine st_g (v := (B (!r7))) (congrArg some hb6) (rv_not rfl) ?_
      refine st (v := (B (!r7))) (rv_pick_f (congrArg B hb6) rfl) ?_
      refine st (v := (B (!r7))) (rv_move rfl) ?_
      rcases Bool.eq_false_or_eq_true (!r7) with hb11 | hb11
      · replace h := bif_t hb11 h
        refine st_skip (congrArg some hb11) ?_
        refine st_skip (congrArg some hb11) ?_
        refine st_skip (congrArg some hb11) ?_
        refine st (v := (B true)) (rv_pick_t (congrArg B hb11) rfl) ?_
        refine w_end ?_
        obtain rfl := Option.some.inj h
        exact ⟨rfl, _, σ9, fr_join ⟨rfl, rfl, rfl, rfl, trivial⟩, rfl, hK, hRa_1, hRb_2⟩
      · replace h := bif_f hb11 h
        refine st_g (v := (Sl ab_2 b_2 cb_2)) (congrArg some hb11) (rv_move rfl) ?_
        obtain ⟨r12, hx13, h'⟩ := bind_some h
        clear h
        have h := h'; clear h'
        refine st_call_g (by exact (congrArg some hb11)) (c_spec_isVector hRb_2 hx13) rfl ?_
        have hKs := hK.size
        rintro _ σ14 m15 rfl
        replace hRa_1 := hRa_1.mod m15
        replace hRb_2 := hRb_2.mod m15
        replace hK := hK.none m15
        clear hKs m15
        refine st_g (v := (B (!r12))) (congrArg some hb11) (rv_not rfl) ?_
        refine st (v := (B (!r12))) (rv_pick_f (congrArg B hb11) rfl) ?_
        refine w_end ?_
        obtain rfl := Option.some.inj h
        exact ⟨rfl, _, σ14, fr_join ⟨rfl, rfl, rfl, rfl, trivial⟩, rfl, hK, hRa_1, hRb_2⟩
  · clear hj
    have h := h'
    clear h'
    rintro e a w ⟨rfl, ρ, σ16, rfl, rfl, hK, hR17, hR18⟩
    refine q_then ?_
    refine cd_cond o1 rfl (fun hb19 => ?_) (fun hb19 => ?_)
    · replace h := bif_t hb19 h
      refine c_seq ?_
      refine rg ?_
      refine st (v := (I (-1))) (rv_assign rfl) ?_
      refine w_end ?_
      refine q_then ?_
      refine c_ret ?_
      refine q_then_r ?_
      obtain rfl := Option.some.inj h
      exact bodyPost_ret (v := (I (-1))) (results_fr1 Try.results33 rfl _) rfl ⟨_, σ16, rfl, rfl, hK, rfl⟩
    · replace h := bif_f hb19 h
      refine c_skip ?_
      refine q_then ?_
      refine c_seq ?_
      refine rg ?_
      refine st (v := (I kind_0)) (rv_move rfl) ?_
      refine st (v := (Sl aa_1 a_1 ca_1)) (rv_move rfl) ?_
      refine st (v := (Sl ab_2 b_2 cb_2)) (rv_move rfl) ?_
      obtain ⟨r20, hx21, h'⟩ := bind_some h
      clear h
      have h := h'; clear h'
      refine st_call (c_spec_dist hR17 hR18 hx21) rfl ?_
      have hKs := hK.size
      rintro _ σ22 m23 rfl
      replace hR17 := hR17.mod m23
      replace hR18 := hR18.mod m23
      replace hK := hK.none m23
      clear hKs m23
      refine st (v := (I r20)) (rv_assign rfl) ?_
      refine w_end ?_
      refine q_then ?_
      refine c_ret ?_
      obtain rfl := Option.some.inj h
      exact bodyPost_ret (v := (I r20)) (results_fr1 Try.results33 rfl _) rfl ⟨_, σ22, rfl, rfl, hK, rfl⟩

theorem c_laws_FnDistanceShift {σ0 : St} {code_0 : List UInt8} {acode_0 : Option Addr} {ccode_0 : Nat} (hRcode_0 : RS 0 σ0 (Sl acode_0 code_0 ccode_0) code_0) {r : Bool} (h : M.laws_FnDistanceShift code_0 = some r) :
    Cal Try.prog 8 [(Sl acode_0 code_0 ccode_0)] none σ0 (fun v σ' => v = (B r)) := by
  refine ⟨⟨_, _, Try.func8, rfl, rfl⟩, ?_⟩
  refine enter (n := 83) Try.func8 rfl rfl rfl ?_
  unfold M.laws_FnDistanceShift at h
  have hK : Mod none σ0 σ0 := Mod.refl _ _
  refine c_seq ?_
  refine rg ?_
  refine st (v := (B false)) (rv_assign rfl) ?_
  refine w_end ?_
  refine q_then ?_
  refine c_seq ?_
  refine c_seq ?_
  refine rg ?_
  refine st (v := (Sl acode_0 code_0 ccode_0)) (rv_move rfl) ?_
  refine st (v := (I (code_0.length : Int))) (rv_len Try.underlying22 rfl) ?_
  refine st (v := (B (decide (1048576 < (code_0.length : Int))))) (rv_gtr (a := (code_0.length : Int)) (b := 1048576) rfl rfl) ?_
  refine w_end ?_
  refine q_then ?_
  refine cd_cond (decide (1048576 < (code_0.length : Int))) rfl (fun hb1 => ?_) (fun hb1 => ?_)
  · replace h := bif_t hb1 h
    refine c_seq ?_
    refine rg ?_
    refine st (v := (B true)) (rv_assign rfl) ?_
    refine w_end ?_
    refine q_then ?_
    refine c_ret ?_
    refine q_then_r ?_
    obtain rfl := Option.some.inj h
    exact bodyPost_ret (v := (B true)) (results_fr1 Try.results8 rfl _) rfl ⟨_, σ0, rfl, rfl, hK, rfl⟩
  · replace h := bif_f hb1 h
    refine c_skip ?_
    refine q_then ?_
    refine c_seq ?_
    refine rg ?_
    refine st (v := (Sl acode_0 code_0 ccode_0)) (rv_move rfl) ?_
    obtain ⟨r2, hx3, h'⟩ := bind_some h
    clear h
    have h := h'; clear h'
    refine st_call (c_spec_DrawDistance hRcode_0 hx3) rfl ?_
    have hKs := hK.size
    rintro _ σ4 m5 ⟨a6, c7, a9, c10, rfl, hO8, hO11, hd12⟩
    replace hRcode_0 := hRcode_0.mod m5
    replace hK := hK.none m5
    have hO8g := hO8.ge
    replace hO8 := hO8.lo hKs
    replace hO8 := hO8.low' hKs
    have hO11g := hO11.ge
    replace hO11 := hO11.lo hKs
    replace hO11 := hO11.low' hKs
    clear hKs m5 hO8g hO11g
    refine st (v := (.tuple #[(I r2.1), (Sl a6 r2.2.1 c7), (Sl a9 r2.2.2 c10)])) (rv_move rfl) ?_
    refine st (v := (I r2.1)) (rv_extract rfl rfl) ?_
    refine st (v := (Sl a6 r2.2.1 c7)) (rv_extract rfl rfl) ?_
    refine st (v := (Sl a9 r2.2.2 c10)) (rv_extract rfl rfl) ?_
    refine st (v := (I r2.1)) (rv_assign rfl) ?_
    refine st (v := (Sl a6 r2.2.1 c7)) (rv_assign rfl) ?_
    refine st (v := (Sl a9 r2.2.2 c10)) (rv_assign rfl) ?_
    refine w_end ?_
    refine q_then ?_
    refine c_seq ?_
    refine rg ?_
    refine st (v := (I r2.1)) (rv_move rfl) ?_
    refine st (v := (Sl a6 r2.2.1 c7)) (rv_move rfl) ?_
    refine st (v := (Sl a9 r2.2.2 c10)) (rv_move rfl) ?_
    obtain ⟨σ13, hw14, m15, hR16⟩ := hO8.pub' (Nat.le_refl _)
    obtain ⟨σ17, hw18, m19, hR20⟩ := (hO11.mod' m15 (by first | exact hd12 | exact Df.re hd12)).pub' (Nat.le_refl _)
    rw [← (hw18.trans hw14)]
    obtain ⟨r21, hx22, h'⟩ := bind_some h
    clear h
    have h := h'; clear h'
    refine st_call (c_impl_Distance ((hR16.low (Nat.zero_le _)).mod m19) (hR20.low (Nat.zero_le _)) hx22) rfl ?_
    have hd25 := ltb_size hO8.ltb (hw18.trans hw14)
    have hd26 := ltb_size hO11.ltb (hw18.trans hw14)
    have hKs := size_le hK.size (hw18.trans hw14)
    rintro _ σ23 m24 rfl
    obtain ⟨σ27, hw28, m29, hxl30, hvl31⟩ := lent (hw18.trans hw14) m24
    rw [← hw28]
    replace hO8 := hO8.mod0 m29
    replace hO11 := hO11.mod0 m29
    replace hK := hK.none m29
    clear hKs m29
    refine st (v := (I r21)) (rv_assign rfl) ?_
    refine w_end ?_
    refine q_then ?_
    refine c_seq ?_
    refine c_seq ?_
    obtain ⟨o32, hj, h'⟩ := bind_some h
    clear h
    refine c_cut (fun e a w => e = .normal ∧ ∃ (ρ : Nat → Value) (σ : St), a = fr 83 (updL ρ [(3, (I r2.1)), (4, (Sl a6 r2.2.1 c7)), (5, (Sl a9 r2.2.2 c10)), (6, (I r21)), (32, (B o32))]) ∧ w = σ.w ∧ Mod none σ0 σ ∧ Ow σ σ0.size σ0.size (Sl a6 r2.2.1 c7) r2.2.1 ∧ Ow σ σ0.size σ0.size (Sl a9 r2.2.2 c10) r2.2.2 ∧ Df (blk (Sl a9 r2.2.2 c10)) (blk (Sl a6 r2.2.1 c7))) ?_ ?_
    · clear h'
      rename _ = some o32 => h
      refine rg ?_
      refine st (v := (I r21)) (rv_move rfl) ?_
      refine st (v := (I r2.1)) (rv_move rfl) ?_
      refine st (v := (Sl a6 r2.2.1 c7)) (rv_move rfl) ?_
      refine st (v := (Sl a9 r2.2.2 c10)) (rv_move rfl) ?_
      obtain ⟨σ33, hw34, m35, hR36⟩ := hO8.pub' (Nat.le_refl _)
      obtain ⟨σ37, hw38, m39, hR40⟩ := (hO11.mod' m35 (by first | exact hd12 | exact Df.re hd12)).pub' (Nat.le_refl _)
      rw [← (hw38.trans hw34)]
      obtain ⟨r41, hx42, h'⟩ := bind_some h
      clear h
      have h := h'; clear h'
      refine st_call (c_spec_Distance ((hR36.low (Nat.zero_le _)).mod m39) (hR40.low (Nat.zero_le _)) hx42) rfl ?_
      have hd45 := ltb_size hO8.ltb (hw38.trans hw34)
      have hd46 := ltb_size hO11.ltb (hw38.trans hw34)
      have hKs := size_le hK.size (hw38.trans hw34)
      rintro _ σ43 m44 rfl
      obtain ⟨σ47, hw48, m49, hxl50, hvl51⟩ := lent (hw38.trans hw34) m44
      rw [← hw48]
      replace hO8 := hO8.mod0 m49
      replace hO11 := hO11.mod0 m49
      replace hK := hK.none m49
      clear hKs m49
      refine st (v := (B (r21 != r41))) (rv_neq (a := r21) (b := r41) rfl rfl) ?_
      refine st (v := (B (r21 != r41))) (rv_move rfl) ?_
      rcases Bool.eq_false_or_eq_true (r21 != r41) with hb52 | hb52
      · replace h := bif_t hb52 h
        refine st_skip (congrArg some hb52) ?_
        refine st_skip (congrArg some hb52) ?_
        refine st (v := (B true)) (rv_pick_t (congrArg B hb52) rfl) ?_
        refine w_end ?_
        obtain rfl := Option.some.inj h
        exact ⟨rfl, _, σ47, fr_join ⟨rfl, rfl, rfl, rfl, rfl, trivial⟩, rfl, hK, hO8, hO11, (by first | exact hd12 | exact Df.re hd12)⟩
      · replace h := bif_f hb52 h
        refine st_g (v := (I r21)) (congrArg some hb52) (rv_move rfl) ?_
        refine st_g (v := (B (decide (r21 < 0)))) (congrArg some hb52) (rv_lss (a := r21) (b := 0) rfl rfl) ?_
        refine st (v := (B (decide (r21 < 0)))) (rv_pick_f (congrArg B hb52) rfl) ?_
        refine w_end ?_
        obtain rfl := Option.some.inj h
        exact ⟨rfl, _, σ47, fr_join ⟨rfl, rfl, rfl, rfl, rfl, trivial⟩, rfl, hK, hO8, hO11, (by first | exact hd12 | exact Df.re hd12)⟩
    · clear hj
      have h := h'
      clear h'
      rintro e a w ⟨rfl, ρ, σ53, rfl, rfl, hK, hO54, hO55, hd56⟩
      refine q_then ?_
      refine cd_cond o32 rfl (fun hb57 => ?_) (fun hb57 => ?_)
      · replace h := bif_t hb57 h
        refine c_seq ?_
        refine rg ?_
        refine st (v := (I r21)) (rv_move rfl) ?_
        refine st (v := (I r2.1)) (rv_move rfl) ?_
        refine st (v := (Sl a6 r2.2.1 c7)) (rv_move rfl) ?_
        refine st (v := (Sl a9 r2.2.2 c10)) (rv_move rfl) ?_
        have hg62 := hO54.ge
        obtain ⟨σ58, hw61, m59, hR60⟩ := hO54.pub' (Nat.le_refl _)
        rw [← hw61]; clear hw61
        replace hO55 := hO55.mod' m59 (by first | exact hd56 | exact Df.re hd56)
        replace hK := hK.own m59 hg62
        have hg67 := hO55.ge
        obtain ⟨σ63, hw66, m64, hR65⟩ := hO55.pub' (Nat.le_refl _)
        rw [← hw66]; clear hw66
        replace hR60 := hR60.mod m64
        replace hK := hK.own m64 hg67
        obtain ⟨r68, hx69, h'⟩ := bind_some h
        clear h
        have h := h'; clear h'
        refine st_call (c_spec_Distance (hR60.low (Nat.zero_le _)) (hR65.low (Nat.zero_le _)) hx69) rfl ?_
        have hKs := hK.size
        rintro _ σ70 m71 rfl
        replace hR60 := hR60.mod m71
        replace hR65 := hR65.mod m71
        replace hK := hK.none m71
        clear hKs m71
        refine st (v := (B (r21 == r68))) (rv_eql (a := r21) (b := r68) rfl rfl) ?_
        refine st (v := (B (r21 == r68))) (rv_assign rfl) ?_
        refine w_end ?_
        refine q_then ?_
        refine c_ret ?_
        refine q_then_r ?_
        obtain rfl := Option.some.inj h
        exact bodyPost_ret (v := (B (r21 == r68))) (results_fr1 Try.results8 rfl _) rfl ⟨_, σ70, rfl, rfl, hK, rfl⟩
      · replace h := bif_f hb57 h
        refine c_skip ?_
        refine q_then ?_
        refine c_seq ?_
        refine rg ?_
        refine st_buildSlice (lo := σ0.size) (el := σ0.size) (xs := ([] : List Int)) (ps := []) (cs := []) Try.underlying24 ti3 rfl rfl (by kernel_rfl) (.nil) rfl ?_ hK.size (wanted_none _ rfl _)
        intro b73 σ74 hbn76 m75 hO72
        have hd77 := hO54.df' hbn76
        have hd78 := hO55.df' hbn76
        replace hO54 := hO54.mod0 m75
        replace hO55 := hO55.mod0 m75
        replace hK := hK.none m75
        clear hbn76 m75
        refine st (v := (Sl (some ⟨b73, 0, none⟩) ([] : List Int) 0)) (rv_assign rfl) ?_
        refine w_end ?_
        refine q_then ?_
        refine c_seq ?_
        refine rg ?_
        refine st_buildSlice (lo := σ0.size) (el := σ0.size) (xs := ([] : List Int)) (ps := []) (cs := []) Try.underlying24 ti3 rfl rfl (by kernel_rfl) (.nil) rfl ?_ hK.size (wanted_none _ rfl _)
        intro b80 σ81 hbn83 m82 hO79
        have hd84 := hO54.df' hbn83
        have hd85 := hO55.df' hbn83
        have hd86 := hO72.df' hbn83
        replace hO54 := hO54.mod0 m82
        replace hO55 := hO55.mod0 m82
        replace hO72 := hO72.mod0 m82
        replace hK := hK.none m82
        clear hbn83 m82
        refine st (v := (Sl (some ⟨b80, 0, none⟩) ([] : List Int) 0)) (rv_assign rfl) ?_
        refine w_end ?_
        refine q_then ?_
        refine c_seq ?_
        refine c_seq ?_
        refine rg ?_
        refine st (v := (I 0)) (rv_assign rfl) ?_
        refine w_end ?_
        refine q_then ?_
        obtain ⟨o87, hj, h'⟩ := bind_some h
        clear h
        refine c_cut (fun e a w => e = .normal ∧ ∃ (ρ : Nat → Value) (σ : St) (aj1 : Option Addr) (cj2 : Nat) (aj4 : Option Addr) (cj5 : Nat), a = fr 83 (updL ρ [(3, (I r2.1)), (6, (I r21)), (7, (Sl aj1 o87.1 cj2)), (8, (Sl aj4 o87.2 cj5))]) ∧ w = σ.w ∧ Mod none σ0 σ ∧ Ow σ σ0.size σ0.size (Sl aj1 o87.1 cj2) o87.1 ∧ Ow σ σ0.size σ0.size (Sl aj4 o87.2 cj5) o87.2 ∧ Df (blk (Sl aj4 o87.2 cj5)) (blk (Sl aj1 o87.1 cj2))) ?_ ?_
        · clear h'
          rename _ = some o87 => h
          refine c_blk ?_
          refine wp_loopM _ h (fun s88 a w => ∃ (ρ : Nat → Value) (σ : St) (aj3 : Option Addr) (cj4 : Nat) (aj6 : Option Addr) (cj7 : Nat), a = fr 83 (updL ρ [(3, (I r2.1)), (4, (Sl a6 r2.2.1 c7)), (5, (Sl a9 r2.2.2 c10)), (6, (I r21)), (7, (Sl aj3 s88.1 cj4)), (8, (Sl aj6 s88.2.1 cj7)), (9, (I s88.2.2))]) ∧ w = σ.w ∧ Mod none σ0 σ ∧ Ow σ σ0.size σ0.size (Sl a6 r2.2.1 c7) r2.2.1 ∧ Ow σ σ0.size σ0.size (Sl a9 r2.2.2 c10) r2.2.2 ∧ Ow σ σ0.size σ0.size (Sl aj3 s88.1 cj4) s88.1 ∧ Ow σ σ0.size σ0.size (Sl aj6 s88.2.1 cj7) s88.2.1 ∧ Df (blk (Sl a9 r2.2.2 c10)) (blk (Sl a6 r2.2.1 c7)) ∧ Df (blk (Sl aj3 s88.1 cj4)) (blk (Sl a6 r2.2.1 c7)) ∧ Df (blk (Sl aj3 s88.1 cj4)) (blk (Sl a9 r2.2.2 c10)) ∧ Df (blk (Sl aj6 s88.2.1 cj7)) (blk (Sl a6 r2.2.1 c7)) ∧ Df (blk (Sl aj6 s88.2.1 cj7)) (blk (Sl a9 r2.2.2 c10)) ∧ Df (blk (Sl aj6 s88.2.1 cj7)) (blk (Sl aj3 s88.1 cj4))) ⟨_, σ81, (some ⟨b73, 0, none⟩), 0, (some ⟨b80, 0, none⟩), 0, fr_join ⟨rfl, rfl, rfl, rfl, rfl, rfl, rfl, trivial⟩, rfl, hK, hO54, hO55, hO72, hO79, (by first | exact hd56 | exact Df.re hd56), (by first | exact (hd77).symm | exact Df.re (hd77).symm), (by first | exact (hd78).symm | exact Df.re (hd78).symm), (by first | exact (hd84).symm | exact Df.re (hd84).symm), (by first | exact (hd85).symm | exact Df.re (hd85).symm), (by first | exact (hd86).symm | exact Df.re (hd86).symm)⟩ ?_
          clear h
          rintro s88 a w o ⟨ρ, σ90, a93, c94, a96, c97, rfl, rfl, hK, hO91, hO92, hO95, hO98, hd99, hd100, hd101, hd102, hd103, hd104⟩ h hres
          refine c_seq ?_
          refine c_seq ?_
          refine rg ?_
          refine st (v := (I s88.2.2)) (rv_move rfl) ?_
          refine st (v := (Sl a6 r2.2.1 c7)) (rv_move rfl) ?_
          refine st (v := (I (r2.2.1.length : Int))) (rv_len Try.underlying24 rfl) ?_
          refine st (v := (B (decide (s88.2.2 < (r2.2.1.length : Int))))) (rv_lss (a := s88.2.2) (b := (r2.2.1.length : Int)) rfl rfl) ?_
          refine w_end ?_
          refine q_then ?_
          refine cd_cond (decide (s88.2.2 < (r2.2.1.length : Int))) rfl (fun hb105 => ?_) (fun hb105 => ?_)
          · replace h := bif_t hb105 h
            refine c_skip ?_
            refine q_then ?_
            refine c_seq ?_
            refine c_blk ?_
            refine c_seq ?_
            refine rg ?_
            refine st (v := (Sl a93 s88.1 c94)) (rv_move rfl) ?_
            refine st (v := (Sl a6 r2.2.1 c7)) (rv_move rfl) ?_
            refine st (v := (I s88.2.2)) (rv_move rfl) ?_
            obtain ⟨x106, hx107, h'⟩ := bind_some h
            clear h
            have h := h'; clear h'
            obtain ⟨b109, o110, hi108, -⟩ := hO91.ix hx107
            refine st (v := (pt b109 o110)) (rv_ix Try.underlying24 ti3 rfl rfl hi108) ?_
            refine st (v := (I x106)) (rv_load1 Try.underlying3 rfl rfl (hO91.at hx107 hi108).int) ?_
            refine st (v := (I s88.2.2)) (rv_move rfl) ?_
            refine st (v := (I (w64 (x106 + s88.2.2)))) (rv_add (a := x106) (b := s88.2.2) rfl rfl) ?_
            refine st (v := (I (w64 ((w64 (x106 + s88.2.2)) - 1)))) (rv_sub (a := (w64 (x106 + s88.2.2))) (b := 1) rfl rfl) ?_
            refine st_buildSlice (lo := σ0.size) (el := σ0.size) (xs := ([w64 ((w64 (x106 + s88.2.2)) - 1)] : List Int)) (ps := [(0, (I (w64 ((w64 (x106 + s88.2.2)) - 1))))]) (cs := [(I (w64 ((w64 (x106 + s88.2.2)) - 1)))]) Try.underlying24 ti3 rfl rfl (by kernel_rfl) (.cons (c := [(I (w64 ((w64 (x106 + s88.2.2)) - 1)))]) rfl (.nil)) rfl ?_ hK.size (wanted_none _ rfl _)
            intro b112 σ113 hbn115 m114 hO111
            have hd116 := hO91.df' hbn115
            have hd117 := hO92.df' hbn115
            have hd118 := hO98.df' hbn115
            have hd119 := hO95.df' hbn115
            replace hO91 := hO91.mod0 m114
            replace hO92 := hO92.mod0 m114
            replace hO98 := hO98.mod0 m114
            replace hO95 := hO95.mod0 m114
            replace hK := hK.none m114
            clear hbn115 m114
            obtain ⟨xs120, hx121, h'⟩ := bind_some h
            clear h
            have h := h'; clear h'
            have hg122 := hO95.ge
            refine st_append Try.underlying24 Try.underlying24 ti3 rfl rfl (by decide) hO95 hO111.rd hx121 hK.size rfl rfl ?_ (wanted_none _ rfl _)
            have hd129 := hO91.ltb
            have hd130 := hO92.ltb
            have hd131 := hO98.ltb
            intro a127 c128 σ123 m124 hO125 hq126
            replace hO91 := hO91.mod' m124 (by first | exact (hd100).symm | exact Df.re (hd100).symm)
            replace hO92 := hO92.mod' m124 (by first | exact (hd101).symm | exact Df.re (hd101).symm)
            replace hO98 := hO98.mod' m124 (by first | exact hd104 | exact Df.re hd104)
            replace hK := hK.own m124 hg122
            have hd132 := Df.app (hd100).symm hd129 hq126
            have hd133 := Df.app (hd101).symm hd130 hq126
            have hd134 := Df.app hd104 hd131 hq126
            clear hq126 m124
            refine st (v := (Sl a127 xs120 c128)) (rv_assign rfl) ?_
            refine w_end ?_
            refine q_then ?_
            refine rg ?_
            refine st (v := (Sl a96 s88.2.1 c97)) (rv_move rfl) ?_
            refine st (v := (Sl a9 r2.2.2 c10)) (rv_move rfl) ?_
            refine st (v := (I s88.2.2)) (rv_move rfl) ?_
            obtain ⟨x135, hx136, h'⟩ := bind_some h
            clear h
            have h := h'; clear h'
            obtain ⟨b138, o139, hi137, -⟩ := hO92.ix hx136
            refine st (v := (pt b138 o139)) (rv_ix Try.underlying24 ti3 rfl rfl hi137) ?_
            refine st (v := (I x135)) (rv_load1 Try.underlying3 rfl rfl (hO92.at hx136 hi137).int) ?_
            refine st (v := (I s88.2.2)) (rv_move rfl) ?_
            refine st (v := (I (w64 (x135 + s88.2.2)))) (rv_add (a := x135) (b := s88.2.2) rfl rfl) ?_
            refine st (v := (I (w64 ((w64 (x135 + s88.2.2)) - 1)))) (rv_sub (a := (w64 (x135 + s88.2.2))) (b := 1) rfl rfl) ?_
            refine st_buildSlice (lo := σ0.size) (el := σ0.size) (xs := ([w64 ((w64 (x135 + s88.2.2)) - 1)] : List Int)) (ps := [(0, (I (w64 ((w64 (x135 + s88.2.2)) - 1))))]) (cs := [(I (w64 ((w64 (x135 + s88.2.2)) - 1)))]) Try.underlying24 ti3 rfl rfl (by kernel_rfl) (.cons (c := [(I (w64 ((w64 (x135 + s88.2.2)) - 1)))]) rfl (.nil)) rfl ?_ hK.size (wanted_none _ rfl _)
            intro b141 σ142 hbn144 m143 hO140
            have hd145 := hO91.df' hbn144
            have hd146 := hO92.df' hbn144
            have hd147 := hO125.df' hbn144
            have hd148 := hO98.df' hbn144
            replace hO91 := hO91.mod0 m143
            replace hO92 := hO92.mod0 m143
            replace hO125 := hO125.mod0 m143
            replace hO98 := hO98.mod0 m143
            replace hK := hK.none m143
            clear hbn144 m143
            obtain ⟨xs149, hx150, h'⟩ := bind_some h
            clear h
            have h := h'; clear h'
            have hg151 := hO98.ge
            refine st_append Try.underlying24 Try.underlying24 ti3 rfl rfl (by decide) hO98 hO140.rd hx150 hK.size rfl rfl ?_ (wanted_none _ rfl _)
            have hd158 := hO91.ltb
            have hd159 := hO92.ltb
            have hd160 := hO125.ltb
            intro a156 c157 σ152 m153 hO154 hq155
            replace hO91 := hO91.mod' m153 (by first | exact (hd102).symm | exact Df.re (hd102).symm)
            replace hO92 := hO92.mod' m153 (by first | exact (hd103).symm | exact Df.re (hd103).symm)
            replace hO125 := hO125.mod' m153 (by first | exact (hd134).symm | exact Df.re (hd134).symm)
            replace hK := hK.own m153 hg151
            have hd161 := Df.app (hd102).symm hd158 hq155
            have hd162 := Df.app (hd103).symm hd159 hq155
            have hd163 := Df.app (hd134).symm hd160 hq155
            clear hq155 m153
            refine st (v := (Sl a156 xs149 c157)) (rv_assign rfl) ?_
            refine w_end ?_
            refine q_blk ?_
            refine q_then ?_
            refine rg ?_
            refine st (v := (I s88.2.2)) (rv_move rfl) ?_
            refine st (v := (I (w64 (s88.2.2 + 1)))) (rv_add (a := s88.2.2) (b := 1) rfl rfl) ?_
            refine st (v := (I (w64 (s88.2.2 + 1)))) (rv_assign rfl) ?_
            refine w_end ?_
            refine q_then ?_
            obtain rfl := Option.some.inj h
            exact ⟨_, rfl, _, σ152, a127, c128, a156, c157, fr_join ⟨rfl, rfl, rfl, rfl, rfl, rfl, rfl, trivial⟩, rfl, hK, hO91, hO92, hO125, hO154, (by first | exact hd99 | exact Df.re hd99), (by first | exact (hd132).symm | exact Df.re (hd132).symm), (by first | exact (hd133).symm | exact Df.re (hd133).symm), (by first | exact (hd161).symm | exact Df.re (hd161).symm), (by first | exact (hd162).symm | exact Df.re (hd162).symm), (by first | exact (hd163).symm | exact Df.re (hd163).symm)⟩
          · replace h := bif_f hb105 h
            refine c_exit ?_
            refine q_then_x ?_
            refine q_then_x ?_
            refine q_blk_hit ?_
            obtain rfl := Option.some.inj h
            obtain rfl := hres _ rfl
            exact ⟨rfl, _, σ90, a93, c94, a96, c97, fr_join ⟨rfl, rfl, rfl, rfl, trivial⟩, rfl, hK, hO95, hO98, (by first | exact hd104 | exact Df.re hd104)⟩
        · clear hj
          have h := h'
          clear h'
          rintro e a w ⟨rfl, ρ, σ164, a165, c166, a168, c169, rfl, rfl, hK, hO167, hO170, hd171⟩
          refine q_then ?_
          refine c_seq ?_
          refine rg ?_
          refine st (v := (Sl a165 o87.1 c166)) (rv_move rfl) ?_
          obtain ⟨σ172, hw173, m174, hR175⟩ := hO167.pub' (Nat.le_refl _)
          rw [← hw173]
          obtain ⟨r176, hx177, h'⟩ := bind_some h
          clear h
          have h := h'; clear h'
          refine st_call (c_impl_ValidVector (hR175.low (Nat.zero_le _)) hx177) rfl ?_
          have hd180 := ltb_size hO167.ltb hw173
          have hd181 := ltb_size hO170.ltb hw173
          have hKs := size_le hK.size hw173
          rintro _ σ178 m179 rfl
          obtain ⟨σ182, hw183, m184, hxl185, hvl186⟩ := lent hw173 m179
          rw [← hw183]
          replace hO167 := hO167.mod0 m184
          replace hO170 := hO170.mod0 m184
          replace hK := hK.none m184
          clear hKs m184
          refine st (v := (B (!r176))) (rv_not rfl) ?_
          refine st (v := (B (!r176))) (rv_move rfl) ?_
          rcases Bool.eq_false_or_eq_true (!r176) with hb187 | hb187
          · replace h := bif_t hb187 h
            refine st_skip (congrArg some hb187) ?_
            refine st_skip (congrArg some hb187) ?_
            refine st_skip (congrArg some hb187) ?_
            refine st (v := (B true)) (rv_pick_t (congrArg B hb187) rfl) ?_
            refine st (v := (B true)) (rv_move rfl) ?_
            refine st_skip rfl ?_
            refine st_skip rfl ?_
            refine st_skip rfl ?_
            refine st_skip rfl ?_
            refine st_skip rfl ?_
            refine st_skip rfl ?_
            refine st (v := (B true)) (rv_pick_t rfl rfl) ?_
            refine st (v := (B true)) (rv_assign rfl) ?_
            refine w_end ?_
            refine q_then ?_
            refine c_ret ?_
            obtain rfl := Option.some.inj h
            exact bodyPost_ret (v := (B true)) (results_fr1 Try.results8 rfl _) rfl ⟨_, σ182, rfl, rfl, hK, rfl⟩
          · replace h := bif_f hb187 h
            refine st_g (v := (Sl a168 o87.2 c169)) (congrArg some hb187) (rv_move rfl) ?_
            obtain ⟨σ188, hw189, m190, hR191⟩ := hO170.pub' (Nat.le_refl _)
            rw [← hw189]
            obtain ⟨r192, hx193, h'⟩ := bind_some h
            clear h
            have h := h'; clear h'
            refine st_call_g (by exact (congrArg some hb187)) (c_impl_ValidVector (hR191.low (Nat.zero_le _)) hx193) rfl ?_
            have hd196 := ltb_size hO167.ltb hw189
            have hd197 := ltb_size hO170.ltb hw189
            have hKs := size_le hK.size hw189
            rintro _ σ194 m195 rfl
            obtain ⟨σ198, hw199, m200, hxl201, hvl202⟩ := lent hw189 m195
            rw [← hw199]
            replace hO167 := hO167.mod0 m200
            replace hO170 := hO170.mod0 m200
            replace hK := hK.none m200
            clear hKs m200
            refine st_g (v := (B (!r192))) (congrArg some hb187) (rv_not rfl) ?_
            refine st (v := (B (!r192))) (rv_pick_f (congrArg B hb187) rfl) ?_
            refine st (v := (B (!r192))) (rv_move rfl) ?_
            rcases Bool.eq_false_or_eq_true (!r192) with hb203 | hb203
            · replace h := bif_t hb203 h
              refine st_skip (congrArg some hb203) ?_
              refine st_skip (congrArg some hb203) ?_
              refine st_skip (congrArg some hb203) ?_
              refine st_skip (congrArg some hb203) ?_
              refine st_skip (congrArg some hb203) ?_
              refine st_skip (congrArg some hb203) ?_
              refine st (v := (B true)) (rv_pick_t (congrArg B hb203) rfl) ?_
              refine st (v := (B true)) (rv_assign rfl) ?_
              refine w_end ?_
              refine q_then ?_
              refine c_ret ?_
              obtain rfl := Option.some.inj h
              exact bodyPost_ret (v := (B true)) (results_fr1 Try.results8 rfl _) rfl ⟨_, σ198, rfl, rfl, hK, rfl⟩
            · replace h := bif_f hb203 h
              refine st_g (v := (I r2.1)) (congrArg some hb203) (rv_move rfl) ?_
              refine st_g (v := (Sl a165 o87.1 c166)) (congrArg some hb203) (rv_move rfl) ?_
              refine st_g (v := (Sl a168 o87.2 c169)) (congrArg some hb203) (rv_move rfl) ?_
              have hg208 := hO167.ge
              obtain ⟨σ204, hw207, m205, hR206⟩ := hO167.pub' (Nat.le_refl _)
              rw [← hw207]; clear hw207
              replace hO170 := hO170.mod' m205 (by first | exact hd171 | exact Df.re hd171)
              replace hK := hK.own m205 hg208
              have hg213 := hO170.ge
              obtain ⟨σ209, hw212, m210, hR211⟩ := hO170.pub' (Nat.le_refl _)
              rw [← hw212]; clear hw212
              replace hR206 := hR206.mod m210
              replace hK := hK.own m210 hg213
              obtain ⟨r214, hx215, h'⟩ := bind_some h
              clear h
              have h := h'; clear h'
              refine st_call_g (by exact (congrArg some hb203)) (c_impl_Distance (hR206.low (Nat.zero_le _)) (hR211.low (Nat.zero_le _)) hx215) rfl ?_
              have hKs := hK.size
              rintro _ σ216 m217 rfl
              replace hR206 := hR206.mod m217
              replace hR211 := hR211.mod m217
              replace hK := hK.none m217
              clear hKs m217
              refine st_g (v := (I r21)) (congrArg some hb203) (rv_move rfl) ?_
              refine st_g (v := (B (r214 == r21))) (congrArg some hb203) (rv_eql (a := r214) (b := r21) rfl rfl) ?_
              refine st (v := (B (r214 == r21))) (rv_pick_f (congrArg B hb203) rfl) ?_
              refine st (v := (B (r214 == r21))) (rv_assign rfl) ?_
              refine w_end ?_
              refine q_then ?_
              refine c_ret ?_
              obtain rfl := Option.some.inj h
              exact bodyPost_ret (v := (B (r214 == r21))) (results_fr1 Try.results8 rfl _) rfl ⟨_, σ216, rfl, rfl, hK, rfl⟩

theorem c_laws_FnDistanceOne {σ0 : St} {code_0 : List UInt8} {acode_0 : Option Addr} {ccode_0 : Nat} (hRcode_0 : RS 0 σ0 (Sl acode_0 code_0 ccode_0) code_0) {r : Bool} (h : M.laws_FnDistanceOne code_0 = some r) :
    Cal Try.prog 9 [(Sl acode_0 code_0 ccode_0)] none σ0 (fun v σ' => v = (B r)) := by
  refine ⟨⟨_, _, Try.func9, rfl, rfl⟩, ?_⟩
  refine enter (n := 77) Try.func9 rfl rfl rfl ?_
  unfold M.laws_FnDistanceOne at h
  have hK : Mod none σ0 σ0 := Mod.refl _ _
  refine c_seq ?_
  refine rg ?_
  refine st (v := (B false)) (rv_assign rfl) ?_
  refine w_end ?_
  refine q_then ?_
  refine c_seq ?_
  refine c_seq ?_
  refine rg ?_
  refine st (v := (Sl acode_0 code_0 ccode_0)) (rv_move rfl) ?_
  refine st (v := (I (code_0.length : Int))) (rv_len Try.underlying22 rfl) ?_
  refine st (v := (B (decide (1048576 < (code_0.length : Int))))) (rv_gtr (a := (code_0.length : Int)) (b := 1048576) rfl rfl) ?_
  refine w_end ?_
  refine q_then ?_
  refine cd_cond (decide (1048576 < (code_0.length : Int))) rfl (fun hb1 => ?_) (fun hb1 => ?_)
  · replace h := bif_t hb1 h
    refine c_seq ?_
    refine rg ?_
    refine st (v := (B true)) (rv_assign rfl) ?_
    refine w_end ?_
    refine q_then ?_
    refine c_ret ?_
    refine q_then_r ?_
    obtain rfl := Option.some.inj h
    exact bodyPost_ret (v := (B true)) (results_fr1 Try.results9 rfl _) rfl ⟨_, σ0, rfl, rfl, hK, rfl⟩
  · replace h := bif_f hb1 h
    refine c_skip ?_
    refine q_then ?_
    refine c_seq ?_
    refine rg ?_
    refine st (v := (Sl acode_0 code_0 ccode_0)) (rv_move rfl) ?_
    obtain ⟨r2, hx3, h'⟩ := bind_some h
    clear h
    have h := h'; clear h'
    refine st_call (c_spec_DrawDistance hRcode_0 hx3) rfl ?_
    have hKs := hK.size
    rintro _ σ4 m5 ⟨a6, c7, a9, c10, rfl, hO8, hO11, hd12⟩
    replace hRcode_0 := hRcode_0.mod m5
    replace hK := hK.none m5
    have hO8g := hO8.ge
    replace hO8 := hO8.lo hKs
    replace hO8 := hO8.low' hKs
    have hO11g := hO11.ge
    replace hO11 := hO11.lo hKs
    replace hO11 := hO11.low' hKs
    clear hKs m5 hO8g hO11g
    refine st (v := (.tuple #[(I r2.1), (Sl a6 r2.2.1 c7), (Sl a9 r2.2.2 c10)])) (rv_move rfl) ?_
    refine st (v := (I r2.1)) (rv_extract rfl rfl) ?_
    refine st (v := (Sl a6 r2.2.1 c7)) (rv_extract rfl rfl) ?_
    refine st (v := (Sl a9 r2.2.2 c10)) (rv_extract rfl rfl) ?_
    refine st (v := (I r2.1)) (rv_assign rfl) ?_
    refine st (v := (Sl a6 r2.2.1 c7)) (rv_assign rfl) ?_
    refine st (v := (Sl a9 r2.2.2 c10)) (rv_assign rfl) ?_
    refine w_end ?_
    refine q_then ?_
    refine c_seq ?_
    refine rg ?_
    refine st (v := (I r2.1)) (rv_move rfl) ?_
    refine st (v := (Sl a6 r2.2.1 c7)) (rv_move rfl) ?_
    refine st (v := (Sl a9 r2.2.2 c10)) (rv_move rfl) ?_
    obtain ⟨σ13, hw14, m15, hR16⟩ := hO8.pub' (Nat.le_refl _)
    obtain ⟨σ17, hw18, m19, hR20⟩ := (hO11.mod' m15 (by first | exact hd12 | exact Df.re hd12)).pub' (Nat.le_refl _)
    rw [← (hw18.trans hw14)]
    obtain ⟨r21, hx22, h'⟩ := bind_some h
    clear h
    have h := h'; clear h'
    refine st_call (c_impl_Distance ((hR16.low (Nat.zero_le _)).mod m19) (hR20.low (Nat.zero_le _)) hx22) rfl ?_
    have hd25 := ltb_size hO8.ltb (hw18.trans hw14)
    have hd26 := ltb_size hO11.ltb (hw18.trans hw14)
    have hKs := size_le hK.size (hw18.trans hw14)
    rintro _ σ23 m24 rfl
    obtain ⟨σ27, hw28, m29, hxl30, hvl31⟩ := lent (hw18.trans hw14) m24
    rw [← hw28]
    replace hRcode_0 := hRcode_0.mod m29
    replace hO8 := hO8.mod0 m29
    replace hO11 := hO11.mod0 m29
    replace hK := hK.none m29
    clear hKs m29
    refine st (v := (I r21)) (rv_assign rfl) ?_
    refine w_end ?_
    refine q_then ?_
    refine c_seq ?_
    refine c_seq ?_
    obtain ⟨o32, hj, h'⟩ := bind_some h
    clear h
    refine c_cut (fun e a w => e = .normal ∧ ∃ (ρ : Nat → Value) (σ : St), a = fr 77 (updL ρ [(0, (Sl acode_0 code_0 ccode_0)), (3, (I r2.1)), (4, (Sl a6 r2.2.1 c7)), (5, (Sl a9 r2.2.2 c10)), (6, (I r21)), (32, (B o32))]) ∧ w = σ.w ∧ Mod none σ0 σ ∧ RS 0 σ (Sl acode_0 code_0 ccode_0) code_0 ∧ Ow σ σ0.size σ0.size (Sl a6 r2.2.1 c7) r2.2.1 ∧ Ow σ σ0.size σ0.size (Sl a9 r2.2.2 c10) r2.2.2 ∧ Df (blk (Sl a9 r2.2.2 c10)) (blk (Sl a6 r2.2.1 c7))) ?_ ?_
    · clear h'
      rename _ = some o32 => h
      refine rg ?_
      refine st (v := (I r21)) (rv_move rfl) ?_
      refine st (v := (I r2.1)) (rv_move rfl) ?_
      refine st (v := (Sl a6 r2.2.1 c7)) (rv_move rfl) ?_
      refine st (v := (Sl a9 r2.2.2 c10)) (rv_move rfl) ?_
      obtain ⟨σ33, hw34, m35, hR36⟩ := hO8.pub' (Nat.le_refl _)
      obtain ⟨σ37, hw38, m39, hR40⟩ := (hO11.mod' m35 (by first | exact hd12 | exact Df.re hd12)).pub' (Nat.le_refl _)
      rw [← (hw38.trans hw34)]
      obtain ⟨r41, hx42, h'⟩ := bind_some h
      clear h
      have h := h'; clear h'
      refine st_call (c_spec_Distance ((hR36.low (Nat.zero_le _)).mod m39) (hR40.low (Nat.zero_le _)) hx42) rfl ?_
      have hd45 := ltb_size hO8.ltb (hw38.trans hw34)
      have hd46 := ltb_size hO11.ltb (hw38.trans hw34)
      have hKs := size_le hK.size (hw38.trans hw34)
      rintro _ σ43 m44 rfl
      obtain ⟨σ47, hw48, m49, hxl50, hvl51⟩ := lent (hw38.trans hw34) m44
      rw [← hw48]
      replace hRcode_0 := hRcode_0.mod m49
      replace hO8 := hO8.mod0 m49
      replace hO11 := hO11.mod0 m49
      replace hK := hK.none m49
      clear hKs m49
      refine st (v := (B (r21 != r41))) (rv_neq (a := r21) (b := r41) rfl rfl) ?_
      refine st (v := (B (r21 != r41))) (rv_move rfl) ?_
      rcases Bool.eq_false_or_eq_true (r21 != r41) with hb52 | hb52
      · replace h := bif_t hb52 h
        refine st_skip (congrArg some hb52) ?_
        refine st_skip (congrArg some hb52) ?_
        refine st (v := (B true)) (rv_pick_t (congrArg B hb52) rfl) ?_
        refine w_end ?_
        obtain rfl := Option.some.inj h
        exact ⟨rfl, _, σ47, fr_join ⟨rfl, rfl, rfl, rfl, rfl, rfl, trivial⟩, rfl, hK, hRcode_0, hO8, hO11, (by first | exact hd12 | exact Df.re hd12)⟩
      · replace h := bif_f hb52 h
        refine st_g (v := (I r21)) (congrArg some hb52) (rv_move rfl) ?_
        refine st_g (v := (B (decide (r21 < 0)))) (congrArg some hb52) (rv_lss (a := r21) (b := 0) rfl rfl) ?_
        refine st (v := (B (decide (r21 < 0)))) (rv_pick_f (congrArg B hb52) rfl) ?_
        refine w_end ?_
        obtain rfl := Option.some.inj h
        exact ⟨rfl, _, σ47, fr_join ⟨rfl, rfl, rfl, rfl, rfl, rfl, trivial⟩, rfl, hK, hRcode_0, hO8, hO11, (by first | exact hd12 | exact Df.re hd12)⟩
    · clear hj
      have h := h'
      clear h'
      rintro e a w ⟨rfl, ρ, σ53, rfl, rfl, hK, hR54, hO55, hO56, hd57⟩
      refine q_then ?_
      refine cd_cond o32 rfl (fun hb58 => ?_) (fun hb58 => ?_)
      · replace h := bif_t hb58 h
        refine c_seq ?_
        refine rg ?_
        refine st (v := (I r21)) (rv_move rfl) ?_
        refine st (v := (I r2.1)) (rv_move rfl) ?_
        refine st (v := (Sl a6 r2.2.1 c7)) (rv_move rfl) ?_
        refine st (v := (Sl a9 r2.2.2 c10)) (rv_move rfl) ?_
        have hg63 := hO55.ge
        obtain ⟨σ59, hw62, m60, hR61⟩ := hO55.pub' (Nat.le_refl _)
        rw [← hw62]; clear hw62
        replace hO56 := hO56.mod' m60 (by first | exact hd57 | exact Df.re hd57)
        replace hK := hK.own m60 hg63
        have hg68 := hO56.ge
        obtain ⟨σ64, hw67, m65, hR66⟩ := hO56.pub' (Nat.le_refl _)
        rw [← hw67]; clear hw67
        replace hR61 := hR61.mod m65
        replace hK := hK.own m65 hg68
        obtain ⟨r69, hx70, h'⟩ := bind_some h
        clear h
        have h := h'; clear h'
        refine st_call (c_spec_Distance (hR61.low (Nat.zero_le _)) (hR66.low (Nat.zero_le _)) hx70) rfl ?_
        have hKs := hK.size
        rintro _ σ71 m72 rfl
        replace hR61 := hR61.mod m72
        replace hR66 := hR66.mod m72
        replace hK := hK.none m72
        clear hKs m72
        refine st (v := (B (r21 == r69))) (rv_eql (a := r21) (b := r69) rfl rfl) ?_
        refine st (v := (B (r21 == r69))) (rv_assign rfl) ?_
        refine w_end ?_
        refine q_then ?_
        refine c_ret ?_
        refine q_then_r ?_
        obtain rfl := Option.some.inj h
        exact bodyPost_ret (v := (B (r21 == r69))) (results_fr1 Try.results9 rfl _) rfl ⟨_, σ71, rfl, rfl, hK, rfl⟩
      · replace h := bif_f hb58 h
        refine c_skip ?_
        refine q_then ?_
        refine c_seq ?_
        refine rg ?_
        refine st (v := (Sl acode_0 code_0 ccode_0)) (rv_move rfl) ?_
        refine st (v := (I (code_0.length : Int))) (rv_len Try.underlying22 rfl) ?_
        refine st (v := (I ((code_0.length : Int).tmod 4))) (rv_rem (a := (code_0.length : Int)) (b := 4) rfl rfl (by decide)) ?_
        refine st (v := (I ((code_0.length : Int).tmod 4))) (rv_assign rfl) ?_
        refine w_end ?_
        refine q_then ?_
        refine c_seq ?_
        refine rg ?_
        refine st_buildSlice (lo := σ0.size) (el := σ0.size) (xs := ([] : List Int)) (ps := []) (cs := []) Try.underlying24 ti3 rfl rfl (by kernel_rfl) (.nil) rfl ?_ hK.size (wanted_none _ rfl _)
        intro b74 σ75 hbn77 m76 hO73
        have hd78 := hO55.df' hbn77
        have hd79 := hO56.df' hbn77
        replace hO55 := hO55.mod0 m76
        replace hO56 := hO56.mod0 m76
        replace hK := hK.none m76
        clear hbn77 m76
        refine st (v := (Sl a6 r2.2.1 c7)) (rv_move rfl) ?_
        obtain ⟨xs80, hx81, h'⟩ := bind_some h
        clear h
        have h := h'; clear h'
        have hg82 := hO73.ge
        refine st_append Try.underlying24 Try.underlying24 ti3 rfl rfl (by decide) hO73 hO55.rd hx81 hK.size rfl rfl ?_ (wanted_none _ rfl _)
        have hd89 := hO55.ltb
        have hd90 := hO56.ltb
        intro a87 c88 σ83 m84 hO85 hq86
        replace hO55 := hO55.mod' m84 (by first | exact hd78 | exact Df.re hd78)
        replace hO56 := hO56.mod' m84 (by first | exact hd79 | exact Df.re hd79)
        replace hK := hK.own m84 hg82
        have hd91 := Df.app hd78 hd89 hq86
        have hd92 := Df.app hd79 hd90 hq86
        clear hq86 m84
        refine st (v := (Sl a87 xs80 c88)) (rv_assign rfl) ?_
        refine w_end ?_
        refine q_then ?_
        refine c_seq ?_
        refine rg ?_
        refine st (v := (Sl a87 xs80 c88)) (rv_move rfl) ?_
        refine st (v := (I ((code_0.length : Int).tmod 4))) (rv_move rfl) ?_
        refine st (v := (Sl a9 r2.2.2 c10)) (rv_move rfl) ?_
        refine st (v := (I ((code_0.length : Int).tmod 4))) (rv_move rfl) ?_
        obtain ⟨x93, hx94, h'⟩ := bind_some h
        clear h
        have h := h'; clear h'
        obtain ⟨b96, o97, hi95, -⟩ := hO56.ix hx94
        refine st (v := (pt b96 o97)) (rv_ix Try.underlying24 ti3 rfl rfl hi95) ?_
        refine st (v := (I x93)) (rv_load1 Try.underlying3 rfl rfl (hO56.at hx94 hi95).int) ?_
        obtain ⟨x98, hx99, h'⟩ := bind_some h
        clear h
        have h := h'; clear h'
        obtain ⟨b101, o102, hi100, -⟩ := hO85.ix hx99
        refine st (v := (pt b101 o102)) (rv_ix Try.underlying24 ti3 rfl rfl hi100) ?_
        have hg107 := hO85.ge
        refine st_store_own (e' := x93) (vs := [(I x93)]) (k := 0) ti3 hO85 hx99 hi100 rfl rfl rfl rfl rfl (Nat.le_of_ble_eq_true rfl) (by simp [plain]) (by rintro _ rfl; exact rfl) ?_
        intro σ103 m104 hO106 hs105; clear hs105
        replace hO55 := hO55.mod' m104 (by first | exact hd91 | exact Df.re hd91)
        replace hK := hK.own m104 hg107
        replace hO106 := Ow.relen hO106 List.length_set.symm
        rw [show (Sl a87 xs80 c88) = (Sl a87 (xs80.set ((code_0.length : Int).tmod 4).toNat x93) c88) from sl_len List.length_set.symm]
        refine w_end ?_
        refine q_then ?_
        refine c_seq ?_
        refine rg ?_
        refine st (v := (Sl a6 r2.2.1 c7)) (rv_move rfl) ?_
        refine st (v := (Sl a87 (xs80.set ((code_0.length : Int).tmod 4).toNat x93) c88)) (rv_move rfl) ?_
        obtain ⟨σ108, hw109, m110, hR111⟩ := hO55.pub' (Nat.le_refl _)
        obtain ⟨σ112, hw113, m114, hR115⟩ := (hO106.mod' m110 (by first | exact (hd91).symm | exact Df.re (hd91).symm)).pub' (Nat.le_refl _)
        rw [← (hw113.trans hw109)]
        obtain ⟨r116, hx117, h'⟩ := bind_some h
        clear h
        have h := h'; clear h'
        refine st_call (c_impl_Distance ((hR111.low (Nat.zero_le _)).mod m114) (hR115.low (Nat.zero_le _)) hx117) rfl ?_
        have hd120 := ltb_size hO55.ltb (hw113.trans hw109)
        have hd121 := ltb_size hO106.ltb (hw113.trans hw109)
        have hKs := size_le hK.size (hw113.trans hw109)
        rintro _ σ118 m119 rfl
        obtain ⟨σ122, hw123, m124, hxl125, hvl126⟩ := lent (hw113.trans hw109) m119
        rw [← hw123]
        replace hO55 := hO55.mod0 m124
        replace hO106 := hO106.mod0 m124
        replace hK := hK.none m124
        clear hKs m124
        refine st (v := (I r116)) (rv_assign rfl) ?_
        refine w_end ?_
        refine q_then ?_
        refine c_seq ?_
        refine rg ?_
        refine st (v := (I r116)) (rv_move rfl) ?_
        refine st (v := (Sl a6 r2.2.1 c7)) (rv_move rfl) ?_
        refine st (v := (Sl a87 (xs80.set ((code_0.length : Int).tmod 4).toNat x93) c88)) (rv_move rfl) ?_
        obtain ⟨σ127, hw128, m129, hR130⟩ := hO55.pub' (Nat.le_refl _)
        obtain ⟨σ131, hw132, m133, hR134⟩ := (hO106.mod' m129 (by first | exact (hd91).symm | exact Df.re (hd91).symm)).pub' (Nat.le_refl _)
        rw [← (hw132.trans hw128)]
        obtain ⟨r135, hx136, h'⟩ := bind_some h
        clear h
        have h := h'; clear h'
        refine st_call (c_impl_Distance ((hR130.low (Nat.zero_le _)).mod m133) (hR134.low (Nat.zero_le _)) hx136) rfl ?_
        have hd139 := ltb_size hO55.ltb (hw132.trans hw128)
        have hd140 := ltb_size hO106.ltb (hw132.trans hw128)
        have hKs := size_le hK.size (hw132.trans hw128)
        rintro _ σ137 m138 rfl
        obtain ⟨σ141, hw142, m143, hxl144, hvl145⟩ := lent (hw132.trans hw128) m138
        rw [← hw142]
        replace hO55 := hO55.mod0 m143
        replace hO106 := hO106.mod0 m143
        replace hK := hK.none m143
        clear hKs m143
        refine st (v := (B (r116 == r135))) (rv_eql (a := r116) (b := r135) rfl rfl) ?_
        refine st (v := (B (r116 == r135))) (rv_move rfl) ?_
        rcases Bool.eq_false_or_eq_true (r116 == r135) with hb146 | hb146
        · replace h := bif_t hb146 h
          refine st_g (v := (I r116)) (congrArg some hb146) (rv_move rfl) ?_
          refine st_g (v := (I r116)) (congrArg some hb146) (rv_move rfl) ?_
          refine st_g (v := (I (w64 (r116 * r116)))) (congrArg some hb146) (rv_mul (a := r116) (b := r116) rfl rfl) ?_
          refine st_g (v := (Sl a6 r2.2.1 c7)) (congrArg some hb146) (rv_move rfl) ?_
          refine st_g (v := (Sl a87 (xs80.set ((code_0.length : Int).tmod 4).toNat x93) c88)) (congrArg some hb146) (rv_move rfl) ?_
          obtain ⟨σ147, hw148, m149, hR150⟩ := hO55.pub' (Nat.le_refl _)
          obtain ⟨σ151, hw152, m153, hR154⟩ := (hO106.mod' m149 (by first | exact (hd91).symm | exact Df.re (hd91).symm)).pub' (Nat.le_refl _)
          rw [← (hw152.trans hw148)]
          obtain ⟨r155, hx156, h'⟩ := bind_some h
          clear h
          have h := h'; clear h'
          refine st_call_g (by exact (congrArg some hb146)) (c_impl_Distance ((hR150.low (Nat.zero_le _)).mod m153) (hR154.low (Nat.zero_le _)) hx156) rfl ?_
          have hd159 := ltb_size hO55.ltb (hw152.trans hw148)
          have hd160 := ltb_size hO106.ltb (hw152.trans hw148)
          have hKs := size_le hK.size (hw152.trans hw148)
          rintro _ σ157 m158 rfl
          obtain ⟨σ161, hw162, m163, hxl164, hvl165⟩ := lent (hw152.trans hw148) m158
          rw [← hw162]
          replace hO55 := hO55.mod0 m163
          replace hO106 := hO106.mod0 m163
          replace hK := hK.none m163
          clear hKs m163
          refine st_g (v := (B ((w64 (r116 * r116)) == r155))) (congrArg some hb146) (rv_eql (a := (w64 (r116 * r116))) (b := r155) rfl rfl) ?_
          refine st (v := (B ((w64 (r116 * r116)) == r155))) (rv_pick_t (congrArg B hb146) rfl) ?_
          refine st (v := (B ((w64 (r116 * r116)) == r155))) (rv_move rfl) ?_
          rcases Bool.eq_false_or_eq_true ((w64 (r116 * r116)) == r155) with hb166 | hb166
          · replace h := bif_t hb166 h
            refine st_g (v := (Sl a6 r2.2.1 c7)) (congrArg some hb166) (rv_move rfl) ?_
            refine st_g (v := (Sl a87 (xs80.set ((code_0.length : Int).tmod 4).toNat x93) c88)) (congrArg some hb166) (rv_move rfl) ?_
            have hg171 := hO55.ge
            obtain ⟨σ167, hw170, m168, hR169⟩ := hO55.pub' (Nat.le_refl _)
            rw [← hw170]; clear hw170
            replace hO106 := hO106.mod' m168 (by first | exact (hd91).symm | exact Df.re (hd91).symm)
            replace hK := hK.own m168 hg171
            have hg176 := hO106.ge
            obtain ⟨σ172, hw175, m173, hR174⟩ := hO106.pub' (Nat.le_refl _)
            rw [← hw175]; clear hw175
            replace hR169 := hR169.mod m173
            replace hK := hK.own m173 hg176
            obtain ⟨r177, hx178, h'⟩ := bind_some h
            clear h
            have h := h'; clear h'
            refine st_call_g (by exact (congrArg some hb166)) (c_impl_Distance (hR169.low (Nat.zero_le _)) (hR174.low (Nat.zero_le _)) hx178) rfl ?_
            have hKs := hK.size
            rintro _ σ179 m180 rfl
            replace hR169 := hR169.mod m180
            replace hR174 := hR174.mod m180
            replace hK := hK.none m180
            clear hKs m180
            refine st_g (v := (I r116)) (congrArg some hb166) (rv_move rfl) ?_
            refine st_g (v := (I (min r116 1))) (congrArg some hb166) (rv_min rfl rfl) ?_
            refine st_g (v := (B (r177 == (min r116 1)))) (congrArg some hb166) (rv_eql (a := r177) (b := (min r116 1)) rfl rfl) ?_
            refine st (v := (B (r177 == (min r116 1)))) (rv_pick_t (congrArg B hb166) rfl) ?_
            refine st (v := (B (r177 == (min r116 1)))) (rv_assign rfl) ?_
            refine w_end ?_
            refine q_then ?_
            refine c_ret ?_
            obtain rfl := Option.some.inj h
            exact bodyPost_ret (v := (B (r177 == (min r116 1)))) (results_fr1 Try.results9 rfl _) rfl ⟨_, σ179, rfl, rfl, hK, rfl⟩
          · replace h := bif_f hb166 h
            refine st_skip (congrArg some hb166) ?_
            refine st_skip (congrArg some hb166) ?_
            refine st_skip (congrArg some hb166) ?_
            refine st_skip (congrArg some hb166) ?_
            refine st_skip (congrArg some hb166) ?_
            refine st_skip (congrArg some hb166) ?_
            refine st (v := (B false)) (rv_pick_f (congrArg B hb166) rfl) ?_
            refine st (v := (B false)) (rv_assign rfl) ?_
            refine w_end ?_
            refine q_then ?_
            refine c_ret ?_
            obtain rfl := Option.some.inj h
            exact bodyPost_ret (v := (B false)) (results_fr1 Try.results9 rfl _) rfl ⟨_, σ161, rfl, rfl, hK, rfl⟩
        · replace h := bif_f hb146 h
          refine st_skip (congrArg some hb146) ?_
          refine st_skip (congrArg some hb146) ?_
          refine st_skip (congrArg some hb146) ?_
          refine st_skip (congrArg some hb146) ?_
          refine st_skip (congrArg some hb146) ?_
          refine st_skip (congrArg some hb146) ?_
          refine st_skip (congrArg some hb146) ?_
          refine st (v := (B false)) (rv_pick_f (congrArg B hb146) rfl) ?_
          refine st (v := (B false)) (rv_move rfl) ?_
          refine st_skip rfl ?_
          refine st_skip rfl ?_
          refine st_skip rfl ?_
          refine st_skip rfl ?_
          refine st_skip rfl ?_
          refine st_skip rfl ?_
          refine st (v := (B false)) (rv_pick_f rfl rfl) ?_
          refine st (v := (B false)) (rv_assign rfl) ?_
          refine w_end ?_
          refine q_then ?_
          refine c_ret ?_
          obtain rfl := Option.some.inj h
          exact bodyPost_ret (v := (B false)) (results_fr1 Try.results9 rfl _) rfl ⟨_, σ141, rfl, rfl, hK, rfl⟩

theorem c_spec_DrawDotOf {σ0 : St} {code_0 : List UInt8} {acode_0 : Option Addr} {ccode_0 : Nat} (hRcode_0 : RS 0 σ0 (Sl acode_0 code_0 ccode_0) code_0) {r : (List Int) × (List Int)} (h : M.spec_DrawDotOf code_0 = some r) :
    Cal Try.prog 35 [(Sl acode_0 code_0 ccode_0)] none σ0 (fun v σ' => ∃ (a0 : Option Addr) (c0 : Nat), ∃ (a1 : Option Addr) (c1 : Nat), v = (.tuple #[(Sl a0 r.1 c0), (Sl a1 r.2 c1)]) ∧ Ow σ' σ0.size σ0.size (Sl a0 r.1 c0) r.1 ∧ Ow σ' σ0.size σ0.size (Sl a1 r.2 c1) r.2 ∧ Df (blk (Sl a1 r.2 c1)) (blk (Sl a0 r.1 c0))) := by
  refine ⟨⟨_, _, Try.func35, rfl, rfl⟩, ?_⟩
  refine enter (n := 13) Try.func35 rfl rfl rfl ?_
  unfold M.spec_DrawDotOf at h
  have hK : Mod none σ0 σ0 := Mod.refl _ _
  refine c_seq ?_
  refine rg ?_
  refine st (v := (.slice none 0 0)) (rv_assign rfl) ?_
  refine st (v := (.slice none 0 0)) (rv_assign rfl) ?_
  refine w_end ?_
  refine q_then ?_
  refine c_seq ?_
  refine rg ?_
  refine st (v := (Sl acode_0 code_0 ccode_0)) (rv_move rfl) ?_
  obtain ⟨r1, hx2, h'⟩ := bind_some h
  clear h
  have h := h'; clear h'
  refine st_call (c_spec_newReader hRcode_0 hx2) rfl ?_
  have hKs := hK.size
  rintro _ σ3 m4 ⟨b5, a8, c9, rfl, hR10, hge6, hB7⟩
  replace hRcode_0 := hRcode_0.mod m4
  replace hK := hK.none m4
  replace hge6 := Nat.le_trans hKs hge6
  clear hKs m4
  refine st (v := (pt b5 0)) (rv_assign rfl) ?_
  refine w_end ?_
  refine q_then ?_
  refine c_seq ?_
  refine rg ?_
  refine st (v := (pt b5 0)) (rv_move rfl) ?_
  obtain ⟨r11, hx12, h'⟩ := bind_some h
  clear h
  have h := h'; clear h'
  refine st_call (c_spec_anyVector hR10 hB7 hB7.lt hx12) rfl ?_
  have hd22 := hB7.ltb
  have hKs := hK.size
  rintro _ σ13 m14 ⟨a15, c16, a18, c19, rfl, hO17, hR20, hB21⟩
  replace hR10 := hR10.mod m14
  replace hK := hK.some m14 hge6
  have hO17g := hO17.ge
  replace hO17 := hO17.lo hKs
  replace hO17 := hO17.low' hKs
  have hd23 := Df.ge hd22 hO17g
  clear hKs m14 hO17g
  refine st (v := (Sl a15 r11.1 c16)) (rv_assign rfl) ?_
  refine w_end ?_
  refine q_then ?_
  refine c_seq ?_
  refine rg ?_
  refine st (v := (Sl a15 r11.1 c16)) (rv_move rfl) ?_
  refine st (v := (pt b5 0)) (rv_move rfl) ?_
  obtain ⟨r24, hx25, h'⟩ := bind_some h
  clear h
  have h := h'; clear h'
  refine st_call (c_spec_anyVector hR20 hB21 hB21.lt hx25) rfl ?_
  have hd35 := hO17.ltb
  have hd36 := hB21.ltb
  have hKs := hK.size
  rintro _ σ26 m27 ⟨a28, c29, a31, c32, rfl, hO30, hR33, hB34⟩
  replace hO17 := hO17.mod' m27 (by first | exact (hd23).symm | exact Df.reL (hd23).symm)
  replace hR20 := hR20.mod m27
  replace hK := hK.some m27 hge6
  have hO30g := hO30.ge
  replace hO30 := hO30.lo hKs
  replace hO30 := hO30.low' hKs
  have hd37 := Df.ge hd35 hO30g
  have hd38 := Df.ge hd36 hO30g
  clear hKs m27 hO30g
  refine st (v := (Sl a15 r11.1 c16)) (rv_assign rfl) ?_
  refine st (v := (Sl a28 r24.1 c29)) (rv_assign rfl) ?_
  refine w_end ?_
  refine q_then ?_
  refine c_ret ?_
  obtain rfl := Option.some.inj h
  exact bodyPost_ret (v := (.tuple #[(Sl a15 r11.1 c16), (Sl a28 r24.1 c29)])) (results_fr2 Try.results35 rfl rfl _) rfl ⟨_, σ26, rfl, rfl, hK, a15, c16, a28, c29, rfl, hO17, hO30, (by first | exact (hd37).symm | exact Df.re (hd37).symm)⟩

theorem c_impl_DotOf {σ0 : St} {a_0 : List Int} {b_1 : List Int} {aa_0 : Option Addr} {ca_0 : Nat} (hRa_0 : RS 0 σ0 (Sl aa_0 a_0 ca_0) a_0) {ab_1 : Option Addr} {cb_1 : Nat} (hRb_1 : RS 0 σ0 (Sl ab_1 b_1 cb_1) b_1) {r : Int × Bool} (h : M.impl_DotOf a_0 b_1 = some r) :
    Cal Try.prog 36 [(Sl aa_0 a_0 ca_0), (Sl ab_1 b_1 cb_1)] none σ0 (fun v σ' => v = (.tuple #[(I r.1), (B r.2)])) := by
  refine ⟨⟨_, _, Try.func36, rfl, rfl⟩, ?_⟩
  refine enter (n := 32) Try.func36 rfl rfl rfl ?_
  unfold M.impl_DotOf at h
  have hK : Mod none σ0 σ0 := Mod.refl _ _
  refine c_seq ?_
  refine rg ?_
  refine st (v := (I 0)) (rv_assign rfl) ?_
  refine st (v := (B false)) (rv_assign rfl) ?_
  refine w_end ?_
  refine q_then ?_
  refine c_seq ?_
  refine c_seq ?_
  obtain ⟨o1, hj, h'⟩ := bind_some h
  clear h
  refine c_cut (fun e a w => e = .normal ∧ ∃ (ρ : Nat → Value) (σ : St), a = fr 32 (updL ρ [(0, (Sl aa_0 a_0 ca_0)), (1, (Sl ab_1 b_1 cb_1)), (15, (B o1))]) ∧ w = σ.w ∧ Mod none σ0 σ ∧ RS 0 σ (Sl aa_0 a_0 ca_0) a_0 ∧ RS 0 σ (Sl ab_1 b_1 cb_1) b_1) ?_ ?_
  · clear h'
    rename _ = some o1 => h
    refine rg ?_
    refine st (v := (Sl aa_0 a_0 ca_0)) (rv_move rfl) ?_
    obtain ⟨r2, hx3, h'⟩ := bind_some h
    clear h
    have h := h'; clear h'
    refine st_call (c_impl_ValidVector hRa_0 hx3) rfl ?_
    have hKs := hK.size
    rintro _ σ4 m5 rfl
    replace hRa_0 := hRa_0.mod m5
    replace hRb_1 := hRb_1.mod m5
    replace hK := hK.none m5
    clear hKs m5
    refine st (v := (B (!r2))) (rv_not rfl) ?_
    refine st (v := (B (!r2))) (rv_move rfl) ?_
    rcases Bool.eq_false_or_eq_true (!r2) with hb6 | hb6
    · replace h := bif_t hb6 h
      refine st_skip (congrArg some hb6) ?_
      refine st_skip (congrArg some hb6) ?_
      refine st_skip (congrArg some hb6) ?_
      refine st (v := (B true)) (rv_pick_t (congrArg B hb6) rfl) ?_
      refine w_end ?_
      obtain rfl := Option.some.inj h
      exact ⟨rfl, _, σ4, fr_join ⟨rfl, rfl, rfl, trivial⟩, rfl, hK, hRa_0, hRb_1⟩
    · replace h := bif_f hb6 h
      refine st_g (v := (Sl ab_1 b_1 cb_1)) (congrArg some hb6) (rv_move rfl) ?_
      obtain ⟨r7, hx8, h'⟩ := bind_some h
      clear h
      have h := h'; clear h'
      refine st_call_g (by exact (congrArg some hb6)) (c_impl_ValidVector hRb_1 hx8) rfl ?_
      have hKs := hK.size
      rintro _ σ9 m10 rfl
      replace hRa_0 := hRa_0.mod m10
      replace hRb_1 := hRb_1.mod m10
      replace hK := hK.none m10
      clear hKs m10
      refine st_g (v := (B (!r7))) (congrArg some hb6) (rv_not rfl) ?_
      refine st (v := (B (!r7))) (rv_pick_f (congrArg B hb6) rfl) ?_
      refine w_end ?_
      obtain rfl := Option.some.inj h
      exact ⟨rfl, _, σ9, fr_join ⟨rfl, rfl, rfl, trivial⟩, rfl, hK, hRa_0, hRb_1⟩
  · clear hj
    have h := h'
    clear h'
    rintro e a w ⟨rfl, ρ, σ11, rfl, rfl, hK, hR12, hR13⟩
    refine q_then ?_
    refine cd_cond o1 rfl (fun hb14 => ?_) (fun hb14 => ?_)
    · replace h := bif_t hb14 h
      refine c_seq ?_
      refine rg ?_
      refine st (v := (I 0)) (rv_assign rfl) ?_
      refine st (v := (B false)) (rv_assign rfl) ?_
      refine w_end ?_
      refine q_then ?_
      refine c_ret ?_
      refine q_then_r ?_
      obtain rfl := Option.some.inj h
      exact bodyPost_ret (v := (.tuple #[(I 0), (B false)])) (results_fr2 Try.results36 rfl rfl _) rfl ⟨_, σ11, rfl, rfl, hK, rfl⟩
    · replace h := bif_f hb14 h
      refine c_skip ?_
      refine q_then ?_
      refine c_seq ?_
      refine rg ?_
      refine st (v := (I 0)) (rv_assign rfl) ?_
      refine w_end ?_
      refine q_then ?_
      refine c_seq ?_
      refine c_seq ?_
      refine rg ?_
      refine st (v := (I 0)) (rv_move rfl) ?_
      refine w_end ?_
      refine q_then ?_
      obtain ⟨o15, hj, h'⟩ := bind_some h
      clear h
      refine c_cut (fun e a w => e = .normal ∧ ∃ (ρ : Nat → Value) (σ : St), a = fr 32 (updL ρ [(6, (I o15))]) ∧ w = σ.w ∧ Mod none σ0 σ) ?_ ?_
      · clear h'
        rename _ = some o15 => h
        refine c_blk ?_
        refine wp_loopM _ h (fun s16 a w => ∃ (ρ : Nat → Value) (σ : St), a = fr 32 (updL ρ [(0, (Sl aa_0 a_0 ca_0)), (1, (Sl ab_1 b_1 cb_1)), (6, (I s16.1)), (16, (I s16.2))]) ∧ w = σ.w ∧ Mod none σ0 σ ∧ RS 0 σ (Sl aa_0 a_0 ca_0) a_0 ∧ RS 0 σ (Sl ab_1 b_1 cb_1) b_1) ⟨_, σ11, fr_join ⟨rfl, rfl, rfl, rfl, trivial⟩, rfl, hK, hR12, hR13⟩ ?_
        clear h
        rintro s16 a w o ⟨ρ, σ18, rfl, rfl, hK, hR19, hR20⟩ h hres
        refine c_seq ?_
        refine rg ?_
        refine st (v := (B (decide (s16.2 < 4)))) (rv_lss (a := s16.2) (b := 4) rfl rfl) ?_
        refine w_end ?_
        refine q_then ?_
        refine c_seq ?_
        refine cd_cond (decide (s16.2 < 4)) rfl (fun hb21 => ?_) (fun hb21 => ?_)
        · replace h := bif_t hb21 h
          refine c_skip ?_
          refine q_then ?_
          refine c_seq ?_
          refine c_blk ?_
          refine c_seq ?_
          refine rg ?_
          refine st (v := (I s16.2)) (rv_move rfl) ?_
          refine st (v := (I s16.2)) (rv_assign rfl) ?_
          refine w_end ?_
          refine q_then ?_
          obtain ⟨x22, hx23, h'⟩ := bind_some h
          clear h
          have h := h'; clear h'
          obtain ⟨b25, o26, hi24, -⟩ := hR19.ix hx23
          obtain ⟨x27, hx28, h'⟩ := bind_some h
          clear h
          have h := h'; clear h'
          obtain ⟨b30, o31, hi29, -⟩ := hR20.ix hx28
          refine rg_monoL (σ := σ18) 10 [eqv (I s16.1), eqv (Sl aa_0 a_0 ca_0), eqv (I s16.2), eqv (pt b25 o26), eqv (I x22), eqv (Sl ab_1 b_1 cb_1), eqv (I s16.2), eqv (pt b30 o31), eqv (I x27), eqv (I (w64 (x22 * x27)))] (by kernel_rfl) (by kernel_rfl) (mono_cons mono_eqv (mono_cons mono_eqv (mono_cons mono_eqv (mono_cons mono_eqv (mono_cons mono_eqv (mono_cons mono_eqv (mono_cons mono_eqv (mono_cons mono_eqv (mono_cons mono_eqv (mono_cons mono_eqv (mono_nil))))))))))) ?_ ?_
          · refine all_cons (by
                intro ρ σm m hoff hdep
                have e6 : look 32 ρ 6 = (I s16.1) := look_off (hoff 6 rfl) rfl
                exact does_v (v := (I s16.1)) (wanted_none _ rfl _) (rv_move e6) rfl) ?_
            refine all_cons (by
                intro ρ σm m hoff hdep
                have e0 : look 32 ρ 0 = (Sl aa_0 a_0 ca_0) := look_off (hoff 0 rfl) rfl
                exact does_v (v := (Sl aa_0 a_0 ca_0)) (wanted_none _ rfl _) (rv_move e0) rfl) ?_
            refine all_cons (by
                intro ρ σm m hoff hdep
                have e7 : look 32 ρ 7 = (I s16.2) := look_off (hoff 7 rfl) rfl
                exact does_v (v := (I s16.2)) (wanted_none _ rfl _) (rv_move e7) rfl) ?_
            refine all_cons (by
                intro ρ σm m hoff hdep
                have e20 : look 32 ρ 20 = (Sl aa_0 a_0 ca_0) := hdep 1 rfl rfl 20 rfl
                have e21 : look 32 ρ 21 = (I s16.2) := hdep 2 rfl rfl 21 rfl
                exact does_v (v := (pt b25 o26)) (wanted_none _ rfl _) (rv_ix Try.underlying24 ti3 e20 e21 hi24) rfl) ?_
            refine all_cons (by
                intro ρ σm m hoff hdep
                have e22 : look 32 ρ 22 = (pt b25 o26) := hdep 3 rfl rfl 22 rfl
                replace hR19 := hR19.mod m
                exact does_v (v := (I x22)) (wanted_none _ rfl _) (rv_load1 Try.underlying3 rfl e22 (hR19.at hx23 hi24).int) rfl) ?_
            refine all_cons (by
                intro ρ σm m hoff hdep
                have e1 : look 32 ρ 1 = (Sl ab_1 b_1 cb_1) := look_off (hoff 1 rfl) rfl
                exact does_v (v := (Sl ab_1 b_1 cb_1)) (wanted_none _ rfl _) (rv_move e1) rfl) ?_
            refine all_cons (by
                intro ρ σm m hoff hdep
                have e7 : look 32 ρ 7 = (I s16.2) := look_off (hoff 7 rfl) rfl
                exact does_v (v := (I s16.2)) (wanted_none _ rfl _) (rv_move e7) rfl) ?_
            refine all_cons (by
                intro ρ σm m hoff hdep
                have e24 : look 32 ρ 24 = (Sl ab_1 b_1 cb_1) := hdep 5 rfl rfl 24 rfl
                have e25 : look 32 ρ 25 = (I s16.2) := hdep 6 rfl rfl 25 rfl
                exact does_v (v := (pt b30 o31)) (wanted_none _ rfl _) (rv_ix Try.underlying24 ti3 e24 e25 hi29) rfl) ?_
            refine all_cons (by
                intro ρ σm m hoff hdep
                have e26 : look 32 ρ 26 = (pt b30 o31) := hdep 7 rfl rfl 26 rfl
                replace hR20 := hR20.mod m
                exact does_v (v := (I x27)) (wanted_none _ rfl _) (rv_load1 Try.underlying3 rfl e26 (hR20.at hx28 hi29).int) rfl) ?_
            refine all_cons (by
                intro ρ σm m hoff hdep
                have e23 : look 32 ρ 23 = (I x22) := hdep 4 rfl rfl 23 rfl
                have e27 : look 32 ρ 27 = (I x27) := hdep 8 rfl rfl 27 rfl
                exact does_v (v := (I (w64 (x22 * x27)))) (wanted_none _ rfl _) (rv_mul (a := x22) (b := x27) e23 e27) rfl) ?_
            exact all_nil
          · intro ρ σ32 m hoff hrel
            have e0 : look 32 ρ 0 = (Sl aa_0 a_0 ca_0) := look_off (hoff 0 rfl) rfl
            have e1 : look 32 ρ 1 = (Sl ab_1 b_1 cb_1) := look_off (hoff 1 rfl) rfl
            have e16 : look 32 ρ 16 = (I s16.2) := look_off (hoff 16 rfl) rfl
            have e19 : look 32 ρ 19 = (I s16.1) := hrel 0 rfl 19 rfl
            have e28 : look 32 ρ 28 = (I (w64 (x22 * x27))) := hrel 9 rfl 28 rfl
            replace hR19 := hR19.mod m
            replace hR20 := hR20.mod m
            replace hK := hK.none m
            rw [fr_lookL (L := [(0, (Sl aa_0 a_0 ca_0)), (1, (Sl ab_1 b_1 cb_1)), (16, (I s16.2)), (19, (I s16.1)), (28, (I (w64 (x22 * x27))))]) ⟨e0, e1, e16, e19, e28, trivial⟩]
            clear hoff hrel m e0 e1 e16 e19 e28
            refine st (v := (I (w64 (s16.1 + (w64 (x22 * x27)))))) (rv_add (a := s16.1) (b := (w64 (x22 * x27))) rfl rfl) ?_
            refine st (v := (I (w64 (s16.1 + (w64 (x22 * x27)))))) (rv_assign rfl) ?_
            refine w_end ?_
            refine q_blk ?_
            refine q_then ?_
            refine rg ?_
            refine st (v := (I (w64 (s16.2 + 1)))) (rv_add (a := s16.2) (b := 1) rfl rfl) ?_
            refine st (v := (I (w64 (s16.2 + 1)))) (rv_move rfl) ?_
            refine w_end ?_
            refine q_then ?_
            obtain rfl := Option.some.inj h
            exact ⟨_, rfl, _, σ32, fr_join ⟨rfl, rfl, rfl, rfl, trivial⟩, rfl, hK, hR19, hR20⟩
        · replace h := bif_f hb21 h
          refine c_exit ?_
          refine q_then_x ?_
          refine q_then_x ?_
          refine q_blk_hit ?_
          obtain rfl := Option.some.inj h
          obtain rfl := hres _ rfl
          exact ⟨rfl, _, σ18, fr_join ⟨rfl, trivial⟩, rfl, hK⟩
      · clear hj
        have h := h'
        clear h'
        rintro e a w ⟨rfl, ρ, σ33, rfl, rfl, hK⟩
        refine q_then ?_
        refine c_seq ?_
        refine rg ?_
        refine st (v := (I o15)) (rv_move rfl) ?_
        refine st (v := (I o15)) (rv_assign rfl) ?_
        refine st (v := (B true)) (rv_assign rfl) ?_
        refine w_end ?_
        refine q_then ?_
        refine c_ret ?_
        obtain rfl := Option.some.inj h
        exact bodyPost_ret (v := (.tuple #[(I o15), (B true)])) (results_fr2 Try.results36 rfl rfl _) rfl ⟨_, σ33, rfl, rfl, hK, rfl⟩

theorem c_spec_DotOf {σ0 : St} {a_0 : List Int} {b_1 : List Int} {aa_0 : Option Addr} {ca_0 : Nat} (hRa_0 : RS 0 σ0 (Sl aa_0 a_0 ca_0) a_0) {ab_1 : Option Addr} {cb_1 : Nat} (hRb_1 : RS 0 σ0 (Sl ab_1 b_1 cb_1) b_1) {r : Int × Bool} (h : M.spec_DotOf a_0 b_1 = some r) :
    Cal Try.prog 37 [(Sl aa_0 a_0 ca_0), (Sl ab_1 b_1 cb_1)] none σ0 (fun v σ' => v = (.tuple #[(I r.1), (B r.2)])) := by
  refine ⟨⟨_, _, Try.func37, rfl, rfl⟩, ?_⟩
  refine enter (n := 34) Try.func37 rfl rfl rfl ?_
  unfold M.spec_DotOf at h
  have hK : Mod none σ0 σ0 := Mod.refl _ _
  refine c_seq ?_
  refine rg ?_
  refine st (v := (I 0)) (rv_assign rfl) ?_
  refine st (v := (B false)) (rv_assign rfl) ?_
  refine w_end ?_
  refine q_then ?_
  refine c_seq ?_
  refine rg ?_
  refine st (v := (I 0)) (rv_assign rfl) ?_
  refine w_end ?_
  refine q_then ?_
  refine c_seq ?_
  refine c_seq ?_
  obtain ⟨o1, hj, h'⟩ := bind_some h
  clear h
  refine c_cut (fun e a w => e = .normal ∧ ∃ (ρ : Nat → Value) (σ : St), a = fr 34 (updL ρ [(0, (Sl aa_0 a_0 ca_0)), (1, (Sl ab_1 b_1 cb_1)), (6, (I 0)), (15, (B o1))]) ∧ w = σ.w ∧ Mod none σ0 σ ∧ RS 0 σ (Sl aa_0 a_0 ca_0) a_0 ∧ RS 0 σ (Sl ab_1 b_1 cb_1) b_1) ?_ ?_
  · clear h'
    rename _ = some o1 => h
    refine rg ?_
    refine st (v := (Sl aa_0 a_0 ca_0)) (rv_move rfl) ?_
    obtain ⟨r2, hx3, h'⟩ := bind_some h
    clear h
    have h := h'; clear h'
    refine st_call (c_spec_isVector hRa_0 hx3) rfl ?_
    have hKs := hK.size
    rintro _ σ4 m5 rfl
    replace hRa_0 := hRa_0.mod m5
    replace hRb_1 := hRb_1.mod m5
    replace hK := hK.none m5
    clear hKs m5
    refine st (v := (B (!r2))) (rv_not rfl) ?_
    refine st (v := (B (!r2))) (rv_move rfl) ?_
    rcases Bool.eq_false_or_eq_true (!r2) with hb6 | hb6
    · replace h := bif_t hb6 h
      refine st_skip (congrArg some hb6) ?_
      refine st_skip (congrArg some hb6) ?_
      refine st_skip (congrArg some hb6) ?_
      refine st (v := (B true)) (rv_pick_t (congrArg B hb6) rfl) ?_
      refine w_end ?_
      obtain rfl := Option.some.inj h
      exact ⟨rfl, _, σ4, fr_join ⟨rfl, rfl, rfl, rfl, trivial⟩, rfl, hK, hRa_0, hRb_1⟩
    · replace h := bif_f hb6 h
      refine st_g (v := (Sl ab_1 b_1 cb_1)) (congrArg some hb6) (rv_move rfl) ?_
      obtain ⟨r7, hx8, h'⟩ := bind_some h
      clear h
      have h := h'; clear h'
      refine st_call_g (by exact (congrArg some hb6)) (c_spec_isVector hRb_1 hx8) rfl ?_
      have hKs := hK.size
      rintro _ σ9 m10 rfl
      replace hRa_0 := hRa_0.mod m10
      replace hRb_1 := hRb_1.mod m10
      replace hK := hK.none m10
      clear hKs m10
      refine st_g (v := (B (!r7))) (congrArg some hb6) (rv_not rfl) ?_
      refine st (v := (B (!r7))) (rv_pick_f (congrArg B hb6) rfl) ?_
      refine w_end ?_
      obtain rfl := Option.some.inj h
      exact ⟨rfl, _, σ9, fr_join ⟨rfl, rfl, rfl, rfl, trivial⟩, rfl, hK, hRa_0, hRb_1⟩
  · clear hj
    have h := h'
    clear h'
    rintro e a w ⟨rfl, ρ, σ11, rfl, rfl, hK, hR12, hR13⟩
    refine q_then ?_
    refine cd_cond o1 rfl (fun hb14 => ?_) (fun hb14 => ?_)
    · replace h := bif_t hb14 h
      refine c_seq ?_
      refine rg ?_
      refine st (v := (I 0)) (rv_assign rfl) ?_
      refine st (v := (B false)) (rv_assign rfl) ?_
      refine w_end ?_
      refine q_then ?_
      refine c_ret ?_
      refine q_then_r ?_
      obtain rfl := Option.some.inj h
      exact bodyPost_ret (v := (.tuple #[(I 0), (B false)])) (results_fr2 Try.results37 rfl rfl _) rfl ⟨_, σ11, rfl, rfl, hK, rfl⟩
    · replace h := bif_f hb14 h
      refine c_skip ?_
      refine q_then ?_
      refine c_seq ?_
      refine c_seq ?_
      refine rg ?_
      refine st (v := (I 0)) (rv_assign rfl) ?_
      refine w_end ?_
      refine q_then ?_
      obtain ⟨o15, hj, h'⟩ := bind_some h
      clear h
      refine c_cut (fun e a w => e = .normal ∧ ∃ (ρ : Nat → Value) (σ : St), a = fr 34 (updL ρ [(6, (I o15))]) ∧ w = σ.w ∧ Mod none σ0 σ) ?_ ?_
      · clear h'
        rename _ = some o15 => h
        refine c_blk ?_
        refine wp_loopM _ h (fun s16 a w => ∃ (ρ : Nat → Value) (σ : St), a = fr 34 (updL ρ [(0, (Sl aa_0 a_0 ca_0)), (1, (Sl ab_1 b_1 cb_1)), (6, (I s16.1)), (7, (I s16.2))]) ∧ w = σ.w ∧ Mod none σ0 σ ∧ RS 0 σ (Sl aa_0 a_0 ca_0) a_0 ∧ RS 0 σ (Sl ab_1 b_1 cb_1) b_1) ⟨_, σ11, fr_join ⟨rfl, rfl, rfl, rfl, trivial⟩, rfl, hK, hR12, hR13⟩ ?_
        clear h
        rintro s16 a w o ⟨ρ, σ18, rfl, rfl, hK, hR19, hR20⟩ h hres
        refine c_seq ?_
        refine c_seq ?_
        refine rg ?_
        refine st (v := (I s16.2)) (rv_move rfl) ?_
        refine st (v := (Sl aa_0 a_0 ca_0)) (rv_move rfl) ?_
        refine st (v := (I (a_0.length : Int))) (rv_len Try.underlying24 rfl) ?_
        refine st (v := (B (decide (s16.2 < (a_0.length : Int))))) (rv_lss (a := s16.2) (b := (a_0.length : Int)) rfl rfl) ?_
        refine w_end ?_
        refine q_then ?_
        refine cd_cond (decide (s16.2 < (a_0.length : Int))) rfl (fun hb21 => ?_) (fun hb21 => ?_)
        · replace h := bif_t hb21 h
          refine c_skip ?_
          refine q_then ?_
          refine c_seq ?_
          refine c_blk ?_
          obtain ⟨x22, hx23, h'⟩ := bind_some h
          clear h
          have h := h'; clear h'
          obtain ⟨b25, o26, hi24, -⟩ := hR19.ix hx23
          obtain ⟨x27, hx28, h'⟩ := bind_some h
          clear h
          have h := h'; clear h'
          obtain ⟨b30, o31, hi29, -⟩ := hR20.ix hx28
          refine rg_monoL (σ := σ18) 10 [eqv (I s16.1), eqv (Sl aa_0 a_0 ca_0), eqv (I s16.2), eqv (pt b25 o26), eqv (I x22), eqv (Sl ab_1 b_1 cb_1), eqv (I s16.2), eqv (pt b30 o31), eqv (I x27), eqv (I (w64 (x22 * x27)))] (by kernel_rfl) (by kernel_rfl) (mono_cons mono_eqv (mono_cons mono_eqv (mono_cons mono_eqv (mono_cons mono_eqv (mono_cons mono_eqv (mono_cons mono_eqv (mono_cons mono_eqv (mono_cons mono_eqv (mono_cons mono_eqv (mono_cons mono_eqv (mono_nil))))))))))) ?_ ?_
          · refine all_cons (by
                intro ρ σm m hoff hdep
                have e6 : look 34 ρ 6 = (I s16.1) := look_off (hoff 6 rfl) rfl
                exact does_v (v := (I s16.1)) (wanted_none _ rfl _) (rv_move e6) rfl) ?_
            refine all_cons (by
                intro ρ σm m hoff hdep
                have e0 : look 34 ρ 0 = (Sl aa_0 a_0 ca_0) := look_off (hoff 0 rfl) rfl
                exact does_v (v := (Sl aa_0 a_0 ca_0)) (wanted_none _ rfl _) (rv_move e0) rfl) ?_
            refine all_cons (by
                intro ρ σm m hoff hdep
                have e7 : look 34 ρ 7 = (I s16.2) := look_off (hoff 7 rfl) rfl
                exact does_v (v := (I s16.2)) (wanted_none _ rfl _) (rv_move e7) rfl) ?_
            refine all_cons (by
                intro ρ σm m hoff hdep
                have e23 : look 34 ρ 23 = (Sl aa_0 a_0 ca_0) := hdep 1 rfl rfl 23 rfl
                have e24 : look 34 ρ 24 = (I s16.2) := hdep 2 rfl rfl 24 rfl
                exact does_v (v := (pt b25 o26)) (wanted_none _ rfl _) (rv_ix Try.underlying24 ti3 e23 e24 hi24) rfl) ?_
            refine all_cons (by
                intro ρ σm m hoff hdep
                have e25 : look 34 ρ 25 = (pt b25 o26) := hdep 3 rfl rfl 25 rfl
                replace hR19 := hR19.mod m
                exact does_v (v := (I x22)) (wanted_none _ rfl _) (rv_load1 Try.underlying3 rfl e25 (hR19.at hx23 hi24).int) rfl) ?_
            refine all_cons (by
                intro ρ σm m hoff hdep
                have e1 : look 34 ρ 1 = (Sl ab_1 b_1 cb_1) := look_off (hoff 1 rfl) rfl
                exact does_v (v := (Sl ab_1 b_1 cb_1)) (wanted_none _ rfl _) (rv_move e1) rfl) ?_
            refine all_cons (by
                intro ρ σm m hoff hdep
                have e7 : look 34 ρ 7 = (I s16.2) := look_off (hoff 7 rfl) rfl
                exact does_v (v := (I s16.2)) (wanted_none _ rfl _) (rv_move e7) rfl) ?_
            refine all_cons (by
                intro ρ σm m hoff hdep
                have e27 : look 34 ρ 27 = (Sl ab_1 b_1 cb_1) := hdep 5 rfl rfl 27 rfl
                have e28 : look 34 ρ 28 = (I s16.2) := hdep 6 rfl rfl 28 rfl
                exact does_v (v := (pt b30 o31)) (wanted_none _ rfl _) (rv_ix Try.underlying24 ti3 e27 e28 hi29) rfl) ?_
            refine all_cons (by
                intro ρ σm m hoff hdep
                have e29 : look 34 ρ 29 = (pt b30 o31) := hdep 7 rfl rfl 29 rfl
                replace hR20 := hR20.mod m
                exact does_v (v := (I x27)) (wanted_none _ rfl _) (rv_load1 Try.underlying3 rfl e29 (hR20.at hx28 hi29).int) rfl) ?_
            refine all_cons (by
                intro ρ σm m hoff hdep
                have e26 : look 34 ρ 26 = (I x22) := hdep 4 rfl rfl 26 rfl
                have e30 : look 34 ρ 30 = (I x27) := hdep 8 rfl rfl 30 rfl
                exact does_v (v := (I (w64 (x22 * x27)))) (wanted_none _ rfl _) (rv_mul (a := x22) (b := x27) e26 e30) rfl) ?_
            exact all_nil
          · intro ρ σ32 m hoff hrel
            have e0 : look 34 ρ 0 = (Sl aa_0 a_0 ca_0) := look_off (hoff 0 rfl) rfl
            have e1 : look 34 ρ 1 = (Sl ab_1 b_1 cb_1) := look_off (hoff 1 rfl) rfl
            have e7 : look 34 ρ 7 = (I s16.2) := look_off (hoff 7 rfl) rfl
            have e22 : look 34 ρ 22 = (I s16.1) := hrel 0 rfl 22 rfl
            have e31 : look 34 ρ 31 = (I (w64 (x22 * x27))) := hrel 9 rfl 31 rfl
            replace hR19 := hR19.mod m
            replace hR20 := hR20.mod m
            replace hK := hK.none m
            rw [fr_lookL (L := [(0, (Sl aa_0 a_0 ca_0)), (1, (Sl ab_1 b_1 cb_1)), (7, (I s16.2)), (22, (I s16.1)), (31, (I (w64 (x22 * x27))))]) ⟨e0, e1, e7, e22, e31, trivial⟩]
            clear hoff hrel m e0 e1 e7 e22 e31
            refine st (v := (I (w64 (s16.1 + (w64 (x22 * x27)))))) (rv_add (a := s16.1) (b := (w64 (x22 * x27))) rfl rfl) ?_
            refine st (v := (I (w64 (s16.1 + (w64 (x22 * x27)))))) (rv_assign rfl) ?_
            refine w_end ?_
            refine q_blk ?_
            refine q_then ?_
            refine rg ?_
            refine st (v := (I s16.2)) (rv_move rfl) ?_
            refine st (v := (I (w64 (s16.2 + 1)))) (rv_add (a := s16.2) (b := 1) rfl rfl) ?_
            refine st (v := (I (w64 (s16.2 + 1)))) (rv_assign rfl) ?_
            refine w_end ?_
            refine q_then ?_
            obtain rfl := Option.some.inj h
            exact ⟨_, rfl, _, σ32, fr_join ⟨rfl, rfl, rfl, rfl, trivial⟩, rfl, hK, hR19, hR20⟩
        · replace h := bif_f hb21 h
          refine c_exit ?_
          refine q_then_x ?_
          refine q_then_x ?_
          refine q_blk_hit ?_
          obtain rfl := Option.some.inj h
          obtain rfl := hres _ rfl
          exact ⟨rfl, _, σ18, fr_join ⟨rfl, trivial⟩, rfl, hK⟩
      · clear hj
        have h := h'
        clear h'
        rintro e a w ⟨rfl, ρ, σ33, rfl, rfl, hK⟩
        refine q_then ?_
        refine c_seq ?_
        refine rg ?_
        refine st (v := (I o15)) (rv_move rfl) ?_
        refine st (v := (I o15)) (rv_assign rfl) ?_
        refine st (v := (B true)) (rv_assign rfl) ?_
        refine w_end ?_
        refine q_then ?_
        refine c_ret ?_
        obtain rfl := Option.some.inj h
        exact bodyPost_ret (v := (.tuple #[(I o15), (B true)])) (results_fr2 Try.results37 rfl rfl _) rfl ⟨_, σ33, rfl, rfl, hK, rfl⟩

theorem c_laws_FnDotOfZero {σ0 : St} {code_0 : List UInt8} {acode_0 : Option Addr} {ccode_0 : Nat} (hRcode_0 : RS 0 σ0 (Sl acode_0 code_0 ccode_0) code_0) {r : Bool} (h : M.laws_FnDotOfZero code_0 = some r) :
    Cal Try.prog 10 [(Sl acode_0 code_0 ccode_0)] none σ0 (fun v σ' => v = (B r)) := by
  refine ⟨⟨_, _, Try.func10, rfl, rfl⟩, ?_⟩
  refine enter (n := 96) Try.func10 rfl rfl rfl ?_
  unfold M.laws_FnDotOfZero at h
  have hK : Mod none σ0 σ0 := Mod.refl _ _
  refine c_seq ?_
  refine rg ?_
  refine st (v := (B false)) (rv_assign rfl) ?_
  refine w_end ?_
  refine q_then ?_
  refine c_seq ?_
  refine c_seq ?_
  refine rg ?_
  refine st (v := (Sl acode_0 code_0 ccode_0)) (rv_move rfl) ?_
  refine st (v := (I (code_0.length : Int))) (rv_len Try.underlying22 rfl) ?_
  refine st (v := (B (decide (1048576 < (code_0.length : Int))))) (rv_gtr (a := (code_0.length : Int)) (b := 1048576) rfl rfl) ?_
  refine w_end ?_
  refine q_then ?_
  refine cd_cond (decide (1048576 < (code_0.length : Int))) rfl (fun hb1 => ?_) (fun hb1 => ?_)
  · replace h := bif_t hb1 h
    refine c_seq ?_
    refine rg ?_
    refine st (v := (B true)) (rv_assign rfl) ?_
    refine w_end ?_
    refine q_then ?_
    refine c_ret ?_
    refine q_then_r ?_
    obtain rfl := Option.some.inj h
    exact bodyPost_ret (v := (B true)) (results_fr1 Try.results10 rfl _) rfl ⟨_, σ0, rfl, rfl, hK, rfl⟩
  · replace h := bif_f hb1 h
    refine c_skip ?_
    refine q_then ?_
    refine c_seq ?_
    refine rg ?_
    refine st (v := (Sl acode_0 code_0 ccode_0)) (rv_move rfl) ?_
    obtain ⟨r2, hx3, h'⟩ := bind_some h
    clear h
    have h := h'; clear h'
    refine st_call (c_spec_DrawDotOf hRcode_0 hx3) rfl ?_
    have hKs := hK.size
    rintro _ σ4 m5 ⟨a6, c7, a9, c10, rfl, hO8, hO11, hd12⟩
    replace hRcode_0 := hRcode_0.mod m5
    replace hK := hK.none m5
    have hO8g := hO8.ge
    replace hO8 := hO8.lo hKs
    replace hO8 := hO8.low' hKs
    have hO11g := hO11.ge
    replace hO11 := hO11.lo hKs
    replace hO11 := hO11.low' hKs
    clear hKs m5 hO8g hO11g
    refine st (v := (.tuple #[(Sl a6 r2.1 c7), (Sl a9 r2.2 c10)])) (rv_move rfl) ?_
    refine st (v := (Sl a6 r2.1 c7)) (rv_extract rfl rfl) ?_
    refine st (v := (Sl a9 r2.2 c10)) (rv_extract rfl rfl) ?_
    refine st (v := (Sl a6 r2.1 c7)) (rv_assign rfl) ?_
    refine st (v := (Sl a9 r2.2 c10)) (rv_assign rfl) ?_
    refine w_end ?_
    refine q_then ?_
    refine c_seq ?_
    refine rg ?_
    refine st (v := (Sl a6 r2.1 c7)) (rv_move rfl) ?_
    refine st (v := (Sl a9 r2.2 c10)) (rv_move rfl) ?_
    obtain ⟨σ13, hw14, m15, hR16⟩ := hO8.pub' (Nat.le_refl _)
    obtain ⟨σ17, hw18, m19, hR20⟩ := (hO11.mod' m15 (by first | exact hd12 | exact Df.re hd12)).pub' (Nat.le_refl _)
    rw [← (hw18.trans hw14)]
    obtain ⟨r21, hx22, h'⟩ := bind_some h
    clear h
    have h := h'; clear h'
    refine st_call (c_impl_DotOf ((hR16.low (Nat.zero_le _)).mod m19) (hR20.low (Nat.zero_le _)) hx22) rfl ?_
    have hd25 := ltb_size hO8.ltb (hw18.trans hw14)
    have hd26 := ltb_size hO11.ltb (hw18.trans hw14)
    have hKs := size_le hK.size (hw18.trans hw14)
    rintro _ σ23 m24 rfl
    obtain ⟨σ27, hw28, m29, hxl30, hvl31⟩ := lent (hw18.trans hw14) m24
    rw [← hw28]
    replace hO8 := hO8.mod0 m29
    replace hO11 := hO11.mod0 m29
    replace hK := hK.none m29
    clear hKs m29
    refine st (v := (.tuple #[(I r21.1), (B r21.2)])) (rv_move rfl) ?_
    refine st (v := (I r21.1)) (rv_extract rfl rfl) ?_
    refine st (v := (B r21.2)) (rv_extract rfl rfl) ?_
    refine st (v := (I r21.1)) (rv_assign rfl) ?_
    refine st (v := (B r21.2)) (rv_assign rfl) ?_
    refine w_end ?_
    refine q_then ?_
    refine c_seq ?_
    refine rg ?_
    refine st (v := (Sl a6 r2.1 c7)) (rv_move rfl) ?_
    refine st (v := (Sl a9 r2.2 c10)) (rv_move rfl) ?_
    obtain ⟨σ32, hw33, m34, hR35⟩ := hO8.pub' (Nat.le_refl _)
    obtain ⟨σ36, hw37, m38, hR39⟩ := (hO11.mod' m34 (by first | exact hd12 | exact Df.re hd12)).pub' (Nat.le_refl _)
    rw [← (hw37.trans hw33)]
    obtain ⟨r40, hx41, h'⟩ := bind_some h
    clear h
    have h := h'; clear h'
    refine st_call (c_spec_DotOf ((hR35.low (Nat.zero_le _)).mod m38) (hR39.low (Nat.zero_le _)) hx41) rfl ?_
    have hd44 := ltb_size hO8.ltb (hw37.trans hw33)
    have hd45 := ltb_size hO11.ltb (hw37.trans hw33)
    have hKs := size_le hK.size (hw37.trans hw33)
    rintro _ σ42 m43 rfl
    obtain ⟨σ46, hw47, m48, hxl49, hvl50⟩ := lent (hw37.trans hw33) m43
    rw [← hw47]
    replace hO8 := hO8.mod0 m48
    replace hO11 := hO11.mod0 m48
    replace hK := hK.none m48
    clear hKs m48
    refine st (v := (.tuple #[(I r40.1), (B r40.2)])) (rv_move rfl) ?_
    refine st (v := (I r40.1)) (rv_extract rfl rfl) ?_
    refine st (v := (B r40.2)) (rv_extract rfl rfl) ?_
    refine st (v := (I r40.1)) (rv_assign rfl) ?_
    refine st (v := (B r40.2)) (rv_assign rfl) ?_
    refine w_end ?_
    refine q_then ?_
    refine c_seq ?_
    refine c_seq ?_
    obtain ⟨o51, hj, h'⟩ := bind_some h
    clear h
    refine c_cut (fun e a w => e = .normal ∧ ∃ (ρ : Nat → Value) (σ : St), a = fr 96 (updL ρ [(3, (Sl a6 r2.1 c7)), (4, (Sl a9 r2.2 c10)), (5, (I r21.1)), (6, (B r21.2)), (7, (I r40.1)), (8, (B r40.2)), (46, (B o51))]) ∧ w = σ.w ∧ Mod none σ0 σ ∧ Ow σ σ0.size σ0.size (Sl a6 r2.1 c7) r2.1 ∧ Ow σ σ0.size σ0.size (Sl a9 r2.2 c10) r2.2 ∧ Df (blk (Sl a9 r2.2 c10)) (blk (Sl a6 r2.1 c7))) ?_ ?_
    · clear h'
      rename _ = some o51 => h
      refine rg ?_
      refine st (v := (I r21.1)) (rv_move rfl) ?_
      refine st (v := (I r40.1)) (rv_move rfl) ?_
      refine st (v := (B (r21.1 != r40.1))) (rv_neq (a := r21.1) (b := r40.1) rfl rfl) ?_
      refine st (v := (B (r21.1 != r40.1))) (rv_move rfl) ?_
      rcases Bool.eq_false_or_eq_true (r21.1 != r40.1) with hb52 | hb52
      · replace h := bif_t hb52 h
        refine st_skip (congrArg some hb52) ?_
        refine st_skip (congrArg some hb52) ?_
        refine st_skip (congrArg some hb52) ?_
        refine st (v := (B true)) (rv_pick_t (congrArg B hb52) rfl) ?_
        refine st (v := (B true)) (rv_move rfl) ?_
        refine st_skip rfl ?_
        refine st_skip rfl ?_
        refine st (v := (B true)) (rv_pick_t rfl rfl) ?_
        refine w_end ?_
        obtain rfl := Option.some.inj h
        exact ⟨rfl, _, σ46, fr_join ⟨rfl, rfl, rfl, rfl, rfl, rfl, rfl, trivial⟩, rfl, hK, hO8, hO11, (by first | exact hd12 | exact Df.re hd12)⟩
      · replace h := bif_f hb52 h
        refine st_g (v := (B r21.2)) (congrArg some hb52) (rv_move rfl) ?_
        refine st_g (v := (B r40.2)) (congrArg some hb52) (rv_move rfl) ?_
        refine st_g (v := (B (r21.2 != r40.2))) (congrArg some hb52) (rv_bneq Try.underlying4 rfl rfl) ?_
        refine st (v := (B (r21.2 != r40.2))) (rv_pick_f (congrArg B hb52) rfl) ?_
        refine st (v := (B (r21.2 != r40.2))) (rv_move rfl) ?_
        rcases Bool.eq_false_or_eq_true (r21.2 != r40.2) with hb53 | hb53
        · replace h := bif_t hb53 h
          refine st_skip (congrArg some hb53) ?_
          refine st_skip (congrArg some hb53) ?_
          refine st (v := (B true)) (rv_pick_t (congrArg B hb53) rfl) ?_
          refine w_end ?_
          obtain rfl := Option.some.inj h
          exact ⟨rfl, _, σ46, fr_join ⟨rfl, rfl, rfl, rfl, rfl, rfl, rfl, trivial⟩, rfl, hK, hO8, hO11, (by first | exact hd12 | exact Df.re hd12)⟩
        · replace h := bif_f hb53 h
          refine st_g (v := (B r21.2)) (congrArg some hb53) (rv_move rfl) ?_
          refine st_g (v := (B (!r21.2))) (congrArg some hb53) (rv_not rfl) ?_
          refine st (v := (B (!r21.2))) (rv_pick_f (congrArg B hb53) rfl) ?_
          refine w_end ?_
          obtain rfl := Option.some.inj h
          exact ⟨rfl, _, σ46, fr_join ⟨rfl, rfl, rfl, rfl, rfl, rfl, rfl, trivial⟩, rfl, hK, hO8, hO11, (by first | exact hd12 | exact Df.re hd12)⟩
    · clear hj
      have h := h'
      clear h'
      rintro e a w ⟨rfl, ρ, σ54, rfl, rfl, hK, hO55, hO56, hd57⟩
      refine q_then ?_
      refine cd_cond o51 rfl (fun hb58 => ?_) (fun hb58 => ?_)
      · replace h := bif_t hb58 h
        refine c_seq ?_
        refine rg ?_
        refine st (v := (I r21.1)) (rv_move rfl) ?_
        refine st (v := (I r40.1)) (rv_move rfl) ?_
        refine st (v := (B (r21.1 == r40.1))) (rv_eql (a := r21.1) (b := r40.1) rfl rfl) ?_
        refine st (v := (B (r21.1 == r40.1))) (rv_move rfl) ?_
        rcases Bool.eq_false_or_eq_true (r21.1 == r40.1) with hb59 | hb59
        · replace h := bif_t hb59 h
          refine st_g (v := (B r21.2)) (congrArg some hb59) (rv_move rfl) ?_
          refine st_g (v := (B r40.2)) (congrArg some hb59) (rv_move rfl) ?_
          refine st_g (v := (B (r21.2 == r40.2))) (congrArg some hb59) (rv_beql Try.underlying4 rfl rfl) ?_
          refine st (v := (B (r21.2 == r40.2))) (rv_pick_t (congrArg B hb59) rfl) ?_
          refine st (v := (B (r21.2 == r40.2))) (rv_assign rfl) ?_
          refine w_end ?_
          refine q_then ?_
          refine c_ret ?_
          refine q_then_r ?_
          obtain rfl := Option.some.inj h
          exact bodyPost_ret (v := (B (r21.2 == r40.2))) (results_fr1 Try.results10 rfl _) rfl ⟨_, σ54, rfl, rfl, hK, rfl⟩
        · replace h := bif_f hb59 h
          refine st_skip (congrArg some hb59) ?_
          refine st_skip (congrArg some hb59) ?_
          refine st_skip (congrArg some hb59) ?_
          refine st (v := (B false)) (rv_pick_f (congrArg B hb59) rfl) ?_
          refine st (v := (B false)) (rv_assign rfl) ?_
          refine w_end ?_
          refine q_then ?_
          refine c_ret ?_
          refine q_then_r ?_
          obtain rfl := Option.some.inj h
          exact bodyPost_ret (v := (B false)) (results_fr1 Try.results10 rfl _) rfl ⟨_, σ54, rfl, rfl, hK, rfl⟩
      · replace h := bif_f hb58 h
        refine c_skip ?_
        refine q_then ?_
        refine c_seq ?_
        refine rg ?_
        refine st_buildSlice (lo := σ0.size) (el := σ0.size) (xs := ([] : List Int)) (ps := []) (cs := []) Try.underlying24 ti3 rfl rfl (by kernel_rfl) (.nil) rfl ?_ hK.size (wanted_none _ rfl _)
        intro b61 σ62 hbn64 m63 hO60
        have hd65 := hO55.df' hbn64
        have hd66 := hO56.df' hbn64
        replace hO55 := hO55.mod0 m63
        replace hO56 := hO56.mod0 m63
        replace hK := hK.none m63
        clear hbn64 m63
        refine st (v := (Sl (some ⟨b61, 0, none⟩) ([] : List Int) 0)) (rv_assign rfl) ?_
        refine w_end ?_
        refine q_then ?_
        refine c_seq ?_
        refine c_seq ?_
        refine rg ?_
        refine st (v := (I 0)) (rv_assign rfl) ?_
        refine w_end ?_
        refine q_then ?_
        obtain ⟨o67, hj, h'⟩ := bind_some h
        clear h
        refine c_cut (fun e a w => e = .normal ∧ ∃ (ρ : Nat → Value) (σ : St) (aj2 : Option Addr) (cj3 : Nat), a = fr 96 (updL ρ [(3, (Sl a6 r2.1 c7)), (5, (I r21.1)), (9, (Sl aj2 o67 cj3))]) ∧ w = σ.w ∧ Mod none σ0 σ ∧ Ow σ σ0.size σ0.size (Sl a6 r2.1 c7) r2.1 ∧ Ow σ σ0.size σ0.size (Sl aj2 o67 cj3) o67 ∧ Df (blk (Sl aj2 o67 cj3)) (blk (Sl a6 r2.1 c7))) ?_ ?_
        · clear h'
          rename _ = some o67 => h
          refine c_blk ?_
          refine wp_loopM _ h (fun s68 a w => ∃ (ρ : Nat → Value) (σ : St) (aj3 : Option Addr) (cj4 : Nat), a = fr 96 (updL ρ [(3, (Sl a6 r2.1 c7)), (4, (Sl a9 r2.2 c10)), (5, (I r21.1)), (9, (Sl aj3 s68.1 cj4)), (10, (I s68.2))]) ∧ w = σ.w ∧ Mod none σ0 σ ∧ Ow σ σ0.size σ0.size (Sl a6 r2.1 c7) r2.1 ∧ Ow σ σ0.size σ0.size (Sl a9 r2.2 c10) r2.2 ∧ Ow σ σ0.size σ0.size (Sl aj3 s68.1 cj4) s68.1 ∧ Df (blk (Sl a9 r2.2 c10)) (blk (Sl a6 r2.1 c7)) ∧ Df (blk (Sl aj3 s68.1 cj4)) (blk (Sl a6 r2.1 c7)) ∧ Df (blk (Sl aj3 s68.1 cj4)) (blk (Sl a9 r2.2 c10))) ⟨_, σ62, (some ⟨b61, 0, none⟩), 0, fr_join ⟨rfl, rfl, rfl, rfl, rfl, trivial⟩, rfl, hK, hO55, hO56, hO60, (by first | exact hd57 | exact Df.re hd57), (by first | exact (hd65).symm | exact Df.re (hd65).symm), (by first | exact (hd66).symm | exact Df.re (hd66).symm)⟩ ?_
          clear h
          rintro s68 a w o ⟨ρ, σ70, a73, c74, rfl, rfl, hK, hO71, hO72, hO75, hd76, hd77, hd78⟩ h hres
          refine c_seq ?_
          refine c_seq ?_
          refine rg ?_
          refine st (v := (I s68.2)) (rv_move rfl) ?_
          refine st (v := (Sl a9 r2.2 c10)) (rv_move rfl) ?_
          refine st (v := (I (r2.2.length : Int))) (rv_len Try.underlying24 rfl) ?_
          refine st (v := (B (decide (s68.2 < (r2.2.length : Int))))) (rv_lss (a := s68.2) (b := (r2.2.length : Int)) rfl rfl) ?_
          refine w_end ?_
          refine q_then ?_
          refine cd_cond (decide (s68.2 < (r2.2.length : Int))) rfl (fun hb79 => ?_) (fun hb79 => ?_)
          · replace h := bif_t hb79 h
            refine c_skip ?_
            refine q_then ?_
            refine c_seq ?_
            refine c_blk ?_
            refine rg ?_
            refine st (v := (Sl a73 s68.1 c74)) (rv_move rfl) ?_
            refine st (v := (Sl a9 r2.2 c10)) (rv_move rfl) ?_
            refine st (v := (I s68.2)) (rv_move rfl) ?_
            obtain ⟨x80, hx81, h'⟩ := bind_some h
            clear h
            have h := h'; clear h'
            obtain ⟨b83, o84, hi82, -⟩ := hO72.ix hx81
            refine st (v := (pt b83 o84)) (rv_ix Try.underlying24 ti3 rfl rfl hi82) ?_
            refine st (v := (I x80)) (rv_load1 Try.underlying3 rfl rfl (hO72.at hx81 hi82).int) ?_
            refine st (v := (I (w64 (0 - x80)))) (rv_neg (a := x80) rfl) ?_
            refine st_buildSlice (lo := σ0.size) (el := σ0.size) (xs := ([w64 (0 - x80)] : List Int)) (ps := [(0, (I (w64 (0 - x80))))]) (cs := [(I (w64 (0 - x80)))]) Try.underlying24 ti3 rfl rfl (by kernel_rfl) (.cons (c := [(I (w64 (0 - x80)))]) rfl (.nil)) rfl ?_ hK.size (wanted_none _ rfl _)
            intro b86 σ87 hbn89 m88 hO85
            have hd90 := hO71.df' hbn89
            have hd91 := hO72.df' hbn89
            have hd92 := hO75.df' hbn89
            replace hO71 := hO71.mod0 m88
            replace hO72 := hO72.mod0 m88
            replace hO75 := hO75.mod0 m88
            replace hK := hK.none m88
            clear hbn89 m88
            obtain ⟨xs93, hx94, h'⟩ := bind_some h
            clear h
            have h := h'; clear h'
            have hg95 := hO75.ge
            refine st_append Try.underlying24 Try.underlying24 ti3 rfl rfl (by decide) hO75 hO85.rd hx94 hK.size rfl rfl ?_ (wanted_none _ rfl _)
            have hd102 := hO71.ltb
            have hd103 := hO72.ltb
            intro a100 c101 σ96 m97 hO98 hq99
            replace hO71 := hO71.mod' m97 (by first | exact (hd77).symm | exact Df.re (hd77).symm)
            replace hO72 := hO72.mod' m97 (by first | exact (hd78).symm | exact Df.re (hd78).symm)
            replace hK := hK.own m97 hg95
            have hd104 := Df.app (hd77).symm hd102 hq99
            have hd105 := Df.app (hd78).symm hd103 hq99
            clear hq99 m97
            refine st (v := (Sl a100 xs93 c101)) (rv_assign rfl) ?_
            refine w_end ?_
            refine q_blk ?_
            refine q_then ?_
            refine rg ?_
            refine st (v := (I s68.2)) (rv_move rfl) ?_
            refine st (v := (I (w64 (s68.2 + 1)))) (rv_add (a := s68.2) (b := 1) rfl rfl) ?_
            refine st (v := (I (w64 (s68.2 + 1)))) (rv_assign rfl) ?_
            refine w_end ?_
            refine q_then ?_
            obtain rfl := Option.some.inj h
            exact ⟨_, rfl, _, σ96, a100, c101, fr_join ⟨rfl, rfl, rfl, rfl, rfl, trivial⟩, rfl, hK, hO71, hO72, hO98, (by first | exact hd76 | exact Df.re hd76), (by first | exact (hd104).symm | exact Df.re (hd104).symm), (by first | exact (hd105).symm | exact Df.re (hd105).symm)⟩
          · replace h := bif_f hb79 h
            refine c_exit ?_
            refine q_then_x ?_
            refine q_then_x ?_
            refine q_blk_hit ?_
            obtain rfl := Option.some.inj h
            obtain rfl := hres _ rfl
            exact ⟨rfl, _, σ70, a73, c74, fr_join ⟨rfl, rfl, rfl, trivial⟩, rfl, hK, hO71, hO75, (by first | exact hd77 | exact Df.re hd77)⟩
        · clear hj
          have h := h'
          clear h'
          rintro e a w ⟨rfl, ρ, σ106, a108, c109, rfl, rfl, hK, hO107, hO110, hd111⟩
          refine q_then ?_
          refine c_seq ?_
          refine rg ?_
          refine st (v := (Sl a6 r2.1 c7)) (rv_move rfl) ?_
          obtain ⟨xs112, hx113, h'⟩ := bind_some h
          clear h
          have h := h'; clear h'
          refine st_make (lo := σ0.size) (el := σ0.size) (z0 := (0 : Int)) (zs := [(I 0)]) Try.underlying24 ti3 rfl rfl rfl (by decide) hx113 rfl rfl hK.size ?_ (wanted_none _ rfl _)
          intro b115 σ117 c116 hbn119 m118 hO114
          have hd120 := hO107.df' hbn119
          have hd121 := hO110.df' hbn119
          replace hO107 := hO107.mod0 m118
          replace hO110 := hO110.mod0 m118
          replace hK := hK.none m118
          clear hbn119 m118
          obtain ⟨σ122, hw123, m124, hR125⟩ := hO107.pub' (Nat.le_refl _)
          obtain ⟨σ126, hw127, m128, hR129⟩ := (hO114.mod' m124 (by first | exact (hd120).symm | exact Df.re (hd120).symm)).pub' (Nat.le_refl _)
          rw [← (hw127.trans hw123)]
          obtain ⟨r130, hx131, h'⟩ := bind_some h
          clear h
          have h := h'; clear h'
          refine st_call (c_impl_DotOf ((hR125.low (Nat.zero_le _)).mod m128) (hR129.low (Nat.zero_le _)) hx131) rfl ?_
          have hd134 := ltb_size hO107.ltb (hw127.trans hw123)
          have hd135 := ltb_size hO110.ltb (hw127.trans hw123)
          have hd136 := ltb_size hO114.ltb (hw127.trans hw123)
          have hKs := size_le hK.size (hw127.trans hw123)
          rintro _ σ132 m133 rfl
          obtain ⟨σ137, hw138, m139, hxl140, hvl141⟩ := lent (hw127.trans hw123) m133
          rw [← hw138]
          replace hO107 := hO107.mod0 m139
          replace hO110 := hO110.mod0 m139
          replace hO114 := hO114.mod0 m139
          replace hK := hK.none m139
          clear hKs m139
          refine st (v := (.tuple #[(I r130.1), (B r130.2)])) (rv_move rfl) ?_
          refine st (v := (I r130.1)) (rv_extract rfl rfl) ?_
          refine st (v := (B r130.2)) (rv_extract rfl rfl) ?_
          refine st (v := (I r130.1)) (rv_assign rfl) ?_
          refine st (v := (B r130.2)) (rv_assign rfl) ?_
          refine w_end ?_
          refine q_then ?_
          refine c_seq ?_
          refine rg ?_
          refine st (v := (Sl a6 r2.1 c7)) (rv_move rfl) ?_
          refine st (v := (Sl a108 o67 c109)) (rv_move rfl) ?_
          have hg146 := hO107.ge
          obtain ⟨σ142, hw145, m143, hR144⟩ := hO107.pub' (Nat.le_refl _)
          rw [← hw145]; clear hw145
          replace hO110 := hO110.mod' m143 (by first | exact hd111 | exact Df.re hd111)
          replace hK := hK.own m143 hg146
          have hg151 := hO110.ge
          obtain ⟨σ147, hw150, m148, hR149⟩ := hO110.pub' (Nat.le_refl _)
          rw [← hw150]; clear hw150
          replace hR144 := hR144.mod m148
          replace hK := hK.own m148 hg151
          obtain ⟨r152, hx153, h'⟩ := bind_some h
          clear h
          have h := h'; clear h'
          refine st_call (c_impl_DotOf (hR144.low (Nat.zero_le _)) (hR149.low (Nat.zero_le _)) hx153) rfl ?_
          have hKs := hK.size
          rintro _ σ154 m155 rfl
          replace hR144 := hR144.mod m155
          replace hR149 := hR149.mod m155
          replace hK := hK.none m155
          clear hKs m155
          refine st (v := (.tuple #[(I r152.1), (B r152.2)])) (rv_move rfl) ?_
          refine st (v := (I r152.1)) (rv_extract rfl rfl) ?_
          refine st (v := (B r152.2)) (rv_extract rfl rfl) ?_
          refine st (v := (I r152.1)) (rv_assign rfl) ?_
          refine st (v := (B r152.2)) (rv_assign rfl) ?_
          refine w_end ?_
          refine q_then ?_
          refine c_seq ?_
          refine rg ?_
          refine st (v := (B r130.2)) (rv_move rfl) ?_
          refine st (v := (B r130.2)) (rv_move rfl) ?_
          rcases Bool.eq_false_or_eq_true r130.2 with hb156 | hb156
          · replace h := bif_t hb156 h
            refine st_g (v := (I r130.1)) (congrArg some hb156) (rv_move rfl) ?_
            refine st_g (v := (B (r130.1 == 0))) (congrArg some hb156) (rv_eql (a := r130.1) (b := 0) rfl rfl) ?_
            refine st (v := (B (r130.1 == 0))) (rv_pick_t (congrArg B hb156) rfl) ?_
            refine st (v := (B (r130.1 == 0))) (rv_move rfl) ?_
            rcases Bool.eq_false_or_eq_true (r130.1 == 0) with hb157 | hb157
            · replace h := bif_t hb157 h
              refine st_g (v := (B r152.2)) (congrArg some hb157) (rv_move rfl) ?_
              refine st (v := (B r152.2)) (rv_pick_t (congrArg B hb157) rfl) ?_
              refine st (v := (B r152.2)) (rv_move rfl) ?_
              rcases Bool.eq_false_or_eq_true r152.2 with hb158 | hb158
              · replace h := bif_t hb158 h
                refine st_g (v := (I r152.1)) (congrArg some hb158) (rv_move rfl) ?_
                refine st_g (v := (I r21.1)) (congrArg some hb158) (rv_move rfl) ?_
                refine st_g (v := (I (w64 (0 - r21.1)))) (congrArg some hb158) (rv_neg (a := r21.1) rfl) ?_
                refine st_g (v := (B (r152.1 == (w64 (0 - r21.1))))) (congrArg some hb158) (rv_eql (a := r152.1) (b := (w64 (0 - r21.1))) rfl rfl) ?_
                refine st (v := (B (r152.1 == (w64 (0 - r21.1))))) (rv_pick_t (congrArg B hb158) rfl) ?_
                refine st (v := (B (r152.1 == (w64 (0 - r21.1))))) (rv_assign rfl) ?_
                refine w_end ?_
                refine q_then ?_
                refine c_ret ?_
                obtain rfl := Option.some.inj h
                exact bodyPost_ret (v := (B (r152.1 == (w64 (0 - r21.1))))) (results_fr1 Try.results10 rfl _) rfl ⟨_, σ154, rfl, rfl, hK, rfl⟩
              · replace h := bif_f hb158 h
                refine st_skip (congrArg some hb158) ?_
                refine st_skip (congrArg some hb158) ?_
                refine st_skip (congrArg some hb158) ?_
                refine st_skip (congrArg some hb158) ?_
                refine st (v := (B false)) (rv_pick_f (congrArg B hb158) rfl) ?_
                refine st (v := (B false)) (rv_assign rfl) ?_
                refine w_end ?_
                refine q_then ?_
                refine c_ret ?_
                obtain rfl := Option.some.inj h
                exact bodyPost_ret (v := (B false)) (results_fr1 Try.results10 rfl _) rfl ⟨_, σ154, rfl, rfl, hK, rfl⟩
            · replace h := bif_f hb157 h
              refine st_skip (congrArg some hb157) ?_
              refine st (v := (B false)) (rv_pick_f (congrArg B hb157) rfl) ?_
              refine st (v := (B false)) (rv_move rfl) ?_
              refine st_skip rfl ?_
              refine st_skip rfl ?_
              refine st_skip rfl ?_
              refine st_skip rfl ?_
              refine st (v := (B false)) (rv_pick_f rfl rfl) ?_
              refine st (v := (B false)) (rv_assign rfl) ?_
              refine w_end ?_
              refine q_then ?_
              refine c_ret ?_
              obtain rfl := Option.some.inj h
              exact bodyPost_ret (v := (B false)) (results_fr1 Try.results10 rfl _) rfl ⟨_, σ154, rfl, rfl, hK, rfl⟩
          · replace h := bif_f hb156 h
            refine st_skip (congrArg some hb156) ?_
            refine st_skip (congrArg some hb156) ?_
            refine st (v := (B false)) (rv_pick_f (congrArg B hb156) rfl) ?_
            refine st (v := (B false)) (rv_move rfl) ?_
            refine st_skip rfl ?_
            refine st (v := (B false)) (rv_pick_f rfl rfl) ?_
            refine st (v := (B false)) (rv_move rfl) ?_
            refine st_skip rfl ?_
            refine st_skip rfl ?_
            refine st_skip rfl ?_
            refine st_skip rfl ?_
            refine st (v := (B false)) (rv_pick_f rfl rfl) ?_
            refine st (v := (B false)) (rv_assign rfl) ?_
            refine w_end ?_
            refine q_then ?_
            refine c_ret ?_
            obtain rfl := Option.some.inj h
            exact bodyPost_ret (v := (B false)) (results_fr1 Try.results10 rfl _) rfl ⟨_, σ154, rfl, rfl, hK, rfl⟩

end Go.Vs
