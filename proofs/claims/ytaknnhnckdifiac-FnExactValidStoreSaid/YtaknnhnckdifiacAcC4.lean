/- The functions compute what their models say. -/
import Derived.Test.YtaknnhnckdifiacAcC3
set_option linter.unusedVariables false
set_option linter.unusedSimpArgs false
set_option maxRecDepth 20000
namespace Go.Vs
open Go Go.Proofs
attribute [local irreducible] Code.wp wpList wpQuiet Calls

theorem c_spec_DotOf {σ0 : St} {a_0 : List Int} {b_1 : List Int} {aa_0 : Option Addr} {ca_0 : Nat} (hRa_0 : RS 0 σ0 (Sl aa_0 a_0 ca_0) a_0) {ab_1 : Option Addr} {cb_1 : Nat} (hRb_1 : RS 0 σ0 (Sl ab_1 b_1 cb_1) b_1) {r : Int × Bool} (h : M.spec_DotOf a_0 b_1 = some r) :
    Cal Try.prog 25 [(Sl aa_0 a_0 ca_0), (Sl ab_1 b_1 cb_1)] none σ0 (fun v σ' => v = (.tuple #[(I r.1), (B r.2)])) := by
  refine ⟨⟨_, _, Try.func25, rfl, rfl⟩, ?_⟩
  refine enter (n := 34) Try.func25 rfl rfl rfl ?_
  unfold M.spec_DotOf at h
  have hK : Mod none σ0 σ0 := Mod.refl _ _
  refine c_seq ?_
  refine rg ?_
  refine st (v := (I 0)) (rv_assign rfl) ?_
  refine st (v := (B false)) (rv_assign rfl) ?_
  refine w_end ?_
  refine q_then ?_
  refine c_seq ?_
  refine rg ?_
  refine st (v := (I 0)) (rv_assign rfl) ?_
  refine w_end ?_
  refine q_then ?_
  refine c_seq ?_
  refine c_seq ?_
  obtain ⟨o1, hj, h'⟩ := bind_some h
  clear h
  refine c_cut (fun e a w => e = .normal ∧ ∃ (ρ : Nat → Value) (σ : St), a = fr 34 (updL ρ [(0, (Sl aa_0 a_0 ca_0)), (1, (Sl ab_1 b_1 cb_1)), (6, (I 0)), (15, (B o1))]) ∧ w = σ.w ∧ Mod none σ0 σ ∧ RS 0 σ (Sl aa_0 a_0 ca_0) a_0 ∧ RS 0 σ (Sl ab_1 b_1 cb_1) b_1) ?_ ?_
  · clear h'
    rename _ = some o1 => h
    refine rg ?_
    refine st (v := (Sl aa_0 a_0 ca_0)) (rv_move rfl) ?_
    obtain ⟨r2, hx3, h'⟩ := bind_some h
    clear h
    have h := h'; clear h'
    refine st_call (c_spec_isVector hRa_0 hx3) rfl ?_
    have hKs := hK.size
    rintro _ σ4 m5 rfl
    replace hRa_0 := hRa_0.mod m5
    replace hRb_1 := hRb_1.mod m5
    replace hK := hK.none m5
    clear hKs m5
    refine st (v := (B (!r2))) (rv_not rfl) ?_
    refine st (v := (B (!r2))) (rv_move rfl) ?_
    rcases Bool.eq_false_or_eq_true (!r2) with hb6 | hb6
    · replace h := bif_t hb6 h
      refine st_skip (congrArg some hb6) ?_
      refine st_skip (congrArg some hb6) ?_
      refine st_skip (congrArg some hb6) ?_
      refine st (v := (B true)) (rv_pick_t (congrArg B hb6) rfl) ?_
      refine w_end ?_
      obtain rfl := Option.some.inj h
      exact ⟨rfl, _, σ4, fr_join ⟨rfl, rfl, rfl, rfl, trivial⟩, rfl, hK, hRa_0, hRb_1⟩
    · replace h := bif_f hb6 h
      refine st_g (v := (Sl ab_1 b_1 cb_1)) (congrArg some hb6) (rv_move rfl) ?_
      obtain ⟨r7, hx8, h'⟩ := bind_some h
      clear h
      have h := h'; clear h'
      refine st_call_g (by exact (congrArg some hb6)) (c_spec_isVector hRb_1 hx8) rfl ?_
      have hKs := hK.size
      rintro _ σ9 m10 rfl
      replace hRa_0 := hRa_0.mod m10
      replace hRb_1 := hRb_1.mod m10
      replace hK := hK.none m10
      clear hKs m10
      refine st_g (v := (B (!r7))) (congrArg some hb6) (rv_not rfl) ?_
      refine st (v := (B (!r7))) (rv_pick_f (congrArg B hb6) rfl) ?_
      refine w_end ?_
      obtain rfl := Option.some.inj h
      exact ⟨rfl, _, σ9, fr_join ⟨rfl, rfl, rfl, rfl, trivial⟩, rfl, hK, hRa_0, hRb_1⟩
  · clear hj
    have h := h'
    clear h'
    rintro e a w ⟨rfl, ρ, σ11, rfl, rfl, hK, hR12, hR13⟩
    refine q_then ?_
    refine cd_cond o1 rfl (fun hb14 => ?_) (fun hb14 => ?_)
    · replace h := bif_t hb14 h
      refine c_seq ?_
      refine rg ?_
      refine st (v := (I 0)) (rv_assign rfl) ?_
      refine st (v := (B false)) (rv_assign rfl) ?_
      refine w_end ?_
      refine q_then ?_
      refine c_ret ?_
      refine q_then_r ?_
      obtain rfl := Option.some.inj h
      exact bodyPost_ret (v := (.tuple #[(I 0), (B false)])) (results_fr2 Try.results25 rfl rfl _) rfl ⟨_, σ11, rfl, rfl, hK, rfl⟩
    · replace h := bif_f hb14 h
      refine c_skip ?_
      refine q_then ?_
      refine c_seq ?_
      refine c_seq ?_
      refine rg ?_
      refine st (v := (I 0)) (rv_assign rfl) ?_
      refine w_end ?_
      refine q_then ?_
      obtain ⟨o15, hj, h'⟩ := bind_some h
      clear h
      refine c_cut (fun e a w => e = .normal ∧ ∃ (ρ : Nat → Value) (σ : St), a = fr 34 (updL ρ [(6, (I o15))]) ∧ w = σ.w ∧ Mod none σ0 σ) ?_ ?_
      · clear h'
        rename _ = some o15 => h
        refine c_blk ?_
        refine wp_loopM _ h (fun s16 a w => ∃ (ρ : Nat → Value) (σ : St), a = fr 34 (updL ρ [(0, (Sl aa_0 a_0 ca_0)), (1, (Sl ab_1 b_1 cb_1)), (6, (I s16.1)), (7, (I s16.2))]) ∧ w = σ.w ∧ Mod none σ0 σ ∧ RS 0 σ (Sl aa_0 a_0 ca_0) a_0 ∧ RS 0 σ (Sl ab_1 b_1 cb_1) b_1) ⟨_, σ11, fr_join ⟨rfl, rfl, rfl, rfl, trivial⟩, rfl, hK, hR12, hR13⟩ ?_
        clear h
        rintro s16 a w o ⟨ρ, σ18, rfl, rfl, hK, hR19, hR20⟩ h hres
        refine c_seq ?_
        refine c_seq ?_
        refine rg ?_
        refine st (v := (I s16.2)) (rv_move rfl) ?_
        refine st (v := (Sl aa_0 a_0 ca_0)) (rv_move rfl) ?_
        refine st (v := (I (a_0.length : Int))) (rv_len Try.underlying24 rfl) ?_
        refine st (v := (B (decide (s16.2 < (a_0.length : Int))))) (rv_lss (a := s16.2) (b := (a_0.length : Int)) rfl rfl) ?_
        refine w_end ?_
        refine q_then ?_
        refine cd_cond (decide (s16.2 < (a_0.length : Int))) rfl (fun hb21 => ?_) (fun hb21 => ?_)
        · replace h := bif_t hb21 h
          refine c_skip ?_
          refine q_then ?_
          refine c_seq ?_
          refine c_blk ?_
          obtain ⟨x22, hx23, h'⟩ := bind_some h
          clear h
          have h := h'; clear h'
          obtain ⟨b25, o26, hi24, -⟩ := hR19.ix hx23
          obtain ⟨x27, hx28, h'⟩ := bind_some h
          clear h
          have h := h'; clear h'
          obtain ⟨b30, o31, hi29, -⟩ := hR20.ix hx28
          refine rg_monoL (σ := σ18) 10 [eqv (I s16.1), eqv (Sl aa_0 a_0 ca_0), eqv (I s16.2), eqv (pt b25 o26), eqv (I x22), eqv (Sl ab_1 b_1 cb_1), eqv (I s16.2), eqv (pt b30 o31), eqv (I x27), eqv (I (w64 (x22 * x27)))] (by kernel_rfl) (by kernel_rfl) (mono_cons mono_eqv (mono_cons mono_eqv (mono_cons mono_eqv (mono_cons mono_eqv (mono_cons mono_eqv (mono_cons mono_eqv (mono_cons mono_eqv (mono_cons mono_eqv (mono_cons mono_eqv (mono_cons mono_eqv (mono_nil))))))))))) ?_ ?_
          · refine all_cons (by
                intro ρ σm m hoff hdep
                have e6 : look 34 ρ 6 = (I s16.1) := look_off (hoff 6 rfl) rfl
                exact does_v (v := (I s16.1)) (wanted_none _ rfl _) (rv_move e6) rfl) ?_
            refine all_cons (by
                intro ρ σm m hoff hdep
                have e0 : look 34 ρ 0 = (Sl aa_0 a_0 ca_0) := look_off (hoff 0 rfl) rfl
                exact does_v (v := (Sl aa_0 a_0 ca_0)) (wanted_none _ rfl _) (rv_move e0) rfl) ?_
            refine all_cons (by
                intro ρ σm m hoff hdep
                have e7 : look 34 ρ 7 = (I s16.2) := look_off (hoff 7 rfl) rfl
                exact does_v (v := (I s16.2)) (wanted_none _ rfl _) (rv_move e7) rfl) ?_
            refine all_cons (by
                intro ρ σm m hoff hdep
                have e23 : look 34 ρ 23 = (Sl aa_0 a_0 ca_0) := hdep 1 rfl rfl 23 rfl
                have e24 : look 34 ρ 24 = (I s16.2) := hdep 2 rfl rfl 24 rfl
                exact does_v (v := (pt b25 o26)) (wanted_none _ rfl _) (rv_ix Try.underlying24 ti3 e23 e24 hi24) rfl) ?_
            refine all_cons (by
                intro ρ σm m hoff hdep
                have e25 : look 34 ρ 25 = (pt b25 o26) := hdep 3 rfl rfl 25 rfl
                replace hR19 := hR19.mod m
                exact does_v (v := (I x22)) (wanted_none _ rfl _) (rv_load1 Try.underlying3 rfl e25 (hR19.at hx23 hi24).int) rfl) ?_
            refine all_cons (by
                intro ρ σm m hoff hdep
                have e1 : look 34 ρ 1 = (Sl ab_1 b_1 cb_1) := look_off (hoff 1 rfl) rfl
                exact does_v (v := (Sl ab_1 b_1 cb_1)) (wanted_none _ rfl _) (rv_move e1) rfl) ?_
            refine all_cons (by
                intro ρ σm m hoff hdep
                have e7 : look 34 ρ 7 = (I s16.2) := look_off (hoff 7 rfl) rfl
                exact does_v (v := (I s16.2)) (wanted_none _ rfl _) (rv_move e7) rfl) ?_
            refine all_cons (by
                intro ρ σm m hoff hdep
                have e27 : look 34 ρ 27 = (Sl ab_1 b_1 cb_1) := hdep 5 rfl rfl 27 rfl
                have e28 : look 34 ρ 28 = (I s16.2) := hdep 6 rfl rfl 28 rfl
                exact does_v (v := (pt b30 o31)) (wanted_none _ rfl _) (rv_ix Try.underlying24 ti3 e27 e28 hi29) rfl) ?_
            refine all_cons (by
                intro ρ σm m hoff hdep
                have e29 : look 34 ρ 29 = (pt b30 o31) := hdep 7 rfl rfl 29 rfl
                replace hR20 := hR20.mod m
                exact does_v (v := (I x27)) (wanted_none _ rfl _) (rv_load1 Try.underlying3 rfl e29 (hR20.at hx28 hi29).int) rfl) ?_
            refine all_cons (by
                intro ρ σm m hoff hdep
                have e26 : look 34 ρ 26 = (I x22) := hdep 4 rfl rfl 26 rfl
                have e30 : look 34 ρ 30 = (I x27) := hdep 8 rfl rfl 30 rfl
                exact does_v (v := (I (w64 (x22 * x27)))) (wanted_none _ rfl _) (rv_mul (a := x22) (b := x27) e26 e30) rfl) ?_
            exact all_nil
          · intro ρ σ32 m hoff hrel
            have e0 : look 34 ρ 0 = (Sl aa_0 a_0 ca_0) := look_off (hoff 0 rfl) rfl
            have e1 : look 34 ρ 1 = (Sl ab_1 b_1 cb_1) := look_off (hoff 1 rfl) rfl
            have e7 : look 34 ρ 7 = (I s16.2) := look_off (hoff 7 rfl) rfl
            have e22 : look 34 ρ 22 = (I s16.1) := hrel 0 rfl 22 rfl
            have e31 : look 34 ρ 31 = (I (w64 (x22 * x27))) := hrel 9 rfl 31 rfl
            replace hR19 := hR19.mod m
            replace hR20 := hR20.mod m
            replace hK := hK.none m
            rw [fr_lookL (L := [(0, (Sl aa_0 a_0 ca_0)), (1, (Sl ab_1 b_1 cb_1)), (7, (I s16.2)), (22, (I s16.1)), (31, (I (w64 (x22 * x27))))]) ⟨e0, e1, e7, e22, e31, trivial⟩]
            clear hoff hrel m e0 e1 e7 e22 e31
            refine st (v := (I (w64 (s16.1 + (w64 (x22 * x27)))))) (rv_add (a := s16.1) (b := (w64 (x22 * x27))) rfl rfl) ?_
            refine st (v := (I (w64 (s16.1 + (w64 (x22 * x27)))))) (rv_assign rfl) ?_
            refine w_end ?_
            refine q_blk ?_
            refine q_then ?_
            refine rg ?_
            refine st (v := (I s16.2)) (rv_move rfl) ?_
            refine st (v := (I (w64 (s16.2 + 1)))) (rv_add (a := s16.2) (b := 1) rfl rfl) ?_
            refine st (v := (I (w64 (s16.2 + 1)))) (rv_assign rfl) ?_
            refine w_end ?_
            refine q_then ?_
            obtain rfl := Option.some.inj h
            exact ⟨_, rfl, _, σ32, fr_join ⟨rfl, rfl, rfl, rfl, trivial⟩, rfl, hK, hR19, hR20⟩
        · replace h := bif_f hb21 h
          refine c_exit ?_
          refine q_then_x ?_
          refine q_then_x ?_
          refine q_blk_hit ?_
          obtain rfl := Option.some.inj h
          obtain rfl := hres _ rfl
          exact ⟨rfl, _, σ18, fr_join ⟨rfl, trivial⟩, rfl, hK⟩
      · clear hj
        have h := h'
        clear h'
        rintro e a w ⟨rfl, ρ, σ33, rfl, rfl, hK⟩
        refine q_then ?_
        refine c_seq ?_
        refine rg ?_
        refine st (v := (I o15)) (rv_move rfl) ?_
        refine st (v := (I o15)) (rv_assign rfl) ?_
        refine st (v := (B true)) (rv_assign rfl) ?_
        refine w_end ?_
        refine q_then ?_
        refine c_ret ?_
        obtain rfl := Option.some.inj h
        exact bodyPost_ret (v := (.tuple #[(I o15), (B true)])) (results_fr2 Try.results25 rfl rfl _) rfl ⟨_, σ33, rfl, rfl, hK, rfl⟩

theorem c_impl_DotOf {σ0 : St} {a_0 : List Int} {b_1 : List Int} {aa_0 : Option Addr} {ca_0 : Nat} (hRa_0 : RS 0 σ0 (Sl aa_0 a_0 ca_0) a_0) {ab_1 : Option Addr} {cb_1 : Nat} (hRb_1 : RS 0 σ0 (Sl ab_1 b_1 cb_1) b_1) {r : Int × Bool} (h : M.impl_DotOf a_0 b_1 = some r) :
    Cal Try.prog 26 [(Sl aa_0 a_0 ca_0), (Sl ab_1 b_1 cb_1)] none σ0 (fun v σ' => v = (.tuple #[(I r.1), (B r.2)])) := by
  refine ⟨⟨_, _, Try.func26, rfl, rfl⟩, ?_⟩
  refine enter (n := 32) Try.func26 rfl rfl rfl ?_
  unfold M.impl_DotOf at h
  have hK : Mod none σ0 σ0 := Mod.refl _ _
  refine c_seq ?_
  refine rg ?_
  refine st (v := (I 0)) (rv_assign rfl) ?_
  refine st (v := (B false)) (rv_assign rfl) ?_
  refine w_end ?_
  refine q_then ?_
  refine c_seq ?_
  refine c_seq ?_
  obtain ⟨o1, hj, h'⟩ := bind_some h
  clear h
  refine c_cut (fun e a w => e = .normal ∧ ∃ (ρ : Nat → Value) (σ : St), a = fr 32 (updL ρ [(0, (Sl aa_0 a_0 ca_0)), (1, (Sl ab_1 b_1 cb_1)), (15, (B o1))]) ∧ w = σ.w ∧ Mod none σ0 σ ∧ RS 0 σ (Sl aa_0 a_0 ca_0) a_0 ∧ RS 0 σ (Sl ab_1 b_1 cb_1) b_1) ?_ ?_
  · clear h'
    rename _ = some o1 => h
    refine rg ?_
    refine st (v := (Sl aa_0 a_0 ca_0)) (rv_move rfl) ?_
    obtain ⟨r2, hx3, h'⟩ := bind_some h
    clear h
    have h := h'; clear h'
    refine st_call (c_impl_ValidVector hRa_0 hx3) rfl ?_
    have hKs := hK.size
    rintro _ σ4 m5 rfl
    replace hRa_0 := hRa_0.mod m5
    replace hRb_1 := hRb_1.mod m5
    replace hK := hK.none m5
    clear hKs m5
    refine st (v := (B (!r2))) (rv_not rfl) ?_
    refine st (v := (B (!r2))) (rv_move rfl) ?_
    rcases Bool.eq_false_or_eq_true (!r2) with hb6 | hb6
    · replace h := bif_t hb6 h
      refine st_skip (congrArg some hb6) ?_
      refine st_skip (congrArg some hb6) ?_
      refine st_skip (congrArg some hb6) ?_
      refine st (v := (B true)) (rv_pick_t (congrArg B hb6) rfl) ?_
      refine w_end ?_
      obtain rfl := Option.some.inj h
      exact ⟨rfl, _, σ4, fr_join ⟨rfl, rfl, rfl, trivial⟩, rfl, hK, hRa_0, hRb_1⟩
    · replace h := bif_f hb6 h
      refine st_g (v := (Sl ab_1 b_1 cb_1)) (congrArg some hb6) (rv_move rfl) ?_
      obtain ⟨r7, hx8, h'⟩ := bind_some h
      clear h
      have h := h'; clear h'
      refine st_call_g (by exact (congrArg some hb6)) (c_impl_ValidVector hRb_1 hx8) rfl ?_
      have hKs := hK.size
      rintro _ σ9 m10 rfl
      replace hRa_0 := hRa_0.mod m10
      replace hRb_1 := hRb_1.mod m10
      replace hK := hK.none m10
      clear hKs m10
      refine st_g (v := (B (!r7))) (congrArg some hb6) (rv_not rfl) ?_
      refine st (v := (B (!r7))) (rv_pick_f (congrArg B hb6) rfl) ?_
      refine w_end ?_
      obtain rfl := Option.some.inj h
      exact ⟨rfl, _, σ9, fr_join ⟨rfl, rfl, rfl, trivial⟩, rfl, hK, hRa_0, hRb_1⟩
  · clear hj
    have h := h'
    clear h'
    rintro e a w ⟨rfl, ρ, σ11, rfl, rfl, hK, hR12, hR13⟩
    refine q_then ?_
    refine cd_cond o1 rfl (fun hb14 => ?_) (fun hb14 => ?_)
    · replace h := bif_t hb14 h
      refine c_seq ?_
      refine rg ?_
      refine st (v := (I 0)) (rv_assign rfl) ?_
      refine st (v := (B false)) (rv_assign rfl) ?_
      refine w_end ?_
      refine q_then ?_
      refine c_ret ?_
      refine q_then_r ?_
      obtain rfl := Option.some.inj h
      exact bodyPost_ret (v := (.tuple #[(I 0), (B false)])) (results_fr2 Try.results26 rfl rfl _) rfl ⟨_, σ11, rfl, rfl, hK, rfl⟩
    · replace h := bif_f hb14 h
      refine c_skip ?_
      refine q_then ?_
      refine c_seq ?_
      refine rg ?_
      refine st (v := (I 0)) (rv_assign rfl) ?_
      refine w_end ?_
      refine q_then ?_
      refine c_seq ?_
      refine c_seq ?_
      refine rg ?_
      refine st (v := (I 0)) (rv_move rfl) ?_
      refine w_end ?_
      refine q_then ?_
      obtain ⟨o15, hj, h'⟩ := bind_some h
      clear h
      refine c_cut (fun e a w => e = .normal ∧ ∃ (ρ : Nat → Value) (σ : St), a = fr 32 (updL ρ [(6, (I o15))]) ∧ w = σ.w ∧ Mod none σ0 σ) ?_ ?_
      · clear h'
        rename _ = some o15 => h
        refine c_blk ?_
        refine wp_loopM _ h (fun s16 a w => ∃ (ρ : Nat → Value) (σ : St), a = fr 32 (updL ρ [(0, (Sl aa_0 a_0 ca_0)), (1, (Sl ab_1 b_1 cb_1)), (6, (I s16.1)), (16, (I s16.2))]) ∧ w = σ.w ∧ Mod none σ0 σ ∧ RS 0 σ (Sl aa_0 a_0 ca_0) a_0 ∧ RS 0 σ (Sl ab_1 b_1 cb_1) b_1) ⟨_, σ11, fr_join ⟨rfl, rfl, rfl, rfl, trivial⟩, rfl, hK, hR12, hR13⟩ ?_
        clear h
        rintro s16 a w o ⟨ρ, σ18, rfl, rfl, hK, hR19, hR20⟩ h hres
        refine c_seq ?_
        refine rg ?_
        refine st (v := (B (decide (s16.2 < 4)))) (rv_lss (a := s16.2) (b := 4) rfl rfl) ?_
        refine w_end ?_
        refine q_then ?_
        refine c_seq ?_
        refine cd_cond (decide (s16.2 < 4)) rfl (fun hb21 => ?_) (fun hb21 => ?_)
        · replace h := bif_t hb21 h
          refine c_skip ?_
          refine q_then ?_
          refine c_seq ?_
          refine c_blk ?_
          refine c_seq ?_
          refine rg ?_
          refine st (v := (I s16.2)) (rv_move rfl) ?_
          refine st (v := (I s16.2)) (rv_assign rfl) ?_
          refine w_end ?_
          refine q_then ?_
          obtain ⟨x22, hx23, h'⟩ := bind_some h
          clear h
          have h := h'; clear h'
          obtain ⟨b25, o26, hi24, -⟩ := hR19.ix hx23
          obtain ⟨x27, hx28, h'⟩ := bind_some h
          clear h
          have h := h'; clear h'
          obtain ⟨b30, o31, hi29, -⟩ := hR20.ix hx28
          refine rg_monoL (σ := σ18) 10 [eqv (I s16.1), eqv (Sl aa_0 a_0 ca_0), eqv (I s16.2), eqv (pt b25 o26), eqv (I x22), eqv (Sl ab_1 b_1 cb_1), eqv (I s16.2), eqv (pt b30 o31), eqv (I x27), eqv (I (w64 (x22 * x27)))] (by kernel_rfl) (by kernel_rfl) (mono_cons mono_eqv (mono_cons mono_eqv (mono_cons mono_eqv (mono_cons mono_eqv (mono_cons mono_eqv (mono_cons mono_eqv (mono_cons mono_eqv (mono_cons mono_eqv (mono_cons mono_eqv (mono_cons mono_eqv (mono_nil))))))))))) ?_ ?_
          · refine all_cons (by
                intro ρ σm m hoff hdep
                have e6 : look 32 ρ 6 = (I s16.1) := look_off (hoff 6 rfl) rfl
                exact does_v (v := (I s16.1)) (wanted_none _ rfl _) (rv_move e6) rfl) ?_
            refine all_cons (by
                intro ρ σm m hoff hdep
                have e0 : look 32 ρ 0 = (Sl aa_0 a_0 ca_0) := look_off (hoff 0 rfl) rfl
                exact does_v (v := (Sl aa_0 a_0 ca_0)) (wanted_none _ rfl _) (rv_move e0) rfl) ?_
            refine all_cons (by
                intro ρ σm m hoff hdep
                have e7 : look 32 ρ 7 = (I s16.2) := look_off (hoff 7 rfl) rfl
                exact does_v (v := (I s16.2)) (wanted_none _ rfl _) (rv_move e7) rfl) ?_
            refine all_cons (by
                intro ρ σm m hoff hdep
                have e20 : look 32 ρ 20 = (Sl aa_0 a_0 ca_0) := hdep 1 rfl rfl 20 rfl
                have e21 : look 32 ρ 21 = (I s16.2) := hdep 2 rfl rfl 21 rfl
                exact does_v (v := (pt b25 o26)) (wanted_none _ rfl _) (rv_ix Try.underlying24 ti3 e20 e21 hi24) rfl) ?_
            refine all_cons (by
                intro ρ σm m hoff hdep
                have e22 : look 32 ρ 22 = (pt b25 o26) := hdep 3 rfl rfl 22 rfl
                replace hR19 := hR19.mod m
                exact does_v (v := (I x22)) (wanted_none _ rfl _) (rv_load1 Try.underlying3 rfl e22 (hR19.at hx23 hi24).int) rfl) ?_
            refine all_cons (by
                intro ρ σm m hoff hdep
                have e1 : look 32 ρ 1 = (Sl ab_1 b_1 cb_1) := look_off (hoff 1 rfl) rfl
                exact does_v (v := (Sl ab_1 b_1 cb_1)) (wanted_none _ rfl _) (rv_move e1) rfl) ?_
            refine all_cons (by
                intro ρ σm m hoff hdep
                have e7 : look 32 ρ 7 = (I s16.2) := look_off (hoff 7 rfl) rfl
                exact does_v (v := (I s16.2)) (wanted_none _ rfl _) (rv_move e7) rfl) ?_
            refine all_cons (by
                intro ρ σm m hoff hdep
                have e24 : look 32 ρ 24 = (Sl ab_1 b_1 cb_1) := hdep 5 rfl rfl 24 rfl
                have e25 : look 32 ρ 25 = (I s16.2) := hdep 6 rfl rfl 25 rfl
                exact does_v (v := (pt b30 o31)) (wanted_none _ rfl _) (rv_ix Try.underlying24 ti3 e24 e25 hi29) rfl) ?_
            refine all_cons (by
                intro ρ σm m hoff hdep
                have e26 : look 32 ρ 26 = (pt b30 o31) := hdep 7 rfl rfl 26 rfl
                replace hR20 := hR20.mod m
                exact does_v (v := (I x27)) (wanted_none _ rfl _) (rv_load1 Try.underlying3 rfl e26 (hR20.at hx28 hi29).int) rfl) ?_
            refine all_cons (by
                intro ρ σm m hoff hdep
                have e23 : look 32 ρ 23 = (I x22) := hdep 4 rfl rfl 23 rfl
                have e27 : look 32 ρ 27 = (I x27) := hdep 8 rfl rfl 27 rfl
                exact does_v (v := (I (w64 (x22 * x27)))) (wanted_none _ rfl _) (rv_mul (a := x22) (b := x27) e23 e27) rfl) ?_
            exact all_nil
          · intro ρ σ32 m hoff hrel
            have e0 : look 32 ρ 0 = (Sl aa_0 a_0 ca_0) := look_off (hoff 0 rfl) rfl
            have e1 : look 32 ρ 1 = (Sl ab_1 b_1 cb_1) := look_off (hoff 1 rfl) rfl
            have e16 : look 32 ρ 16 = (I s16.2) := look_off (hoff 16 rfl) rfl
            have e19 : look 32 ρ 19 = (I s16.1) := hrel 0 rfl 19 rfl
            have e28 : look 32 ρ 28 = (I (w64 (x22 * x27))) := hrel 9 rfl 28 rfl
            replace hR19 := hR19.mod m
            replace hR20 := hR20.mod m
            replace hK := hK.none m
            rw [fr_lookL (L := [(0, (Sl aa_0 a_0 ca_0)), (1, (Sl ab_1 b_1 cb_1)), (16, (I s16.2)), (19, (I s16.1)), (28, (I (w64 (x22 * x27))))]) ⟨e0, e1, e16, e19, e28, trivial⟩]
            clear hoff hrel m e0 e1 e16 e19 e28
            refine st (v := (I (w64 (s16.1 + (w64 (x22 * x27)))))) (rv_add (a := s16.1) (b := (w64 (x22 * x27))) rfl rfl) ?_
            refine st (v := (I (w64 (s16.1 + (w64 (x22 * x27)))))) (rv_assign rfl) ?_
            refine w_end ?_
            refine q_blk ?_
            refine q_then ?_
            refine rg ?_
            refine st (v := (I (w64 (s16.2 + 1)))) (rv_add (a := s16.2) (b := 1) rfl rfl) ?_
            refine st (v := (I (w64 (s16.2 + 1)))) (rv_move rfl) ?_
            refine w_end ?_
            refine q_then ?_
            obtain rfl := Option.some.inj h
            exact ⟨_, rfl, _, σ32, fr_join ⟨rfl, rfl, rfl, rfl, trivial⟩, rfl, hK, hR19, hR20⟩
        · replace h := bif_f hb21 h
          refine c_exit ?_
          refine q_then_x ?_
          refine q_then_x ?_
          refine q_blk_hit ?_
          obtain rfl := Option.some.inj h
          obtain rfl := hres _ rfl
          exact ⟨rfl, _, σ18, fr_join ⟨rfl, trivial⟩, rfl, hK⟩
      · clear hj
        have h := h'
        clear h'
        rintro e a w ⟨rfl, ρ, σ33, rfl, rfl, hK⟩
        refine q_then ?_
        refine c_seq ?_
        refine rg ?_
        refine st (v := (I o15)) (rv_move rfl) ?_
        refine st (v := (I o15)) (rv_assign rfl) ?_
        refine st (v := (B true)) (rv_assign rfl) ?_
        refine w_end ?_
        refine q_then ?_
        refine c_ret ?_
        obtain rfl := Option.some.inj h
        exact bodyPost_ret (v := (.tuple #[(I o15), (B true)])) (results_fr2 Try.results26 rfl rfl _) rfl ⟨_, σ33, rfl, rfl, hK, rfl⟩

theorem c_laws_FnExactDotOf {σ0 : St} {aA_0 : List Int} {aB_1 : List Int} {aaA_0 : Option Addr} {caA_0 : Nat} (hRaA_0 : RS 0 σ0 (Sl aaA_0 aA_0 caA_0) aA_0) {aaB_1 : Option Addr} {caB_1 : Nat} (hRaB_1 : RS 0 σ0 (Sl aaB_1 aB_1 caB_1) aB_1) {r : Bool} (h : M.laws_FnExactDotOf aA_0 aB_1 = some r) :
    Cal Try.prog 6 [(Sl aaA_0 aA_0 caA_0), (Sl aaB_1 aB_1 caB_1)] none σ0 (fun v σ' => v = (B r)) := by
  refine ⟨⟨_, _, Try.func6, rfl, rfl⟩, ?_⟩
  refine enter (n := 53) Try.func6 rfl rfl rfl ?_
  unfold M.laws_FnExactDotOf at h
  have hK : Mod none σ0 σ0 := Mod.refl _ _
  refine c_seq ?_
  refine rg ?_
  refine st (v := (B false)) (rv_assign rfl) ?_
  refine w_end ?_
  refine q_then ?_
  refine c_seq ?_
  refine c_seq ?_
  refine rg ?_
  refine st (v := (Sl aaA_0 aA_0 caA_0)) (rv_move rfl) ?_
  refine st (v := (I (aA_0.length : Int))) (rv_len Try.underlying24 rfl) ?_
  refine st (v := (B (decide (1048576 < (aA_0.length : Int))))) (rv_gtr (a := (aA_0.length : Int)) (b := 1048576) rfl rfl) ?_
  refine w_end ?_
  refine q_then ?_
  refine cd_cond (decide (1048576 < (aA_0.length : Int))) rfl (fun hb1 => ?_) (fun hb1 => ?_)
  · replace h := bif_t hb1 h
    refine c_seq ?_
    refine rg ?_
    refine st (v := (B true)) (rv_assign rfl) ?_
    refine w_end ?_
    refine q_then ?_
    refine c_ret ?_
    refine q_then_r ?_
    obtain rfl := Option.some.inj h
    exact bodyPost_ret (v := (B true)) (results_fr1 Try.results6 rfl _) rfl ⟨_, σ0, rfl, rfl, hK, rfl⟩
  · replace h := bif_f hb1 h
    refine c_skip ?_
    refine q_then ?_
    refine c_seq ?_
    refine c_seq ?_
    refine rg ?_
    refine st (v := (Sl aaB_1 aB_1 caB_1)) (rv_move rfl) ?_
    refine st (v := (I (aB_1.length : Int))) (rv_len Try.underlying24 rfl) ?_
    refine st (v := (B (decide (1048576 < (aB_1.length : Int))))) (rv_gtr (a := (aB_1.length : Int)) (b := 1048576) rfl rfl) ?_
    refine w_end ?_
    refine q_then ?_
    refine cd_cond (decide (1048576 < (aB_1.length : Int))) rfl (fun hb2 => ?_) (fun hb2 => ?_)
    · replace h := bif_t hb2 h
      refine c_seq ?_
      refine rg ?_
      refine st (v := (B true)) (rv_assign rfl) ?_
      refine w_end ?_
      refine q_then ?_
      refine c_ret ?_
      refine q_then_r ?_
      obtain rfl := Option.some.inj h
      exact bodyPost_ret (v := (B true)) (results_fr1 Try.results6 rfl _) rfl ⟨_, σ0, rfl, rfl, hK, rfl⟩
    · replace h := bif_f hb2 h
      refine c_skip ?_
      refine q_then ?_
      refine c_seq ?_
      refine rg ?_
      refine st (v := (Sl aaA_0 aA_0 caA_0)) (rv_move rfl) ?_
      obtain ⟨r3, hx4, h'⟩ := bind_some h
      clear h
      have h := h'; clear h'
      refine st_call (c_laws_toIntS hRaA_0 hx4) rfl ?_
      have hKs := hK.size
      rintro _ σ5 m6 ⟨a7, c8, rfl, hO9⟩
      replace hRaA_0 := hRaA_0.mod m6
      replace hRaB_1 := hRaB_1.mod m6
      replace hK := hK.none m6
      have hO9g := hO9.ge
      replace hO9 := hO9.lo hKs
      replace hO9 := hO9.low' hKs
      clear hKs m6 hO9g
      refine st (v := (Sl aaB_1 aB_1 caB_1)) (rv_move rfl) ?_
      obtain ⟨r10, hx11, h'⟩ := bind_some h
      clear h
      have h := h'; clear h'
      refine st_call (c_laws_toIntS hRaB_1 hx11) rfl ?_
      have hd17 := hO9.ltb
      have hKs := hK.size
      rintro _ σ12 m13 ⟨a14, c15, rfl, hO16⟩
      replace hRaA_0 := hRaA_0.mod m13
      replace hRaB_1 := hRaB_1.mod m13
      replace hO9 := hO9.mod0 m13
      replace hK := hK.none m13
      have hO16g := hO16.ge
      replace hO16 := hO16.lo hKs
      replace hO16 := hO16.low' hKs
      have hd18 := Df.ge hd17 hO16g
      clear hKs m13 hO16g
      have hg23 := hO9.ge
      obtain ⟨σ19, hw22, m20, hR21⟩ := hO9.pub' (Nat.le_refl _)
      rw [← hw22]; clear hw22
      replace hRaA_0 := hRaA_0.mod m20
      replace hRaB_1 := hRaB_1.mod m20
      replace hO16 := hO16.mod' m20 (by first | exact (hd18).symm | exact Df.re (hd18).symm)
      replace hK := hK.own m20 hg23
      have hg28 := hO16.ge
      obtain ⟨σ24, hw27, m25, hR26⟩ := hO16.pub' (Nat.le_refl _)
      rw [← hw27]; clear hw27
      replace hRaA_0 := hRaA_0.mod m25
      replace hRaB_1 := hRaB_1.mod m25
      replace hR21 := hR21.mod m25
      replace hK := hK.own m25 hg28
      obtain ⟨r29, hx30, h'⟩ := bind_some h
      clear h
      have h := h'; clear h'
      refine st_call (c_spec_DotOf (hR21.low (Nat.zero_le _)) (hR26.low (Nat.zero_le _)) hx30) rfl ?_
      have hKs := hK.size
      rintro _ σ31 m32 rfl
      replace hRaA_0 := hRaA_0.mod m32
      replace hRaB_1 := hRaB_1.mod m32
      replace hR21 := hR21.mod m32
      replace hR26 := hR26.mod m32
      replace hK := hK.none m32
      clear hKs m32
      refine st (v := (.tuple #[(I r29.1), (B r29.2)])) (rv_move rfl) ?_
      refine st (v := (I r29.1)) (rv_extract rfl rfl) ?_
      refine st (v := (B r29.2)) (rv_extract rfl rfl) ?_
      refine st (v := (I r29.1)) (rv_assign rfl) ?_
      refine st (v := (B r29.2)) (rv_assign rfl) ?_
      refine w_end ?_
      refine q_then ?_
      refine c_seq ?_
      refine rg ?_
      refine st (v := (Sl aaA_0 aA_0 caA_0)) (rv_move rfl) ?_
      obtain ⟨r33, hx34, h'⟩ := bind_some h
      clear h
      have h := h'; clear h'
      refine st_call (c_laws_toIntS hRaA_0 hx34) rfl ?_
      have hKs := hK.size
      rintro _ σ35 m36 ⟨a37, c38, rfl, hO39⟩
      replace hRaA_0 := hRaA_0.mod m36
      replace hRaB_1 := hRaB_1.mod m36
      replace hK := hK.none m36
      have hO39g := hO39.ge
      replace hO39 := hO39.lo hKs
      replace hO39 := hO39.low' hKs
      clear hKs m36 hO39g
      refine st (v := (Sl a37 r33 c38)) (rv_assign rfl) ?_
      refine w_end ?_
      refine q_then ?_
      refine c_seq ?_
      refine rg ?_
      refine st (v := (Sl aaB_1 aB_1 caB_1)) (rv_move rfl) ?_
      obtain ⟨r40, hx41, h'⟩ := bind_some h
      clear h
      have h := h'; clear h'
      refine st_call (c_laws_toIntS hRaB_1 hx41) rfl ?_
      have hd47 := hO39.ltb
      have hKs := hK.size
      rintro _ σ42 m43 ⟨a44, c45, rfl, hO46⟩
      replace hRaA_0 := hRaA_0.mod m43
      replace hRaB_1 := hRaB_1.mod m43
      replace hO39 := hO39.mod0 m43
      replace hK := hK.none m43
      have hO46g := hO46.ge
      replace hO46 := hO46.lo hKs
      replace hO46 := hO46.low' hKs
      have hd48 := Df.ge hd47 hO46g
      clear hKs m43 hO46g
      refine st (v := (Sl a44 r40 c45)) (rv_assign rfl) ?_
      refine w_end ?_
      refine q_then ?_
      refine c_seq ?_
      refine rg ?_
      refine st (v := (Sl a37 r33 c38)) (rv_move rfl) ?_
      refine st (v := (Sl a44 r40 c45)) (rv_move rfl) ?_
      obtain ⟨σ49, hw50, m51, hR52⟩ := hO39.pub' (Nat.le_refl _)
      obtain ⟨σ53, hw54, m55, hR56⟩ := (hO46.mod' m51 (by first | exact (hd48).symm | exact Df.re (hd48).symm)).pub' (Nat.le_refl _)
      rw [← (hw54.trans hw50)]
      obtain ⟨r57, hx58, h'⟩ := bind_some h
      clear h
      have h := h'; clear h'
      refine st_call (c_impl_DotOf ((hR52.low (Nat.zero_le _)).mod m55) (hR56.low (Nat.zero_le _)) hx58) rfl ?_
      have hd61 := ltb_size hO39.ltb (hw54.trans hw50)
      have hd62 := ltb_size hO46.ltb (hw54.trans hw50)
      have hKs := size_le hK.size (hw54.trans hw50)
      rintro _ σ59 m60 rfl
      obtain ⟨σ63, hw64, m65, hxl66, hvl67⟩ := lent (hw54.trans hw50) m60
      rw [← hw64]
      replace hRaA_0 := hRaA_0.mod m65
      replace hRaB_1 := hRaB_1.mod m65
      replace hO39 := hO39.mod0 m65
      replace hO46 := hO46.mod0 m65
      replace hK := hK.none m65
      clear hKs m65
      refine st (v := (.tuple #[(I r57.1), (B r57.2)])) (rv_move rfl) ?_
      refine st (v := (I r57.1)) (rv_extract rfl rfl) ?_
      refine st (v := (B r57.2)) (rv_extract rfl rfl) ?_
      refine st (v := (I r57.1)) (rv_assign rfl) ?_
      refine st (v := (B r57.2)) (rv_assign rfl) ?_
      refine w_end ?_
      refine q_then ?_
      refine c_seq ?_
      refine c_seq ?_
      obtain ⟨o68, hj, h'⟩ := bind_some h
      clear h
      refine c_cut (fun e a w => e = .normal ∧ ∃ (ρ : Nat → Value) (σ : St), a = fr 53 (updL ρ [(0, (Sl aaA_0 aA_0 caA_0)), (1, (Sl aaB_1 aB_1 caB_1)), (7, (Sl a37 r33 c38)), (8, (Sl a44 r40 c45)), (42, (B o68))]) ∧ w = σ.w ∧ Mod none σ0 σ ∧ RS 0 σ (Sl aaA_0 aA_0 caA_0) aA_0 ∧ RS 0 σ (Sl aaB_1 aB_1 caB_1) aB_1 ∧ Ow σ σ0.size σ0.size (Sl a37 r33 c38) r33 ∧ Ow σ σ0.size σ0.size (Sl a44 r40 c45) r40 ∧ Df (blk (Sl a44 r40 c45)) (blk (Sl a37 r33 c38))) ?_ ?_
      · clear h'
        rename _ = some o68 => h
        refine rg ?_
        refine st (v := (I r57.1)) (rv_move rfl) ?_
        refine st (v := (I r29.1)) (rv_move rfl) ?_
        refine st (v := (B (r57.1 != r29.1))) (rv_neq (a := r57.1) (b := r29.1) rfl rfl) ?_
        refine st (v := (B (r57.1 != r29.1))) (rv_move rfl) ?_
        rcases Bool.eq_false_or_eq_true (r57.1 != r29.1) with hb69 | hb69
        · replace h := bif_t hb69 h
          refine st_skip (congrArg some hb69) ?_
          refine st_skip (congrArg some hb69) ?_
          refine st_skip (congrArg some hb69) ?_
          refine st (v := (B true)) (rv_pick_t (congrArg B hb69) rfl) ?_
          refine w_end ?_
          obtain rfl := Option.some.inj h
          exact ⟨rfl, _, σ63, fr_join ⟨rfl, rfl, rfl, rfl, rfl, trivial⟩, rfl, hK, hRaA_0, hRaB_1, hO39, hO46, (by first | exact (hd48).symm | exact Df.re (hd48).symm)⟩
        · replace h := bif_f hb69 h
          refine st_g (v := (B r57.2)) (congrArg some hb69) (rv_move rfl) ?_
          refine st_g (v := (B r29.2)) (congrArg some hb69) (rv_move rfl) ?_
          refine st_g (v := (B (r57.2 != r29.2))) (congrArg some hb69) (rv_bneq Try.underlying4 rfl rfl) ?_
          refine st (v := (B (r57.2 != r29.2))) (rv_pick_f (congrArg B hb69) rfl) ?_
          refine w_end ?_
          obtain rfl := Option.some.inj h
          exact ⟨rfl, _, σ63, fr_join ⟨rfl, rfl, rfl, rfl, rfl, trivial⟩, rfl, hK, hRaA_0, hRaB_1, hO39, hO46, (by first | exact (hd48).symm | exact Df.re (hd48).symm)⟩
      · clear hj
        have h := h'
        clear h'
        rintro e a w ⟨rfl, ρ, σ70, rfl, rfl, hK, hR71, hR72, hO73, hO74, hd75⟩
        refine q_then ?_
        refine cd_cond o68 rfl (fun hb76 => ?_) (fun hb76 => ?_)
        · replace h := bif_t hb76 h
          refine c_seq ?_
          refine rg ?_
          refine st (v := (B false)) (rv_assign rfl) ?_
          refine w_end ?_
          refine q_then ?_
          refine c_ret ?_
          refine q_then_r ?_
          obtain rfl := Option.some.inj h
          exact bodyPost_ret (v := (B false)) (results_fr1 Try.results6 rfl _) rfl ⟨_, σ70, rfl, rfl, hK, rfl⟩
        · replace h := bif_f hb76 h
          refine c_skip ?_
          refine q_then ?_
          refine c_seq ?_
          refine c_seq ?_
          refine rg ?_
          refine st (v := (Sl a37 r33 c38)) (rv_move rfl) ?_
          refine st (v := (Sl aaA_0 aA_0 caA_0)) (rv_move rfl) ?_
          obtain ⟨r77, hx78, h'⟩ := bind_some h
          clear h
          have h := h'; clear h'
          refine st_call (c_laws_toIntS hR71 hx78) rfl ?_
          have hd84 := hO74.ltb
          have hd85 := hO73.ltb
          have hKs := hK.size
          rintro _ σ79 m80 ⟨a81, c82, rfl, hO83⟩
          replace hR72 := hR72.mod m80
          replace hO74 := hO74.mod0 m80
          replace hO73 := hO73.mod0 m80
          replace hR71 := hR71.mod m80
          replace hK := hK.none m80
          have hO83g := hO83.ge
          replace hO83 := hO83.lo hKs
          replace hO83 := hO83.low' hKs
          have hd86 := Df.ge hd84 hO83g
          have hd87 := Df.ge hd85 hO83g
          clear hKs m80 hO83g
          have hg92 := hO73.ge
          obtain ⟨σ88, hw91, m89, hR90⟩ := hO73.pub' (Nat.le_refl _)
          rw [← hw91]; clear hw91
          replace hR72 := hR72.mod m89
          replace hO74 := hO74.mod' m89 (by first | exact hd75 | exact Df.re hd75)
          replace hO83 := hO83.mod' m89 (by first | exact (hd87).symm | exact Df.re (hd87).symm)
          replace hK := hK.own m89 hg92
          have hg97 := hO83.ge
          obtain ⟨σ93, hw96, m94, hR95⟩ := hO83.pub' (Nat.le_refl _)
          rw [← hw96]; clear hw96
          replace hR72 := hR72.mod m94
          replace hO74 := hO74.mod' m94 (by first | exact hd86 | exact Df.re hd86)
          replace hR90 := hR90.mod m94
          replace hK := hK.own m94 hg97
          obtain ⟨r98, hx99, h'⟩ := bind_some h
          clear h
          have h := h'; clear h'
          refine st_call (c_laws_eqIntS (hR90.low (Nat.zero_le _)) (hR95.low (Nat.zero_le _)) hx99) rfl ?_
          have hd102 := hO74.ltb
          have hKs := hK.size
          rintro _ σ100 m101 rfl
          replace hR72 := hR72.mod m101
          replace hO74 := hO74.mod0 m101
          replace hR90 := hR90.mod m101
          replace hR95 := hR95.mod m101
          replace hK := hK.none m101
          clear hKs m101
          refine st (v := (B (!r98))) (rv_not rfl) ?_
          refine w_end ?_
          refine q_then ?_
          refine cd_cond (!r98) rfl (fun hb103 => ?_) (fun hb103 => ?_)
          · replace h := bif_t hb103 h
            refine c_seq ?_
            refine rg ?_
            refine st (v := (B false)) (rv_assign rfl) ?_
            refine w_end ?_
            refine q_then ?_
            refine c_ret ?_
            refine q_then_r ?_
            obtain rfl := Option.some.inj h
            exact bodyPost_ret (v := (B false)) (results_fr1 Try.results6 rfl _) rfl ⟨_, σ100, rfl, rfl, hK, rfl⟩
          · replace h := bif_f hb103 h
            refine c_skip ?_
            refine q_then ?_
            refine c_seq ?_
            refine c_seq ?_
            refine rg ?_
            refine st (v := (Sl a44 r40 c45)) (rv_move rfl) ?_
            refine st (v := (Sl aaB_1 aB_1 caB_1)) (rv_move rfl) ?_
            obtain ⟨r104, hx105, h'⟩ := bind_some h
            clear h
            have h := h'; clear h'
            refine st_call (c_laws_toIntS hR72 hx105) rfl ?_
            have hd111 := hO74.ltb
            have hKs := hK.size
            rintro _ σ106 m107 ⟨a108, c109, rfl, hO110⟩
            replace hO74 := hO74.mod0 m107
            replace hR72 := hR72.mod m107
            replace hK := hK.none m107
            have hO110g := hO110.ge
            replace hO110 := hO110.lo hKs
            replace hO110 := hO110.low' hKs
            have hd112 := Df.ge hd111 hO110g
            clear hKs m107 hO110g
            have hg117 := hO74.ge
            obtain ⟨σ113, hw116, m114, hR115⟩ := hO74.pub' (Nat.le_refl _)
            rw [← hw116]; clear hw116
            replace hO110 := hO110.mod' m114 (by first | exact (hd112).symm | exact Df.re (hd112).symm)
            replace hK := hK.own m114 hg117
            have hg122 := hO110.ge
            obtain ⟨σ118, hw121, m119, hR120⟩ := hO110.pub' (Nat.le_refl _)
            rw [← hw121]; clear hw121
            replace hR115 := hR115.mod m119
            replace hK := hK.own m119 hg122
            obtain ⟨r123, hx124, h'⟩ := bind_some h
            clear h
            have h := h'; clear h'
            refine st_call (c_laws_eqIntS (hR115.low (Nat.zero_le _)) (hR120.low (Nat.zero_le _)) hx124) rfl ?_
            have hKs := hK.size
            rintro _ σ125 m126 rfl
            replace hR115 := hR115.mod m126
            replace hR120 := hR120.mod m126
            replace hK := hK.none m126
            clear hKs m126
            refine st (v := (B (!r123))) (rv_not rfl) ?_
            refine w_end ?_
            refine q_then ?_
            refine cd_cond (!r123) rfl (fun hb127 => ?_) (fun hb127 => ?_)
            · replace h := bif_t hb127 h
              refine c_seq ?_
              refine rg ?_
              refine st (v := (B false)) (rv_assign rfl) ?_
              refine w_end ?_
              refine q_then ?_
              refine c_ret ?_
              refine q_then_r ?_
              obtain rfl := Option.some.inj h
              exact bodyPost_ret (v := (B false)) (results_fr1 Try.results6 rfl _) rfl ⟨_, σ125, rfl, rfl, hK, rfl⟩
            · replace h := bif_f hb127 h
              refine c_skip ?_
              refine q_then ?_
              refine c_seq ?_
              refine rg ?_
              refine st (v := (B true)) (rv_assign rfl) ?_
              refine w_end ?_
              refine q_then ?_
              refine c_ret ?_
              obtain rfl := Option.some.inj h
              exact bodyPost_ret (v := (B true)) (results_fr1 Try.results6 rfl _) rfl ⟨_, σ125, rfl, rfl, hK, rfl⟩

theorem c_laws_szIntS {σ0 : St} {a_0 : List Int} {left_1 : Int} {aa_0 : Option Addr} {ca_0 : Nat} (hRa_0 : RS 0 σ0 (Sl aa_0 a_0 ca_0) a_0) {r : Int} (h : M.laws_szIntS a_0 left_1 = some r) :
    Cal Try.prog 71 [(Sl aa_0 a_0 ca_0), (I left_1)] none σ0 (fun v σ' => v = (I r)) := by
  refine ⟨⟨_, _, Try.func71, rfl, rfl⟩, ?_⟩
  refine enter (n := 12) Try.func71 rfl rfl rfl ?_
  unfold M.laws_szIntS at h
  have hK : Mod none σ0 σ0 := Mod.refl _ _
  refine c_seq ?_
  refine rg ?_
  refine st (v := (I 0)) (rv_assign rfl) ?_
  refine w_end ?_
  refine q_then ?_
  refine c_seq ?_
  refine rg ?_
  refine st (v := (I left_1)) (rv_move rfl) ?_
  refine st (v := (Sl aa_0 a_0 ca_0)) (rv_move rfl) ?_
  refine st (v := (I (a_0.length : Int))) (rv_len Try.underlying24 rfl) ?_
  refine st (v := (I (w64 (left_1 - (a_0.length : Int))))) (rv_sub (a := left_1) (b := (a_0.length : Int)) rfl rfl) ?_
  refine st (v := (I (w64 (left_1 - (a_0.length : Int))))) (rv_assign rfl) ?_
  refine w_end ?_
  refine q_then ?_
  refine c_seq ?_
  refine c_seq ?_
  refine rg ?_
  refine st (v := (I (w64 (left_1 - (a_0.length : Int))))) (rv_move rfl) ?_
  refine st (v := (B (decide ((w64 (left_1 - (a_0.length : Int))) < 0)))) (rv_lss (a := (w64 (left_1 - (a_0.length : Int)))) (b := 0) rfl rfl) ?_
  refine w_end ?_
  refine q_then ?_
  refine cd_cond (decide ((w64 (left_1 - (a_0.length : Int))) < 0)) rfl (fun hb1 => ?_) (fun hb1 => ?_)
  · replace h := bif_t hb1 h
    refine c_seq ?_
    refine rg ?_
    refine st (v := (I (-1))) (rv_assign rfl) ?_
    refine w_end ?_
    refine q_then ?_
    refine c_ret ?_
    refine q_then_r ?_
    obtain rfl := Option.some.inj h
    exact bodyPost_ret (v := (I (-1))) (results_fr1 Try.results71 rfl _) rfl ⟨_, σ0, rfl, rfl, hK, rfl⟩
  · replace h := bif_f hb1 h
    refine c_skip ?_
    refine q_then ?_
    refine c_seq ?_
    refine rg ?_
    refine st (v := (I (w64 (left_1 - (a_0.length : Int))))) (rv_move rfl) ?_
    refine st (v := (I (w64 (left_1 - (a_0.length : Int))))) (rv_assign rfl) ?_
    refine w_end ?_
    refine q_then ?_
    refine c_ret ?_
    obtain rfl := Option.some.inj h
    exact bodyPost_ret (v := (I (w64 (left_1 - (a_0.length : Int))))) (results_fr1 Try.results71 rfl _) rfl ⟨_, σ0, rfl, rfl, hK, rfl⟩

theorem c_laws_szIntSS {σ0 : St} {a_0 : List (List Int)} {left_1 : Int} {aa_0 : Option Addr} {ca_0 : Nat} (hRa_0 : RS 0 σ0 (Sl aa_0 a_0 ca_0) a_0) {r : Int} (h : M.laws_szIntSS a_0 left_1 = some r) :
    Cal Try.prog 27 [(Sl aa_0 a_0 ca_0), (I left_1)] none σ0 (fun v σ' => v = (I r)) := by
  refine ⟨⟨_, _, Try.func27, rfl, rfl⟩, ?_⟩
  refine enter (n := 27) Try.func27 rfl rfl rfl ?_
  unfold M.laws_szIntSS at h
  have hK : Mod none σ0 σ0 := Mod.refl _ _
  refine c_seq ?_
  refine rg ?_
  refine st (v := (I 0)) (rv_assign rfl) ?_
  refine w_end ?_
  refine q_then ?_
  refine c_seq ?_
  refine rg ?_
  refine st (v := (I left_1)) (rv_move rfl) ?_
  refine st (v := (Sl aa_0 a_0 ca_0)) (rv_move rfl) ?_
  refine st (v := (I (a_0.length : Int))) (rv_len Try.underlying42 rfl) ?_
  refine st (v := (I (w64 (left_1 - (a_0.length : Int))))) (rv_sub (a := left_1) (b := (a_0.length : Int)) rfl rfl) ?_
  refine st (v := (I (w64 (left_1 - (a_0.length : Int))))) (rv_assign rfl) ?_
  refine w_end ?_
  refine q_then ?_
  refine c_seq ?_
  refine c_seq ?_
  refine rg ?_
  refine st (v := (I (w64 (left_1 - (a_0.length : Int))))) (rv_move rfl) ?_
  refine st (v := (B (decide ((w64 (left_1 - (a_0.length : Int))) < 0)))) (rv_lss (a := (w64 (left_1 - (a_0.length : Int)))) (b := 0) rfl rfl) ?_
  refine w_end ?_
  refine q_then ?_
  refine cd_cond (decide ((w64 (left_1 - (a_0.length : Int))) < 0)) rfl (fun hb1 => ?_) (fun hb1 => ?_)
  · replace h := bif_t hb1 h
    refine c_seq ?_
    refine rg ?_
    refine st (v := (I (-1))) (rv_assign rfl) ?_
    refine w_end ?_
    refine q_then ?_
    refine c_ret ?_
    refine q_then_r ?_
    obtain rfl := Option.some.inj h
    exact bodyPost_ret (v := (I (-1))) (results_fr1 Try.results27 rfl _) rfl ⟨_, σ0, rfl, rfl, hK, rfl⟩
  · replace h := bif_f hb1 h
    refine c_skip ?_
    refine q_then ?_
    refine c_seq ?_
    refine c_seq ?_
    refine rg ?_
    refine st (v := (I 0)) (rv_assign rfl) ?_
    refine w_end ?_
    refine q_then ?_
    obtain ⟨o2, hj, h'⟩ := bind_some h
    clear h
    refine c_cut (fun e a w => (∃ t, o2 = (.inl t) ∧ e = .normal ∧ ∃ (ρ : Nat → Value) (σ : St), a = fr 27 (updL ρ [(1, (I t))]) ∧ w = σ.w ∧ Mod none σ0 σ) ∨ (∃ t, o2 = (.inr t) ∧ e = .ret ∧ ∃ (ρ : Nat → Value) (σ : St), a = fr 27 (updL ρ [(4, (I t))]) ∧ w = σ.w ∧ Mod none σ0 σ)) ?_ ?_
    · clear h'
      rename _ = some o2 => h
      refine c_blk ?_
      refine wp_loopM _ h (fun s3 a w => ∃ (ρ : Nat → Value) (σ : St), a = fr 27 (updL ρ [(0, (Sl aa_0 a_0 ca_0)), (1, (I s3.1)), (5, (I s3.2))]) ∧ w = σ.w ∧ Mod none σ0 σ ∧ RS 0 σ (Sl aa_0 a_0 ca_0) a_0) ⟨_, σ0, fr_join ⟨rfl, rfl, rfl, trivial⟩, rfl, hK, hRa_0⟩ ?_
      clear h
      rintro s3 a w o ⟨ρ, σ5, rfl, rfl, hK, hR6⟩ h hres
      refine c_seq ?_
      refine c_seq ?_
      refine rg ?_
      refine st (v := (I s3.2)) (rv_move rfl) ?_
      refine st (v := (Sl aa_0 a_0 ca_0)) (rv_move rfl) ?_
      refine st (v := (I (a_0.length : Int))) (rv_len Try.underlying42 rfl) ?_
      refine st (v := (B (decide (s3.2 < (a_0.length : Int))))) (rv_lss (a := s3.2) (b := (a_0.length : Int)) rfl rfl) ?_
      refine w_end ?_
      refine q_then ?_
      refine cd_cond (decide (s3.2 < (a_0.length : Int))) rfl (fun hb7 => ?_) (fun hb7 => ?_)
      · replace h := bif_t hb7 h
        refine c_skip ?_
        refine q_then ?_
        refine c_seq ?_
        refine c_blk ?_
        refine c_seq ?_
        refine rg ?_
        refine st (v := (Sl aa_0 a_0 ca_0)) (rv_move rfl) ?_
        refine st (v := (I s3.2)) (rv_move rfl) ?_
        obtain ⟨x8, hx9, h'⟩ := bind_some h
        clear h
        have h := h'; clear h'
        obtain ⟨b11, o12, hi10, -⟩ := hR6.ix hx9
        refine st (v := (pt b11 o12)) (rv_ix Try.underlying42 ti24 rfl rfl hi10) ?_
        obtain ⟨v16, hc17, hR15⟩ := (hR6.at hx9 hi10).slice
        obtain ⟨a13, c14, rfl⟩ := hR15.isSl
        refine st (v := (Sl a13 x8 c14)) (rv_load1 Try.underlying24 rfl rfl hc17) ?_
        refine st (v := (I s3.1)) (rv_move rfl) ?_
        obtain ⟨r18, hx19, h'⟩ := bind_some h
        clear h
        have h := h'; clear h'
        refine st_call (c_laws_szIntS hR15 hx19) rfl ?_
        have hKs := hK.size
        rintro _ σ20 m21 rfl
        replace hR6 := hR6.mod m21
        replace hR15 := hR15.mod m21
        replace hK := hK.none m21
        clear hKs m21
        refine st (v := (I r18)) (rv_assign rfl) ?_
        refine w_end ?_
        refine q_then ?_
        refine c_seq ?_
        refine rg ?_
        refine st (v := (I r18)) (rv_move rfl) ?_
        refine st (v := (B (decide (r18 < 0)))) (rv_lss (a := r18) (b := 0) rfl rfl) ?_
        refine w_end ?_
        refine q_then ?_
        refine cd_cond (decide (r18 < 0)) rfl (fun hb22 => ?_) (fun hb22 => ?_)
        · replace h := bif_t hb22 h
          refine c_seq ?_
          refine rg ?_
          refine st (v := (I (-1))) (rv_assign rfl) ?_
          refine w_end ?_
          refine q_then ?_
          refine c_ret ?_
          refine q_blk_r ?_
          refine q_then_r ?_
          refine q_then_r ?_
          refine q_blk_r ?_
          obtain rfl := Option.some.inj h
          obtain rfl := hres _ rfl
          exact .inr (⟨_, rfl, rfl, _, σ20, fr_join ⟨rfl, trivial⟩, rfl, hK⟩)
        · replace h := bif_f hb22 h
          refine c_skip ?_
          refine q_blk ?_
          refine q_then ?_
          refine rg ?_
          refine st (v := (I s3.2)) (rv_move rfl) ?_
          refine st (v := (I (w64 (s3.2 + 1)))) (rv_add (a := s3.2) (b := 1) rfl rfl) ?_
          refine st (v := (I (w64 (s3.2 + 1)))) (rv_assign rfl) ?_
          refine w_end ?_
          refine q_then ?_
          obtain rfl := Option.some.inj h
          exact ⟨_, rfl, _, σ20, fr_join ⟨rfl, rfl, rfl, trivial⟩, rfl, hK, hR6⟩
      · replace h := bif_f hb7 h
        refine c_exit ?_
        refine q_then_x ?_
        refine q_then_x ?_
        refine q_blk_hit ?_
        obtain rfl := Option.some.inj h
        obtain rfl := hres _ rfl
        exact .inl ⟨_, rfl, rfl, _, σ5, fr_join ⟨rfl, trivial⟩, rfl, hK⟩
    · clear hj
      have h := h'
      clear h'
      rintro e a w (⟨t23, rfl, rfl, ρ, σ24, rfl, rfl, hK⟩ | ⟨t25, rfl, rfl, ρ, σ26, rfl, rfl, hK⟩)
      · replace h := selim_l h
        refine q_then ?_
        refine c_seq ?_
        refine rg ?_
        refine st (v := (I t23)) (rv_move rfl) ?_
        refine st (v := (I t23)) (rv_assign rfl) ?_
        refine w_end ?_
        refine q_then ?_
        refine c_ret ?_
        obtain rfl := Option.some.inj h
        exact bodyPost_ret (v := (I t23)) (results_fr1 Try.results27 rfl _) rfl ⟨_, σ24, rfl, rfl, hK, rfl⟩
      · replace h := selim_r h
        refine q_then_r ?_
        obtain rfl := Option.some.inj h
        exact bodyPost_ret (v := (I t25)) (results_fr1 Try.results27 rfl _) rfl ⟨_, σ26, rfl, rfl, hK, rfl⟩

theorem c_spec_floorDiv {σ0 : St} {a_0 : Int} {b_1 : Int}  {r : Int} (h : M.spec_floorDiv a_0 b_1 = some r) :
    Cal Try.prog 75 [(I a_0), (I b_1)] none σ0 (fun v σ' => v = (I r)) := by
  refine ⟨⟨_, _, Try.func75, rfl, rfl⟩, ?_⟩
  refine enter (n := 16) Try.func75 rfl rfl rfl ?_
  unfold M.spec_floorDiv at h
  have hK : Mod none σ0 σ0 := Mod.refl _ _
  refine c_seq ?_
  refine rg ?_
  refine st (v := (I 0)) (rv_assign rfl) ?_
  refine w_end ?_
  refine q_then ?_
  refine c_seq ?_
  refine rg ?_
  refine st (v := (I a_0)) (rv_move rfl) ?_
  refine st (v := (I b_1)) (rv_move rfl) ?_
  obtain ⟨q1, hx2, h'⟩ := bind_some h
  clear h
  have h := h'; clear h'
  refine st (v := (I q1)) (rv_quoG (a := a_0) (b := b_1) hx2 rfl rfl) ?_
  refine st (v := (I q1)) (rv_assign rfl) ?_
  refine w_end ?_
  refine q_then ?_
  refine c_seq ?_
  refine c_seq ?_
  refine rg ?_
  refine st (v := (I a_0)) (rv_move rfl) ?_
  refine st (v := (I b_1)) (rv_move rfl) ?_
  obtain ⟨q3, hx4, h'⟩ := bind_some h
  clear h
  have h := h'; clear h'
  refine st (v := (I q3)) (rv_remG (a := a_0) (b := b_1) hx4 rfl rfl) ?_
  refine st (v := (B (decide (q3 < 0)))) (rv_lss (a := q3) (b := 0) rfl rfl) ?_
  refine w_end ?_
  refine q_then ?_
  obtain ⟨o5, hj, h'⟩ := bind_some h
  clear h
  refine c_cut (fun e a w => e = .normal ∧ ∃ (ρ : Nat → Value) (σ : St), a = fr 16 (updL ρ [(5, (I o5))]) ∧ w = σ.w ∧ Mod none σ0 σ) ?_ ?_
  · clear h'
    rename _ = some o5 => h
    refine cd_cond (decide (q3 < 0)) rfl (fun hb6 => ?_) (fun hb6 => ?_)
    · replace h := bif_t hb6 h
      refine rg ?_
      refine st (v := (I q1)) (rv_move rfl) ?_
      refine st (v := (I (w64 (q1 - 1)))) (rv_sub (a := q1) (b := 1) rfl rfl) ?_
      refine st (v := (I (w64 (q1 - 1)))) (rv_assign rfl) ?_
      refine w_end ?_
      obtain rfl := Option.some.inj h
      exact ⟨rfl, _, σ0, fr_join ⟨rfl, trivial⟩, rfl, hK⟩
    · replace h := bif_f hb6 h
      refine c_skip ?_
      obtain rfl := Option.some.inj h
      exact ⟨rfl, _, σ0, fr_join ⟨rfl, trivial⟩, rfl, hK⟩
  · clear hj
    have h := h'
    clear h'
    rintro e a w ⟨rfl, ρ, σ7, rfl, rfl, hK⟩
    refine q_then ?_
    refine c_seq ?_
    refine rg ?_
    refine st (v := (I o5)) (rv_move rfl) ?_
    refine st (v := (I o5)) (rv_assign rfl) ?_
    refine w_end ?_
    refine q_then ?_
    refine c_ret ?_
    obtain rfl := Option.some.inj h
    exact bodyPost_ret (v := (I o5)) (results_fr1 Try.results75 rfl _) rfl ⟨_, σ7, rfl, rfl, hK, rfl⟩

theorem c_spec_mean {σ0 : St} {list_0 : List (List Int)} {alist_0 : Option Addr} {clist_0 : Nat} (hRlist_0 : RS 0 σ0 (Sl alist_0 list_0 clist_0) list_0) {r : (List Int)} (h : M.spec_mean list_0 = some r) :
    Cal Try.prog 73 [(Sl alist_0 list_0 clist_0)] none σ0 (fun v σ' => ∃ (a0 : Option Addr) (c0 : Nat), v = (Sl a0 r c0) ∧ Ow σ' σ0.size σ0.size (Sl a0 r c0) r) := by
  refine ⟨⟨_, _, Try.func73, rfl, rfl⟩, ?_⟩
  refine enter (n := 35) Try.func73 rfl rfl rfl ?_
  unfold M.spec_mean at h
  have hK : Mod none σ0 σ0 := Mod.refl _ _
  refine c_seq ?_
  refine rg ?_
  refine st (v := (.slice none 0 0)) (rv_assign rfl) ?_
  refine w_end ?_
  refine q_then ?_
  refine c_seq ?_
  refine rg ?_
  refine st_buildSlice (lo := σ0.size) (el := σ0.size) (xs := ([] : List Int)) (ps := []) (cs := []) Try.underlying24 ti3 rfl rfl (by kernel_rfl) (.nil) rfl ?_ hK.size (wanted_none _ rfl _)
  intro b2 σ3 hbn5 m4 hO1
  replace hRlist_0 := hRlist_0.mod m4
  replace hK := hK.none m4
  clear hbn5 m4
  refine st (v := (Sl (some ⟨b2, 0, none⟩) ([] : List Int) 0)) (rv_assign rfl) ?_
  refine w_end ?_
  refine q_then ?_
  refine c_seq ?_
  refine c_seq ?_
  refine rg ?_
  refine st (v := (I 0)) (rv_assign rfl) ?_
  refine w_end ?_
  refine q_then ?_
  obtain ⟨o6, hj, h'⟩ := bind_some h
  clear h
  refine c_cut (fun e a w => e = .normal ∧ ∃ (ρ : Nat → Value) (σ : St) (aj1 : Option Addr) (cj2 : Nat), a = fr 35 (updL ρ [(3, (Sl aj1 o6 cj2))]) ∧ w = σ.w ∧ Mod none σ0 σ ∧ Ow σ σ0.size σ0.size (Sl aj1 o6 cj2) o6) ?_ ?_
  · clear h'
    rename _ = some o6 => h
    refine c_blk ?_
    refine wp_loopM _ h (fun s7 a w => ∃ (ρ : Nat → Value) (σ : St) (aj2 : Option Addr) (cj3 : Nat), a = fr 35 (updL ρ [(0, (Sl alist_0 list_0 clist_0)), (3, (Sl aj2 s7.1 cj3)), (4, (I s7.2))]) ∧ w = σ.w ∧ Mod none σ0 σ ∧ RS 0 σ (Sl alist_0 list_0 clist_0) list_0 ∧ Ow σ σ0.size σ0.size (Sl aj2 s7.1 cj3) s7.1) ⟨_, σ3, (some ⟨b2, 0, none⟩), 0, fr_join ⟨rfl, rfl, rfl, trivial⟩, rfl, hK, hRlist_0, hO1⟩ ?_
    clear h
    rintro s7 a w o ⟨ρ, σ9, a11, c12, rfl, rfl, hK, hR10, hO13⟩ h hres
    refine c_seq ?_
    refine c_seq ?_
    refine rg ?_
    refine st (v := (I s7.2)) (rv_move rfl) ?_
    refine st (v := (B (decide (s7.2 < 4)))) (rv_lss (a := s7.2) (b := 4) rfl rfl) ?_
    refine w_end ?_
    refine q_then ?_
    refine cd_cond (decide (s7.2 < 4)) rfl (fun hb14 => ?_) (fun hb14 => ?_)
    · replace h := bif_t hb14 h
      refine c_skip ?_
      refine q_then ?_
      refine c_seq ?_
      refine c_blk ?_
      refine c_seq ?_
      refine rg ?_
      refine st (v := (I 0)) (rv_assign rfl) ?_
      refine w_end ?_
      refine q_then ?_
      refine c_seq ?_
      refine c_seq ?_
      refine rg ?_
      refine st (v := (I 0)) (rv_assign rfl) ?_
      refine w_end ?_
      refine q_then ?_
      obtain ⟨o15, hj, h'⟩ := bind_some h
      clear h
      refine c_cut (fun e a w => e = .normal ∧ ∃ (ρ : Nat → Value) (σ : St), a = fr 35 (updL ρ [(0, (Sl alist_0 list_0 clist_0)), (3, (Sl a11 s7.1 c12)), (4, (I s7.2)), (5, (I o15))]) ∧ w = σ.w ∧ Mod none σ0 σ ∧ RS 0 σ (Sl alist_0 list_0 clist_0) list_0 ∧ Ow σ σ0.size σ0.size (Sl a11 s7.1 c12) s7.1) ?_ ?_
      · clear h'
        rename _ = some o15 => h
        refine c_blk ?_
        refine wp_loopM _ h (fun s16 a w => ∃ (ρ : Nat → Value) (σ : St), a = fr 35 (updL ρ [(0, (Sl alist_0 list_0 clist_0)), (3, (Sl a11 s7.1 c12)), (4, (I s7.2)), (5, (I s16.1)), (6, (I s16.2))]) ∧ w = σ.w ∧ Mod none σ0 σ ∧ RS 0 σ (Sl alist_0 list_0 clist_0) list_0 ∧ Ow σ σ0.size σ0.size (Sl a11 s7.1 c12) s7.1) ⟨_, σ9, fr_join ⟨rfl, rfl, rfl, rfl, rfl, trivial⟩, rfl, hK, hR10, hO13⟩ ?_
        clear h
        rintro s16 a w o ⟨ρ, σ18, rfl, rfl, hK, hR19, hO20⟩ h hres
        refine c_seq ?_
        refine c_seq ?_
        refine rg ?_
        refine st (v := (I s16.2)) (rv_move rfl) ?_
        refine st (v := (Sl alist_0 list_0 clist_0)) (rv_move rfl) ?_
        refine st (v := (I (list_0.length : Int))) (rv_len Try.underlying42 rfl) ?_
        refine st (v := (B (decide (s16.2 < (list_0.length : Int))))) (rv_lss (a := s16.2) (b := (list_0.length : Int)) rfl rfl) ?_
        refine w_end ?_
        refine q_then ?_
        refine cd_cond (decide (s16.2 < (list_0.length : Int))) rfl (fun hb21 => ?_) (fun hb21 => ?_)
        · replace h := bif_t hb21 h
          refine c_skip ?_
          refine q_then ?_
          refine c_seq ?_
          refine c_blk ?_
          refine rg ?_
          refine st (v := (I s16.1)) (rv_move rfl) ?_
          refine st (v := (Sl alist_0 list_0 clist_0)) (rv_move rfl) ?_
          refine st (v := (I s16.2)) (rv_move rfl) ?_
          obtain ⟨x22, hx23, h'⟩ := bind_some h
          clear h
          have h := h'; clear h'
          obtain ⟨b25, o26, hi24, -⟩ := hR19.ix hx23
          refine st (v := (pt b25 o26)) (rv_ix Try.underlying42 ti24 rfl rfl hi24) ?_
          obtain ⟨v30, hc31, hR29⟩ := (hR19.at hx23 hi24).slice
          obtain ⟨a27, c28, rfl⟩ := hR29.isSl
          refine st (v := (Sl a27 x22 c28)) (rv_load1 Try.underlying24 rfl rfl hc31) ?_
          refine st (v := (I s7.2)) (rv_move rfl) ?_
          obtain ⟨x32, hx33, h'⟩ := bind_some h
          clear h
          have h := h'; clear h'
          obtain ⟨b35, o36, hi34, -⟩ := hR29.ix hx33
          refine st (v := (pt b35 o36)) (rv_ix Try.underlying24 ti3 rfl rfl hi34) ?_
          refine st (v := (I x32)) (rv_load1 Try.underlying3 rfl rfl (hR29.at hx33 hi34).int) ?_
          refine st (v := (I (w64 (s16.1 + x32)))) (rv_add (a := s16.1) (b := x32) rfl rfl) ?_
          refine st (v := (I (w64 (s16.1 + x32)))) (rv_assign rfl) ?_
          refine w_end ?_
          refine q_blk ?_
          refine q_then ?_
          refine rg ?_
          refine st (v := (I s16.2)) (rv_move rfl) ?_
          refine st (v := (I (w64 (s16.2 + 1)))) (rv_add (a := s16.2) (b := 1) rfl rfl) ?_
          refine st (v := (I (w64 (s16.2 + 1)))) (rv_assign rfl) ?_
          refine w_end ?_
          refine q_then ?_
          obtain rfl := Option.some.inj h
          exact ⟨_, rfl, _, σ18, fr_join ⟨rfl, rfl, rfl, rfl, rfl, trivial⟩, rfl, hK, hR19, hO20⟩
        · replace h := bif_f hb21 h
          refine c_exit ?_
          refine q_then_x ?_
          refine q_then_x ?_
          refine q_blk_hit ?_
          obtain rfl := Option.some.inj h
          obtain rfl := hres _ rfl
          exact ⟨rfl, _, σ18, fr_join ⟨rfl, rfl, rfl, rfl, trivial⟩, rfl, hK, hR19, hO20⟩
      · clear hj
        have h := h'
        clear h'
        rintro e a w ⟨rfl, ρ, σ37, rfl, rfl, hK, hR38, hO39⟩
        refine q_then ?_
        refine rg ?_
        refine st (v := (Sl a11 s7.1 c12)) (rv_move rfl) ?_
        refine st (v := (I o15)) (rv_move rfl) ?_
        refine st (v := (Sl alist_0 list_0 clist_0)) (rv_move rfl) ?_
        refine st (v := (I (list_0.length : Int))) (rv_len Try.underlying42 rfl) ?_
        obtain ⟨r40, hx41, h'⟩ := bind_some h
        clear h
        have h := h'; clear h'
        refine st_call (c_spec_floorDiv  hx41) rfl ?_
        have hd44 := hO39.ltb
        have hKs := hK.size
        rintro _ σ42 m43 rfl
        replace hR38 := hR38.mod m43
        replace hO39 := hO39.mod0 m43
        replace hK := hK.none m43
        clear hKs m43
        refine st_buildSlice (lo := σ0.size) (el := σ0.size) (xs := ([r40] : List Int)) (ps := [(0, (I r40))]) (cs := [(I r40)]) Try.underlying24 ti3 rfl rfl (by kernel_rfl) (.cons (c := [(I r40)]) rfl (.nil)) rfl ?_ hK.size (wanted_none _ rfl _)
        intro b46 σ47 hbn49 m48 hO45
        have hd50 := hO39.df' hbn49
        replace hR38 := hR38.mod m48
        replace hO39 := hO39.mod0 m48
        replace hK := hK.none m48
        clear hbn49 m48
        obtain ⟨xs51, hx52, h'⟩ := bind_some h
        clear h
        have h := h'; clear h'
        have hg53 := hO39.ge
        refine st_append Try.underlying24 Try.underlying24 ti3 rfl rfl (by decide) hO39 hO45.rd hx52 hK.size rfl rfl ?_ (wanted_none _ rfl _)
        intro a58 c59 σ54 m55 hO56 hq57
        replace hR38 := hR38.mod m55
        replace hK := hK.own m55 hg53
        clear hq57 m55
        refine st (v := (Sl a58 xs51 c59)) (rv_assign rfl) ?_
        refine w_end ?_
        refine q_blk ?_
        refine q_then ?_
        refine rg ?_
        refine st (v := (I s7.2)) (rv_move rfl) ?_
        refine st (v := (I (w64 (s7.2 + 1)))) (rv_add (a := s7.2) (b := 1) rfl rfl) ?_
        refine st (v := (I (w64 (s7.2 + 1)))) (rv_assign rfl) ?_
        refine w_end ?_
        refine q_then ?_
        obtain rfl := Option.some.inj h
        exact ⟨_, rfl, _, σ54, a58, c59, fr_join ⟨rfl, rfl, rfl, trivial⟩, rfl, hK, hR38, hO56⟩
    · replace h := bif_f hb14 h
      refine c_exit ?_
      refine q_then_x ?_
      refine q_then_x ?_
      refine q_blk_hit ?_
      obtain rfl := Option.some.inj h
      obtain rfl := hres _ rfl
      exact ⟨rfl, _, σ9, a11, c12, fr_join ⟨rfl, trivial⟩, rfl, hK, hO13⟩
  · clear hj
    have h := h'
    clear h'
    rintro e a w ⟨rfl, ρ, σ60, a61, c62, rfl, rfl, hK, hO63⟩
    refine q_then ?_
    refine c_seq ?_
    refine rg ?_
    refine st (v := (Sl a61 o6 c62)) (rv_move rfl) ?_
    refine st (v := (Sl a61 o6 c62)) (rv_assign rfl) ?_
    refine w_end ?_
    refine q_then ?_
    refine c_ret ?_
    obtain rfl := Option.some.inj h
    exact bodyPost_ret (v := (Sl a61 o6 c62)) (results_fr1 Try.results73 rfl _) rfl ⟨_, σ60, rfl, rfl, hK, a61, c62, rfl, hO63⟩

theorem c_spec_MeanOf {σ0 : St} {list_0 : List (List Int)} {alist_0 : Option Addr} {clist_0 : Nat} (hRlist_0 : RS 0 σ0 (Sl alist_0 list_0 clist_0) list_0) {r : (List Int)} (h : M.spec_MeanOf list_0 = some r) :
    Cal Try.prog 28 [(Sl alist_0 list_0 clist_0)] none σ0 (fun v σ' => ∃ (a0 : Option Addr) (c0 : Nat), v = (Sl a0 r c0) ∧ Ow σ' σ0.size σ0.size (Sl a0 r c0) r) := by
  refine ⟨⟨_, _, Try.func28, rfl, rfl⟩, ?_⟩
  refine enter (n := 22) Try.func28 rfl rfl rfl ?_
  unfold M.spec_MeanOf at h
  have hK : Mod none σ0 σ0 := Mod.refl _ _
  refine c_seq ?_
  refine rg ?_
  refine st (v := (.slice none 0 0)) (rv_assign rfl) ?_
  refine w_end ?_
  refine q_then ?_
  refine c_seq ?_
  refine c_seq ?_
  refine rg ?_
  refine st (v := (Sl alist_0 list_0 clist_0)) (rv_move rfl) ?_
  refine st (v := (I (list_0.length : Int))) (rv_len Try.underlying42 rfl) ?_
  obtain ⟨r1, hx2, h'⟩ := bind_some h
  clear h
  have h := h'; clear h'
  refine st_call (c_spec_inRange  hx2) rfl ?_
  have hKs := hK.size
  rintro _ σ3 m4 rfl
  replace hRlist_0 := hRlist_0.mod m4
  replace hK := hK.none m4
  clear hKs m4
  refine st (v := (B (!r1))) (rv_not rfl) ?_
  refine w_end ?_
  refine q_then ?_
  refine cd_cond (!r1) rfl (fun hb5 => ?_) (fun hb5 => ?_)
  · replace h := bif_t hb5 h
    refine c_seq ?_
    refine rg ?_
    refine st (v := (.slice none 0 0)) (rv_assign rfl) ?_
    refine w_end ?_
    refine q_then ?_
    refine c_ret ?_
    refine q_then_r ?_
    obtain rfl := Option.some.inj h
    exact bodyPost_ret (v := (.slice none 0 0)) (results_fr1 Try.results28 rfl _) rfl ⟨_, σ3, rfl, rfl, hK, none, 0, rfl, Ow.nil⟩
  · replace h := bif_f hb5 h
    refine c_skip ?_
    refine q_then ?_
    refine c_seq ?_
    refine c_seq ?_
    refine rg ?_
    refine st (v := (I 0)) (rv_assign rfl) ?_
    refine w_end ?_
    refine q_then ?_
    obtain ⟨o6, hj, h'⟩ := bind_some h
    clear h
    refine c_cut (fun e a w => (∃ t, o6 = (.inl t) ∧ e = .normal ∧ ∃ (ρ : Nat → Value) (σ : St), a = fr 22 (updL ρ [(0, (Sl alist_0 list_0 clist_0))]) ∧ w = σ.w ∧ Mod none σ0 σ ∧ RS 0 σ (Sl alist_0 list_0 clist_0) list_0) ∨ (∃ t, o6 = (.inr t) ∧ e = .ret ∧ ∃ (ρ : Nat → Value) (σ : St) (aj1 : Option Addr) (cj2 : Nat), a = fr 22 (updL ρ [(2, (Sl aj1 t cj2))]) ∧ w = σ.w ∧ Mod none σ0 σ ∧ Ow σ σ0.size σ0.size (Sl aj1 t cj2) t)) ?_ ?_
    · clear h'
      rename _ = some o6 => h
      refine c_blk ?_
      refine wp_loopM _ h (fun s7 a w => ∃ (ρ : Nat → Value) (σ : St), a = fr 22 (updL ρ [(0, (Sl alist_0 list_0 clist_0)), (3, (I s7))]) ∧ w = σ.w ∧ Mod none σ0 σ ∧ RS 0 σ (Sl alist_0 list_0 clist_0) list_0) ⟨_, σ3, fr_join ⟨rfl, rfl, trivial⟩, rfl, hK, hRlist_0⟩ ?_
      clear h
      rintro s7 a w o ⟨ρ, σ9, rfl, rfl, hK, hR10⟩ h hres
      refine c_seq ?_
      refine c_seq ?_
      refine rg ?_
      refine st (v := (I s7)) (rv_move rfl) ?_
      refine st (v := (Sl alist_0 list_0 clist_0)) (rv_move rfl) ?_
      refine st (v := (I (list_0.length : Int))) (rv_len Try.underlying42 rfl) ?_
      refine st (v := (B (decide (s7 < (list_0.length : Int))))) (rv_lss (a := s7) (b := (list_0.length : Int)) rfl rfl) ?_
      refine w_end ?_
      refine q_then ?_
      refine cd_cond (decide (s7 < (list_0.length : Int))) rfl (fun hb11 => ?_) (fun hb11 => ?_)
      · replace h := bif_t hb11 h
        refine c_skip ?_
        refine q_then ?_
        refine c_seq ?_
        refine c_blk ?_
        refine c_seq ?_
        refine rg ?_
        refine st (v := (Sl alist_0 list_0 clist_0)) (rv_move rfl) ?_
        refine st (v := (I s7)) (rv_move rfl) ?_
        obtain ⟨x12, hx13, h'⟩ := bind_some h
        clear h
        have h := h'; clear h'
        obtain ⟨b15, o16, hi14, -⟩ := hR10.ix hx13
        refine st (v := (pt b15 o16)) (rv_ix Try.underlying42 ti24 rfl rfl hi14) ?_
        obtain ⟨v20, hc21, hR19⟩ := (hR10.at hx13 hi14).slice
        obtain ⟨a17, c18, rfl⟩ := hR19.isSl
        refine st (v := (Sl a17 x12 c18)) (rv_load1 Try.underlying24 rfl rfl hc21) ?_
        obtain ⟨r22, hx23, h'⟩ := bind_some h
        clear h
        have h := h'; clear h'
        refine st_call (c_spec_isVector hR19 hx23) rfl ?_
        have hKs := hK.size
        rintro _ σ24 m25 rfl
        replace hR10 := hR10.mod m25
        replace hR19 := hR19.mod m25
        replace hK := hK.none m25
        clear hKs m25
        refine st (v := (B (!r22))) (rv_not rfl) ?_
        refine w_end ?_
        refine q_then ?_
        refine cd_cond (!r22) rfl (fun hb26 => ?_) (fun hb26 => ?_)
        · replace h := bif_t hb26 h
          refine c_seq ?_
          refine rg ?_
          refine st (v := (.slice none 0 0)) (rv_assign rfl) ?_
          refine w_end ?_
          refine q_then ?_
          refine c_ret ?_
          refine q_blk_r ?_
          refine q_then_r ?_
          refine q_then_r ?_
          refine q_blk_r ?_
          obtain rfl := Option.some.inj h
          obtain rfl := hres _ rfl
          exact .inr (⟨_, rfl, rfl, _, σ24, none, 0, fr_join ⟨rfl, trivial⟩, rfl, hK, Ow.nil⟩)
        · replace h := bif_f hb26 h
          refine c_skip ?_
          refine q_blk ?_
          refine q_then ?_
          refine rg ?_
          refine st (v := (I s7)) (rv_move rfl) ?_
          refine st (v := (I (w64 (s7 + 1)))) (rv_add (a := s7) (b := 1) rfl rfl) ?_
          refine st (v := (I (w64 (s7 + 1)))) (rv_assign rfl) ?_
          refine w_end ?_
          refine q_then ?_
          obtain rfl := Option.some.inj h
          exact ⟨_, rfl, _, σ24, fr_join ⟨rfl, rfl, trivial⟩, rfl, hK, hR10⟩
      · replace h := bif_f hb11 h
        refine c_exit ?_
        refine q_then_x ?_
        refine q_then_x ?_
        refine q_blk_hit ?_
        obtain rfl := Option.some.inj h
        obtain rfl := hres _ rfl
        exact .inl ⟨_, rfl, rfl, _, σ9, fr_join ⟨rfl, trivial⟩, rfl, hK, hR10⟩
    · clear hj
      have h := h'
      clear h'
      rintro e a w (⟨t27, rfl, rfl, ρ, σ28, rfl, rfl, hK, hR29⟩ | ⟨t37, rfl, rfl, ρ, σ38, a39, c40, rfl, rfl, hK, hO41⟩)
      · replace h := selim_l h
        refine q_then ?_
        refine c_seq ?_
        refine rg ?_
        refine st (v := (Sl alist_0 list_0 clist_0)) (rv_move rfl) ?_
        obtain ⟨r30, hx31, h'⟩ := bind_some h
        clear h
        have h := h'; clear h'
        refine st_call (c_spec_mean hR29 hx31) rfl ?_
        have hKs := hK.size
        rintro _ σ32 m33 ⟨a34, c35, rfl, hO36⟩
        replace hR29 := hR29.mod m33
        replace hK := hK.none m33
        have hO36g := hO36.ge
        replace hO36 := hO36.lo hKs
        replace hO36 := hO36.low' hKs
        clear hKs m33 hO36g
        refine st (v := (Sl a34 r30 c35)) (rv_assign rfl) ?_
        refine w_end ?_
        refine q_then ?_
        refine c_ret ?_
        obtain rfl := Option.some.inj h
        exact bodyPost_ret (v := (Sl a34 r30 c35)) (results_fr1 Try.results28 rfl _) rfl ⟨_, σ32, rfl, rfl, hK, a34, c35, rfl, hO36⟩
      · replace h := selim_r h
        refine q_then_r ?_
        obtain rfl := Option.some.inj h
        exact bodyPost_ret (v := (Sl a39 t37 c40)) (results_fr1 Try.results28 rfl _) rfl ⟨_, σ38, rfl, rfl, hK, a39, c40, rfl, hO41⟩

theorem c_laws_toIntSS {σ0 : St} {a_0 : List (List Int)} {aa_0 : Option Addr} {ca_0 : Nat} (hRa_0 : RS 0 σ0 (Sl aa_0 a_0 ca_0) a_0) {r : (List (List Int))} (h : M.laws_toIntSS a_0 = some r) :
    Cal Try.prog 29 [(Sl aa_0 a_0 ca_0)] none σ0 (fun v σ' => ∃ (a0 : Option Addr) (c0 : Nat), v = (Sl a0 r c0) ∧ Ow σ' σ0.size σ0.size (Sl a0 r c0) r) := by
  refine ⟨⟨_, _, Try.func29, rfl, rfl⟩, ?_⟩
  refine enter (n := 23) Try.func29 rfl rfl rfl ?_
  unfold M.laws_toIntSS at h
  have hK : Mod none σ0 σ0 := Mod.refl _ _
  refine c_seq ?_
  refine rg ?_
  refine st (v := (.slice none 0 0)) (rv_assign rfl) ?_
  refine w_end ?_
  refine q_then ?_
  refine c_seq ?_
  refine rg ?_
  refine st (v := (Sl aa_0 a_0 ca_0)) (rv_move rfl) ?_
  refine st (v := (I (a_0.length : Int))) (rv_len Try.underlying42 rfl) ?_
  obtain ⟨xs1, hx2, h'⟩ := bind_some h
  clear h
  have h := h'; clear h'
  refine st_make (lo := σ0.size) (el := σ0.size) (z0 := ([] : List Int)) (zs := [(.slice none 0 0)]) Try.underlying42 ti24 rfl rfl (⟨_, rfl, RS.nil⟩) (by decide) hx2 rfl rfl hK.size ?_ (wanted_none _ rfl _)
  intro b4 σ6 c5 hbn8 m7 hO3
  replace hRa_0 := hRa_0.mod m7
  replace hK := hK.none m7
  clear hbn8 m7
  refine st (v := (Sl (some ⟨b4, 0, none⟩) xs1 c5)) (rv_assign rfl) ?_
  refine w_end ?_
  refine q_then ?_
  refine c_seq ?_
  refine c_seq ?_
  refine rg ?_
  refine st (v := (I 0)) (rv_assign rfl) ?_
  refine w_end ?_
  refine q_then ?_
  obtain ⟨o9, hj, h'⟩ := bind_some h
  clear h
  refine c_cut (fun e a w => e = .normal ∧ ∃ (ρ : Nat → Value) (σ : St) (aj1 : Option Addr) (cj2 : Nat), a = fr 23 (updL ρ [(3, (Sl aj1 o9 cj2))]) ∧ w = σ.w ∧ Mod none σ0 σ ∧ Ow σ σ0.size σ0.size (Sl aj1 o9 cj2) o9) ?_ ?_
  · clear h'
    rename _ = some o9 => h
    refine c_blk ?_
    refine wp_loopM _ h (fun s10 a w => ∃ (ρ : Nat → Value) (σ : St) (aj2 : Option Addr) (cj3 : Nat), a = fr 23 (updL ρ [(0, (Sl aa_0 a_0 ca_0)), (3, (Sl aj2 s10.1 cj3)), (4, (I s10.2))]) ∧ w = σ.w ∧ Mod none σ0 σ ∧ RS 0 σ (Sl aa_0 a_0 ca_0) a_0 ∧ Ow σ σ0.size σ0.size (Sl aj2 s10.1 cj3) s10.1) ⟨_, σ6, (some ⟨b4, 0, none⟩), c5, fr_join ⟨rfl, rfl, rfl, trivial⟩, rfl, hK, hRa_0, hO3⟩ ?_
    clear h
    rintro s10 a w o ⟨ρ, σ12, a14, c15, rfl, rfl, hK, hR13, hO16⟩ h hres
    refine c_seq ?_
    refine c_seq ?_
    refine rg ?_
    refine st (v := (I s10.2)) (rv_move rfl) ?_
    refine st (v := (Sl aa_0 a_0 ca_0)) (rv_move rfl) ?_
    refine st (v := (I (a_0.length : Int))) (rv_len Try.underlying42 rfl) ?_
    refine st (v := (B (decide (s10.2 < (a_0.length : Int))))) (rv_lss (a := s10.2) (b := (a_0.length : Int)) rfl rfl) ?_
    refine w_end ?_
    refine q_then ?_
    refine cd_cond (decide (s10.2 < (a_0.length : Int))) rfl (fun hb17 => ?_) (fun hb17 => ?_)
    · replace h := bif_t hb17 h
      refine c_skip ?_
      refine q_then ?_
      refine c_seq ?_
      refine c_blk ?_
      refine rg ?_
      refine st (v := (Sl a14 s10.1 c15)) (rv_move rfl) ?_
      refine st (v := (I s10.2)) (rv_move rfl) ?_
      refine st (v := (Sl aa_0 a_0 ca_0)) (rv_move rfl) ?_
      refine st (v := (I s10.2)) (rv_move rfl) ?_
      obtain ⟨x18, hx19, h'⟩ := bind_some h
      clear h
      have h := h'; clear h'
      obtain ⟨b21, o22, hi20, -⟩ := hR13.ix hx19
      refine st (v := (pt b21 o22)) (rv_ix Try.underlying42 ti24 rfl rfl hi20) ?_
      obtain ⟨v26, hc27, hR25⟩ := (hR13.at hx19 hi20).slice
      obtain ⟨a23, c24, rfl⟩ := hR25.isSl
      refine st (v := (Sl a23 x18 c24)) (rv_load1 Try.underlying24 rfl rfl hc27) ?_
      obtain ⟨r28, hx29, h'⟩ := bind_some h
      clear h
      have h := h'; clear h'
      refine st_call (c_laws_toIntS hR25 hx29) rfl ?_
      have hd35 := hO16.ltb
      have hKs := hK.size
      rintro _ σ30 m31 ⟨a32, c33, rfl, hO34⟩
      replace hR13 := hR13.mod m31
      replace hO16 := hO16.mod0 m31
      replace hR25 := hR25.mod m31
      replace hK := hK.none m31
      have hO34g := hO34.ge
      replace hO34 := hO34.lo hKs
      replace hO34 := hO34.low' hKs
      have hd36 := Df.ge hd35 hO34g
      clear hKs m31 hO34g
      obtain ⟨x37, hx38, h'⟩ := bind_some h
      clear h
      have h := h'; clear h'
      obtain ⟨b40, o41, hi39, -⟩ := hO16.ix hx38
      refine st (v := (pt b40 o41)) (rv_ix Try.underlying42 ti24 rfl rfl hi39) ?_
      have hg46 := hO34.ge
      obtain ⟨σ42, hw45, m43, hR44⟩ := hO34.pub' (Nat.le_refl _)
      rw [← hw45]; clear hw45
      replace hR13 := hR13.mod m43
      replace hO16 := hO16.mod' m43 (by first | exact hd36 | exact Df.re hd36)
      replace hK := hK.own m43 hg46
      have hg54 := hO16.ge
      refine st_store_own (e' := r28) (vs := [(Sl a32 r28 c33)]) (k := 0) ti24 hO16 hx38 hi39 rfl rfl rfl rfl rfl (Nat.le_of_ble_eq_true rfl) (by simp [plain]) (by rintro _ ⟨_, rfl, hR52⟩; exact ⟨_, rfl, hR44⟩) ?_
      intro σ47 m48 hO53 hs49; clear hs49
      replace hR13 := hR13.mod m48
      replace hR44 := hR44.mod m48
      replace hK := hK.own m48 hg54
      replace hO53 := Ow.relen hO53 List.length_set.symm
      rw [show (Sl a14 s10.1 c15) = (Sl a14 (s10.1.set s10.2.toNat r28) c15) from sl_len List.length_set.symm]
      refine w_end ?_
      refine q_blk ?_
      refine q_then ?_
      refine rg ?_
      refine st (v := (I s10.2)) (rv_move rfl) ?_
      refine st (v := (I (w64 (s10.2 + 1)))) (rv_add (a := s10.2) (b := 1) rfl rfl) ?_
      refine st (v := (I (w64 (s10.2 + 1)))) (rv_assign rfl) ?_
      refine w_end ?_
      refine q_then ?_
      obtain rfl := Option.some.inj h
      exact ⟨_, rfl, _, σ47, a14, c15, fr_join ⟨rfl, rfl, rfl, trivial⟩, rfl, hK, hR13, hO53⟩
    · replace h := bif_f hb17 h
      refine c_exit ?_
      refine q_then_x ?_
      refine q_then_x ?_
      refine q_blk_hit ?_
      obtain rfl := Option.some.inj h
      obtain rfl := hres _ rfl
      exact ⟨rfl, _, σ12, a14, c15, fr_join ⟨rfl, trivial⟩, rfl, hK, hO16⟩
  · clear hj
    have h := h'
    clear h'
    rintro e a w ⟨rfl, ρ, σ55, a56, c57, rfl, rfl, hK, hO58⟩
    refine q_then ?_
    refine c_seq ?_
    refine rg ?_
    refine st (v := (Sl a56 o9 c57)) (rv_move rfl) ?_
    refine st (v := (Sl a56 o9 c57)) (rv_assign rfl) ?_
    refine w_end ?_
    refine q_then ?_
    refine c_ret ?_
    obtain rfl := Option.some.inj h
    exact bodyPost_ret (v := (Sl a56 o9 c57)) (results_fr1 Try.results29 rfl _) rfl ⟨_, σ55, rfl, rfl, hK, a56, c57, rfl, hO58⟩

theorem c_impl_divideDown {σ0 : St} {n_0 : Int} {by_1 : Int}  {r : Int} (h : M.impl_divideDown n_0 by_1 = some r) :
    Cal Try.prog 74 [(I n_0), (I by_1)] none σ0 (fun v σ' => v = (I r)) := by
  refine ⟨⟨_, _, Try.func74, rfl, rfl⟩, ?_⟩
  refine enter (n := 16) Try.func74 rfl rfl rfl ?_
  unfold M.impl_divideDown at h
  have hK : Mod none σ0 σ0 := Mod.refl _ _
  refine c_seq ?_
  refine rg ?_
  refine st (v := (I 0)) (rv_assign rfl) ?_
  refine w_end ?_
  refine q_then ?_
  refine c_seq ?_
  refine rg ?_
  refine st (v := (I n_0)) (rv_move rfl) ?_
  refine st (v := (I by_1)) (rv_move rfl) ?_
  obtain ⟨q1, hx2, h'⟩ := bind_some h
  clear h
  have h := h'; clear h'
  refine st (v := (I q1)) (rv_quoG (a := n_0) (b := by_1) hx2 rfl rfl) ?_
  refine st (v := (I q1)) (rv_assign rfl) ?_
  refine w_end ?_
  refine q_then ?_
  refine c_seq ?_
  refine c_seq ?_
  refine rg ?_
  refine st (v := (I n_0)) (rv_move rfl) ?_
  refine st (v := (I by_1)) (rv_move rfl) ?_
  obtain ⟨q3, hx4, h'⟩ := bind_some h
  clear h
  have h := h'; clear h'
  refine st (v := (I q3)) (rv_remG (a := n_0) (b := by_1) hx4 rfl rfl) ?_
  refine st (v := (B (decide (q3 < 0)))) (rv_lss (a := q3) (b := 0) rfl rfl) ?_
  refine w_end ?_
  refine q_then ?_
  obtain ⟨o5, hj, h'⟩ := bind_some h
  clear h
  refine c_cut (fun e a w => e = .normal ∧ ∃ (ρ : Nat → Value) (σ : St), a = fr 16 (updL ρ [(5, (I o5))]) ∧ w = σ.w ∧ Mod none σ0 σ) ?_ ?_
  · clear h'
    rename _ = some o5 => h
    refine cd_cond (decide (q3 < 0)) rfl (fun hb6 => ?_) (fun hb6 => ?_)
    · replace h := bif_t hb6 h
      refine rg ?_
      refine st (v := (I q1)) (rv_move rfl) ?_
      refine st (v := (I (w64 (q1 - 1)))) (rv_sub (a := q1) (b := 1) rfl rfl) ?_
      refine st (v := (I (w64 (q1 - 1)))) (rv_assign rfl) ?_
      refine w_end ?_
      obtain rfl := Option.some.inj h
      exact ⟨rfl, _, σ0, fr_join ⟨rfl, trivial⟩, rfl, hK⟩
    · replace h := bif_f hb6 h
      refine c_skip ?_
      obtain rfl := Option.some.inj h
      exact ⟨rfl, _, σ0, fr_join ⟨rfl, trivial⟩, rfl, hK⟩
  · clear hj
    have h := h'
    clear h'
    rintro e a w ⟨rfl, ρ, σ7, rfl, rfl, hK⟩
    refine q_then ?_
    refine c_seq ?_
    refine rg ?_
    refine st (v := (I o5)) (rv_move rfl) ?_
    refine st (v := (I o5)) (rv_assign rfl) ?_
    refine w_end ?_
    refine q_then ?_
    refine c_ret ?_
    obtain rfl := Option.some.inj h
    exact bodyPost_ret (v := (I o5)) (results_fr1 Try.results74 rfl _) rfl ⟨_, σ7, rfl, rfl, hK, rfl⟩

theorem c_impl_MeanOf {σ0 : St} {list_0 : List (List Int)} {alist_0 : Option Addr} {clist_0 : Nat} (hRlist_0 : RS 0 σ0 (Sl alist_0 list_0 clist_0) list_0) {r : (List Int)} (h : M.impl_MeanOf list_0 = some r) :
    Cal Try.prog 30 [(Sl alist_0 list_0 clist_0)] none σ0 (fun v σ' => ∃ (a0 : Option Addr) (c0 : Nat), v = (Sl a0 r c0) ∧ Ow σ' σ0.size σ0.size (Sl a0 r c0) r) := by
  refine ⟨⟨_, _, Try.func30, rfl, rfl⟩, ?_⟩
  refine enter (n := 55) Try.func30 rfl rfl rfl ?_
  unfold M.impl_MeanOf at h
  have hK : Mod none σ0 σ0 := Mod.refl _ _
  refine c_seq ?_
  refine rg ?_
  refine st (v := (.slice none 0 0)) (rv_assign rfl) ?_
  refine w_end ?_
  refine q_then ?_
  refine c_seq ?_
  refine c_seq ?_
  obtain ⟨o1, hj, h'⟩ := bind_some h
  clear h
  refine c_cut (fun e a w => e = .normal ∧ ∃ (ρ : Nat → Value) (σ : St), a = fr 55 (updL ρ [(0, (Sl alist_0 list_0 clist_0)), (17, (B o1))]) ∧ w = σ.w ∧ Mod none σ0 σ ∧ RS 0 σ (Sl alist_0 list_0 clist_0) list_0) ?_ ?_
  · clear h'
    rename _ = some o1 => h
    refine rg ?_
    refine st (v := (Sl alist_0 list_0 clist_0)) (rv_move rfl) ?_
    refine st (v := (I (list_0.length : Int))) (rv_len Try.underlying42 rfl) ?_
    refine st (v := (B (decide ((list_0.length : Int) < 1)))) (rv_lss (a := (list_0.length : Int)) (b := 1) rfl rfl) ?_
    refine st (v := (B (decide ((list_0.length : Int) < 1)))) (rv_move rfl) ?_
    rcases Bool.eq_false_or_eq_true (decide ((list_0.length : Int) < 1)) with hb2 | hb2
    · replace h := bif_t hb2 h
      refine st_skip (congrArg some hb2) ?_
      refine st_skip (congrArg some hb2) ?_
      refine st_skip (congrArg some hb2) ?_
      refine st (v := (B true)) (rv_pick_t (congrArg B hb2) rfl) ?_
      refine w_end ?_
      obtain rfl := Option.some.inj h
      exact ⟨rfl, _, σ0, fr_join ⟨rfl, rfl, trivial⟩, rfl, hK, hRlist_0⟩
    · replace h := bif_f hb2 h
      refine st_g (v := (Sl alist_0 list_0 clist_0)) (congrArg some hb2) (rv_move rfl) ?_
      refine st_g (v := (I (list_0.length : Int))) (congrArg some hb2) (rv_len Try.underlying42 rfl) ?_
      refine st_g (v := (B (decide (16 < (list_0.length : Int))))) (congrArg some hb2) (rv_gtr (a := (list_0.length : Int)) (b := 16) rfl rfl) ?_
      refine st (v := (B (decide (16 < (list_0.length : Int))))) (rv_pick_f (congrArg B hb2) rfl) ?_
      refine w_end ?_
      obtain rfl := Option.some.inj h
      exact ⟨rfl, _, σ0, fr_join ⟨rfl, rfl, trivial⟩, rfl, hK, hRlist_0⟩
  · clear hj
    have h := h'
    clear h'
    rintro e a w ⟨rfl, ρ, σ3, rfl, rfl, hK, hR4⟩
    refine q_then ?_
    refine cd_cond o1 rfl (fun hb5 => ?_) (fun hb5 => ?_)
    · replace h := bif_t hb5 h
      refine c_seq ?_
      refine rg ?_
      refine st (v := (.slice none 0 0)) (rv_assign rfl) ?_
      refine w_end ?_
      refine q_then ?_
      refine c_ret ?_
      refine q_then_r ?_
      obtain rfl := Option.some.inj h
      exact bodyPost_ret (v := (.slice none 0 0)) (results_fr1 Try.results30 rfl _) rfl ⟨_, σ3, rfl, rfl, hK, none, 0, rfl, Ow.nil⟩
    · replace h := bif_f hb5 h
      refine c_skip ?_
      refine q_then ?_
      refine c_seq ?_
      refine rg ?_
      refine st_alloc (cs := (List.map I (List.replicate 4 0))) ti78 rfl ?_ (wanted_none _ rfl _)
      intro b7 σ9 hbn11 m10 hB6
      have hge8 := Nat.le_trans hK.size (Nat.le_of_eq hbn11)
      replace hR4 := hR4.mod m10
      replace hK := hK.none m10
      clear hbn11 m10
      refine w_end ?_
      refine q_then ?_
      refine c_seq ?_
      refine c_seq ?_
      refine rg ?_
      refine st (v := (Sl alist_0 list_0 clist_0)) (rv_move rfl) ?_
      refine st (v := (I (list_0.length : Int))) (rv_len Try.underlying42 rfl) ?_
      refine st (v := (I 0)) (rv_move rfl) ?_
      refine w_end ?_
      refine q_then ?_
      obtain ⟨o12, hj, h'⟩ := bind_some h
      clear h
      refine c_cut (fun e a w => (∃ t, o12 = (.inl t) ∧ e = .normal ∧ ∃ (ρ : Nat → Value) (σ : St), a = fr 55 (updL ρ [(0, (Sl alist_0 list_0 clist_0)), (3, (pt b7 0))]) ∧ w = σ.w ∧ Mod none σ0 σ ∧ RS 0 σ (Sl alist_0 list_0 clist_0) list_0 ∧ t.length = 4 ∧ Bx σ b7 (List.map I t)) ∨ (∃ t, o12 = (.inr t) ∧ e = .ret ∧ ∃ (ρ : Nat → Value) (σ : St) (aj1 : Option Addr) (cj2 : Nat), a = fr 55 (updL ρ [(2, (Sl aj1 t cj2))]) ∧ w = σ.w ∧ Mod none σ0 σ ∧ Ow σ σ0.size σ0.size (Sl aj1 t cj2) t)) ?_ ?_
      · clear h'
        rename _ = some o12 => h
        refine c_blk ?_
        refine wp_loopM _ h (fun s13 a w => ∃ (ρ : Nat → Value) (σ : St), a = fr 55 (updL ρ [(0, (Sl alist_0 list_0 clist_0)), (3, (pt b7 0)), (18, (Sl alist_0 list_0 clist_0)), (19, (I (list_0.length : Int))), (20, (I s13.2))]) ∧ w = σ.w ∧ Mod none σ0 σ ∧ RS 0 σ (Sl alist_0 list_0 clist_0) list_0 ∧ s13.1.length = 4 ∧ Bx σ b7 (List.map I s13.1)) ⟨_, σ9, fr_join ⟨rfl, rfl, rfl, rfl, rfl, trivial⟩, rfl, hK, hR4, rfl, hB6⟩ ?_
        clear h
        rintro s13 a w o ⟨ρ, σ15, rfl, rfl, hK, hR16, hl17, hB18⟩ h hres
        refine c_seq ?_
        refine rg ?_
        refine st (v := (B (decide (s13.2 < (list_0.length : Int))))) (rv_lss (a := s13.2) (b := (list_0.length : Int)) rfl rfl) ?_
        refine w_end ?_
        refine q_then ?_
        refine c_seq ?_
        refine cd_cond (decide (s13.2 < (list_0.length : Int))) rfl (fun hb19 => ?_) (fun hb19 => ?_)
        · replace h := bif_t hb19 h
          refine c_skip ?_
          refine q_then ?_
          refine c_seq ?_
          refine c_blk ?_
          refine c_seq ?_
          refine rg ?_
          obtain ⟨x20, hx21, h'⟩ := bind_some h
          clear h
          have h := h'; clear h'
          obtain ⟨b23, o24, hi22, -⟩ := hR16.ix hx21
          refine st (v := (pt b23 o24)) (rv_ix Try.underlying42 ti24 rfl rfl hi22) ?_
          obtain ⟨v28, hc29, hR27⟩ := (hR16.at hx21 hi22).slice
          obtain ⟨a25, c26, rfl⟩ := hR27.isSl
          refine st (v := (Sl a25 x20 c26)) (rv_load1 Try.underlying24 rfl rfl hc29) ?_
          refine st (v := (Sl a25 x20 c26)) (rv_assign rfl) ?_
          refine w_end ?_
          refine q_then ?_
          refine c_seq ?_
          refine c_seq ?_
          refine rg ?_
          refine st (v := (Sl a25 x20 c26)) (rv_move rfl) ?_
          obtain ⟨r30, hx31, h'⟩ := bind_some h
          clear h
          have h := h'; clear h'
          refine st_call (c_impl_ValidVector hR27 hx31) rfl ?_
          have hd34 := hB18.ltb
          have hKs := hK.size
          rintro _ σ32 m33 rfl
          replace hR16 := hR16.mod m33
          replace hR27 := hR27.mod m33
          replace hB18 := hB18.mod0 m33
          replace hK := hK.none m33
          clear hKs m33
          refine st (v := (B (!r30))) (rv_not rfl) ?_
          refine w_end ?_
          refine q_then ?_
          refine cd_cond (!r30) rfl (fun hb35 => ?_) (fun hb35 => ?_)
          · replace h := bif_t hb35 h
            refine c_seq ?_
            refine rg ?_
            refine st (v := (.slice none 0 0)) (rv_assign rfl) ?_
            refine w_end ?_
            refine q_then ?_
            refine c_ret ?_
            refine q_then_r ?_
            refine q_blk_r ?_
            refine q_then_r ?_
            refine q_then_r ?_
            refine q_blk_r ?_
            obtain rfl := Option.some.inj h
            obtain rfl := hres _ rfl
            exact .inr (⟨_, rfl, rfl, _, σ32, none, 0, fr_join ⟨rfl, trivial⟩, rfl, hK, Ow.nil⟩)
          · replace h := bif_f hb35 h
            refine c_skip ?_
            refine q_then ?_
            refine c_seq ?_
            refine rg ?_
            refine st (v := (Sl a25 x20 c26)) (rv_move rfl) ?_
            refine st (v := (I (x20.length : Int))) (rv_len Try.underlying24 rfl) ?_
            refine st (v := (I 0)) (rv_move rfl) ?_
            refine w_end ?_
            refine q_then ?_
            obtain ⟨o36, hj, h'⟩ := bind_some h
            clear h
            refine c_cut (fun e a w => e = .normal ∧ ∃ (ρ : Nat → Value) (σ : St), a = fr 55 (updL ρ [(0, (Sl alist_0 list_0 clist_0)), (3, (pt b7 0)), (18, (Sl alist_0 list_0 clist_0)), (19, (I (list_0.length : Int))), (20, (I s13.2))]) ∧ w = σ.w ∧ Mod none σ0 σ ∧ RS 0 σ (Sl alist_0 list_0 clist_0) list_0 ∧ o36.length = 4 ∧ Bx σ b7 (List.map I o36)) ?_ ?_
            · clear h'
              rename _ = some o36 => h
              refine c_blk ?_
              refine wp_loopM _ h (fun s37 a w => ∃ (ρ : Nat → Value) (σ : St), a = fr 55 (updL ρ [(0, (Sl alist_0 list_0 clist_0)), (3, (pt b7 0)), (18, (Sl alist_0 list_0 clist_0)), (19, (I (list_0.length : Int))), (20, (I s13.2)), (27, (Sl a25 x20 c26)), (28, (I (x20.length : Int))), (29, (I s37.2))]) ∧ w = σ.w ∧ Mod none σ0 σ ∧ RS 0 σ (Sl alist_0 list_0 clist_0) list_0 ∧ s37.1.length = 4 ∧ Bx σ b7 (List.map I s37.1) ∧ RS 0 σ (Sl a25 x20 c26) x20) ⟨_, σ32, fr_join ⟨rfl, rfl, rfl, rfl, rfl, rfl, rfl, rfl, trivial⟩, rfl, hK, hR16, hl17, hB18, hR27⟩ ?_
              clear h
              rintro s37 a w o ⟨ρ, σ39, rfl, rfl, hK, hR40, hl41, hB42, hR43⟩ h hres
              refine c_seq ?_
              refine rg ?_
              refine st (v := (B (decide (s37.2 < (x20.length : Int))))) (rv_lss (a := s37.2) (b := (x20.length : Int)) rfl rfl) ?_
              refine w_end ?_
              refine q_then ?_
              refine c_seq ?_
              refine cd_cond (decide (s37.2 < (x20.length : Int))) rfl (fun hb44 => ?_) (fun hb44 => ?_)
              · replace h := bif_t hb44 h
                refine c_skip ?_
                refine q_then ?_
                refine c_seq ?_
                refine c_blk ?_
                refine c_seq ?_
                refine rg ?_
                refine st (v := (I s37.2)) (rv_move rfl) ?_
                obtain ⟨x45, hx46, h'⟩ := bind_some h
                clear h
                have h := h'; clear h'
                obtain ⟨b48, o49, hi47, -⟩ := hR43.ix hx46
                refine st (v := (pt b48 o49)) (rv_ix Try.underlying24 ti3 rfl rfl hi47) ?_
                refine st (v := (I x45)) (rv_load1 Try.underlying3 rfl rfl (hR43.at hx46 hi47).int) ?_
                refine st (v := (I s37.2)) (rv_assign rfl) ?_
                refine st (v := (I x45)) (rv_assign rfl) ?_
                refine w_end ?_
                refine q_then ?_
                refine rg ?_
                refine st (v := (I s37.2)) (rv_move rfl) ?_
                obtain ⟨x50, hx51, h'⟩ := bind_some h
                clear h
                have h := h'; clear h'
                have hl52 := gidx_lt hx51 hl41
                refine st (v := (pt b7 (0 + s37.2.toNat * 1))) (rv_indexAddr_array Try.underlying78 ti3 rfl rfl hl52.1 hl52.2) ?_
                refine st (v := (I x50)) (rv_load1 Try.underlying3 rfl rfl (hB42.arr hx51)) ?_
                refine st (v := (I x45)) (rv_move rfl) ?_
                refine st (v := (I (w64 (x50 + x45)))) (rv_add (a := x50) (b := x45) rfl rfl) ?_
                obtain ⟨x53, hx54, h'⟩ := bind_some h
                clear h
                have h := h'; clear h'
                have hl55 := gidx_lt hx54 hl41
                refine st (v := (pt b7 (0 + s37.2.toNat * 1))) (rv_indexAddr_array Try.underlying78 ti3 rfl rfl hl55.1 hl55.2) ?_
                have hl60 := gidx_lt hx54 hl41
                refine st_store_box (vs := [(I (w64 (x50 + x45)))]) ti3 hB42 rfl rfl rfl rfl (by rw [List.length_map, hl41]; simp; omega) (by simp [plain]) ?_
                intro σ56 m57 hB59 hs58; clear hs58
                replace hR40 := hR40.mod m57
                replace hR43 := hR43.mod m57
                replace hK := hK.some m57 hge8
                replace hB59 := Bx.cast (cs' := (List.map I (s37.1.set s37.2.toNat (w64 (x50 + x45))))) hB59 (arr_set _ _ _)
                clear hB42
                refine w_end ?_
                refine q_blk ?_
                refine q_then ?_
                refine rg ?_
                refine st (v := (I (w64 (s37.2 + 1)))) (rv_add (a := s37.2) (b := 1) rfl rfl) ?_
                refine st (v := (I (w64 (s37.2 + 1)))) (rv_move rfl) ?_
                refine w_end ?_
                refine q_then ?_
                obtain rfl := Option.some.inj h
                exact ⟨_, rfl, _, σ56, fr_join ⟨rfl, rfl, rfl, rfl, rfl, rfl, rfl, rfl, trivial⟩, rfl, hK, hR40, (set_len hl41), hB59, hR43⟩
              · replace h := bif_f hb44 h
                refine c_exit ?_
                refine q_then_x ?_
                refine q_then_x ?_
                refine q_blk_hit ?_
                obtain rfl := Option.some.inj h
                obtain rfl := hres _ rfl
                exact ⟨rfl, _, σ39, fr_join ⟨rfl, rfl, rfl, rfl, rfl, trivial⟩, rfl, hK, hR40, hl41, hB42⟩
            · clear hj
              have h := h'
              clear h'
              rintro e a w ⟨rfl, ρ, σ61, rfl, rfl, hK, hR62, hl63, hB64⟩
              refine q_blk ?_
              refine q_then ?_
              refine rg ?_
              refine st (v := (I (w64 (s13.2 + 1)))) (rv_add (a := s13.2) (b := 1) rfl rfl) ?_
              refine st (v := (I (w64 (s13.2 + 1)))) (rv_move rfl) ?_
              refine w_end ?_
              refine q_then ?_
              obtain rfl := Option.some.inj h
              exact ⟨_, rfl, _, σ61, fr_join ⟨rfl, rfl, rfl, rfl, rfl, trivial⟩, rfl, hK, hR62, hl63, hB64⟩
        · replace h := bif_f hb19 h
          refine c_exit ?_
          refine q_then_x ?_
          refine q_then_x ?_
          refine q_blk_hit ?_
          obtain rfl := Option.some.inj h
          obtain rfl := hres _ rfl
          exact .inl ⟨_, rfl, rfl, _, σ15, fr_join ⟨rfl, rfl, trivial⟩, rfl, hK, hR16, hl17, hB18⟩
      · clear hj
        have h := h'
        clear h'
        rintro e a w (⟨t65, rfl, rfl, ρ, σ66, rfl, rfl, hK, hR67, hl68, hB69⟩ | ⟨t97, rfl, rfl, ρ, σ98, a99, c100, rfl, rfl, hK, hO101⟩)
        · replace h := selim_l h
          refine q_then ?_
          refine c_seq ?_
          refine c_seq ?_
          refine rg ?_
          refine st (v := (.agg (List.map I t65).toArray)) (rv_load (cs := (List.map I t65)) Try.underlying78 rfl ti78 rfl (by rw [List.length_map]; exact hl68) hB69.all) ?_
          refine st (v := (I 0)) (rv_move rfl) ?_
          refine w_end ?_
          refine q_then ?_
          obtain ⟨o70, hj, h'⟩ := bind_some h
          clear h
          refine c_cut (fun e a w => e = .normal ∧ ∃ (ρ : Nat → Value) (σ : St), a = fr 55 (updL ρ [(3, (pt b7 0))]) ∧ w = σ.w ∧ Mod none σ0 σ ∧ o70.length = 4 ∧ Bx σ b7 (List.map I o70)) ?_ ?_
          · clear h'
            rename _ = some o70 => h
            refine c_blk ?_
            refine wp_loopM _ h (fun s71 a w => ∃ (ρ : Nat → Value) (σ : St), a = fr 55 (updL ρ [(0, (Sl alist_0 list_0 clist_0)), (3, (pt b7 0)), (42, (.agg (List.map I t65).toArray)), (43, (I s71.2))]) ∧ w = σ.w ∧ Mod none σ0 σ ∧ RS 0 σ (Sl alist_0 list_0 clist_0) list_0 ∧ s71.1.length = 4 ∧ Bx σ b7 (List.map I s71.1)) ⟨_, σ66, fr_join ⟨rfl, rfl, rfl, rfl, trivial⟩, rfl, hK, hR67, hl68, hB69⟩ ?_
            clear h
            rintro s71 a w o ⟨ρ, σ73, rfl, rfl, hK, hR74, hl75, hB76⟩ h hres
            refine c_seq ?_
            refine rg ?_
            refine st (v := (B (decide (s71.2 < 4)))) (rv_lss (a := s71.2) (b := 4) rfl rfl) ?_
            refine w_end ?_
            refine q_then ?_
            refine c_seq ?_
            refine cd_cond (decide (s71.2 < 4)) rfl (fun hb77 => ?_) (fun hb77 => ?_)
            · replace h := bif_t hb77 h
              refine c_skip ?_
              refine q_then ?_
              refine c_seq ?_
              refine c_blk ?_
              refine c_seq ?_
              refine rg ?_
              refine st (v := (I s71.2)) (rv_move rfl) ?_
              obtain ⟨x78, hx79, h'⟩ := bind_some h
              clear h
              have h := h'; clear h'
              refine st (v := (I x78)) (rv_idx Try.underlying78 ti3 Try.underlying3 rfl rfl hx79 hl68) ?_
              refine st (v := (I s71.2)) (rv_assign rfl) ?_
              refine st (v := (I x78)) (rv_assign rfl) ?_
              refine w_end ?_
              refine q_then ?_
              refine rg ?_
              refine st (v := (I s71.2)) (rv_move rfl) ?_
              refine st (v := (I x78)) (rv_move rfl) ?_
              refine st (v := (Sl alist_0 list_0 clist_0)) (rv_move rfl) ?_
              refine st (v := (I (list_0.length : Int))) (rv_len Try.underlying42 rfl) ?_
              obtain ⟨r80, hx81, h'⟩ := bind_some h
              clear h
              have h := h'; clear h'
              refine st_call (c_impl_divideDown  hx81) rfl ?_
              have hd84 := hB76.ltb
              have hKs := hK.size
              rintro _ σ82 m83 rfl
              replace hR74 := hR74.mod m83
              replace hB76 := hB76.mod0 m83
              replace hK := hK.none m83
              clear hKs m83
              obtain ⟨x85, hx86, h'⟩ := bind_some h
              clear h
              have h := h'; clear h'
              have hl87 := gidx_lt hx86 hl75
              refine st (v := (pt b7 (0 + s71.2.toNat * 1))) (rv_indexAddr_array Try.underlying78 ti3 rfl rfl hl87.1 hl87.2) ?_
              have hl92 := gidx_lt hx86 hl75
              refine st_store_box (vs := [(I r80)]) ti3 hB76 rfl rfl rfl rfl (by rw [List.length_map, hl75]; simp; omega) (by simp [plain]) ?_
              intro σ88 m89 hB91 hs90; clear hs90
              replace hR74 := hR74.mod m89
              replace hK := hK.some m89 hge8
              replace hB91 := Bx.cast (cs' := (List.map I (s71.1.set s71.2.toNat r80))) hB91 (arr_set _ _ _)
              clear hB76
              refine w_end ?_
              refine q_blk ?_
              refine q_then ?_
              refine rg ?_
              refine st (v := (I (w64 (s71.2 + 1)))) (rv_add (a := s71.2) (b := 1) rfl rfl) ?_
              refine st (v := (I (w64 (s71.2 + 1)))) (rv_move rfl) ?_
              refine w_end ?_
              refine q_then ?_
              obtain rfl := Option.some.inj h
              exact ⟨_, rfl, _, σ88, fr_join ⟨rfl, rfl, rfl, rfl, trivial⟩, rfl, hK, hR74, (set_len hl75), hB91⟩
            · replace h := bif_f hb77 h
              refine c_exit ?_
              refine q_then_x ?_
              refine q_then_x ?_
              refine q_blk_hit ?_
              obtain rfl := Option.some.inj h
              obtain rfl := hres _ rfl
              exact ⟨rfl, _, σ73, fr_join ⟨rfl, trivial⟩, rfl, hK, hl75, hB76⟩
          · clear hj
            have h := h'
            clear h'
            rintro e a w ⟨rfl, ρ, σ93, rfl, rfl, hK, hl94, hB95⟩
            refine q_then ?_
            refine c_seq ?_
            refine rg ?_
            have hO96 := bx_arr (el := σ0.size) hB95 hge8 hl94
            refine st (v := (Sl (some ⟨b7, 0, none⟩) o70 4)) (rv_slice_arrL Try.underlying78 ti3 (by decide) rfl hl94) ?_
            refine st (v := (Sl (some ⟨b7, 0, none⟩) o70 4)) (rv_assign rfl) ?_
            refine w_end ?_
            refine q_then ?_
            refine c_ret ?_
            obtain rfl := Option.some.inj h
            exact bodyPost_ret (v := (Sl (some ⟨b7, 0, none⟩) o70 4)) (results_fr1 Try.results30 rfl _) rfl ⟨_, σ93, rfl, rfl, hK, (some ⟨b7, 0, none⟩), 4, rfl, hO96⟩
        · replace h := selim_r h
          refine q_then_r ?_
          obtain rfl := Option.some.inj h
          exact bodyPost_ret (v := (Sl a99 t97 c100)) (results_fr1 Try.results30 rfl _) rfl ⟨_, σ98, rfl, rfl, hK, a99, c100, rfl, hO101⟩

theorem c_laws_eqIntSS {σ0 : St} {a_0 : List (List Int)} {b_1 : List (List Int)} {aa_0 : Option Addr} {ca_0 : Nat} (hRa_0 : RS 0 σ0 (Sl aa_0 a_0 ca_0) a_0) {ab_1 : Option Addr} {cb_1 : Nat} (hRb_1 : RS 0 σ0 (Sl ab_1 b_1 cb_1) b_1) {r : Bool} (h : M.laws_eqIntSS a_0 b_1 = some r) :
    Cal Try.prog 31 [(Sl aa_0 a_0 ca_0), (Sl ab_1 b_1 cb_1)] none σ0 (fun v σ' => v = (B r)) := by
  refine ⟨⟨_, _, Try.func31, rfl, rfl⟩, ?_⟩
  refine enter (n := 27) Try.func31 rfl rfl rfl ?_
  unfold M.laws_eqIntSS at h
  have hK : Mod none σ0 σ0 := Mod.refl _ _
  refine c_seq ?_
  refine rg ?_
  refine st (v := (B false)) (rv_assign rfl) ?_
  refine w_end ?_
  refine q_then ?_
  refine c_seq ?_
  refine c_seq ?_
  refine rg ?_
  refine st (v := (Sl aa_0 a_0 ca_0)) (rv_move rfl) ?_
  refine st (v := (I (a_0.length : Int))) (rv_len Try.underlying42 rfl) ?_
  refine st (v := (Sl ab_1 b_1 cb_1)) (rv_move rfl) ?_
  refine st (v := (I (b_1.length : Int))) (rv_len Try.underlying42 rfl) ?_
  refine st (v := (B ((a_0.length : Int) != (b_1.length : Int)))) (rv_neq (a := (a_0.length : Int)) (b := (b_1.length : Int)) rfl rfl) ?_
  refine w_end ?_
  refine q_then ?_
  refine cd_cond ((a_0.length : Int) != (b_1.length : Int)) rfl (fun hb1 => ?_) (fun hb1 => ?_)
  · replace h := bif_t hb1 h
    refine c_seq ?_
    refine rg ?_
    refine st (v := (B false)) (rv_assign rfl) ?_
    refine w_end ?_
    refine q_then ?_
    refine c_ret ?_
    refine q_then_r ?_
    obtain rfl := Option.some.inj h
    exact bodyPost_ret (v := (B false)) (results_fr1 Try.results31 rfl _) rfl ⟨_, σ0, rfl, rfl, hK, rfl⟩
  · replace h := bif_f hb1 h
    refine c_skip ?_
    refine q_then ?_
    refine c_seq ?_
    refine c_seq ?_
    refine rg ?_
    refine st (v := (I 0)) (rv_assign rfl) ?_
    refine w_end ?_
    refine q_then ?_
    obtain ⟨o2, hj, h'⟩ := bind_some h
    clear h
    refine c_cut (fun e a w => (∃ t, o2 = (.inl t) ∧ e = .normal ∧ ∃ (ρ : Nat → Value) (σ : St), a = fr 27 (updL ρ []) ∧ w = σ.w ∧ Mod none σ0 σ) ∨ (∃ t, o2 = (.inr t) ∧ e = .ret ∧ ∃ (ρ : Nat → Value) (σ : St), a = fr 27 (updL ρ [(4, (B t))]) ∧ w = σ.w ∧ Mod none σ0 σ)) ?_ ?_
    · clear h'
      rename _ = some o2 => h
      refine c_blk ?_
      refine wp_loopM _ h (fun s3 a w => ∃ (ρ : Nat → Value) (σ : St), a = fr 27 (updL ρ [(0, (Sl aa_0 a_0 ca_0)), (1, (Sl ab_1 b_1 cb_1)), (5, (I s3))]) ∧ w = σ.w ∧ Mod none σ0 σ ∧ RS 0 σ (Sl aa_0 a_0 ca_0) a_0 ∧ RS 0 σ (Sl ab_1 b_1 cb_1) b_1) ⟨_, σ0, fr_join ⟨rfl, rfl, rfl, trivial⟩, rfl, hK, hRa_0, hRb_1⟩ ?_
      clear h
      rintro s3 a w o ⟨ρ, σ5, rfl, rfl, hK, hR6, hR7⟩ h hres
      refine c_seq ?_
      refine c_seq ?_
      refine rg ?_
      refine st (v := (I s3)) (rv_move rfl) ?_
      refine st (v := (Sl aa_0 a_0 ca_0)) (rv_move rfl) ?_
      refine st (v := (I (a_0.length : Int))) (rv_len Try.underlying42 rfl) ?_
      refine st (v := (B (decide (s3 < (a_0.length : Int))))) (rv_lss (a := s3) (b := (a_0.length : Int)) rfl rfl) ?_
      refine w_end ?_
      refine q_then ?_
      refine cd_cond (decide (s3 < (a_0.length : Int))) rfl (fun hb8 => ?_) (fun hb8 => ?_)
      · replace h := bif_t hb8 h
        refine c_skip ?_
        refine q_then ?_
        refine c_seq ?_
        refine c_blk ?_
        refine c_seq ?_
        obtain ⟨x9, hx10, h'⟩ := bind_some h
        clear h
        have h := h'; clear h'
        obtain ⟨b12, o13, hi11, -⟩ := hR6.ix hx10
        obtain ⟨v17, hc18, hR16⟩ := (hR6.at hx10 hi11).slice
        obtain ⟨a14, c15, rfl⟩ := hR16.isSl
        obtain ⟨x19, hx20, h'⟩ := bind_some h
        clear h
        have h := h'; clear h'
        obtain ⟨b22, o23, hi21, -⟩ := hR7.ix hx20
        obtain ⟨v27, hc28, hR26⟩ := (hR7.at hx20 hi21).slice
        obtain ⟨a24, c25, rfl⟩ := hR26.isSl
        refine rg_monoL (σ := σ5) 8 [eqv (Sl aa_0 a_0 ca_0), eqv (I s3), eqv (pt b12 o13), eqv (Sl a14 x9 c15), eqv (Sl ab_1 b_1 cb_1), eqv (I s3), eqv (pt b22 o23), eqv (Sl a24 x19 c25)] (by kernel_rfl) (by kernel_rfl) (mono_cons mono_eqv (mono_cons mono_eqv (mono_cons mono_eqv (mono_cons mono_eqv (mono_cons mono_eqv (mono_cons mono_eqv (mono_cons mono_eqv (mono_cons mono_eqv (mono_nil))))))))) ?_ ?_
        · refine all_cons (by
              intro ρ σm m hoff hdep
              have e0 : look 27 ρ 0 = (Sl aa_0 a_0 ca_0) := look_off (hoff 0 rfl) rfl
              exact does_v (v := (Sl aa_0 a_0 ca_0)) (wanted_none _ rfl _) (rv_move e0) rfl) ?_
          refine all_cons (by
              intro ρ σm m hoff hdep
              have e5 : look 27 ρ 5 = (I s3) := look_off (hoff 5 rfl) rfl
              exact does_v (v := (I s3)) (wanted_none _ rfl _) (rv_move e5) rfl) ?_
          refine all_cons (by
              intro ρ σm m hoff hdep
              have e17 : look 27 ρ 17 = (Sl aa_0 a_0 ca_0) := hdep 0 rfl rfl 17 rfl
              have e18 : look 27 ρ 18 = (I s3) := hdep 1 rfl rfl 18 rfl
              exact does_v (v := (pt b12 o13)) (wanted_none _ rfl _) (rv_ix Try.underlying42 ti24 e17 e18 hi11) rfl) ?_
          refine all_cons (by
              intro ρ σm m hoff hdep
              have e19 : look 27 ρ 19 = (pt b12 o13) := hdep 2 rfl rfl 19 rfl
              replace hc18 := hR6.hmod hx10 hi11 (k := 0) (by decide) hc18 m
              exact does_v (v := (Sl a14 x9 c15)) (wanted_none _ rfl _) (rv_load1 Try.underlying24 rfl e19 hc18) rfl) ?_
          refine all_cons (by
              intro ρ σm m hoff hdep
              have e1 : look 27 ρ 1 = (Sl ab_1 b_1 cb_1) := look_off (hoff 1 rfl) rfl
              exact does_v (v := (Sl ab_1 b_1 cb_1)) (wanted_none _ rfl _) (rv_move e1) rfl) ?_
          refine all_cons (by
              intro ρ σm m hoff hdep
              have e5 : look 27 ρ 5 = (I s3) := look_off (hoff 5 rfl) rfl
              exact does_v (v := (I s3)) (wanted_none _ rfl _) (rv_move e5) rfl) ?_
          refine all_cons (by
              intro ρ σm m hoff hdep
              have e21 : look 27 ρ 21 = (Sl ab_1 b_1 cb_1) := hdep 4 rfl rfl 21 rfl
              have e22 : look 27 ρ 22 = (I s3) := hdep 5 rfl rfl 22 rfl
              exact does_v (v := (pt b22 o23)) (wanted_none _ rfl _) (rv_ix Try.underlying42 ti24 e21 e22 hi21) rfl) ?_
          refine all_cons (by
              intro ρ σm m hoff hdep
              have e23 : look 27 ρ 23 = (pt b22 o23) := hdep 6 rfl rfl 23 rfl
              replace hc28 := hR7.hmod hx20 hi21 (k := 0) (by decide) hc28 m
              exact does_v (v := (Sl a24 x19 c25)) (wanted_none _ rfl _) (rv_load1 Try.underlying24 rfl e23 hc28) rfl) ?_
          exact all_nil
        · intro ρ σ29 m hoff hrel
          have e0 : look 27 ρ 0 = (Sl aa_0 a_0 ca_0) := look_off (hoff 0 rfl) rfl
          have e1 : look 27 ρ 1 = (Sl ab_1 b_1 cb_1) := look_off (hoff 1 rfl) rfl
          have e5 : look 27 ρ 5 = (I s3) := look_off (hoff 5 rfl) rfl
          have e20 : look 27 ρ 20 = (Sl a14 x9 c15) := hrel 3 rfl 20 rfl
          have e24 : look 27 ρ 24 = (Sl a24 x19 c25) := hrel 7 rfl 24 rfl
          replace hR6 := hR6.mod m
          replace hR7 := hR7.mod m
          replace hR16 := hR16.mod m
          replace hR26 := hR26.mod m
          replace hK := hK.none m
          rw [fr_lookL (L := [(0, (Sl aa_0 a_0 ca_0)), (1, (Sl ab_1 b_1 cb_1)), (5, (I s3)), (20, (Sl a14 x9 c15)), (24, (Sl a24 x19 c25))]) ⟨e0, e1, e5, e20, e24, trivial⟩]
          clear hoff hrel m e0 e1 e5 e20 e24
          obtain ⟨r30, hx31, h'⟩ := bind_some h
          clear h
          have h := h'; clear h'
          refine st_call (c_laws_eqIntS hR16 hR26 hx31) rfl ?_
          have hKs := hK.size
          rintro _ σ32 m33 rfl
          replace hR6 := hR6.mod m33
          replace hR7 := hR7.mod m33
          replace hR16 := hR16.mod m33
          replace hR26 := hR26.mod m33
          replace hK := hK.none m33
          clear hKs m33
          refine st (v := (B (!r30))) (rv_not rfl) ?_
          refine w_end ?_
          refine q_then ?_
          refine cd_cond (!r30) rfl (fun hb34 => ?_) (fun hb34 => ?_)
          · replace h := bif_t hb34 h
            refine c_seq ?_
            refine rg ?_
            refine st (v := (B false)) (rv_assign rfl) ?_
            refine w_end ?_
            refine q_then ?_
            refine c_ret ?_
            refine q_blk_r ?_
            refine q_then_r ?_
            refine q_then_r ?_
            refine q_blk_r ?_
            obtain rfl := Option.some.inj h
            obtain rfl := hres _ rfl
            exact .inr (⟨_, rfl, rfl, _, σ32, fr_join ⟨rfl, trivial⟩, rfl, hK⟩)
          · replace h := bif_f hb34 h
            refine c_skip ?_
            refine q_blk ?_
            refine q_then ?_
            refine rg ?_
            refine st (v := (I s3)) (rv_move rfl) ?_
            refine st (v := (I (w64 (s3 + 1)))) (rv_add (a := s3) (b := 1) rfl rfl) ?_
            refine st (v := (I (w64 (s3 + 1)))) (rv_assign rfl) ?_
            refine w_end ?_
            refine q_then ?_
            obtain rfl := Option.some.inj h
            exact ⟨_, rfl, _, σ32, fr_join ⟨rfl, rfl, rfl, trivial⟩, rfl, hK, hR6, hR7⟩
      · replace h := bif_f hb8 h
        refine c_exit ?_
        refine q_then_x ?_
        refine q_then_x ?_
        refine q_blk_hit ?_
        obtain rfl := Option.some.inj h
        obtain rfl := hres _ rfl
        exact .inl ⟨_, rfl, rfl, _, σ5, fr_join trivial, rfl, hK⟩
    · clear hj
      have h := h'
      clear h'
      rintro e a w (⟨t35, rfl, rfl, ρ, σ36, rfl, rfl, hK⟩ | ⟨t37, rfl, rfl, ρ, σ38, rfl, rfl, hK⟩)
      · replace h := selim_l h
        refine q_then ?_
        refine c_seq ?_
        refine rg ?_
        refine st (v := (B true)) (rv_assign rfl) ?_
        refine w_end ?_
        refine q_then ?_
        refine c_ret ?_
        obtain rfl := Option.some.inj h
        exact bodyPost_ret (v := (B true)) (results_fr1 Try.results31 rfl _) rfl ⟨_, σ36, rfl, rfl, hK, rfl⟩
      · replace h := selim_r h
        refine q_then_r ?_
        obtain rfl := Option.some.inj h
        exact bodyPost_ret (v := (B t37)) (results_fr1 Try.results31 rfl _) rfl ⟨_, σ38, rfl, rfl, hK, rfl⟩

theorem c_laws_heldIntS {σ0 : St} {a_0 : List Int} {k_1 : Int} {aa_0 : Option Addr} {ca_0 : Nat} (hRa_0 : RS 0 σ0 (Sl aa_0 a_0 ca_0) a_0) {r : Int} (h : M.laws_heldIntS a_0 k_1 = some r) :
    Cal Try.prog 34 [(Sl aa_0 a_0 ca_0), (I k_1)] none σ0 (fun v σ' => v = (I r)) := by
  refine ⟨⟨_, _, Try.func34, rfl, rfl⟩, ?_⟩
  refine enter (n := 21) Try.func34 rfl rfl rfl ?_
  unfold M.laws_heldIntS at h
  have hK : Mod none σ0 σ0 := Mod.refl _ _
  refine c_seq ?_
  refine rg ?_
  refine st (v := (I 0)) (rv_assign rfl) ?_
  refine w_end ?_
  refine q_then ?_
  refine c_seq ?_
  refine c_seq ?_
  refine rg ?_
  refine st (v := (I 0)) (rv_assign rfl) ?_
  refine w_end ?_
  refine q_then ?_
  obtain ⟨o1, hj, h'⟩ := bind_some h
  clear h
  refine c_cut (fun e a w => (∃ t, o1 = (.inl t) ∧ e = .normal ∧ ∃ (ρ : Nat → Value) (σ : St), a = fr 21 (updL ρ [(1, (I t))]) ∧ w = σ.w ∧ Mod none σ0 σ) ∨ (∃ t, o1 = (.inr t) ∧ e = .ret ∧ ∃ (ρ : Nat → Value) (σ : St), a = fr 21 (updL ρ [(4, (I t))]) ∧ w = σ.w ∧ Mod none σ0 σ)) ?_ ?_
  · clear h'
    rename _ = some o1 => h
    refine c_blk ?_
    refine wp_loopM _ h (fun s2 a w => ∃ (ρ : Nat → Value) (σ : St), a = fr 21 (updL ρ [(0, (Sl aa_0 a_0 ca_0)), (1, (I s2.1)), (5, (I s2.2))]) ∧ w = σ.w ∧ Mod none σ0 σ ∧ RS 0 σ (Sl aa_0 a_0 ca_0) a_0) ⟨_, σ0, fr_join ⟨rfl, rfl, rfl, trivial⟩, rfl, hK, hRa_0⟩ ?_
    clear h
    rintro s2 a w o ⟨ρ, σ4, rfl, rfl, hK, hR5⟩ h hres
    refine c_seq ?_
    refine c_seq ?_
    refine rg ?_
    refine st (v := (I s2.2)) (rv_move rfl) ?_
    refine st (v := (Sl aa_0 a_0 ca_0)) (rv_move rfl) ?_
    refine st (v := (I (a_0.length : Int))) (rv_len Try.underlying24 rfl) ?_
    refine st (v := (B (decide (s2.2 < (a_0.length : Int))))) (rv_lss (a := s2.2) (b := (a_0.length : Int)) rfl rfl) ?_
    refine w_end ?_
    refine q_then ?_
    refine cd_cond (decide (s2.2 < (a_0.length : Int))) rfl (fun hb6 => ?_) (fun hb6 => ?_)
    · replace h := bif_t hb6 h
      refine c_skip ?_
      refine q_then ?_
      refine c_seq ?_
      refine c_blk ?_
      refine c_seq ?_
      refine c_seq ?_
      refine rg ?_
      refine st (v := (Sl aa_0 a_0 ca_0)) (rv_move rfl) ?_
      refine st (v := (I s2.2)) (rv_move rfl) ?_
      obtain ⟨x7, hx8, h'⟩ := bind_some h
      clear h
      have h := h'; clear h'
      obtain ⟨b10, o11, hi9, -⟩ := hR5.ix hx8
      refine st (v := (pt b10 o11)) (rv_ix Try.underlying24 ti3 rfl rfl hi9) ?_
      refine st (v := (I x7)) (rv_load1 Try.underlying3 rfl rfl (hR5.at hx8 hi9).int) ?_
      refine st (v := (I s2.1)) (rv_move rfl) ?_
      refine st (v := (B (x7 != s2.1))) (rv_neq (a := x7) (b := s2.1) rfl rfl) ?_
      refine w_end ?_
      refine q_then ?_
      refine cd_cond (x7 != s2.1) rfl (fun hb12 => ?_) (fun hb12 => ?_)
      · replace h := bif_t hb12 h
        refine c_seq ?_
        refine rg ?_
        refine st (v := (I (-1))) (rv_assign rfl) ?_
        refine w_end ?_
        refine q_then ?_
        refine c_ret ?_
        refine q_then_r ?_
        refine q_blk_r ?_
        refine q_then_r ?_
        refine q_then_r ?_
        refine q_blk_r ?_
        obtain rfl := Option.some.inj h
        obtain rfl := hres _ rfl
        exact .inr (⟨_, rfl, rfl, _, σ4, fr_join ⟨rfl, trivial⟩, rfl, hK⟩)
      · replace h := bif_f hb12 h
        refine c_skip ?_
        refine q_then ?_
        refine rg ?_
        refine st (v := (I s2.1)) (rv_move rfl) ?_
        refine st (v := (I (w64 (s2.1 + 1)))) (rv_add (a := s2.1) (b := 1) rfl rfl) ?_
        refine st (v := (I (w64 (s2.1 + 1)))) (rv_assign rfl) ?_
        refine w_end ?_
        refine q_blk ?_
        refine q_then ?_
        refine rg ?_
        refine st (v := (I s2.2)) (rv_move rfl) ?_
        refine st (v := (I (w64 (s2.2 + 1)))) (rv_add (a := s2.2) (b := 1) rfl rfl) ?_
        refine st (v := (I (w64 (s2.2 + 1)))) (rv_assign rfl) ?_
        refine w_end ?_
        refine q_then ?_
        obtain rfl := Option.some.inj h
        exact ⟨_, rfl, _, σ4, fr_join ⟨rfl, rfl, rfl, trivial⟩, rfl, hK, hR5⟩
    · replace h := bif_f hb6 h
      refine c_exit ?_
      refine q_then_x ?_
      refine q_then_x ?_
      refine q_blk_hit ?_
      obtain rfl := Option.some.inj h
      obtain rfl := hres _ rfl
      exact .inl ⟨_, rfl, rfl, _, σ4, fr_join ⟨rfl, trivial⟩, rfl, hK⟩
  · clear hj
    have h := h'
    clear h'
    rintro e a w (⟨t13, rfl, rfl, ρ, σ14, rfl, rfl, hK⟩ | ⟨t15, rfl, rfl, ρ, σ16, rfl, rfl, hK⟩)
    · replace h := selim_l h
      refine q_then ?_
      refine c_seq ?_
      refine rg ?_
      refine st (v := (I t13)) (rv_move rfl) ?_
      refine st (v := (I t13)) (rv_assign rfl) ?_
      refine w_end ?_
      refine q_then ?_
      refine c_ret ?_
      obtain rfl := Option.some.inj h
      exact bodyPost_ret (v := (I t13)) (results_fr1 Try.results34 rfl _) rfl ⟨_, σ14, rfl, rfl, hK, rfl⟩
    · replace h := selim_r h
      refine q_then_r ?_
      obtain rfl := Option.some.inj h
      exact bodyPost_ret (v := (I t15)) (results_fr1 Try.results34 rfl _) rfl ⟨_, σ16, rfl, rfl, hK, rfl⟩

theorem c_spec_MoveTo {σ0 : St} {a_0 : List Int} {b_1 : List Int} {part_2 : Int} {aa_0 : Option Addr} {ca_0 : Nat} (hRa_0 : RS 0 σ0 (Sl aa_0 a_0 ca_0) a_0) {ab_1 : Option Addr} {cb_1 : Nat} (hRb_1 : RS 0 σ0 (Sl ab_1 b_1 cb_1) b_1) {r : (List Int)} (h : M.spec_MoveTo a_0 b_1 part_2 = some r) :
    Cal Try.prog 35 [(Sl aa_0 a_0 ca_0), (Sl ab_1 b_1 cb_1), (I part_2)] none σ0 (fun v σ' => ∃ (a0 : Option Addr) (c0 : Nat), v = (Sl a0 r c0) ∧ Ow σ' σ0.size σ0.size (Sl a0 r c0) r) := by
  refine ⟨⟨_, _, Try.func35, rfl, rfl⟩, ?_⟩
  refine enter (n := 48) Try.func35 rfl rfl rfl ?_
  unfold M.spec_MoveTo at h
  have hK : Mod none σ0 σ0 := Mod.refl _ _
  refine c_seq ?_
  refine rg ?_
  refine st (v := (.slice none 0 0)) (rv_assign rfl) ?_
  refine w_end ?_
  refine q_then ?_
  refine c_seq ?_
  refine rg ?_
  refine st_buildSlice (lo := σ0.size) (el := σ0.size) (xs := ([] : List Int)) (ps := []) (cs := []) Try.underlying24 ti3 rfl rfl (by kernel_rfl) (.nil) rfl ?_ hK.size (wanted_none _ rfl _)
  intro b2 σ3 hbn5 m4 hO1
  replace hRa_0 := hRa_0.mod m4
  replace hRb_1 := hRb_1.mod m4
  replace hK := hK.none m4
  clear hbn5 m4
  refine st (v := (Sl (some ⟨b2, 0, none⟩) ([] : List Int) 0)) (rv_assign rfl) ?_
  refine w_end ?_
  refine q_then ?_
  refine c_seq ?_
  refine c_seq ?_
  obtain ⟨o6, hj, h'⟩ := bind_some h
  clear h
  refine c_cut (fun e a w => e = .normal ∧ ∃ (ρ : Nat → Value) (σ : St), a = fr 48 (updL ρ [(0, (Sl aa_0 a_0 ca_0)), (1, (Sl ab_1 b_1 cb_1)), (2, (I part_2)), (7, (Sl (some ⟨b2, 0, none⟩) ([] : List Int) 0)), (22, (B o6))]) ∧ w = σ.w ∧ Mod none σ0 σ ∧ RS 0 σ (Sl aa_0 a_0 ca_0) a_0 ∧ RS 0 σ (Sl ab_1 b_1 cb_1) b_1 ∧ Ow σ σ0.size σ0.size (Sl (some ⟨b2, 0, none⟩) ([] : List Int) 0) ([] : List Int)) ?_ ?_
  · clear h'
    rename _ = some o6 => h
    refine rg ?_
    refine st (v := (Sl aa_0 a_0 ca_0)) (rv_move rfl) ?_
    obtain ⟨r7, hx8, h'⟩ := bind_some h
    clear h
    have h := h'; clear h'
    refine st_call (c_spec_isVector hRa_0 hx8) rfl ?_
    have hd11 := hO1.ltb
    have hKs := hK.size
    rintro _ σ9 m10 rfl
    replace hRa_0 := hRa_0.mod m10
    replace hRb_1 := hRb_1.mod m10
    replace hO1 := hO1.mod0 m10
    replace hK := hK.none m10
    clear hKs m10
    refine st (v := (B (!r7))) (rv_not rfl) ?_
    refine st (v := (B (!r7))) (rv_move rfl) ?_
    rcases Bool.eq_false_or_eq_true (!r7) with hb12 | hb12
    · replace h := bif_t hb12 h
      refine st_skip (congrArg some hb12) ?_
      refine st_skip (congrArg some hb12) ?_
      refine st_skip (congrArg some hb12) ?_
      refine st (v := (B true)) (rv_pick_t (congrArg B hb12) rfl) ?_
      refine st (v := (B true)) (rv_move rfl) ?_
      refine st_skip rfl ?_
      refine st_skip rfl ?_
      refine st_skip rfl ?_
      refine st (v := (B true)) (rv_pick_t rfl rfl) ?_
      refine w_end ?_
      obtain rfl := Option.some.inj h
      exact ⟨rfl, _, σ9, fr_join ⟨rfl, rfl, rfl, rfl, rfl, trivial⟩, rfl, hK, hRa_0, hRb_1, hO1⟩
    · replace h := bif_f hb12 h
      refine st_g (v := (Sl ab_1 b_1 cb_1)) (congrArg some hb12) (rv_move rfl) ?_
      obtain ⟨r13, hx14, h'⟩ := bind_some h
      clear h
      have h := h'; clear h'
      refine st_call_g (by exact (congrArg some hb12)) (c_spec_isVector hRb_1 hx14) rfl ?_
      have hd17 := hO1.ltb
      have hKs := hK.size
      rintro _ σ15 m16 rfl
      replace hRa_0 := hRa_0.mod m16
      replace hRb_1 := hRb_1.mod m16
      replace hO1 := hO1.mod0 m16
      replace hK := hK.none m16
      clear hKs m16
      refine st_g (v := (B (!r13))) (congrArg some hb12) (rv_not rfl) ?_
      refine st (v := (B (!r13))) (rv_pick_f (congrArg B hb12) rfl) ?_
      refine st (v := (B (!r13))) (rv_move rfl) ?_
      rcases Bool.eq_false_or_eq_true (!r13) with hb18 | hb18
      · replace h := bif_t hb18 h
        refine st_skip (congrArg some hb18) ?_
        refine st_skip (congrArg some hb18) ?_
        refine st_skip (congrArg some hb18) ?_
        refine st (v := (B true)) (rv_pick_t (congrArg B hb18) rfl) ?_
        refine w_end ?_
        obtain rfl := Option.some.inj h
        exact ⟨rfl, _, σ15, fr_join ⟨rfl, rfl, rfl, rfl, rfl, trivial⟩, rfl, hK, hRa_0, hRb_1, hO1⟩
      · replace h := bif_f hb18 h
        refine st_g (v := (I part_2)) (congrArg some hb18) (rv_move rfl) ?_
        obtain ⟨r19, hx20, h'⟩ := bind_some h
        clear h
        have h := h'; clear h'
        refine st_call_g (by exact (congrArg some hb18)) (c_spec_inRange  hx20) rfl ?_
        have hd23 := hO1.ltb
        have hKs := hK.size
        rintro _ σ21 m22 rfl
        replace hRa_0 := hRa_0.mod m22
        replace hRb_1 := hRb_1.mod m22
        replace hO1 := hO1.mod0 m22
        replace hK := hK.none m22
        clear hKs m22
        refine st_g (v := (B (!r19))) (congrArg some hb18) (rv_not rfl) ?_
        refine st (v := (B (!r19))) (rv_pick_f (congrArg B hb18) rfl) ?_
        refine w_end ?_
        obtain rfl := Option.some.inj h
        exact ⟨rfl, _, σ21, fr_join ⟨rfl, rfl, rfl, rfl, rfl, trivial⟩, rfl, hK, hRa_0, hRb_1, hO1⟩
  · clear hj
    have h := h'
    clear h'
    rintro e a w ⟨rfl, ρ, σ24, rfl, rfl, hK, hR25, hR26, hO27⟩
    refine q_then ?_
    refine cd_cond o6 rfl (fun hb28 => ?_) (fun hb28 => ?_)
    · replace h := bif_t hb28 h
      refine c_seq ?_
      refine rg ?_
      refine st (v := (.slice none 0 0)) (rv_assign rfl) ?_
      refine w_end ?_
      refine q_then ?_
      refine c_ret ?_
      refine q_then_r ?_
      obtain rfl := Option.some.inj h
      exact bodyPost_ret (v := (.slice none 0 0)) (results_fr1 Try.results35 rfl _) rfl ⟨_, σ24, rfl, rfl, hK, none, 0, rfl, Ow.nil⟩
    · replace h := bif_f hb28 h
      refine c_skip ?_
      refine q_then ?_
      refine c_seq ?_
      refine c_seq ?_
      refine rg ?_
      refine st (v := (I 0)) (rv_assign rfl) ?_
      refine w_end ?_
      refine q_then ?_
      obtain ⟨o29, hj, h'⟩ := bind_some h
      clear h
      refine c_cut (fun e a w => e = .normal ∧ ∃ (ρ : Nat → Value) (σ : St) (aj1 : Option Addr) (cj2 : Nat), a = fr 48 (updL ρ [(7, (Sl aj1 o29 cj2))]) ∧ w = σ.w ∧ Mod none σ0 σ ∧ Ow σ σ0.size σ0.size (Sl aj1 o29 cj2) o29) ?_ ?_
      · clear h'
        rename _ = some o29 => h
        refine c_blk ?_
        refine wp_loopM _ h (fun s30 a w => ∃ (ρ : Nat → Value) (σ : St) (aj3 : Option Addr) (cj4 : Nat), a = fr 48 (updL ρ [(0, (Sl aa_0 a_0 ca_0)), (1, (Sl ab_1 b_1 cb_1)), (2, (I part_2)), (7, (Sl aj3 s30.1 cj4)), (8, (I s30.2))]) ∧ w = σ.w ∧ Mod none σ0 σ ∧ RS 0 σ (Sl aa_0 a_0 ca_0) a_0 ∧ RS 0 σ (Sl ab_1 b_1 cb_1) b_1 ∧ Ow σ σ0.size σ0.size (Sl aj3 s30.1 cj4) s30.1) ⟨_, σ24, (some ⟨b2, 0, none⟩), 0, fr_join ⟨rfl, rfl, rfl, rfl, rfl, trivial⟩, rfl, hK, hR25, hR26, hO27⟩ ?_
        clear h
        rintro s30 a w o ⟨ρ, σ32, a35, c36, rfl, rfl, hK, hR33, hR34, hO37⟩ h hres
        refine c_seq ?_
        refine c_seq ?_
        refine rg ?_
        refine st (v := (I s30.2)) (rv_move rfl) ?_
        refine st (v := (B (decide (s30.2 < 4)))) (rv_lss (a := s30.2) (b := 4) rfl rfl) ?_
        refine w_end ?_
        refine q_then ?_
        refine cd_cond (decide (s30.2 < 4)) rfl (fun hb38 => ?_) (fun hb38 => ?_)
        · replace h := bif_t hb38 h
          refine c_skip ?_
          refine q_then ?_
          refine c_seq ?_
          refine c_blk ?_
          obtain ⟨x39, hx40, h'⟩ := bind_some h
          clear h
          have h := h'; clear h'
          obtain ⟨b42, o43, hi41, -⟩ := hR33.ix hx40
          obtain ⟨x44, hx45, h'⟩ := bind_some h
          clear h
          have h := h'; clear h'
          obtain ⟨b47, o48, hi46, -⟩ := hR34.ix hx45
          obtain ⟨x49, hx50, h'⟩ := bind_some h
          clear h
          have h := h'; clear h'
          obtain ⟨b52, o53, hi51, -⟩ := hR33.ix hx50
          obtain ⟨r54, hx55, h'⟩ := bind_some h
          clear h
          have h := h'; clear h'
          refine rg_monoL (σ := σ32) 19 [eqv (Sl a35 s30.1 c36), eqv (Sl aa_0 a_0 ca_0), eqv (I s30.2), eqv (pt b42 o43), eqv (I x39), eqv (Sl ab_1 b_1 cb_1), eqv (I s30.2), eqv (pt b47 o48), eqv (I x44), eqv (Sl aa_0 a_0 ca_0), eqv (I s30.2), eqv (pt b52 o53), eqv (I x49), eqv (I (w64 (x44 - x49))), eqv (I part_2), eqv (I (w64 ((w64 (x44 - x49)) * part_2))), eqv (I r54), eqv (I (w64 (x39 + r54))), (fun v σ => ∃ (b56 : Nat), v = (Sl (some ⟨b56, 0, none⟩) ([w64 (x39 + r54)] : List Int) 1) ∧ Ow σ σ32.size σ0.size (Sl (some ⟨b56, 0, none⟩) ([w64 (x39 + r54)] : List Int) 1) ([w64 (x39 + r54)] : List Int))] (by kernel_rfl) (by kernel_rfl) (mono_cons mono_eqv (mono_cons mono_eqv (mono_cons mono_eqv (mono_cons mono_eqv (mono_cons mono_eqv (mono_cons mono_eqv (mono_cons mono_eqv (mono_cons mono_eqv (mono_cons mono_eqv (mono_cons mono_eqv (mono_cons mono_eqv (mono_cons mono_eqv (mono_cons mono_eqv (mono_cons mono_eqv (mono_cons mono_eqv (mono_cons mono_eqv (mono_cons mono_eqv (mono_cons mono_eqv (mono_cons (fun _ _ _ ⟨b56, h0, hO57⟩ m => ⟨b56, h0, hO57.mod0 m⟩) (mono_nil)))))))))))))))))))) ?_ ?_
          · refine all_cons (by
                intro ρ σm m hoff hdep
                have e7 : look 48 ρ 7 = (Sl a35 s30.1 c36) := look_off (hoff 7 rfl) rfl
                exact does_v (v := (Sl a35 s30.1 c36)) (wanted_none _ rfl _) (rv_move e7) rfl) ?_
            refine all_cons (by
                intro ρ σm m hoff hdep
                have e0 : look 48 ρ 0 = (Sl aa_0 a_0 ca_0) := look_off (hoff 0 rfl) rfl
                exact does_v (v := (Sl aa_0 a_0 ca_0)) (wanted_none _ rfl _) (rv_move e0) rfl) ?_
            refine all_cons (by
                intro ρ σm m hoff hdep
                have e8 : look 48 ρ 8 = (I s30.2) := look_off (hoff 8 rfl) rfl
                exact does_v (v := (I s30.2)) (wanted_none _ rfl _) (rv_move e8) rfl) ?_
            refine all_cons (by
                intro ρ σm m hoff hdep
                have e28 : look 48 ρ 28 = (Sl aa_0 a_0 ca_0) := hdep 1 rfl rfl 28 rfl
                have e29 : look 48 ρ 29 = (I s30.2) := hdep 2 rfl rfl 29 rfl
                exact does_v (v := (pt b42 o43)) (wanted_none _ rfl _) (rv_ix Try.underlying24 ti3 e28 e29 hi41) rfl) ?_
            refine all_cons (by
                intro ρ σm m hoff hdep
                have e30 : look 48 ρ 30 = (pt b42 o43) := hdep 3 rfl rfl 30 rfl
                replace hR33 := hR33.mod m
                exact does_v (v := (I x39)) (wanted_none _ rfl _) (rv_load1 Try.underlying3 rfl e30 (hR33.at hx40 hi41).int) rfl) ?_
            refine all_cons (by
                intro ρ σm m hoff hdep
                have e1 : look 48 ρ 1 = (Sl ab_1 b_1 cb_1) := look_off (hoff 1 rfl) rfl
                exact does_v (v := (Sl ab_1 b_1 cb_1)) (wanted_none _ rfl _) (rv_move e1) rfl) ?_
            refine all_cons (by
                intro ρ σm m hoff hdep
                have e8 : look 48 ρ 8 = (I s30.2) := look_off (hoff 8 rfl) rfl
                exact does_v (v := (I s30.2)) (wanted_none _ rfl _) (rv_move e8) rfl) ?_
            refine all_cons (by
                intro ρ σm m hoff hdep
                have e32 : look 48 ρ 32 = (Sl ab_1 b_1 cb_1) := hdep 5 rfl rfl 32 rfl
                have e33 : look 48 ρ 33 = (I s30.2) := hdep 6 rfl rfl 33 rfl
                exact does_v (v := (pt b47 o48)) (wanted_none _ rfl _) (rv_ix Try.underlying24 ti3 e32 e33 hi46) rfl) ?_
            refine all_cons (by
                intro ρ σm m hoff hdep
                have e34 : look 48 ρ 34 = (pt b47 o48) := hdep 7 rfl rfl 34 rfl
                replace hR34 := hR34.mod m
                exact does_v (v := (I x44)) (wanted_none _ rfl _) (rv_load1 Try.underlying3 rfl e34 (hR34.at hx45 hi46).int) rfl) ?_
            refine all_cons (by
                intro ρ σm m hoff hdep
                have e0 : look 48 ρ 0 = (Sl aa_0 a_0 ca_0) := look_off (hoff 0 rfl) rfl
                exact does_v (v := (Sl aa_0 a_0 ca_0)) (wanted_none _ rfl _) (rv_move e0) rfl) ?_
            refine all_cons (by
                intro ρ σm m hoff hdep
                have e8 : look 48 ρ 8 = (I s30.2) := look_off (hoff 8 rfl) rfl
                exact does_v (v := (I s30.2)) (wanted_none _ rfl _) (rv_move e8) rfl) ?_
            refine all_cons (by
                intro ρ σm m hoff hdep
                have e36 : look 48 ρ 36 = (Sl aa_0 a_0 ca_0) := hdep 9 rfl rfl 36 rfl
                have e37 : look 48 ρ 37 = (I s30.2) := hdep 10 rfl rfl 37 rfl
                exact does_v (v := (pt b52 o53)) (wanted_none _ rfl _) (rv_ix Try.underlying24 ti3 e36 e37 hi51) rfl) ?_
            refine all_cons (by
                intro ρ σm m hoff hdep
                have e38 : look 48 ρ 38 = (pt b52 o53) := hdep 11 rfl rfl 38 rfl
                replace hR33 := hR33.mod m
                exact does_v (v := (I x49)) (wanted_none _ rfl _) (rv_load1 Try.underlying3 rfl e38 (hR33.at hx50 hi51).int) rfl) ?_
            refine all_cons (by
                intro ρ σm m hoff hdep
                have e35 : look 48 ρ 35 = (I x44) := hdep 8 rfl rfl 35 rfl
                have e39 : look 48 ρ 39 = (I x49) := hdep 12 rfl rfl 39 rfl
                exact does_v (v := (I (w64 (x44 - x49)))) (wanted_none _ rfl _) (rv_sub (a := x44) (b := x49) e35 e39) rfl) ?_
            refine all_cons (by
                intro ρ σm m hoff hdep
                have e2 : look 48 ρ 2 = (I part_2) := look_off (hoff 2 rfl) rfl
                exact does_v (v := (I part_2)) (wanted_none _ rfl _) (rv_move e2) rfl) ?_
            refine all_cons (by
                intro ρ σm m hoff hdep
                have e40 : look 48 ρ 40 = (I (w64 (x44 - x49))) := hdep 13 rfl rfl 40 rfl
                have e41 : look 48 ρ 41 = (I part_2) := hdep 14 rfl rfl 41 rfl
                exact does_v (v := (I (w64 ((w64 (x44 - x49)) * part_2)))) (wanted_none _ rfl _) (rv_mul (a := (w64 (x44 - x49))) (b := part_2) e40 e41) rfl) ?_
            refine all_cons (by
                intro ρ σm m hoff hdep
                have e42 : look 48 ρ 42 = (I (w64 ((w64 (x44 - x49)) * part_2))) := hdep 15 rfl rfl 42 rfl
                have hKs : σ32.size ≤ σm.size := m.size
                exact does_call (wanted_none _ rfl _) (c_spec_floorDiv  hx55) (by show [look 48 ρ 42, (I 1000)] = _; rw [e42]) (by rintro v σ2 m2 rfl; exact rfl)) ?_
            refine all_cons (by
                intro ρ σm m hoff hdep
                have e31 : look 48 ρ 31 = (I x39) := hdep 4 rfl rfl 31 rfl
                have e43 : look 48 ρ 43 = (I r54) := hdep 16 rfl rfl 43 rfl
                exact does_v (v := (I (w64 (x39 + r54)))) (wanted_none _ rfl _) (rv_add (a := x39) (b := r54) e31 e43) rfl) ?_
            refine all_cons (by
                intro ρ σm m hoff hdep
                have e44 : look 48 ρ 44 = (I (w64 (x39 + r54))) := hdep 17 rfl rfl 44 rfl
                exact does_buildSlice (lo := σ32.size) (el := σ0.size) (xs := ([w64 (x39 + r54)] : List Int)) (ps := [(0, (I (w64 (x39 + r54))))]) (cs := [(I (w64 (x39 + r54)))]) (wanted_none _ rfl _) Try.underlying24 ti3 rfl (by show [(0, look 48 ρ 44)] = _; rw [e44]) (by kernel_rfl) (.cons (c := [(I (w64 (x39 + r54)))]) rfl (.nil)) rfl m.size (fun b56 σ2 m2 hO57 => ⟨b56, rfl, hO57⟩)) ?_
            exact all_nil
          · intro ρ σ58 m hoff hrel
            have e0 : look 48 ρ 0 = (Sl aa_0 a_0 ca_0) := look_off (hoff 0 rfl) rfl
            have e1 : look 48 ρ 1 = (Sl ab_1 b_1 cb_1) := look_off (hoff 1 rfl) rfl
            have e2 : look 48 ρ 2 = (I part_2) := look_off (hoff 2 rfl) rfl
            have e8 : look 48 ρ 8 = (I s30.2) := look_off (hoff 8 rfl) rfl
            have e27 : look 48 ρ 27 = (Sl a35 s30.1 c36) := hrel 0 rfl 27 rfl
            obtain ⟨b56, e45, hO57⟩ := hrel 18 rfl 45 rfl
            have hd59 := hO37.ltb
            have hg60 := hO57.ge
            have hd61 := Df.ge hd59 hg60
            replace hO57 := hO57.lo hK.size
            replace hR33 := hR33.mod m
            replace hR34 := hR34.mod m
            replace hO37 := hO37.mod0 m
            replace hK := hK.none m
            rw [fr_lookL (L := [(0, (Sl aa_0 a_0 ca_0)), (1, (Sl ab_1 b_1 cb_1)), (2, (I part_2)), (8, (I s30.2)), (27, (Sl a35 s30.1 c36)), (45, (Sl (some ⟨b56, 0, none⟩) ([w64 (x39 + r54)] : List Int) 1))]) ⟨e0, e1, e2, e8, e27, e45, trivial⟩]
            clear hoff hrel m e0 e1 e2 e8 e27 e45
            obtain ⟨xs62, hx63, h'⟩ := bind_some h
            clear h
            have h := h'; clear h'
            have hg64 := hO37.ge
            refine st_append Try.underlying24 Try.underlying24 ti3 rfl rfl (by decide) hO37 hO57.rd hx63 hK.size rfl rfl ?_ (wanted_none _ rfl _)
            intro a69 c70 σ65 m66 hO67 hq68
            replace hR33 := hR33.mod m66
            replace hR34 := hR34.mod m66
            replace hK := hK.own m66 hg64
            clear hq68 m66
            refine st (v := (Sl a69 xs62 c70)) (rv_assign rfl) ?_
            refine w_end ?_
            refine q_blk ?_
            refine q_then ?_
            refine rg ?_
            refine st (v := (I s30.2)) (rv_move rfl) ?_
            refine st (v := (I (w64 (s30.2 + 1)))) (rv_add (a := s30.2) (b := 1) rfl rfl) ?_
            refine st (v := (I (w64 (s30.2 + 1)))) (rv_assign rfl) ?_
            refine w_end ?_
            refine q_then ?_
            obtain rfl := Option.some.inj h
            exact ⟨_, rfl, _, σ65, a69, c70, fr_join ⟨rfl, rfl, rfl, rfl, rfl, trivial⟩, rfl, hK, hR33, hR34, hO67⟩
        · replace h := bif_f hb38 h
          refine c_exit ?_
          refine q_then_x ?_
          refine q_then_x ?_
          refine q_blk_hit ?_
          obtain rfl := Option.some.inj h
          obtain rfl := hres _ rfl
          exact ⟨rfl, _, σ32, a35, c36, fr_join ⟨rfl, trivial⟩, rfl, hK, hO37⟩
      · clear hj
        have h := h'
        clear h'
        rintro e a w ⟨rfl, ρ, σ71, a72, c73, rfl, rfl, hK, hO74⟩
        refine q_then ?_
        refine c_seq ?_
        refine rg ?_
        refine st (v := (Sl a72 o29 c73)) (rv_move rfl) ?_
        refine st (v := (Sl a72 o29 c73)) (rv_assign rfl) ?_
        refine w_end ?_
        refine q_then ?_
        refine c_ret ?_
        obtain rfl := Option.some.inj h
        exact bodyPost_ret (v := (Sl a72 o29 c73)) (results_fr1 Try.results35 rfl _) rfl ⟨_, σ71, rfl, rfl, hK, a72, c73, rfl, hO74⟩

theorem c_impl_MoveTo {σ0 : St} {a_0 : List Int} {b_1 : List Int} {part_2 : Int} {aa_0 : Option Addr} {ca_0 : Nat} (hRa_0 : RS 0 σ0 (Sl aa_0 a_0 ca_0) a_0) {ab_1 : Option Addr} {cb_1 : Nat} (hRb_1 : RS 0 σ0 (Sl ab_1 b_1 cb_1) b_1) {r : (List Int)} (h : M.impl_MoveTo a_0 b_1 part_2 = some r) :
    Cal Try.prog 36 [(Sl aa_0 a_0 ca_0), (Sl ab_1 b_1 cb_1), (I part_2)] none σ0 (fun v σ' => ∃ (a0 : Option Addr) (c0 : Nat), v = (Sl a0 r c0) ∧ Ow σ' σ0.size σ0.size (Sl a0 r c0) r) := by
  refine ⟨⟨_, _, Try.func36, rfl, rfl⟩, ?_⟩
  refine enter (n := 49) Try.func36 rfl rfl rfl ?_
  unfold M.impl_MoveTo at h
  have hK : Mod none σ0 σ0 := Mod.refl _ _
  refine c_seq ?_
  refine rg ?_
  refine st (v := (.slice none 0 0)) (rv_assign rfl) ?_
  refine w_end ?_
  refine q_then ?_
  refine c_seq ?_
  refine c_seq ?_
  obtain ⟨o1, hj, h'⟩ := bind_some h
  clear h
  refine c_cut (fun e a w => e = .normal ∧ ∃ (ρ : Nat → Value) (σ : St), a = fr 49 (updL ρ [(0, (Sl aa_0 a_0 ca_0)), (1, (Sl ab_1 b_1 cb_1)), (2, (I part_2)), (24, (B o1))]) ∧ w = σ.w ∧ Mod none σ0 σ ∧ RS 0 σ (Sl aa_0 a_0 ca_0) a_0 ∧ RS 0 σ (Sl ab_1 b_1 cb_1) b_1) ?_ ?_
  · clear h'
    rename _ = some o1 => h
    refine rg ?_
    refine st (v := (Sl aa_0 a_0 ca_0)) (rv_move rfl) ?_
    obtain ⟨r2, hx3, h'⟩ := bind_some h
    clear h
    have h := h'; clear h'
    refine st_call (c_impl_ValidVector hRa_0 hx3) rfl ?_
    have hKs := hK.size
    rintro _ σ4 m5 rfl
    replace hRa_0 := hRa_0.mod m5
    replace hRb_1 := hRb_1.mod m5
    replace hK := hK.none m5
    clear hKs m5
    refine st (v := (B (!r2))) (rv_not rfl) ?_
    refine st (v := (B (!r2))) (rv_move rfl) ?_
    rcases Bool.eq_false_or_eq_true (!r2) with hb6 | hb6
    · replace h := bif_t hb6 h
      refine st_skip (congrArg some hb6) ?_
      refine st_skip (congrArg some hb6) ?_
      refine st_skip (congrArg some hb6) ?_
      refine st (v := (B true)) (rv_pick_t (congrArg B hb6) rfl) ?_
      refine st (v := (B true)) (rv_move rfl) ?_
      refine st_skip rfl ?_
      refine st_skip rfl ?_
      refine st (v := (B true)) (rv_pick_t rfl rfl) ?_
      refine st (v := (B true)) (rv_move rfl) ?_
      refine st_skip rfl ?_
      refine st_skip rfl ?_
      refine st (v := (B true)) (rv_pick_t rfl rfl) ?_
      refine w_end ?_
      obtain rfl := Option.some.inj h
      exact ⟨rfl, _, σ4, fr_join ⟨rfl, rfl, rfl, rfl, trivial⟩, rfl, hK, hRa_0, hRb_1⟩
    · replace h := bif_f hb6 h
      refine st_g (v := (Sl ab_1 b_1 cb_1)) (congrArg some hb6) (rv_move rfl) ?_
      obtain ⟨r7, hx8, h'⟩ := bind_some h
      clear h
      have h := h'; clear h'
      refine st_call_g (by exact (congrArg some hb6)) (c_impl_ValidVector hRb_1 hx8) rfl ?_
      have hKs := hK.size
      rintro _ σ9 m10 rfl
      replace hRa_0 := hRa_0.mod m10
      replace hRb_1 := hRb_1.mod m10
      replace hK := hK.none m10
      clear hKs m10
      refine st_g (v := (B (!r7))) (congrArg some hb6) (rv_not rfl) ?_
      refine st (v := (B (!r7))) (rv_pick_f (congrArg B hb6) rfl) ?_
      refine st (v := (B (!r7))) (rv_move rfl) ?_
      rcases Bool.eq_false_or_eq_true (!r7) with hb11 | hb11
      · replace h := bif_t hb11 h
        refine st_skip (congrArg some hb11) ?_
        refine st_skip (congrArg some hb11) ?_
        refine st (v := (B true)) (rv_pick_t (congrArg B hb11) rfl) ?_
        refine st (v := (B true)) (rv_move rfl) ?_
        refine st_skip rfl ?_
        refine st_skip rfl ?_
        refine st (v := (B true)) (rv_pick_t rfl rfl) ?_
        refine w_end ?_
        obtain rfl := Option.some.inj h
        exact ⟨rfl, _, σ9, fr_join ⟨rfl, rfl, rfl, rfl, trivial⟩, rfl, hK, hRa_0, hRb_1⟩
      · replace h := bif_f hb11 h
        refine st_g (v := (I part_2)) (congrArg some hb11) (rv_move rfl) ?_
        refine st_g (v := (B (decide (part_2 < 0)))) (congrArg some hb11) (rv_lss (a := part_2) (b := 0) rfl rfl) ?_
        refine st (v := (B (decide (part_2 < 0)))) (rv_pick_f (congrArg B hb11) rfl) ?_
        refine st (v := (B (decide (part_2 < 0)))) (rv_move rfl) ?_
        rcases Bool.eq_false_or_eq_true (decide (part_2 < 0)) with hb12 | hb12
        · replace h := bif_t hb12 h
          refine st_skip (congrArg some hb12) ?_
          refine st_skip (congrArg some hb12) ?_
          refine st (v := (B true)) (rv_pick_t (congrArg B hb12) rfl) ?_
          refine w_end ?_
          obtain rfl := Option.some.inj h
          exact ⟨rfl, _, σ9, fr_join ⟨rfl, rfl, rfl, rfl, trivial⟩, rfl, hK, hRa_0, hRb_1⟩
        · replace h := bif_f hb12 h
          refine st_g (v := (I part_2)) (congrArg some hb12) (rv_move rfl) ?_
          refine st_g (v := (B (decide (1000 < part_2)))) (congrArg some hb12) (rv_gtr (a := part_2) (b := 1000) rfl rfl) ?_
          refine st (v := (B (decide (1000 < part_2)))) (rv_pick_f (congrArg B hb12) rfl) ?_
          refine w_end ?_
          obtain rfl := Option.some.inj h
          exact ⟨rfl, _, σ9, fr_join ⟨rfl, rfl, rfl, rfl, trivial⟩, rfl, hK, hRa_0, hRb_1⟩
  · clear hj
    have h := h'
    clear h'
    rintro e a w ⟨rfl, ρ, σ13, rfl, rfl, hK, hR14, hR15⟩
    refine q_then ?_
    refine cd_cond o1 rfl (fun hb16 => ?_) (fun hb16 => ?_)
    · replace h := bif_t hb16 h
      refine c_seq ?_
      refine rg ?_
      refine st (v := (.slice none 0 0)) (rv_assign rfl) ?_
      refine w_end ?_
      refine q_then ?_
      refine c_ret ?_
      refine q_then_r ?_
      obtain rfl := Option.some.inj h
      exact bodyPost_ret (v := (.slice none 0 0)) (results_fr1 Try.results36 rfl _) rfl ⟨_, σ13, rfl, rfl, hK, none, 0, rfl, Ow.nil⟩
    · replace h := bif_f hb16 h
      refine c_skip ?_
      refine q_then ?_
      refine c_seq ?_
      refine rg ?_
      refine st_alloc (cs := (List.map I (List.replicate 4 0))) ti78 rfl ?_ (wanted_none _ rfl _)
      intro b18 σ20 hbn22 m21 hB17
      have hge19 := Nat.le_trans hK.size (Nat.le_of_eq hbn22)
      replace hR14 := hR14.mod m21
      replace hR15 := hR15.mod m21
      replace hK := hK.none m21
      clear hbn22 m21
      refine w_end ?_
      refine q_then ?_
      refine c_seq ?_
      refine c_seq ?_
      refine rg ?_
      refine st (v := (I 0)) (rv_move rfl) ?_
      refine w_end ?_
      refine q_then ?_
      obtain ⟨o23, hj, h'⟩ := bind_some h
      clear h
      refine c_cut (fun e a w => e = .normal ∧ ∃ (ρ : Nat → Value) (σ : St), a = fr 49 (updL ρ [(7, (pt b18 0))]) ∧ w = σ.w ∧ Mod none σ0 σ ∧ o23.length = 4 ∧ Bx σ b18 (List.map I o23)) ?_ ?_
      · clear h'
        rename _ = some o23 => h
        refine c_blk ?_
        refine wp_loopM _ h (fun s24 a w => ∃ (ρ : Nat → Value) (σ : St), a = fr 49 (updL ρ [(0, (Sl aa_0 a_0 ca_0)), (1, (Sl ab_1 b_1 cb_1)), (2, (I part_2)), (7, (pt b18 0)), (25, (I s24.2))]) ∧ w = σ.w ∧ Mod none σ0 σ ∧ RS 0 σ (Sl aa_0 a_0 ca_0) a_0 ∧ RS 0 σ (Sl ab_1 b_1 cb_1) b_1 ∧ s24.1.length = 4 ∧ Bx σ b18 (List.map I s24.1)) ⟨_, σ20, fr_join ⟨rfl, rfl, rfl, rfl, rfl, trivial⟩, rfl, hK, hR14, hR15, rfl, hB17⟩ ?_
        clear h
        rintro s24 a w o ⟨ρ, σ26, rfl, rfl, hK, hR27, hR28, hl29, hB30⟩ h hres
        refine c_seq ?_
        refine rg ?_
        refine st (v := (B (decide (s24.2 < 4)))) (rv_lss (a := s24.2) (b := 4) rfl rfl) ?_
        refine w_end ?_
        refine q_then ?_
        refine c_seq ?_
        refine cd_cond (decide (s24.2 < 4)) rfl (fun hb31 => ?_) (fun hb31 => ?_)
        · replace h := bif_t hb31 h
          refine c_skip ?_
          refine q_then ?_
          refine c_seq ?_
          refine c_blk ?_
          refine c_seq ?_
          refine rg ?_
          refine st (v := (I s24.2)) (rv_move rfl) ?_
          refine st (v := (I s24.2)) (rv_assign rfl) ?_
          refine w_end ?_
          refine q_then ?_
          obtain ⟨x32, hx33, h'⟩ := bind_some h
          clear h
          have h := h'; clear h'
          obtain ⟨b35, o36, hi34, -⟩ := hR27.ix hx33
          obtain ⟨x37, hx38, h'⟩ := bind_some h
          clear h
          have h := h'; clear h'
          obtain ⟨b40, o41, hi39, -⟩ := hR28.ix hx38
          obtain ⟨x42, hx43, h'⟩ := bind_some h
          clear h
          have h := h'; clear h'
          obtain ⟨b45, o46, hi44, -⟩ := hR27.ix hx43
          obtain ⟨r47, hx48, h'⟩ := bind_some h
          clear h
          have h := h'; clear h'
          refine rg_monoL (σ := σ26) 18 [eqv (I s24.2), eqv (Sl aa_0 a_0 ca_0), eqv (I s24.2), eqv (pt b35 o36), eqv (I x32), eqv (Sl ab_1 b_1 cb_1), eqv (I s24.2), eqv (pt b40 o41), eqv (I x37), eqv (Sl aa_0 a_0 ca_0), eqv (I s24.2), eqv (pt b45 o46), eqv (I x42), eqv (I (w64 (x37 - x42))), eqv (I part_2), eqv (I (w64 ((w64 (x37 - x42)) * part_2))), eqv (I r47), eqv (I (w64 (x32 + r47)))] (by kernel_rfl) (by kernel_rfl) (mono_cons mono_eqv (mono_cons mono_eqv (mono_cons mono_eqv (mono_cons mono_eqv (mono_cons mono_eqv (mono_cons mono_eqv (mono_cons mono_eqv (mono_cons mono_eqv (mono_cons mono_eqv (mono_cons mono_eqv (mono_cons mono_eqv (mono_cons mono_eqv (mono_cons mono_eqv (mono_cons mono_eqv (mono_cons mono_eqv (mono_cons mono_eqv (mono_cons mono_eqv (mono_cons mono_eqv (mono_nil))))))))))))))))))) ?_ ?_
          · refine all_cons (by
                intro ρ σm m hoff hdep
                have e8 : look 49 ρ 8 = (I s24.2) := look_off (hoff 8 rfl) rfl
                exact does_v (v := (I s24.2)) (wanted_none _ rfl _) (rv_move e8) rfl) ?_
            refine all_cons (by
                intro ρ σm m hoff hdep
                have e0 : look 49 ρ 0 = (Sl aa_0 a_0 ca_0) := look_off (hoff 0 rfl) rfl
                exact does_v (v := (Sl aa_0 a_0 ca_0)) (wanted_none _ rfl _) (rv_move e0) rfl) ?_
            refine all_cons (by
                intro ρ σm m hoff hdep
                have e8 : look 49 ρ 8 = (I s24.2) := look_off (hoff 8 rfl) rfl
                exact does_v (v := (I s24.2)) (wanted_none _ rfl _) (rv_move e8) rfl) ?_
            refine all_cons (by
                intro ρ σm m hoff hdep
                have e29 : look 49 ρ 29 = (Sl aa_0 a_0 ca_0) := hdep 1 rfl rfl 29 rfl
                have e30 : look 49 ρ 30 = (I s24.2) := hdep 2 rfl rfl 30 rfl
                exact does_v (v := (pt b35 o36)) (wanted_none _ rfl _) (rv_ix Try.underlying24 ti3 e29 e30 hi34) rfl) ?_
            refine all_cons (by
                intro ρ σm m hoff hdep
                have e31 : look 49 ρ 31 = (pt b35 o36) := hdep 3 rfl rfl 31 rfl
                replace hR27 := hR27.mod m
                exact does_v (v := (I x32)) (wanted_none _ rfl _) (rv_load1 Try.underlying3 rfl e31 (hR27.at hx33 hi34).int) rfl) ?_
            refine all_cons (by
                intro ρ σm m hoff hdep
                have e1 : look 49 ρ 1 = (Sl ab_1 b_1 cb_1) := look_off (hoff 1 rfl) rfl
                exact does_v (v := (Sl ab_1 b_1 cb_1)) (wanted_none _ rfl _) (rv_move e1) rfl) ?_
            refine all_cons (by
                intro ρ σm m hoff hdep
                have e8 : look 49 ρ 8 = (I s24.2) := look_off (hoff 8 rfl) rfl
                exact does_v (v := (I s24.2)) (wanted_none _ rfl _) (rv_move e8) rfl) ?_
            refine all_cons (by
                intro ρ σm m hoff hdep
                have e33 : look 49 ρ 33 = (Sl ab_1 b_1 cb_1) := hdep 5 rfl rfl 33 rfl
                have e34 : look 49 ρ 34 = (I s24.2) := hdep 6 rfl rfl 34 rfl
                exact does_v (v := (pt b40 o41)) (wanted_none _ rfl _) (rv_ix Try.underlying24 ti3 e33 e34 hi39) rfl) ?_
            refine all_cons (by
                intro ρ σm m hoff hdep
                have e35 : look 49 ρ 35 = (pt b40 o41) := hdep 7 rfl rfl 35 rfl
                replace hR28 := hR28.mod m
                exact does_v (v := (I x37)) (wanted_none _ rfl _) (rv_load1 Try.underlying3 rfl e35 (hR28.at hx38 hi39).int) rfl) ?_
            refine all_cons (by
                intro ρ σm m hoff hdep
                have e0 : look 49 ρ 0 = (Sl aa_0 a_0 ca_0) := look_off (hoff 0 rfl) rfl
                exact does_v (v := (Sl aa_0 a_0 ca_0)) (wanted_none _ rfl _) (rv_move e0) rfl) ?_
            refine all_cons (by
                intro ρ σm m hoff hdep
                have e8 : look 49 ρ 8 = (I s24.2) := look_off (hoff 8 rfl) rfl
                exact does_v (v := (I s24.2)) (wanted_none _ rfl _) (rv_move e8) rfl) ?_
            refine all_cons (by
                intro ρ σm m hoff hdep
                have e37 : look 49 ρ 37 = (Sl aa_0 a_0 ca_0) := hdep 9 rfl rfl 37 rfl
                have e38 : look 49 ρ 38 = (I s24.2) := hdep 10 rfl rfl 38 rfl
                exact does_v (v := (pt b45 o46)) (wanted_none _ rfl _) (rv_ix Try.underlying24 ti3 e37 e38 hi44) rfl) ?_
            refine all_cons (by
                intro ρ σm m hoff hdep
                have e39 : look 49 ρ 39 = (pt b45 o46) := hdep 11 rfl rfl 39 rfl
                replace hR27 := hR27.mod m
                exact does_v (v := (I x42)) (wanted_none _ rfl _) (rv_load1 Try.underlying3 rfl e39 (hR27.at hx43 hi44).int) rfl) ?_
            refine all_cons (by
                intro ρ σm m hoff hdep
                have e36 : look 49 ρ 36 = (I x37) := hdep 8 rfl rfl 36 rfl
                have e40 : look 49 ρ 40 = (I x42) := hdep 12 rfl rfl 40 rfl
                exact does_v (v := (I (w64 (x37 - x42)))) (wanted_none _ rfl _) (rv_sub (a := x37) (b := x42) e36 e40) rfl) ?_
            refine all_cons (by
                intro ρ σm m hoff hdep
                have e2 : look 49 ρ 2 = (I part_2) := look_off (hoff 2 rfl) rfl
                exact does_v (v := (I part_2)) (wanted_none _ rfl _) (rv_move e2) rfl) ?_
            refine all_cons (by
                intro ρ σm m hoff hdep
                have e41 : look 49 ρ 41 = (I (w64 (x37 - x42))) := hdep 13 rfl rfl 41 rfl
                have e42 : look 49 ρ 42 = (I part_2) := hdep 14 rfl rfl 42 rfl
                exact does_v (v := (I (w64 ((w64 (x37 - x42)) * part_2)))) (wanted_none _ rfl _) (rv_mul (a := (w64 (x37 - x42))) (b := part_2) e41 e42) rfl) ?_
            refine all_cons (by
                intro ρ σm m hoff hdep
                have e43 : look 49 ρ 43 = (I (w64 ((w64 (x37 - x42)) * part_2))) := hdep 15 rfl rfl 43 rfl
                have hKs : σ26.size ≤ σm.size := m.size
                exact does_call (wanted_none _ rfl _) (c_impl_divideDown  hx48) (by show [look 49 ρ 43, (I 1000)] = _; rw [e43]) (by rintro v σ2 m2 rfl; exact rfl)) ?_
            refine all_cons (by
                intro ρ σm m hoff hdep
                have e32 : look 49 ρ 32 = (I x32) := hdep 4 rfl rfl 32 rfl
                have e44 : look 49 ρ 44 = (I r47) := hdep 16 rfl rfl 44 rfl
                exact does_v (v := (I (w64 (x32 + r47)))) (wanted_none _ rfl _) (rv_add (a := x32) (b := r47) e32 e44) rfl) ?_
            exact all_nil
          · intro ρ σ49 m hoff hrel
            have e0 : look 49 ρ 0 = (Sl aa_0 a_0 ca_0) := look_off (hoff 0 rfl) rfl
            have e1 : look 49 ρ 1 = (Sl ab_1 b_1 cb_1) := look_off (hoff 1 rfl) rfl
            have e2 : look 49 ρ 2 = (I part_2) := look_off (hoff 2 rfl) rfl
            have e7 : look 49 ρ 7 = (pt b18 0) := look_off (hoff 7 rfl) rfl
            have e25 : look 49 ρ 25 = (I s24.2) := look_off (hoff 25 rfl) rfl
            have e28 : look 49 ρ 28 = (I s24.2) := hrel 0 rfl 28 rfl
            have e45 : look 49 ρ 45 = (I (w64 (x32 + r47))) := hrel 17 rfl 45 rfl
            replace hR27 := hR27.mod m
            replace hR28 := hR28.mod m
            replace hB30 := hB30.mod0 m
            replace hK := hK.none m
            rw [fr_lookL (L := [(0, (Sl aa_0 a_0 ca_0)), (1, (Sl ab_1 b_1 cb_1)), (2, (I part_2)), (7, (pt b18 0)), (25, (I s24.2)), (28, (I s24.2)), (45, (I (w64 (x32 + r47))))]) ⟨e0, e1, e2, e7, e25, e28, e45, trivial⟩]
            clear hoff hrel m e0 e1 e2 e7 e25 e28 e45
            obtain ⟨x50, hx51, h'⟩ := bind_some h
            clear h
            have h := h'; clear h'
            have hl52 := gidx_lt hx51 hl29
            refine st (v := (pt b18 (0 + s24.2.toNat * 1))) (rv_indexAddr_array Try.underlying78 ti3 rfl rfl hl52.1 hl52.2) ?_
            have hl57 := gidx_lt hx51 hl29
            refine st_store_box (vs := [(I (w64 (x32 + r47)))]) ti3 hB30 rfl rfl rfl rfl (by rw [List.length_map, hl29]; simp; omega) (by simp [plain]) ?_
            intro σ53 m54 hB56 hs55; clear hs55
            replace hR27 := hR27.mod m54
            replace hR28 := hR28.mod m54
            replace hK := hK.some m54 hge19
            replace hB56 := Bx.cast (cs' := (List.map I (s24.1.set s24.2.toNat (w64 (x32 + r47))))) hB56 (arr_set _ _ _)
            clear hB30
            refine w_end ?_
            refine q_blk ?_
            refine q_then ?_
            refine rg ?_
            refine st (v := (I (w64 (s24.2 + 1)))) (rv_add (a := s24.2) (b := 1) rfl rfl) ?_
            refine st (v := (I (w64 (s24.2 + 1)))) (rv_move rfl) ?_
            refine w_end ?_
            refine q_then ?_
            obtain rfl := Option.some.inj h
            exact ⟨_, rfl, _, σ53, fr_join ⟨rfl, rfl, rfl, rfl, rfl, trivial⟩, rfl, hK, hR27, hR28, (set_len hl29), hB56⟩
        · replace h := bif_f hb31 h
          refine c_exit ?_
          refine q_then_x ?_
          refine q_then_x ?_
          refine q_blk_hit ?_
          obtain rfl := Option.some.inj h
          obtain rfl := hres _ rfl
          exact ⟨rfl, _, σ26, fr_join ⟨rfl, trivial⟩, rfl, hK, hl29, hB30⟩
      · clear hj
        have h := h'
        clear h'
        rintro e a w ⟨rfl, ρ, σ58, rfl, rfl, hK, hl59, hB60⟩
        refine q_then ?_
        refine c_seq ?_
        refine rg ?_
        have hO61 := bx_arr (el := σ0.size) hB60 hge19 hl59
        refine st (v := (Sl (some ⟨b18, 0, none⟩) o23 4)) (rv_slice_arrL Try.underlying78 ti3 (by decide) rfl hl59) ?_
        refine st (v := (Sl (some ⟨b18, 0, none⟩) o23 4)) (rv_assign rfl) ?_
        refine w_end ?_
        refine q_then ?_
        refine c_ret ?_
        obtain rfl := Option.some.inj h
        exact bodyPost_ret (v := (Sl (some ⟨b18, 0, none⟩) o23 4)) (results_fr1 Try.results36 rfl _) rfl ⟨_, σ58, rfl, rfl, hK, (some ⟨b18, 0, none⟩), 4, rfl, hO61⟩

end Go.Vs
