/- The functions compute what their models say. -/
import Derived.Test.YtaknnhnckdifiabAbC2
set_option linter.unusedVariables false
set_option linter.unusedSimpArgs false
set_option maxRecDepth 20000
namespace Go.Vs
open Go Go.Proofs
attribute [local irreducible] Code.wp wpList wpQuiet Calls

theorem c_laws_equalItems {σ0 : St} {a_0 : List (Int × (List Int) × Int)} {b_1 : List (Int × (List Int) × Int)} {aa_0 : Option Addr} {ca_0 : Nat} (hRa_0 : RS 0 σ0 (Sl aa_0 a_0 ca_0) a_0) {ab_1 : Option Addr} {cb_1 : Nat} (hRb_1 : RS 0 σ0 (Sl ab_1 b_1 cb_1) b_1) {r : Bool} (h : M.laws_equalItems a_0 b_1 = some r) :
    Cal Try.prog 18 [(Sl aa_0 a_0 ca_0), (Sl ab_1 b_1 cb_1)] none σ0 (fun v σ' => v = (B r)) := by
  refine ⟨⟨_, _, Try.func18, rfl, rfl⟩, ?_⟩
  refine enter (n := 55) Try.func18 rfl rfl rfl ?_
  unfold M.laws_equalItems at h
  have hK : Mod none σ0 σ0 := Mod.refl _ _
  refine c_seq ?_
  refine rg ?_
  refine st (v := (B false)) (rv_assign rfl) ?_
  refine w_end ?_
  refine q_then ?_
  refine c_seq ?_
  refine c_seq ?_
  refine rg ?_
  refine st (v := (Sl aa_0 a_0 ca_0)) (rv_move rfl) ?_
  refine st (v := (I (a_0.length : Int))) (rv_len Try.underlying23 rfl) ?_
  refine st (v := (Sl ab_1 b_1 cb_1)) (rv_move rfl) ?_
  refine st (v := (I (b_1.length : Int))) (rv_len Try.underlying23 rfl) ?_
  refine st (v := (B ((a_0.length : Int) != (b_1.length : Int)))) (rv_neq (a := (a_0.length : Int)) (b := (b_1.length : Int)) rfl rfl) ?_
  refine w_end ?_
  refine q_then ?_
  refine cd_cond ((a_0.length : Int) != (b_1.length : Int)) rfl (fun hb1 => ?_) (fun hb1 => ?_)
  · replace h := bif_t hb1 h
    refine c_seq ?_
    refine rg ?_
    refine st (v := (B false)) (rv_assign rfl) ?_
    refine w_end ?_
    refine q_then ?_
    refine c_ret ?_
    refine q_then_r ?_
    obtain rfl := Option.some.inj h
    exact bodyPost_ret (v := (B false)) (results_fr1 Try.results18 rfl _) rfl ⟨_, σ0, rfl, rfl, hK, rfl⟩
  · replace h := bif_f hb1 h
    refine c_skip ?_
    refine q_then ?_
    refine c_seq ?_
    refine c_seq ?_
    refine rg ?_
    refine st (v := (I 0)) (rv_assign rfl) ?_
    refine w_end ?_
    refine q_then ?_
    obtain ⟨o2, hj, h'⟩ := bind_some h
    clear h
    refine c_cut (fun e a w => (∃ t, o2 = (.inl t) ∧ e = .normal ∧ ∃ (ρ : Nat → Value) (σ : St), a = fr 55 (updL ρ []) ∧ w = σ.w ∧ Mod none σ0 σ) ∨ (∃ t, o2 = (.inr t) ∧ e = .ret ∧ ∃ (ρ : Nat → Value) (σ : St), a = fr 55 (updL ρ [(4, (B t))]) ∧ w = σ.w ∧ Mod none σ0 σ)) ?_ ?_
    · clear h'
      rename _ = some o2 => h
      refine c_blk ?_
      refine wp_loopM _ h (fun s3 a w => ∃ (ρ : Nat → Value) (σ : St), a = fr 55 (updL ρ [(0, (Sl aa_0 a_0 ca_0)), (1, (Sl ab_1 b_1 cb_1)), (5, (I s3))]) ∧ w = σ.w ∧ Mod none σ0 σ ∧ RS 0 σ (Sl aa_0 a_0 ca_0) a_0 ∧ RS 0 σ (Sl ab_1 b_1 cb_1) b_1) ⟨_, σ0, fr_join ⟨rfl, rfl, rfl, trivial⟩, rfl, hK, hRa_0, hRb_1⟩ ?_
      clear h
      rintro s3 a w o ⟨ρ, σ5, rfl, rfl, hK, hR6, hR7⟩ h hres
      refine c_seq ?_
      refine c_seq ?_
      refine rg ?_
      refine st (v := (I s3)) (rv_move rfl) ?_
      refine st (v := (Sl aa_0 a_0 ca_0)) (rv_move rfl) ?_
      refine st (v := (I (a_0.length : Int))) (rv_len Try.underlying23 rfl) ?_
      refine st (v := (B (decide (s3 < (a_0.length : Int))))) (rv_lss (a := s3) (b := (a_0.length : Int)) rfl rfl) ?_
      refine w_end ?_
      refine q_then ?_
      refine cd_cond (decide (s3 < (a_0.length : Int))) rfl (fun hb8 => ?_) (fun hb8 => ?_)
      · replace h := bif_t hb8 h
        refine c_skip ?_
        refine q_then ?_
        refine c_seq ?_
        refine c_blk ?_
        refine c_seq ?_
        obtain ⟨o9, hj, h'⟩ := bind_some h
        clear h
        refine c_cut (fun e a w => e = .normal ∧ ∃ (ρ : Nat → Value) (σ : St), a = fr 55 (updL ρ [(0, (Sl aa_0 a_0 ca_0)), (1, (Sl ab_1 b_1 cb_1)), (5, (I s3)), (54, (B o9))]) ∧ w = σ.w ∧ Mod none σ0 σ ∧ RS 0 σ (Sl aa_0 a_0 ca_0) a_0 ∧ RS 0 σ (Sl ab_1 b_1 cb_1) b_1) ?_ ?_
        · clear h'
          rename _ = some o9 => h
          obtain ⟨x10, hx11, h'⟩ := bind_some h
          clear h
          have h := h'; clear h'
          obtain ⟨b13, o14, hi12, -⟩ := hR6.ix hx11
          obtain ⟨x15, hx16, h'⟩ := bind_some h
          clear h
          have h := h'; clear h'
          obtain ⟨b18, o19, hi17, -⟩ := hR7.ix hx16
          rcases Bool.eq_false_or_eq_true (x10.1 != x15.1) with hb20 | hb20
          · replace h := bif_t hb20 h
            refine rg_monoL (σ := σ5) 35 [eqv (Sl aa_0 a_0 ca_0), eqv (I s3), eqv (pt b13 o14), eqv (pt b13 (o14 + 0)), eqv (I x10.1), eqv (Sl ab_1 b_1 cb_1), eqv (I s3), eqv (pt b18 o19), eqv (pt b18 (o19 + 0)), eqv (I x15.1), eqv (B (x10.1 != x15.1)), eqv (B (x10.1 != x15.1)), eqv undef, eqv undef, eqv undef, eqv undef, eqv undef, eqv undef, eqv undef, eqv undef, eqv undef, eqv undef, eqv undef, eqv (B true), eqv (B true), eqv undef, eqv undef, eqv undef, eqv undef, eqv undef, eqv undef, eqv undef, eqv undef, eqv undef, eqv undef] (by kernel_rfl) (by kernel_rfl) (mono_cons mono_eqv (mono_cons mono_eqv (mono_cons mono_eqv (mono_cons mono_eqv (mono_cons mono_eqv (mono_cons mono_eqv (mono_cons mono_eqv (mono_cons mono_eqv (mono_cons mono_eqv (mono_cons mono_eqv (mono_cons mono_eqv (mono_cons mono_eqv (mono_cons mono_eqv (mono_cons mono_eqv (mono_cons mono_eqv (mono_cons mono_eqv (mono_cons mono_eqv (mono_cons mono_eqv (mono_cons mono_eqv (mono_cons mono_eqv (mono_cons mono_eqv (mono_cons mono_eqv (mono_cons mono_eqv (mono_cons mono_eqv (mono_cons mono_eqv (mono_cons mono_eqv (mono_cons mono_eqv (mono_cons mono_eqv (mono_cons mono_eqv (mono_cons mono_eqv (mono_cons mono_eqv (mono_cons mono_eqv (mono_cons mono_eqv (mono_cons mono_eqv (mono_cons mono_eqv (mono_nil)))))))))))))))))))))))))))))))))))) ?_ ?_
            · refine all_cons (by
                  intro ρ σm m hoff hdep
                  have e0 : look 55 ρ 0 = (Sl aa_0 a_0 ca_0) := look_off (hoff 0 rfl) rfl
                  exact does_v (v := (Sl aa_0 a_0 ca_0)) (wanted_none _ rfl _) (rv_move e0) rfl) ?_
              refine all_cons (by
                  intro ρ σm m hoff hdep
                  have e5 : look 55 ρ 5 = (I s3) := look_off (hoff 5 rfl) rfl
                  exact does_v (v := (I s3)) (wanted_none _ rfl _) (rv_move e5) rfl) ?_
              refine all_cons (by
                  intro ρ σm m hoff hdep
                  have e17 : look 55 ρ 17 = (Sl aa_0 a_0 ca_0) := hdep 0 rfl rfl 17 rfl
                  have e18 : look 55 ρ 18 = (I s3) := hdep 1 rfl rfl 18 rfl
                  exact does_v (v := (pt b13 o14)) (wanted_none _ rfl _) (rv_ix Try.underlying23 ti26 e17 e18 hi12) rfl) ?_
              refine all_cons (by
                  intro ρ σm m hoff hdep
                  have e19 : look 55 ρ 19 = (pt b13 o14) := hdep 2 rfl rfl 19 rfl
                  exact does_v (v := (pt b13 (o14 + 0))) (wanted_none _ rfl _) (rv_fieldAddr (off := 0) (ft := 3) Try.underlying26 rfl ti3 rfl e19) rfl) ?_
              refine all_cons (by
                  intro ρ σm m hoff hdep
                  have e20 : look 55 ρ 20 = (pt b13 (o14 + 0)) := hdep 3 rfl rfl 20 rfl
                  replace hR6 := hR6.mod m
                  exact does_v (v := (I x10.1)) (wanted_none _ rfl _) (rv_load1 Try.underlying3 rfl e20 (hR6.at hx11 hi12).fst.int) rfl) ?_
              refine all_cons (by
                  intro ρ σm m hoff hdep
                  have e1 : look 55 ρ 1 = (Sl ab_1 b_1 cb_1) := look_off (hoff 1 rfl) rfl
                  exact does_v (v := (Sl ab_1 b_1 cb_1)) (wanted_none _ rfl _) (rv_move e1) rfl) ?_
              refine all_cons (by
                  intro ρ σm m hoff hdep
                  have e5 : look 55 ρ 5 = (I s3) := look_off (hoff 5 rfl) rfl
                  exact does_v (v := (I s3)) (wanted_none _ rfl _) (rv_move e5) rfl) ?_
              refine all_cons (by
                  intro ρ σm m hoff hdep
                  have e22 : look 55 ρ 22 = (Sl ab_1 b_1 cb_1) := hdep 5 rfl rfl 22 rfl
                  have e23 : look 55 ρ 23 = (I s3) := hdep 6 rfl rfl 23 rfl
                  exact does_v (v := (pt b18 o19)) (wanted_none _ rfl _) (rv_ix Try.underlying23 ti26 e22 e23 hi17) rfl) ?_
              refine all_cons (by
                  intro ρ σm m hoff hdep
                  have e24 : look 55 ρ 24 = (pt b18 o19) := hdep 7 rfl rfl 24 rfl
                  exact does_v (v := (pt b18 (o19 + 0))) (wanted_none _ rfl _) (rv_fieldAddr (off := 0) (ft := 3) Try.underlying26 rfl ti3 rfl e24) rfl) ?_
              refine all_cons (by
                  intro ρ σm m hoff hdep
                  have e25 : look 55 ρ 25 = (pt b18 (o19 + 0)) := hdep 8 rfl rfl 25 rfl
                  replace hR7 := hR7.mod m
                  exact does_v (v := (I x15.1)) (wanted_none _ rfl _) (rv_load1 Try.underlying3 rfl e25 (hR7.at hx16 hi17).fst.int) rfl) ?_
              refine all_cons (by
                  intro ρ σm m hoff hdep
                  have e21 : look 55 ρ 21 = (I x10.1) := hdep 4 rfl rfl 21 rfl
                  have e26 : look 55 ρ 26 = (I x15.1) := hdep 9 rfl rfl 26 rfl
                  exact does_v (v := (B (x10.1 != x15.1))) (wanted_none _ rfl _) (rv_neq (a := x10.1) (b := x15.1) e21 e26) rfl) ?_
              refine all_cons (by
                  intro ρ σm m hoff hdep
                  have e27 : look 55 ρ 27 = (B (x10.1 != x15.1)) := hdep 10 rfl rfl 27 rfl
                  exact does_v (v := (B (x10.1 != x15.1))) (wanted_none _ rfl _) (rv_move e27) rfl) ?_
              refine all_cons (by
                  intro ρ σm m hoff hdep
                  have e28 : look 55 ρ 28 = (B (x10.1 != x15.1)) := hdep 11 rfl rfl 28 rfl
                  exact does_skip (wanted_no rfl (yv_of rfl (e28.trans (congrArg B hb20)))) rfl) ?_
              refine all_cons (by
                  intro ρ σm m hoff hdep
                  have e28 : look 55 ρ 28 = (B (x10.1 != x15.1)) := hdep 11 rfl rfl 28 rfl
                  exact does_skip (wanted_no rfl (yv_of rfl (e28.trans (congrArg B hb20)))) rfl) ?_
              refine all_cons (by
                  intro ρ σm m hoff hdep
                  have e28 : look 55 ρ 28 = (B (x10.1 != x15.1)) := hdep 11 rfl rfl 28 rfl
                  exact does_skip (wanted_no rfl (yv_of rfl (e28.trans (congrArg B hb20)))) rfl) ?_
              refine all_cons (by
                  intro ρ σm m hoff hdep
                  have e28 : look 55 ρ 28 = (B (x10.1 != x15.1)) := hdep 11 rfl rfl 28 rfl
                  exact does_skip (wanted_no rfl (yv_of rfl (e28.trans (congrArg B hb20)))) rfl) ?_
              refine all_cons (by
                  intro ρ σm m hoff hdep
                  have e28 : look 55 ρ 28 = (B (x10.1 != x15.1)) := hdep 11 rfl rfl 28 rfl
                  exact does_skip (wanted_no rfl (yv_of rfl (e28.trans (congrArg B hb20)))) rfl) ?_
              refine all_cons (by
                  intro ρ σm m hoff hdep
                  have e28 : look 55 ρ 28 = (B (x10.1 != x15.1)) := hdep 11 rfl rfl 28 rfl
                  exact does_skip (wanted_no rfl (yv_of rfl (e28.trans (congrArg B hb20)))) rfl) ?_
              refine all_cons (by
                  intro ρ σm m hoff hdep
                  have e28 : look 55 ρ 28 = (B (x10.1 != x15.1)) := hdep 11 rfl rfl 28 rfl
                  exact does_skip (wanted_no rfl (yv_of rfl (e28.trans (congrArg B hb20)))) rfl) ?_
              refine all_cons (by
                  intro ρ σm m hoff hdep
                  have e28 : look 55 ρ 28 = (B (x10.1 != x15.1)) := hdep 11 rfl rfl 28 rfl
                  exact does_skip (wanted_no rfl (yv_of rfl (e28.trans (congrArg B hb20)))) rfl) ?_
              refine all_cons (by
                  intro ρ σm m hoff hdep
                  have e28 : look 55 ρ 28 = (B (x10.1 != x15.1)) := hdep 11 rfl rfl 28 rfl
                  exact does_skip (wanted_no rfl (yv_of rfl (e28.trans (congrArg B hb20)))) rfl) ?_
              refine all_cons (by
                  intro ρ σm m hoff hdep
                  have e28 : look 55 ρ 28 = (B (x10.1 != x15.1)) := hdep 11 rfl rfl 28 rfl
                  exact does_skip (wanted_no rfl (yv_of rfl (e28.trans (congrArg B hb20)))) rfl) ?_
              refine all_cons (by
                  intro ρ σm m hoff hdep
                  have e28 : look 55 ρ 28 = (B (x10.1 != x15.1)) := hdep 11 rfl rfl 28 rfl
                  exact does_skip (wanted_no rfl (yv_of rfl (e28.trans (congrArg B hb20)))) rfl) ?_
              refine all_cons (by
                  intro ρ σm m hoff hdep
                  have e28 : look 55 ρ 28 = (B (x10.1 != x15.1)) := hdep 11 rfl rfl 28 rfl
                  exact does_v (v := (B true)) (wanted_none _ rfl _) (rv_pick_t (e28.trans (congrArg B hb20)) rfl) rfl) ?_
              refine all_cons (by
                  intro ρ σm m hoff hdep
                  have e40 : look 55 ρ 40 = (B true) := hdep 23 rfl rfl 40 rfl
                  exact does_v (v := (B true)) (wanted_none _ rfl _) (rv_move e40) rfl) ?_
              refine all_cons (by
                  intro ρ σm m hoff hdep
                  have e41 : look 55 ρ 41 = (B true) := hdep 24 rfl rfl 41 rfl
                  exact does_skip (wanted_no rfl (yv_of rfl e41)) rfl) ?_
              refine all_cons (by
                  intro ρ σm m hoff hdep
                  have e41 : look 55 ρ 41 = (B true) := hdep 24 rfl rfl 41 rfl
                  exact does_skip (wanted_no rfl (yv_of rfl e41)) rfl) ?_
              refine all_cons (by
                  intro ρ σm m hoff hdep
                  have e41 : look 55 ρ 41 = (B true) := hdep 24 rfl rfl 41 rfl
                  exact does_skip (wanted_no rfl (yv_of rfl e41)) rfl) ?_
              refine all_cons (by
                  intro ρ σm m hoff hdep
                  have e41 : look 55 ρ 41 = (B true) := hdep 24 rfl rfl 41 rfl
                  exact does_skip (wanted_no rfl (yv_of rfl e41)) rfl) ?_
              refine all_cons (by
                  intro ρ σm m hoff hdep
                  have e41 : look 55 ρ 41 = (B true) := hdep 24 rfl rfl 41 rfl
                  exact does_skip (wanted_no rfl (yv_of rfl e41)) rfl) ?_
              refine all_cons (by
                  intro ρ σm m hoff hdep
                  have e41 : look 55 ρ 41 = (B true) := hdep 24 rfl rfl 41 rfl
                  exact does_skip (wanted_no rfl (yv_of rfl e41)) rfl) ?_
              refine all_cons (by
                  intro ρ σm m hoff hdep
                  have e41 : look 55 ρ 41 = (B true) := hdep 24 rfl rfl 41 rfl
                  exact does_skip (wanted_no rfl (yv_of rfl e41)) rfl) ?_
              refine all_cons (by
                  intro ρ σm m hoff hdep
                  have e41 : look 55 ρ 41 = (B true) := hdep 24 rfl rfl 41 rfl
                  exact does_skip (wanted_no rfl (yv_of rfl e41)) rfl) ?_
              refine all_cons (by
                  intro ρ σm m hoff hdep
                  have e41 : look 55 ρ 41 = (B true) := hdep 24 rfl rfl 41 rfl
                  exact does_skip (wanted_no rfl (yv_of rfl e41)) rfl) ?_
              refine all_cons (by
                  intro ρ σm m hoff hdep
                  have e41 : look 55 ρ 41 = (B true) := hdep 24 rfl rfl 41 rfl
                  exact does_skip (wanted_no rfl (yv_of rfl e41)) rfl) ?_
              exact all_nil
            · intro ρ σ21 m hoff hrel
              have e0 : look 55 ρ 0 = (Sl aa_0 a_0 ca_0) := look_off (hoff 0 rfl) rfl
              have e1 : look 55 ρ 1 = (Sl ab_1 b_1 cb_1) := look_off (hoff 1 rfl) rfl
              have e5 : look 55 ρ 5 = (I s3) := look_off (hoff 5 rfl) rfl
              have e41 : look 55 ρ 41 = (B true) := hrel 24 rfl 41 rfl
              have e46 : look 55 ρ 46 = undef := hrel 29 rfl 46 rfl
              have e51 : look 55 ρ 51 = undef := hrel 34 rfl 51 rfl
              replace hR6 := hR6.mod m
              replace hR7 := hR7.mod m
              replace hK := hK.none m
              rw [fr_lookL (L := [(0, (Sl aa_0 a_0 ca_0)), (1, (Sl ab_1 b_1 cb_1)), (5, (I s3)), (41, (B true)), (46, undef), (51, undef)]) ⟨e0, e1, e5, e41, e46, e51, trivial⟩]
              clear hoff hrel m e0 e1 e5 e41 e46 e51
              refine st_skip rfl ?_
              refine st_skip rfl ?_
              refine st (v := (B true)) (rv_pick_t rfl rfl) ?_
              refine w_end ?_
              obtain rfl := Option.some.inj h
              exact ⟨rfl, _, σ21, fr_join ⟨rfl, rfl, rfl, rfl, trivial⟩, rfl, hK, hR6, hR7⟩
          · replace h := bif_f hb20 h
            obtain ⟨x22, hx23, h'⟩ := bind_some h
            clear h
            have h := h'; clear h'
            obtain ⟨b25, o26, hi24, -⟩ := hR6.ix hx23
            obtain ⟨x27, hx28, h'⟩ := bind_some h
            clear h
            have h := h'; clear h'
            obtain ⟨b30, o31, hi29, -⟩ := hR7.ix hx28
            rcases Bool.eq_false_or_eq_true (x22.2.2 != x27.2.2) with hb32 | hb32
            · replace h := bif_t hb32 h
              refine rg_monoL (σ := σ5) 35 [eqv (Sl aa_0 a_0 ca_0), eqv (I s3), eqv (pt b13 o14), eqv (pt b13 (o14 + 0)), eqv (I x10.1), eqv (Sl ab_1 b_1 cb_1), eqv (I s3), eqv (pt b18 o19), eqv (pt b18 (o19 + 0)), eqv (I x15.1), eqv (B (x10.1 != x15.1)), eqv (B (x10.1 != x15.1)), eqv (Sl aa_0 a_0 ca_0), eqv (I s3), eqv (pt b25 o26), eqv (pt b25 (o26 + 2)), eqv (I x22.2.2), eqv (Sl ab_1 b_1 cb_1), eqv (I s3), eqv (pt b30 o31), eqv (pt b30 (o31 + 2)), eqv (I x27.2.2), eqv (B (x22.2.2 != x27.2.2)), eqv (B (x22.2.2 != x27.2.2)), eqv (B (x22.2.2 != x27.2.2)), eqv undef, eqv undef, eqv undef, eqv undef, eqv undef, eqv undef, eqv undef, eqv undef, eqv undef, eqv undef] (by kernel_rfl) (by kernel_rfl) (mono_cons mono_eqv (mono_cons mono_eqv (mono_cons mono_eqv (mono_cons mono_eqv (mono_cons mono_eqv (mono_cons mono_eqv (mono_cons mono_eqv (mono_cons mono_eqv (mono_cons mono_eqv (mono_cons mono_eqv (mono_cons mono_eqv (mono_cons mono_eqv (mono_cons mono_eqv (mono_cons mono_eqv (mono_cons mono_eqv (mono_cons mono_eqv (mono_cons mono_eqv (mono_cons mono_eqv (mono_cons mono_eqv (mono_cons mono_eqv (mono_cons mono_eqv (mono_cons mono_eqv (mono_cons mono_eqv (mono_cons mono_eqv (mono_cons mono_eqv (mono_cons mono_eqv (mono_cons mono_eqv (mono_cons mono_eqv (mono_cons mono_eqv (mono_cons mono_eqv (mono_cons mono_eqv (mono_cons mono_eqv (mono_cons mono_eqv (mono_cons mono_eqv (mono_cons mono_eqv (mono_nil)))))))))))))))))))))))))))))))))))) ?_ ?_
              · refine all_cons (by
                    intro ρ σm m hoff hdep
                    have e0 : look 55 ρ 0 = (Sl aa_0 a_0 ca_0) := look_off (hoff 0 rfl) rfl
                    exact does_v (v := (Sl aa_0 a_0 ca_0)) (wanted_none _ rfl _) (rv_move e0) rfl) ?_
                refine all_cons (by
                    intro ρ σm m hoff hdep
                    have e5 : look 55 ρ 5 = (I s3) := look_off (hoff 5 rfl) rfl
                    exact does_v (v := (I s3)) (wanted_none _ rfl _) (rv_move e5) rfl) ?_
                refine all_cons (by
                    intro ρ σm m hoff hdep
                    have e17 : look 55 ρ 17 = (Sl aa_0 a_0 ca_0) := hdep 0 rfl rfl 17 rfl
                    have e18 : look 55 ρ 18 = (I s3) := hdep 1 rfl rfl 18 rfl
                    exact does_v (v := (pt b13 o14)) (wanted_none _ rfl _) (rv_ix Try.underlying23 ti26 e17 e18 hi12) rfl) ?_
                refine all_cons (by
                    intro ρ σm m hoff hdep
                    have e19 : look 55 ρ 19 = (pt b13 o14) := hdep 2 rfl rfl 19 rfl
                    exact does_v (v := (pt b13 (o14 + 0))) (wanted_none _ rfl _) (rv_fieldAddr (off := 0) (ft := 3) Try.underlying26 rfl ti3 rfl e19) rfl) ?_
                refine all_cons (by
                    intro ρ σm m hoff hdep
                    have e20 : look 55 ρ 20 = (pt b13 (o14 + 0)) := hdep 3 rfl rfl 20 rfl
                    replace hR6 := hR6.mod m
                    exact does_v (v := (I x10.1)) (wanted_none _ rfl _) (rv_load1 Try.underlying3 rfl e20 (hR6.at hx11 hi12).fst.int) rfl) ?_
                refine all_cons (by
                    intro ρ σm m hoff hdep
                    have e1 : look 55 ρ 1 = (Sl ab_1 b_1 cb_1) := look_off (hoff 1 rfl) rfl
                    exact does_v (v := (Sl ab_1 b_1 cb_1)) (wanted_none _ rfl _) (rv_move e1) rfl) ?_
                refine all_cons (by
                    intro ρ σm m hoff hdep
                    have e5 : look 55 ρ 5 = (I s3) := look_off (hoff 5 rfl) rfl
                    exact does_v (v := (I s3)) (wanted_none _ rfl _) (rv_move e5) rfl) ?_
                refine all_cons (by
                    intro ρ σm m hoff hdep
                    have e22 : look 55 ρ 22 = (Sl ab_1 b_1 cb_1) := hdep 5 rfl rfl 22 rfl
                    have e23 : look 55 ρ 23 = (I s3) := hdep 6 rfl rfl 23 rfl
                    exact does_v (v := (pt b18 o19)) (wanted_none _ rfl _) (rv_ix Try.underlying23 ti26 e22 e23 hi17) rfl) ?_
                refine all_cons (by
                    intro ρ σm m hoff hdep
                    have e24 : look 55 ρ 24 = (pt b18 o19) := hdep 7 rfl rfl 24 rfl
                    exact does_v (v := (pt b18 (o19 + 0))) (wanted_none _ rfl _) (rv_fieldAddr (off := 0) (ft := 3) Try.underlying26 rfl ti3 rfl e24) rfl) ?_
                refine all_cons (by
                    intro ρ σm m hoff hdep
                    have e25 : look 55 ρ 25 = (pt b18 (o19 + 0)) := hdep 8 rfl rfl 25 rfl
                    replace hR7 := hR7.mod m
                    exact does_v (v := (I x15.1)) (wanted_none _ rfl _) (rv_load1 Try.underlying3 rfl e25 (hR7.at hx16 hi17).fst.int) rfl) ?_
                refine all_cons (by
                    intro ρ σm m hoff hdep
                    have e21 : look 55 ρ 21 = (I x10.1) := hdep 4 rfl rfl 21 rfl
                    have e26 : look 55 ρ 26 = (I x15.1) := hdep 9 rfl rfl 26 rfl
                    exact does_v (v := (B (x10.1 != x15.1))) (wanted_none _ rfl _) (rv_neq (a := x10.1) (b := x15.1) e21 e26) rfl) ?_
                refine all_cons (by
                    intro ρ σm m hoff hdep
                    have e27 : look 55 ρ 27 = (B (x10.1 != x15.1)) := hdep 10 rfl rfl 27 rfl
                    exact does_v (v := (B (x10.1 != x15.1))) (wanted_none _ rfl _) (rv_move e27) rfl) ?_
                refine all_cons (by
                    intro ρ σm m hoff hdep
                    have e0 : look 55 ρ 0 = (Sl aa_0 a_0 ca_0) := look_off (hoff 0 rfl) rfl
                    have e28 : look 55 ρ 28 = (B (x10.1 != x15.1)) := hdep 11 rfl rfl 28 rfl
                    exact does_v (v := (Sl aa_0 a_0 ca_0)) (wanted_yes rfl (yv_of rfl (e28.trans (congrArg B hb20)))) (rv_move e0) rfl) ?_
                refine all_cons (by
                    intro ρ σm m hoff hdep
                    have e5 : look 55 ρ 5 = (I s3) := look_off (hoff 5 rfl) rfl
                    have e28 : look 55 ρ 28 = (B (x10.1 != x15.1)) := hdep 11 rfl rfl 28 rfl
                    exact does_v (v := (I s3)) (wanted_yes rfl (yv_of rfl (e28.trans (congrArg B hb20)))) (rv_move e5) rfl) ?_
                refine all_cons (by
                    intro ρ σm m hoff hdep
                    have e29 : look 55 ρ 29 = (Sl aa_0 a_0 ca_0) := hdep 12 rfl rfl 29 rfl
                    have e30 : look 55 ρ 30 = (I s3) := hdep 13 rfl rfl 30 rfl
                    have e28 : look 55 ρ 28 = (B (x10.1 != x15.1)) := hdep 11 rfl rfl 28 rfl
                    exact does_v (v := (pt b25 o26)) (wanted_yes rfl (yv_of rfl (e28.trans (congrArg B hb20)))) (rv_ix Try.underlying23 ti26 e29 e30 hi24) rfl) ?_
                refine all_cons (by
                    intro ρ σm m hoff hdep
                    have e31 : look 55 ρ 31 = (pt b25 o26) := hdep 14 rfl rfl 31 rfl
                    have e28 : look 55 ρ 28 = (B (x10.1 != x15.1)) := hdep 11 rfl rfl 28 rfl
                    exact does_v (v := (pt b25 (o26 + 2))) (wanted_yes rfl (yv_of rfl (e28.trans (congrArg B hb20)))) (rv_fieldAddr (off := 2) (ft := 3) Try.underlying26 rfl ti3 rfl e31) rfl) ?_
                refine all_cons (by
                    intro ρ σm m hoff hdep
                    have e32 : look 55 ρ 32 = (pt b25 (o26 + 2)) := hdep 15 rfl rfl 32 rfl
                    have e28 : look 55 ρ 28 = (B (x10.1 != x15.1)) := hdep 11 rfl rfl 28 rfl
                    replace hR6 := hR6.mod m
                    exact does_v (v := (I x22.2.2)) (wanted_yes rfl (yv_of rfl (e28.trans (congrArg B hb20)))) (rv_load1 Try.underlying3 rfl e32 (hR6.at hx23 hi24).snd.snd.int) rfl) ?_
                refine all_cons (by
                    intro ρ σm m hoff hdep
                    have e1 : look 55 ρ 1 = (Sl ab_1 b_1 cb_1) := look_off (hoff 1 rfl) rfl
                    have e28 : look 55 ρ 28 = (B (x10.1 != x15.1)) := hdep 11 rfl rfl 28 rfl
                    exact does_v (v := (Sl ab_1 b_1 cb_1)) (wanted_yes rfl (yv_of rfl (e28.trans (congrArg B hb20)))) (rv_move e1) rfl) ?_
                refine all_cons (by
                    intro ρ σm m hoff hdep
                    have e5 : look 55 ρ 5 = (I s3) := look_off (hoff 5 rfl) rfl
                    have e28 : look 55 ρ 28 = (B (x10.1 != x15.1)) := hdep 11 rfl rfl 28 rfl
                    exact does_v (v := (I s3)) (wanted_yes rfl (yv_of rfl (e28.trans (congrArg B hb20)))) (rv_move e5) rfl) ?_
                refine all_cons (by
                    intro ρ σm m hoff hdep
                    have e34 : look 55 ρ 34 = (Sl ab_1 b_1 cb_1) := hdep 17 rfl rfl 34 rfl
                    have e35 : look 55 ρ 35 = (I s3) := hdep 18 rfl rfl 35 rfl
                    have e28 : look 55 ρ 28 = (B (x10.1 != x15.1)) := hdep 11 rfl rfl 28 rfl
                    exact does_v (v := (pt b30 o31)) (wanted_yes rfl (yv_of rfl (e28.trans (congrArg B hb20)))) (rv_ix Try.underlying23 ti26 e34 e35 hi29) rfl) ?_
                refine all_cons (by
                    intro ρ σm m hoff hdep
                    have e36 : look 55 ρ 36 = (pt b30 o31) := hdep 19 rfl rfl 36 rfl
                    have e28 : look 55 ρ 28 = (B (x10.1 != x15.1)) := hdep 11 rfl rfl 28 rfl
                    exact does_v (v := (pt b30 (o31 + 2))) (wanted_yes rfl (yv_of rfl (e28.trans (congrArg B hb20)))) (rv_fieldAddr (off := 2) (ft := 3) Try.underlying26 rfl ti3 rfl e36) rfl) ?_
                refine all_cons (by
                    intro ρ σm m hoff hdep
                    have e37 : look 55 ρ 37 = (pt b30 (o31 + 2)) := hdep 20 rfl rfl 37 rfl
                    have e28 : look 55 ρ 28 = (B (x10.1 != x15.1)) := hdep 11 rfl rfl 28 rfl
                    replace hR7 := hR7.mod m
                    exact does_v (v := (I x27.2.2)) (wanted_yes rfl (yv_of rfl (e28.trans (congrArg B hb20)))) (rv_load1 Try.underlying3 rfl e37 (hR7.at hx28 hi29).snd.snd.int) rfl) ?_
                refine all_cons (by
                    intro ρ σm m hoff hdep
                    have e33 : look 55 ρ 33 = (I x22.2.2) := hdep 16 rfl rfl 33 rfl
                    have e38 : look 55 ρ 38 = (I x27.2.2) := hdep 21 rfl rfl 38 rfl
                    have e28 : look 55 ρ 28 = (B (x10.1 != x15.1)) := hdep 11 rfl rfl 28 rfl
                    exact does_v (v := (B (x22.2.2 != x27.2.2))) (wanted_yes rfl (yv_of rfl (e28.trans (congrArg B hb20)))) (rv_neq (a := x22.2.2) (b := x27.2.2) e33 e38) rfl) ?_
                refine all_cons (by
                    intro ρ σm m hoff hdep
                    have e28 : look 55 ρ 28 = (B (x10.1 != x15.1)) := hdep 11 rfl rfl 28 rfl
                    have e39 : look 55 ρ 39 = (B (x22.2.2 != x27.2.2)) := hdep 22 rfl rfl 39 rfl
                    exact does_v (v := (B (x22.2.2 != x27.2.2))) (wanted_none _ rfl _) (rv_pick_f (e28.trans (congrArg B hb20)) e39) rfl) ?_
                refine all_cons (by
                    intro ρ σm m hoff hdep
                    have e40 : look 55 ρ 40 = (B (x22.2.2 != x27.2.2)) := hdep 23 rfl rfl 40 rfl
                    exact does_v (v := (B (x22.2.2 != x27.2.2))) (wanted_none _ rfl _) (rv_move e40) rfl) ?_
                refine all_cons (by
                    intro ρ σm m hoff hdep
                    have e41 : look 55 ρ 41 = (B (x22.2.2 != x27.2.2)) := hdep 24 rfl rfl 41 rfl
                    exact does_skip (wanted_no rfl (yv_of rfl (e41.trans (congrArg B hb32)))) rfl) ?_
                refine all_cons (by
                    intro ρ σm m hoff hdep
                    have e41 : look 55 ρ 41 = (B (x22.2.2 != x27.2.2)) := hdep 24 rfl rfl 41 rfl
                    exact does_skip (wanted_no rfl (yv_of rfl (e41.trans (congrArg B hb32)))) rfl) ?_
                refine all_cons (by
                    intro ρ σm m hoff hdep
                    have e41 : look 55 ρ 41 = (B (x22.2.2 != x27.2.2)) := hdep 24 rfl rfl 41 rfl
                    exact does_skip (wanted_no rfl (yv_of rfl (e41.trans (congrArg B hb32)))) rfl) ?_
                refine all_cons (by
                    intro ρ σm m hoff hdep
                    have e41 : look 55 ρ 41 = (B (x22.2.2 != x27.2.2)) := hdep 24 rfl rfl 41 rfl
                    exact does_skip (wanted_no rfl (yv_of rfl (e41.trans (congrArg B hb32)))) rfl) ?_
                refine all_cons (by
                    intro ρ σm m hoff hdep
                    have e41 : look 55 ρ 41 = (B (x22.2.2 != x27.2.2)) := hdep 24 rfl rfl 41 rfl
                    exact does_skip (wanted_no rfl (yv_of rfl (e41.trans (congrArg B hb32)))) rfl) ?_
                refine all_cons (by
                    intro ρ σm m hoff hdep
                    have e41 : look 55 ρ 41 = (B (x22.2.2 != x27.2.2)) := hdep 24 rfl rfl 41 rfl
                    exact does_skip (wanted_no rfl (yv_of rfl (e41.trans (congrArg B hb32)))) rfl) ?_
                refine all_cons (by
                    intro ρ σm m hoff hdep
                    have e41 : look 55 ρ 41 = (B (x22.2.2 != x27.2.2)) := hdep 24 rfl rfl 41 rfl
                    exact does_skip (wanted_no rfl (yv_of rfl (e41.trans (congrArg B hb32)))) rfl) ?_
                refine all_cons (by
                    intro ρ σm m hoff hdep
                    have e41 : look 55 ρ 41 = (B (x22.2.2 != x27.2.2)) := hdep 24 rfl rfl 41 rfl
                    exact does_skip (wanted_no rfl (yv_of rfl (e41.trans (congrArg B hb32)))) rfl) ?_
                refine all_cons (by
                    intro ρ σm m hoff hdep
                    have e41 : look 55 ρ 41 = (B (x22.2.2 != x27.2.2)) := hdep 24 rfl rfl 41 rfl
                    exact does_skip (wanted_no rfl (yv_of rfl (e41.trans (congrArg B hb32)))) rfl) ?_
                refine all_cons (by
                    intro ρ σm m hoff hdep
                    have e41 : look 55 ρ 41 = (B (x22.2.2 != x27.2.2)) := hdep 24 rfl rfl 41 rfl
                    exact does_skip (wanted_no rfl (yv_of rfl (e41.trans (congrArg B hb32)))) rfl) ?_
                exact all_nil
              · intro ρ σ33 m hoff hrel
                have e0 : look 55 ρ 0 = (Sl aa_0 a_0 ca_0) := look_off (hoff 0 rfl) rfl
                have e1 : look 55 ρ 1 = (Sl ab_1 b_1 cb_1) := look_off (hoff 1 rfl) rfl
                have e5 : look 55 ρ 5 = (I s3) := look_off (hoff 5 rfl) rfl
                have e41 : look 55 ρ 41 = (B (x22.2.2 != x27.2.2)) := hrel 24 rfl 41 rfl
                have e46 : look 55 ρ 46 = undef := hrel 29 rfl 46 rfl
                have e51 : look 55 ρ 51 = undef := hrel 34 rfl 51 rfl
                replace hR6 := hR6.mod m
                replace hR7 := hR7.mod m
                replace hK := hK.none m
                rw [fr_lookL (L := [(0, (Sl aa_0 a_0 ca_0)), (1, (Sl ab_1 b_1 cb_1)), (5, (I s3)), (41, (B (x22.2.2 != x27.2.2))), (46, undef), (51, undef)]) ⟨e0, e1, e5, e41, e46, e51, trivial⟩]
                clear hoff hrel m e0 e1 e5 e41 e46 e51
                refine st_skip (congrArg some hb32) ?_
                refine st_skip (congrArg some hb32) ?_
                refine st (v := (B true)) (rv_pick_t (congrArg B hb32) rfl) ?_
                refine w_end ?_
                obtain rfl := Option.some.inj h
                exact ⟨rfl, _, σ33, fr_join ⟨rfl, rfl, rfl, rfl, trivial⟩, rfl, hK, hR6, hR7⟩
            · replace h := bif_f hb32 h
              obtain ⟨x34, hx35, h'⟩ := bind_some h
              clear h
              have h := h'; clear h'
              obtain ⟨b37, o38, hi36, -⟩ := hR6.ix hx35
              obtain ⟨v42, hc43, hR41⟩ := (hR6.at hx35 hi36).snd.fst.slice
              obtain ⟨a39, c40, rfl⟩ := hR41.isSl
              obtain ⟨x44, hx45, h'⟩ := bind_some h
              clear h
              have h := h'; clear h'
              obtain ⟨b47, o48, hi46, -⟩ := hR7.ix hx45
              obtain ⟨v52, hc53, hR51⟩ := (hR7.at hx45 hi46).snd.fst.slice
              obtain ⟨a49, c50, rfl⟩ := hR51.isSl
              refine rg_monoL (σ := σ5) 35 [eqv (Sl aa_0 a_0 ca_0), eqv (I s3), eqv (pt b13 o14), eqv (pt b13 (o14 + 0)), eqv (I x10.1), eqv (Sl ab_1 b_1 cb_1), eqv (I s3), eqv (pt b18 o19), eqv (pt b18 (o19 + 0)), eqv (I x15.1), eqv (B (x10.1 != x15.1)), eqv (B (x10.1 != x15.1)), eqv (Sl aa_0 a_0 ca_0), eqv (I s3), eqv (pt b25 o26), eqv (pt b25 (o26 + 2)), eqv (I x22.2.2), eqv (Sl ab_1 b_1 cb_1), eqv (I s3), eqv (pt b30 o31), eqv (pt b30 (o31 + 2)), eqv (I x27.2.2), eqv (B (x22.2.2 != x27.2.2)), eqv (B (x22.2.2 != x27.2.2)), eqv (B (x22.2.2 != x27.2.2)), eqv (Sl aa_0 a_0 ca_0), eqv (I s3), eqv (pt b37 o38), eqv (pt b37 (o38 + 1)), eqv (Sl a39 x34.2.1 c40), eqv (Sl ab_1 b_1 cb_1), eqv (I s3), eqv (pt b47 o48), eqv (pt b47 (o48 + 1)), eqv (Sl a49 x44.2.1 c50)] (by kernel_rfl) (by kernel_rfl) (mono_cons mono_eqv (mono_cons mono_eqv (mono_cons mono_eqv (mono_cons mono_eqv (mono_cons mono_eqv (mono_cons mono_eqv (mono_cons mono_eqv (mono_cons mono_eqv (mono_cons mono_eqv (mono_cons mono_eqv (mono_cons mono_eqv (mono_cons mono_eqv (mono_cons mono_eqv (mono_cons mono_eqv (mono_cons mono_eqv (mono_cons mono_eqv (mono_cons mono_eqv (mono_cons mono_eqv (mono_cons mono_eqv (mono_cons mono_eqv (mono_cons mono_eqv (mono_cons mono_eqv (mono_cons mono_eqv (mono_cons mono_eqv (mono_cons mono_eqv (mono_cons mono_eqv (mono_cons mono_eqv (mono_cons mono_eqv (mono_cons mono_eqv (mono_cons mono_eqv (mono_cons mono_eqv (mono_cons mono_eqv (mono_cons mono_eqv (mono_cons mono_eqv (mono_cons mono_eqv (mono_nil)))))))))))))))))))))))))))))))))))) ?_ ?_
              · refine all_cons (by
                    intro ρ σm m hoff hdep
                    have e0 : look 55 ρ 0 = (Sl aa_0 a_0 ca_0) := look_off (hoff 0 rfl) rfl
                    exact does_v (v := (Sl aa_0 a_0 ca_0)) (wanted_none _ rfl _) (rv_move e0) rfl) ?_
                refine all_cons (by
                    intro ρ σm m hoff hdep
                    have e5 : look 55 ρ 5 = (I s3) := look_off (hoff 5 rfl) rfl
                    exact does_v (v := (I s3)) (wanted_none _ rfl _) (rv_move e5) rfl) ?_
                refine all_cons (by
                    intro ρ σm m hoff hdep
                    have e17 : look 55 ρ 17 = (Sl aa_0 a_0 ca_0) := hdep 0 rfl rfl 17 rfl
                    have e18 : look 55 ρ 18 = (I s3) := hdep 1 rfl rfl 18 rfl
                    exact does_v (v := (pt b13 o14)) (wanted_none _ rfl _) (rv_ix Try.underlying23 ti26 e17 e18 hi12) rfl) ?_
                refine all_cons (by
                    intro ρ σm m hoff hdep
                    have e19 : look 55 ρ 19 = (pt b13 o14) := hdep 2 rfl rfl 19 rfl
                    exact does_v (v := (pt b13 (o14 + 0))) (wanted_none _ rfl _) (rv_fieldAddr (off := 0) (ft := 3) Try.underlying26 rfl ti3 rfl e19) rfl) ?_
                refine all_cons (by
                    intro ρ σm m hoff hdep
                    have e20 : look 55 ρ 20 = (pt b13 (o14 + 0)) := hdep 3 rfl rfl 20 rfl
                    replace hR6 := hR6.mod m
                    exact does_v (v := (I x10.1)) (wanted_none _ rfl _) (rv_load1 Try.underlying3 rfl e20 (hR6.at hx11 hi12).fst.int) rfl) ?_
                refine all_cons (by
                    intro ρ σm m hoff hdep
                    have e1 : look 55 ρ 1 = (Sl ab_1 b_1 cb_1) := look_off (hoff 1 rfl) rfl
                    exact does_v (v := (Sl ab_1 b_1 cb_1)) (wanted_none _ rfl _) (rv_move e1) rfl) ?_
                refine all_cons (by
                    intro ρ σm m hoff hdep
                    have e5 : look 55 ρ 5 = (I s3) := look_off (hoff 5 rfl) rfl
                    exact does_v (v := (I s3)) (wanted_none _ rfl _) (rv_move e5) rfl) ?_
                refine all_cons (by
                    intro ρ σm m hoff hdep
                    have e22 : look 55 ρ 22 = (Sl ab_1 b_1 cb_1) := hdep 5 rfl rfl 22 rfl
                    have e23 : look 55 ρ 23 = (I s3) := hdep 6 rfl rfl 23 rfl
                    exact does_v (v := (pt b18 o19)) (wanted_none _ rfl _) (rv_ix Try.underlying23 ti26 e22 e23 hi17) rfl) ?_
                refine all_cons (by
                    intro ρ σm m hoff hdep
                    have e24 : look 55 ρ 24 = (pt b18 o19) := hdep 7 rfl rfl 24 rfl
                    exact does_v (v := (pt b18 (o19 + 0))) (wanted_none _ rfl _) (rv_fieldAddr (off := 0) (ft := 3) Try.underlying26 rfl ti3 rfl e24) rfl) ?_
                refine all_cons (by
                    intro ρ σm m hoff hdep
                    have e25 : look 55 ρ 25 = (pt b18 (o19 + 0)) := hdep 8 rfl rfl 25 rfl
                    replace hR7 := hR7.mod m
                    exact does_v (v := (I x15.1)) (wanted_none _ rfl _) (rv_load1 Try.underlying3 rfl e25 (hR7.at hx16 hi17).fst.int) rfl) ?_
                refine all_cons (by
                    intro ρ σm m hoff hdep
                    have e21 : look 55 ρ 21 = (I x10.1) := hdep 4 rfl rfl 21 rfl
                    have e26 : look 55 ρ 26 = (I x15.1) := hdep 9 rfl rfl 26 rfl
                    exact does_v (v := (B (x10.1 != x15.1))) (wanted_none _ rfl _) (rv_neq (a := x10.1) (b := x15.1) e21 e26) rfl) ?_
                refine all_cons (by
                    intro ρ σm m hoff hdep
                    have e27 : look 55 ρ 27 = (B (x10.1 != x15.1)) := hdep 10 rfl rfl 27 rfl
                    exact does_v (v := (B (x10.1 != x15.1))) (wanted_none _ rfl _) (rv_move e27) rfl) ?_
                refine all_cons (by
                    intro ρ σm m hoff hdep
                    have e0 : look 55 ρ 0 = (Sl aa_0 a_0 ca_0) := look_off (hoff 0 rfl) rfl
                    have e28 : look 55 ρ 28 = (B (x10.1 != x15.1)) := hdep 11 rfl rfl 28 rfl
                    exact does_v (v := (Sl aa_0 a_0 ca_0)) (wanted_yes rfl (yv_of rfl (e28.trans (congrArg B hb20)))) (rv_move e0) rfl) ?_
                refine all_cons (by
                    intro ρ σm m hoff hdep
                    have e5 : look 55 ρ 5 = (I s3) := look_off (hoff 5 rfl) rfl
                    have e28 : look 55 ρ 28 = (B (x10.1 != x15.1)) := hdep 11 rfl rfl 28 rfl
                    exact does_v (v := (I s3)) (wanted_yes rfl (yv_of rfl (e28.trans (congrArg B hb20)))) (rv_move e5) rfl) ?_
                refine all_cons (by
                    intro ρ σm m hoff hdep
                    have e29 : look 55 ρ 29 = (Sl aa_0 a_0 ca_0) := hdep 12 rfl rfl 29 rfl
                    have e30 : look 55 ρ 30 = (I s3) := hdep 13 rfl rfl 30 rfl
                    have e28 : look 55 ρ 28 = (B (x10.1 != x15.1)) := hdep 11 rfl rfl 28 rfl
                    exact does_v (v := (pt b25 o26)) (wanted_yes rfl (yv_of rfl (e28.trans (congrArg B hb20)))) (rv_ix Try.underlying23 ti26 e29 e30 hi24) rfl) ?_
                refine all_cons (by
                    intro ρ σm m hoff hdep
                    have e31 : look 55 ρ 31 = (pt b25 o26) := hdep 14 rfl rfl 31 rfl
                    have e28 : look 55 ρ 28 = (B (x10.1 != x15.1)) := hdep 11 rfl rfl 28 rfl
                    exact does_v (v := (pt b25 (o26 + 2))) (wanted_yes rfl (yv_of rfl (e28.trans (congrArg B hb20)))) (rv_fieldAddr (off := 2) (ft := 3) Try.underlying26 rfl ti3 rfl e31) rfl) ?_
                refine all_cons (by
                    intro ρ σm m hoff hdep
                    have e32 : look 55 ρ 32 = (pt b25 (o26 + 2)) := hdep 15 rfl rfl 32 rfl
                    have e28 : look 55 ρ 28 = (B (x10.1 != x15.1)) := hdep 11 rfl rfl 28 rfl
                    replace hR6 := hR6.mod m
                    exact does_v (v := (I x22.2.2)) (wanted_yes rfl (yv_of rfl (e28.trans (congrArg B hb20)))) (rv_load1 Try.underlying3 rfl e32 (hR6.at hx23 hi24).snd.snd.int) rfl) ?_
                refine all_cons (by
                    intro ρ σm m hoff hdep
                    have e1 : look 55 ρ 1 = (Sl ab_1 b_1 cb_1) := look_off (hoff 1 rfl) rfl
                    have e28 : look 55 ρ 28 = (B (x10.1 != x15.1)) := hdep 11 rfl rfl 28 rfl
                    exact does_v (v := (Sl ab_1 b_1 cb_1)) (wanted_yes rfl (yv_of rfl (e28.trans (congrArg B hb20)))) (rv_move e1) rfl) ?_
                refine all_cons (by
                    intro ρ σm m hoff hdep
                    have e5 : look 55 ρ 5 = (I s3) := look_off (hoff 5 rfl) rfl
                    have e28 : look 55 ρ 28 = (B (x10.1 != x15.1)) := hdep 11 rfl rfl 28 rfl
                    exact does_v (v := (I s3)) (wanted_yes rfl (yv_of rfl (e28.trans (congrArg B hb20)))) (rv_move e5) rfl) ?_
                refine all_cons (by
                    intro ρ σm m hoff hdep
                    have e34 : look 55 ρ 34 = (Sl ab_1 b_1 cb_1) := hdep 17 rfl rfl 34 rfl
                    have e35 : look 55 ρ 35 = (I s3) := hdep 18 rfl rfl 35 rfl
                    have e28 : look 55 ρ 28 = (B (x10.1 != x15.1)) := hdep 11 rfl rfl 28 rfl
                    exact does_v (v := (pt b30 o31)) (wanted_yes rfl (yv_of rfl (e28.trans (congrArg B hb20)))) (rv_ix Try.underlying23 ti26 e34 e35 hi29) rfl) ?_
                refine all_cons (by
                    intro ρ σm m hoff hdep
                    have e36 : look 55 ρ 36 = (pt b30 o31) := hdep 19 rfl rfl 36 rfl
                    have e28 : look 55 ρ 28 = (B (x10.1 != x15.1)) := hdep 11 rfl rfl 28 rfl
                    exact does_v (v := (pt b30 (o31 + 2))) (wanted_yes rfl (yv_of rfl (e28.trans (congrArg B hb20)))) (rv_fieldAddr (off := 2) (ft := 3) Try.underlying26 rfl ti3 rfl e36) rfl) ?_
                refine all_cons (by
                    intro ρ σm m hoff hdep
                    have e37 : look 55 ρ 37 = (pt b30 (o31 + 2)) := hdep 20 rfl rfl 37 rfl
                    have e28 : look 55 ρ 28 = (B (x10.1 != x15.1)) := hdep 11 rfl rfl 28 rfl
                    replace hR7 := hR7.mod m
                    exact does_v (v := (I x27.2.2)) (wanted_yes rfl (yv_of rfl (e28.trans (congrArg B hb20)))) (rv_load1 Try.underlying3 rfl e37 (hR7.at hx28 hi29).snd.snd.int) rfl) ?_
                refine all_cons (by
                    intro ρ σm m hoff hdep
                    have e33 : look 55 ρ 33 = (I x22.2.2) := hdep 16 rfl rfl 33 rfl
                    have e38 : look 55 ρ 38 = (I x27.2.2) := hdep 21 rfl rfl 38 rfl
                    have e28 : look 55 ρ 28 = (B (x10.1 != x15.1)) := hdep 11 rfl rfl 28 rfl
                    exact does_v (v := (B (x22.2.2 != x27.2.2))) (wanted_yes rfl (yv_of rfl (e28.trans (congrArg B hb20)))) (rv_neq (a := x22.2.2) (b := x27.2.2) e33 e38) rfl) ?_
                refine all_cons (by
                    intro ρ σm m hoff hdep
                    have e28 : look 55 ρ 28 = (B (x10.1 != x15.1)) := hdep 11 rfl rfl 28 rfl
                    have e39 : look 55 ρ 39 = (B (x22.2.2 != x27.2.2)) := hdep 22 rfl rfl 39 rfl
                    exact does_v (v := (B (x22.2.2 != x27.2.2))) (wanted_none _ rfl _) (rv_pick_f (e28.trans (congrArg B hb20)) e39) rfl) ?_
                refine all_cons (by
                    intro ρ σm m hoff hdep
                    have e40 : look 55 ρ 40 = (B (x22.2.2 != x27.2.2)) := hdep 23 rfl rfl 40 rfl
                    exact does_v (v := (B (x22.2.2 != x27.2.2))) (wanted_none _ rfl _) (rv_move e40) rfl) ?_
                refine all_cons (by
                    intro ρ σm m hoff hdep
                    have e0 : look 55 ρ 0 = (Sl aa_0 a_0 ca_0) := look_off (hoff 0 rfl) rfl
                    have e41 : look 55 ρ 41 = (B (x22.2.2 != x27.2.2)) := hdep 24 rfl rfl 41 rfl
                    exact does_v (v := (Sl aa_0 a_0 ca_0)) (wanted_yes rfl (yv_of rfl (e41.trans (congrArg B hb32)))) (rv_move e0) rfl) ?_
                refine all_cons (by
                    intro ρ σm m hoff hdep
                    have e5 : look 55 ρ 5 = (I s3) := look_off (hoff 5 rfl) rfl
                    have e41 : look 55 ρ 41 = (B (x22.2.2 != x27.2.2)) := hdep 24 rfl rfl 41 rfl
                    exact does_v (v := (I s3)) (wanted_yes rfl (yv_of rfl (e41.trans (congrArg B hb32)))) (rv_move e5) rfl) ?_
                refine all_cons (by
                    intro ρ σm m hoff hdep
                    have e42 : look 55 ρ 42 = (Sl aa_0 a_0 ca_0) := hdep 25 rfl rfl 42 rfl
                    have e43 : look 55 ρ 43 = (I s3) := hdep 26 rfl rfl 43 rfl
                    have e41 : look 55 ρ 41 = (B (x22.2.2 != x27.2.2)) := hdep 24 rfl rfl 41 rfl
                    exact does_v (v := (pt b37 o38)) (wanted_yes rfl (yv_of rfl (e41.trans (congrArg B hb32)))) (rv_ix Try.underlying23 ti26 e42 e43 hi36) rfl) ?_
                refine all_cons (by
                    intro ρ σm m hoff hdep
                    have e44 : look 55 ρ 44 = (pt b37 o38) := hdep 27 rfl rfl 44 rfl
                    have e41 : look 55 ρ 41 = (B (x22.2.2 != x27.2.2)) := hdep 24 rfl rfl 41 rfl
                    exact does_v (v := (pt b37 (o38 + 1))) (wanted_yes rfl (yv_of rfl (e41.trans (congrArg B hb32)))) (rv_fieldAddr (off := 1) (ft := 24) Try.underlying26 rfl ti24 rfl e44) rfl) ?_
                refine all_cons (by
                    intro ρ σm m hoff hdep
                    have e45 : look 55 ρ 45 = (pt b37 (o38 + 1)) := hdep 28 rfl rfl 45 rfl
                    have e41 : look 55 ρ 41 = (B (x22.2.2 != x27.2.2)) := hdep 24 rfl rfl 41 rfl
                    replace hc43 := hR6.hmod hx35 hi36 (k := 1) (by decide) hc43 m
                    exact does_v (v := (Sl a39 x34.2.1 c40)) (wanted_yes rfl (yv_of rfl (e41.trans (congrArg B hb32)))) (rv_load1 Try.underlying24 rfl e45 hc43) rfl) ?_
                refine all_cons (by
                    intro ρ σm m hoff hdep
                    have e1 : look 55 ρ 1 = (Sl ab_1 b_1 cb_1) := look_off (hoff 1 rfl) rfl
                    have e41 : look 55 ρ 41 = (B (x22.2.2 != x27.2.2)) := hdep 24 rfl rfl 41 rfl
                    exact does_v (v := (Sl ab_1 b_1 cb_1)) (wanted_yes rfl (yv_of rfl (e41.trans (congrArg B hb32)))) (rv_move e1) rfl) ?_
                refine all_cons (by
                    intro ρ σm m hoff hdep
                    have e5 : look 55 ρ 5 = (I s3) := look_off (hoff 5 rfl) rfl
                    have e41 : look 55 ρ 41 = (B (x22.2.2 != x27.2.2)) := hdep 24 rfl rfl 41 rfl
                    exact does_v (v := (I s3)) (wanted_yes rfl (yv_of rfl (e41.trans (congrArg B hb32)))) (rv_move e5) rfl) ?_
                refine all_cons (by
                    intro ρ σm m hoff hdep
                    have e47 : look 55 ρ 47 = (Sl ab_1 b_1 cb_1) := hdep 30 rfl rfl 47 rfl
                    have e48 : look 55 ρ 48 = (I s3) := hdep 31 rfl rfl 48 rfl
                    have e41 : look 55 ρ 41 = (B (x22.2.2 != x27.2.2)) := hdep 24 rfl rfl 41 rfl
                    exact does_v (v := (pt b47 o48)) (wanted_yes rfl (yv_of rfl (e41.trans (congrArg B hb32)))) (rv_ix Try.underlying23 ti26 e47 e48 hi46) rfl) ?_
                refine all_cons (by
                    intro ρ σm m hoff hdep
                    have e49 : look 55 ρ 49 = (pt b47 o48) := hdep 32 rfl rfl 49 rfl
                    have e41 : look 55 ρ 41 = (B (x22.2.2 != x27.2.2)) := hdep 24 rfl rfl 41 rfl
                    exact does_v (v := (pt b47 (o48 + 1))) (wanted_yes rfl (yv_of rfl (e41.trans (congrArg B hb32)))) (rv_fieldAddr (off := 1) (ft := 24) Try.underlying26 rfl ti24 rfl e49) rfl) ?_
                refine all_cons (by
                    intro ρ σm m hoff hdep
                    have e50 : look 55 ρ 50 = (pt b47 (o48 + 1)) := hdep 33 rfl rfl 50 rfl
                    have e41 : look 55 ρ 41 = (B (x22.2.2 != x27.2.2)) := hdep 24 rfl rfl 41 rfl
                    replace hc53 := hR7.hmod hx45 hi46 (k := 1) (by decide) hc53 m
                    exact does_v (v := (Sl a49 x44.2.1 c50)) (wanted_yes rfl (yv_of rfl (e41.trans (congrArg B hb32)))) (rv_load1 Try.underlying24 rfl e50 hc53) rfl) ?_
                exact all_nil
              · intro ρ σ54 m hoff hrel
                have e0 : look 55 ρ 0 = (Sl aa_0 a_0 ca_0) := look_off (hoff 0 rfl) rfl
                have e1 : look 55 ρ 1 = (Sl ab_1 b_1 cb_1) := look_off (hoff 1 rfl) rfl
                have e5 : look 55 ρ 5 = (I s3) := look_off (hoff 5 rfl) rfl
                have e41 : look 55 ρ 41 = (B (x22.2.2 != x27.2.2)) := hrel 24 rfl 41 rfl
                have e46 : look 55 ρ 46 = (Sl a39 x34.2.1 c40) := hrel 29 rfl 46 rfl
                have e51 : look 55 ρ 51 = (Sl a49 x44.2.1 c50) := hrel 34 rfl 51 rfl
                replace hR6 := hR6.mod m
                replace hR7 := hR7.mod m
                replace hR41 := hR41.mod m
                replace hR51 := hR51.mod m
                replace hK := hK.none m
                rw [fr_lookL (L := [(0, (Sl aa_0 a_0 ca_0)), (1, (Sl ab_1 b_1 cb_1)), (5, (I s3)), (41, (B (x22.2.2 != x27.2.2))), (46, (Sl a39 x34.2.1 c40)), (51, (Sl a49 x44.2.1 c50))]) ⟨e0, e1, e5, e41, e46, e51, trivial⟩]
                clear hoff hrel m e0 e1 e5 e41 e46 e51
                obtain ⟨r55, hx56, h'⟩ := bind_some h
                clear h
                have h := h'; clear h'
                refine st_call_g (by exact (congrArg some hb32)) (c_laws_equalInts hR41 hR51 hx56) rfl ?_
                have hKs := hK.size
                rintro _ σ57 m58 rfl
                replace hR6 := hR6.mod m58
                replace hR7 := hR7.mod m58
                replace hR41 := hR41.mod m58
                replace hR51 := hR51.mod m58
                replace hK := hK.none m58
                clear hKs m58
                refine st_g (v := (B (!r55))) (congrArg some hb32) (rv_not rfl) ?_
                refine st (v := (B (!r55))) (rv_pick_f (congrArg B hb32) rfl) ?_
                refine w_end ?_
                obtain rfl := Option.some.inj h
                exact ⟨rfl, _, σ57, fr_join ⟨rfl, rfl, rfl, rfl, trivial⟩, rfl, hK, hR6, hR7⟩
        · clear hj
          have h := h'
          clear h'
          rintro e a w ⟨rfl, ρ, σ59, rfl, rfl, hK, hR60, hR61⟩
          refine q_then ?_
          refine cd_cond o9 rfl (fun hb62 => ?_) (fun hb62 => ?_)
          · replace h := bif_t hb62 h
            refine c_seq ?_
            refine rg ?_
            refine st (v := (B false)) (rv_assign rfl) ?_
            refine w_end ?_
            refine q_then ?_
            refine c_ret ?_
            refine q_blk_r ?_
            refine q_then_r ?_
            refine q_then_r ?_
            refine q_blk_r ?_
            obtain rfl := Option.some.inj h
            obtain rfl := hres _ rfl
            exact .inr (⟨_, rfl, rfl, _, σ59, fr_join ⟨rfl, trivial⟩, rfl, hK⟩)
          · replace h := bif_f hb62 h
            refine c_skip ?_
            refine q_blk ?_
            refine q_then ?_
            refine rg ?_
            refine st (v := (I s3)) (rv_move rfl) ?_
            refine st (v := (I (w64 (s3 + 1)))) (rv_add (a := s3) (b := 1) rfl rfl) ?_
            refine st (v := (I (w64 (s3 + 1)))) (rv_assign rfl) ?_
            refine w_end ?_
            refine q_then ?_
            obtain rfl := Option.some.inj h
            exact ⟨_, rfl, _, σ59, fr_join ⟨rfl, rfl, rfl, trivial⟩, rfl, hK, hR60, hR61⟩
      · replace h := bif_f hb8 h
        refine c_exit ?_
        refine q_then_x ?_
        refine q_then_x ?_
        refine q_blk_hit ?_
        obtain rfl := Option.some.inj h
        obtain rfl := hres _ rfl
        exact .inl ⟨_, rfl, rfl, _, σ5, fr_join trivial, rfl, hK⟩
    · clear hj
      have h := h'
      clear h'
      rintro e a w (⟨t63, rfl, rfl, ρ, σ64, rfl, rfl, hK⟩ | ⟨t65, rfl, rfl, ρ, σ66, rfl, rfl, hK⟩)
      · replace h := selim_l h
        refine q_then ?_
        refine c_seq ?_
        refine rg ?_
        refine st (v := (B true)) (rv_assign rfl) ?_
        refine w_end ?_
        refine q_then ?_
        refine c_ret ?_
        obtain rfl := Option.some.inj h
        exact bodyPost_ret (v := (B true)) (results_fr1 Try.results18 rfl _) rfl ⟨_, σ64, rfl, rfl, hK, rfl⟩
      · replace h := selim_r h
        refine q_then_r ?_
        obtain rfl := Option.some.inj h
        exact bodyPost_ret (v := (B t65)) (results_fr1 Try.results18 rfl _) rfl ⟨_, σ66, rfl, rfl, hK, rfl⟩

theorem c_laws_equalItem {σ0 : St} {a_0 : Int × (List Int) × Int} {b_1 : Int × (List Int) × Int} {aa_0_1 : Option Addr} {ca_0_1 : Nat} (hRa_0_1 : RS 0 σ0 (Sl aa_0_1 a_0.2.1 ca_0_1) a_0.2.1) {ab_1_1 : Option Addr} {cb_1_1 : Nat} (hRb_1_1 : RS 0 σ0 (Sl ab_1_1 b_1.2.1 cb_1_1) b_1.2.1) {r : Bool} (h : M.laws_equalItem a_0 b_1 = some r) :
    Cal Try.prog 20 [(.agg #[(I a_0.1), (Sl aa_0_1 a_0.2.1 ca_0_1), (I a_0.2.2)]), (.agg #[(I b_1.1), (Sl ab_1_1 b_1.2.1 cb_1_1), (I b_1.2.2)])] none σ0 (fun v σ' => v = (B r)) := by
  refine ⟨⟨_, _, Try.func20, rfl, rfl⟩, ?_⟩
  refine enter (n := 24) Try.func20 rfl rfl rfl ?_
  unfold M.laws_equalItem at h
  have hK : Mod none σ0 σ0 := Mod.refl _ _
  refine c_seq ?_
  refine rg ?_
  refine st_box (cs := [(I a_0.1), (Sl aa_0_1 a_0.2.1 ca_0_1), (I a_0.2.2)]) rfl rfl ?_ (wanted_none _ rfl _)
  intro b2 σ4 hbn6 m5 hB1
  have hge3 := Nat.le_trans hK.size (Nat.le_of_eq hbn6)
  replace hRa_0_1 := hRa_0_1.mod m5
  replace hRb_1_1 := hRb_1_1.mod m5
  replace hK := hK.none m5
  clear hbn6 m5
  refine st_box (cs := [(I b_1.1), (Sl ab_1_1 b_1.2.1 cb_1_1), (I b_1.2.2)]) rfl rfl ?_ (wanted_none _ rfl _)
  intro b8 σ10 hbn12 m11 hB7
  have hd13 := hB1.df' hbn12
  have hge9 := Nat.le_trans hK.size (Nat.le_of_eq hbn12)
  replace hRb_1_1 := hRb_1_1.mod m11
  replace hRa_0_1 := hRa_0_1.mod m11
  replace hB1 := hB1.mod0 m11
  replace hK := hK.none m11
  clear hbn12 m11
  refine st (v := (B false)) (rv_assign rfl) ?_
  refine w_end ?_
  refine q_then ?_
  refine c_seq ?_
  refine rg ?_
  refine st (v := (pt b2 0)) (rv_fieldAddr (off := 0) (ft := 3) Try.underlying26 rfl ti3 rfl rfl) ?_
  refine st (v := (I a_0.1)) (rv_load1 Try.underlying3 rfl rfl (hB1.cell' 0 rfl rfl)) ?_
  refine st (v := (pt b8 0)) (rv_fieldAddr (off := 0) (ft := 3) Try.underlying26 rfl ti3 rfl rfl) ?_
  refine st (v := (I b_1.1)) (rv_load1 Try.underlying3 rfl rfl (hB7.cell' 0 rfl rfl)) ?_
  refine st (v := (B (a_0.1 == b_1.1))) (rv_eql (a := a_0.1) (b := b_1.1) rfl rfl) ?_
  refine st (v := (B (a_0.1 == b_1.1))) (rv_move rfl) ?_
  rcases Bool.eq_false_or_eq_true (a_0.1 == b_1.1) with hb14 | hb14
  · replace h := bif_t hb14 h
    refine st_g (v := (pt b2 2)) (congrArg some hb14) (rv_fieldAddr (off := 2) (ft := 3) Try.underlying26 rfl ti3 rfl rfl) ?_
    refine st_g (v := (I a_0.2.2)) (congrArg some hb14) (rv_load1 Try.underlying3 rfl rfl (hB1.cell' 2 rfl rfl)) ?_
    refine st_g (v := (pt b8 2)) (congrArg some hb14) (rv_fieldAddr (off := 2) (ft := 3) Try.underlying26 rfl ti3 rfl rfl) ?_
    refine st_g (v := (I b_1.2.2)) (congrArg some hb14) (rv_load1 Try.underlying3 rfl rfl (hB7.cell' 2 rfl rfl)) ?_
    refine st_g (v := (B (a_0.2.2 == b_1.2.2))) (congrArg some hb14) (rv_eql (a := a_0.2.2) (b := b_1.2.2) rfl rfl) ?_
    refine st (v := (B (a_0.2.2 == b_1.2.2))) (rv_pick_t (congrArg B hb14) rfl) ?_
    refine st (v := (B (a_0.2.2 == b_1.2.2))) (rv_move rfl) ?_
    rcases Bool.eq_false_or_eq_true (a_0.2.2 == b_1.2.2) with hb15 | hb15
    · replace h := bif_t hb15 h
      refine st_g (v := (pt b2 1)) (congrArg some hb15) (rv_fieldAddr (off := 1) (ft := 24) Try.underlying26 rfl ti24 rfl rfl) ?_
      refine st_g (v := (Sl aa_0_1 a_0.2.1 ca_0_1)) (congrArg some hb15) (rv_load1 Try.underlying24 rfl rfl (hB1.cell' 1 rfl rfl)) ?_
      refine st_g (v := (pt b8 1)) (congrArg some hb15) (rv_fieldAddr (off := 1) (ft := 24) Try.underlying26 rfl ti24 rfl rfl) ?_
      refine st_g (v := (Sl ab_1_1 b_1.2.1 cb_1_1)) (congrArg some hb15) (rv_load1 Try.underlying24 rfl rfl (hB7.cell' 1 rfl rfl)) ?_
      obtain ⟨r16, hx17, h'⟩ := bind_some h
      clear h
      have h := h'; clear h'
      refine st_call_g (by exact (congrArg some hb15)) (c_laws_equalInts hRa_0_1 hRb_1_1 hx17) rfl ?_
      have hKs := hK.size
      rintro _ σ18 m19 rfl
      replace hRa_0_1 := hRa_0_1.mod m19
      replace hRb_1_1 := hRb_1_1.mod m19
      replace hK := hK.none m19
      clear hKs m19
      refine st (v := (B r16)) (rv_pick_t (congrArg B hb15) rfl) ?_
      refine st (v := (B r16)) (rv_assign rfl) ?_
      refine w_end ?_
      refine q_then ?_
      refine c_ret ?_
      obtain rfl := Option.some.inj h
      exact bodyPost_ret (v := (B r16)) (results_fr1 Try.results20 rfl _) rfl ⟨_, σ18, rfl, rfl, hK, rfl⟩
    · replace h := bif_f hb15 h
      refine st_skip (congrArg some hb15) ?_
      refine st_skip (congrArg some hb15) ?_
      refine st_skip (congrArg some hb15) ?_
      refine st_skip (congrArg some hb15) ?_
      refine st_skip (congrArg some hb15) ?_
      refine st (v := (B false)) (rv_pick_f (congrArg B hb15) rfl) ?_
      refine st (v := (B false)) (rv_assign rfl) ?_
      refine w_end ?_
      refine q_then ?_
      refine c_ret ?_
      obtain rfl := Option.some.inj h
      exact bodyPost_ret (v := (B false)) (results_fr1 Try.results20 rfl _) rfl ⟨_, σ10, rfl, rfl, hK, rfl⟩
  · replace h := bif_f hb14 h
    refine st_skip (congrArg some hb14) ?_
    refine st_skip (congrArg some hb14) ?_
    refine st_skip (congrArg some hb14) ?_
    refine st_skip (congrArg some hb14) ?_
    refine st_skip (congrArg some hb14) ?_
    refine st (v := (B false)) (rv_pick_f (congrArg B hb14) rfl) ?_
    refine st (v := (B false)) (rv_move rfl) ?_
    refine st_skip rfl ?_
    refine st_skip rfl ?_
    refine st_skip rfl ?_
    refine st_skip rfl ?_
    refine st_skip rfl ?_
    refine st (v := (B false)) (rv_pick_f rfl rfl) ?_
    refine st (v := (B false)) (rv_assign rfl) ?_
    refine w_end ?_
    refine q_then ?_
    refine c_ret ?_
    obtain rfl := Option.some.inj h
    exact bodyPost_ret (v := (B false)) (results_fr1 Try.results20 rfl _) rfl ⟨_, σ10, rfl, rfl, hK, rfl⟩

theorem c_spec_someKey {σ0 : St} {r_0 : (List UInt8) × Int} {list_1 : List (Int × (List Int) × Int)} {ar_0_0 : Option Addr} {cr_0_0 : Nat} (hRr_0_0 : RS 0 σ0 (Sl ar_0_0 r_0.1 cr_0_0) r_0.1) {br_0 : Nat} (hBr_0 : Bx σ0 br_0 [(Sl ar_0_0 r_0.1 cr_0_0), (I r_0.2)])  (hltr_0 : br_0 < σ0.size) {alist_1 : Option Addr} {clist_1 : Nat} (hRlist_1 : RS 0 σ0 (Sl alist_1 list_1 clist_1) list_1) {r : Int × ((List UInt8) × Int)} (h : M.spec_someKey r_0 list_1 = some r) :
    Cal Try.prog 55 [(pt br_0 0), (Sl alist_1 list_1 clist_1)] (some br_0) σ0 (fun v σ' => ∃ (a0 : Option Addr) (c0 : Nat), v = (I r.1) ∧ RS 0 σ' (Sl a0 r.2.1 c0) r.2.1 ∧ Bx σ' br_0 [(Sl a0 r.2.1 c0), (I r.2.2)]) := by
  refine ⟨⟨_, _, Try.func55, rfl, rfl⟩, ?_⟩
  refine enter (n := 24) Try.func55 rfl rfl rfl ?_
  unfold M.spec_someKey at h
  have hK : Mod (some br_0) σ0 σ0 := Mod.refl _ _
  refine c_seq ?_
  refine rg ?_
  refine st (v := (I 0)) (rv_assign rfl) ?_
  refine w_end ?_
  refine q_then ?_
  refine c_seq ?_
  refine c_seq ?_
  obtain ⟨o1, hj, h'⟩ := bind_some h
  clear h
  refine c_cut (fun e a w => e = .normal ∧ ∃ (ρ : Nat → Value) (σ : St) (aj1 : Option Addr) (cj2 : Nat), a = fr 24 (updL ρ [(0, (pt br_0 0)), (1, (Sl alist_1 list_1 clist_1)), (12, (B o1.2))]) ∧ w = σ.w ∧ Mod (some br_0) σ0 σ ∧ RS 0 σ (Sl aj1 o1.1.1 cj2) o1.1.1 ∧ Bx σ br_0 [(Sl aj1 o1.1.1 cj2), (I o1.1.2)] ∧ RS 0 σ (Sl alist_1 list_1 clist_1) list_1) ?_ ?_
  · clear h'
    rename _ = some o1 => h
    refine rg ?_
    refine st (v := (Sl alist_1 list_1 clist_1)) (rv_move rfl) ?_
    refine st (v := (I (list_1.length : Int))) (rv_len Try.underlying23 rfl) ?_
    refine st (v := (B (decide (0 < (list_1.length : Int))))) (rv_gtr (a := (list_1.length : Int)) (b := 0) rfl rfl) ?_
    refine st (v := (B (decide (0 < (list_1.length : Int))))) (rv_move rfl) ?_
    rcases Bool.eq_false_or_eq_true (decide (0 < (list_1.length : Int))) with hb2 | hb2
    · replace h := bif_t hb2 h
      refine st_g (v := (pt br_0 0)) (congrArg some hb2) (rv_move rfl) ?_
      obtain ⟨r3, hx4, h'⟩ := bind_some h
      clear h
      have h := h'; clear h'
      refine st_call_g (by exact (congrArg some hb2)) (c_spec_reader_pick hRr_0_0 hBr_0 hBr_0.lt hx4) rfl ?_
      have hKs := hK.size
      rintro _ σ5 m6 ⟨a7, c8, rfl, hR9, hB10⟩
      replace hRr_0_0 := hRr_0_0.mod m6
      replace hRlist_1 := hRlist_1.mod m6
      replace hK := hK.self m6
      clear hKs m6
      refine st_g (v := (B (decide (0 < r3.1)))) (congrArg some hb2) (rv_gtr (a := r3.1) (b := 0) rfl rfl) ?_
      refine st (v := (B (decide (0 < r3.1)))) (rv_pick_t (congrArg B hb2) rfl) ?_
      refine w_end ?_
      obtain rfl := Option.some.inj h
      exact ⟨rfl, _, σ5, a7, c8, fr_join ⟨rfl, rfl, rfl, trivial⟩, rfl, hK, hR9, hB10, hRlist_1⟩
    · replace h := bif_f hb2 h
      refine st_skip (congrArg some hb2) ?_
      refine st_skip (congrArg some hb2) ?_
      refine st_skip (congrArg some hb2) ?_
      refine st (v := (B false)) (rv_pick_f (congrArg B hb2) rfl) ?_
      refine w_end ?_
      obtain rfl := Option.some.inj h
      exact ⟨rfl, _, σ0, ar_0_0, cr_0_0, fr_join ⟨rfl, rfl, rfl, trivial⟩, rfl, hK, hRr_0_0, hBr_0, hRlist_1⟩
  · clear hj
    have h := h'
    clear h'
    rintro e a w ⟨rfl, ρ, σ11, a12, c13, rfl, rfl, hK, hR14, hB15, hR16⟩
    refine q_then ?_
    refine cd_cond o1.2 rfl (fun hb17 => ?_) (fun hb17 => ?_)
    · replace h := bif_t hb17 h
      refine c_seq ?_
      refine rg ?_
      refine st (v := (Sl alist_1 list_1 clist_1)) (rv_move rfl) ?_
      refine st (v := (pt br_0 0)) (rv_move rfl) ?_
      refine st (v := (Sl alist_1 list_1 clist_1)) (rv_move rfl) ?_
      refine st (v := (I (list_1.length : Int))) (rv_len Try.underlying23 rfl) ?_
      obtain ⟨r18, hx19, h'⟩ := bind_some h
      clear h
      have h := h'; clear h'
      refine st_call (c_spec_reader_pick hR14 hB15 hB15.lt hx19) rfl ?_
      have hKs := hK.size
      rintro _ σ20 m21 ⟨a22, c23, rfl, hR24, hB25⟩
      replace hR14 := hR14.mod m21
      replace hR16 := hR16.mod m21
      replace hK := hK.self m21
      clear hKs m21
      obtain ⟨x26, hx27, h'⟩ := bind_some h
      clear h
      have h := h'; clear h'
      obtain ⟨b29, o30, hi28, -⟩ := hR16.ix hx27
      refine st (v := (pt b29 o30)) (rv_ix Try.underlying23 ti26 rfl rfl hi28) ?_
      refine st (v := (pt b29 (o30 + 0))) (rv_fieldAddr (off := 0) (ft := 3) Try.underlying26 rfl ti3 rfl rfl) ?_
      refine st (v := (I x26.1)) (rv_load1 Try.underlying3 rfl rfl (hR16.at hx27 hi28).fst.int) ?_
      refine st (v := (I x26.1)) (rv_assign rfl) ?_
      refine w_end ?_
      refine q_then ?_
      refine c_ret ?_
      refine q_then_r ?_
      obtain rfl := Option.some.inj h
      exact bodyPost_ret (v := (I x26.1)) (results_fr1 Try.results55 rfl _) rfl ⟨_, σ20, rfl, rfl, hK, a22, c23, rfl, hR24, hB25⟩
    · replace h := bif_f hb17 h
      refine c_skip ?_
      refine q_then ?_
      refine c_seq ?_
      refine rg ?_
      refine st (v := (pt br_0 0)) (rv_move rfl) ?_
      refine st_buildSlice (lo := σ0.size) (el := σ0.size) (xs := ([5, 99, 0, 31, -1] : List Int)) (ps := [(0, (I 5)), (1, (I 99)), (2, (I 0)), (3, (I 31)), (4, (I (-1)))]) (cs := [(I 5), (I 99), (I 0), (I 31), (I (-1))]) Try.underlying24 ti3 rfl rfl (by kernel_rfl) (.cons (c := [(I 5)]) rfl (.cons (c := [(I 99)]) rfl (.cons (c := [(I 0)]) rfl (.cons (c := [(I 31)]) rfl (.cons (c := [(I (-1))]) rfl (.nil)))))) rfl ?_ hK.size (wanted_none _ rfl _)
      intro b32 σ33 hbn35 m34 hO31
      replace hR14 := hR14.mod m34
      replace hB15 := hB15.mod0 m34
      replace hK := hK.none m34
      clear hbn35 m34
      have hg40 := hO31.ge
      obtain ⟨σ36, hw39, m37, hR38⟩ := hO31.pub' (Nat.le_refl _)
      rw [← hw39]; clear hw39
      replace hR14 := hR14.mod m37
      replace hB15 := hB15.mod' m37 (Df.ge (by rintro _ ⟨⟩; exact hltr_0) hO31.ge)
      replace hK := hK.own m37 hg40
      obtain ⟨r41, hx42, h'⟩ := bind_some h
      clear h
      have h := h'; clear h'
      refine st_call (c_spec_reader_one hR14 hB15 hB15.lt (hR38.low (Nat.zero_le _)) hx42) rfl ?_
      have hKs := hK.size
      rintro _ σ43 m44 ⟨a45, c46, rfl, hR47, hB48⟩
      replace hR14 := hR14.mod m44
      replace hR38 := hR38.mod m44
      replace hK := hK.self m44
      clear hKs m44
      refine st (v := (I r41.1)) (rv_assign rfl) ?_
      refine w_end ?_
      refine q_then ?_
      refine c_ret ?_
      obtain rfl := Option.some.inj h
      exact bodyPost_ret (v := (I r41.1)) (results_fr1 Try.results55 rfl _) rfl ⟨_, σ43, rfl, rfl, hK, a45, c46, rfl, hR47, hB48⟩

theorem c_spec_DrawDropItem {σ0 : St} {code_0 : List UInt8} {acode_0 : Option Addr} {ccode_0 : Nat} (hRcode_0 : RS 0 σ0 (Sl acode_0 code_0 ccode_0) code_0) {r : (List (Int × (List Int) × Int)) × Int} (h : M.spec_DrawDropItem code_0 = some r) :
    Cal Try.prog 21 [(Sl acode_0 code_0 ccode_0)] none σ0 (fun v σ' => ∃ (a0 : Option Addr) (c0 : Nat), v = (.tuple #[(Sl a0 r.1 c0), (I r.2)]) ∧ RS σ0.size σ' (Sl a0 r.1 c0) r.1) := by
  refine ⟨⟨_, _, Try.func21, rfl, rfl⟩, ?_⟩
  refine enter (n := 14) Try.func21 rfl rfl rfl ?_
  unfold M.spec_DrawDropItem at h
  have hK : Mod none σ0 σ0 := Mod.refl _ _
  refine c_seq ?_
  refine rg ?_
  refine st (v := (.slice none 0 0)) (rv_assign rfl) ?_
  refine st (v := (I 0)) (rv_assign rfl) ?_
  refine w_end ?_
  refine q_then ?_
  refine c_seq ?_
  refine rg ?_
  refine st (v := (Sl acode_0 code_0 ccode_0)) (rv_move rfl) ?_
  obtain ⟨r1, hx2, h'⟩ := bind_some h
  clear h
  have h := h'; clear h'
  refine st_call (c_spec_newReader hRcode_0 hx2) rfl ?_
  have hKs := hK.size
  rintro _ σ3 m4 ⟨b5, a8, c9, rfl, hR10, hge6, hB7⟩
  replace hRcode_0 := hRcode_0.mod m4
  replace hK := hK.none m4
  replace hge6 := Nat.le_trans hKs hge6
  clear hKs m4
  refine st (v := (pt b5 0)) (rv_assign rfl) ?_
  refine w_end ?_
  refine q_then ?_
  refine c_seq ?_
  refine rg ?_
  refine st (v := (pt b5 0)) (rv_move rfl) ?_
  obtain ⟨r11, hx12, h'⟩ := bind_some h
  clear h
  have h := h'; clear h'
  refine st_call (c_spec_anyStore hR10 hB7 hB7.lt hx12) rfl ?_
  have hd22 := hB7.ltb
  have hKs := hK.size
  rintro _ σ13 m14 ⟨a15, c16, a18, c19, rfl, hO17, hR20, hB21⟩
  replace hR10 := hR10.mod m14
  replace hK := hK.some m14 hge6
  have hO17g := hO17.ge
  replace hO17 := hO17.lo hKs
  replace hO17 := hO17.low' hKs
  have hd23 := Df.ge hd22 hO17g
  clear hKs m14 hO17g
  refine st (v := (Sl a15 r11.1 c16)) (rv_assign rfl) ?_
  refine w_end ?_
  refine q_then ?_
  refine c_seq ?_
  refine rg ?_
  refine st (v := (Sl a15 r11.1 c16)) (rv_move rfl) ?_
  refine st (v := (pt b5 0)) (rv_move rfl) ?_
  refine st (v := (Sl a15 r11.1 c16)) (rv_move rfl) ?_
  have hg28 := hO17.ge
  obtain ⟨σ24, hw27, m25, hR26⟩ := hO17.pub' (Nat.le_refl _)
  rw [← hw27]; clear hw27
  replace hR20 := hR20.mod m25
  replace hB21 := hB21.mod' m25 (by first | exact hd23 | exact Df.reR hd23)
  replace hK := hK.own m25 hg28
  obtain ⟨r29, hx30, h'⟩ := bind_some h
  clear h
  have h := h'; clear h'
  refine st_call (c_spec_someKey hR20 hB21 hB21.lt (hR26.low (Nat.zero_le _)) hx30) rfl ?_
  have hd37 := hB21.ltb
  have hKs := hK.size
  rintro _ σ31 m32 ⟨a33, c34, rfl, hR35, hB36⟩
  replace hR26 := hR26.mod m32
  replace hR20 := hR20.mod m32
  replace hK := hK.some m32 hge6
  clear hKs m32
  refine st (v := (Sl a15 r11.1 c16)) (rv_assign rfl) ?_
  refine st (v := (I r29.1)) (rv_assign rfl) ?_
  refine w_end ?_
  refine q_then ?_
  refine c_ret ?_
  obtain rfl := Option.some.inj h
  exact bodyPost_ret (v := (.tuple #[(Sl a15 r11.1 c16), (I r29.1)])) (results_fr2 Try.results21 rfl rfl _) rfl ⟨_, σ31, rfl, rfl, hK, a15, c16, rfl, hR26⟩

theorem c_spec_keyAt {σ0 : St} {list_0 : List (Int × (List Int) × Int)} {key_1 : Int} {alist_0 : Option Addr} {clist_0 : Nat} (hRlist_0 : RS 0 σ0 (Sl alist_0 list_0 clist_0) list_0) {r : Int} (h : M.spec_keyAt list_0 key_1 = some r) :
    Cal Try.prog 57 [(Sl alist_0 list_0 clist_0), (I key_1)] none σ0 (fun v σ' => v = (I r)) := by
  refine ⟨⟨_, _, Try.func57, rfl, rfl⟩, ?_⟩
  refine enter (n := 20) Try.func57 rfl rfl rfl ?_
  unfold M.spec_keyAt at h
  have hK : Mod none σ0 σ0 := Mod.refl _ _
  refine c_seq ?_
  refine rg ?_
  refine st (v := (I 0)) (rv_assign rfl) ?_
  refine w_end ?_
  refine q_then ?_
  refine c_seq ?_
  refine c_seq ?_
  refine rg ?_
  refine st (v := (I 0)) (rv_assign rfl) ?_
  refine w_end ?_
  refine q_then ?_
  obtain ⟨o1, hj, h'⟩ := bind_some h
  clear h
  refine c_cut (fun e a w => (∃ t, o1 = (.inl t) ∧ e = .normal ∧ ∃ (ρ : Nat → Value) (σ : St), a = fr 20 (updL ρ []) ∧ w = σ.w ∧ Mod none σ0 σ) ∨ (∃ t, o1 = (.inr t) ∧ e = .ret ∧ ∃ (ρ : Nat → Value) (σ : St), a = fr 20 (updL ρ [(4, (I t))]) ∧ w = σ.w ∧ Mod none σ0 σ)) ?_ ?_
  · clear h'
    rename _ = some o1 => h
    refine c_blk ?_
    refine wp_loopM _ h (fun s2 a w => ∃ (ρ : Nat → Value) (σ : St), a = fr 20 (updL ρ [(0, (Sl alist_0 list_0 clist_0)), (1, (I key_1)), (5, (I s2))]) ∧ w = σ.w ∧ Mod none σ0 σ ∧ RS 0 σ (Sl alist_0 list_0 clist_0) list_0) ⟨_, σ0, fr_join ⟨rfl, rfl, rfl, trivial⟩, rfl, hK, hRlist_0⟩ ?_
    clear h
    rintro s2 a w o ⟨ρ, σ4, rfl, rfl, hK, hR5⟩ h hres
    refine c_seq ?_
    refine c_seq ?_
    refine rg ?_
    refine st (v := (I s2)) (rv_move rfl) ?_
    refine st (v := (Sl alist_0 list_0 clist_0)) (rv_move rfl) ?_
    refine st (v := (I (list_0.length : Int))) (rv_len Try.underlying23 rfl) ?_
    refine st (v := (B (decide (s2 < (list_0.length : Int))))) (rv_lss (a := s2) (b := (list_0.length : Int)) rfl rfl) ?_
    refine w_end ?_
    refine q_then ?_
    refine cd_cond (decide (s2 < (list_0.length : Int))) rfl (fun hb6 => ?_) (fun hb6 => ?_)
    · replace h := bif_t hb6 h
      refine c_skip ?_
      refine q_then ?_
      refine c_seq ?_
      refine c_blk ?_
      refine c_seq ?_
      refine rg ?_
      refine st (v := (Sl alist_0 list_0 clist_0)) (rv_move rfl) ?_
      refine st (v := (I s2)) (rv_move rfl) ?_
      obtain ⟨x7, hx8, h'⟩ := bind_some h
      clear h
      have h := h'; clear h'
      obtain ⟨b10, o11, hi9, -⟩ := hR5.ix hx8
      refine st (v := (pt b10 o11)) (rv_ix Try.underlying23 ti26 rfl rfl hi9) ?_
      refine st (v := (pt b10 (o11 + 0))) (rv_fieldAddr (off := 0) (ft := 3) Try.underlying26 rfl ti3 rfl rfl) ?_
      refine st (v := (I x7.1)) (rv_load1 Try.underlying3 rfl rfl (hR5.at hx8 hi9).fst.int) ?_
      refine st (v := (I key_1)) (rv_move rfl) ?_
      refine st (v := (B (x7.1 == key_1))) (rv_eql (a := x7.1) (b := key_1) rfl rfl) ?_
      refine w_end ?_
      refine q_then ?_
      refine cd_cond (x7.1 == key_1) rfl (fun hb12 => ?_) (fun hb12 => ?_)
      · replace h := bif_t hb12 h
        refine c_seq ?_
        refine rg ?_
        refine st (v := (I s2)) (rv_move rfl) ?_
        refine st (v := (I s2)) (rv_assign rfl) ?_
        refine w_end ?_
        refine q_then ?_
        refine c_ret ?_
        refine q_blk_r ?_
        refine q_then_r ?_
        refine q_then_r ?_
        refine q_blk_r ?_
        obtain rfl := Option.some.inj h
        obtain rfl := hres _ rfl
        exact .inr (⟨_, rfl, rfl, _, σ4, fr_join ⟨rfl, trivial⟩, rfl, hK⟩)
      · replace h := bif_f hb12 h
        refine c_skip ?_
        refine q_blk ?_
        refine q_then ?_
        refine rg ?_
        refine st (v := (I s2)) (rv_move rfl) ?_
        refine st (v := (I (w64 (s2 + 1)))) (rv_add (a := s2) (b := 1) rfl rfl) ?_
        refine st (v := (I (w64 (s2 + 1)))) (rv_assign rfl) ?_
        refine w_end ?_
        refine q_then ?_
        obtain rfl := Option.some.inj h
        exact ⟨_, rfl, _, σ4, fr_join ⟨rfl, rfl, rfl, trivial⟩, rfl, hK, hR5⟩
    · replace h := bif_f hb6 h
      refine c_exit ?_
      refine q_then_x ?_
      refine q_then_x ?_
      refine q_blk_hit ?_
      obtain rfl := Option.some.inj h
      obtain rfl := hres _ rfl
      exact .inl ⟨_, rfl, rfl, _, σ4, fr_join trivial, rfl, hK⟩
  · clear hj
    have h := h'
    clear h'
    rintro e a w (⟨t13, rfl, rfl, ρ, σ14, rfl, rfl, hK⟩ | ⟨t15, rfl, rfl, ρ, σ16, rfl, rfl, hK⟩)
    · replace h := selim_l h
      refine q_then ?_
      refine c_seq ?_
      refine rg ?_
      refine st (v := (I (-1))) (rv_assign rfl) ?_
      refine w_end ?_
      refine q_then ?_
      refine c_ret ?_
      obtain rfl := Option.some.inj h
      exact bodyPost_ret (v := (I (-1))) (results_fr1 Try.results57 rfl _) rfl ⟨_, σ14, rfl, rfl, hK, rfl⟩
    · replace h := selim_r h
      refine q_then_r ?_
      obtain rfl := Option.some.inj h
      exact bodyPost_ret (v := (I t15)) (results_fr1 Try.results57 rfl _) rfl ⟨_, σ16, rfl, rfl, hK, rfl⟩

theorem c_spec_DropItem {σ0 : St} {list_0 : List (Int × (List Int) × Int)} {key_1 : Int} {alist_0 : Option Addr} {clist_0 : Nat} (hRlist_0 : RS 0 σ0 (Sl alist_0 list_0 clist_0) list_0) {r : (List (Int × (List Int) × Int)) × Bool} (h : M.spec_DropItem list_0 key_1 = some r) :
    Cal Try.prog 23 [(Sl alist_0 list_0 clist_0), (I key_1)] none σ0 (fun v σ' => ∃ (a0 : Option Addr) (c0 : Nat), v = (.tuple #[(Sl a0 r.1 c0), (B r.2)]) ∧ Ow σ' σ0.size σ0.size (Sl a0 r.1 c0) r.1) := by
  refine ⟨⟨_, _, Try.func23, rfl, rfl⟩, ?_⟩
  refine enter (n := 40) Try.func23 rfl rfl rfl ?_
  unfold M.spec_DropItem at h
  have hK : Mod none σ0 σ0 := Mod.refl _ _
  refine c_seq ?_
  refine rg ?_
  refine st (v := (.slice none 0 0)) (rv_assign rfl) ?_
  refine st (v := (B false)) (rv_assign rfl) ?_
  refine w_end ?_
  refine q_then ?_
  refine c_seq ?_
  refine c_seq ?_
  obtain ⟨o1, hj, h'⟩ := bind_some h
  clear h
  refine c_cut (fun e a w => e = .normal ∧ ∃ (ρ : Nat → Value) (σ : St), a = fr 40 (updL ρ [(0, (Sl alist_0 list_0 clist_0)), (1, (I key_1)), (16, (B o1))]) ∧ w = σ.w ∧ Mod none σ0 σ ∧ RS 0 σ (Sl alist_0 list_0 clist_0) list_0) ?_ ?_
  · clear h'
    rename _ = some o1 => h
    refine rg ?_
    refine st (v := (Sl alist_0 list_0 clist_0)) (rv_move rfl) ?_
    obtain ⟨r2, hx3, h'⟩ := bind_some h
    clear h
    have h := h'; clear h'
    refine st_call (c_spec_validStore hRlist_0 hx3) rfl ?_
    have hKs := hK.size
    rintro _ σ4 m5 rfl
    replace hRlist_0 := hRlist_0.mod m5
    replace hK := hK.none m5
    clear hKs m5
    refine st (v := (B (!r2))) (rv_not rfl) ?_
    refine st (v := (B (!r2))) (rv_move rfl) ?_
    rcases Bool.eq_false_or_eq_true (!r2) with hb6 | hb6
    · replace h := bif_t hb6 h
      refine st_skip (congrArg some hb6) ?_
      refine st_skip (congrArg some hb6) ?_
      refine st_skip (congrArg some hb6) ?_
      refine st_skip (congrArg some hb6) ?_
      refine st (v := (B true)) (rv_pick_t (congrArg B hb6) rfl) ?_
      refine w_end ?_
      obtain rfl := Option.some.inj h
      exact ⟨rfl, _, σ4, fr_join ⟨rfl, rfl, rfl, trivial⟩, rfl, hK, hRlist_0⟩
    · replace h := bif_f hb6 h
      refine st_g (v := (Sl alist_0 list_0 clist_0)) (congrArg some hb6) (rv_move rfl) ?_
      refine st_g (v := (I key_1)) (congrArg some hb6) (rv_move rfl) ?_
      obtain ⟨r7, hx8, h'⟩ := bind_some h
      clear h
      have h := h'; clear h'
      refine st_call_g (by exact (congrArg some hb6)) (c_spec_keyAt hRlist_0 hx8) rfl ?_
      have hKs := hK.size
      rintro _ σ9 m10 rfl
      replace hRlist_0 := hRlist_0.mod m10
      replace hK := hK.none m10
      clear hKs m10
      refine st_g (v := (B (decide (r7 < 0)))) (congrArg some hb6) (rv_lss (a := r7) (b := 0) rfl rfl) ?_
      refine st (v := (B (decide (r7 < 0)))) (rv_pick_f (congrArg B hb6) rfl) ?_
      refine w_end ?_
      obtain rfl := Option.some.inj h
      exact ⟨rfl, _, σ9, fr_join ⟨rfl, rfl, rfl, trivial⟩, rfl, hK, hRlist_0⟩
  · clear hj
    have h := h'
    clear h'
    rintro e a w ⟨rfl, ρ, σ11, rfl, rfl, hK, hR12⟩
    refine q_then ?_
    refine cd_cond o1 rfl (fun hb13 => ?_) (fun hb13 => ?_)
    · replace h := bif_t hb13 h
      refine c_seq ?_
      refine rg ?_
      refine st (v := (.slice none 0 0)) (rv_assign rfl) ?_
      refine st (v := (B false)) (rv_assign rfl) ?_
      refine w_end ?_
      refine q_then ?_
      refine c_ret ?_
      refine q_then_r ?_
      obtain rfl := Option.some.inj h
      exact bodyPost_ret (v := (.tuple #[(.slice none 0 0), (B false)])) (results_fr2 Try.results23 rfl rfl _) rfl ⟨_, σ11, rfl, rfl, hK, none, 0, rfl, Ow.nil⟩
    · replace h := bif_f hb13 h
      refine c_skip ?_
      refine q_then ?_
      refine c_seq ?_
      refine rg ?_
      refine st_buildSlice (lo := σ0.size) (el := σ0.size) (xs := ([] : List (Int × (List Int) × Int))) (ps := []) (cs := []) Try.underlying23 ti26 rfl rfl (by kernel_rfl) (.nil) rfl ?_ hK.size (wanted_none _ rfl _)
      intro b15 σ16 hbn18 m17 hO14
      replace hR12 := hR12.mod m17
      replace hK := hK.none m17
      clear hbn18 m17
      refine st (v := (Sl (some ⟨b15, 0, none⟩) ([] : List (Int × (List Int) × Int)) 0)) (rv_assign rfl) ?_
      refine w_end ?_
      refine q_then ?_
      refine c_seq ?_
      refine c_seq ?_
      refine rg ?_
      refine st (v := (I 0)) (rv_assign rfl) ?_
      refine w_end ?_
      refine q_then ?_
      obtain ⟨o19, hj, h'⟩ := bind_some h
      clear h
      refine c_cut (fun e a w => e = .normal ∧ ∃ (ρ : Nat → Value) (σ : St) (aj1 : Option Addr) (cj2 : Nat), a = fr 40 (updL ρ [(6, (Sl aj1 o19 cj2))]) ∧ w = σ.w ∧ Mod none σ0 σ ∧ Ow σ σ0.size σ0.size (Sl aj1 o19 cj2) o19) ?_ ?_
      · clear h'
        rename _ = some o19 => h
        refine c_blk ?_
        refine wp_loopM _ h (fun s20 a w => ∃ (ρ : Nat → Value) (σ : St) (aj2 : Option Addr) (cj3 : Nat), a = fr 40 (updL ρ [(0, (Sl alist_0 list_0 clist_0)), (1, (I key_1)), (6, (Sl aj2 s20.1 cj3)), (7, (I s20.2))]) ∧ w = σ.w ∧ Mod none σ0 σ ∧ RS 0 σ (Sl alist_0 list_0 clist_0) list_0 ∧ Ow σ σ0.size σ0.size (Sl aj2 s20.1 cj3) s20.1) ⟨_, σ16, (some ⟨b15, 0, none⟩), 0, fr_join ⟨rfl, rfl, rfl, rfl, trivial⟩, rfl, hK, hR12, hO14⟩ ?_
        clear h
        rintro s20 a w o ⟨ρ, σ22, a24, c25, rfl, rfl, hK, hR23, hO26⟩ h hres
        refine c_seq ?_
        refine c_seq ?_
        refine rg ?_
        refine st (v := (I s20.2)) (rv_move rfl) ?_
        refine st (v := (Sl alist_0 list_0 clist_0)) (rv_move rfl) ?_
        refine st (v := (I (list_0.length : Int))) (rv_len Try.underlying23 rfl) ?_
        refine st (v := (B (decide (s20.2 < (list_0.length : Int))))) (rv_lss (a := s20.2) (b := (list_0.length : Int)) rfl rfl) ?_
        refine w_end ?_
        refine q_then ?_
        refine cd_cond (decide (s20.2 < (list_0.length : Int))) rfl (fun hb27 => ?_) (fun hb27 => ?_)
        · replace h := bif_t hb27 h
          refine c_skip ?_
          refine q_then ?_
          refine c_seq ?_
          obtain ⟨o28, hj, h'⟩ := bind_some h
          clear h
          refine c_cut (fun e a w => e = .normal ∧ ∃ (ρ : Nat → Value) (σ : St) (aj2 : Option Addr) (cj3 : Nat), a = fr 40 (updL ρ [(0, (Sl alist_0 list_0 clist_0)), (1, (I key_1)), (6, (Sl aj2 o28 cj3)), (7, (I s20.2))]) ∧ w = σ.w ∧ Mod none σ0 σ ∧ RS 0 σ (Sl alist_0 list_0 clist_0) list_0 ∧ Ow σ σ0.size σ0.size (Sl aj2 o28 cj3) o28) ?_ ?_
          · clear h'
            rename _ = some o28 => h
            refine c_blk ?_
            refine c_seq ?_
            refine rg ?_
            refine st (v := (Sl alist_0 list_0 clist_0)) (rv_move rfl) ?_
            refine st (v := (I s20.2)) (rv_move rfl) ?_
            obtain ⟨x29, hx30, h'⟩ := bind_some h
            clear h
            have h := h'; clear h'
            obtain ⟨b32, o33, hi31, -⟩ := hR23.ix hx30
            refine st (v := (pt b32 o33)) (rv_ix Try.underlying23 ti26 rfl rfl hi31) ?_
            refine st (v := (pt b32 (o33 + 0))) (rv_fieldAddr (off := 0) (ft := 3) Try.underlying26 rfl ti3 rfl rfl) ?_
            refine st (v := (I x29.1)) (rv_load1 Try.underlying3 rfl rfl (hR23.at hx30 hi31).fst.int) ?_
            refine st (v := (I key_1)) (rv_move rfl) ?_
            refine st (v := (B (x29.1 != key_1))) (rv_neq (a := x29.1) (b := key_1) rfl rfl) ?_
            refine w_end ?_
            refine q_then ?_
            refine cd_cond (x29.1 != key_1) rfl (fun hb34 => ?_) (fun hb34 => ?_)
            · replace h := bif_t hb34 h
              refine rg ?_
              refine st (v := (Sl a24 s20.1 c25)) (rv_move rfl) ?_
              refine st (v := (Sl alist_0 list_0 clist_0)) (rv_move rfl) ?_
              refine st (v := (I s20.2)) (rv_move rfl) ?_
              obtain ⟨x35, hx36, h'⟩ := bind_some h
              clear h
              have h := h'; clear h'
              obtain ⟨b38, o39, hi37, -⟩ := hR23.ix hx36
              refine st (v := (pt b38 o39)) (rv_ix Try.underlying23 ti26 rfl rfl hi37) ?_
              obtain ⟨_, ⟨_, _, rfl, rfl, ⟨_, _, rfl, ⟨_, rfl, hR45⟩, rfl⟩⟩, hl41, hc42⟩ := (hR23.at hx36 hi37).cells
              obtain ⟨a43, c44, rfl⟩ := hR45.isSl
              refine st (v := (.agg #[(I x35.1), (Sl a43 x35.2.1 c44), (I x35.2.2)])) (rv_load Try.underlying26 rfl ti26 rfl hl41 hc42) ?_
              obtain ⟨r46, hx47, h'⟩ := bind_some h
              clear h
              have h := h'; clear h'
              refine st_call (c_spec_copyItem hR45 hx47) rfl ?_
              have hd53 := hO26.ltb
              have hKs := hK.size
              rintro _ σ48 m49 ⟨a50, c51, rfl, hR52⟩
              replace hR23 := hR23.mod m49
              replace hO26 := hO26.mod0 m49
              replace hR45 := hR45.mod m49
              replace hK := hK.none m49
              replace hR52 := hR52.low hKs
              clear hKs m49
              refine st_buildSlice (lo := σ0.size) (el := σ0.size) (xs := ([(r46.1, r46.2.1, r46.2.2)] : List (Int × (List Int) × Int))) (ps := [(0, (.agg #[(I r46.1), (Sl a50 r46.2.1 c51), (I r46.2.2)]))]) (cs := [(I r46.1), (Sl a50 r46.2.1 c51), (I r46.2.2)]) Try.underlying23 ti26 rfl rfl (by kernel_rfl) (.cons (c := [(I r46.1), (Sl a50 r46.2.1 c51), (I r46.2.2)]) ⟨[(I r46.1)], [(Sl a50 r46.2.1 c51), (I r46.2.2)], rfl, rfl, ⟨[(Sl a50 r46.2.1 c51)], [(I r46.2.2)], rfl, ⟨_, rfl, hR52⟩, rfl⟩⟩ (.nil)) rfl ?_ hK.size (wanted_none _ rfl _)
              intro b55 σ56 hbn58 m57 hO54
              have hd59 := hO26.df' hbn58
              replace hR23 := hR23.mod m57
              replace hO26 := hO26.mod0 m57
              replace hR52 := hR52.mod m57
              replace hK := hK.none m57
              clear hbn58 m57
              obtain ⟨xs60, hx61, h'⟩ := bind_some h
              clear h
              have h := h'; clear h'
              have hg62 := hO26.ge
              refine st_append Try.underlying23 Try.underlying23 ti26 rfl rfl (by decide) hO26 hO54.rd hx61 hK.size rfl rfl ?_ (wanted_none _ rfl _)
              intro a67 c68 σ63 m64 hO65 hq66
              replace hR23 := hR23.mod m64
              replace hK := hK.own m64 hg62
              clear hq66 m64
              refine st (v := (Sl a67 xs60 c68)) (rv_assign rfl) ?_
              refine w_end ?_
              refine q_blk ?_
              obtain rfl := Option.some.inj h
              exact ⟨rfl, _, σ63, a67, c68, fr_join ⟨rfl, rfl, rfl, rfl, trivial⟩, rfl, hK, hR23, hO65⟩
            · replace h := bif_f hb34 h
              refine c_skip ?_
              refine q_blk ?_
              obtain rfl := Option.some.inj h
              exact ⟨rfl, _, σ22, a24, c25, fr_join ⟨rfl, rfl, rfl, rfl, trivial⟩, rfl, hK, hR23, hO26⟩
          · clear hj
            have h := h'
            clear h'
            rintro e a w ⟨rfl, ρ, σ69, a71, c72, rfl, rfl, hK, hR70, hO73⟩
            refine q_then ?_
            refine rg ?_
            refine st (v := (I s20.2)) (rv_move rfl) ?_
            refine st (v := (I (w64 (s20.2 + 1)))) (rv_add (a := s20.2) (b := 1) rfl rfl) ?_
            refine st (v := (I (w64 (s20.2 + 1)))) (rv_assign rfl) ?_
            refine w_end ?_
            refine q_then ?_
            obtain rfl := Option.some.inj h
            exact ⟨_, rfl, _, σ69, a71, c72, fr_join ⟨rfl, rfl, rfl, rfl, trivial⟩, rfl, hK, hR70, hO73⟩
        · replace h := bif_f hb27 h
          refine c_exit ?_
          refine q_then_x ?_
          refine q_then_x ?_
          refine q_blk_hit ?_
          obtain rfl := Option.some.inj h
          obtain rfl := hres _ rfl
          exact ⟨rfl, _, σ22, a24, c25, fr_join ⟨rfl, trivial⟩, rfl, hK, hO26⟩
      · clear hj
        have h := h'
        clear h'
        rintro e a w ⟨rfl, ρ, σ74, a75, c76, rfl, rfl, hK, hO77⟩
        refine q_then ?_
        refine c_seq ?_
        refine rg ?_
        refine st (v := (Sl a75 o19 c76)) (rv_move rfl) ?_
        refine st (v := (Sl a75 o19 c76)) (rv_assign rfl) ?_
        refine st (v := (B true)) (rv_assign rfl) ?_
        refine w_end ?_
        refine q_then ?_
        refine c_ret ?_
        obtain rfl := Option.some.inj h
        exact bodyPost_ret (v := (.tuple #[(Sl a75 o19 c76), (B true)])) (results_fr2 Try.results23 rfl rfl _) rfl ⟨_, σ74, rfl, rfl, hK, a75, c76, rfl, hO77⟩

theorem c_spec_DrawGetItem {σ0 : St} {code_0 : List UInt8} {acode_0 : Option Addr} {ccode_0 : Nat} (hRcode_0 : RS 0 σ0 (Sl acode_0 code_0 ccode_0) code_0) {r : (List (Int × (List Int) × Int)) × Int} (h : M.spec_DrawGetItem code_0 = some r) :
    Cal Try.prog 24 [(Sl acode_0 code_0 ccode_0)] none σ0 (fun v σ' => ∃ (a0 : Option Addr) (c0 : Nat), v = (.tuple #[(Sl a0 r.1 c0), (I r.2)]) ∧ RS σ0.size σ' (Sl a0 r.1 c0) r.1) := by
  refine ⟨⟨_, _, Try.func24, rfl, rfl⟩, ?_⟩
  refine enter (n := 8) Try.func24 rfl rfl rfl ?_
  unfold M.spec_DrawGetItem at h
  have hK : Mod none σ0 σ0 := Mod.refl _ _
  refine c_seq ?_
  refine rg ?_
  refine st (v := (.slice none 0 0)) (rv_assign rfl) ?_
  refine st (v := (I 0)) (rv_assign rfl) ?_
  refine w_end ?_
  refine q_then ?_
  refine c_seq ?_
  refine rg ?_
  refine st (v := (Sl acode_0 code_0 ccode_0)) (rv_move rfl) ?_
  obtain ⟨r1, hx2, h'⟩ := bind_some h
  clear h
  have h := h'; clear h'
  refine st_call (c_spec_DrawDropItem hRcode_0 hx2) rfl ?_
  have hKs := hK.size
  rintro _ σ3 m4 ⟨a5, c6, rfl, hR7⟩
  replace hRcode_0 := hRcode_0.mod m4
  replace hK := hK.none m4
  replace hR7 := hR7.low hKs
  clear hKs m4
  refine st (v := (Sl a5 r1.1 c6)) (rv_extract rfl rfl) ?_
  refine st (v := (I r1.2)) (rv_extract rfl rfl) ?_
  refine st (v := (Sl a5 r1.1 c6)) (rv_assign rfl) ?_
  refine st (v := (I r1.2)) (rv_assign rfl) ?_
  refine w_end ?_
  refine q_then ?_
  refine c_ret ?_
  obtain rfl := Option.some.inj h
  exact bodyPost_ret (v := (.tuple #[(Sl a5 r1.1 c6), (I r1.2)])) (results_fr2 Try.results24 rfl rfl _) rfl ⟨_, σ3, rfl, rfl, hK, a5, c6, rfl, hR7⟩

theorem c_spec_GetItem {σ0 : St} {list_0 : List (Int × (List Int) × Int)} {key_1 : Int} {alist_0 : Option Addr} {clist_0 : Nat} (hRlist_0 : RS 0 σ0 (Sl alist_0 list_0 clist_0) list_0) {r : (Int × (List Int) × Int) × Bool} (h : M.spec_GetItem list_0 key_1 = some r) :
    Cal Try.prog 25 [(Sl alist_0 list_0 clist_0), (I key_1)] none σ0 (fun v σ' => ∃ (a0 : Option Addr) (c0 : Nat), v = (.tuple #[(.agg #[(I r.1.1), (Sl a0 r.1.2.1 c0), (I r.1.2.2)]), (B r.2)]) ∧ RS σ0.size σ' (Sl a0 r.1.2.1 c0) r.1.2.1) := by
  refine ⟨⟨_, _, Try.func25, rfl, rfl⟩, ?_⟩
  refine enter (n := 23) Try.func25 rfl rfl rfl ?_
  unfold M.spec_GetItem at h
  have hK : Mod none σ0 σ0 := Mod.refl _ _
  refine c_seq ?_
  refine rg ?_
  refine st_alloc (cs := [(I 0), (.slice none 0 0), (I 0)]) ti26 rfl ?_ (wanted_none _ rfl _)
  intro b2 σ4 hbn6 m5 hB1
  have hge3 := Nat.le_trans hK.size (Nat.le_of_eq hbn6)
  replace hRlist_0 := hRlist_0.mod m5
  replace hK := hK.none m5
  clear hbn6 m5
  refine st (v := (B false)) (rv_assign rfl) ?_
  refine w_end ?_
  refine q_then ?_
  refine c_seq ?_
  refine c_seq ?_
  obtain ⟨o7, hj, h'⟩ := bind_some h
  clear h
  refine c_cut (fun e a w => e = .normal ∧ ∃ (ρ : Nat → Value) (σ : St), a = fr 23 (updL ρ [(0, (Sl alist_0 list_0 clist_0)), (1, (I key_1)), (4, (pt b2 0)), (14, (B o7))]) ∧ w = σ.w ∧ Mod none σ0 σ ∧ RS 0 σ (Sl alist_0 list_0 clist_0) list_0 ∧ Bx σ b2 [(I 0), (.slice none 0 0), (I 0)]) ?_ ?_
  · clear h'
    rename _ = some o7 => h
    refine rg ?_
    refine st (v := (Sl alist_0 list_0 clist_0)) (rv_move rfl) ?_
    obtain ⟨r8, hx9, h'⟩ := bind_some h
    clear h
    have h := h'; clear h'
    refine st_call (c_spec_validStore hRlist_0 hx9) rfl ?_
    have hd12 := hB1.ltb
    have hKs := hK.size
    rintro _ σ10 m11 rfl
    replace hRlist_0 := hRlist_0.mod m11
    replace hB1 := hB1.mod0 m11
    replace hK := hK.none m11
    clear hKs m11
    refine st (v := (B (!r8))) (rv_not rfl) ?_
    refine st (v := (B (!r8))) (rv_move rfl) ?_
    rcases Bool.eq_false_or_eq_true (!r8) with hb13 | hb13
    · replace h := bif_t hb13 h
      refine st_skip (congrArg some hb13) ?_
      refine st_skip (congrArg some hb13) ?_
      refine st_skip (congrArg some hb13) ?_
      refine st_skip (congrArg some hb13) ?_
      refine st (v := (B true)) (rv_pick_t (congrArg B hb13) rfl) ?_
      refine w_end ?_
      obtain rfl := Option.some.inj h
      exact ⟨rfl, _, σ10, fr_join ⟨rfl, rfl, rfl, rfl, trivial⟩, rfl, hK, hRlist_0, hB1⟩
    · replace h := bif_f hb13 h
      refine st_g (v := (Sl alist_0 list_0 clist_0)) (congrArg some hb13) (rv_move rfl) ?_
      refine st_g (v := (I key_1)) (congrArg some hb13) (rv_move rfl) ?_
      obtain ⟨r14, hx15, h'⟩ := bind_some h
      clear h
      have h := h'; clear h'
      refine st_call_g (by exact (congrArg some hb13)) (c_spec_keyAt hRlist_0 hx15) rfl ?_
      have hd18 := hB1.ltb
      have hKs := hK.size
      rintro _ σ16 m17 rfl
      replace hRlist_0 := hRlist_0.mod m17
      replace hB1 := hB1.mod0 m17
      replace hK := hK.none m17
      clear hKs m17
      refine st_g (v := (B (decide (r14 < 0)))) (congrArg some hb13) (rv_lss (a := r14) (b := 0) rfl rfl) ?_
      refine st (v := (B (decide (r14 < 0)))) (rv_pick_f (congrArg B hb13) rfl) ?_
      refine w_end ?_
      obtain rfl := Option.some.inj h
      exact ⟨rfl, _, σ16, fr_join ⟨rfl, rfl, rfl, rfl, trivial⟩, rfl, hK, hRlist_0, hB1⟩
  · clear hj
    have h := h'
    clear h'
    rintro e a w ⟨rfl, ρ, σ19, rfl, rfl, hK, hR20, hB21⟩
    refine q_then ?_
    refine cd_cond o7 rfl (fun hb22 => ?_) (fun hb22 => ?_)
    · replace h := bif_t hb22 h
      refine c_seq ?_
      refine rg ?_
      refine st (v := (.agg #[(I 0), (.slice none 0 0), (I 0)])) (rv_build (ps := []) Try.underlying26 ti26 (bp26 Try.underlying26) rfl (by kernel_rfl)) ?_
      refine st_store_box (cs := [(I 0), (.slice none 0 0), (I 0)]) (vs := [(I 0), (.slice none 0 0), (I 0)]) ti26 hB21 rfl rfl rfl rfl (Nat.le_of_ble_eq_true rfl) (by simp [plain]) ?_
      intro σ23 m24 hB26 hs25; clear hs25
      replace hK := hK.some m24 hge3
      replace hB26 := Bx.cast (cs' := [(I 0), (.slice none 0 0), (I 0)]) hB26 rfl
      clear hB21
      refine st (v := (B false)) (rv_assign rfl) ?_
      refine w_end ?_
      refine q_then ?_
      refine c_ret ?_
      refine q_then_r ?_
      obtain rfl := Option.some.inj h
      exact bodyPost_ret (v := (.tuple #[(.agg #[(I 0), (.slice none 0 0), (I 0)]), (B false)])) (results_cell_tmp (cs := [(I 0), (.slice none 0 0), (I 0)]) Try.results25 Try.underlying26 rfl ti26 rfl rfl rfl hB26) rfl ⟨_, σ23, rfl, rfl, hK, none, 0, rfl, RS.nil⟩
    · replace h := bif_f hb22 h
      refine c_skip ?_
      refine q_then ?_
      refine c_seq ?_
      refine rg ?_
      refine st (v := (Sl alist_0 list_0 clist_0)) (rv_move rfl) ?_
      refine st (v := (Sl alist_0 list_0 clist_0)) (rv_move rfl) ?_
      refine st (v := (I key_1)) (rv_move rfl) ?_
      obtain ⟨r27, hx28, h'⟩ := bind_some h
      clear h
      have h := h'; clear h'
      refine st_call (c_spec_keyAt hR20 hx28) rfl ?_
      have hd31 := hB21.ltb
      have hKs := hK.size
      rintro _ σ29 m30 rfl
      replace hR20 := hR20.mod m30
      replace hB21 := hB21.mod0 m30
      replace hK := hK.none m30
      clear hKs m30
      obtain ⟨x32, hx33, h'⟩ := bind_some h
      clear h
      have h := h'; clear h'
      obtain ⟨b35, o36, hi34, -⟩ := hR20.ix hx33
      refine st (v := (pt b35 o36)) (rv_ix Try.underlying23 ti26 rfl rfl hi34) ?_
      obtain ⟨_, ⟨_, _, rfl, rfl, ⟨_, _, rfl, ⟨_, rfl, hR42⟩, rfl⟩⟩, hl38, hc39⟩ := (hR20.at hx33 hi34).cells
      obtain ⟨a40, c41, rfl⟩ := hR42.isSl
      refine st (v := (.agg #[(I x32.1), (Sl a40 x32.2.1 c41), (I x32.2.2)])) (rv_load Try.underlying26 rfl ti26 rfl hl38 hc39) ?_
      obtain ⟨r43, hx44, h'⟩ := bind_some h
      clear h
      have h := h'; clear h'
      refine st_call (c_spec_copyItem hR42 hx44) rfl ?_
      have hd50 := hB21.ltb
      have hKs := hK.size
      rintro _ σ45 m46 ⟨a47, c48, rfl, hR49⟩
      replace hR42 := hR42.mod m46
      replace hB21 := hB21.mod0 m46
      replace hK := hK.none m46
      replace hR49 := hR49.low hKs
      clear hKs m46
      refine st_store_box (cs := [(I 0), (.slice none 0 0), (I 0)]) (vs := [(I r43.1), (Sl a47 r43.2.1 c48), (I r43.2.2)]) ti26 hB21 rfl rfl rfl rfl (Nat.le_of_ble_eq_true rfl) (by simp [plain]) ?_
      intro σ51 m52 hB54 hs53; clear hs53
      replace hR49 := hR49.mod m52
      replace hK := hK.some m52 hge3
      replace hB54 := Bx.cast (cs' := [(I r43.1), (Sl a47 r43.2.1 c48), (I r43.2.2)]) hB54 rfl
      clear hB21
      refine st (v := (B true)) (rv_assign rfl) ?_
      refine w_end ?_
      refine q_then ?_
      refine c_ret ?_
      obtain rfl := Option.some.inj h
      exact bodyPost_ret (v := (.tuple #[(.agg #[(I r43.1), (Sl a47 r43.2.1 c48), (I r43.2.2)]), (B true)])) (results_cell_tmp (cs := [(I r43.1), (Sl a47 r43.2.1 c48), (I r43.2.2)]) Try.results25 Try.underlying26 rfl ti26 rfl rfl rfl hB54) rfl ⟨_, σ51, rfl, rfl, hK, a47, c48, rfl, hR49⟩

theorem c_spec_DrawBoundsOf {σ0 : St} {code_0 : List UInt8} {acode_0 : Option Addr} {ccode_0 : Nat} (hRcode_0 : RS 0 σ0 (Sl acode_0 code_0 ccode_0) code_0) {r : (List (Int × (List Int) × Int))} (h : M.spec_DrawBoundsOf code_0 = some r) :
    Cal Try.prog 27 [(Sl acode_0 code_0 ccode_0)] none σ0 (fun v σ' => ∃ (a0 : Option Addr) (c0 : Nat), v = (Sl a0 r c0) ∧ Ow σ' σ0.size σ0.size (Sl a0 r c0) r) := by
  refine ⟨⟨_, _, Try.func27, rfl, rfl⟩, ?_⟩
  refine enter (n := 6) Try.func27 rfl rfl rfl ?_
  unfold M.spec_DrawBoundsOf at h
  have hK : Mod none σ0 σ0 := Mod.refl _ _
  refine c_seq ?_
  refine rg ?_
  refine st (v := (.slice none 0 0)) (rv_assign rfl) ?_
  refine w_end ?_
  refine q_then ?_
  refine c_seq ?_
  refine rg ?_
  refine st (v := (Sl acode_0 code_0 ccode_0)) (rv_move rfl) ?_
  obtain ⟨r1, hx2, h'⟩ := bind_some h
  clear h
  have h := h'; clear h'
  refine st_call (c_spec_newReader hRcode_0 hx2) rfl ?_
  have hKs := hK.size
  rintro _ σ3 m4 ⟨b5, a8, c9, rfl, hR10, hge6, hB7⟩
  replace hRcode_0 := hRcode_0.mod m4
  replace hK := hK.none m4
  replace hge6 := Nat.le_trans hKs hge6
  clear hKs m4
  obtain ⟨r11, hx12, h'⟩ := bind_some h
  clear h
  have h := h'; clear h'
  refine st_call (c_spec_anyStore hR10 hB7 hB7.lt hx12) rfl ?_
  have hd22 := hB7.ltb
  have hKs := hK.size
  rintro _ σ13 m14 ⟨a15, c16, a18, c19, rfl, hO17, hR20, hB21⟩
  replace hR10 := hR10.mod m14
  replace hK := hK.some m14 hge6
  have hO17g := hO17.ge
  replace hO17 := hO17.lo hKs
  replace hO17 := hO17.low' hKs
  have hd23 := Df.ge hd22 hO17g
  clear hKs m14 hO17g
  refine st (v := (Sl a15 r11.1 c16)) (rv_assign rfl) ?_
  refine w_end ?_
  refine q_then ?_
  refine c_ret ?_
  obtain rfl := Option.some.inj h
  exact bodyPost_ret (v := (Sl a15 r11.1 c16)) (results_fr1 Try.results27 rfl _) rfl ⟨_, σ13, rfl, rfl, hK, a15, c16, rfl, hO17⟩

theorem c_spec_BoundsOf {σ0 : St} {list_0 : List (Int × (List Int) × Int)} {alist_0 : Option Addr} {clist_0 : Nat} (hRlist_0 : RS 0 σ0 (Sl alist_0 list_0 clist_0) list_0) {r : (List Int) × (List Int) × Bool} (h : M.spec_BoundsOf list_0 = some r) :
    Cal Try.prog 29 [(Sl alist_0 list_0 clist_0)] none σ0 (fun v σ' => ∃ (a0 : Option Addr) (c0 : Nat), ∃ (a1 : Option Addr) (c1 : Nat), v = (.tuple #[(Sl a0 r.1 c0), (Sl a1 r.2.1 c1), (B r.2.2)]) ∧ Ow σ' σ0.size σ0.size (Sl a0 r.1 c0) r.1 ∧ Ow σ' σ0.size σ0.size (Sl a1 r.2.1 c1) r.2.1 ∧ Df (blk (Sl a1 r.2.1 c1)) (blk (Sl a0 r.1 c0))) := by
  refine ⟨⟨_, _, Try.func29, rfl, rfl⟩, ?_⟩
  refine enter (n := 71) Try.func29 rfl rfl rfl ?_
  unfold M.spec_BoundsOf at h
  have hK : Mod none σ0 σ0 := Mod.refl _ _
  refine c_seq ?_
  refine rg ?_
  refine st (v := (.slice none 0 0)) (rv_assign rfl) ?_
  refine st (v := (.slice none 0 0)) (rv_assign rfl) ?_
  refine st (v := (B false)) (rv_assign rfl) ?_
  refine w_end ?_
  refine q_then ?_
  refine c_seq ?_
  refine c_seq ?_
  obtain ⟨o1, hj, h'⟩ := bind_some h
  clear h
  refine c_cut (fun e a w => e = .normal ∧ ∃ (ρ : Nat → Value) (σ : St), a = fr 71 (updL ρ [(0, (Sl alist_0 list_0 clist_0)), (16, (B o1))]) ∧ w = σ.w ∧ Mod none σ0 σ ∧ RS 0 σ (Sl alist_0 list_0 clist_0) list_0) ?_ ?_
  · clear h'
    rename _ = some o1 => h
    refine rg ?_
    refine st (v := (Sl alist_0 list_0 clist_0)) (rv_move rfl) ?_
    obtain ⟨r2, hx3, h'⟩ := bind_some h
    clear h
    have h := h'; clear h'
    refine st_call (c_spec_validStore hRlist_0 hx3) rfl ?_
    have hKs := hK.size
    rintro _ σ4 m5 rfl
    replace hRlist_0 := hRlist_0.mod m5
    replace hK := hK.none m5
    clear hKs m5
    refine st (v := (B (!r2))) (rv_not rfl) ?_
    refine st (v := (B (!r2))) (rv_move rfl) ?_
    rcases Bool.eq_false_or_eq_true (!r2) with hb6 | hb6
    · replace h := bif_t hb6 h
      refine st_skip (congrArg some hb6) ?_
      refine st_skip (congrArg some hb6) ?_
      refine st_skip (congrArg some hb6) ?_
      refine st (v := (B true)) (rv_pick_t (congrArg B hb6) rfl) ?_
      refine w_end ?_
      obtain rfl := Option.some.inj h
      exact ⟨rfl, _, σ4, fr_join ⟨rfl, rfl, trivial⟩, rfl, hK, hRlist_0⟩
    · replace h := bif_f hb6 h
      refine st_g (v := (Sl alist_0 list_0 clist_0)) (congrArg some hb6) (rv_move rfl) ?_
      refine st_g (v := (I (list_0.length : Int))) (congrArg some hb6) (rv_len Try.underlying23 rfl) ?_
      refine st_g (v := (B ((list_0.length : Int) == 0))) (congrArg some hb6) (rv_eql (a := (list_0.length : Int)) (b := 0) rfl rfl) ?_
      refine st (v := (B ((list_0.length : Int) == 0))) (rv_pick_f (congrArg B hb6) rfl) ?_
      refine w_end ?_
      obtain rfl := Option.some.inj h
      exact ⟨rfl, _, σ4, fr_join ⟨rfl, rfl, trivial⟩, rfl, hK, hRlist_0⟩
  · clear hj
    have h := h'
    clear h'
    rintro e a w ⟨rfl, ρ, σ7, rfl, rfl, hK, hR8⟩
    refine q_then ?_
    refine cd_cond o1 rfl (fun hb9 => ?_) (fun hb9 => ?_)
    · replace h := bif_t hb9 h
      refine c_seq ?_
      refine rg ?_
      refine st (v := (.slice none 0 0)) (rv_assign rfl) ?_
      refine st (v := (.slice none 0 0)) (rv_assign rfl) ?_
      refine st (v := (B false)) (rv_assign rfl) ?_
      refine w_end ?_
      refine q_then ?_
      refine c_ret ?_
      refine q_then_r ?_
      obtain rfl := Option.some.inj h
      exact bodyPost_ret (v := (.tuple #[(.slice none 0 0), (.slice none 0 0), (B false)])) (results_fr3 Try.results29 rfl rfl rfl _) rfl ⟨_, σ7, rfl, rfl, hK, none, 0, none, 0, rfl, Ow.nil, Ow.nil, (by rintro _ ⟨⟩)⟩
    · replace h := bif_f hb9 h
      refine c_skip ?_
      refine q_then ?_
      refine c_seq ?_
      refine rg ?_
      refine st (v := (Sl alist_0 list_0 clist_0)) (rv_move rfl) ?_
      obtain ⟨x10, hx11, h'⟩ := bind_some h
      clear h
      have h := h'; clear h'
      obtain ⟨b13, o14, hi12, -⟩ := hR8.ix hx11
      refine st (v := (pt b13 o14)) (rv_ix Try.underlying23 ti26 rfl rfl hi12) ?_
      refine st (v := (pt b13 (o14 + 1))) (rv_fieldAddr (off := 1) (ft := 24) Try.underlying26 rfl ti24 rfl rfl) ?_
      obtain ⟨v18, hc19, hR17⟩ := (hR8.at hx11 hi12).snd.fst.slice
      obtain ⟨a15, c16, rfl⟩ := hR17.isSl
      refine st (v := (Sl a15 x10.2.1 c16)) (rv_load1 Try.underlying24 rfl rfl hc19) ?_
      obtain ⟨r20, hx21, h'⟩ := bind_some h
      clear h
      have h := h'; clear h'
      refine st_call (c_spec_copyInts hR17 hx21) rfl ?_
      have hKs := hK.size
      rintro _ σ22 m23 ⟨a24, c25, rfl, hO26⟩
      replace hR8 := hR8.mod m23
      replace hR17 := hR17.mod m23
      replace hK := hK.none m23
      have hO26g := hO26.ge
      replace hO26 := hO26.lo hKs
      replace hO26 := hO26.low' hKs
      clear hKs m23 hO26g
      refine st (v := (Sl a24 r20 c25)) (rv_assign rfl) ?_
      refine w_end ?_
      refine q_then ?_
      refine c_seq ?_
      refine rg ?_
      refine st (v := (Sl alist_0 list_0 clist_0)) (rv_move rfl) ?_
      obtain ⟨x27, hx28, h'⟩ := bind_some h
      clear h
      have h := h'; clear h'
      obtain ⟨b30, o31, hi29, -⟩ := hR8.ix hx28
      refine st (v := (pt b30 o31)) (rv_ix Try.underlying23 ti26 rfl rfl hi29) ?_
      refine st (v := (pt b30 (o31 + 1))) (rv_fieldAddr (off := 1) (ft := 24) Try.underlying26 rfl ti24 rfl rfl) ?_
      obtain ⟨v35, hc36, hR34⟩ := (hR8.at hx28 hi29).snd.fst.slice
      obtain ⟨a32, c33, rfl⟩ := hR34.isSl
      refine st (v := (Sl a32 x27.2.1 c33)) (rv_load1 Try.underlying24 rfl rfl hc36) ?_
      obtain ⟨r37, hx38, h'⟩ := bind_some h
      clear h
      have h := h'; clear h'
      refine st_call (c_spec_copyInts hR34 hx38) rfl ?_
      have hd44 := hO26.ltb
      have hKs := hK.size
      rintro _ σ39 m40 ⟨a41, c42, rfl, hO43⟩
      replace hR8 := hR8.mod m40
      replace hO26 := hO26.mod0 m40
      replace hR34 := hR34.mod m40
      replace hK := hK.none m40
      have hO43g := hO43.ge
      replace hO43 := hO43.lo hKs
      replace hO43 := hO43.low' hKs
      have hd45 := Df.ge hd44 hO43g
      clear hKs m40 hO43g
      refine st (v := (Sl a41 r37 c42)) (rv_assign rfl) ?_
      refine w_end ?_
      refine q_then ?_
      refine c_seq ?_
      refine c_seq ?_
      refine rg ?_
      refine st (v := (I 1)) (rv_assign rfl) ?_
      refine w_end ?_
      refine q_then ?_
      obtain ⟨o46, hj, h'⟩ := bind_some h
      clear h
      refine c_cut (fun e a w => e = .normal ∧ ∃ (ρ : Nat → Value) (σ : St) (aj1 : Option Addr) (cj2 : Nat) (aj4 : Option Addr) (cj5 : Nat), a = fr 71 (updL ρ [(5, (Sl aj1 o46.1 cj2)), (6, (Sl aj4 o46.2 cj5))]) ∧ w = σ.w ∧ Mod none σ0 σ ∧ Ow σ σ0.size σ0.size (Sl aj1 o46.1 cj2) o46.1 ∧ Ow σ σ0.size σ0.size (Sl aj4 o46.2 cj5) o46.2 ∧ Df (blk (Sl aj4 o46.2 cj5)) (blk (Sl aj1 o46.1 cj2))) ?_ ?_
      · clear h'
        rename _ = some o46 => h
        refine c_blk ?_
        refine wp_loopM _ h (fun s47 a w => ∃ (ρ : Nat → Value) (σ : St) (aj2 : Option Addr) (cj3 : Nat) (aj5 : Option Addr) (cj6 : Nat), a = fr 71 (updL ρ [(0, (Sl alist_0 list_0 clist_0)), (5, (Sl aj2 s47.1 cj3)), (6, (Sl aj5 s47.2.1 cj6)), (7, (I s47.2.2))]) ∧ w = σ.w ∧ Mod none σ0 σ ∧ RS 0 σ (Sl alist_0 list_0 clist_0) list_0 ∧ Ow σ σ0.size σ0.size (Sl aj2 s47.1 cj3) s47.1 ∧ Ow σ σ0.size σ0.size (Sl aj5 s47.2.1 cj6) s47.2.1 ∧ Df (blk (Sl aj5 s47.2.1 cj6)) (blk (Sl aj2 s47.1 cj3))) ⟨_, σ39, a24, c25, a41, c42, fr_join ⟨rfl, rfl, rfl, rfl, trivial⟩, rfl, hK, hR8, hO26, hO43, (by first | exact (hd45).symm | exact Df.re (hd45).symm)⟩ ?_
        clear h
        rintro s47 a w o ⟨ρ, σ49, a51, c52, a54, c55, rfl, rfl, hK, hR50, hO53, hO56, hd57⟩ h hres
        refine c_seq ?_
        refine c_seq ?_
        refine rg ?_
        refine st (v := (I s47.2.2)) (rv_move rfl) ?_
        refine st (v := (Sl alist_0 list_0 clist_0)) (rv_move rfl) ?_
        refine st (v := (I (list_0.length : Int))) (rv_len Try.underlying23 rfl) ?_
        refine st (v := (B (decide (s47.2.2 < (list_0.length : Int))))) (rv_lss (a := s47.2.2) (b := (list_0.length : Int)) rfl rfl) ?_
        refine w_end ?_
        refine q_then ?_
        refine cd_cond (decide (s47.2.2 < (list_0.length : Int))) rfl (fun hb58 => ?_) (fun hb58 => ?_)
        · replace h := bif_t hb58 h
          refine c_skip ?_
          refine q_then ?_
          refine c_seq ?_
          refine c_blk ?_
          refine c_seq ?_
          refine rg ?_
          refine st (v := (I 0)) (rv_assign rfl) ?_
          refine w_end ?_
          refine q_then ?_
          obtain ⟨o59, hj, h'⟩ := bind_some h
          clear h
          refine c_cut (fun e a w => e = .normal ∧ ∃ (ρ : Nat → Value) (σ : St) (aj2 : Option Addr) (cj3 : Nat) (aj5 : Option Addr) (cj6 : Nat), a = fr 71 (updL ρ [(0, (Sl alist_0 list_0 clist_0)), (5, (Sl aj2 o59.1 cj3)), (6, (Sl aj5 o59.2 cj6)), (7, (I s47.2.2))]) ∧ w = σ.w ∧ Mod none σ0 σ ∧ RS 0 σ (Sl alist_0 list_0 clist_0) list_0 ∧ Ow σ σ0.size σ0.size (Sl aj2 o59.1 cj3) o59.1 ∧ Ow σ σ0.size σ0.size (Sl aj5 o59.2 cj6) o59.2 ∧ Df (blk (Sl aj5 o59.2 cj6)) (blk (Sl aj2 o59.1 cj3))) ?_ ?_
          · clear h'
            rename _ = some o59 => h
            refine c_blk ?_
            refine wp_loopM _ h (fun s60 a w => ∃ (ρ : Nat → Value) (σ : St) (aj2 : Option Addr) (cj3 : Nat) (aj5 : Option Addr) (cj6 : Nat), a = fr 71 (updL ρ [(0, (Sl alist_0 list_0 clist_0)), (5, (Sl aj2 s60.1 cj3)), (6, (Sl aj5 s60.2.1 cj6)), (7, (I s47.2.2)), (8, (I s60.2.2))]) ∧ w = σ.w ∧ Mod none σ0 σ ∧ RS 0 σ (Sl alist_0 list_0 clist_0) list_0 ∧ Ow σ σ0.size σ0.size (Sl aj2 s60.1 cj3) s60.1 ∧ Ow σ σ0.size σ0.size (Sl aj5 s60.2.1 cj6) s60.2.1 ∧ Df (blk (Sl aj5 s60.2.1 cj6)) (blk (Sl aj2 s60.1 cj3))) ⟨_, σ49, a51, c52, a54, c55, fr_join ⟨rfl, rfl, rfl, rfl, rfl, trivial⟩, rfl, hK, hR50, hO53, hO56, (by first | exact hd57 | exact Df.re hd57)⟩ ?_
            clear h
            rintro s60 a w o ⟨ρ, σ62, a64, c65, a67, c68, rfl, rfl, hK, hR63, hO66, hO69, hd70⟩ h hres
            refine c_seq ?_
            refine c_seq ?_
            refine rg ?_
            refine st (v := (I s60.2.2)) (rv_move rfl) ?_
            refine st (v := (B (decide (s60.2.2 < 4)))) (rv_lss (a := s60.2.2) (b := 4) rfl rfl) ?_
            refine w_end ?_
            refine q_then ?_
            refine cd_cond (decide (s60.2.2 < 4)) rfl (fun hb71 => ?_) (fun hb71 => ?_)
            · replace h := bif_t hb71 h
              refine c_skip ?_
              refine q_then ?_
              refine c_seq ?_
              refine c_blk ?_
              refine c_seq ?_
              obtain ⟨x72, hx73, h'⟩ := bind_some h
              clear h
              have h := h'; clear h'
              obtain ⟨b75, o76, hi74, -⟩ := hO66.ix hx73
              obtain ⟨x77, hx78, h'⟩ := bind_some h
              clear h
              have h := h'; clear h'
              obtain ⟨b80, o81, hi79, -⟩ := hR63.ix hx78
              obtain ⟨v85, hc86, hR84⟩ := (hR63.at hx78 hi79).snd.fst.slice
              obtain ⟨a82, c83, rfl⟩ := hR84.isSl
              obtain ⟨x87, hx88, h'⟩ := bind_some h
              clear h
              have h := h'; clear h'
              obtain ⟨b90, o91, hi89, -⟩ := hR84.ix hx88
              refine rg_monoL (σ := σ62) 15 [eqv (Sl a64 s60.1 c65), eqv (I s60.2.2), eqv (Sl a64 s60.1 c65), eqv (I s60.2.2), eqv (pt b75 o76), eqv (I x72), eqv (Sl alist_0 list_0 clist_0), eqv (I s47.2.2), eqv (pt b80 o81), eqv (pt b80 (o81 + 1)), eqv (Sl a82 x77.2.1 c83), eqv (I s60.2.2), eqv (pt b90 o91), eqv (I x87), eqv (I (min x72 x87))] (by kernel_rfl) (by kernel_rfl) (mono_cons mono_eqv (mono_cons mono_eqv (mono_cons mono_eqv (mono_cons mono_eqv (mono_cons mono_eqv (mono_cons mono_eqv (mono_cons mono_eqv (mono_cons mono_eqv (mono_cons mono_eqv (mono_cons mono_eqv (mono_cons mono_eqv (mono_cons mono_eqv (mono_cons mono_eqv (mono_cons mono_eqv (mono_cons mono_eqv (mono_nil)))))))))))))))) ?_ ?_
              · refine all_cons (by
                    intro ρ σm m hoff hdep
                    have e5 : look 71 ρ 5 = (Sl a64 s60.1 c65) := look_off (hoff 5 rfl) rfl
                    exact does_v (v := (Sl a64 s60.1 c65)) (wanted_none _ rfl _) (rv_move e5) rfl) ?_
                refine all_cons (by
                    intro ρ σm m hoff hdep
                    have e8 : look 71 ρ 8 = (I s60.2.2) := look_off (hoff 8 rfl) rfl
                    exact does_v (v := (I s60.2.2)) (wanted_none _ rfl _) (rv_move e8) rfl) ?_
                refine all_cons (by
                    intro ρ σm m hoff hdep
                    have e5 : look 71 ρ 5 = (Sl a64 s60.1 c65) := look_off (hoff 5 rfl) rfl
                    exact does_v (v := (Sl a64 s60.1 c65)) (wanted_none _ rfl _) (rv_move e5) rfl) ?_
                refine all_cons (by
                    intro ρ σm m hoff hdep
                    have e8 : look 71 ρ 8 = (I s60.2.2) := look_off (hoff 8 rfl) rfl
                    exact does_v (v := (I s60.2.2)) (wanted_none _ rfl _) (rv_move e8) rfl) ?_
                refine all_cons (by
                    intro ρ σm m hoff hdep
                    have e39 : look 71 ρ 39 = (Sl a64 s60.1 c65) := hdep 2 rfl rfl 39 rfl
                    have e40 : look 71 ρ 40 = (I s60.2.2) := hdep 3 rfl rfl 40 rfl
                    exact does_v (v := (pt b75 o76)) (wanted_none _ rfl _) (rv_ix Try.underlying24 ti3 e39 e40 hi74) rfl) ?_
                refine all_cons (by
                    intro ρ σm m hoff hdep
                    have e41 : look 71 ρ 41 = (pt b75 o76) := hdep 4 rfl rfl 41 rfl
                    replace hO66 := hO66.mod0 m
                    exact does_v (v := (I x72)) (wanted_none _ rfl _) (rv_load1 Try.underlying3 rfl e41 (hO66.at hx73 hi74).int) rfl) ?_
                refine all_cons (by
                    intro ρ σm m hoff hdep
                    have e0 : look 71 ρ 0 = (Sl alist_0 list_0 clist_0) := look_off (hoff 0 rfl) rfl
                    exact does_v (v := (Sl alist_0 list_0 clist_0)) (wanted_none _ rfl _) (rv_move e0) rfl) ?_
                refine all_cons (by
                    intro ρ σm m hoff hdep
                    have e7 : look 71 ρ 7 = (I s47.2.2) := look_off (hoff 7 rfl) rfl
                    exact does_v (v := (I s47.2.2)) (wanted_none _ rfl _) (rv_move e7) rfl) ?_
                refine all_cons (by
                    intro ρ σm m hoff hdep
                    have e43 : look 71 ρ 43 = (Sl alist_0 list_0 clist_0) := hdep 6 rfl rfl 43 rfl
                    have e44 : look 71 ρ 44 = (I s47.2.2) := hdep 7 rfl rfl 44 rfl
                    exact does_v (v := (pt b80 o81)) (wanted_none _ rfl _) (rv_ix Try.underlying23 ti26 e43 e44 hi79) rfl) ?_
                refine all_cons (by
                    intro ρ σm m hoff hdep
                    have e45 : look 71 ρ 45 = (pt b80 o81) := hdep 8 rfl rfl 45 rfl
                    exact does_v (v := (pt b80 (o81 + 1))) (wanted_none _ rfl _) (rv_fieldAddr (off := 1) (ft := 24) Try.underlying26 rfl ti24 rfl e45) rfl) ?_
                refine all_cons (by
                    intro ρ σm m hoff hdep
                    have e46 : look 71 ρ 46 = (pt b80 (o81 + 1)) := hdep 9 rfl rfl 46 rfl
                    replace hc86 := hR63.hmod hx78 hi79 (k := 1) (by decide) hc86 m
                    exact does_v (v := (Sl a82 x77.2.1 c83)) (wanted_none _ rfl _) (rv_load1 Try.underlying24 rfl e46 hc86) rfl) ?_
                refine all_cons (by
                    intro ρ σm m hoff hdep
                    have e8 : look 71 ρ 8 = (I s60.2.2) := look_off (hoff 8 rfl) rfl
                    exact does_v (v := (I s60.2.2)) (wanted_none _ rfl _) (rv_move e8) rfl) ?_
                refine all_cons (by
                    intro ρ σm m hoff hdep
                    have e47 : look 71 ρ 47 = (Sl a82 x77.2.1 c83) := hdep 10 rfl rfl 47 rfl
                    have e48 : look 71 ρ 48 = (I s60.2.2) := hdep 11 rfl rfl 48 rfl
                    exact does_v (v := (pt b90 o91)) (wanted_none _ rfl _) (rv_ix Try.underlying24 ti3 e47 e48 hi89) rfl) ?_
                refine all_cons (by
                    intro ρ σm m hoff hdep
                    have e49 : look 71 ρ 49 = (pt b90 o91) := hdep 12 rfl rfl 49 rfl
                    replace hR84 := hR84.mod m
                    exact does_v (v := (I x87)) (wanted_none _ rfl _) (rv_load1 Try.underlying3 rfl e49 (hR84.at hx88 hi89).int) rfl) ?_
                refine all_cons (by
                    intro ρ σm m hoff hdep
                    have e42 : look 71 ρ 42 = (I x72) := hdep 5 rfl rfl 42 rfl
                    have e50 : look 71 ρ 50 = (I x87) := hdep 13 rfl rfl 50 rfl
                    exact does_v (v := (I (min x72 x87))) (wanted_none _ rfl _) (rv_min e42 e50) rfl) ?_
                exact all_nil
              · intro ρ σ92 m hoff hrel
                have e0 : look 71 ρ 0 = (Sl alist_0 list_0 clist_0) := look_off (hoff 0 rfl) rfl
                have e5 : look 71 ρ 5 = (Sl a64 s60.1 c65) := look_off (hoff 5 rfl) rfl
                have e6 : look 71 ρ 6 = (Sl a67 s60.2.1 c68) := look_off (hoff 6 rfl) rfl
                have e7 : look 71 ρ 7 = (I s47.2.2) := look_off (hoff 7 rfl) rfl
                have e8 : look 71 ρ 8 = (I s60.2.2) := look_off (hoff 8 rfl) rfl
                have e37 : look 71 ρ 37 = (Sl a64 s60.1 c65) := hrel 0 rfl 37 rfl
                have e38 : look 71 ρ 38 = (I s60.2.2) := hrel 1 rfl 38 rfl
                have e51 : look 71 ρ 51 = (I (min x72 x87)) := hrel 14 rfl 51 rfl
                replace hR63 := hR63.mod m
                replace hO66 := hO66.mod0 m
                replace hO69 := hO69.mod0 m
                replace hK := hK.none m
                rw [fr_lookL (L := [(0, (Sl alist_0 list_0 clist_0)), (5, (Sl a64 s60.1 c65)), (6, (Sl a67 s60.2.1 c68)), (7, (I s47.2.2)), (8, (I s60.2.2)), (37, (Sl a64 s60.1 c65)), (38, (I s60.2.2)), (51, (I (min x72 x87)))]) ⟨e0, e5, e6, e7, e8, e37, e38, e51, trivial⟩]
                clear hoff hrel m e0 e5 e6 e7 e8 e37 e38 e51
                obtain ⟨x93, hx94, h'⟩ := bind_some h
                clear h
                have h := h'; clear h'
                obtain ⟨b96, o97, hi95, -⟩ := hO66.ix hx94
                refine st (v := (pt b96 o97)) (rv_ix Try.underlying24 ti3 rfl rfl hi95) ?_
                have hg102 := hO66.ge
                refine st_store_own (e' := (min x72 x87)) (vs := [(I (min x72 x87))]) (k := 0) ti3 hO66 hx94 hi95 rfl rfl rfl rfl rfl (Nat.le_of_ble_eq_true rfl) (by simp [plain]) (by rintro _ rfl; exact rfl) ?_
                intro σ98 m99 hO101 hs100; clear hs100
                replace hR63 := hR63.mod m99
                replace hO69 := hO69.mod' m99 (by first | exact hd70 | exact Df.re hd70)
                replace hK := hK.own m99 hg102
                replace hO101 := Ow.relen hO101 List.length_set.symm
                rw [show (Sl a64 s60.1 c65) = (Sl a64 (s60.1.set s60.2.2.toNat (min x72 x87)) c65) from sl_len List.length_set.symm]
                refine w_end ?_
                refine q_then ?_
                obtain ⟨x103, hx104, h'⟩ := bind_some h
                clear h
                have h := h'; clear h'
                obtain ⟨b106, o107, hi105, -⟩ := hO69.ix hx104
                obtain ⟨x108, hx109, h'⟩ := bind_some h
                clear h
                have h := h'; clear h'
                obtain ⟨b111, o112, hi110, -⟩ := hR63.ix hx109
                obtain ⟨v116, hc117, hR115⟩ := (hR63.at hx109 hi110).snd.fst.slice
                obtain ⟨a113, c114, rfl⟩ := hR115.isSl
                obtain ⟨x118, hx119, h'⟩ := bind_some h
                clear h
                have h := h'; clear h'
                obtain ⟨b121, o122, hi120, -⟩ := hR115.ix hx119
                refine rg_monoL (σ := σ98) 15 [eqv (Sl a67 s60.2.1 c68), eqv (I s60.2.2), eqv (Sl a67 s60.2.1 c68), eqv (I s60.2.2), eqv (pt b106 o107), eqv (I x103), eqv (Sl alist_0 list_0 clist_0), eqv (I s47.2.2), eqv (pt b111 o112), eqv (pt b111 (o112 + 1)), eqv (Sl a113 x108.2.1 c114), eqv (I s60.2.2), eqv (pt b121 o122), eqv (I x118), eqv (I (max x103 x118))] (by kernel_rfl) (by kernel_rfl) (mono_cons mono_eqv (mono_cons mono_eqv (mono_cons mono_eqv (mono_cons mono_eqv (mono_cons mono_eqv (mono_cons mono_eqv (mono_cons mono_eqv (mono_cons mono_eqv (mono_cons mono_eqv (mono_cons mono_eqv (mono_cons mono_eqv (mono_cons mono_eqv (mono_cons mono_eqv (mono_cons mono_eqv (mono_cons mono_eqv (mono_nil)))))))))))))))) ?_ ?_
                · refine all_cons (by
                      intro ρ σm m hoff hdep
                      have e6 : look 71 ρ 6 = (Sl a67 s60.2.1 c68) := look_off (hoff 6 rfl) rfl
                      exact does_v (v := (Sl a67 s60.2.1 c68)) (wanted_none _ rfl _) (rv_move e6) rfl) ?_
                  refine all_cons (by
                      intro ρ σm m hoff hdep
                      have e8 : look 71 ρ 8 = (I s60.2.2) := look_off (hoff 8 rfl) rfl
                      exact does_v (v := (I s60.2.2)) (wanted_none _ rfl _) (rv_move e8) rfl) ?_
                  refine all_cons (by
                      intro ρ σm m hoff hdep
                      have e6 : look 71 ρ 6 = (Sl a67 s60.2.1 c68) := look_off (hoff 6 rfl) rfl
                      exact does_v (v := (Sl a67 s60.2.1 c68)) (wanted_none _ rfl _) (rv_move e6) rfl) ?_
                  refine all_cons (by
                      intro ρ σm m hoff hdep
                      have e8 : look 71 ρ 8 = (I s60.2.2) := look_off (hoff 8 rfl) rfl
                      exact does_v (v := (I s60.2.2)) (wanted_none _ rfl _) (rv_move e8) rfl) ?_
                  refine all_cons (by
                      intro ρ σm m hoff hdep
                      have e55 : look 71 ρ 55 = (Sl a67 s60.2.1 c68) := hdep 2 rfl rfl 55 rfl
                      have e56 : look 71 ρ 56 = (I s60.2.2) := hdep 3 rfl rfl 56 rfl
                      exact does_v (v := (pt b106 o107)) (wanted_none _ rfl _) (rv_ix Try.underlying24 ti3 e55 e56 hi105) rfl) ?_
                  refine all_cons (by
                      intro ρ σm m hoff hdep
                      have e57 : look 71 ρ 57 = (pt b106 o107) := hdep 4 rfl rfl 57 rfl
                      replace hO69 := hO69.mod0 m
                      exact does_v (v := (I x103)) (wanted_none _ rfl _) (rv_load1 Try.underlying3 rfl e57 (hO69.at hx104 hi105).int) rfl) ?_
                  refine all_cons (by
                      intro ρ σm m hoff hdep
                      have e0 : look 71 ρ 0 = (Sl alist_0 list_0 clist_0) := look_off (hoff 0 rfl) rfl
                      exact does_v (v := (Sl alist_0 list_0 clist_0)) (wanted_none _ rfl _) (rv_move e0) rfl) ?_
                  refine all_cons (by
                      intro ρ σm m hoff hdep
                      have e7 : look 71 ρ 7 = (I s47.2.2) := look_off (hoff 7 rfl) rfl
                      exact does_v (v := (I s47.2.2)) (wanted_none _ rfl _) (rv_move e7) rfl) ?_
                  refine all_cons (by
                      intro ρ σm m hoff hdep
                      have e59 : look 71 ρ 59 = (Sl alist_0 list_0 clist_0) := hdep 6 rfl rfl 59 rfl
                      have e60 : look 71 ρ 60 = (I s47.2.2) := hdep 7 rfl rfl 60 rfl
                      exact does_v (v := (pt b111 o112)) (wanted_none _ rfl _) (rv_ix Try.underlying23 ti26 e59 e60 hi110) rfl) ?_
                  refine all_cons (by
                      intro ρ σm m hoff hdep
                      have e61 : look 71 ρ 61 = (pt b111 o112) := hdep 8 rfl rfl 61 rfl
                      exact does_v (v := (pt b111 (o112 + 1))) (wanted_none _ rfl _) (rv_fieldAddr (off := 1) (ft := 24) Try.underlying26 rfl ti24 rfl e61) rfl) ?_
                  refine all_cons (by
                      intro ρ σm m hoff hdep
                      have e62 : look 71 ρ 62 = (pt b111 (o112 + 1)) := hdep 9 rfl rfl 62 rfl
                      replace hc117 := hR63.hmod hx109 hi110 (k := 1) (by decide) hc117 m
                      exact does_v (v := (Sl a113 x108.2.1 c114)) (wanted_none _ rfl _) (rv_load1 Try.underlying24 rfl e62 hc117) rfl) ?_
                  refine all_cons (by
                      intro ρ σm m hoff hdep
                      have e8 : look 71 ρ 8 = (I s60.2.2) := look_off (hoff 8 rfl) rfl
                      exact does_v (v := (I s60.2.2)) (wanted_none _ rfl _) (rv_move e8) rfl) ?_
                  refine all_cons (by
                      intro ρ σm m hoff hdep
                      have e63 : look 71 ρ 63 = (Sl a113 x108.2.1 c114) := hdep 10 rfl rfl 63 rfl
                      have e64 : look 71 ρ 64 = (I s60.2.2) := hdep 11 rfl rfl 64 rfl
                      exact does_v (v := (pt b121 o122)) (wanted_none _ rfl _) (rv_ix Try.underlying24 ti3 e63 e64 hi120) rfl) ?_
                  refine all_cons (by
                      intro ρ σm m hoff hdep
                      have e65 : look 71 ρ 65 = (pt b121 o122) := hdep 12 rfl rfl 65 rfl
                      replace hR115 := hR115.mod m
                      exact does_v (v := (I x118)) (wanted_none _ rfl _) (rv_load1 Try.underlying3 rfl e65 (hR115.at hx119 hi120).int) rfl) ?_
                  refine all_cons (by
                      intro ρ σm m hoff hdep
                      have e58 : look 71 ρ 58 = (I x103) := hdep 5 rfl rfl 58 rfl
                      have e66 : look 71 ρ 66 = (I x118) := hdep 13 rfl rfl 66 rfl
                      exact does_v (v := (I (max x103 x118))) (wanted_none _ rfl _) (rv_max e58 e66) rfl) ?_
                  exact all_nil
                · intro ρ σ123 m hoff hrel
                  have e0 : look 71 ρ 0 = (Sl alist_0 list_0 clist_0) := look_off (hoff 0 rfl) rfl
                  have e5 : look 71 ρ 5 = (Sl a64 (s60.1.set s60.2.2.toNat (min x72 x87)) c65) := look_off (hoff 5 rfl) rfl
                  have e6 : look 71 ρ 6 = (Sl a67 s60.2.1 c68) := look_off (hoff 6 rfl) rfl
                  have e7 : look 71 ρ 7 = (I s47.2.2) := look_off (hoff 7 rfl) rfl
                  have e8 : look 71 ρ 8 = (I s60.2.2) := look_off (hoff 8 rfl) rfl
                  have e53 : look 71 ρ 53 = (Sl a67 s60.2.1 c68) := hrel 0 rfl 53 rfl
                  have e54 : look 71 ρ 54 = (I s60.2.2) := hrel 1 rfl 54 rfl
                  have e67 : look 71 ρ 67 = (I (max x103 x118)) := hrel 14 rfl 67 rfl
                  replace hR63 := hR63.mod m
                  replace hO101 := hO101.mod0 m
                  replace hO69 := hO69.mod0 m
                  replace hK := hK.none m
                  rw [fr_lookL (L := [(0, (Sl alist_0 list_0 clist_0)), (5, (Sl a64 (s60.1.set s60.2.2.toNat (min x72 x87)) c65)), (6, (Sl a67 s60.2.1 c68)), (7, (I s47.2.2)), (8, (I s60.2.2)), (53, (Sl a67 s60.2.1 c68)), (54, (I s60.2.2)), (67, (I (max x103 x118)))]) ⟨e0, e5, e6, e7, e8, e53, e54, e67, trivial⟩]
                  clear hoff hrel m e0 e5 e6 e7 e8 e53 e54 e67
                  obtain ⟨x124, hx125, h'⟩ := bind_some h
                  clear h
                  have h := h'; clear h'
                  obtain ⟨b127, o128, hi126, -⟩ := hO69.ix hx125
                  refine st (v := (pt b127 o128)) (rv_ix Try.underlying24 ti3 rfl rfl hi126) ?_
                  have hg133 := hO69.ge
                  refine st_store_own (e' := (max x103 x118)) (vs := [(I (max x103 x118))]) (k := 0) ti3 hO69 hx125 hi126 rfl rfl rfl rfl rfl (Nat.le_of_ble_eq_true rfl) (by simp [plain]) (by rintro _ rfl; exact rfl) ?_
                  intro σ129 m130 hO132 hs131; clear hs131
                  replace hR63 := hR63.mod m130
                  replace hO101 := hO101.mod' m130 (by first | exact (hd70).symm | exact Df.re (hd70).symm)
                  replace hK := hK.own m130 hg133
                  replace hO132 := Ow.relen hO132 List.length_set.symm
                  rw [show (Sl a67 s60.2.1 c68) = (Sl a67 (s60.2.1.set s60.2.2.toNat (max x103 x118)) c68) from sl_len List.length_set.symm]
                  refine w_end ?_
                  refine q_blk ?_
                  refine q_then ?_
                  refine rg ?_
                  refine st (v := (I s60.2.2)) (rv_move rfl) ?_
                  refine st (v := (I (w64 (s60.2.2 + 1)))) (rv_add (a := s60.2.2) (b := 1) rfl rfl) ?_
                  refine st (v := (I (w64 (s60.2.2 + 1)))) (rv_assign rfl) ?_
                  refine w_end ?_
                  refine q_then ?_
                  obtain rfl := Option.some.inj h
                  exact ⟨_, rfl, _, σ129, a64, c65, a67, c68, fr_join ⟨rfl, rfl, rfl, rfl, rfl, trivial⟩, rfl, hK, hR63, hO101, hO132, (by first | exact hd70 | exact Df.re hd70)⟩
            · replace h := bif_f hb71 h
              refine c_exit ?_
              refine q_then_x ?_
              refine q_then_x ?_
              refine q_blk_hit ?_
              obtain rfl := Option.some.inj h
              obtain rfl := hres _ rfl
              exact ⟨rfl, _, σ62, a64, c65, a67, c68, fr_join ⟨rfl, rfl, rfl, rfl, trivial⟩, rfl, hK, hR63, hO66, hO69, (by first | exact hd70 | exact Df.re hd70)⟩
          · clear hj
            have h := h'
            clear h'
            rintro e a w ⟨rfl, ρ, σ134, a136, c137, a139, c140, rfl, rfl, hK, hR135, hO138, hO141, hd142⟩
            refine q_blk ?_
            refine q_then ?_
            refine rg ?_
            refine st (v := (I s47.2.2)) (rv_move rfl) ?_
            refine st (v := (I (w64 (s47.2.2 + 1)))) (rv_add (a := s47.2.2) (b := 1) rfl rfl) ?_
            refine st (v := (I (w64 (s47.2.2 + 1)))) (rv_assign rfl) ?_
            refine w_end ?_
            refine q_then ?_
            obtain rfl := Option.some.inj h
            exact ⟨_, rfl, _, σ134, a136, c137, a139, c140, fr_join ⟨rfl, rfl, rfl, rfl, trivial⟩, rfl, hK, hR135, hO138, hO141, (by first | exact hd142 | exact Df.re hd142)⟩
        · replace h := bif_f hb58 h
          refine c_exit ?_
          refine q_then_x ?_
          refine q_then_x ?_
          refine q_blk_hit ?_
          obtain rfl := Option.some.inj h
          obtain rfl := hres _ rfl
          exact ⟨rfl, _, σ49, a51, c52, a54, c55, fr_join ⟨rfl, rfl, trivial⟩, rfl, hK, hO53, hO56, (by first | exact hd57 | exact Df.re hd57)⟩
      · clear hj
        have h := h'
        clear h'
        rintro e a w ⟨rfl, ρ, σ143, a144, c145, a147, c148, rfl, rfl, hK, hO146, hO149, hd150⟩
        refine q_then ?_
        refine c_seq ?_
        refine rg ?_
        refine st (v := (Sl a144 o46.1 c145)) (rv_move rfl) ?_
        refine st (v := (Sl a147 o46.2 c148)) (rv_move rfl) ?_
        refine st (v := (Sl a144 o46.1 c145)) (rv_assign rfl) ?_
        refine st (v := (Sl a147 o46.2 c148)) (rv_assign rfl) ?_
        refine st (v := (B true)) (rv_assign rfl) ?_
        refine w_end ?_
        refine q_then ?_
        refine c_ret ?_
        obtain rfl := Option.some.inj h
        exact bodyPost_ret (v := (.tuple #[(Sl a144 o46.1 c145), (Sl a147 o46.2 c148), (B true)])) (results_fr3 Try.results29 rfl rfl rfl _) rfl ⟨_, σ143, rfl, rfl, hK, a144, c145, a147, c148, rfl, hO146, hO149, (by first | exact hd150 | exact Df.re hd150)⟩

theorem c_spec_anyKind {σ0 : St} {r_0 : (List UInt8) × Int} {ar_0_0 : Option Addr} {cr_0_0 : Nat} (hRr_0_0 : RS 0 σ0 (Sl ar_0_0 r_0.1 cr_0_0) r_0.1) {br_0 : Nat} (hBr_0 : Bx σ0 br_0 [(Sl ar_0_0 r_0.1 cr_0_0), (I r_0.2)])  (hltr_0 : br_0 < σ0.size) {r : Int × ((List UInt8) × Int)} (h : M.spec_anyKind r_0 = some r) :
    Cal Try.prog 60 [(pt br_0 0)] (some br_0) σ0 (fun v σ' => ∃ (a0 : Option Addr) (c0 : Nat), v = (I r.1) ∧ RS 0 σ' (Sl a0 r.2.1 c0) r.2.1 ∧ Bx σ' br_0 [(Sl a0 r.2.1 c0), (I r.2.2)]) := by
  refine ⟨⟨_, _, Try.func60, rfl, rfl⟩, ?_⟩
  refine enter (n := 6) Try.func60 rfl rfl rfl ?_
  unfold M.spec_anyKind at h
  have hK : Mod (some br_0) σ0 σ0 := Mod.refl _ _
  refine c_seq ?_
  refine rg ?_
  refine st (v := (I 0)) (rv_assign rfl) ?_
  refine w_end ?_
  refine q_then ?_
  refine c_seq ?_
  refine rg ?_
  refine st (v := (pt br_0 0)) (rv_move rfl) ?_
  refine st_buildSlice (lo := σ0.size) (el := σ0.size) (xs := ([1, 2, 3, 4, 1, 2, 3, 4, 1, 2, 0, 5] : List Int)) (ps := [(0, (I 1)), (1, (I 2)), (2, (I 3)), (3, (I 4)), (4, (I 1)), (5, (I 2)), (6, (I 3)), (7, (I 4)), (8, (I 1)), (9, (I 2)), (10, (I 0)), (11, (I 5))]) (cs := [(I 1), (I 2), (I 3), (I 4), (I 1), (I 2), (I 3), (I 4), (I 1), (I 2), (I 0), (I 5)]) Try.underlying24 ti3 rfl rfl (by kernel_rfl) (.cons (c := [(I 1)]) rfl (.cons (c := [(I 2)]) rfl (.cons (c := [(I 3)]) rfl (.cons (c := [(I 4)]) rfl (.cons (c := [(I 1)]) rfl (.cons (c := [(I 2)]) rfl (.cons (c := [(I 3)]) rfl (.cons (c := [(I 4)]) rfl (.cons (c := [(I 1)]) rfl (.cons (c := [(I 2)]) rfl (.cons (c := [(I 0)]) rfl (.cons (c := [(I 5)]) rfl (.nil))))))))))))) rfl ?_ hK.size (wanted_none _ rfl _)
  intro b2 σ3 hbn5 m4 hO1
  replace hRr_0_0 := hRr_0_0.mod m4
  replace hBr_0 := hBr_0.mod0 m4
  replace hK := hK.none m4
  clear hbn5 m4
  have hg10 := hO1.ge
  obtain ⟨σ6, hw9, m7, hR8⟩ := hO1.pub' (Nat.le_refl _)
  rw [← hw9]; clear hw9
  replace hRr_0_0 := hRr_0_0.mod m7
  replace hBr_0 := hBr_0.mod' m7 (Df.ge (by rintro _ ⟨⟩; exact hltr_0) hO1.ge)
  replace hK := hK.own m7 hg10
  obtain ⟨r11, hx12, h'⟩ := bind_some h
  clear h
  have h := h'; clear h'
  refine st_call (c_spec_reader_one hRr_0_0 hBr_0 hBr_0.lt (hR8.low (Nat.zero_le _)) hx12) rfl ?_
  have hKs := hK.size
  rintro _ σ13 m14 ⟨a15, c16, rfl, hR17, hB18⟩
  replace hRr_0_0 := hRr_0_0.mod m14
  replace hR8 := hR8.mod m14
  replace hK := hK.self m14
  clear hKs m14
  refine st (v := (I r11.1)) (rv_assign rfl) ?_
  refine w_end ?_
  refine q_then ?_
  refine c_ret ?_
  obtain rfl := Option.some.inj h
  exact bodyPost_ret (v := (I r11.1)) (results_fr1 Try.results60 rfl _) rfl ⟨_, σ13, rfl, rfl, hK, a15, c16, rfl, hR17, hB18⟩

theorem c_spec_DrawDistance {σ0 : St} {code_0 : List UInt8} {acode_0 : Option Addr} {ccode_0 : Nat} (hRcode_0 : RS 0 σ0 (Sl acode_0 code_0 ccode_0) code_0) {r : Int × (List Int) × (List Int)} (h : M.spec_DrawDistance code_0 = some r) :
    Cal Try.prog 31 [(Sl acode_0 code_0 ccode_0)] none σ0 (fun v σ' => ∃ (a0 : Option Addr) (c0 : Nat), ∃ (a1 : Option Addr) (c1 : Nat), v = (.tuple #[(I r.1), (Sl a0 r.2.1 c0), (Sl a1 r.2.2 c1)]) ∧ Ow σ' σ0.size σ0.size (Sl a0 r.2.1 c0) r.2.1 ∧ Ow σ' σ0.size σ0.size (Sl a1 r.2.2 c1) r.2.2 ∧ Df (blk (Sl a1 r.2.2 c1)) (blk (Sl a0 r.2.1 c0))) := by
  refine ⟨⟨_, _, Try.func31, rfl, rfl⟩, ?_⟩
  refine enter (n := 18) Try.func31 rfl rfl rfl ?_
  unfold M.spec_DrawDistance at h
  have hK : Mod none σ0 σ0 := Mod.refl _ _
  refine c_seq ?_
  refine rg ?_
  refine st (v := (I 0)) (rv_assign rfl) ?_
  refine st (v := (.slice none 0 0)) (rv_assign rfl) ?_
  refine st (v := (.slice none 0 0)) (rv_assign rfl) ?_
  refine w_end ?_
  refine q_then ?_
  refine c_seq ?_
  refine rg ?_
  refine st (v := (Sl acode_0 code_0 ccode_0)) (rv_move rfl) ?_
  obtain ⟨r1, hx2, h'⟩ := bind_some h
  clear h
  have h := h'; clear h'
  refine st_call (c_spec_newReader hRcode_0 hx2) rfl ?_
  have hKs := hK.size
  rintro _ σ3 m4 ⟨b5, a8, c9, rfl, hR10, hge6, hB7⟩
  replace hRcode_0 := hRcode_0.mod m4
  replace hK := hK.none m4
  replace hge6 := Nat.le_trans hKs hge6
  clear hKs m4
  refine st (v := (pt b5 0)) (rv_assign rfl) ?_
  refine w_end ?_
  refine q_then ?_
  refine c_seq ?_
  refine rg ?_
  refine st (v := (pt b5 0)) (rv_move rfl) ?_
  obtain ⟨r11, hx12, h'⟩ := bind_some h
  clear h
  have h := h'; clear h'
  refine st_call (c_spec_anyKind hR10 hB7 hB7.lt hx12) rfl ?_
  have hd19 := hB7.ltb
  have hKs := hK.size
  rintro _ σ13 m14 ⟨a15, c16, rfl, hR17, hB18⟩
  replace hR10 := hR10.mod m14
  replace hK := hK.some m14 hge6
  clear hKs m14
  refine st (v := (I r11.1)) (rv_assign rfl) ?_
  refine w_end ?_
  refine q_then ?_
  refine c_seq ?_
  refine rg ?_
  refine st (v := (pt b5 0)) (rv_move rfl) ?_
  obtain ⟨r20, hx21, h'⟩ := bind_some h
  clear h
  have h := h'; clear h'
  refine st_call (c_spec_anyVector hR17 hB18 hB18.lt hx21) rfl ?_
  have hd31 := hB18.ltb
  have hKs := hK.size
  rintro _ σ22 m23 ⟨a24, c25, a27, c28, rfl, hO26, hR29, hB30⟩
  replace hR17 := hR17.mod m23
  replace hK := hK.some m23 hge6
  have hO26g := hO26.ge
  replace hO26 := hO26.lo hKs
  replace hO26 := hO26.low' hKs
  have hd32 := Df.ge hd31 hO26g
  clear hKs m23 hO26g
  refine st (v := (Sl a24 r20.1 c25)) (rv_assign rfl) ?_
  refine w_end ?_
  refine q_then ?_
  refine c_seq ?_
  refine rg ?_
  refine st (v := (I r11.1)) (rv_move rfl) ?_
  refine st (v := (Sl a24 r20.1 c25)) (rv_move rfl) ?_
  refine st (v := (pt b5 0)) (rv_move rfl) ?_
  obtain ⟨r33, hx34, h'⟩ := bind_some h
  clear h
  have h := h'; clear h'
  refine st_call (c_spec_anyVector hR29 hB30 hB30.lt hx34) rfl ?_
  have hd44 := hO26.ltb
  have hd45 := hB30.ltb
  have hKs := hK.size
  rintro _ σ35 m36 ⟨a37, c38, a40, c41, rfl, hO39, hR42, hB43⟩
  replace hO26 := hO26.mod' m36 (by first | exact (hd32).symm | exact Df.reL (hd32).symm)
  replace hR29 := hR29.mod m36
  replace hK := hK.some m36 hge6
  have hO39g := hO39.ge
  replace hO39 := hO39.lo hKs
  replace hO39 := hO39.low' hKs
  have hd46 := Df.ge hd44 hO39g
  have hd47 := Df.ge hd45 hO39g
  clear hKs m36 hO39g
  refine st (v := (I r11.1)) (rv_assign rfl) ?_
  refine st (v := (Sl a24 r20.1 c25)) (rv_assign rfl) ?_
  refine st (v := (Sl a37 r33.1 c38)) (rv_assign rfl) ?_
  refine w_end ?_
  refine q_then ?_
  refine c_ret ?_
  obtain rfl := Option.some.inj h
  exact bodyPost_ret (v := (.tuple #[(I r11.1), (Sl a24 r20.1 c25), (Sl a37 r33.1 c38)])) (results_fr3 Try.results31 rfl rfl rfl _) rfl ⟨_, σ35, rfl, rfl, hK, a24, c25, a37, c38, rfl, hO26, hO39, (by first | exact (hd46).symm | exact Df.re (hd46).symm)⟩

theorem c_impl_distanceOf {σ0 : St} {kind_0 : Int} {gaps_1 : List Int} (hlgaps_1 : gaps_1.length = 4) {r : Int} (h : M.impl_distanceOf kind_0 gaps_1 = some r) :
    Cal Try.prog 62 [(I kind_0), (.agg (List.map I gaps_1).toArray)] none σ0 (fun v σ' => v = (I r)) := by
  refine ⟨⟨_, _, Try.func62, rfl, rfl⟩, ?_⟩
  refine enter (n := 38) Try.func62 rfl rfl rfl ?_
  unfold M.impl_distanceOf at h
  have hK : Mod none σ0 σ0 := Mod.refl _ _
  refine c_seq ?_
  refine rg ?_
  refine st_box (cs := (List.map I gaps_1)) rfl rfl ?_ (wanted_none _ rfl _)
  intro b2 σ4 hbn6 m5 hB1
  have hge3 := Nat.le_trans hK.size (Nat.le_of_eq hbn6)
  replace hK := hK.none m5
  clear hbn6 m5
  refine st (v := (I 0)) (rv_assign rfl) ?_
  refine w_end ?_
  refine q_then ?_
  refine c_seq ?_
  refine rg ?_
  refine st (v := (I 0)) (rv_assign rfl) ?_
  refine w_end ?_
  refine q_then ?_
  refine c_seq ?_
  refine c_seq ?_
  refine rg ?_
  refine st (v := (.agg (List.map I gaps_1).toArray)) (rv_load (cs := (List.map I gaps_1)) Try.underlying72 rfl ti72 rfl (by rw [List.length_map]; exact hlgaps_1) hB1.all) ?_
  refine st (v := (I 0)) (rv_move rfl) ?_
  refine w_end ?_
  refine q_then ?_
  obtain ⟨o7, hj, h'⟩ := bind_some h
  clear h
  refine c_cut (fun e a w => (∃ t, o7 = (.inl t) ∧ e = .normal ∧ ∃ (ρ : Nat → Value) (σ : St), a = fr 38 (updL ρ [(5, (I t))]) ∧ w = σ.w ∧ Mod none σ0 σ) ∨ (∃ t, o7 = (.inr t) ∧ e = .ret ∧ ∃ (ρ : Nat → Value) (σ : St), a = fr 38 (updL ρ [(4, (I t))]) ∧ w = σ.w ∧ Mod none σ0 σ)) ?_ ?_
  · clear h'
    rename _ = some o7 => h
    refine c_blk ?_
    refine wp_loopM _ h (fun s8 a w => ∃ (ρ : Nat → Value) (σ : St), a = fr 38 (updL ρ [(0, (I kind_0)), (5, (I s8.1)), (8, (.agg (List.map I gaps_1).toArray)), (9, (I s8.2))]) ∧ w = σ.w ∧ Mod none σ0 σ) ⟨_, σ4, fr_join ⟨rfl, rfl, rfl, rfl, trivial⟩, rfl, hK⟩ ?_
    clear h
    rintro s8 a w o ⟨ρ, σ10, rfl, rfl, hK⟩ h hres
    refine c_seq ?_
    refine rg ?_
    refine st (v := (B (decide (s8.2 < 4)))) (rv_lss (a := s8.2) (b := 4) rfl rfl) ?_
    refine w_end ?_
    refine q_then ?_
    refine c_seq ?_
    refine cd_cond (decide (s8.2 < 4)) rfl (fun hb11 => ?_) (fun hb11 => ?_)
    · replace h := bif_t hb11 h
      refine c_skip ?_
      refine q_then ?_
      refine c_seq ?_
      obtain ⟨o12, hj, h'⟩ := bind_some h
      clear h
      refine c_cut (fun e a w => (∃ t, o12 = (.inl t) ∧ e = .normal ∧ ∃ (ρ : Nat → Value) (σ : St), a = fr 38 (updL ρ [(0, (I kind_0)), (5, (I t)), (8, (.agg (List.map I gaps_1).toArray)), (9, (I s8.2))]) ∧ w = σ.w ∧ Mod none σ0 σ) ∨ (∃ t, o12 = (.inr t) ∧ e = .ret ∧ ∃ (ρ : Nat → Value) (σ : St), a = fr 38 (updL ρ [(4, (I t))]) ∧ w = σ.w ∧ Mod none σ0 σ)) ?_ ?_
      · clear h'
        rename _ = some o12 => h
        refine c_blk ?_
        refine c_seq ?_
        refine rg ?_
        obtain ⟨x13, hx14, h'⟩ := bind_some h
        clear h
        have h := h'; clear h'
        refine st (v := (I x13)) (rv_idx Try.underlying72 ti3 Try.underlying3 rfl rfl hx14 hlgaps_1) ?_
        refine st (v := (I x13)) (rv_assign rfl) ?_
        refine w_end ?_
        refine q_then ?_
        refine c_seq ?_
        refine rg ?_
        refine st (v := (I kind_0)) (rv_move rfl) ?_
        refine w_end ?_
        refine q_then ?_
        refine c_blk ?_
        refine c_seq ?_
        refine rg ?_
        refine st (v := (B (kind_0 == 1))) (rv_eql (a := kind_0) (b := 1) rfl rfl) ?_
        refine st (v := (B (kind_0 == 1))) (rv_assign rfl) ?_
        refine w_end ?_
        refine q_then ?_
        refine cd_cond (kind_0 == 1) rfl (fun hb15 => ?_) (fun hb15 => ?_)
        · replace h := bif_t hb15 h
          refine rg ?_
          refine st (v := (I s8.1)) (rv_move rfl) ?_
          refine st (v := (I x13)) (rv_move rfl) ?_
          refine st (v := (I (w64 (s8.1 + x13)))) (rv_add (a := s8.1) (b := x13) rfl rfl) ?_
          refine st (v := (I (w64 (s8.1 + x13)))) (rv_assign rfl) ?_
          refine w_end ?_
          refine q_blk ?_
          refine q_blk ?_
          obtain rfl := Option.some.inj h
          exact .inl ⟨_, rfl, rfl, _, σ10, fr_join ⟨rfl, rfl, rfl, rfl, trivial⟩, rfl, hK⟩
        · replace h := bif_f hb15 h
          refine c_seq ?_
          refine rg ?_
          refine st (v := (B (kind_0 == 2))) (rv_eql (a := kind_0) (b := 2) rfl rfl) ?_
          refine st (v := (B (kind_0 == 2))) (rv_assign rfl) ?_
          refine w_end ?_
          refine q_then ?_
          refine cd_cond (kind_0 == 2) rfl (fun hb16 => ?_) (fun hb16 => ?_)
          · replace h := bif_t hb16 h
            refine rg ?_
            refine st (v := (I s8.1)) (rv_move rfl) ?_
            refine st (v := (I x13)) (rv_move rfl) ?_
            refine st (v := (I (max s8.1 x13))) (rv_max rfl rfl) ?_
            refine st (v := (I (max s8.1 x13))) (rv_assign rfl) ?_
            refine w_end ?_
            refine q_blk ?_
            refine q_blk ?_
            obtain rfl := Option.some.inj h
            exact .inl ⟨_, rfl, rfl, _, σ10, fr_join ⟨rfl, rfl, rfl, rfl, trivial⟩, rfl, hK⟩
          · replace h := bif_f hb16 h
            refine c_seq ?_
            refine rg ?_
            refine st (v := (B (kind_0 == 3))) (rv_eql (a := kind_0) (b := 3) rfl rfl) ?_
            refine st (v := (B (kind_0 == 3))) (rv_assign rfl) ?_
            refine w_end ?_
            refine q_then ?_
            refine cd_cond (kind_0 == 3) rfl (fun hb17 => ?_) (fun hb17 => ?_)
            · replace h := bif_t hb17 h
              refine rg ?_
              refine st (v := (I s8.1)) (rv_move rfl) ?_
              refine st (v := (I x13)) (rv_move rfl) ?_
              refine st (v := (I x13)) (rv_move rfl) ?_
              refine st (v := (I (w64 (x13 * x13)))) (rv_mul (a := x13) (b := x13) rfl rfl) ?_
              refine st (v := (I (w64 (s8.1 + (w64 (x13 * x13)))))) (rv_add (a := s8.1) (b := (w64 (x13 * x13))) rfl rfl) ?_
              refine st (v := (I (w64 (s8.1 + (w64 (x13 * x13)))))) (rv_assign rfl) ?_
              refine w_end ?_
              refine q_blk ?_
              refine q_blk ?_
              obtain rfl := Option.some.inj h
              exact .inl ⟨_, rfl, rfl, _, σ10, fr_join ⟨rfl, rfl, rfl, rfl, trivial⟩, rfl, hK⟩
            · replace h := bif_f hb17 h
              refine c_seq ?_
              refine rg ?_
              refine st (v := (B (kind_0 == 4))) (rv_eql (a := kind_0) (b := 4) rfl rfl) ?_
              refine st (v := (B (kind_0 == 4))) (rv_assign rfl) ?_
              refine w_end ?_
              refine q_then ?_
              refine cd_cond (kind_0 == 4) rfl (fun hb18 => ?_) (fun hb18 => ?_)
              · replace h := bif_t hb18 h
                refine rg ?_
                refine st (v := (I s8.1)) (rv_move rfl) ?_
                refine st (v := (I x13)) (rv_move rfl) ?_
                refine st (v := (I (min x13 1))) (rv_min rfl rfl) ?_
                refine st (v := (I (w64 (s8.1 + (min x13 1))))) (rv_add (a := s8.1) (b := (min x13 1)) rfl rfl) ?_
                refine st (v := (I (w64 (s8.1 + (min x13 1))))) (rv_assign rfl) ?_
                refine w_end ?_
                refine q_blk ?_
                refine q_blk ?_
                obtain rfl := Option.some.inj h
                exact .inl ⟨_, rfl, rfl, _, σ10, fr_join ⟨rfl, rfl, rfl, rfl, trivial⟩, rfl, hK⟩
              · replace h := bif_f hb18 h
                refine c_seq ?_
                refine rg ?_
                refine st (v := (I (-1))) (rv_assign rfl) ?_
                refine w_end ?_
                refine q_then ?_
                refine c_ret ?_
                refine q_blk_r ?_
                refine q_blk_r ?_
                obtain rfl := Option.some.inj h
                exact .inr (⟨_, rfl, rfl, _, σ10, fr_join ⟨rfl, trivial⟩, rfl, hK⟩)
      · clear hj
        have h := h'
        clear h'
        rintro e a w (⟨t19, rfl, rfl, ρ, σ20, rfl, rfl, hK⟩ | ⟨t21, rfl, rfl, ρ, σ22, rfl, rfl, hK⟩)
        · replace h := selim_l h
          refine q_then ?_
          refine rg ?_
          refine st (v := (I (w64 (s8.2 + 1)))) (rv_add (a := s8.2) (b := 1) rfl rfl) ?_
          refine st (v := (I (w64 (s8.2 + 1)))) (rv_move rfl) ?_
          refine w_end ?_
          refine q_then ?_
          obtain rfl := Option.some.inj h
          exact ⟨_, rfl, _, σ20, fr_join ⟨rfl, rfl, rfl, rfl, trivial⟩, rfl, hK⟩
        · replace h := selim_r h
          refine q_then_r ?_
          refine q_then_r ?_
          refine q_blk_r ?_
          obtain rfl := Option.some.inj h
          obtain rfl := hres _ rfl
          exact .inr (⟨_, rfl, rfl, _, σ22, fr_join ⟨rfl, trivial⟩, rfl, hK⟩)
    · replace h := bif_f hb11 h
      refine c_exit ?_
      refine q_then_x ?_
      refine q_then_x ?_
      refine q_blk_hit ?_
      obtain rfl := Option.some.inj h
      obtain rfl := hres _ rfl
      exact .inl ⟨_, rfl, rfl, _, σ10, fr_join ⟨rfl, trivial⟩, rfl, hK⟩
  · clear hj
    have h := h'
    clear h'
    rintro e a w (⟨t23, rfl, rfl, ρ, σ24, rfl, rfl, hK⟩ | ⟨t25, rfl, rfl, ρ, σ26, rfl, rfl, hK⟩)
    · replace h := selim_l h
      refine q_then ?_
      refine c_seq ?_
      refine rg ?_
      refine st (v := (I t23)) (rv_move rfl) ?_
      refine st (v := (I t23)) (rv_assign rfl) ?_
      refine w_end ?_
      refine q_then ?_
      refine c_ret ?_
      obtain rfl := Option.some.inj h
      exact bodyPost_ret (v := (I t23)) (results_fr1 Try.results62 rfl _) rfl ⟨_, σ24, rfl, rfl, hK, rfl⟩
    · replace h := selim_r h
      refine q_then_r ?_
      obtain rfl := Option.some.inj h
      exact bodyPost_ret (v := (I t25)) (results_fr1 Try.results62 rfl _) rfl ⟨_, σ26, rfl, rfl, hK, rfl⟩

end Go.Vs
