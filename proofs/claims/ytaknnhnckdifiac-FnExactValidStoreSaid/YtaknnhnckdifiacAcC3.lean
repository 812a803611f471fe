/- The functions compute what their models say. -/
import Derived.Test.YtaknnhnckdifiacAcC2
set_option linter.unusedVariables false
set_option linter.unusedSimpArgs false
set_option maxRecDepth 20000
namespace Go.Vs
open Go Go.Proofs
attribute [local irreducible] Code.wp wpList wpQuiet Calls

theorem c_laws_equalItems {σ0 : St} {a_0 : List (Int × (List Int) × Int)} {b_1 : List (Int × (List Int) × Int)} {aa_0 : Option Addr} {ca_0 : Nat} (hRa_0 : RS 0 σ0 (Sl aa_0 a_0 ca_0) a_0) {ab_1 : Option Addr} {cb_1 : Nat} (hRb_1 : RS 0 σ0 (Sl ab_1 b_1 cb_1) b_1) {r : Bool} (h : M.laws_equalItems a_0 b_1 = some r) :
    Cal Try.prog 17 [(Sl aa_0 a_0 ca_0), (Sl ab_1 b_1 cb_1)] none σ0 (fun v σ' => v = (B r)) := by
  refine ⟨⟨_, _, Try.func17, rfl, rfl⟩, ?_⟩
  refine enter (n := 55) Try.func17 rfl rfl rfl ?_
  unfold M.laws_equalItems at h
  have hK : Mod none σ0 σ0 := Mod.refl _ _
  refine c_seq ?_
  refine rg ?_
  refine st (v := (B false)) (rv_assign rfl) ?_
  refine w_end ?_
  refine q_then ?_
  refine c_seq ?_
  refine c_seq ?_
  refine rg ?_
  refine st (v := (Sl aa_0 a_0 ca_0)) (rv_move rfl) ?_
  refine st (v := (I (a_0.length : Int))) (rv_len Try.underlying23 rfl) ?_
  refine st (v := (Sl ab_1 b_1 cb_1)) (rv_move rfl) ?_
  refine st (v := (I (b_1.length : Int))) (rv_len Try.underlying23 rfl) ?_
  refine st (v := (B ((a_0.length : Int) != (b_1.length : Int)))) (rv_neq (a := (a_0.length : Int)) (b := (b_1.length : Int)) rfl rfl) ?_
  refine w_end ?_
  refine q_then ?_
  refine cd_cond ((a_0.length : Int) != (b_1.length : Int)) rfl (fun hb1 => ?_) (fun hb1 => ?_)
  · replace h := bif_t hb1 h
    refine c_seq ?_
    refine rg ?_
    refine st (v := (B false)) (rv_assign rfl) ?_
    refine w_end ?_
    refine q_then ?_
    refine c_ret ?_
    refine q_then_r ?_
    obtain rfl := Option.some.inj h
    exact bodyPost_ret (v := (B false)) (results_fr1 Try.results17 rfl _) rfl ⟨_, σ0, rfl, rfl, hK, rfl⟩
  · replace h := bif_f hb1 h
    refine c_skip ?_
    refine q_then ?_
    refine c_seq ?_
    refine c_seq ?_
    refine rg ?_
    refine st (v := (I 0)) (rv_assign rfl) ?_
    refine w_end ?_
    refine q_then ?_
    obtain ⟨o2, hj, h'⟩ := bind_some h
    clear h
    refine c_cut (fun e a w => (∃ t, o2 = (.inl t) ∧ e = .normal ∧ ∃ (ρ : Nat → Value) (σ : St), a = fr 55 (updL ρ []) ∧ w = σ.w ∧ Mod none σ0 σ) ∨ (∃ t, o2 = (.inr t) ∧ e = .ret ∧ ∃ (ρ : Nat → Value) (σ : St), a = fr 55 (updL ρ [(4, (B t))]) ∧ w = σ.w ∧ Mod none σ0 σ)) ?_ ?_
    · clear h'
      rename _ = some o2 => h
      refine c_blk ?_
      refine wp_loopM _ h (fun s3 a w => ∃ (ρ : Nat → Value) (σ : St), a = fr 55 (updL ρ [(0, (Sl aa_0 a_0 ca_0)), (1, (Sl ab_1 b_1 cb_1)), (5, (I s3))]) ∧ w = σ.w ∧ Mod none σ0 σ ∧ RS 0 σ (Sl aa_0 a_0 ca_0) a_0 ∧ RS 0 σ (Sl ab_1 b_1 cb_1) b_1) ⟨_, σ0, fr_join ⟨rfl, rfl, rfl, trivial⟩, rfl, hK, hRa_0, hRb_1⟩ ?_
      clear h
      rintro s3 a w o ⟨ρ, σ5, rfl, rfl, hK, hR6, hR7⟩ h hres
      refine c_seq ?_
      refine c_seq ?_
      refine rg ?_
      refine st (v := (I s3)) (rv_move rfl) ?_
      refine st (v := (Sl aa_0 a_0 ca_0)) (rv_move rfl) ?_
      refine st (v := (I (a_0.length : Int))) (rv_len Try.underlying23 rfl) ?_
      refine st (v := (B (decide (s3 < (a_0.length : Int))))) (rv_lss (a := s3) (b := (a_0.length : Int)) rfl rfl) ?_
      refine w_end ?_
      refine q_then ?_
      refine cd_cond (decide (s3 < (a_0.length : Int))) rfl (fun hb8 => ?_) (fun hb8 => ?_)
      · replace h := bif_t hb8 h
        refine c_skip ?_
        refine q_then ?_
        refine c_seq ?_
        refine c_blk ?_
        refine c_seq ?_
        obtain ⟨o9, hj, h'⟩ := bind_some h
        clear h
        refine c_cut (fun e a w => e = .normal ∧ ∃ (ρ : Nat → Value) (σ : St), a = fr 55 (updL ρ [(0, (Sl aa_0 a_0 ca_0)), (1, (Sl ab_1 b_1 cb_1)), (5, (I s3)), (54, (B o9))]) ∧ w = σ.w ∧ Mod none σ0 σ ∧ RS 0 σ (Sl aa_0 a_0 ca_0) a_0 ∧ RS 0 σ (Sl ab_1 b_1 cb_1) b_1) ?_ ?_
        · clear h'
          rename _ = some o9 => h
          obtain ⟨x10, hx11, h'⟩ := bind_some h
          clear h
          have h := h'; clear h'
          obtain ⟨b13, o14, hi12, -⟩ := hR6.ix hx11
          obtain ⟨x15, hx16, h'⟩ := bind_some h
          clear h
          have h := h'; clear h'
          obtain ⟨b18, o19, hi17, -⟩ := hR7.ix hx16
          rcases Bool.eq_false_or_eq_true (x10.1 != x15.1) with hb20 | hb20
          · replace h := bif_t hb20 h
            refine rg_monoL (σ := σ5) 35 [eqv (Sl aa_0 a_0 ca_0), eqv (I s3), eqv (pt b13 o14), eqv (pt b13 (o14 + 0)), eqv (I x10.1), eqv (Sl ab_1 b_1 cb_1), eqv (I s3), eqv (pt b18 o19), eqv (pt b18 (o19 + 0)), eqv (I x15.1), eqv (B (x10.1 != x15.1)), eqv (B (x10.1 != x15.1)), eqv undef, eqv undef, eqv undef, eqv undef, eqv undef, eqv undef, eqv undef, eqv undef, eqv undef, eqv undef, eqv undef, eqv (B true), eqv (B true), eqv undef, eqv undef, eqv undef, eqv undef, eqv undef, eqv undef, eqv undef, eqv undef, eqv undef, eqv undef] (by kernel_rfl) (by kernel_rfl) (mono_cons mono_eqv (mono_cons mono_eqv (mono_cons mono_eqv (mono_cons mono_eqv (mono_cons mono_eqv (mono_cons mono_eqv (mono_cons mono_eqv (mono_cons mono_eqv (mono_cons mono_eqv (mono_cons mono_eqv (mono_cons mono_eqv (mono_cons mono_eqv (mono_cons mono_eqv (mono_cons mono_eqv (mono_cons mono_eqv (mono_cons mono_eqv (mono_cons mono_eqv (mono_cons mono_eqv (mono_cons mono_eqv (mono_cons mono_eqv (mono_cons mono_eqv (mono_cons mono_eqv (mono_cons mono_eqv (mono_cons mono_eqv (mono_cons mono_eqv (mono_cons mono_eqv (mono_cons mono_eqv (mono_cons mono_eqv (mono_cons mono_eqv (mono_cons mono_eqv (mono_cons mono_eqv (mono_cons mono_eqv (mono_cons mono_eqv (mono_cons mono_eqv (mono_cons mono_eqv (mono_nil)))))))))))))))))))))))))))))))))))) ?_ ?_
            · refine all_cons (by
                  intro ρ σm m hoff hdep
                  have e0 : look 55 ρ 0 = (Sl aa_0 a_0 ca_0) := look_off (hoff 0 rfl) rfl
                  exact does_v (v := (Sl aa_0 a_0 ca_0)) (wanted_none _ rfl _) (rv_move e0) rfl) ?_
              refine all_cons (by
                  intro ρ σm m hoff hdep
                  have e5 : look 55 ρ 5 = (I s3) := look_off (hoff 5 rfl) rfl
                  exact does_v (v := (I s3)) (wanted_none _ rfl _) (rv_move e5) rfl) ?_
              refine all_cons (by
                  intro ρ σm m hoff hdep
                  have e17 : look 55 ρ 17 = (Sl aa_0 a_0 ca_0) := hdep 0 rfl rfl 17 rfl
                  have e18 : look 55 ρ 18 = (I s3) := hdep 1 rfl rfl 18 rfl
                  exact does_v (v := (pt b13 o14)) (wanted_none _ rfl _) (rv_ix Try.underlying23 ti26 e17 e18 hi12) rfl) ?_
              refine all_cons (by
                  intro ρ σm m hoff hdep
                  have e19 : look 55 ρ 19 = (pt b13 o14) := hdep 2 rfl rfl 19 rfl
                  exact does_v (v := (pt b13 (o14 + 0))) (wanted_none _ rfl _) (rv_fieldAddr (off := 0) (ft := 3) Try.underlying26 rfl ti3 rfl e19) rfl) ?_
              refine all_cons (by
                  intro ρ σm m hoff hdep
                  have e20 : look 55 ρ 20 = (pt b13 (o14 + 0)) := hdep 3 rfl rfl 20 rfl
                  replace hR6 := hR6.mod m
                  exact does_v (v := (I x10.1)) (wanted_none _ rfl _) (rv_load1 Try.underlying3 rfl e20 (hR6.at hx11 hi12).fst.int) rfl) ?_
              refine all_cons (by
                  intro ρ σm m hoff hdep
                  have e1 : look 55 ρ 1 = (Sl ab_1 b_1 cb_1) := look_off (hoff 1 rfl) rfl
                  exact does_v (v := (Sl ab_1 b_1 cb_1)) (wanted_none _ rfl _) (rv_move e1) rfl) ?_
              refine all_cons (by
                  intro ρ σm m hoff hdep
                  have e5 : look 55 ρ 5 = (I s3) := look_off (hoff 5 rfl) rfl
                  exact does_v (v := (I s3)) (wanted_none _ rfl _) (rv_move e5) rfl) ?_
              refine all_cons (by
                  intro ρ σm m hoff hdep
                  have e22 : look 55 ρ 22 = (Sl ab_1 b_1 cb_1) := hdep 5 rfl rfl 22 rfl
                  have e23 : look 55 ρ 23 = (I s3) := hdep 6 rfl rfl 23 rfl
                  exact does_v (v := (pt b18 o19)) (wanted_none _ rfl _) (rv_ix Try.underlying23 ti26 e22 e23 hi17) rfl) ?_
              refine all_cons (by
                  intro ρ σm m hoff hdep
                  have e24 : look 55 ρ 24 = (pt b18 o19) := hdep 7 rfl rfl 24 rfl
                  exact does_v (v := (pt b18 (o19 + 0))) (wanted_none _ rfl _) (rv_fieldAddr (off := 0) (ft := 3) Try.underlying26 rfl ti3 rfl e24) rfl) ?_
              refine all_cons (by
                  intro ρ σm m hoff hdep
                  have e25 : look 55 ρ 25 = (pt b18 (o19 + 0)) := hdep 8 rfl rfl 25 rfl
                  replace hR7 := hR7.mod m
                  exact does_v (v := (I x15.1)) (wanted_none _ rfl _) (rv_load1 Try.underlying3 rfl e25 (hR7.at hx16 hi17).fst.int) rfl) ?_
              refine all_cons (by
                  intro ρ σm m hoff hdep
                  have e21 : look 55 ρ 21 = (I x10.1) := hdep 4 rfl rfl 21 rfl
                  have e26 : look 55 ρ 26 = (I x15.1) := hdep 9 rfl rfl 26 rfl
                  exact does_v (v := (B (x10.1 != x15.1))) (wanted_none _ rfl _) (rv_neq (a := x10.1) (b := x15.1) e21 e26) rfl) ?_
              refine all_cons (by
                  intro ρ σm m hoff hdep
                  have e27 : look 55 ρ 27 = (B (x10.1 != x15.1)) := hdep 10 rfl rfl 27 rfl
                  exact does_v (v := (B (x10.1 != x15.1))) (wanted_none _ rfl _) (rv_move e27) rfl) ?_
              refine all_cons (by
                  intro ρ σm m hoff hdep
                  have e28 : look 55 ρ 28 = (B (x10.1 != x15.1)) := hdep 11 rfl rfl 28 rfl
                  exact does_skip (wanted_no rfl (yv_of rfl (e28.trans (congrArg B hb20)))) rfl) ?_
              refine all_cons (by
                  intro ρ σm m hoff hdep
                  have e28 : look 55 ρ 28 = (B (x10.1 != x15.1)) := hdep 11 rfl rfl 28 rfl
                  exact does_skip (wanted_no rfl (yv_of rfl (e28.trans (congrArg B hb20)))) rfl) ?_
              refine all_cons (by
                  intro ρ σm m hoff hdep
                  have e28 : look 55 ρ 28 = (B (x10.1 != x15.1)) := hdep 11 rfl rfl 28 rfl
                  exact does_skip (wanted_no rfl (yv_of rfl (e28.trans (congrArg B hb20)))) rfl) ?_
              refine all_cons (by
                  intro ρ σm m hoff hdep
                  have e28 : look 55 ρ 28 = (B (x10.1 != x15.1)) := hdep 11 rfl rfl 28 rfl
                  exact does_skip (wanted_no rfl (yv_of rfl (e28.trans (congrArg B hb20)))) rfl) ?_
              refine all_cons (by
                  intro ρ σm m hoff hdep
                  have e28 : look 55 ρ 28 = (B (x10.1 != x15.1)) := hdep 11 rfl rfl 28 rfl
                  exact does_skip (wanted_no rfl (yv_of rfl (e28.trans (congrArg B hb20)))) rfl) ?_
              refine all_cons (by
                  intro ρ σm m hoff hdep
                  have e28 : look 55 ρ 28 = (B (x10.1 != x15.1)) := hdep 11 rfl rfl 28 rfl
                  exact does_skip (wanted_no rfl (yv_of rfl (e28.trans (congrArg B hb20)))) rfl) ?_
              refine all_cons (by
                  intro ρ σm m hoff hdep
                  have e28 : look 55 ρ 28 = (B (x10.1 != x15.1)) := hdep 11 rfl rfl 28 rfl
                  exact does_skip (wanted_no rfl (yv_of rfl (e28.trans (congrArg B hb20)))) rfl) ?_
              refine all_cons (by
                  intro ρ σm m hoff hdep
                  have e28 : look 55 ρ 28 = (B (x10.1 != x15.1)) := hdep 11 rfl rfl 28 rfl
                  exact does_skip (wanted_no rfl (yv_of rfl (e28.trans (congrArg B hb20)))) rfl) ?_
              refine all_cons (by
                  intro ρ σm m hoff hdep
                  have e28 : look 55 ρ 28 = (B (x10.1 != x15.1)) := hdep 11 rfl rfl 28 rfl
                  exact does_skip (wanted_no rfl (yv_of rfl (e28.trans (congrArg B hb20)))) rfl) ?_
              refine all_cons (by
                  intro ρ σm m hoff hdep
                  have e28 : look 55 ρ 28 = (B (x10.1 != x15.1)) := hdep 11 rfl rfl 28 rfl
                  exact does_skip (wanted_no rfl (yv_of rfl (e28.trans (congrArg B hb20)))) rfl) ?_
              refine all_cons (by
                  intro ρ σm m hoff hdep
                  have e28 : look 55 ρ 28 = (B (x10.1 != x15.1)) := hdep 11 rfl rfl 28 rfl
                  exact does_skip (wanted_no rfl (yv_of rfl (e28.trans (congrArg B hb20)))) rfl) ?_
              refine all_cons (by
                  intro ρ σm m hoff hdep
                  have e28 : look 55 ρ 28 = (B (x10.1 != x15.1)) := hdep 11 rfl rfl 28 rfl
                  exact does_v (v := (B true)) (wanted_none _ rfl _) (rv_pick_t (e28.trans (congrArg B hb20)) rfl) rfl) ?_
              refine all_cons (by
                  intro ρ σm m hoff hdep
                  have e40 : look 55 ρ 40 = (B true) := hdep 23 rfl rfl 40 rfl
                  exact does_v (v := (B true)) (wanted_none _ rfl _) (rv_move e40) rfl) ?_
              refine all_cons (by
                  intro ρ σm m hoff hdep
                  have e41 : look 55 ρ 41 = (B true) := hdep 24 rfl rfl 41 rfl
                  exact does_skip (wanted_no rfl (yv_of rfl e41)) rfl) ?_
              refine all_cons (by
                  intro ρ σm m hoff hdep
                  have e41 : look 55 ρ 41 = (B true) := hdep 24 rfl rfl 41 rfl
                  exact does_skip (wanted_no rfl (yv_of rfl e41)) rfl) ?_
              refine all_cons (by
                  intro ρ σm m hoff hdep
                  have e41 : look 55 ρ 41 = (B true) := hdep 24 rfl rfl 41 rfl
                  exact does_skip (wanted_no rfl (yv_of rfl e41)) rfl) ?_
              refine all_cons (by
                  intro ρ σm m hoff hdep
                  have e41 : look 55 ρ 41 = (B true) := hdep 24 rfl rfl 41 rfl
                  exact does_skip (wanted_no rfl (yv_of rfl e41)) rfl) ?_
              refine all_cons (by
                  intro ρ σm m hoff hdep
                  have e41 : look 55 ρ 41 = (B true) := hdep 24 rfl rfl 41 rfl
                  exact does_skip (wanted_no rfl (yv_of rfl e41)) rfl) ?_
              refine all_cons (by
                  intro ρ σm m hoff hdep
                  have e41 : look 55 ρ 41 = (B true) := hdep 24 rfl rfl 41 rfl
                  exact does_skip (wanted_no rfl (yv_of rfl e41)) rfl) ?_
              refine all_cons (by
                  intro ρ σm m hoff hdep
                  have e41 : look 55 ρ 41 = (B true) := hdep 24 rfl rfl 41 rfl
                  exact does_skip (wanted_no rfl (yv_of rfl e41)) rfl) ?_
              refine all_cons (by
                  intro ρ σm m hoff hdep
                  have e41 : look 55 ρ 41 = (B true) := hdep 24 rfl rfl 41 rfl
                  exact does_skip (wanted_no rfl (yv_of rfl e41)) rfl) ?_
              refine all_cons (by
                  intro ρ σm m hoff hdep
                  have e41 : look 55 ρ 41 = (B true) := hdep 24 rfl rfl 41 rfl
                  exact does_skip (wanted_no rfl (yv_of rfl e41)) rfl) ?_
              refine all_cons (by
                  intro ρ σm m hoff hdep
                  have e41 : look 55 ρ 41 = (B true) := hdep 24 rfl rfl 41 rfl
                  exact does_skip (wanted_no rfl (yv_of rfl e41)) rfl) ?_
              exact all_nil
            · intro ρ σ21 m hoff hrel
              have e0 : look 55 ρ 0 = (Sl aa_0 a_0 ca_0) := look_off (hoff 0 rfl) rfl
              have e1 : look 55 ρ 1 = (Sl ab_1 b_1 cb_1) := look_off (hoff 1 rfl) rfl
              have e5 : look 55 ρ 5 = (I s3) := look_off (hoff 5 rfl) rfl
              have e41 : look 55 ρ 41 = (B true) := hrel 24 rfl 41 rfl
              have e46 : look 55 ρ 46 = undef := hrel 29 rfl 46 rfl
              have e51 : look 55 ρ 51 = undef := hrel 34 rfl 51 rfl
              replace hR6 := hR6.mod m
              replace hR7 := hR7.mod m
              replace hK := hK.none m
              rw [fr_lookL (L := [(0, (Sl aa_0 a_0 ca_0)), (1, (Sl ab_1 b_1 cb_1)), (5, (I s3)), (41, (B true)), (46, undef), (51, undef)]) ⟨e0, e1, e5, e41, e46, e51, trivial⟩]
              clear hoff hrel m e0 e1 e5 e41 e46 e51
              refine st_skip rfl ?_
              refine st_skip rfl ?_
              refine st (v := (B true)) (rv_pick_t rfl rfl) ?_
              refine w_end ?_
              obtain rfl := Option.some.inj h
              exact ⟨rfl, _, σ21, fr_join ⟨rfl, rfl, rfl, rfl, trivial⟩, rfl, hK, hR6, hR7⟩
          · replace h := bif_f hb20 h
            obtain ⟨x22, hx23, h'⟩ := bind_some h
            clear h
            have h := h'; clear h'
            obtain ⟨b25, o26, hi24, -⟩ := hR6.ix hx23
            obtain ⟨x27, hx28, h'⟩ := bind_some h
            clear h
            have h := h'; clear h'
            obtain ⟨b30, o31, hi29, -⟩ := hR7.ix hx28
            rcases Bool.eq_false_or_eq_true (x22.2.2 != x27.2.2) with hb32 | hb32
            · replace h := bif_t hb32 h
              refine rg_monoL (σ := σ5) 35 [eqv (Sl aa_0 a_0 ca_0), eqv (I s3), eqv (pt b13 o14), eqv (pt b13 (o14 + 0)), eqv (I x10.1), eqv (Sl ab_1 b_1 cb_1), eqv (I s3), eqv (pt b18 o19), eqv (pt b18 (o19 + 0)), eqv (I x15.1), eqv (B (x10.1 != x15.1)), eqv (B (x10.1 != x15.1)), eqv (Sl aa_0 a_0 ca_0), eqv (I s3), eqv (pt b25 o26), eqv (pt b25 (o26 + 2)), eqv (I x22.2.2), eqv (Sl ab_1 b_1 cb_1), eqv (I s3), eqv (pt b30 o31), eqv (pt b30 (o31 + 2)), eqv (I x27.2.2), eqv (B (x22.2.2 != x27.2.2)), eqv (B (x22.2.2 != x27.2.2)), eqv (B (x22.2.2 != x27.2.2)), eqv undef, eqv undef, eqv undef, eqv undef, eqv undef, eqv undef, eqv undef, eqv undef, eqv undef, eqv undef] (by kernel_rfl) (by kernel_rfl) (mono_cons mono_eqv (mono_cons mono_eqv (mono_cons mono_eqv (mono_cons mono_eqv (mono_cons mono_eqv (mono_cons mono_eqv (mono_cons mono_eqv (mono_cons mono_eqv (mono_cons mono_eqv (mono_cons mono_eqv (mono_cons mono_eqv (mono_cons mono_eqv (mono_cons mono_eqv (mono_cons mono_eqv (mono_cons mono_eqv (mono_cons mono_eqv (mono_cons mono_eqv (mono_cons mono_eqv (mono_cons mono_eqv (mono_cons mono_eqv (mono_cons mono_eqv (mono_cons mono_eqv (mono_cons mono_eqv (mono_cons mono_eqv (mono_cons mono_eqv (mono_cons mono_eqv (mono_cons mono_eqv (mono_cons mono_eqv (mono_cons mono_eqv (mono_cons mono_eqv (mono_cons mono_eqv (mono_cons mono_eqv (mono_cons mono_eqv (mono_cons mono_eqv (mono_cons mono_eqv (mono_nil)))))))))))))))))))))))))))))))))))) ?_ ?_
              · refine all_cons (by
                    intro ρ σm m hoff hdep
                    have e0 : look 55 ρ 0 = (Sl aa_0 a_0 ca_0) := look_off (hoff 0 rfl) rfl
                    exact does_v (v := (Sl aa_0 a_0 ca_0)) (wanted_none _ rfl _) (rv_move e0) rfl) ?_
                refine all_cons (by
                    intro ρ σm m hoff hdep
                    have e5 : look 55 ρ 5 = (I s3) := look_off (hoff 5 rfl) rfl
                    exact does_v (v := (I s3)) (wanted_none _ rfl _) (rv_move e5) rfl) ?_
                refine all_cons (by
                    intro ρ σm m hoff hdep
                    have e17 : look 55 ρ 17 = (Sl aa_0 a_0 ca_0) := hdep 0 rfl rfl 17 rfl
                    have e18 : look 55 ρ 18 = (I s3) := hdep 1 rfl rfl 18 rfl
                    exact does_v (v := (pt b13 o14)) (wanted_none _ rfl _) (rv_ix Try.underlying23 ti26 e17 e18 hi12) rfl) ?_
                refine all_cons (by
                    intro ρ σm m hoff hdep
                    have e19 : look 55 ρ 19 = (pt b13 o14) := hdep 2 rfl rfl 19 rfl
                    exact does_v (v := (pt b13 (o14 + 0))) (wanted_none _ rfl _) (rv_fieldAddr (off := 0) (ft := 3) Try.underlying26 rfl ti3 rfl e19) rfl) ?_
                refine all_cons (by
                    intro ρ σm m hoff hdep
                    have e20 : look 55 ρ 20 = (pt b13 (o14 + 0)) := hdep 3 rfl rfl 20 rfl
                    replace hR6 := hR6.mod m
                    exact does_v (v := (I x10.1)) (wanted_none _ rfl _) (rv_load1 Try.underlying3 rfl e20 (hR6.at hx11 hi12).fst.int) rfl) ?_
                refine all_cons (by
                    intro ρ σm m hoff hdep
                    have e1 : look 55 ρ 1 = (Sl ab_1 b_1 cb_1) := look_off (hoff 1 rfl) rfl
                    exact does_v (v := (Sl ab_1 b_1 cb_1)) (wanted_none _ rfl _) (rv_move e1) rfl) ?_
                refine all_cons (by
                    intro ρ σm m hoff hdep
                    have e5 : look 55 ρ 5 = (I s3) := look_off (hoff 5 rfl) rfl
                    exact does_v (v := (I s3)) (wanted_none _ rfl _) (rv_move e5) rfl) ?_
                refine all_cons (by
                    intro ρ σm m hoff hdep
                    have e22 : look 55 ρ 22 = (Sl ab_1 b_1 cb_1) := hdep 5 rfl rfl 22 rfl
                    have e23 : look 55 ρ 23 = (I s3) := hdep 6 rfl rfl 23 rfl
                    exact does_v (v := (pt b18 o19)) (wanted_none _ rfl _) (rv_ix Try.underlying23 ti26 e22 e23 hi17) rfl) ?_
                refine all_cons (by
                    intro ρ σm m hoff hdep
                    have e24 : look 55 ρ 24 = (pt b18 o19) := hdep 7 rfl rfl 24 rfl
                    exact does_v (v := (pt b18 (o19 + 0))) (wanted_none _ rfl _) (rv_fieldAddr (off := 0) (ft := 3) Try.underlying26 rfl ti3 rfl e24) rfl) ?_
                refine all_cons (by
                    intro ρ σm m hoff hdep
                    have e25 : look 55 ρ 25 = (pt b18 (o19 + 0)) := hdep 8 rfl rfl 25 rfl
                    replace hR7 := hR7.mod m
                    exact does_v (v := (I x15.1)) (wanted_none _ rfl _) (rv_load1 Try.underlying3 rfl e25 (hR7.at hx16 hi17).fst.int) rfl) ?_
                refine all_cons (by
                    intro ρ σm m hoff hdep
                    have e21 : look 55 ρ 21 = (I x10.1) := hdep 4 rfl rfl 21 rfl
                    have e26 : look 55 ρ 26 = (I x15.1) := hdep 9 rfl rfl 26 rfl
                    exact does_v (v := (B (x10.1 != x15.1))) (wanted_none _ rfl _) (rv_neq (a := x10.1) (b := x15.1) e21 e26) rfl) ?_
                refine all_cons (by
                    intro ρ σm m hoff hdep
                    have e27 : look 55 ρ 27 = (B (x10.1 != x15.1)) := hdep 10 rfl rfl 27 rfl
                    exact does_v (v := (B (x10.1 != x15.1))) (wanted_none _ rfl _) (rv_move e27) rfl) ?_
                refine all_cons (by
                    intro ρ σm m hoff hdep
                    have e0 : look 55 ρ 0 = (Sl aa_0 a_0 ca_0) := look_off (hoff 0 rfl) rfl
                    have e28 : look 55 ρ 28 = (B (x10.1 != x15.1)) := hdep 11 rfl rfl 28 rfl
                    exact does_v (v := (Sl aa_0 a_0 ca_0)) (wanted_yes rfl (yv_of rfl (e28.trans (congrArg B hb20)))) (rv_move e0) rfl) ?_
                refine all_cons (by
                    intro ρ σm m hoff hdep
                    have e5 : look 55 ρ 5 = (I s3) := look_off (hoff 5 rfl) rfl
                    have e28 : look 55 ρ 28 = (B (x10.1 != x15.1)) := hdep 11 rfl rfl 28 rfl
                    exact does_v (v := (I s3)) (wanted_yes rfl (yv_of rfl (e28.trans (congrArg B hb20)))) (rv_move e5) rfl) ?_
                refine all_cons (by
                    intro ρ σm m hoff hdep
                    have e29 : look 55 ρ 29 = (Sl aa_0 a_0 ca_0) := hdep 12 rfl rfl 29 rfl
                    have e30 : look 55 ρ 30 = (I s3) := hdep 13 rfl rfl 30 rfl
                    have e28 : look 55 ρ 28 = (B (x10.1 != x15.1)) := hdep 11 rfl rfl 28 rfl
                    exact does_v (v := (pt b25 o26)) (wanted_yes rfl (yv_of rfl (e28.trans (congrArg B hb20)))) (rv_ix Try.underlying23 ti26 e29 e30 hi24) rfl) ?_
                refine all_cons (by
                    intro ρ σm m hoff hdep
                    have e31 : look 55 ρ 31 = (pt b25 o26) := hdep 14 rfl rfl 31 rfl
                    have e28 : look 55 ρ 28 = (B (x10.1 != x15.1)) := hdep 11 rfl rfl 28 rfl
                    exact does_v (v := (pt b25 (o26 + 2))) (wanted_yes rfl (yv_of rfl (e28.trans (congrArg B hb20)))) (rv_fieldAddr (off := 2) (ft := 3) Try.underlying26 rfl ti3 rfl e31) rfl) ?_
                refine all_cons (by
                    intro ρ σm m hoff hdep
                    have e32 : look 55 ρ 32 = (pt b25 (o26 + 2)) := hdep 15 rfl rfl 32 rfl
                    have e28 : look 55 ρ 28 = (B (x10.1 != x15.1)) := hdep 11 rfl rfl 28 rfl
                    replace hR6 := hR6.mod m
                    exact does_v (v := (I x22.2.2)) (wanted_yes rfl (yv_of rfl (e28.trans (congrArg B hb20)))) (rv_load1 Try.underlying3 rfl e32 (hR6.at hx23 hi24).snd.snd.int) rfl) ?_
                refine all_cons (by
                    intro ρ σm m hoff hdep
                    have e1 : look 55 ρ 1 = (Sl ab_1 b_1 cb_1) := look_off (hoff 1 rfl) rfl
                    have e28 : look 55 ρ 28 = (B (x10.1 != x15.1)) := hdep 11 rfl rfl 28 rfl
                    exact does_v (v := (Sl ab_1 b_1 cb_1)) (wanted_yes rfl (yv_of rfl (e28.trans (congrArg B hb20)))) (rv_move e1) rfl) ?_
                refine all_cons (by
                    intro ρ σm m hoff hdep
                    have e5 : look 55 ρ 5 = (I s3) := look_off (hoff 5 rfl) rfl
                    have e28 : look 55 ρ 28 = (B (x10.1 != x15.1)) := hdep 11 rfl rfl 28 rfl
                    exact does_v (v := (I s3)) (wanted_yes rfl (yv_of rfl (e28.trans (congrArg B hb20)))) (rv_move e5) rfl) ?_
                refine all_cons (by
                    intro ρ σm m hoff hdep
                    have e34 : look 55 ρ 34 = (Sl ab_1 b_1 cb_1) := hdep 17 rfl rfl 34 rfl
                    have e35 : look 55 ρ 35 = (I s3) := hdep 18 rfl rfl 35 rfl
                    have e28 : look 55 ρ 28 = (B (x10.1 != x15.1)) := hdep 11 rfl rfl 28 rfl
                    exact does_v (v := (pt b30 o31)) (wanted_yes rfl (yv_of rfl (e28.trans (congrArg B hb20)))) (rv_ix Try.underlying23 ti26 e34 e35 hi29) rfl) ?_
                refine all_cons (by
                    intro ρ σm m hoff hdep
                    have e36 : look 55 ρ 36 = (pt b30 o31) := hdep 19 rfl rfl 36 rfl
                    have e28 : look 55 ρ 28 = (B (x10.1 != x15.1)) := hdep 11 rfl rfl 28 rfl
                    exact does_v (v := (pt b30 (o31 + 2))) (wanted_yes rfl (yv_of rfl (e28.trans (congrArg B hb20)))) (rv_fieldAddr (off := 2) (ft := 3) Try.underlying26 rfl ti3 rfl e36) rfl) ?_
                refine all_cons (by
                    intro ρ σm m hoff hdep
                    have e37 : look 55 ρ 37 = (pt b30 (o31 + 2)) := hdep 20 rfl rfl 37 rfl
                    have e28 : look 55 ρ 28 = (B (x10.1 != x15.1)) := hdep 11 rfl rfl 28 rfl
                    replace hR7 := hR7.mod m
                    exact does_v (v := (I x27.2.2)) (wanted_yes rfl (yv_of rfl (e28.trans (congrArg B hb20)))) (rv_load1 Try.underlying3 rfl e37 (hR7.at hx28 hi29).snd.snd.int) rfl) ?_
                refine all_cons (by
                    intro ρ σm m hoff hdep
                    have e33 : look 55 ρ 33 = (I x22.2.2) := hdep 16 rfl rfl 33 rfl
                    have e38 : look 55 ρ 38 = (I x27.2.2) := hdep 21 rfl rfl 38 rfl
                    have e28 : look 55 ρ 28 = (B (x10.1 != x15.1)) := hdep 11 rfl rfl 28 rfl
                    exact does_v (v := (B (x22.2.2 != x27.2.2))) (wanted_yes rfl (yv_of rfl (e28.trans (congrArg B hb20)))) (rv_neq (a := x22.2.2) (b := x27.2.2) e33 e38) rfl) ?_
                refine all_cons (by
                    intro ρ σm m hoff hdep
                    have e28 : look 55 ρ 28 = (B (x10.1 != x15.1)) := hdep 11 rfl rfl 28 rfl
                    have e39 : look 55 ρ 39 = (B (x22.2.2 != x27.2.2)) := hdep 22 rfl rfl 39 rfl
                    exact does_v (v := (B (x22.2.2 != x27.2.2))) (wanted_none _ rfl _) (rv_pick_f (e28.trans (congrArg B hb20)) e39) rfl) ?_
                refine all_cons (by
                    intro ρ σm m hoff hdep
                    have e40 : look 55 ρ 40 = (B (x22.2.2 != x27.2.2)) := hdep 23 rfl rfl 40 rfl
                    exact does_v (v := (B (x22.2.2 != x27.2.2))) (wanted_none _ rfl _) (rv_move e40) rfl) ?_
                refine all_cons (by
                    intro ρ σm m hoff hdep
                    have e41 : look 55 ρ 41 = (B (x22.2.2 != x27.2.2)) := hdep 24 rfl rfl 41 rfl
                    exact does_skip (wanted_no rfl (yv_of rfl (e41.trans (congrArg B hb32)))) rfl) ?_
                refine all_cons (by
                    intro ρ σm m hoff hdep
                    have e41 : look 55 ρ 41 = (B (x22.2.2 != x27.2.2)) := hdep 24 rfl rfl 41 rfl
                    exact does_skip (wanted_no rfl (yv_of rfl (e41.trans (congrArg B hb32)))) rfl) ?_
                refine all_cons (by
                    intro ρ σm m hoff hdep
                    have e41 : look 55 ρ 41 = (B (x22.2.2 != x27.2.2)) := hdep 24 rfl rfl 41 rfl
                    exact does_skip (wanted_no rfl (yv_of rfl (e41.trans (congrArg B hb32)))) rfl) ?_
                refine all_cons (by
                    intro ρ σm m hoff hdep
                    have e41 : look 55 ρ 41 = (B (x22.2.2 != x27.2.2)) := hdep 24 rfl rfl 41 rfl
                    exact does_skip (wanted_no rfl (yv_of rfl (e41.trans (congrArg B hb32)))) rfl) ?_
                refine all_cons (by
                    intro ρ σm m hoff hdep
                    have e41 : look 55 ρ 41 = (B (x22.2.2 != x27.2.2)) := hdep 24 rfl rfl 41 rfl
                    exact does_skip (wanted_no rfl (yv_of rfl (e41.trans (congrArg B hb32)))) rfl) ?_
                refine all_cons (by
                    intro ρ σm m hoff hdep
                    have e41 : look 55 ρ 41 = (B (x22.2.2 != x27.2.2)) := hdep 24 rfl rfl 41 rfl
                    exact does_skip (wanted_no rfl (yv_of rfl (e41.trans (congrArg B hb32)))) rfl) ?_
                refine all_cons (by
                    intro ρ σm m hoff hdep
                    have e41 : look 55 ρ 41 = (B (x22.2.2 != x27.2.2)) := hdep 24 rfl rfl 41 rfl
                    exact does_skip (wanted_no rfl (yv_of rfl (e41.trans (congrArg B hb32)))) rfl) ?_
                refine all_cons (by
                    intro ρ σm m hoff hdep
                    have e41 : look 55 ρ 41 = (B (x22.2.2 != x27.2.2)) := hdep 24 rfl rfl 41 rfl
                    exact does_skip (wanted_no rfl (yv_of rfl (e41.trans (congrArg B hb32)))) rfl) ?_
                refine all_cons (by
                    intro ρ σm m hoff hdep
                    have e41 : look 55 ρ 41 = (B (x22.2.2 != x27.2.2)) := hdep 24 rfl rfl 41 rfl
                    exact does_skip (wanted_no rfl (yv_of rfl (e41.trans (congrArg B hb32)))) rfl) ?_
                refine all_cons (by
                    intro ρ σm m hoff hdep
                    have e41 : look 55 ρ 41 = (B (x22.2.2 != x27.2.2)) := hdep 24 rfl rfl 41 rfl
                    exact does_skip (wanted_no rfl (yv_of rfl (e41.trans (congrArg B hb32)))) rfl) ?_
                exact all_nil
              · intro ρ σ33 m hoff hrel
                have e0 : look 55 ρ 0 = (Sl aa_0 a_0 ca_0) := look_off (hoff 0 rfl) rfl
                have e1 : look 55 ρ 1 = (Sl ab_1 b_1 cb_1) := look_off (hoff 1 rfl) rfl
                have e5 : look 55 ρ 5 = (I s3) := look_off (hoff 5 rfl) rfl
                have e41 : look 55 ρ 41 = (B (x22.2.2 != x27.2.2)) := hrel 24 rfl 41 rfl
                have e46 : look 55 ρ 46 = undef := hrel 29 rfl 46 rfl
                have e51 : look 55 ρ 51 = undef := hrel 34 rfl 51 rfl
                replace hR6 := hR6.mod m
                replace hR7 := hR7.mod m
                replace hK := hK.none m
                rw [fr_lookL (L := [(0, (Sl aa_0 a_0 ca_0)), (1, (Sl ab_1 b_1 cb_1)), (5, (I s3)), (41, (B (x22.2.2 != x27.2.2))), (46, undef), (51, undef)]) ⟨e0, e1, e5, e41, e46, e51, trivial⟩]
                clear hoff hrel m e0 e1 e5 e41 e46 e51
                refine st_skip (congrArg some hb32) ?_
                refine st_skip (congrArg some hb32) ?_
                refine st (v := (B true)) (rv_pick_t (congrArg B hb32) rfl) ?_
                refine w_end ?_
                obtain rfl := Option.some.inj h
                exact ⟨rfl, _, σ33, fr_join ⟨rfl, rfl, rfl, rfl, trivial⟩, rfl, hK, hR6, hR7⟩
            · replace h := bif_f hb32 h
              obtain ⟨x34, hx35, h'⟩ := bind_some h
              clear h
              have h := h'; clear h'
              obtain ⟨b37, o38, hi36, -⟩ := hR6.ix hx35
              obtain ⟨v42, hc43, hR41⟩ := (hR6.at hx35 hi36).snd.fst.slice
              obtain ⟨a39, c40, rfl⟩ := hR41.isSl
              obtain ⟨x44, hx45, h'⟩ := bind_some h
              clear h
              have h := h'; clear h'
              obtain ⟨b47, o48, hi46, -⟩ := hR7.ix hx45
              obtain ⟨v52, hc53, hR51⟩ := (hR7.at hx45 hi46).snd.fst.slice
              obtain ⟨a49, c50, rfl⟩ := hR51.isSl
              refine rg_monoL (σ := σ5) 35 [eqv (Sl aa_0 a_0 ca_0), eqv (I s3), eqv (pt b13 o14), eqv (pt b13 (o14 + 0)), eqv (I x10.1), eqv (Sl ab_1 b_1 cb_1), eqv (I s3), eqv (pt b18 o19), eqv (pt b18 (o19 + 0)), eqv (I x15.1), eqv (B (x10.1 != x15.1)), eqv (B (x10.1 != x15.1)), eqv (Sl aa_0 a_0 ca_0), eqv (I s3), eqv (pt b25 o26), eqv (pt b25 (o26 + 2)), eqv (I x22.2.2), eqv (Sl ab_1 b_1 cb_1), eqv (I s3), eqv (pt b30 o31), eqv (pt b30 (o31 + 2)), eqv (I x27.2.2), eqv (B (x22.2.2 != x27.2.2)), eqv (B (x22.2.2 != x27.2.2)), eqv (B (x22.2.2 != x27.2.2)), eqv (Sl aa_0 a_0 ca_0), eqv (I s3), eqv (pt b37 o38), eqv (pt b37 (o38 + 1)), eqv (Sl a39 x34.2.1 c40), eqv (Sl ab_1 b_1 cb_1), eqv (I s3), eqv (pt b47 o48), eqv (pt b47 (o48 + 1)), eqv (Sl a49 x44.2.1 c50)] (by kernel_rfl) (by kernel_rfl) (mono_cons mono_eqv (mono_cons mono_eqv (mono_cons mono_eqv (mono_cons mono_eqv (mono_cons mono_eqv (mono_cons mono_eqv (mono_cons mono_eqv (mono_cons mono_eqv (mono_cons mono_eqv (mono_cons mono_eqv (mono_cons mono_eqv (mono_cons mono_eqv (mono_cons mono_eqv (mono_cons mono_eqv (mono_cons mono_eqv (mono_cons mono_eqv (mono_cons mono_eqv (mono_cons mono_eqv (mono_cons mono_eqv (mono_cons mono_eqv (mono_cons mono_eqv (mono_cons mono_eqv (mono_cons mono_eqv (mono_cons mono_eqv (mono_cons mono_eqv (mono_cons mono_eqv (mono_cons mono_eqv (mono_cons mono_eqv (mono_cons mono_eqv (mono_cons mono_eqv (mono_cons mono_eqv (mono_cons mono_eqv (mono_cons mono_eqv (mono_cons mono_eqv (mono_cons mono_eqv (mono_nil)))))))))))))))))))))))))))))))))))) ?_ ?_
              · refine all_cons (by
                    intro ρ σm m hoff hdep
                    have e0 : look 55 ρ 0 = (Sl aa_0 a_0 ca_0) := look_off (hoff 0 rfl) rfl
                    exact does_v (v := (Sl aa_0 a_0 ca_0)) (wanted_none _ rfl _) (rv_move e0) rfl) ?_
                refine all_cons (by
                    intro ρ σm m hoff hdep
                    have e5 : look 55 ρ 5 = (I s3) := look_off (hoff 5 rfl) rfl
                    exact does_v (v := (I s3)) (wanted_none _ rfl _) (rv_move e5) rfl) ?_
                refine all_cons (by
                    intro ρ σm m hoff hdep
                    have e17 : look 55 ρ 17 = (Sl aa_0 a_0 ca_0) := hdep 0 rfl rfl 17 rfl
                    have e18 : look 55 ρ 18 = (I s3) := hdep 1 rfl rfl 18 rfl
                    exact does_v (v := (pt b13 o14)) (wanted_none _ rfl _) (rv_ix Try.underlying23 ti26 e17 e18 hi12) rfl) ?_
                refine all_cons (by
                    intro ρ σm m hoff hdep
                    have e19 : look 55 ρ 19 = (pt b13 o14) := hdep 2 rfl rfl 19 rfl
                    exact does_v (v := (pt b13 (o14 + 0))) (wanted_none _ rfl _) (rv_fieldAddr (off := 0) (ft := 3) Try.underlying26 rfl ti3 rfl e19) rfl) ?_
                refine all_cons (by
                    intro ρ σm m hoff hdep
                    have e20 : look 55 ρ 20 = (pt b13 (o14 + 0)) := hdep 3 rfl rfl 20 rfl
                    replace hR6 := hR6.mod m
                    exact does_v (v := (I x10.1)) (wanted_none _ rfl _) (rv_load1 Try.underlying3 rfl e20 (hR6.at hx11 hi12).fst.int) rfl) ?_
                refine all_cons (by
                    intro ρ σm m hoff hdep
                    have e1 : look 55 ρ 1 = (Sl ab_1 b_1 cb_1) := look_off (hoff 1 rfl) rfl
                    exact does_v (v := (Sl ab_1 b_1 cb_1)) (wanted_none _ rfl _) (rv_move e1) rfl) ?_
                refine all_cons (by
                    intro ρ σm m hoff hdep
                    have e5 : look 55 ρ 5 = (I s3) := look_off (hoff 5 rfl) rfl
                    exact does_v (v := (I s3)) (wanted_none _ rfl _) (rv_move e5) rfl) ?_
                refine all_cons (by
                    intro ρ σm m hoff hdep
                    have e22 : look 55 ρ 22 = (Sl ab_1 b_1 cb_1) := hdep 5 rfl rfl 22 rfl
                    have e23 : look 55 ρ 23 = (I s3) := hdep 6 rfl rfl 23 rfl
                    exact does_v (v := (pt b18 o19)) (wanted_none _ rfl _) (rv_ix Try.underlying23 ti26 e22 e23 hi17) rfl) ?_
                refine all_cons (by
                    intro ρ σm m hoff hdep
                    have e24 : look 55 ρ 24 = (pt b18 o19) := hdep 7 rfl rfl 24 rfl
                    exact does_v (v := (pt b18 (o19 + 0))) (wanted_none _ rfl _) (rv_fieldAddr (off := 0) (ft := 3) Try.underlying26 rfl ti3 rfl e24) rfl) ?_
                refine all_cons (by
                    intro ρ σm m hoff hdep
                    have e25 : look 55 ρ 25 = (pt b18 (o19 + 0)) := hdep 8 rfl rfl 25 rfl
                    replace hR7 := hR7.mod m
                    exact does_v (v := (I x15.1)) (wanted_none _ rfl _) (rv_load1 Try.underlying3 rfl e25 (hR7.at hx16 hi17).fst.int) rfl) ?_
                refine all_cons (by
                    intro ρ σm m hoff hdep
                    have e21 : look 55 ρ 21 = (I x10.1) := hdep 4 rfl rfl 21 rfl
                    have e26 : look 55 ρ 26 = (I x15.1) := hdep 9 rfl rfl 26 rfl
                    exact does_v (v := (B (x10.1 != x15.1))) (wanted_none _ rfl _) (rv_neq (a := x10.1) (b := x15.1) e21 e26) rfl) ?_
                refine all_cons (by
                    intro ρ σm m hoff hdep
                    have e27 : look 55 ρ 27 = (B (x10.1 != x15.1)) := hdep 10 rfl rfl 27 rfl
                    exact does_v (v := (B (x10.1 != x15.1))) (wanted_none _ rfl _) (rv_move e27) rfl) ?_
                refine all_cons (by
                    intro ρ σm m hoff hdep
                    have e0 : look 55 ρ 0 = (Sl aa_0 a_0 ca_0) := look_off (hoff 0 rfl) rfl
                    have e28 : look 55 ρ 28 = (B (x10.1 != x15.1)) := hdep 11 rfl rfl 28 rfl
                    exact does_v (v := (Sl aa_0 a_0 ca_0)) (wanted_yes rfl (yv_of rfl (e28.trans (congrArg B hb20)))) (rv_move e0) rfl) ?_
                refine all_cons (by
                    intro ρ σm m hoff hdep
                    have e5 : look 55 ρ 5 = (I s3) := look_off (hoff 5 rfl) rfl
                    have e28 : look 55 ρ 28 = (B (x10.1 != x15.1)) := hdep 11 rfl rfl 28 rfl
                    exact does_v (v := (I s3)) (wanted_yes rfl (yv_of rfl (e28.trans (congrArg B hb20)))) (rv_move e5) rfl) ?_
                refine all_cons (by
                    intro ρ σm m hoff hdep
                    have e29 : look 55 ρ 29 = (Sl aa_0 a_0 ca_0) := hdep 12 rfl rfl 29 rfl
                    have e30 : look 55 ρ 30 = (I s3) := hdep 13 rfl rfl 30 rfl
                    have e28 : look 55 ρ 28 = (B (x10.1 != x15.1)) := hdep 11 rfl rfl 28 rfl
                    exact does_v (v := (pt b25 o26)) (wanted_yes rfl (yv_of rfl (e28.trans (congrArg B hb20)))) (rv_ix Try.underlying23 ti26 e29 e30 hi24) rfl) ?_
                refine all_cons (by
                    intro ρ σm m hoff hdep
                    have e31 : look 55 ρ 31 = (pt b25 o26) := hdep 14 rfl rfl 31 rfl
                    have e28 : look 55 ρ 28 = (B (x10.1 != x15.1)) := hdep 11 rfl rfl 28 rfl
                    exact does_v (v := (pt b25 (o26 + 2))) (wanted_yes rfl (yv_of rfl (e28.trans (congrArg B hb20)))) (rv_fieldAddr (off := 2) (ft := 3) Try.underlying26 rfl ti3 rfl e31) rfl) ?_
                refine all_cons (by
                    intro ρ σm m hoff hdep
                    have e32 : look 55 ρ 32 = (pt b25 (o26 + 2)) := hdep 15 rfl rfl 32 rfl
                    have e28 : look 55 ρ 28 = (B (x10.1 != x15.1)) := hdep 11 rfl rfl 28 rfl
                    replace hR6 := hR6.mod m
                    exact does_v (v := (I x22.2.2)) (wanted_yes rfl (yv_of rfl (e28.trans (congrArg B hb20)))) (rv_load1 Try.underlying3 rfl e32 (hR6.at hx23 hi24).snd.snd.int) rfl) ?_
                refine all_cons (by
                    intro ρ σm m hoff hdep
                    have e1 : look 55 ρ 1 = (Sl ab_1 b_1 cb_1) := look_off (hoff 1 rfl) rfl
                    have e28 : look 55 ρ 28 = (B (x10.1 != x15.1)) := hdep 11 rfl rfl 28 rfl
                    exact does_v (v := (Sl ab_1 b_1 cb_1)) (wanted_yes rfl (yv_of rfl (e28.trans (congrArg B hb20)))) (rv_move e1) rfl) ?_
                refine all_cons (by
                    intro ρ σm m hoff hdep
                    have e5 : look 55 ρ 5 = (I s3) := look_off (hoff 5 rfl) rfl
                    have e28 : look 55 ρ 28 = (B (x10.1 != x15.1)) := hdep 11 rfl rfl 28 rfl
                    exact does_v (v := (I s3)) (wanted_yes rfl (yv_of rfl (e28.trans (congrArg B hb20)))) (rv_move e5) rfl) ?_
                refine all_cons (by
                    intro ρ σm m hoff hdep
                    have e34 : look 55 ρ 34 = (Sl ab_1 b_1 cb_1) := hdep 17 rfl rfl 34 rfl
                    have e35 : look 55 ρ 35 = (I s3) := hdep 18 rfl rfl 35 rfl
                    have e28 : look 55 ρ 28 = (B (x10.1 != x15.1)) := hdep 11 rfl rfl 28 rfl
                    exact does_v (v := (pt b30 o31)) (wanted_yes rfl (yv_of rfl (e28.trans (congrArg B hb20)))) (rv_ix Try.underlying23 ti26 e34 e35 hi29) rfl) ?_
                refine all_cons (by
                    intro ρ σm m hoff hdep
                    have e36 : look 55 ρ 36 = (pt b30 o31) := hdep 19 rfl rfl 36 rfl
                    have e28 : look 55 ρ 28 = (B (x10.1 != x15.1)) := hdep 11 rfl rfl 28 rfl
                    exact does_v (v := (pt b30 (o31 + 2))) (wanted_yes rfl (yv_of rfl (e28.trans (congrArg B hb20)))) (rv_fieldAddr (off := 2) (ft := 3) Try.underlying26 rfl ti3 rfl e36) rfl) ?_
                refine all_cons (by
                    intro ρ σm m hoff hdep
                    have e37 : look 55 ρ 37 = (pt b30 (o31 + 2)) := hdep 20 rfl rfl 37 rfl
                    have e28 : look 55 ρ 28 = (B (x10.1 != x15.1)) := hdep 11 rfl rfl 28 rfl
                    replace hR7 := hR7.mod m
                    exact does_v (v := (I x27.2.2)) (wanted_yes rfl (yv_of rfl (e28.trans (congrArg B hb20)))) (rv_load1 Try.underlying3 rfl e37 (hR7.at hx28 hi29).snd.snd.int) rfl) ?_
                refine all_cons (by
                    intro ρ σm m hoff hdep
                    have e33 : look 55 ρ 33 = (I x22.2.2) := hdep 16 rfl rfl 33 rfl
                    have e38 : look 55 ρ 38 = (I x27.2.2) := hdep 21 rfl rfl 38 rfl
                    have e28 : look 55 ρ 28 = (B (x10.1 != x15.1)) := hdep 11 rfl rfl 28 rfl
                    exact does_v (v := (B (x22.2.2 != x27.2.2))) (wanted_yes rfl (yv_of rfl (e28.trans (congrArg B hb20)))) (rv_neq (a := x22.2.2) (b := x27.2.2) e33 e38) rfl) ?_
                refine all_cons (by
                    intro ρ σm m hoff hdep
                    have e28 : look 55 ρ 28 = (B (x10.1 != x15.1)) := hdep 11 rfl rfl 28 rfl
                    have e39 : look 55 ρ 39 = (B (x22.2.2 != x27.2.2)) := hdep 22 rfl rfl 39 rfl
                    exact does_v (v := (B (x22.2.2 != x27.2.2))) (wanted_none _ rfl _) (rv_pick_f (e28.trans (congrArg B hb20)) e39) rfl) ?_
                refine all_cons (by
                    intro ρ σm m hoff hdep
                    have e40 : look 55 ρ 40 = (B (x22.2.2 != x27.2.2)) := hdep 23 rfl rfl 40 rfl
                    exact does_v (v := (B (x22.2.2 != x27.2.2))) (wanted_none _ rfl _) (rv_move e40) rfl) ?_
                refine all_cons (by
                    intro ρ σm m hoff hdep
                    have e0 : look 55 ρ 0 = (Sl aa_0 a_0 ca_0) := look_off (hoff 0 rfl) rfl
                    have e41 : look 55 ρ 41 = (B (x22.2.2 != x27.2.2)) := hdep 24 rfl rfl 41 rfl
                    exact does_v (v := (Sl aa_0 a_0 ca_0)) (wanted_yes rfl (yv_of rfl (e41.trans (congrArg B hb32)))) (rv_move e0) rfl) ?_
                refine all_cons (by
                    intro ρ σm m hoff hdep
                    have e5 : look 55 ρ 5 = (I s3) := look_off (hoff 5 rfl) rfl
                    have e41 : look 55 ρ 41 = (B (x22.2.2 != x27.2.2)) := hdep 24 rfl rfl 41 rfl
                    exact does_v (v := (I s3)) (wanted_yes rfl (yv_of rfl (e41.trans (congrArg B hb32)))) (rv_move e5) rfl) ?_
                refine all_cons (by
                    intro ρ σm m hoff hdep
                    have e42 : look 55 ρ 42 = (Sl aa_0 a_0 ca_0) := hdep 25 rfl rfl 42 rfl
                    have e43 : look 55 ρ 43 = (I s3) := hdep 26 rfl rfl 43 rfl
                    have e41 : look 55 ρ 41 = (B (x22.2.2 != x27.2.2)) := hdep 24 rfl rfl 41 rfl
                    exact does_v (v := (pt b37 o38)) (wanted_yes rfl (yv_of rfl (e41.trans (congrArg B hb32)))) (rv_ix Try.underlying23 ti26 e42 e43 hi36) rfl) ?_
                refine all_cons (by
                    intro ρ σm m hoff hdep
                    have e44 : look 55 ρ 44 = (pt b37 o38) := hdep 27 rfl rfl 44 rfl
                    have e41 : look 55 ρ 41 = (B (x22.2.2 != x27.2.2)) := hdep 24 rfl rfl 41 rfl
                    exact does_v (v := (pt b37 (o38 + 1))) (wanted_yes rfl (yv_of rfl (e41.trans (congrArg B hb32)))) (rv_fieldAddr (off := 1) (ft := 24) Try.underlying26 rfl ti24 rfl e44) rfl) ?_
                refine all_cons (by
                    intro ρ σm m hoff hdep
                    have e45 : look 55 ρ 45 = (pt b37 (o38 + 1)) := hdep 28 rfl rfl 45 rfl
                    have e41 : look 55 ρ 41 = (B (x22.2.2 != x27.2.2)) := hdep 24 rfl rfl 41 rfl
                    replace hc43 := hR6.hmod hx35 hi36 (k := 1) (by decide) hc43 m
                    exact does_v (v := (Sl a39 x34.2.1 c40)) (wanted_yes rfl (yv_of rfl (e41.trans (congrArg B hb32)))) (rv_load1 Try.underlying24 rfl e45 hc43) rfl) ?_
                refine all_cons (by
                    intro ρ σm m hoff hdep
                    have e1 : look 55 ρ 1 = (Sl ab_1 b_1 cb_1) := look_off (hoff 1 rfl) rfl
                    have e41 : look 55 ρ 41 = (B (x22.2.2 != x27.2.2)) := hdep 24 rfl rfl 41 rfl
                    exact does_v (v := (Sl ab_1 b_1 cb_1)) (wanted_yes rfl (yv_of rfl (e41.trans (congrArg B hb32)))) (rv_move e1) rfl) ?_
                refine all_cons (by
                    intro ρ σm m hoff hdep
                    have e5 : look 55 ρ 5 = (I s3) := look_off (hoff 5 rfl) rfl
                    have e41 : look 55 ρ 41 = (B (x22.2.2 != x27.2.2)) := hdep 24 rfl rfl 41 rfl
                    exact does_v (v := (I s3)) (wanted_yes rfl (yv_of rfl (e41.trans (congrArg B hb32)))) (rv_move e5) rfl) ?_
                refine all_cons (by
                    intro ρ σm m hoff hdep
                    have e47 : look 55 ρ 47 = (Sl ab_1 b_1 cb_1) := hdep 30 rfl rfl 47 rfl
                    have e48 : look 55 ρ 48 = (I s3) := hdep 31 rfl rfl 48 rfl
                    have e41 : look 55 ρ 41 = (B (x22.2.2 != x27.2.2)) := hdep 24 rfl rfl 41 rfl
                    exact does_v (v := (pt b47 o48)) (wanted_yes rfl (yv_of rfl (e41.trans (congrArg B hb32)))) (rv_ix Try.underlying23 ti26 e47 e48 hi46) rfl) ?_
                refine all_cons (by
                    intro ρ σm m hoff hdep
                    have e49 : look 55 ρ 49 = (pt b47 o48) := hdep 32 rfl rfl 49 rfl
                    have e41 : look 55 ρ 41 = (B (x22.2.2 != x27.2.2)) := hdep 24 rfl rfl 41 rfl
                    exact does_v (v := (pt b47 (o48 + 1))) (wanted_yes rfl (yv_of rfl (e41.trans (congrArg B hb32)))) (rv_fieldAddr (off := 1) (ft := 24) Try.underlying26 rfl ti24 rfl e49) rfl) ?_
                refine all_cons (by
                    intro ρ σm m hoff hdep
                    have e50 : look 55 ρ 50 = (pt b47 (o48 + 1)) := hdep 33 rfl rfl 50 rfl
                    have e41 : look 55 ρ 41 = (B (x22.2.2 != x27.2.2)) := hdep 24 rfl rfl 41 rfl
                    replace hc53 := hR7.hmod hx45 hi46 (k := 1) (by decide) hc53 m
                    exact does_v (v := (Sl a49 x44.2.1 c50)) (wanted_yes rfl (yv_of rfl (e41.trans (congrArg B hb32)))) (rv_load1 Try.underlying24 rfl e50 hc53) rfl) ?_
                exact all_nil
              · intro ρ σ54 m hoff hrel
                have e0 : look 55 ρ 0 = (Sl aa_0 a_0 ca_0) := look_off (hoff 0 rfl) rfl
                have e1 : look 55 ρ 1 = (Sl ab_1 b_1 cb_1) := look_off (hoff 1 rfl) rfl
                have e5 : look 55 ρ 5 = (I s3) := look_off (hoff 5 rfl) rfl
                have e41 : look 55 ρ 41 = (B (x22.2.2 != x27.2.2)) := hrel 24 rfl 41 rfl
                have e46 : look 55 ρ 46 = (Sl a39 x34.2.1 c40) := hrel 29 rfl 46 rfl
                have e51 : look 55 ρ 51 = (Sl a49 x44.2.1 c50) := hrel 34 rfl 51 rfl
                replace hR6 := hR6.mod m
                replace hR7 := hR7.mod m
                replace hR41 := hR41.mod m
                replace hR51 := hR51.mod m
                replace hK := hK.none m
                rw [fr_lookL (L := [(0, (Sl aa_0 a_0 ca_0)), (1, (Sl ab_1 b_1 cb_1)), (5, (I s3)), (41, (B (x22.2.2 != x27.2.2))), (46, (Sl a39 x34.2.1 c40)), (51, (Sl a49 x44.2.1 c50))]) ⟨e0, e1, e5, e41, e46, e51, trivial⟩]
                clear hoff hrel m e0 e1 e5 e41 e46 e51
                obtain ⟨r55, hx56, h'⟩ := bind_some h
                clear h
                have h := h'; clear h'
                refine st_call_g (by exact (congrArg some hb32)) (c_laws_equalInts hR41 hR51 hx56) rfl ?_
                have hKs := hK.size
                rintro _ σ57 m58 rfl
                replace hR6 := hR6.mod m58
                replace hR7 := hR7.mod m58
                replace hR41 := hR41.mod m58
                replace hR51 := hR51.mod m58
                replace hK := hK.none m58
                clear hKs m58
                refine st_g (v := (B (!r55))) (congrArg some hb32) (rv_not rfl) ?_
                refine st (v := (B (!r55))) (rv_pick_f (congrArg B hb32) rfl) ?_
                refine w_end ?_
                obtain rfl := Option.some.inj h
                exact ⟨rfl, _, σ57, fr_join ⟨rfl, rfl, rfl, rfl, trivial⟩, rfl, hK, hR6, hR7⟩
        · clear hj
          have h := h'
          clear h'
          rintro e a w ⟨rfl, ρ, σ59, rfl, rfl, hK, hR60, hR61⟩
          refine q_then ?_
          refine cd_cond o9 rfl (fun hb62 => ?_) (fun hb62 => ?_)
          · replace h := bif_t hb62 h
            refine c_seq ?_
            refine rg ?_
            refine st (v := (B false)) (rv_assign rfl) ?_
            refine w_end ?_
            refine q_then ?_
            refine c_ret ?_
            refine q_blk_r ?_
            refine q_then_r ?_
            refine q_then_r ?_
            refine q_blk_r ?_
            obtain rfl := Option.some.inj h
            obtain rfl := hres _ rfl
            exact .inr (⟨_, rfl, rfl, _, σ59, fr_join ⟨rfl, trivial⟩, rfl, hK⟩)
          · replace h := bif_f hb62 h
            refine c_skip ?_
            refine q_blk ?_
            refine q_then ?_
            refine rg ?_
            refine st (v := (I s3)) (rv_move rfl) ?_
            refine st (v := (I (w64 (s3 + 1)))) (rv_add (a := s3) (b := 1) rfl rfl) ?_
            refine st (v := (I (w64 (s3 + 1)))) (rv_assign rfl) ?_
            refine w_end ?_
            refine q_then ?_
            obtain rfl := Option.some.inj h
            exact ⟨_, rfl, _, σ59, fr_join ⟨rfl, rfl, rfl, trivial⟩, rfl, hK, hR60, hR61⟩
      · replace h := bif_f hb8 h
        refine c_exit ?_
        refine q_then_x ?_
        refine q_then_x ?_
        refine q_blk_hit ?_
        obtain rfl := Option.some.inj h
        obtain rfl := hres _ rfl
        exact .inl ⟨_, rfl, rfl, _, σ5, fr_join trivial, rfl, hK⟩
    · clear hj
      have h := h'
      clear h'
      rintro e a w (⟨t63, rfl, rfl, ρ, σ64, rfl, rfl, hK⟩ | ⟨t65, rfl, rfl, ρ, σ66, rfl, rfl, hK⟩)
      · replace h := selim_l h
        refine q_then ?_
        refine c_seq ?_
        refine rg ?_
        refine st (v := (B true)) (rv_assign rfl) ?_
        refine w_end ?_
        refine q_then ?_
        refine c_ret ?_
        obtain rfl := Option.some.inj h
        exact bodyPost_ret (v := (B true)) (results_fr1 Try.results17 rfl _) rfl ⟨_, σ64, rfl, rfl, hK, rfl⟩
      · replace h := selim_r h
        refine q_then_r ?_
        obtain rfl := Option.some.inj h
        exact bodyPost_ret (v := (B t65)) (results_fr1 Try.results17 rfl _) rfl ⟨_, σ66, rfl, rfl, hK, rfl⟩

theorem c_spec_ValidVector {σ0 : St} {v_0 : List Int} {av_0 : Option Addr} {cv_0 : Nat} (hRv_0 : RS 0 σ0 (Sl av_0 v_0 cv_0) v_0) {r : Bool} (h : M.spec_ValidVector v_0 = some r) :
    Cal Try.prog 19 [(Sl av_0 v_0 cv_0)] none σ0 (fun v σ' => v = (B r)) := by
  refine ⟨⟨_, _, Try.func19, rfl, rfl⟩, ?_⟩
  refine enter (n := 5) Try.func19 rfl rfl rfl ?_
  unfold M.spec_ValidVector at h
  have hK : Mod none σ0 σ0 := Mod.refl _ _
  refine c_seq ?_
  refine rg ?_
  refine st (v := (B false)) (rv_assign rfl) ?_
  refine w_end ?_
  refine q_then ?_
  refine c_seq ?_
  refine rg ?_
  refine st (v := (Sl av_0 v_0 cv_0)) (rv_move rfl) ?_
  obtain ⟨r1, hx2, h'⟩ := bind_some h
  clear h
  have h := h'; clear h'
  refine st_call (c_spec_isVector hRv_0 hx2) rfl ?_
  have hKs := hK.size
  rintro _ σ3 m4 rfl
  replace hRv_0 := hRv_0.mod m4
  replace hK := hK.none m4
  clear hKs m4
  refine st (v := (B r1)) (rv_assign rfl) ?_
  refine w_end ?_
  refine q_then ?_
  refine c_ret ?_
  obtain rfl := Option.some.inj h
  exact bodyPost_ret (v := (B r1)) (results_fr1 Try.results19 rfl _) rfl ⟨_, σ3, rfl, rfl, hK, rfl⟩

theorem c_laws_toIntS {σ0 : St} {a_0 : List Int} {aa_0 : Option Addr} {ca_0 : Nat} (hRa_0 : RS 0 σ0 (Sl aa_0 a_0 ca_0) a_0) {r : (List Int)} (h : M.laws_toIntS a_0 = some r) :
    Cal Try.prog 20 [(Sl aa_0 a_0 ca_0)] none σ0 (fun v σ' => ∃ (a0 : Option Addr) (c0 : Nat), v = (Sl a0 r c0) ∧ Ow σ' σ0.size σ0.size (Sl a0 r c0) r) := by
  refine ⟨⟨_, _, Try.func20, rfl, rfl⟩, ?_⟩
  refine enter (n := 22) Try.func20 rfl rfl rfl ?_
  unfold M.laws_toIntS at h
  have hK : Mod none σ0 σ0 := Mod.refl _ _
  refine c_seq ?_
  refine rg ?_
  refine st (v := (.slice none 0 0)) (rv_assign rfl) ?_
  refine w_end ?_
  refine q_then ?_
  refine c_seq ?_
  refine rg ?_
  refine st (v := (Sl aa_0 a_0 ca_0)) (rv_move rfl) ?_
  refine st (v := (I (a_0.length : Int))) (rv_len Try.underlying24 rfl) ?_
  obtain ⟨xs1, hx2, h'⟩ := bind_some h
  clear h
  have h := h'; clear h'
  refine st_make (lo := σ0.size) (el := σ0.size) (z0 := (0 : Int)) (zs := [(I 0)]) Try.underlying24 ti3 rfl rfl rfl (by decide) hx2 rfl rfl hK.size ?_ (wanted_none _ rfl _)
  intro b4 σ6 c5 hbn8 m7 hO3
  replace hRa_0 := hRa_0.mod m7
  replace hK := hK.none m7
  clear hbn8 m7
  refine st (v := (Sl (some ⟨b4, 0, none⟩) xs1 c5)) (rv_assign rfl) ?_
  refine w_end ?_
  refine q_then ?_
  refine c_seq ?_
  refine c_seq ?_
  refine rg ?_
  refine st (v := (I 0)) (rv_assign rfl) ?_
  refine w_end ?_
  refine q_then ?_
  obtain ⟨o9, hj, h'⟩ := bind_some h
  clear h
  refine c_cut (fun e a w => e = .normal ∧ ∃ (ρ : Nat → Value) (σ : St) (aj1 : Option Addr) (cj2 : Nat), a = fr 22 (updL ρ [(3, (Sl aj1 o9 cj2))]) ∧ w = σ.w ∧ Mod none σ0 σ ∧ Ow σ σ0.size σ0.size (Sl aj1 o9 cj2) o9) ?_ ?_
  · clear h'
    rename _ = some o9 => h
    refine c_blk ?_
    refine wp_loopM _ h (fun s10 a w => ∃ (ρ : Nat → Value) (σ : St) (aj2 : Option Addr) (cj3 : Nat), a = fr 22 (updL ρ [(0, (Sl aa_0 a_0 ca_0)), (3, (Sl aj2 s10.1 cj3)), (4, (I s10.2))]) ∧ w = σ.w ∧ Mod none σ0 σ ∧ RS 0 σ (Sl aa_0 a_0 ca_0) a_0 ∧ Ow σ σ0.size σ0.size (Sl aj2 s10.1 cj3) s10.1) ⟨_, σ6, (some ⟨b4, 0, none⟩), c5, fr_join ⟨rfl, rfl, rfl, trivial⟩, rfl, hK, hRa_0, hO3⟩ ?_
    clear h
    rintro s10 a w o ⟨ρ, σ12, a14, c15, rfl, rfl, hK, hR13, hO16⟩ h hres
    refine c_seq ?_
    refine c_seq ?_
    refine rg ?_
    refine st (v := (I s10.2)) (rv_move rfl) ?_
    refine st (v := (Sl aa_0 a_0 ca_0)) (rv_move rfl) ?_
    refine st (v := (I (a_0.length : Int))) (rv_len Try.underlying24 rfl) ?_
    refine st (v := (B (decide (s10.2 < (a_0.length : Int))))) (rv_lss (a := s10.2) (b := (a_0.length : Int)) rfl rfl) ?_
    refine w_end ?_
    refine q_then ?_
    refine cd_cond (decide (s10.2 < (a_0.length : Int))) rfl (fun hb17 => ?_) (fun hb17 => ?_)
    · replace h := bif_t hb17 h
      refine c_skip ?_
      refine q_then ?_
      refine c_seq ?_
      refine c_blk ?_
      refine rg ?_
      refine st (v := (Sl a14 s10.1 c15)) (rv_move rfl) ?_
      refine st (v := (I s10.2)) (rv_move rfl) ?_
      refine st (v := (Sl aa_0 a_0 ca_0)) (rv_move rfl) ?_
      refine st (v := (I s10.2)) (rv_move rfl) ?_
      obtain ⟨x18, hx19, h'⟩ := bind_some h
      clear h
      have h := h'; clear h'
      obtain ⟨b21, o22, hi20, -⟩ := hR13.ix hx19
      refine st (v := (pt b21 o22)) (rv_ix Try.underlying24 ti3 rfl rfl hi20) ?_
      refine st (v := (I x18)) (rv_load1 Try.underlying3 rfl rfl (hR13.at hx19 hi20).int) ?_
      obtain ⟨x23, hx24, h'⟩ := bind_some h
      clear h
      have h := h'; clear h'
      obtain ⟨b26, o27, hi25, -⟩ := hO16.ix hx24
      refine st (v := (pt b26 o27)) (rv_ix Try.underlying24 ti3 rfl rfl hi25) ?_
      have hg32 := hO16.ge
      refine st_store_own (e' := x18) (vs := [(I x18)]) (k := 0) ti3 hO16 hx24 hi25 rfl rfl rfl rfl rfl (Nat.le_of_ble_eq_true rfl) (by simp [plain]) (by rintro _ rfl; exact rfl) ?_
      intro σ28 m29 hO31 hs30; clear hs30
      replace hR13 := hR13.mod m29
      replace hK := hK.own m29 hg32
      replace hO31 := Ow.relen hO31 List.length_set.symm
      rw [show (Sl a14 s10.1 c15) = (Sl a14 (s10.1.set s10.2.toNat x18) c15) from sl_len List.length_set.symm]
      refine w_end ?_
      refine q_blk ?_
      refine q_then ?_
      refine rg ?_
      refine st (v := (I s10.2)) (rv_move rfl) ?_
      refine st (v := (I (w64 (s10.2 + 1)))) (rv_add (a := s10.2) (b := 1) rfl rfl) ?_
      refine st (v := (I (w64 (s10.2 + 1)))) (rv_assign rfl) ?_
      refine w_end ?_
      refine q_then ?_
      obtain rfl := Option.some.inj h
      exact ⟨_, rfl, _, σ28, a14, c15, fr_join ⟨rfl, rfl, rfl, trivial⟩, rfl, hK, hR13, hO31⟩
    · replace h := bif_f hb17 h
      refine c_exit ?_
      refine q_then_x ?_
      refine q_then_x ?_
      refine q_blk_hit ?_
      obtain rfl := Option.some.inj h
      obtain rfl := hres _ rfl
      exact ⟨rfl, _, σ12, a14, c15, fr_join ⟨rfl, trivial⟩, rfl, hK, hO16⟩
  · clear hj
    have h := h'
    clear h'
    rintro e a w ⟨rfl, ρ, σ33, a34, c35, rfl, rfl, hK, hO36⟩
    refine q_then ?_
    refine c_seq ?_
    refine rg ?_
    refine st (v := (Sl a34 o9 c35)) (rv_move rfl) ?_
    refine st (v := (Sl a34 o9 c35)) (rv_assign rfl) ?_
    refine w_end ?_
    refine q_then ?_
    refine c_ret ?_
    obtain rfl := Option.some.inj h
    exact bodyPost_ret (v := (Sl a34 o9 c35)) (results_fr1 Try.results20 rfl _) rfl ⟨_, σ33, rfl, rfl, hK, a34, c35, rfl, hO36⟩

theorem c_laws_eqIntS {σ0 : St} {a_0 : List Int} {b_1 : List Int} {aa_0 : Option Addr} {ca_0 : Nat} (hRa_0 : RS 0 σ0 (Sl aa_0 a_0 ca_0) a_0) {ab_1 : Option Addr} {cb_1 : Nat} (hRb_1 : RS 0 σ0 (Sl ab_1 b_1 cb_1) b_1) {r : Bool} (h : M.laws_eqIntS a_0 b_1 = some r) :
    Cal Try.prog 22 [(Sl aa_0 a_0 ca_0), (Sl ab_1 b_1 cb_1)] none σ0 (fun v σ' => v = (B r)) := by
  refine ⟨⟨_, _, Try.func22, rfl, rfl⟩, ?_⟩
  refine enter (n := 26) Try.func22 rfl rfl rfl ?_
  unfold M.laws_eqIntS at h
  have hK : Mod none σ0 σ0 := Mod.refl _ _
  refine c_seq ?_
  refine rg ?_
  refine st (v := (B false)) (rv_assign rfl) ?_
  refine w_end ?_
  refine q_then ?_
  refine c_seq ?_
  refine c_seq ?_
  refine rg ?_
  refine st (v := (Sl aa_0 a_0 ca_0)) (rv_move rfl) ?_
  refine st (v := (I (a_0.length : Int))) (rv_len Try.underlying24 rfl) ?_
  refine st (v := (Sl ab_1 b_1 cb_1)) (rv_move rfl) ?_
  refine st (v := (I (b_1.length : Int))) (rv_len Try.underlying24 rfl) ?_
  refine st (v := (B ((a_0.length : Int) != (b_1.length : Int)))) (rv_neq (a := (a_0.length : Int)) (b := (b_1.length : Int)) rfl rfl) ?_
  refine w_end ?_
  refine q_then ?_
  refine cd_cond ((a_0.length : Int) != (b_1.length : Int)) rfl (fun hb1 => ?_) (fun hb1 => ?_)
  · replace h := bif_t hb1 h
    refine c_seq ?_
    refine rg ?_
    refine st (v := (B false)) (rv_assign rfl) ?_
    refine w_end ?_
    refine q_then ?_
    refine c_ret ?_
    refine q_then_r ?_
    obtain rfl := Option.some.inj h
    exact bodyPost_ret (v := (B false)) (results_fr1 Try.results22 rfl _) rfl ⟨_, σ0, rfl, rfl, hK, rfl⟩
  · replace h := bif_f hb1 h
    refine c_skip ?_
    refine q_then ?_
    refine c_seq ?_
    refine c_seq ?_
    refine rg ?_
    refine st (v := (I 0)) (rv_assign rfl) ?_
    refine w_end ?_
    refine q_then ?_
    obtain ⟨o2, hj, h'⟩ := bind_some h
    clear h
    refine c_cut (fun e a w => (∃ t, o2 = (.inl t) ∧ e = .normal ∧ ∃ (ρ : Nat → Value) (σ : St), a = fr 26 (updL ρ []) ∧ w = σ.w ∧ Mod none σ0 σ) ∨ (∃ t, o2 = (.inr t) ∧ e = .ret ∧ ∃ (ρ : Nat → Value) (σ : St), a = fr 26 (updL ρ [(4, (B t))]) ∧ w = σ.w ∧ Mod none σ0 σ)) ?_ ?_
    · clear h'
      rename _ = some o2 => h
      refine c_blk ?_
      refine wp_loopM _ h (fun s3 a w => ∃ (ρ : Nat → Value) (σ : St), a = fr 26 (updL ρ [(0, (Sl aa_0 a_0 ca_0)), (1, (Sl ab_1 b_1 cb_1)), (5, (I s3))]) ∧ w = σ.w ∧ Mod none σ0 σ ∧ RS 0 σ (Sl aa_0 a_0 ca_0) a_0 ∧ RS 0 σ (Sl ab_1 b_1 cb_1) b_1) ⟨_, σ0, fr_join ⟨rfl, rfl, rfl, trivial⟩, rfl, hK, hRa_0, hRb_1⟩ ?_
      clear h
      rintro s3 a w o ⟨ρ, σ5, rfl, rfl, hK, hR6, hR7⟩ h hres
      refine c_seq ?_
      refine c_seq ?_
      refine rg ?_
      refine st (v := (I s3)) (rv_move rfl) ?_
      refine st (v := (Sl aa_0 a_0 ca_0)) (rv_move rfl) ?_
      refine st (v := (I (a_0.length : Int))) (rv_len Try.underlying24 rfl) ?_
      refine st (v := (B (decide (s3 < (a_0.length : Int))))) (rv_lss (a := s3) (b := (a_0.length : Int)) rfl rfl) ?_
      refine w_end ?_
      refine q_then ?_
      refine cd_cond (decide (s3 < (a_0.length : Int))) rfl (fun hb8 => ?_) (fun hb8 => ?_)
      · replace h := bif_t hb8 h
        refine c_skip ?_
        refine q_then ?_
        refine c_seq ?_
        refine c_blk ?_
        refine c_seq ?_
        obtain ⟨x9, hx10, h'⟩ := bind_some h
        clear h
        have h := h'; clear h'
        obtain ⟨b12, o13, hi11, -⟩ := hR6.ix hx10
        obtain ⟨x14, hx15, h'⟩ := bind_some h
        clear h
        have h := h'; clear h'
        obtain ⟨b17, o18, hi16, -⟩ := hR7.ix hx15
        refine rg_monoL (σ := σ5) 8 [eqv (Sl aa_0 a_0 ca_0), eqv (I s3), eqv (pt b12 o13), eqv (I x9), eqv (Sl ab_1 b_1 cb_1), eqv (I s3), eqv (pt b17 o18), eqv (I x14)] (by kernel_rfl) (by kernel_rfl) (mono_cons mono_eqv (mono_cons mono_eqv (mono_cons mono_eqv (mono_cons mono_eqv (mono_cons mono_eqv (mono_cons mono_eqv (mono_cons mono_eqv (mono_cons mono_eqv (mono_nil))))))))) ?_ ?_
        · refine all_cons (by
              intro ρ σm m hoff hdep
              have e0 : look 26 ρ 0 = (Sl aa_0 a_0 ca_0) := look_off (hoff 0 rfl) rfl
              exact does_v (v := (Sl aa_0 a_0 ca_0)) (wanted_none _ rfl _) (rv_move e0) rfl) ?_
          refine all_cons (by
              intro ρ σm m hoff hdep
              have e5 : look 26 ρ 5 = (I s3) := look_off (hoff 5 rfl) rfl
              exact does_v (v := (I s3)) (wanted_none _ rfl _) (rv_move e5) rfl) ?_
          refine all_cons (by
              intro ρ σm m hoff hdep
              have e17 : look 26 ρ 17 = (Sl aa_0 a_0 ca_0) := hdep 0 rfl rfl 17 rfl
              have e18 : look 26 ρ 18 = (I s3) := hdep 1 rfl rfl 18 rfl
              exact does_v (v := (pt b12 o13)) (wanted_none _ rfl _) (rv_ix Try.underlying24 ti3 e17 e18 hi11) rfl) ?_
          refine all_cons (by
              intro ρ σm m hoff hdep
              have e19 : look 26 ρ 19 = (pt b12 o13) := hdep 2 rfl rfl 19 rfl
              replace hR6 := hR6.mod m
              exact does_v (v := (I x9)) (wanted_none _ rfl _) (rv_load1 Try.underlying3 rfl e19 (hR6.at hx10 hi11).int) rfl) ?_
          refine all_cons (by
              intro ρ σm m hoff hdep
              have e1 : look 26 ρ 1 = (Sl ab_1 b_1 cb_1) := look_off (hoff 1 rfl) rfl
              exact does_v (v := (Sl ab_1 b_1 cb_1)) (wanted_none _ rfl _) (rv_move e1) rfl) ?_
          refine all_cons (by
              intro ρ σm m hoff hdep
              have e5 : look 26 ρ 5 = (I s3) := look_off (hoff 5 rfl) rfl
              exact does_v (v := (I s3)) (wanted_none _ rfl _) (rv_move e5) rfl) ?_
          refine all_cons (by
              intro ρ σm m hoff hdep
              have e21 : look 26 ρ 21 = (Sl ab_1 b_1 cb_1) := hdep 4 rfl rfl 21 rfl
              have e22 : look 26 ρ 22 = (I s3) := hdep 5 rfl rfl 22 rfl
              exact does_v (v := (pt b17 o18)) (wanted_none _ rfl _) (rv_ix Try.underlying24 ti3 e21 e22 hi16) rfl) ?_
          refine all_cons (by
              intro ρ σm m hoff hdep
              have e23 : look 26 ρ 23 = (pt b17 o18) := hdep 6 rfl rfl 23 rfl
              replace hR7 := hR7.mod m
              exact does_v (v := (I x14)) (wanted_none _ rfl _) (rv_load1 Try.underlying3 rfl e23 (hR7.at hx15 hi16).int) rfl) ?_
          exact all_nil
        · intro ρ σ19 m hoff hrel
          have e0 : look 26 ρ 0 = (Sl aa_0 a_0 ca_0) := look_off (hoff 0 rfl) rfl
          have e1 : look 26 ρ 1 = (Sl ab_1 b_1 cb_1) := look_off (hoff 1 rfl) rfl
          have e5 : look 26 ρ 5 = (I s3) := look_off (hoff 5 rfl) rfl
          have e20 : look 26 ρ 20 = (I x9) := hrel 3 rfl 20 rfl
          have e24 : look 26 ρ 24 = (I x14) := hrel 7 rfl 24 rfl
          replace hR6 := hR6.mod m
          replace hR7 := hR7.mod m
          replace hK := hK.none m
          rw [fr_lookL (L := [(0, (Sl aa_0 a_0 ca_0)), (1, (Sl ab_1 b_1 cb_1)), (5, (I s3)), (20, (I x9)), (24, (I x14))]) ⟨e0, e1, e5, e20, e24, trivial⟩]
          clear hoff hrel m e0 e1 e5 e20 e24
          refine st (v := (B (x9 != x14))) (rv_neq (a := x9) (b := x14) rfl rfl) ?_
          refine w_end ?_
          refine q_then ?_
          refine cd_cond (x9 != x14) rfl (fun hb20 => ?_) (fun hb20 => ?_)
          · replace h := bif_t hb20 h
            refine c_seq ?_
            refine rg ?_
            refine st (v := (B false)) (rv_assign rfl) ?_
            refine w_end ?_
            refine q_then ?_
            refine c_ret ?_
            refine q_blk_r ?_
            refine q_then_r ?_
            refine q_then_r ?_
            refine q_blk_r ?_
            obtain rfl := Option.some.inj h
            obtain rfl := hres _ rfl
            exact .inr (⟨_, rfl, rfl, _, σ19, fr_join ⟨rfl, trivial⟩, rfl, hK⟩)
          · replace h := bif_f hb20 h
            refine c_skip ?_
            refine q_blk ?_
            refine q_then ?_
            refine rg ?_
            refine st (v := (I s3)) (rv_move rfl) ?_
            refine st (v := (I (w64 (s3 + 1)))) (rv_add (a := s3) (b := 1) rfl rfl) ?_
            refine st (v := (I (w64 (s3 + 1)))) (rv_assign rfl) ?_
            refine w_end ?_
            refine q_then ?_
            obtain rfl := Option.some.inj h
            exact ⟨_, rfl, _, σ19, fr_join ⟨rfl, rfl, rfl, trivial⟩, rfl, hK, hR6, hR7⟩
      · replace h := bif_f hb8 h
        refine c_exit ?_
        refine q_then_x ?_
        refine q_then_x ?_
        refine q_blk_hit ?_
        obtain rfl := Option.some.inj h
        obtain rfl := hres _ rfl
        exact .inl ⟨_, rfl, rfl, _, σ5, fr_join trivial, rfl, hK⟩
    · clear hj
      have h := h'
      clear h'
      rintro e a w (⟨t21, rfl, rfl, ρ, σ22, rfl, rfl, hK⟩ | ⟨t23, rfl, rfl, ρ, σ24, rfl, rfl, hK⟩)
      · replace h := selim_l h
        refine q_then ?_
        refine c_seq ?_
        refine rg ?_
        refine st (v := (B true)) (rv_assign rfl) ?_
        refine w_end ?_
        refine q_then ?_
        refine c_ret ?_
        obtain rfl := Option.some.inj h
        exact bodyPost_ret (v := (B true)) (results_fr1 Try.results22 rfl _) rfl ⟨_, σ22, rfl, rfl, hK, rfl⟩
      · replace h := selim_r h
        refine q_then_r ?_
        obtain rfl := Option.some.inj h
        exact bodyPost_ret (v := (B t23)) (results_fr1 Try.results22 rfl _) rfl ⟨_, σ24, rfl, rfl, hK, rfl⟩

theorem c_laws_FnExactValidVector {σ0 : St} {aV_0 : List Int} {aaV_0 : Option Addr} {caV_0 : Nat} (hRaV_0 : RS 0 σ0 (Sl aaV_0 aV_0 caV_0) aV_0) {r : Bool} (h : M.laws_FnExactValidVector aV_0 = some r) :
    Cal Try.prog 4 [(Sl aaV_0 aV_0 caV_0)] none σ0 (fun v σ' => v = (B r)) := by
  refine ⟨⟨_, _, Try.func4, rfl, rfl⟩, ?_⟩
  refine enter (n := 24) Try.func4 rfl rfl rfl ?_
  unfold M.laws_FnExactValidVector at h
  have hK : Mod none σ0 σ0 := Mod.refl _ _
  refine c_seq ?_
  refine rg ?_
  refine st (v := (B false)) (rv_assign rfl) ?_
  refine w_end ?_
  refine q_then ?_
  refine c_seq ?_
  refine c_seq ?_
  refine rg ?_
  refine st (v := (Sl aaV_0 aV_0 caV_0)) (rv_move rfl) ?_
  refine st (v := (I (aV_0.length : Int))) (rv_len Try.underlying24 rfl) ?_
  refine st (v := (B (decide (1048576 < (aV_0.length : Int))))) (rv_gtr (a := (aV_0.length : Int)) (b := 1048576) rfl rfl) ?_
  refine w_end ?_
  refine q_then ?_
  refine cd_cond (decide (1048576 < (aV_0.length : Int))) rfl (fun hb1 => ?_) (fun hb1 => ?_)
  · replace h := bif_t hb1 h
    refine c_seq ?_
    refine rg ?_
    refine st (v := (B true)) (rv_assign rfl) ?_
    refine w_end ?_
    refine q_then ?_
    refine c_ret ?_
    refine q_then_r ?_
    obtain rfl := Option.some.inj h
    exact bodyPost_ret (v := (B true)) (results_fr1 Try.results4 rfl _) rfl ⟨_, σ0, rfl, rfl, hK, rfl⟩
  · replace h := bif_f hb1 h
    refine c_skip ?_
    refine q_then ?_
    refine c_seq ?_
    refine rg ?_
    refine st (v := (Sl aaV_0 aV_0 caV_0)) (rv_move rfl) ?_
    obtain ⟨r2, hx3, h'⟩ := bind_some h
    clear h
    have h := h'; clear h'
    refine st_call (c_laws_toIntS hRaV_0 hx3) rfl ?_
    have hKs := hK.size
    rintro _ σ4 m5 ⟨a6, c7, rfl, hO8⟩
    replace hRaV_0 := hRaV_0.mod m5
    replace hK := hK.none m5
    have hO8g := hO8.ge
    replace hO8 := hO8.lo hKs
    replace hO8 := hO8.low' hKs
    clear hKs m5 hO8g
    have hg13 := hO8.ge
    obtain ⟨σ9, hw12, m10, hR11⟩ := hO8.pub' (Nat.le_refl _)
    rw [← hw12]; clear hw12
    replace hRaV_0 := hRaV_0.mod m10
    replace hK := hK.own m10 hg13
    obtain ⟨r14, hx15, h'⟩ := bind_some h
    clear h
    have h := h'; clear h'
    refine st_call (c_spec_ValidVector (hR11.low (Nat.zero_le _)) hx15) rfl ?_
    have hKs := hK.size
    rintro _ σ16 m17 rfl
    replace hRaV_0 := hRaV_0.mod m17
    replace hR11 := hR11.mod m17
    replace hK := hK.none m17
    clear hKs m17
    refine st (v := (B r14)) (rv_assign rfl) ?_
    refine w_end ?_
    refine q_then ?_
    refine c_seq ?_
    refine rg ?_
    refine st (v := (Sl aaV_0 aV_0 caV_0)) (rv_move rfl) ?_
    obtain ⟨r18, hx19, h'⟩ := bind_some h
    clear h
    have h := h'; clear h'
    refine st_call (c_laws_toIntS hRaV_0 hx19) rfl ?_
    have hKs := hK.size
    rintro _ σ20 m21 ⟨a22, c23, rfl, hO24⟩
    replace hRaV_0 := hRaV_0.mod m21
    replace hK := hK.none m21
    have hO24g := hO24.ge
    replace hO24 := hO24.lo hKs
    replace hO24 := hO24.low' hKs
    clear hKs m21 hO24g
    refine st (v := (Sl a22 r18 c23)) (rv_assign rfl) ?_
    refine w_end ?_
    refine q_then ?_
    refine c_seq ?_
    refine rg ?_
    refine st (v := (Sl a22 r18 c23)) (rv_move rfl) ?_
    obtain ⟨σ25, hw26, m27, hR28⟩ := hO24.pub' (Nat.le_refl _)
    rw [← hw26]
    obtain ⟨r29, hx30, h'⟩ := bind_some h
    clear h
    have h := h'; clear h'
    refine st_call (c_impl_ValidVector (hR28.low (Nat.zero_le _)) hx30) rfl ?_
    have hd33 := ltb_size hO24.ltb hw26
    have hKs := size_le hK.size hw26
    rintro _ σ31 m32 rfl
    obtain ⟨σ34, hw35, m36, hxl37, hvl38⟩ := lent hw26 m32
    rw [← hw35]
    replace hRaV_0 := hRaV_0.mod m36
    replace hO24 := hO24.mod0 m36
    replace hK := hK.none m36
    clear hKs m36
    refine st (v := (B r29)) (rv_assign rfl) ?_
    refine w_end ?_
    refine q_then ?_
    refine c_seq ?_
    refine c_seq ?_
    refine rg ?_
    refine st (v := (B r29)) (rv_move rfl) ?_
    refine st (v := (B r14)) (rv_move rfl) ?_
    refine st (v := (B (r29 != r14))) (rv_bneq Try.underlying4 rfl rfl) ?_
    refine w_end ?_
    refine q_then ?_
    refine cd_cond (r29 != r14) rfl (fun hb39 => ?_) (fun hb39 => ?_)
    · replace h := bif_t hb39 h
      refine c_seq ?_
      refine rg ?_
      refine st (v := (B false)) (rv_assign rfl) ?_
      refine w_end ?_
      refine q_then ?_
      refine c_ret ?_
      refine q_then_r ?_
      obtain rfl := Option.some.inj h
      exact bodyPost_ret (v := (B false)) (results_fr1 Try.results4 rfl _) rfl ⟨_, σ34, rfl, rfl, hK, rfl⟩
    · replace h := bif_f hb39 h
      refine c_skip ?_
      refine q_then ?_
      refine c_seq ?_
      refine c_seq ?_
      refine rg ?_
      refine st (v := (Sl a22 r18 c23)) (rv_move rfl) ?_
      refine st (v := (Sl aaV_0 aV_0 caV_0)) (rv_move rfl) ?_
      obtain ⟨r40, hx41, h'⟩ := bind_some h
      clear h
      have h := h'; clear h'
      refine st_call (c_laws_toIntS hRaV_0 hx41) rfl ?_
      have hd47 := hO24.ltb
      have hKs := hK.size
      rintro _ σ42 m43 ⟨a44, c45, rfl, hO46⟩
      replace hO24 := hO24.mod0 m43
      replace hRaV_0 := hRaV_0.mod m43
      replace hK := hK.none m43
      have hO46g := hO46.ge
      replace hO46 := hO46.lo hKs
      replace hO46 := hO46.low' hKs
      have hd48 := Df.ge hd47 hO46g
      clear hKs m43 hO46g
      have hg53 := hO24.ge
      obtain ⟨σ49, hw52, m50, hR51⟩ := hO24.pub' (Nat.le_refl _)
      rw [← hw52]; clear hw52
      replace hO46 := hO46.mod' m50 (by first | exact (hd48).symm | exact Df.re (hd48).symm)
      replace hK := hK.own m50 hg53
      have hg58 := hO46.ge
      obtain ⟨σ54, hw57, m55, hR56⟩ := hO46.pub' (Nat.le_refl _)
      rw [← hw57]; clear hw57
      replace hR51 := hR51.mod m55
      replace hK := hK.own m55 hg58
      obtain ⟨r59, hx60, h'⟩ := bind_some h
      clear h
      have h := h'; clear h'
      refine st_call (c_laws_eqIntS (hR51.low (Nat.zero_le _)) (hR56.low (Nat.zero_le _)) hx60) rfl ?_
      have hKs := hK.size
      rintro _ σ61 m62 rfl
      replace hR51 := hR51.mod m62
      replace hR56 := hR56.mod m62
      replace hK := hK.none m62
      clear hKs m62
      refine st (v := (B (!r59))) (rv_not rfl) ?_
      refine w_end ?_
      refine q_then ?_
      refine cd_cond (!r59) rfl (fun hb63 => ?_) (fun hb63 => ?_)
      · replace h := bif_t hb63 h
        refine c_seq ?_
        refine rg ?_
        refine st (v := (B false)) (rv_assign rfl) ?_
        refine w_end ?_
        refine q_then ?_
        refine c_ret ?_
        refine q_then_r ?_
        obtain rfl := Option.some.inj h
        exact bodyPost_ret (v := (B false)) (results_fr1 Try.results4 rfl _) rfl ⟨_, σ61, rfl, rfl, hK, rfl⟩
      · replace h := bif_f hb63 h
        refine c_skip ?_
        refine q_then ?_
        refine c_seq ?_
        refine rg ?_
        refine st (v := (B true)) (rv_assign rfl) ?_
        refine w_end ?_
        refine q_then ?_
        refine c_ret ?_
        obtain rfl := Option.some.inj h
        exact bodyPost_ret (v := (B true)) (results_fr1 Try.results4 rfl _) rfl ⟨_, σ61, rfl, rfl, hK, rfl⟩

theorem c_spec_validKind {σ0 : St} {kind_0 : Int}  {r : Bool} (h : M.spec_validKind kind_0 = some r) :
    Cal Try.prog 67 [(I kind_0)] none σ0 (fun v σ' => v = (B r)) := by
  refine ⟨⟨_, _, Try.func67, rfl, rfl⟩, ?_⟩
  refine enter (n := 5) Try.func67 rfl rfl rfl ?_
  unfold M.spec_validKind at h
  have hK : Mod none σ0 σ0 := Mod.refl _ _
  refine c_seq ?_
  refine rg ?_
  refine st (v := (B false)) (rv_assign rfl) ?_
  refine w_end ?_
  refine q_then ?_
  refine c_seq ?_
  refine rg ?_
  refine st (v := (I kind_0)) (rv_move rfl) ?_
  obtain ⟨r1, hx2, h'⟩ := bind_some h
  clear h
  have h := h'; clear h'
  refine st_call (c_spec_inRange  hx2) rfl ?_
  have hKs := hK.size
  rintro _ σ3 m4 rfl
  replace hK := hK.none m4
  clear hKs m4
  refine st (v := (B r1)) (rv_assign rfl) ?_
  refine w_end ?_
  refine q_then ?_
  refine c_ret ?_
  obtain rfl := Option.some.inj h
  exact bodyPost_ret (v := (B r1)) (results_fr1 Try.results67 rfl _) rfl ⟨_, σ3, rfl, rfl, hK, rfl⟩

theorem c_spec_size {σ0 : St} {n_0 : Int}  {r : Int} (h : M.spec_size n_0 = some r) :
    Cal Try.prog 93 [(I n_0)] none σ0 (fun v σ' => v = (I r)) := by
  refine ⟨⟨_, _, Try.func93, rfl, rfl⟩, ?_⟩
  refine enter (n := 7) Try.func93 rfl rfl rfl ?_
  unfold M.spec_size at h
  have hK : Mod none σ0 σ0 := Mod.refl _ _
  refine c_seq ?_
  refine rg ?_
  refine st (v := (I 0)) (rv_assign rfl) ?_
  refine w_end ?_
  refine q_then ?_
  refine c_seq ?_
  refine rg ?_
  refine st (v := (I n_0)) (rv_move rfl) ?_
  refine st (v := (I n_0)) (rv_move rfl) ?_
  refine st (v := (I (w64 (0 - n_0)))) (rv_neg (a := n_0) rfl) ?_
  refine st (v := (I (max n_0 (w64 (0 - n_0))))) (rv_max rfl rfl) ?_
  refine st (v := (I (max n_0 (w64 (0 - n_0))))) (rv_assign rfl) ?_
  refine w_end ?_
  refine q_then ?_
  refine c_ret ?_
  obtain rfl := Option.some.inj h
  exact bodyPost_ret (v := (I (max n_0 (w64 (0 - n_0))))) (results_fr1 Try.results93 rfl _) rfl ⟨_, σ0, rfl, rfl, hK, rfl⟩

theorem c_spec_toInt {σ0 : St} {b_0 : Bool}  {r : Int} (h : M.spec_toInt b_0 = some r) :
    Cal Try.prog 94 [(B b_0)] none σ0 (fun v σ' => v = (I r)) := by
  refine ⟨⟨_, _, Try.func94, rfl, rfl⟩, ?_⟩
  refine enter (n := 4) Try.func94 rfl rfl rfl ?_
  unfold M.spec_toInt at h
  have hK : Mod none σ0 σ0 := Mod.refl _ _
  refine c_seq ?_
  refine rg ?_
  refine st (v := (I 0)) (rv_assign rfl) ?_
  refine w_end ?_
  refine q_then ?_
  refine c_seq ?_
  refine c_seq ?_
  refine rg ?_
  refine st (v := (B b_0)) (rv_move rfl) ?_
  refine w_end ?_
  refine q_then ?_
  refine cd_cond b_0 rfl (fun hb1 => ?_) (fun hb1 => ?_)
  · replace h := bif_t hb1 h
    refine c_seq ?_
    refine rg ?_
    refine st (v := (I 1)) (rv_assign rfl) ?_
    refine w_end ?_
    refine q_then ?_
    refine c_ret ?_
    refine q_then_r ?_
    obtain rfl := Option.some.inj h
    exact bodyPost_ret (v := (I 1)) (results_fr1 Try.results94 rfl _) rfl ⟨_, σ0, rfl, rfl, hK, rfl⟩
  · replace h := bif_f hb1 h
    refine c_skip ?_
    refine q_then ?_
    refine c_seq ?_
    refine rg ?_
    refine st (v := (I 0)) (rv_assign rfl) ?_
    refine w_end ?_
    refine q_then ?_
    refine c_ret ?_
    obtain rfl := Option.some.inj h
    exact bodyPost_ret (v := (I 0)) (results_fr1 Try.results94 rfl _) rfl ⟨_, σ0, rfl, rfl, hK, rfl⟩

theorem c_spec_dist {σ0 : St} {kind_0 : Int} {a_1 : List Int} {b_2 : List Int} {aa_1 : Option Addr} {ca_1 : Nat} (hRa_1 : RS 0 σ0 (Sl aa_1 a_1 ca_1) a_1) {ab_2 : Option Addr} {cb_2 : Nat} (hRb_2 : RS 0 σ0 (Sl ab_2 b_2 cb_2) b_2) {r : Int} (h : M.spec_dist kind_0 a_1 b_2 = some r) :
    Cal Try.prog 68 [(I kind_0), (Sl aa_1 a_1 ca_1), (Sl ab_2 b_2 cb_2)] none σ0 (fun v σ' => v = (I r)) := by
  refine ⟨⟨_, _, Try.func68, rfl, rfl⟩, ?_⟩
  refine enter (n := 50) Try.func68 rfl rfl rfl ?_
  unfold M.spec_dist at h
  have hK : Mod none σ0 σ0 := Mod.refl _ _
  refine c_seq ?_
  refine rg ?_
  refine st (v := (I 0)) (rv_assign rfl) ?_
  refine w_end ?_
  refine q_then ?_
  refine c_seq ?_
  refine rg ?_
  refine st (v := (I 0)) (rv_assign rfl) ?_
  refine w_end ?_
  refine q_then ?_
  refine c_seq ?_
  refine c_seq ?_
  refine rg ?_
  refine st (v := (I 0)) (rv_assign rfl) ?_
  refine w_end ?_
  refine q_then ?_
  obtain ⟨o1, hj, h'⟩ := bind_some h
  clear h
  refine c_cut (fun e a w => e = .normal ∧ ∃ (ρ : Nat → Value) (σ : St), a = fr 50 (updL ρ [(7, (I o1))]) ∧ w = σ.w ∧ Mod none σ0 σ) ?_ ?_
  · clear h'
    rename _ = some o1 => h
    refine c_blk ?_
    refine wp_loopM _ h (fun s2 a w => ∃ (ρ : Nat → Value) (σ : St), a = fr 50 (updL ρ [(0, (I kind_0)), (1, (Sl aa_1 a_1 ca_1)), (2, (Sl ab_2 b_2 cb_2)), (7, (I s2.1)), (8, (I s2.2))]) ∧ w = σ.w ∧ Mod none σ0 σ ∧ RS 0 σ (Sl aa_1 a_1 ca_1) a_1 ∧ RS 0 σ (Sl ab_2 b_2 cb_2) b_2) ⟨_, σ0, fr_join ⟨rfl, rfl, rfl, rfl, rfl, trivial⟩, rfl, hK, hRa_1, hRb_2⟩ ?_
    clear h
    rintro s2 a w o ⟨ρ, σ4, rfl, rfl, hK, hR5, hR6⟩ h hres
    refine c_seq ?_
    refine c_seq ?_
    refine rg ?_
    refine st (v := (I s2.2)) (rv_move rfl) ?_
    refine st (v := (Sl aa_1 a_1 ca_1)) (rv_move rfl) ?_
    refine st (v := (I (a_1.length : Int))) (rv_len Try.underlying24 rfl) ?_
    refine st (v := (B (decide (s2.2 < (a_1.length : Int))))) (rv_lss (a := s2.2) (b := (a_1.length : Int)) rfl rfl) ?_
    refine w_end ?_
    refine q_then ?_
    refine cd_cond (decide (s2.2 < (a_1.length : Int))) rfl (fun hb7 => ?_) (fun hb7 => ?_)
    · replace h := bif_t hb7 h
      refine c_skip ?_
      refine q_then ?_
      refine c_seq ?_
      obtain ⟨o8, hj, h'⟩ := bind_some h
      clear h
      refine c_cut (fun e a w => e = .normal ∧ ∃ (ρ : Nat → Value) (σ : St), a = fr 50 (updL ρ [(0, (I kind_0)), (1, (Sl aa_1 a_1 ca_1)), (2, (Sl ab_2 b_2 cb_2)), (7, (I o8)), (8, (I s2.2))]) ∧ w = σ.w ∧ Mod none σ0 σ ∧ RS 0 σ (Sl aa_1 a_1 ca_1) a_1 ∧ RS 0 σ (Sl ab_2 b_2 cb_2) b_2) ?_ ?_
      · clear h'
        rename _ = some o8 => h
        refine c_blk ?_
        refine c_seq ?_
        obtain ⟨x9, hx10, h'⟩ := bind_some h
        clear h
        have h := h'; clear h'
        obtain ⟨b12, o13, hi11, -⟩ := hR5.ix hx10
        obtain ⟨x14, hx15, h'⟩ := bind_some h
        clear h
        have h := h'; clear h'
        obtain ⟨b17, o18, hi16, -⟩ := hR6.ix hx15
        refine rg_monoL (σ := σ4) 8 [eqv (Sl aa_1 a_1 ca_1), eqv (I s2.2), eqv (pt b12 o13), eqv (I x9), eqv (Sl ab_2 b_2 cb_2), eqv (I s2.2), eqv (pt b17 o18), eqv (I x14)] (by kernel_rfl) (by kernel_rfl) (mono_cons mono_eqv (mono_cons mono_eqv (mono_cons mono_eqv (mono_cons mono_eqv (mono_cons mono_eqv (mono_cons mono_eqv (mono_cons mono_eqv (mono_cons mono_eqv (mono_nil))))))))) ?_ ?_
        · refine all_cons (by
              intro ρ σm m hoff hdep
              have e1 : look 50 ρ 1 = (Sl aa_1 a_1 ca_1) := look_off (hoff 1 rfl) rfl
              exact does_v (v := (Sl aa_1 a_1 ca_1)) (wanted_none _ rfl _) (rv_move e1) rfl) ?_
          refine all_cons (by
              intro ρ σm m hoff hdep
              have e8 : look 50 ρ 8 = (I s2.2) := look_off (hoff 8 rfl) rfl
              exact does_v (v := (I s2.2)) (wanted_none _ rfl _) (rv_move e8) rfl) ?_
          refine all_cons (by
              intro ρ σm m hoff hdep
              have e16 : look 50 ρ 16 = (Sl aa_1 a_1 ca_1) := hdep 0 rfl rfl 16 rfl
              have e17 : look 50 ρ 17 = (I s2.2) := hdep 1 rfl rfl 17 rfl
              exact does_v (v := (pt b12 o13)) (wanted_none _ rfl _) (rv_ix Try.underlying24 ti3 e16 e17 hi11) rfl) ?_
          refine all_cons (by
              intro ρ σm m hoff hdep
              have e18 : look 50 ρ 18 = (pt b12 o13) := hdep 2 rfl rfl 18 rfl
              replace hR5 := hR5.mod m
              exact does_v (v := (I x9)) (wanted_none _ rfl _) (rv_load1 Try.underlying3 rfl e18 (hR5.at hx10 hi11).int) rfl) ?_
          refine all_cons (by
              intro ρ σm m hoff hdep
              have e2 : look 50 ρ 2 = (Sl ab_2 b_2 cb_2) := look_off (hoff 2 rfl) rfl
              exact does_v (v := (Sl ab_2 b_2 cb_2)) (wanted_none _ rfl _) (rv_move e2) rfl) ?_
          refine all_cons (by
              intro ρ σm m hoff hdep
              have e8 : look 50 ρ 8 = (I s2.2) := look_off (hoff 8 rfl) rfl
              exact does_v (v := (I s2.2)) (wanted_none _ rfl _) (rv_move e8) rfl) ?_
          refine all_cons (by
              intro ρ σm m hoff hdep
              have e20 : look 50 ρ 20 = (Sl ab_2 b_2 cb_2) := hdep 4 rfl rfl 20 rfl
              have e21 : look 50 ρ 21 = (I s2.2) := hdep 5 rfl rfl 21 rfl
              exact does_v (v := (pt b17 o18)) (wanted_none _ rfl _) (rv_ix Try.underlying24 ti3 e20 e21 hi16) rfl) ?_
          refine all_cons (by
              intro ρ σm m hoff hdep
              have e22 : look 50 ρ 22 = (pt b17 o18) := hdep 6 rfl rfl 22 rfl
              replace hR6 := hR6.mod m
              exact does_v (v := (I x14)) (wanted_none _ rfl _) (rv_load1 Try.underlying3 rfl e22 (hR6.at hx15 hi16).int) rfl) ?_
          exact all_nil
        · intro ρ σ19 m hoff hrel
          have e0 : look 50 ρ 0 = (I kind_0) := look_off (hoff 0 rfl) rfl
          have e1 : look 50 ρ 1 = (Sl aa_1 a_1 ca_1) := look_off (hoff 1 rfl) rfl
          have e2 : look 50 ρ 2 = (Sl ab_2 b_2 cb_2) := look_off (hoff 2 rfl) rfl
          have e7 : look 50 ρ 7 = (I s2.1) := look_off (hoff 7 rfl) rfl
          have e8 : look 50 ρ 8 = (I s2.2) := look_off (hoff 8 rfl) rfl
          have e19 : look 50 ρ 19 = (I x9) := hrel 3 rfl 19 rfl
          have e23 : look 50 ρ 23 = (I x14) := hrel 7 rfl 23 rfl
          replace hR5 := hR5.mod m
          replace hR6 := hR6.mod m
          replace hK := hK.none m
          rw [fr_lookL (L := [(0, (I kind_0)), (1, (Sl aa_1 a_1 ca_1)), (2, (Sl ab_2 b_2 cb_2)), (7, (I s2.1)), (8, (I s2.2)), (19, (I x9)), (23, (I x14))]) ⟨e0, e1, e2, e7, e8, e19, e23, trivial⟩]
          clear hoff hrel m e0 e1 e2 e7 e8 e19 e23
          refine st (v := (I (w64 (x9 - x14)))) (rv_sub (a := x9) (b := x14) rfl rfl) ?_
          obtain ⟨r20, hx21, h'⟩ := bind_some h
          clear h
          have h := h'; clear h'
          refine st_call (c_spec_size  hx21) rfl ?_
          have hKs := hK.size
          rintro _ σ22 m23 rfl
          replace hR5 := hR5.mod m23
          replace hR6 := hR6.mod m23
          replace hK := hK.none m23
          clear hKs m23
          refine st (v := (I r20)) (rv_assign rfl) ?_
          refine w_end ?_
          refine q_then ?_
          refine c_seq ?_
          refine rg ?_
          refine st (v := (I kind_0)) (rv_move rfl) ?_
          refine w_end ?_
          refine q_then ?_
          refine c_blk ?_
          refine c_seq ?_
          refine rg ?_
          refine st (v := (B (kind_0 == 1))) (rv_eql (a := kind_0) (b := 1) rfl rfl) ?_
          refine st (v := (B (kind_0 == 1))) (rv_assign rfl) ?_
          refine w_end ?_
          refine q_then ?_
          refine cd_cond (kind_0 == 1) rfl (fun hb24 => ?_) (fun hb24 => ?_)
          · replace h := bif_t hb24 h
            refine rg ?_
            refine st (v := (I s2.1)) (rv_move rfl) ?_
            refine st (v := (I r20)) (rv_move rfl) ?_
            refine st (v := (I (w64 (s2.1 + r20)))) (rv_add (a := s2.1) (b := r20) rfl rfl) ?_
            refine st (v := (I (w64 (s2.1 + r20)))) (rv_assign rfl) ?_
            refine w_end ?_
            refine q_blk ?_
            refine q_blk ?_
            obtain rfl := Option.some.inj h
            exact ⟨rfl, _, σ22, fr_join ⟨rfl, rfl, rfl, rfl, rfl, trivial⟩, rfl, hK, hR5, hR6⟩
          · replace h := bif_f hb24 h
            refine c_seq ?_
            refine rg ?_
            refine st (v := (B (kind_0 == 2))) (rv_eql (a := kind_0) (b := 2) rfl rfl) ?_
            refine st (v := (B (kind_0 == 2))) (rv_assign rfl) ?_
            refine w_end ?_
            refine q_then ?_
            refine cd_cond (kind_0 == 2) rfl (fun hb25 => ?_) (fun hb25 => ?_)
            · replace h := bif_t hb25 h
              refine rg ?_
              refine st (v := (I s2.1)) (rv_move rfl) ?_
              refine st (v := (I r20)) (rv_move rfl) ?_
              refine st (v := (I (max s2.1 r20))) (rv_max rfl rfl) ?_
              refine st (v := (I (max s2.1 r20))) (rv_assign rfl) ?_
              refine w_end ?_
              refine q_blk ?_
              refine q_blk ?_
              obtain rfl := Option.some.inj h
              exact ⟨rfl, _, σ22, fr_join ⟨rfl, rfl, rfl, rfl, rfl, trivial⟩, rfl, hK, hR5, hR6⟩
            · replace h := bif_f hb25 h
              refine c_seq ?_
              refine rg ?_
              refine st (v := (B (kind_0 == 3))) (rv_eql (a := kind_0) (b := 3) rfl rfl) ?_
              refine st (v := (B (kind_0 == 3))) (rv_assign rfl) ?_
              refine w_end ?_
              refine q_then ?_
              refine cd_cond (kind_0 == 3) rfl (fun hb26 => ?_) (fun hb26 => ?_)
              · replace h := bif_t hb26 h
                refine rg ?_
                refine st (v := (I s2.1)) (rv_move rfl) ?_
                refine st (v := (I r20)) (rv_move rfl) ?_
                refine st (v := (I r20)) (rv_move rfl) ?_
                refine st (v := (I (w64 (r20 * r20)))) (rv_mul (a := r20) (b := r20) rfl rfl) ?_
                refine st (v := (I (w64 (s2.1 + (w64 (r20 * r20)))))) (rv_add (a := s2.1) (b := (w64 (r20 * r20))) rfl rfl) ?_
                refine st (v := (I (w64 (s2.1 + (w64 (r20 * r20)))))) (rv_assign rfl) ?_
                refine w_end ?_
                refine q_blk ?_
                refine q_blk ?_
                obtain rfl := Option.some.inj h
                exact ⟨rfl, _, σ22, fr_join ⟨rfl, rfl, rfl, rfl, rfl, trivial⟩, rfl, hK, hR5, hR6⟩
              · replace h := bif_f hb26 h
                refine rg ?_
                refine st (v := (I s2.1)) (rv_move rfl) ?_
                refine st (v := (I r20)) (rv_move rfl) ?_
                refine st (v := (B (decide (0 < r20)))) (rv_gtr (a := r20) (b := 0) rfl rfl) ?_
                obtain ⟨r27, hx28, h'⟩ := bind_some h
                clear h
                have h := h'; clear h'
                refine st_call (c_spec_toInt  hx28) rfl ?_
                have hKs := hK.size
                rintro _ σ29 m30 rfl
                replace hR5 := hR5.mod m30
                replace hR6 := hR6.mod m30
                replace hK := hK.none m30
                clear hKs m30
                refine st (v := (I (w64 (s2.1 + r27)))) (rv_add (a := s2.1) (b := r27) rfl rfl) ?_
                refine st (v := (I (w64 (s2.1 + r27)))) (rv_assign rfl) ?_
                refine w_end ?_
                refine q_blk ?_
                refine q_blk ?_
                obtain rfl := Option.some.inj h
                exact ⟨rfl, _, σ29, fr_join ⟨rfl, rfl, rfl, rfl, rfl, trivial⟩, rfl, hK, hR5, hR6⟩
      · clear hj
        have h := h'
        clear h'
        rintro e a w ⟨rfl, ρ, σ31, rfl, rfl, hK, hR32, hR33⟩
        refine q_then ?_
        refine rg ?_
        refine st (v := (I s2.2)) (rv_move rfl) ?_
        refine st (v := (I (w64 (s2.2 + 1)))) (rv_add (a := s2.2) (b := 1) rfl rfl) ?_
        refine st (v := (I (w64 (s2.2 + 1)))) (rv_assign rfl) ?_
        refine w_end ?_
        refine q_then ?_
        obtain rfl := Option.some.inj h
        exact ⟨_, rfl, _, σ31, fr_join ⟨rfl, rfl, rfl, rfl, rfl, trivial⟩, rfl, hK, hR32, hR33⟩
    · replace h := bif_f hb7 h
      refine c_exit ?_
      refine q_then_x ?_
      refine q_then_x ?_
      refine q_blk_hit ?_
      obtain rfl := Option.some.inj h
      obtain rfl := hres _ rfl
      exact ⟨rfl, _, σ4, fr_join ⟨rfl, trivial⟩, rfl, hK⟩
  · clear hj
    have h := h'
    clear h'
    rintro e a w ⟨rfl, ρ, σ34, rfl, rfl, hK⟩
    refine q_then ?_
    refine c_seq ?_
    refine rg ?_
    refine st (v := (I o1)) (rv_move rfl) ?_
    refine st (v := (I o1)) (rv_assign rfl) ?_
    refine w_end ?_
    refine q_then ?_
    refine c_ret ?_
    obtain rfl := Option.some.inj h
    exact bodyPost_ret (v := (I o1)) (results_fr1 Try.results68 rfl _) rfl ⟨_, σ34, rfl, rfl, hK, rfl⟩

theorem c_spec_Distance {σ0 : St} {kind_0 : Int} {a_1 : List Int} {b_2 : List Int} {aa_1 : Option Addr} {ca_1 : Nat} (hRa_1 : RS 0 σ0 (Sl aa_1 a_1 ca_1) a_1) {ab_2 : Option Addr} {cb_2 : Nat} (hRb_2 : RS 0 σ0 (Sl ab_2 b_2 cb_2) b_2) {r : Int} (h : M.spec_Distance kind_0 a_1 b_2 = some r) :
    Cal Try.prog 23 [(I kind_0), (Sl aa_1 a_1 ca_1), (Sl ab_2 b_2 cb_2)] none σ0 (fun v σ' => v = (I r)) := by
  refine ⟨⟨_, _, Try.func23, rfl, rfl⟩, ?_⟩
  refine enter (n := 24) Try.func23 rfl rfl rfl ?_
  unfold M.spec_Distance at h
  have hK : Mod none σ0 σ0 := Mod.refl _ _
  refine c_seq ?_
  refine rg ?_
  refine st (v := (I 0)) (rv_assign rfl) ?_
  refine w_end ?_
  refine q_then ?_
  refine c_seq ?_
  refine c_seq ?_
  obtain ⟨o1, hj, h'⟩ := bind_some h
  clear h
  refine c_cut (fun e a w => e = .normal ∧ ∃ (ρ : Nat → Value) (σ : St), a = fr 24 (updL ρ [(0, (I kind_0)), (1, (Sl aa_1 a_1 ca_1)), (2, (Sl ab_2 b_2 cb_2)), (19, (B o1))]) ∧ w = σ.w ∧ Mod none σ0 σ ∧ RS 0 σ (Sl aa_1 a_1 ca_1) a_1 ∧ RS 0 σ (Sl ab_2 b_2 cb_2) b_2) ?_ ?_
  · clear h'
    rename _ = some o1 => h
    refine rg ?_
    refine st (v := (I kind_0)) (rv_move rfl) ?_
    obtain ⟨r2, hx3, h'⟩ := bind_some h
    clear h
    have h := h'; clear h'
    refine st_call (c_spec_validKind  hx3) rfl ?_
    have hKs := hK.size
    rintro _ σ4 m5 rfl
    replace hRa_1 := hRa_1.mod m5
    replace hRb_2 := hRb_2.mod m5
    replace hK := hK.none m5
    clear hKs m5
    refine st (v := (B (!r2))) (rv_not rfl) ?_
    refine st (v := (B (!r2))) (rv_move rfl) ?_
    rcases Bool.eq_false_or_eq_true (!r2) with hb6 | hb6
    · replace h := bif_t hb6 h
      refine st_skip (congrArg some hb6) ?_
      refine st_skip (congrArg some hb6) ?_
      refine st_skip (congrArg some hb6) ?_
      refine st (v := (B true)) (rv_pick_t (congrArg B hb6) rfl) ?_
      refine st (v := (B true)) (rv_move rfl) ?_
      refine st_skip rfl ?_
      refine st_skip rfl ?_
      refine st_skip rfl ?_
      refine st (v := (B true)) (rv_pick_t rfl rfl) ?_
      refine w_end ?_
      obtain rfl := Option.some.inj h
      exact ⟨rfl, _, σ4, fr_join ⟨rfl, rfl, rfl, rfl, trivial⟩, rfl, hK, hRa_1, hRb_2⟩
    · replace h := bif_f hb6 h
      refine st_g (v := (Sl aa_1 a_1 ca_1)) (congrArg some hb6) (rv_move rfl) ?_
      obtain ⟨r7, hx8, h'⟩ := bind_some h
      clear h
      have h := h'; clear h'
      refine st_call_g (by exact (congrArg some hb6)) (c_spec_isVector hRa_1 hx8) rfl ?_
      have hKs := hK.size
      rintro _ σ9 m10 rfl
      replace hRa_1 := hRa_1.mod m10
      replace hRb_2 := hRb_2.mod m10
      replace hK := hK.none m10
      clear hKs m10
      refine st_g (v := (B (!r7))) (congrArg some hb6) (rv_not rfl) ?_
      refine st (v := (B (!r7))) (rv_pick_f (congrArg B hb6) rfl) ?_
      refine st (v := (B (!r7))) (rv_move rfl) ?_
      rcases Bool.eq_false_or_eq_true (!r7) with hb11 | hb11
      · replace h := bif_t hb11 h
        refine st_skip (congrArg some hb11) ?_
        refine st_skip (congrArg some hb11) ?_
        refine st_skip (congrArg some hb11) ?_
        refine st (v := (B true)) (rv_pick_t (congrArg B hb11) rfl) ?_
        refine w_end ?_
        obtain rfl := Option.some.inj h
        exact ⟨rfl, _, σ9, fr_join ⟨rfl, rfl, rfl, rfl, trivial⟩, rfl, hK, hRa_1, hRb_2⟩
      · replace h := bif_f hb11 h
        refine st_g (v := (Sl ab_2 b_2 cb_2)) (congrArg some hb11) (rv_move rfl) ?_
        obtain ⟨r12, hx13, h'⟩ := bind_some h
        clear h
        have h := h'; clear h'
        refine st_call_g (by exact (congrArg some hb11)) (c_spec_isVector hRb_2 hx13) rfl ?_
        have hKs := hK.size
        rintro _ σ14 m15 rfl
        replace hRa_1 := hRa_1.mod m15
        replace hRb_2 := hRb_2.mod m15
        replace hK := hK.none m15
        clear hKs m15
        refine st_g (v := (B (!r12))) (congrArg some hb11) (rv_not rfl) ?_
        refine st (v := (B (!r12))) (rv_pick_f (congrArg B hb11) rfl) ?_
        refine w_end ?_
        obtain rfl := Option.some.inj h
        exact ⟨rfl, _, σ14, fr_join ⟨rfl, rfl, rfl, rfl, trivial⟩, rfl, hK, hRa_1, hRb_2⟩
  · clear hj
    have h := h'
    clear h'
    rintro e a w ⟨rfl, ρ, σ16, rfl, rfl, hK, hR17, hR18⟩
    refine q_then ?_
    refine cd_cond o1 rfl (fun hb19 => ?_) (fun hb19 => ?_)
    · replace h := bif_t hb19 h
      refine c_seq ?_
      refine rg ?_
      refine st (v := (I (-1))) (rv_assign rfl) ?_
      refine w_end ?_
      refine q_then ?_
      refine c_ret ?_
      refine q_then_r ?_
      obtain rfl := Option.some.inj h
      exact bodyPost_ret (v := (I (-1))) (results_fr1 Try.results23 rfl _) rfl ⟨_, σ16, rfl, rfl, hK, rfl⟩
    · replace h := bif_f hb19 h
      refine c_skip ?_
      refine q_then ?_
      refine c_seq ?_
      refine rg ?_
      refine st (v := (I kind_0)) (rv_move rfl) ?_
      refine st (v := (Sl aa_1 a_1 ca_1)) (rv_move rfl) ?_
      refine st (v := (Sl ab_2 b_2 cb_2)) (rv_move rfl) ?_
      obtain ⟨r20, hx21, h'⟩ := bind_some h
      clear h
      have h := h'; clear h'
      refine st_call (c_spec_dist hR17 hR18 hx21) rfl ?_
      have hKs := hK.size
      rintro _ σ22 m23 rfl
      replace hR17 := hR17.mod m23
      replace hR18 := hR18.mod m23
      replace hK := hK.none m23
      clear hKs m23
      refine st (v := (I r20)) (rv_assign rfl) ?_
      refine w_end ?_
      refine q_then ?_
      refine c_ret ?_
      obtain rfl := Option.some.inj h
      exact bodyPost_ret (v := (I r20)) (results_fr1 Try.results23 rfl _) rfl ⟨_, σ22, rfl, rfl, hK, rfl⟩

theorem c_impl_distanceOf {σ0 : St} {kind_0 : Int} {gaps_1 : List Int} (hlgaps_1 : gaps_1.length = 4) {r : Int} (h : M.impl_distanceOf kind_0 gaps_1 = some r) :
    Cal Try.prog 69 [(I kind_0), (.agg (List.map I gaps_1).toArray)] none σ0 (fun v σ' => v = (I r)) := by
  refine ⟨⟨_, _, Try.func69, rfl, rfl⟩, ?_⟩
  refine enter (n := 38) Try.func69 rfl rfl rfl ?_
  unfold M.impl_distanceOf at h
  have hK : Mod none σ0 σ0 := Mod.refl _ _
  refine c_seq ?_
  refine rg ?_
  refine st_box (cs := (List.map I gaps_1)) rfl rfl ?_ (wanted_none _ rfl _)
  intro b2 σ4 hbn6 m5 hB1
  have hge3 := Nat.le_trans hK.size (Nat.le_of_eq hbn6)
  replace hK := hK.none m5
  clear hbn6 m5
  refine st (v := (I 0)) (rv_assign rfl) ?_
  refine w_end ?_
  refine q_then ?_
  refine c_seq ?_
  refine rg ?_
  refine st (v := (I 0)) (rv_assign rfl) ?_
  refine w_end ?_
  refine q_then ?_
  refine c_seq ?_
  refine c_seq ?_
  refine rg ?_
  refine st (v := (.agg (List.map I gaps_1).toArray)) (rv_load (cs := (List.map I gaps_1)) Try.underlying78 rfl ti78 rfl (by rw [List.length_map]; exact hlgaps_1) hB1.all) ?_
  refine st (v := (I 0)) (rv_move rfl) ?_
  refine w_end ?_
  refine q_then ?_
  obtain ⟨o7, hj, h'⟩ := bind_some h
  clear h
  refine c_cut (fun e a w => (∃ t, o7 = (.inl t) ∧ e = .normal ∧ ∃ (ρ : Nat → Value) (σ : St), a = fr 38 (updL ρ [(5, (I t))]) ∧ w = σ.w ∧ Mod none σ0 σ) ∨ (∃ t, o7 = (.inr t) ∧ e = .ret ∧ ∃ (ρ : Nat → Value) (σ : St), a = fr 38 (updL ρ [(4, (I t))]) ∧ w = σ.w ∧ Mod none σ0 σ)) ?_ ?_
  · clear h'
    rename _ = some o7 => h
    refine c_blk ?_
    refine wp_loopM _ h (fun s8 a w => ∃ (ρ : Nat → Value) (σ : St), a = fr 38 (updL ρ [(0, (I kind_0)), (5, (I s8.1)), (8, (.agg (List.map I gaps_1).toArray)), (9, (I s8.2))]) ∧ w = σ.w ∧ Mod none σ0 σ) ⟨_, σ4, fr_join ⟨rfl, rfl, rfl, rfl, trivial⟩, rfl, hK⟩ ?_
    clear h
    rintro s8 a w o ⟨ρ, σ10, rfl, rfl, hK⟩ h hres
    refine c_seq ?_
    refine rg ?_
    refine st (v := (B (decide (s8.2 < 4)))) (rv_lss (a := s8.2) (b := 4) rfl rfl) ?_
    refine w_end ?_
    refine q_then ?_
    refine c_seq ?_
    refine cd_cond (decide (s8.2 < 4)) rfl (fun hb11 => ?_) (fun hb11 => ?_)
    · replace h := bif_t hb11 h
      refine c_skip ?_
      refine q_then ?_
      refine c_seq ?_
      obtain ⟨o12, hj, h'⟩ := bind_some h
      clear h
      refine c_cut (fun e a w => (∃ t, o12 = (.inl t) ∧ e = .normal ∧ ∃ (ρ : Nat → Value) (σ : St), a = fr 38 (updL ρ [(0, (I kind_0)), (5, (I t)), (8, (.agg (List.map I gaps_1).toArray)), (9, (I s8.2))]) ∧ w = σ.w ∧ Mod none σ0 σ) ∨ (∃ t, o12 = (.inr t) ∧ e = .ret ∧ ∃ (ρ : Nat → Value) (σ : St), a = fr 38 (updL ρ [(4, (I t))]) ∧ w = σ.w ∧ Mod none σ0 σ)) ?_ ?_
      · clear h'
        rename _ = some o12 => h
        refine c_blk ?_
        refine c_seq ?_
        refine rg ?_
        obtain ⟨x13, hx14, h'⟩ := bind_some h
        clear h
        have h := h'; clear h'
        refine st (v := (I x13)) (rv_idx Try.underlying78 ti3 Try.underlying3 rfl rfl hx14 hlgaps_1) ?_
        refine st (v := (I x13)) (rv_assign rfl) ?_
        refine w_end ?_
        refine q_then ?_
        refine c_seq ?_
        refine rg ?_
        refine st (v := (I kind_0)) (rv_move rfl) ?_
        refine w_end ?_
        refine q_then ?_
        refine c_blk ?_
        refine c_seq ?_
        refine rg ?_
        refine st (v := (B (kind_0 == 1))) (rv_eql (a := kind_0) (b := 1) rfl rfl) ?_
        refine st (v := (B (kind_0 == 1))) (rv_assign rfl) ?_
        refine w_end ?_
        refine q_then ?_
        refine cd_cond (kind_0 == 1) rfl (fun hb15 => ?_) (fun hb15 => ?_)
        · replace h := bif_t hb15 h
          refine rg ?_
          refine st (v := (I s8.1)) (rv_move rfl) ?_
          refine st (v := (I x13)) (rv_move rfl) ?_
          refine st (v := (I (w64 (s8.1 + x13)))) (rv_add (a := s8.1) (b := x13) rfl rfl) ?_
          refine st (v := (I (w64 (s8.1 + x13)))) (rv_assign rfl) ?_
          refine w_end ?_
          refine q_blk ?_
          refine q_blk ?_
          obtain rfl := Option.some.inj h
          exact .inl ⟨_, rfl, rfl, _, σ10, fr_join ⟨rfl, rfl, rfl, rfl, trivial⟩, rfl, hK⟩
        · replace h := bif_f hb15 h
          refine c_seq ?_
          refine rg ?_
          refine st (v := (B (kind_0 == 2))) (rv_eql (a := kind_0) (b := 2) rfl rfl) ?_
          refine st (v := (B (kind_0 == 2))) (rv_assign rfl) ?_
          refine w_end ?_
          refine q_then ?_
          refine cd_cond (kind_0 == 2) rfl (fun hb16 => ?_) (fun hb16 => ?_)
          · replace h := bif_t hb16 h
            refine rg ?_
            refine st (v := (I s8.1)) (rv_move rfl) ?_
            refine st (v := (I x13)) (rv_move rfl) ?_
            refine st (v := (I (max s8.1 x13))) (rv_max rfl rfl) ?_
            refine st (v := (I (max s8.1 x13))) (rv_assign rfl) ?_
            refine w_end ?_
            refine q_blk ?_
            refine q_blk ?_
            obtain rfl := Option.some.inj h
            exact .inl ⟨_, rfl, rfl, _, σ10, fr_join ⟨rfl, rfl, rfl, rfl, trivial⟩, rfl, hK⟩
          · replace h := bif_f hb16 h
            refine c_seq ?_
            refine rg ?_
            refine st (v := (B (kind_0 == 3))) (rv_eql (a := kind_0) (b := 3) rfl rfl) ?_
            refine st (v := (B (kind_0 == 3))) (rv_assign rfl) ?_
            refine w_end ?_
            refine q_then ?_
            refine cd_cond (kind_0 == 3) rfl (fun hb17 => ?_) (fun hb17 => ?_)
            · replace h := bif_t hb17 h
              refine rg ?_
              refine st (v := (I s8.1)) (rv_move rfl) ?_
              refine st (v := (I x13)) (rv_move rfl) ?_
              refine st (v := (I x13)) (rv_move rfl) ?_
              refine st (v := (I (w64 (x13 * x13)))) (rv_mul (a := x13) (b := x13) rfl rfl) ?_
              refine st (v := (I (w64 (s8.1 + (w64 (x13 * x13)))))) (rv_add (a := s8.1) (b := (w64 (x13 * x13))) rfl rfl) ?_
              refine st (v := (I (w64 (s8.1 + (w64 (x13 * x13)))))) (rv_assign rfl) ?_
              refine w_end ?_
              refine q_blk ?_
              refine q_blk ?_
              obtain rfl := Option.some.inj h
              exact .inl ⟨_, rfl, rfl, _, σ10, fr_join ⟨rfl, rfl, rfl, rfl, trivial⟩, rfl, hK⟩
            · replace h := bif_f hb17 h
              refine c_seq ?_
              refine rg ?_
              refine st (v := (B (kind_0 == 4))) (rv_eql (a := kind_0) (b := 4) rfl rfl) ?_
              refine st (v := (B (kind_0 == 4))) (rv_assign rfl) ?_
              refine w_end ?_
              refine q_then ?_
              refine cd_cond (kind_0 == 4) rfl (fun hb18 => ?_) (fun hb18 => ?_)
              · replace h := bif_t hb18 h
                refine rg ?_
                refine st (v := (I s8.1)) (rv_move rfl) ?_
                refine st (v := (I x13)) (rv_move rfl) ?_
                refine st (v := (I (min x13 1))) (rv_min rfl rfl) ?_
                refine st (v := (I (w64 (s8.1 + (min x13 1))))) (rv_add (a := s8.1) (b := (min x13 1)) rfl rfl) ?_
                refine st (v := (I (w64 (s8.1 + (min x13 1))))) (rv_assign rfl) ?_
                refine w_end ?_
                refine q_blk ?_
                refine q_blk ?_
                obtain rfl := Option.some.inj h
                exact .inl ⟨_, rfl, rfl, _, σ10, fr_join ⟨rfl, rfl, rfl, rfl, trivial⟩, rfl, hK⟩
              · replace h := bif_f hb18 h
                refine c_seq ?_
                refine rg ?_
                refine st (v := (I (-1))) (rv_assign rfl) ?_
                refine w_end ?_
                refine q_then ?_
                refine c_ret ?_
                refine q_blk_r ?_
                refine q_blk_r ?_
                obtain rfl := Option.some.inj h
                exact .inr (⟨_, rfl, rfl, _, σ10, fr_join ⟨rfl, trivial⟩, rfl, hK⟩)
      · clear hj
        have h := h'
        clear h'
        rintro e a w (⟨t19, rfl, rfl, ρ, σ20, rfl, rfl, hK⟩ | ⟨t21, rfl, rfl, ρ, σ22, rfl, rfl, hK⟩)
        · replace h := selim_l h
          refine q_then ?_
          refine rg ?_
          refine st (v := (I (w64 (s8.2 + 1)))) (rv_add (a := s8.2) (b := 1) rfl rfl) ?_
          refine st (v := (I (w64 (s8.2 + 1)))) (rv_move rfl) ?_
          refine w_end ?_
          refine q_then ?_
          obtain rfl := Option.some.inj h
          exact ⟨_, rfl, _, σ20, fr_join ⟨rfl, rfl, rfl, rfl, trivial⟩, rfl, hK⟩
        · replace h := selim_r h
          refine q_then_r ?_
          refine q_then_r ?_
          refine q_blk_r ?_
          obtain rfl := Option.some.inj h
          obtain rfl := hres _ rfl
          exact .inr (⟨_, rfl, rfl, _, σ22, fr_join ⟨rfl, trivial⟩, rfl, hK⟩)
    · replace h := bif_f hb11 h
      refine c_exit ?_
      refine q_then_x ?_
      refine q_then_x ?_
      refine q_blk_hit ?_
      obtain rfl := Option.some.inj h
      obtain rfl := hres _ rfl
      exact .inl ⟨_, rfl, rfl, _, σ10, fr_join ⟨rfl, trivial⟩, rfl, hK⟩
  · clear hj
    have h := h'
    clear h'
    rintro e a w (⟨t23, rfl, rfl, ρ, σ24, rfl, rfl, hK⟩ | ⟨t25, rfl, rfl, ρ, σ26, rfl, rfl, hK⟩)
    · replace h := selim_l h
      refine q_then ?_
      refine c_seq ?_
      refine rg ?_
      refine st (v := (I t23)) (rv_move rfl) ?_
      refine st (v := (I t23)) (rv_assign rfl) ?_
      refine w_end ?_
      refine q_then ?_
      refine c_ret ?_
      obtain rfl := Option.some.inj h
      exact bodyPost_ret (v := (I t23)) (results_fr1 Try.results69 rfl _) rfl ⟨_, σ24, rfl, rfl, hK, rfl⟩
    · replace h := selim_r h
      refine q_then_r ?_
      obtain rfl := Option.some.inj h
      exact bodyPost_ret (v := (I t25)) (results_fr1 Try.results69 rfl _) rfl ⟨_, σ26, rfl, rfl, hK, rfl⟩

theorem c_impl_gapsOf {σ0 : St} {a_0 : List Int} {b_1 : List Int} (hla_0 : a_0.length = 4) (hlb_1 : b_1.length = 4) {r : (List Int)} (h : M.impl_gapsOf a_0 b_1 = some r) :
    Cal Try.prog 70 [(.agg (List.map I a_0).toArray), (.agg (List.map I b_1).toArray)] none σ0 (fun v σ' => v = (.agg (List.map I r).toArray) ∧ r.length = 4) := by
  refine ⟨⟨_, _, Try.func70, rfl, rfl⟩, ?_⟩
  refine enter (n := 29) Try.func70 rfl rfl rfl ?_
  unfold M.impl_gapsOf at h
  have hK : Mod none σ0 σ0 := Mod.refl _ _
  refine c_seq ?_
  refine rg ?_
  refine st_box (cs := (List.map I a_0)) rfl rfl ?_ (wanted_none _ rfl _)
  intro b2 σ4 hbn6 m5 hB1
  have hge3 := Nat.le_trans hK.size (Nat.le_of_eq hbn6)
  replace hK := hK.none m5
  clear hbn6 m5
  refine st_box (cs := (List.map I b_1)) rfl rfl ?_ (wanted_none _ rfl _)
  intro b8 σ10 hbn12 m11 hB7
  have hd13 := hB1.df' hbn12
  have hge9 := Nat.le_trans hK.size (Nat.le_of_eq hbn12)
  replace hB1 := hB1.mod0 m11
  replace hK := hK.none m11
  clear hbn12 m11
  refine st_alloc (cs := (List.map I (List.replicate 4 0))) ti78 rfl ?_ (wanted_none _ rfl _)
  intro b15 σ17 hbn19 m18 hB14
  have hd20 := hB1.df' hbn19
  have hd21 := hB7.df' hbn19
  have hge16 := Nat.le_trans hK.size (Nat.le_of_eq hbn19)
  replace hB1 := hB1.mod0 m18
  replace hB7 := hB7.mod0 m18
  replace hK := hK.none m18
  clear hbn19 m18
  refine w_end ?_
  refine q_then ?_
  refine c_seq ?_
  refine rg ?_
  refine st_alloc (cs := (List.map I (List.replicate 4 0))) ti78 rfl ?_ (wanted_none _ rfl _)
  intro b23 σ25 hbn27 m26 hB22
  have hd28 := hB1.df' hbn27
  have hd29 := hB7.df' hbn27
  have hd30 := hB14.df' hbn27
  have hge24 := Nat.le_trans hK.size (Nat.le_of_eq hbn27)
  replace hB1 := hB1.mod0 m26
  replace hB7 := hB7.mod0 m26
  replace hB14 := hB14.mod0 m26
  replace hK := hK.none m26
  clear hbn27 m26
  refine w_end ?_
  refine q_then ?_
  refine c_seq ?_
  refine c_seq ?_
  refine rg ?_
  refine st (v := (I 0)) (rv_move rfl) ?_
  refine w_end ?_
  refine q_then ?_
  obtain ⟨o31, hj, h'⟩ := bind_some h
  clear h
  refine c_cut (fun e a w => e = .normal ∧ ∃ (ρ : Nat → Value) (σ : St), a = fr 29 (updL ρ [(4, (pt b15 0)), (5, (pt b23 0))]) ∧ w = σ.w ∧ Mod none σ0 σ ∧ Bx σ b15 (List.map I (List.replicate 4 0)) ∧ o31.length = 4 ∧ Bx σ b23 (List.map I o31) ∧ Df (some b23) (some b15)) ?_ ?_
  · clear h'
    rename _ = some o31 => h
    refine c_blk ?_
    refine wp_loopM _ h (fun s32 a w => ∃ (ρ : Nat → Value) (σ : St), a = fr 29 (updL ρ [(2, (pt b2 0)), (3, (pt b8 0)), (4, (pt b15 0)), (5, (pt b23 0)), (7, (I s32.2))]) ∧ w = σ.w ∧ Mod none σ0 σ ∧ Bx σ b2 (List.map I a_0) ∧ Bx σ b8 (List.map I b_1) ∧ Bx σ b15 (List.map I (List.replicate 4 0)) ∧ s32.1.length = 4 ∧ Bx σ b23 (List.map I s32.1) ∧ Df (some b8) (some b2) ∧ Df (some b15) (some b2) ∧ Df (some b15) (some b8) ∧ Df (some b23) (some b2) ∧ Df (some b23) (some b8) ∧ Df (some b23) (some b15)) ⟨_, σ25, fr_join ⟨rfl, rfl, rfl, rfl, rfl, trivial⟩, rfl, hK, hB1, hB7, hB14, rfl, hB22, (hd13).symm, (hd20).symm, (hd21).symm, (hd28).symm, (hd29).symm, (hd30).symm⟩ ?_
    clear h
    rintro s32 a w o ⟨ρ, σ34, rfl, rfl, hK, hB35, hB36, hB37, hl38, hB39, hd40, hd41, hd42, hd43, hd44, hd45⟩ h hres
    refine c_seq ?_
    refine rg ?_
    refine st (v := (B (decide (s32.2 < 4)))) (rv_lss (a := s32.2) (b := 4) rfl rfl) ?_
    refine w_end ?_
    refine q_then ?_
    refine c_seq ?_
    refine cd_cond (decide (s32.2 < 4)) rfl (fun hb46 => ?_) (fun hb46 => ?_)
    · replace h := bif_t hb46 h
      refine c_skip ?_
      refine q_then ?_
      refine c_seq ?_
      refine c_blk ?_
      refine c_seq ?_
      refine rg ?_
      refine st (v := (I s32.2)) (rv_move rfl) ?_
      refine st (v := (I s32.2)) (rv_assign rfl) ?_
      refine w_end ?_
      refine q_then ?_
      obtain ⟨x47, hx48, h'⟩ := bind_some h
      clear h
      have h := h'; clear h'
      have hl49 := gidx_lt hx48 hla_0
      obtain ⟨x50, hx51, h'⟩ := bind_some h
      clear h
      have h := h'; clear h'
      have hl52 := gidx_lt hx51 hlb_1
      obtain ⟨x53, hx54, h'⟩ := bind_some h
      clear h
      have h := h'; clear h'
      have hl55 := gidx_lt hx54 hlb_1
      obtain ⟨x56, hx57, h'⟩ := bind_some h
      clear h
      have h := h'; clear h'
      have hl58 := gidx_lt hx57 hla_0
      refine rg_monoL (σ := σ34) 16 [eqv (I s32.2), eqv (I s32.2), eqv (pt b2 (0 + s32.2.toNat * 1)), eqv (I x47), eqv (I s32.2), eqv (pt b8 (0 + s32.2.toNat * 1)), eqv (I x50), eqv (I (w64 (x47 - x50))), eqv (I s32.2), eqv (pt b8 (0 + s32.2.toNat * 1)), eqv (I x53), eqv (I s32.2), eqv (pt b2 (0 + s32.2.toNat * 1)), eqv (I x56), eqv (I (w64 (x53 - x56))), eqv (I (max (w64 (x47 - x50)) (w64 (x53 - x56))))] (by kernel_rfl) (by kernel_rfl) (mono_cons mono_eqv (mono_cons mono_eqv (mono_cons mono_eqv (mono_cons mono_eqv (mono_cons mono_eqv (mono_cons mono_eqv (mono_cons mono_eqv (mono_cons mono_eqv (mono_cons mono_eqv (mono_cons mono_eqv (mono_cons mono_eqv (mono_cons mono_eqv (mono_cons mono_eqv (mono_cons mono_eqv (mono_cons mono_eqv (mono_cons mono_eqv (mono_nil))))))))))))))))) ?_ ?_
      · refine all_cons (by
            intro ρ σm m hoff hdep
            have e6 : look 29 ρ 6 = (I s32.2) := look_off (hoff 6 rfl) rfl
            exact does_v (v := (I s32.2)) (wanted_none _ rfl _) (rv_move e6) rfl) ?_
        refine all_cons (by
            intro ρ σm m hoff hdep
            have e6 : look 29 ρ 6 = (I s32.2) := look_off (hoff 6 rfl) rfl
            exact does_v (v := (I s32.2)) (wanted_none _ rfl _) (rv_move e6) rfl) ?_
        refine all_cons (by
            intro ρ σm m hoff hdep
            have e2 : look 29 ρ 2 = (pt b2 0) := look_off (hoff 2 rfl) rfl
            have e11 : look 29 ρ 11 = (I s32.2) := hdep 1 rfl rfl 11 rfl
            exact does_v (v := (pt b2 (0 + s32.2.toNat * 1))) (wanted_none _ rfl _) (rv_indexAddr_array Try.underlying78 ti3 e2 e11 hl49.1 hl49.2) rfl) ?_
        refine all_cons (by
            intro ρ σm m hoff hdep
            have e12 : look 29 ρ 12 = (pt b2 (0 + s32.2.toNat * 1)) := hdep 2 rfl rfl 12 rfl
            replace hB35 := hB35.mod0 m
            exact does_v (v := (I x47)) (wanted_none _ rfl _) (rv_load1 Try.underlying3 rfl e12 (hB35.arr hx48)) rfl) ?_
        refine all_cons (by
            intro ρ σm m hoff hdep
            have e6 : look 29 ρ 6 = (I s32.2) := look_off (hoff 6 rfl) rfl
            exact does_v (v := (I s32.2)) (wanted_none _ rfl _) (rv_move e6) rfl) ?_
        refine all_cons (by
            intro ρ σm m hoff hdep
            have e3 : look 29 ρ 3 = (pt b8 0) := look_off (hoff 3 rfl) rfl
            have e14 : look 29 ρ 14 = (I s32.2) := hdep 4 rfl rfl 14 rfl
            exact does_v (v := (pt b8 (0 + s32.2.toNat * 1))) (wanted_none _ rfl _) (rv_indexAddr_array Try.underlying78 ti3 e3 e14 hl52.1 hl52.2) rfl) ?_
        refine all_cons (by
            intro ρ σm m hoff hdep
            have e15 : look 29 ρ 15 = (pt b8 (0 + s32.2.toNat * 1)) := hdep 5 rfl rfl 15 rfl
            replace hB36 := hB36.mod0 m
            exact does_v (v := (I x50)) (wanted_none _ rfl _) (rv_load1 Try.underlying3 rfl e15 (hB36.arr hx51)) rfl) ?_
        refine all_cons (by
            intro ρ σm m hoff hdep
            have e13 : look 29 ρ 13 = (I x47) := hdep 3 rfl rfl 13 rfl
            have e16 : look 29 ρ 16 = (I x50) := hdep 6 rfl rfl 16 rfl
            exact does_v (v := (I (w64 (x47 - x50)))) (wanted_none _ rfl _) (rv_sub (a := x47) (b := x50) e13 e16) rfl) ?_
        refine all_cons (by
            intro ρ σm m hoff hdep
            have e6 : look 29 ρ 6 = (I s32.2) := look_off (hoff 6 rfl) rfl
            exact does_v (v := (I s32.2)) (wanted_none _ rfl _) (rv_move e6) rfl) ?_
        refine all_cons (by
            intro ρ σm m hoff hdep
            have e3 : look 29 ρ 3 = (pt b8 0) := look_off (hoff 3 rfl) rfl
            have e18 : look 29 ρ 18 = (I s32.2) := hdep 8 rfl rfl 18 rfl
            exact does_v (v := (pt b8 (0 + s32.2.toNat * 1))) (wanted_none _ rfl _) (rv_indexAddr_array Try.underlying78 ti3 e3 e18 hl55.1 hl55.2) rfl) ?_
        refine all_cons (by
            intro ρ σm m hoff hdep
            have e19 : look 29 ρ 19 = (pt b8 (0 + s32.2.toNat * 1)) := hdep 9 rfl rfl 19 rfl
            replace hB36 := hB36.mod0 m
            exact does_v (v := (I x53)) (wanted_none _ rfl _) (rv_load1 Try.underlying3 rfl e19 (hB36.arr hx54)) rfl) ?_
        refine all_cons (by
            intro ρ σm m hoff hdep
            have e6 : look 29 ρ 6 = (I s32.2) := look_off (hoff 6 rfl) rfl
            exact does_v (v := (I s32.2)) (wanted_none _ rfl _) (rv_move e6) rfl) ?_
        refine all_cons (by
            intro ρ σm m hoff hdep
            have e2 : look 29 ρ 2 = (pt b2 0) := look_off (hoff 2 rfl) rfl
            have e21 : look 29 ρ 21 = (I s32.2) := hdep 11 rfl rfl 21 rfl
            exact does_v (v := (pt b2 (0 + s32.2.toNat * 1))) (wanted_none _ rfl _) (rv_indexAddr_array Try.underlying78 ti3 e2 e21 hl58.1 hl58.2) rfl) ?_
        refine all_cons (by
            intro ρ σm m hoff hdep
            have e22 : look 29 ρ 22 = (pt b2 (0 + s32.2.toNat * 1)) := hdep 12 rfl rfl 22 rfl
            replace hB35 := hB35.mod0 m
            exact does_v (v := (I x56)) (wanted_none _ rfl _) (rv_load1 Try.underlying3 rfl e22 (hB35.arr hx57)) rfl) ?_
        refine all_cons (by
            intro ρ σm m hoff hdep
            have e20 : look 29 ρ 20 = (I x53) := hdep 10 rfl rfl 20 rfl
            have e23 : look 29 ρ 23 = (I x56) := hdep 13 rfl rfl 23 rfl
            exact does_v (v := (I (w64 (x53 - x56)))) (wanted_none _ rfl _) (rv_sub (a := x53) (b := x56) e20 e23) rfl) ?_
        refine all_cons (by
            intro ρ σm m hoff hdep
            have e17 : look 29 ρ 17 = (I (w64 (x47 - x50))) := hdep 7 rfl rfl 17 rfl
            have e24 : look 29 ρ 24 = (I (w64 (x53 - x56))) := hdep 14 rfl rfl 24 rfl
            exact does_v (v := (I (max (w64 (x47 - x50)) (w64 (x53 - x56))))) (wanted_none _ rfl _) (rv_max e17 e24) rfl) ?_
        exact all_nil
      · intro ρ σ59 m hoff hrel
        have e2 : look 29 ρ 2 = (pt b2 0) := look_off (hoff 2 rfl) rfl
        have e3 : look 29 ρ 3 = (pt b8 0) := look_off (hoff 3 rfl) rfl
        have e4 : look 29 ρ 4 = (pt b15 0) := look_off (hoff 4 rfl) rfl
        have e5 : look 29 ρ 5 = (pt b23 0) := look_off (hoff 5 rfl) rfl
        have e7 : look 29 ρ 7 = (I s32.2) := look_off (hoff 7 rfl) rfl
        have e10 : look 29 ρ 10 = (I s32.2) := hrel 0 rfl 10 rfl
        have e25 : look 29 ρ 25 = (I (max (w64 (x47 - x50)) (w64 (x53 - x56)))) := hrel 15 rfl 25 rfl
        replace hB35 := hB35.mod0 m
        replace hB36 := hB36.mod0 m
        replace hB37 := hB37.mod0 m
        replace hB39 := hB39.mod0 m
        replace hK := hK.none m
        rw [fr_lookL (L := [(2, (pt b2 0)), (3, (pt b8 0)), (4, (pt b15 0)), (5, (pt b23 0)), (7, (I s32.2)), (10, (I s32.2)), (25, (I (max (w64 (x47 - x50)) (w64 (x53 - x56)))))]) ⟨e2, e3, e4, e5, e7, e10, e25, trivial⟩]
        clear hoff hrel m e2 e3 e4 e5 e7 e10 e25
        obtain ⟨x60, hx61, h'⟩ := bind_some h
        clear h
        have h := h'; clear h'
        have hl62 := gidx_lt hx61 hl38
        refine st (v := (pt b23 (0 + s32.2.toNat * 1))) (rv_indexAddr_array Try.underlying78 ti3 rfl rfl hl62.1 hl62.2) ?_
        have hl67 := gidx_lt hx61 hl38
        refine st_store_box (vs := [(I (max (w64 (x47 - x50)) (w64 (x53 - x56))))]) ti3 hB39 rfl rfl rfl rfl (by rw [List.length_map, hl38]; simp; omega) (by simp [plain]) ?_
        intro σ63 m64 hB66 hs65; clear hs65
        replace hB35 := hB35.mod' m64 (hd43).symm
        replace hB36 := hB36.mod' m64 (hd44).symm
        replace hB37 := hB37.mod' m64 (hd45).symm
        replace hK := hK.some m64 hge24
        replace hB66 := Bx.cast (cs' := (List.map I (s32.1.set s32.2.toNat (max (w64 (x47 - x50)) (w64 (x53 - x56)))))) hB66 (arr_set _ _ _)
        clear hB39
        refine w_end ?_
        refine q_blk ?_
        refine q_then ?_
        refine rg ?_
        refine st (v := (I (w64 (s32.2 + 1)))) (rv_add (a := s32.2) (b := 1) rfl rfl) ?_
        refine st (v := (I (w64 (s32.2 + 1)))) (rv_move rfl) ?_
        refine w_end ?_
        refine q_then ?_
        obtain rfl := Option.some.inj h
        exact ⟨_, rfl, _, σ63, fr_join ⟨rfl, rfl, rfl, rfl, rfl, trivial⟩, rfl, hK, hB35, hB36, hB37, (set_len hl38), hB66, hd40, hd41, hd42, hd43, hd44, hd45⟩
    · replace h := bif_f hb46 h
      refine c_exit ?_
      refine q_then_x ?_
      refine q_then_x ?_
      refine q_blk_hit ?_
      obtain rfl := Option.some.inj h
      obtain rfl := hres _ rfl
      exact ⟨rfl, _, σ34, fr_join ⟨rfl, rfl, trivial⟩, rfl, hK, hB37, hl38, hB39, hd45⟩
  · clear hj
    have h := h'
    clear h'
    rintro e a w ⟨rfl, ρ, σ68, rfl, rfl, hK, hB69, hl70, hB71, hd72⟩
    refine q_then ?_
    refine c_seq ?_
    refine rg ?_
    refine st (v := (.agg (List.map I o31).toArray)) (rv_load (cs := (List.map I o31)) Try.underlying78 rfl ti78 rfl (by rw [List.length_map]; exact hl70) hB71.all) ?_
    refine st_store_box (cs := (List.map I (List.replicate 4 0))) (vs := (List.map I o31)) ti78 hB69 rfl rfl rfl (by rw [List.length_map]; exact hl70) (arr_fits hl70 rfl) (by simp [plain]) ?_
    intro σ73 m74 hB76 hs75; clear hs75
    replace hK := hK.some m74 hge16
    replace hB76 := Bx.cast (cs' := (List.map I o31)) hB76 (arr_all hl70 rfl)
    clear hB69
    refine w_end ?_
    refine q_then ?_
    refine c_ret ?_
    obtain rfl := Option.some.inj h
    exact bodyPost_ret (v := (.agg (List.map I o31).toArray)) (results_cell (cs := (List.map I o31)) Try.results70 Try.underlying78 rfl ti78 rfl (by rw [List.length_map]; exact hl70) hB76) rfl ⟨_, σ73, rfl, rfl, hK, rfl, hl70⟩

theorem c_impl_Distance {σ0 : St} {kind_0 : Int} {a_1 : List Int} {b_2 : List Int} {aa_1 : Option Addr} {ca_1 : Nat} (hRa_1 : RS 0 σ0 (Sl aa_1 a_1 ca_1) a_1) {ab_2 : Option Addr} {cb_2 : Nat} (hRb_2 : RS 0 σ0 (Sl ab_2 b_2 cb_2) b_2) {r : Int} (h : M.impl_Distance kind_0 a_1 b_2 = some r) :
    Cal Try.prog 24 [(I kind_0), (Sl aa_1 a_1 ca_1), (Sl ab_2 b_2 cb_2)] none σ0 (fun v σ' => v = (I r)) := by
  refine ⟨⟨_, _, Try.func24, rfl, rfl⟩, ?_⟩
  refine enter (n := 24) Try.func24 rfl rfl rfl ?_
  unfold M.impl_Distance at h
  have hK : Mod none σ0 σ0 := Mod.refl _ _
  refine c_seq ?_
  refine rg ?_
  refine st (v := (I 0)) (rv_assign rfl) ?_
  refine w_end ?_
  refine q_then ?_
  refine c_seq ?_
  refine c_seq ?_
  obtain ⟨o1, hj, h'⟩ := bind_some h
  clear h
  refine c_cut (fun e a w => e = .normal ∧ ∃ (ρ : Nat → Value) (σ : St), a = fr 24 (updL ρ [(0, (I kind_0)), (1, (Sl aa_1 a_1 ca_1)), (2, (Sl ab_2 b_2 cb_2)), (14, (B o1))]) ∧ w = σ.w ∧ Mod none σ0 σ ∧ RS 0 σ (Sl aa_1 a_1 ca_1) a_1 ∧ RS 0 σ (Sl ab_2 b_2 cb_2) b_2) ?_ ?_
  · clear h'
    rename _ = some o1 => h
    refine rg ?_
    refine st (v := (Sl aa_1 a_1 ca_1)) (rv_move rfl) ?_
    obtain ⟨r2, hx3, h'⟩ := bind_some h
    clear h
    have h := h'; clear h'
    refine st_call (c_impl_ValidVector hRa_1 hx3) rfl ?_
    have hKs := hK.size
    rintro _ σ4 m5 rfl
    replace hRa_1 := hRa_1.mod m5
    replace hRb_2 := hRb_2.mod m5
    replace hK := hK.none m5
    clear hKs m5
    refine st (v := (B (!r2))) (rv_not rfl) ?_
    refine st (v := (B (!r2))) (rv_move rfl) ?_
    rcases Bool.eq_false_or_eq_true (!r2) with hb6 | hb6
    · replace h := bif_t hb6 h
      refine st_skip (congrArg some hb6) ?_
      refine st_skip (congrArg some hb6) ?_
      refine st_skip (congrArg some hb6) ?_
      refine st (v := (B true)) (rv_pick_t (congrArg B hb6) rfl) ?_
      refine w_end ?_
      obtain rfl := Option.some.inj h
      exact ⟨rfl, _, σ4, fr_join ⟨rfl, rfl, rfl, rfl, trivial⟩, rfl, hK, hRa_1, hRb_2⟩
    · replace h := bif_f hb6 h
      refine st_g (v := (Sl ab_2 b_2 cb_2)) (congrArg some hb6) (rv_move rfl) ?_
      obtain ⟨r7, hx8, h'⟩ := bind_some h
      clear h
      have h := h'; clear h'
      refine st_call_g (by exact (congrArg some hb6)) (c_impl_ValidVector hRb_2 hx8) rfl ?_
      have hKs := hK.size
      rintro _ σ9 m10 rfl
      replace hRa_1 := hRa_1.mod m10
      replace hRb_2 := hRb_2.mod m10
      replace hK := hK.none m10
      clear hKs m10
      refine st_g (v := (B (!r7))) (congrArg some hb6) (rv_not rfl) ?_
      refine st (v := (B (!r7))) (rv_pick_f (congrArg B hb6) rfl) ?_
      refine w_end ?_
      obtain rfl := Option.some.inj h
      exact ⟨rfl, _, σ9, fr_join ⟨rfl, rfl, rfl, rfl, trivial⟩, rfl, hK, hRa_1, hRb_2⟩
  · clear hj
    have h := h'
    clear h'
    rintro e a w ⟨rfl, ρ, σ11, rfl, rfl, hK, hR12, hR13⟩
    refine q_then ?_
    refine cd_cond o1 rfl (fun hb14 => ?_) (fun hb14 => ?_)
    · replace h := bif_t hb14 h
      refine c_seq ?_
      refine rg ?_
      refine st (v := (I (-1))) (rv_assign rfl) ?_
      refine w_end ?_
      refine q_then ?_
      refine c_ret ?_
      refine q_then_r ?_
      obtain rfl := Option.some.inj h
      exact bodyPost_ret (v := (I (-1))) (results_fr1 Try.results24 rfl _) rfl ⟨_, σ11, rfl, rfl, hK, rfl⟩
    · replace h := bif_f hb14 h
      refine c_skip ?_
      refine q_then ?_
      refine c_seq ?_
      obtain ⟨xs15, hx16, h'⟩ := bind_some h
      clear h
      have h := h'; clear h'
      obtain ⟨hl20, hq21⟩ := garr_some hx16
      clear hx16 hq21
      obtain ⟨b17, o18, rfl, hc19⟩ := hR12.arr (Nat.lt_of_lt_of_le (by decide) hl20)
      obtain ⟨xs22, hx23, h'⟩ := bind_some h
      clear h
      have h := h'; clear h'
      obtain ⟨hl27, hq28⟩ := garr_some hx23
      clear hx23 hq28
      obtain ⟨b24, o25, rfl, hc26⟩ := hR13.arr (Nat.lt_of_lt_of_le (by decide) hl27)
      obtain ⟨r29, hx30, h'⟩ := bind_some h
      clear h
      have h := h'; clear h'
      refine rg_monoL (σ := σ11) 8 [eqv (I kind_0), eqv (Sl (some ⟨b17, o18, none⟩) a_1 ca_1), eqv (.pointer (some ⟨b17, o18, none⟩)), eqv (.agg (List.map I (List.take 4 a_1)).toArray), eqv (Sl (some ⟨b24, o25, none⟩) b_2 cb_2), eqv (.pointer (some ⟨b24, o25, none⟩)), eqv (.agg (List.map I (List.take 4 b_2)).toArray), (fun v σ => v = (.agg (List.map I r29).toArray) ∧ r29.length = 4)] (by kernel_rfl) (by kernel_rfl) (mono_cons mono_eqv (mono_cons mono_eqv (mono_cons mono_eqv (mono_cons mono_eqv (mono_cons mono_eqv (mono_cons mono_eqv (mono_cons mono_eqv (mono_cons (fun _ _ _ ⟨h0, hl31⟩ m => ⟨h0, hl31⟩) (mono_nil))))))))) ?_ ?_
      · refine all_cons (by
            intro ρ σm m hoff hdep
            have e0 : look 24 ρ 0 = (I kind_0) := look_off (hoff 0 rfl) rfl
            exact does_v (v := (I kind_0)) (wanted_none _ rfl _) (rv_move e0) rfl) ?_
        refine all_cons (by
            intro ρ σm m hoff hdep
            have e1 : look 24 ρ 1 = (Sl (some ⟨b17, o18, none⟩) a_1 ca_1) := look_off (hoff 1 rfl) rfl
            exact does_v (v := (Sl (some ⟨b17, o18, none⟩) a_1 ca_1)) (wanted_none _ rfl _) (rv_move e1) rfl) ?_
        refine all_cons (by
            intro ρ σm m hoff hdep
            have e16 : look 24 ρ 16 = (Sl (some ⟨b17, o18, none⟩) a_1 ca_1) := hdep 1 rfl rfl 16 rfl
            exact does_v (v := (.pointer (some ⟨b17, o18, none⟩))) (wanted_none _ rfl _) (rv_arrPtr Try.underlying78 e16 hl20) rfl) ?_
        refine all_cons (by
            intro ρ σm m hoff hdep
            have e17 : look 24 ρ 17 = (.pointer (some ⟨b17, o18, none⟩)) := hdep 2 rfl rfl 17 rfl
            replace hc19 := hR12.arr_mod hc19 m
            exact does_v (v := (.agg (List.map I (List.take 4 a_1)).toArray)) (wanted_none _ rfl _) (rv_load (cs := List.map I (List.take 4 a_1)) Try.underlying78 rfl ti78 e17 (by rw [List.length_map, List.length_take]; have := hl20; omega) (arr_take hc19)) rfl) ?_
        refine all_cons (by
            intro ρ σm m hoff hdep
            have e2 : look 24 ρ 2 = (Sl (some ⟨b24, o25, none⟩) b_2 cb_2) := look_off (hoff 2 rfl) rfl
            exact does_v (v := (Sl (some ⟨b24, o25, none⟩) b_2 cb_2)) (wanted_none _ rfl _) (rv_move e2) rfl) ?_
        refine all_cons (by
            intro ρ σm m hoff hdep
            have e19 : look 24 ρ 19 = (Sl (some ⟨b24, o25, none⟩) b_2 cb_2) := hdep 4 rfl rfl 19 rfl
            exact does_v (v := (.pointer (some ⟨b24, o25, none⟩))) (wanted_none _ rfl _) (rv_arrPtr Try.underlying78 e19 hl27) rfl) ?_
        refine all_cons (by
            intro ρ σm m hoff hdep
            have e20 : look 24 ρ 20 = (.pointer (some ⟨b24, o25, none⟩)) := hdep 5 rfl rfl 20 rfl
            replace hc26 := hR13.arr_mod hc26 m
            exact does_v (v := (.agg (List.map I (List.take 4 b_2)).toArray)) (wanted_none _ rfl _) (rv_load (cs := List.map I (List.take 4 b_2)) Try.underlying78 rfl ti78 e20 (by rw [List.length_map, List.length_take]; have := hl27; omega) (arr_take hc26)) rfl) ?_
        refine all_cons (by
            intro ρ σm m hoff hdep
            have e18 : look 24 ρ 18 = (.agg (List.map I (List.take 4 a_1)).toArray) := hdep 3 rfl rfl 18 rfl
            have e21 : look 24 ρ 21 = (.agg (List.map I (List.take 4 b_2)).toArray) := hdep 6 rfl rfl 21 rfl
            have hKs : σ11.size ≤ σm.size := m.size
            exact does_call (wanted_none _ rfl _) (c_impl_gapsOf (by rw [List.length_take]; have := hl20; omega) (by rw [List.length_take]; have := hl27; omega) hx30) (by show [look 24 ρ 18, look 24 ρ 21] = _; rw [e18, e21]) (by rintro v σ2 m2 ⟨rfl, hl31⟩; exact ⟨rfl, hl31⟩)) ?_
        exact all_nil
      · intro ρ σ32 m hoff hrel
        have e15 : look 24 ρ 15 = (I kind_0) := hrel 0 rfl 15 rfl
        obtain ⟨e22, hl31⟩ := hrel 7 rfl 22 rfl
        replace hK := hK.none m
        rw [fr_lookL (L := [(15, (I kind_0)), (22, (.agg (List.map I r29).toArray))]) ⟨e15, e22, trivial⟩]
        clear hoff hrel m e15 e22
        obtain ⟨r33, hx34, h'⟩ := bind_some h
        clear h
        have h := h'; clear h'
        refine st_call (c_impl_distanceOf hl31 hx34) rfl ?_
        have hKs := hK.size
        rintro _ σ35 m36 rfl
        replace hK := hK.none m36
        clear hKs m36
        refine st (v := (I r33)) (rv_assign rfl) ?_
        refine w_end ?_
        refine q_then ?_
        refine c_ret ?_
        obtain rfl := Option.some.inj h
        exact bodyPost_ret (v := (I r33)) (results_fr1 Try.results24 rfl _) rfl ⟨_, σ35, rfl, rfl, hK, rfl⟩

theorem c_laws_FnExactDistance {σ0 : St} {aKind_0 : Int} {aA_1 : List Int} {aB_2 : List Int} {aaA_1 : Option Addr} {caA_1 : Nat} (hRaA_1 : RS 0 σ0 (Sl aaA_1 aA_1 caA_1) aA_1) {aaB_2 : Option Addr} {caB_2 : Nat} (hRaB_2 : RS 0 σ0 (Sl aaB_2 aB_2 caB_2) aB_2) {r : Bool} (h : M.laws_FnExactDistance aKind_0 aA_1 aB_2 = some r) :
    Cal Try.prog 5 [(I aKind_0), (Sl aaA_1 aA_1 caA_1), (Sl aaB_2 aB_2 caB_2)] none σ0 (fun v σ' => v = (B r)) := by
  refine ⟨⟨_, _, Try.func5, rfl, rfl⟩, ?_⟩
  refine enter (n := 44) Try.func5 rfl rfl rfl ?_
  unfold M.laws_FnExactDistance at h
  have hK : Mod none σ0 σ0 := Mod.refl _ _
  refine c_seq ?_
  refine rg ?_
  refine st (v := (B false)) (rv_assign rfl) ?_
  refine w_end ?_
  refine q_then ?_
  refine c_seq ?_
  refine c_seq ?_
  refine rg ?_
  refine st (v := (Sl aaA_1 aA_1 caA_1)) (rv_move rfl) ?_
  refine st (v := (I (aA_1.length : Int))) (rv_len Try.underlying24 rfl) ?_
  refine st (v := (B (decide (1048576 < (aA_1.length : Int))))) (rv_gtr (a := (aA_1.length : Int)) (b := 1048576) rfl rfl) ?_
  refine w_end ?_
  refine q_then ?_
  refine cd_cond (decide (1048576 < (aA_1.length : Int))) rfl (fun hb1 => ?_) (fun hb1 => ?_)
  · replace h := bif_t hb1 h
    refine c_seq ?_
    refine rg ?_
    refine st (v := (B true)) (rv_assign rfl) ?_
    refine w_end ?_
    refine q_then ?_
    refine c_ret ?_
    refine q_then_r ?_
    obtain rfl := Option.some.inj h
    exact bodyPost_ret (v := (B true)) (results_fr1 Try.results5 rfl _) rfl ⟨_, σ0, rfl, rfl, hK, rfl⟩
  · replace h := bif_f hb1 h
    refine c_skip ?_
    refine q_then ?_
    refine c_seq ?_
    refine c_seq ?_
    refine rg ?_
    refine st (v := (Sl aaB_2 aB_2 caB_2)) (rv_move rfl) ?_
    refine st (v := (I (aB_2.length : Int))) (rv_len Try.underlying24 rfl) ?_
    refine st (v := (B (decide (1048576 < (aB_2.length : Int))))) (rv_gtr (a := (aB_2.length : Int)) (b := 1048576) rfl rfl) ?_
    refine w_end ?_
    refine q_then ?_
    refine cd_cond (decide (1048576 < (aB_2.length : Int))) rfl (fun hb2 => ?_) (fun hb2 => ?_)
    · replace h := bif_t hb2 h
      refine c_seq ?_
      refine rg ?_
      refine st (v := (B true)) (rv_assign rfl) ?_
      refine w_end ?_
      refine q_then ?_
      refine c_ret ?_
      refine q_then_r ?_
      obtain rfl := Option.some.inj h
      exact bodyPost_ret (v := (B true)) (results_fr1 Try.results5 rfl _) rfl ⟨_, σ0, rfl, rfl, hK, rfl⟩
    · replace h := bif_f hb2 h
      refine c_skip ?_
      refine q_then ?_
      refine c_seq ?_
      refine rg ?_
      refine st (v := (I aKind_0)) (rv_move rfl) ?_
      refine st (v := (Sl aaA_1 aA_1 caA_1)) (rv_move rfl) ?_
      obtain ⟨r3, hx4, h'⟩ := bind_some h
      clear h
      have h := h'; clear h'
      refine st_call (c_laws_toIntS hRaA_1 hx4) rfl ?_
      have hKs := hK.size
      rintro _ σ5 m6 ⟨a7, c8, rfl, hO9⟩
      replace hRaA_1 := hRaA_1.mod m6
      replace hRaB_2 := hRaB_2.mod m6
      replace hK := hK.none m6
      have hO9g := hO9.ge
      replace hO9 := hO9.lo hKs
      replace hO9 := hO9.low' hKs
      clear hKs m6 hO9g
      refine st (v := (Sl aaB_2 aB_2 caB_2)) (rv_move rfl) ?_
      obtain ⟨r10, hx11, h'⟩ := bind_some h
      clear h
      have h := h'; clear h'
      refine st_call (c_laws_toIntS hRaB_2 hx11) rfl ?_
      have hd17 := hO9.ltb
      have hKs := hK.size
      rintro _ σ12 m13 ⟨a14, c15, rfl, hO16⟩
      replace hRaA_1 := hRaA_1.mod m13
      replace hRaB_2 := hRaB_2.mod m13
      replace hO9 := hO9.mod0 m13
      replace hK := hK.none m13
      have hO16g := hO16.ge
      replace hO16 := hO16.lo hKs
      replace hO16 := hO16.low' hKs
      have hd18 := Df.ge hd17 hO16g
      clear hKs m13 hO16g
      have hg23 := hO9.ge
      obtain ⟨σ19, hw22, m20, hR21⟩ := hO9.pub' (Nat.le_refl _)
      rw [← hw22]; clear hw22
      replace hRaA_1 := hRaA_1.mod m20
      replace hRaB_2 := hRaB_2.mod m20
      replace hO16 := hO16.mod' m20 (by first | exact (hd18).symm | exact Df.re (hd18).symm)
      replace hK := hK.own m20 hg23
      have hg28 := hO16.ge
      obtain ⟨σ24, hw27, m25, hR26⟩ := hO16.pub' (Nat.le_refl _)
      rw [← hw27]; clear hw27
      replace hRaA_1 := hRaA_1.mod m25
      replace hRaB_2 := hRaB_2.mod m25
      replace hR21 := hR21.mod m25
      replace hK := hK.own m25 hg28
      obtain ⟨r29, hx30, h'⟩ := bind_some h
      clear h
      have h := h'; clear h'
      refine st_call (c_spec_Distance (hR21.low (Nat.zero_le _)) (hR26.low (Nat.zero_le _)) hx30) rfl ?_
      have hKs := hK.size
      rintro _ σ31 m32 rfl
      replace hRaA_1 := hRaA_1.mod m32
      replace hRaB_2 := hRaB_2.mod m32
      replace hR21 := hR21.mod m32
      replace hR26 := hR26.mod m32
      replace hK := hK.none m32
      clear hKs m32
      refine st (v := (I r29)) (rv_assign rfl) ?_
      refine w_end ?_
      refine q_then ?_
      refine c_seq ?_
      refine rg ?_
      refine st (v := (Sl aaA_1 aA_1 caA_1)) (rv_move rfl) ?_
      obtain ⟨r33, hx34, h'⟩ := bind_some h
      clear h
      have h := h'; clear h'
      refine st_call (c_laws_toIntS hRaA_1 hx34) rfl ?_
      have hKs := hK.size
      rintro _ σ35 m36 ⟨a37, c38, rfl, hO39⟩
      replace hRaA_1 := hRaA_1.mod m36
      replace hRaB_2 := hRaB_2.mod m36
      replace hK := hK.none m36
      have hO39g := hO39.ge
      replace hO39 := hO39.lo hKs
      replace hO39 := hO39.low' hKs
      clear hKs m36 hO39g
      refine st (v := (Sl a37 r33 c38)) (rv_assign rfl) ?_
      refine w_end ?_
      refine q_then ?_
      refine c_seq ?_
      refine rg ?_
      refine st (v := (Sl aaB_2 aB_2 caB_2)) (rv_move rfl) ?_
      obtain ⟨r40, hx41, h'⟩ := bind_some h
      clear h
      have h := h'; clear h'
      refine st_call (c_laws_toIntS hRaB_2 hx41) rfl ?_
      have hd47 := hO39.ltb
      have hKs := hK.size
      rintro _ σ42 m43 ⟨a44, c45, rfl, hO46⟩
      replace hRaA_1 := hRaA_1.mod m43
      replace hRaB_2 := hRaB_2.mod m43
      replace hO39 := hO39.mod0 m43
      replace hK := hK.none m43
      have hO46g := hO46.ge
      replace hO46 := hO46.lo hKs
      replace hO46 := hO46.low' hKs
      have hd48 := Df.ge hd47 hO46g
      clear hKs m43 hO46g
      refine st (v := (Sl a44 r40 c45)) (rv_assign rfl) ?_
      refine w_end ?_
      refine q_then ?_
      refine c_seq ?_
      refine rg ?_
      refine st (v := (I aKind_0)) (rv_move rfl) ?_
      refine st (v := (Sl a37 r33 c38)) (rv_move rfl) ?_
      refine st (v := (Sl a44 r40 c45)) (rv_move rfl) ?_
      obtain ⟨σ49, hw50, m51, hR52⟩ := hO39.pub' (Nat.le_refl _)
      obtain ⟨σ53, hw54, m55, hR56⟩ := (hO46.mod' m51 (by first | exact (hd48).symm | exact Df.re (hd48).symm)).pub' (Nat.le_refl _)
      rw [← (hw54.trans hw50)]
      obtain ⟨r57, hx58, h'⟩ := bind_some h
      clear h
      have h := h'; clear h'
      refine st_call (c_impl_Distance ((hR52.low (Nat.zero_le _)).mod m55) (hR56.low (Nat.zero_le _)) hx58) rfl ?_
      have hd61 := ltb_size hO39.ltb (hw54.trans hw50)
      have hd62 := ltb_size hO46.ltb (hw54.trans hw50)
      have hKs := size_le hK.size (hw54.trans hw50)
      rintro _ σ59 m60 rfl
      obtain ⟨σ63, hw64, m65, hxl66, hvl67⟩ := lent (hw54.trans hw50) m60
      rw [← hw64]
      replace hRaA_1 := hRaA_1.mod m65
      replace hRaB_2 := hRaB_2.mod m65
      replace hO39 := hO39.mod0 m65
      replace hO46 := hO46.mod0 m65
      replace hK := hK.none m65
      clear hKs m65
      refine st (v := (I r57)) (rv_assign rfl) ?_
      refine w_end ?_
      refine q_then ?_
      refine c_seq ?_
      refine c_seq ?_
      refine rg ?_
      refine st (v := (I r57)) (rv_move rfl) ?_
      refine st (v := (I r29)) (rv_move rfl) ?_
      refine st (v := (B (r57 != r29))) (rv_neq (a := r57) (b := r29) rfl rfl) ?_
      refine w_end ?_
      refine q_then ?_
      refine cd_cond (r57 != r29) rfl (fun hb68 => ?_) (fun hb68 => ?_)
      · replace h := bif_t hb68 h
        refine c_seq ?_
        refine rg ?_
        refine st (v := (B false)) (rv_assign rfl) ?_
        refine w_end ?_
        refine q_then ?_
        refine c_ret ?_
        refine q_then_r ?_
        obtain rfl := Option.some.inj h
        exact bodyPost_ret (v := (B false)) (results_fr1 Try.results5 rfl _) rfl ⟨_, σ63, rfl, rfl, hK, rfl⟩
      · replace h := bif_f hb68 h
        refine c_skip ?_
        refine q_then ?_
        refine c_seq ?_
        refine c_seq ?_
        refine rg ?_
        refine st (v := (Sl a37 r33 c38)) (rv_move rfl) ?_
        refine st (v := (Sl aaA_1 aA_1 caA_1)) (rv_move rfl) ?_
        obtain ⟨r69, hx70, h'⟩ := bind_some h
        clear h
        have h := h'; clear h'
        refine st_call (c_laws_toIntS hRaA_1 hx70) rfl ?_
        have hd76 := hO46.ltb
        have hd77 := hO39.ltb
        have hKs := hK.size
        rintro _ σ71 m72 ⟨a73, c74, rfl, hO75⟩
        replace hRaB_2 := hRaB_2.mod m72
        replace hO46 := hO46.mod0 m72
        replace hO39 := hO39.mod0 m72
        replace hRaA_1 := hRaA_1.mod m72
        replace hK := hK.none m72
        have hO75g := hO75.ge
        replace hO75 := hO75.lo hKs
        replace hO75 := hO75.low' hKs
        have hd78 := Df.ge hd76 hO75g
        have hd79 := Df.ge hd77 hO75g
        clear hKs m72 hO75g
        have hg84 := hO39.ge
        obtain ⟨σ80, hw83, m81, hR82⟩ := hO39.pub' (Nat.le_refl _)
        rw [← hw83]; clear hw83
        replace hRaB_2 := hRaB_2.mod m81
        replace hO46 := hO46.mod' m81 (by first | exact (hd48).symm | exact Df.re (hd48).symm)
        replace hO75 := hO75.mod' m81 (by first | exact (hd79).symm | exact Df.re (hd79).symm)
        replace hK := hK.own m81 hg84
        have hg89 := hO75.ge
        obtain ⟨σ85, hw88, m86, hR87⟩ := hO75.pub' (Nat.le_refl _)
        rw [← hw88]; clear hw88
        replace hRaB_2 := hRaB_2.mod m86
        replace hO46 := hO46.mod' m86 (by first | exact hd78 | exact Df.re hd78)
        replace hR82 := hR82.mod m86
        replace hK := hK.own m86 hg89
        obtain ⟨r90, hx91, h'⟩ := bind_some h
        clear h
        have h := h'; clear h'
        refine st_call (c_laws_eqIntS (hR82.low (Nat.zero_le _)) (hR87.low (Nat.zero_le _)) hx91) rfl ?_
        have hd94 := hO46.ltb
        have hKs := hK.size
        rintro _ σ92 m93 rfl
        replace hRaB_2 := hRaB_2.mod m93
        replace hO46 := hO46.mod0 m93
        replace hR82 := hR82.mod m93
        replace hR87 := hR87.mod m93
        replace hK := hK.none m93
        clear hKs m93
        refine st (v := (B (!r90))) (rv_not rfl) ?_
        refine w_end ?_
        refine q_then ?_
        refine cd_cond (!r90) rfl (fun hb95 => ?_) (fun hb95 => ?_)
        · replace h := bif_t hb95 h
          refine c_seq ?_
          refine rg ?_
          refine st (v := (B false)) (rv_assign rfl) ?_
          refine w_end ?_
          refine q_then ?_
          refine c_ret ?_
          refine q_then_r ?_
          obtain rfl := Option.some.inj h
          exact bodyPost_ret (v := (B false)) (results_fr1 Try.results5 rfl _) rfl ⟨_, σ92, rfl, rfl, hK, rfl⟩
        · replace h := bif_f hb95 h
          refine c_skip ?_
          refine q_then ?_
          refine c_seq ?_
          refine c_seq ?_
          refine rg ?_
          refine st (v := (Sl a44 r40 c45)) (rv_move rfl) ?_
          refine st (v := (Sl aaB_2 aB_2 caB_2)) (rv_move rfl) ?_
          obtain ⟨r96, hx97, h'⟩ := bind_some h
          clear h
          have h := h'; clear h'
          refine st_call (c_laws_toIntS hRaB_2 hx97) rfl ?_
          have hd103 := hO46.ltb
          have hKs := hK.size
          rintro _ σ98 m99 ⟨a100, c101, rfl, hO102⟩
          replace hO46 := hO46.mod0 m99
          replace hRaB_2 := hRaB_2.mod m99
          replace hK := hK.none m99
          have hO102g := hO102.ge
          replace hO102 := hO102.lo hKs
          replace hO102 := hO102.low' hKs
          have hd104 := Df.ge hd103 hO102g
          clear hKs m99 hO102g
          have hg109 := hO46.ge
          obtain ⟨σ105, hw108, m106, hR107⟩ := hO46.pub' (Nat.le_refl _)
          rw [← hw108]; clear hw108
          replace hO102 := hO102.mod' m106 (by first | exact (hd104).symm | exact Df.re (hd104).symm)
          replace hK := hK.own m106 hg109
          have hg114 := hO102.ge
          obtain ⟨σ110, hw113, m111, hR112⟩ := hO102.pub' (Nat.le_refl _)
          rw [← hw113]; clear hw113
          replace hR107 := hR107.mod m111
          replace hK := hK.own m111 hg114
          obtain ⟨r115, hx116, h'⟩ := bind_some h
          clear h
          have h := h'; clear h'
          refine st_call (c_laws_eqIntS (hR107.low (Nat.zero_le _)) (hR112.low (Nat.zero_le _)) hx116) rfl ?_
          have hKs := hK.size
          rintro _ σ117 m118 rfl
          replace hR107 := hR107.mod m118
          replace hR112 := hR112.mod m118
          replace hK := hK.none m118
          clear hKs m118
          refine st (v := (B (!r115))) (rv_not rfl) ?_
          refine w_end ?_
          refine q_then ?_
          refine cd_cond (!r115) rfl (fun hb119 => ?_) (fun hb119 => ?_)
          · replace h := bif_t hb119 h
            refine c_seq ?_
            refine rg ?_
            refine st (v := (B false)) (rv_assign rfl) ?_
            refine w_end ?_
            refine q_then ?_
            refine c_ret ?_
            refine q_then_r ?_
            obtain rfl := Option.some.inj h
            exact bodyPost_ret (v := (B false)) (results_fr1 Try.results5 rfl _) rfl ⟨_, σ117, rfl, rfl, hK, rfl⟩
          · replace h := bif_f hb119 h
            refine c_skip ?_
            refine q_then ?_
            refine c_seq ?_
            refine rg ?_
            refine st (v := (B true)) (rv_assign rfl) ?_
            refine w_end ?_
            refine q_then ?_
            refine c_ret ?_
            obtain rfl := Option.some.inj h
            exact bodyPost_ret (v := (B true)) (results_fr1 Try.results5 rfl _) rfl ⟨_, σ117, rfl, rfl, hK, rfl⟩

end Go.Vs
