/- The functions compute what their models say. -/
import Derived.Test.YtaknnhnckdifiaaAaC1
set_option linter.unusedVariables false
set_option linter.unusedSimpArgs false
set_option maxRecDepth 20000
namespace Go.Vs
open Go Go.Proofs
attribute [local irreducible] Code.wp wpList wpQuiet Calls

theorem c_spec_dist {σ0 : St} {kind_0 : Int} {a_1 : List Int} {b_2 : List Int} {aa_1 : Option Addr} {ca_1 : Nat} (hRa_1 : RS 0 σ0 (Sl aa_1 a_1 ca_1) a_1) {ab_2 : Option Addr} {cb_2 : Nat} (hRb_2 : RS 0 σ0 (Sl ab_2 b_2 cb_2) b_2) {r : Int} (h : M.spec_dist kind_0 a_1 b_2 = some r) :
    Cal Try.prog 47 [(I kind_0), (Sl aa_1 a_1 ca_1), (Sl ab_2 b_2 cb_2)] none σ0 (fun v σ' => v = (I r)) := by
  refine ⟨⟨_, _, Try.func47, rfl, rfl⟩, ?_⟩
  refine enter (n := 50) Try.func47 rfl rfl rfl ?_
  unfold M.spec_dist at h
  have hK : Mod none σ0 σ0 := Mod.refl _ _
  refine c_seq ?_
  refine rg ?_
  refine st (v := (I 0)) (rv_assign rfl) ?_
  refine w_end ?_
  refine q_then ?_
  refine c_seq ?_
  refine rg ?_
  refine st (v := (I 0)) (rv_assign rfl) ?_
  refine w_end ?_
  refine q_then ?_
  refine c_seq ?_
  refine c_seq ?_
  refine rg ?_
  refine st (v := (I 0)) (rv_assign rfl) ?_
  refine w_end ?_
  refine q_then ?_
  obtain ⟨o1, hj, h'⟩ := bind_some h
  clear h
  refine c_cut (fun e a w => e = .normal ∧ ∃ (ρ : Nat → Value) (σ : St), a = fr 50 (updL ρ [(7, (I o1))]) ∧ w = σ.w ∧ Mod none σ0 σ) ?_ ?_
  · clear h'
    rename _ = some o1 => h
    refine c_blk ?_
    refine wp_loopM _ h (fun s2 a w => ∃ (ρ : Nat → Value) (σ : St), a = fr 50 (updL ρ [(0, (I kind_0)), (1, (Sl aa_1 a_1 ca_1)), (2, (Sl ab_2 b_2 cb_2)), (7, (I s2.1)), (8, (I s2.2))]) ∧ w = σ.w ∧ Mod none σ0 σ ∧ RS 0 σ (Sl aa_1 a_1 ca_1) a_1 ∧ RS 0 σ (Sl ab_2 b_2 cb_2) b_2) ⟨_, σ0, fr_join ⟨rfl, rfl, rfl, rfl, rfl, trivial⟩, rfl, hK, hRa_1, hRb_2⟩ ?_
    clear h
    rintro s2 a w o ⟨ρ, σ4, rfl, rfl, hK, hR5, hR6⟩ h hres
    refine c_seq ?_
    refine c_seq ?_
    refine rg ?_
    refine st (v := (I s2.2)) (rv_move rfl) ?_
    refine st (v := (Sl aa_1 a_1 ca_1)) (rv_move rfl) ?_
    refine st (v := (I (a_1.length : Int))) (rv_len Try.underlying23 rfl) ?_
    refine st (v := (B (decide (s2.2 < (a_1.length : Int))))) (rv_lss (a := s2.2) (b := (a_1.length : Int)) rfl rfl) ?_
    refine w_end ?_
    refine q_then ?_
    refine cd_cond (decide (s2.2 < (a_1.length : Int))) rfl (fun hb7 => ?_) (fun hb7 => ?_)
    · replace h := bif_t hb7 h
      refine c_skip ?_
      refine q_then ?_
      refine c_seq ?_
      obtain ⟨o8, hj, h'⟩ := bind_some h
      clear h
      refine c_cut (fun e a w => e = .normal ∧ ∃ (ρ : Nat → Value) (σ : St), a = fr 50 (updL ρ [(0, (I kind_0)), (1, (Sl aa_1 a_1 ca_1)), (2, (Sl ab_2 b_2 cb_2)), (7, (I o8)), (8, (I s2.2))]) ∧ w = σ.w ∧ Mod none σ0 σ ∧ RS 0 σ (Sl aa_1 a_1 ca_1) a_1 ∧ RS 0 σ (Sl ab_2 b_2 cb_2) b_2) ?_ ?_
      · clear h'
        rename _ = some o8 => h
        refine c_blk ?_
        refine c_seq ?_
        obtain ⟨x9, hx10, h'⟩ := bind_some h
        clear h
        have h := h'; clear h'
        obtain ⟨b12, o13, hi11, -⟩ := hR5.ix hx10
        obtain ⟨x14, hx15, h'⟩ := bind_some h
        clear h
        have h := h'; clear h'
        obtain ⟨b17, o18, hi16, -⟩ := hR6.ix hx15
        refine rg_monoL (σ := σ4) 8 [eqv (Sl aa_1 a_1 ca_1), eqv (I s2.2), eqv (pt b12 o13), eqv (I x9), eqv (Sl ab_2 b_2 cb_2), eqv (I s2.2), eqv (pt b17 o18), eqv (I x14)] (by kernel_rfl) (by kernel_rfl) (mono_cons mono_eqv (mono_cons mono_eqv (mono_cons mono_eqv (mono_cons mono_eqv (mono_cons mono_eqv (mono_cons mono_eqv (mono_cons mono_eqv (mono_cons mono_eqv (mono_nil))))))))) ?_ ?_
        · refine all_cons (by
              intro ρ σm m hoff hdep
              have e1 : look 50 ρ 1 = (Sl aa_1 a_1 ca_1) := look_off (hoff 1 rfl) rfl
              exact does_v (v := (Sl aa_1 a_1 ca_1)) (wanted_none _ rfl _) (rv_move e1) rfl) ?_
          refine all_cons (by
              intro ρ σm m hoff hdep
              have e8 : look 50 ρ 8 = (I s2.2) := look_off (hoff 8 rfl) rfl
              exact does_v (v := (I s2.2)) (wanted_none _ rfl _) (rv_move e8) rfl) ?_
          refine all_cons (by
              intro ρ σm m hoff hdep
              have e16 : look 50 ρ 16 = (Sl aa_1 a_1 ca_1) := hdep 0 rfl rfl 16 rfl
              have e17 : look 50 ρ 17 = (I s2.2) := hdep 1 rfl rfl 17 rfl
              exact does_v (v := (pt b12 o13)) (wanted_none _ rfl _) (rv_ix Try.underlying23 ti3 e16 e17 hi11) rfl) ?_
          refine all_cons (by
              intro ρ σm m hoff hdep
              have e18 : look 50 ρ 18 = (pt b12 o13) := hdep 2 rfl rfl 18 rfl
              replace hR5 := hR5.mod m
              exact does_v (v := (I x9)) (wanted_none _ rfl _) (rv_load1 Try.underlying3 rfl e18 (hR5.at hx10 hi11).int) rfl) ?_
          refine all_cons (by
              intro ρ σm m hoff hdep
              have e2 : look 50 ρ 2 = (Sl ab_2 b_2 cb_2) := look_off (hoff 2 rfl) rfl
              exact does_v (v := (Sl ab_2 b_2 cb_2)) (wanted_none _ rfl _) (rv_move e2) rfl) ?_
          refine all_cons (by
              intro ρ σm m hoff hdep
              have e8 : look 50 ρ 8 = (I s2.2) := look_off (hoff 8 rfl) rfl
              exact does_v (v := (I s2.2)) (wanted_none _ rfl _) (rv_move e8) rfl) ?_
          refine all_cons (by
              intro ρ σm m hoff hdep
              have e20 : look 50 ρ 20 = (Sl ab_2 b_2 cb_2) := hdep 4 rfl rfl 20 rfl
              have e21 : look 50 ρ 21 = (I s2.2) := hdep 5 rfl rfl 21 rfl
              exact does_v (v := (pt b17 o18)) (wanted_none _ rfl _) (rv_ix Try.underlying23 ti3 e20 e21 hi16) rfl) ?_
          refine all_cons (by
              intro ρ σm m hoff hdep
              have e22 : look 50 ρ 22 = (pt b17 o18) := hdep 6 rfl rfl 22 rfl
              replace hR6 := hR6.mod m
              exact does_v (v := (I x14)) (wanted_none _ rfl _) (rv_load1 Try.underlying3 rfl e22 (hR6.at hx15 hi16).int) rfl) ?_
          exact all_nil
        · intro ρ σ19 m hoff hrel
          have e0 : look 50 ρ 0 = (I kind_0) := look_off (hoff 0 rfl) rfl
          have e1 : look 50 ρ 1 = (Sl aa_1 a_1 ca_1) := look_off (hoff 1 rfl) rfl
          have e2 : look 50 ρ 2 = (Sl ab_2 b_2 cb_2) := look_off (hoff 2 rfl) rfl
          have e7 : look 50 ρ 7 = (I s2.1) := look_off (hoff 7 rfl) rfl
          have e8 : look 50 ρ 8 = (I s2.2) := look_off (hoff 8 rfl) rfl
          have e19 : look 50 ρ 19 = (I x9) := hrel 3 rfl 19 rfl
          have e23 : look 50 ρ 23 = (I x14) := hrel 7 rfl 23 rfl
          replace hR5 := hR5.mod m
          replace hR6 := hR6.mod m
          replace hK := hK.none m
          rw [fr_lookL (L := [(0, (I kind_0)), (1, (Sl aa_1 a_1 ca_1)), (2, (Sl ab_2 b_2 cb_2)), (7, (I s2.1)), (8, (I s2.2)), (19, (I x9)), (23, (I x14))]) ⟨e0, e1, e2, e7, e8, e19, e23, trivial⟩]
          clear hoff hrel m e0 e1 e2 e7 e8 e19 e23
          refine st (v := (I (w64 (x9 - x14)))) (rv_sub (a := x9) (b := x14) rfl rfl) ?_
          obtain ⟨r20, hx21, h'⟩ := bind_some h
          clear h
          have h := h'; clear h'
          refine st_call (c_spec_size  hx21) rfl ?_
          have hKs := hK.size
          rintro _ σ22 m23 rfl
          replace hR5 := hR5.mod m23
          replace hR6 := hR6.mod m23
          replace hK := hK.none m23
          clear hKs m23
          refine st (v := (I r20)) (rv_assign rfl) ?_
          refine w_end ?_
          refine q_then ?_
          refine c_seq ?_
          refine rg ?_
          refine st (v := (I kind_0)) (rv_move rfl) ?_
          refine w_end ?_
          refine q_then ?_
          refine c_blk ?_
          refine c_seq ?_
          refine rg ?_
          refine st (v := (B (kind_0 == 1))) (rv_eql (a := kind_0) (b := 1) rfl rfl) ?_
          refine st (v := (B (kind_0 == 1))) (rv_assign rfl) ?_
          refine w_end ?_
          refine q_then ?_
          refine cd_cond (kind_0 == 1) rfl (fun hb24 => ?_) (fun hb24 => ?_)
          · replace h := bif_t hb24 h
            refine rg ?_
            refine st (v := (I s2.1)) (rv_move rfl) ?_
            refine st (v := (I r20)) (rv_move rfl) ?_
            refine st (v := (I (w64 (s2.1 + r20)))) (rv_add (a := s2.1) (b := r20) rfl rfl) ?_
            refine st (v := (I (w64 (s2.1 + r20)))) (rv_assign rfl) ?_
            refine w_end ?_
            refine q_blk ?_
            refine q_blk ?_
            obtain rfl := Option.some.inj h
            exact ⟨rfl, _, σ22, fr_join ⟨rfl, rfl, rfl, rfl, rfl, trivial⟩, rfl, hK, hR5, hR6⟩
          · replace h := bif_f hb24 h
            refine c_seq ?_
            refine rg ?_
            refine st (v := (B (kind_0 == 2))) (rv_eql (a := kind_0) (b := 2) rfl rfl) ?_
            refine st (v := (B (kind_0 == 2))) (rv_assign rfl) ?_
            refine w_end ?_
            refine q_then ?_
            refine cd_cond (kind_0 == 2) rfl (fun hb25 => ?_) (fun hb25 => ?_)
            · replace h := bif_t hb25 h
              refine rg ?_
              refine st (v := (I s2.1)) (rv_move rfl) ?_
              refine st (v := (I r20)) (rv_move rfl) ?_
              refine st (v := (I (max s2.1 r20))) (rv_max rfl rfl) ?_
              refine st (v := (I (max s2.1 r20))) (rv_assign rfl) ?_
              refine w_end ?_
              refine q_blk ?_
              refine q_blk ?_
              obtain rfl := Option.some.inj h
              exact ⟨rfl, _, σ22, fr_join ⟨rfl, rfl, rfl, rfl, rfl, trivial⟩, rfl, hK, hR5, hR6⟩
            · replace h := bif_f hb25 h
              refine c_seq ?_
              refine rg ?_
              refine st (v := (B (kind_0 == 3))) (rv_eql (a := kind_0) (b := 3) rfl rfl) ?_
              refine st (v := (B (kind_0 == 3))) (rv_assign rfl) ?_
              refine w_end ?_
              refine q_then ?_
              refine cd_cond (kind_0 == 3) rfl (fun hb26 => ?_) (fun hb26 => ?_)
              · replace h := bif_t hb26 h
                refine rg ?_
                refine st (v := (I s2.1)) (rv_move rfl) ?_
                refine st (v := (I r20)) (rv_move rfl) ?_
                refine st (v := (I r20)) (rv_move rfl) ?_
                refine st (v := (I (w64 (r20 * r20)))) (rv_mul (a := r20) (b := r20) rfl rfl) ?_
                refine st (v := (I (w64 (s2.1 + (w64 (r20 * r20)))))) (rv_add (a := s2.1) (b := (w64 (r20 * r20))) rfl rfl) ?_
                refine st (v := (I (w64 (s2.1 + (w64 (r20 * r20)))))) (rv_assign rfl) ?_
                refine w_end ?_
                refine q_blk ?_
                refine q_blk ?_
                obtain rfl := Option.some.inj h
                exact ⟨rfl, _, σ22, fr_join ⟨rfl, rfl, rfl, rfl, rfl, trivial⟩, rfl, hK, hR5, hR6⟩
              · replace h := bif_f hb26 h
                refine rg ?_
                refine st (v := (I s2.1)) (rv_move rfl) ?_
                refine st (v := (I r20)) (rv_move rfl) ?_
                refine st (v := (B (decide (0 < r20)))) (rv_gtr (a := r20) (b := 0) rfl rfl) ?_
                obtain ⟨r27, hx28, h'⟩ := bind_some h
                clear h
                have h := h'; clear h'
                refine st_call (c_spec_toInt  hx28) rfl ?_
                have hKs := hK.size
                rintro _ σ29 m30 rfl
                replace hR5 := hR5.mod m30
                replace hR6 := hR6.mod m30
                replace hK := hK.none m30
                clear hKs m30
                refine st (v := (I (w64 (s2.1 + r27)))) (rv_add (a := s2.1) (b := r27) rfl rfl) ?_
                refine st (v := (I (w64 (s2.1 + r27)))) (rv_assign rfl) ?_
                refine w_end ?_
                refine q_blk ?_
                refine q_blk ?_
                obtain rfl := Option.some.inj h
                exact ⟨rfl, _, σ29, fr_join ⟨rfl, rfl, rfl, rfl, rfl, trivial⟩, rfl, hK, hR5, hR6⟩
      · clear hj
        have h := h'
        clear h'
        rintro e a w ⟨rfl, ρ, σ31, rfl, rfl, hK, hR32, hR33⟩
        refine q_then ?_
        refine rg ?_
        refine st (v := (I s2.2)) (rv_move rfl) ?_
        refine st (v := (I (w64 (s2.2 + 1)))) (rv_add (a := s2.2) (b := 1) rfl rfl) ?_
        refine st (v := (I (w64 (s2.2 + 1)))) (rv_assign rfl) ?_
        refine w_end ?_
        refine q_then ?_
        obtain rfl := Option.some.inj h
        exact ⟨_, rfl, _, σ31, fr_join ⟨rfl, rfl, rfl, rfl, rfl, trivial⟩, rfl, hK, hR32, hR33⟩
    · replace h := bif_f hb7 h
      refine c_exit ?_
      refine q_then_x ?_
      refine q_then_x ?_
      refine q_blk_hit ?_
      obtain rfl := Option.some.inj h
      obtain rfl := hres _ rfl
      exact ⟨rfl, _, σ4, fr_join ⟨rfl, trivial⟩, rfl, hK⟩
  · clear hj
    have h := h'
    clear h'
    rintro e a w ⟨rfl, ρ, σ34, rfl, rfl, hK⟩
    refine q_then ?_
    refine c_seq ?_
    refine rg ?_
    refine st (v := (I o1)) (rv_move rfl) ?_
    refine st (v := (I o1)) (rv_assign rfl) ?_
    refine w_end ?_
    refine q_then ?_
    refine c_ret ?_
    obtain rfl := Option.some.inj h
    exact bodyPost_ret (v := (I o1)) (results_fr1 Try.results47 rfl _) rfl ⟨_, σ34, rfl, rfl, hK, rfl⟩

theorem c_spec_Distance {σ0 : St} {kind_0 : Int} {a_1 : List Int} {b_2 : List Int} {aa_1 : Option Addr} {ca_1 : Nat} (hRa_1 : RS 0 σ0 (Sl aa_1 a_1 ca_1) a_1) {ab_2 : Option Addr} {cb_2 : Nat} (hRb_2 : RS 0 σ0 (Sl ab_2 b_2 cb_2) b_2) {r : Int} (h : M.spec_Distance kind_0 a_1 b_2 = some r) :
    Cal Try.prog 20 [(I kind_0), (Sl aa_1 a_1 ca_1), (Sl ab_2 b_2 cb_2)] none σ0 (fun v σ' => v = (I r)) := by
  refine ⟨⟨_, _, Try.func20, rfl, rfl⟩, ?_⟩
  refine enter (n := 24) Try.func20 rfl rfl rfl ?_
  unfold M.spec_Distance at h
  have hK : Mod none σ0 σ0 := Mod.refl _ _
  refine c_seq ?_
  refine rg ?_
  refine st (v := (I 0)) (rv_assign rfl) ?_
  refine w_end ?_
  refine q_then ?_
  refine c_seq ?_
  refine c_seq ?_
  obtain ⟨o1, hj, h'⟩ := bind_some h
  clear h
  refine c_cut (fun e a w => e = .normal ∧ ∃ (ρ : Nat → Value) (σ : St), a = fr 24 (updL ρ [(0, (I kind_0)), (1, (Sl aa_1 a_1 ca_1)), (2, (Sl ab_2 b_2 cb_2)), (19, (B o1))]) ∧ w = σ.w ∧ Mod none σ0 σ ∧ RS 0 σ (Sl aa_1 a_1 ca_1) a_1 ∧ RS 0 σ (Sl ab_2 b_2 cb_2) b_2) ?_ ?_
  · clear h'
    rename _ = some o1 => h
    refine rg ?_
    refine st (v := (I kind_0)) (rv_move rfl) ?_
    obtain ⟨r2, hx3, h'⟩ := bind_some h
    clear h
    have h := h'; clear h'
    refine st_call (c_spec_validKind  hx3) rfl ?_
    have hKs := hK.size
    rintro _ σ4 m5 rfl
    replace hRa_1 := hRa_1.mod m5
    replace hRb_2 := hRb_2.mod m5
    replace hK := hK.none m5
    clear hKs m5
    refine st (v := (B (!r2))) (rv_not rfl) ?_
    refine st (v := (B (!r2))) (rv_move rfl) ?_
    rcases Bool.eq_false_or_eq_true (!r2) with hb6 | hb6
    · replace h := bif_t hb6 h
      refine st_skip (congrArg some hb6) ?_
      refine st_skip (congrArg some hb6) ?_
      refine st_skip (congrArg some hb6) ?_
      refine st (v := (B true)) (rv_pick_t (congrArg B hb6) rfl) ?_
      refine st (v := (B true)) (rv_move rfl) ?_
      refine st_skip rfl ?_
      refine st_skip rfl ?_
      refine st_skip rfl ?_
      refine st (v := (B true)) (rv_pick_t rfl rfl) ?_
      refine w_end ?_
      obtain rfl := Option.some.inj h
      exact ⟨rfl, _, σ4, fr_join ⟨rfl, rfl, rfl, rfl, trivial⟩, rfl, hK, hRa_1, hRb_2⟩
    · replace h := bif_f hb6 h
      refine st_g (v := (Sl aa_1 a_1 ca_1)) (congrArg some hb6) (rv_move rfl) ?_
      obtain ⟨r7, hx8, h'⟩ := bind_some h
      clear h
      have h := h'; clear h'
      refine st_call_g (by exact (congrArg some hb6)) (c_spec_isVector hRa_1 hx8) rfl ?_
      have hKs := hK.size
      rintro _ σ9 m10 rfl
      replace hRa_1 := hRa_1.mod m10
      replace hRb_2 := hRb_2.mod m10
      replace hK := hK.none m10
      clear hKs m10
      refine st_g (v := (B (!r7))) (congrArg some hb6) (rv_not rfl) ?_
      refine st (v := (B (!r7))) (rv_pick_f (congrArg B hb6) rfl) ?_
      refine st (v := (B (!r7))) (rv_move rfl) ?_
      rcases Bool.eq_false_or_eq_true (!r7) with hb11 | hb11
      · replace h := bif_t hb11 h
        refine st_skip (congrArg some hb11) ?_
        refine st_skip (congrArg some hb11) ?_
        refine st_skip (congrArg some hb11) ?_
        refine st (v := (B true)) (rv_pick_t (congrArg B hb11) rfl) ?_
        refine w_end ?_
        obtain rfl := Option.some.inj h
        exact ⟨rfl, _, σ9, fr_join ⟨rfl, rfl, rfl, rfl, trivial⟩, rfl, hK, hRa_1, hRb_2⟩
      · replace h := bif_f hb11 h
        refine st_g (v := (Sl ab_2 b_2 cb_2)) (congrArg some hb11) (rv_move rfl) ?_
        obtain ⟨r12, hx13, h'⟩ := bind_some h
        clear h
        have h := h'; clear h'
        refine st_call_g (by exact (congrArg some hb11)) (c_spec_isVector hRb_2 hx13) rfl ?_
        have hKs := hK.size
        rintro _ σ14 m15 rfl
        replace hRa_1 := hRa_1.mod m15
        replace hRb_2 := hRb_2.mod m15
        replace hK := hK.none m15
        clear hKs m15
        refine st_g (v := (B (!r12))) (congrArg some hb11) (rv_not rfl) ?_
        refine st (v := (B (!r12))) (rv_pick_f (congrArg B hb11) rfl) ?_
        refine w_end ?_
        obtain rfl := Option.some.inj h
        exact ⟨rfl, _, σ14, fr_join ⟨rfl, rfl, rfl, rfl, trivial⟩, rfl, hK, hRa_1, hRb_2⟩
  · clear hj
    have h := h'
    clear h'
    rintro e a w ⟨rfl, ρ, σ16, rfl, rfl, hK, hR17, hR18⟩
    refine q_then ?_
    refine cd_cond o1 rfl (fun hb19 => ?_) (fun hb19 => ?_)
    · replace h := bif_t hb19 h
      refine c_seq ?_
      refine rg ?_
      refine st (v := (I (-1))) (rv_assign rfl) ?_
      refine w_end ?_
      refine q_then ?_
      refine c_ret ?_
      refine q_then_r ?_
      obtain rfl := Option.some.inj h
      exact bodyPost_ret (v := (I (-1))) (results_fr1 Try.results20 rfl _) rfl ⟨_, σ16, rfl, rfl, hK, rfl⟩
    · replace h := bif_f hb19 h
      refine c_skip ?_
      refine q_then ?_
      refine c_seq ?_
      refine rg ?_
      refine st (v := (I kind_0)) (rv_move rfl) ?_
      refine st (v := (Sl aa_1 a_1 ca_1)) (rv_move rfl) ?_
      refine st (v := (Sl ab_2 b_2 cb_2)) (rv_move rfl) ?_
      obtain ⟨r20, hx21, h'⟩ := bind_some h
      clear h
      have h := h'; clear h'
      refine st_call (c_spec_dist hR17 hR18 hx21) rfl ?_
      have hKs := hK.size
      rintro _ σ22 m23 rfl
      replace hR17 := hR17.mod m23
      replace hR18 := hR18.mod m23
      replace hK := hK.none m23
      clear hKs m23
      refine st (v := (I r20)) (rv_assign rfl) ?_
      refine w_end ?_
      refine q_then ?_
      refine c_ret ?_
      obtain rfl := Option.some.inj h
      exact bodyPost_ret (v := (I r20)) (results_fr1 Try.results20 rfl _) rfl ⟨_, σ22, rfl, rfl, hK, rfl⟩

theorem c_laws_equalInts {σ0 : St} {a_0 : List Int} {b_1 : List Int} {aa_0 : Option Addr} {ca_0 : Nat} (hRa_0 : RS 0 σ0 (Sl aa_0 a_0 ca_0) a_0) {ab_1 : Option Addr} {cb_1 : Nat} (hRb_1 : RS 0 σ0 (Sl ab_1 b_1 cb_1) b_1) {r : Bool} (h : M.laws_equalInts a_0 b_1 = some r) :
    Cal Try.prog 21 [(Sl aa_0 a_0 ca_0), (Sl ab_1 b_1 cb_1)] none σ0 (fun v σ' => v = (B r)) := by
  refine ⟨⟨_, _, Try.func21, rfl, rfl⟩, ?_⟩
  refine enter (n := 26) Try.func21 rfl rfl rfl ?_
  unfold M.laws_equalInts at h
  have hK : Mod none σ0 σ0 := Mod.refl _ _
  refine c_seq ?_
  refine rg ?_
  refine st (v := (B false)) (rv_assign rfl) ?_
  refine w_end ?_
  refine q_then ?_
  refine c_seq ?_
  refine c_seq ?_
  refine rg ?_
  refine st (v := (Sl aa_0 a_0 ca_0)) (rv_move rfl) ?_
  refine st (v := (I (a_0.length : Int))) (rv_len Try.underlying23 rfl) ?_
  refine st (v := (Sl ab_1 b_1 cb_1)) (rv_move rfl) ?_
  refine st (v := (I (b_1.length : Int))) (rv_len Try.underlying23 rfl) ?_
  refine st (v := (B ((a_0.length : Int) != (b_1.length : Int)))) (rv_neq (a := (a_0.length : Int)) (b := (b_1.length : Int)) rfl rfl) ?_
  refine w_end ?_
  refine q_then ?_
  refine cd_cond ((a_0.length : Int) != (b_1.length : Int)) rfl (fun hb1 => ?_) (fun hb1 => ?_)
  · replace h := bif_t hb1 h
    refine c_seq ?_
    refine rg ?_
    refine st (v := (B false)) (rv_assign rfl) ?_
    refine w_end ?_
    refine q_then ?_
    refine c_ret ?_
    refine q_then_r ?_
    obtain rfl := Option.some.inj h
    exact bodyPost_ret (v := (B false)) (results_fr1 Try.results21 rfl _) rfl ⟨_, σ0, rfl, rfl, hK, rfl⟩
  · replace h := bif_f hb1 h
    refine c_skip ?_
    refine q_then ?_
    refine c_seq ?_
    refine c_seq ?_
    refine rg ?_
    refine st (v := (I 0)) (rv_assign rfl) ?_
    refine w_end ?_
    refine q_then ?_
    obtain ⟨o2, hj, h'⟩ := bind_some h
    clear h
    refine c_cut (fun e a w => (∃ t, o2 = (.inl t) ∧ e = .normal ∧ ∃ (ρ : Nat → Value) (σ : St), a = fr 26 (updL ρ []) ∧ w = σ.w ∧ Mod none σ0 σ) ∨ (∃ t, o2 = (.inr t) ∧ e = .ret ∧ ∃ (ρ : Nat → Value) (σ : St), a = fr 26 (updL ρ [(4, (B t))]) ∧ w = σ.w ∧ Mod none σ0 σ)) ?_ ?_
    · clear h'
      rename _ = some o2 => h
      refine c_blk ?_
      refine wp_loopM _ h (fun s3 a w => ∃ (ρ : Nat → Value) (σ : St), a = fr 26 (updL ρ [(0, (Sl aa_0 a_0 ca_0)), (1, (Sl ab_1 b_1 cb_1)), (5, (I s3))]) ∧ w = σ.w ∧ Mod none σ0 σ ∧ RS 0 σ (Sl aa_0 a_0 ca_0) a_0 ∧ RS 0 σ (Sl ab_1 b_1 cb_1) b_1) ⟨_, σ0, fr_join ⟨rfl, rfl, rfl, trivial⟩, rfl, hK, hRa_0, hRb_1⟩ ?_
      clear h
      rintro s3 a w o ⟨ρ, σ5, rfl, rfl, hK, hR6, hR7⟩ h hres
      refine c_seq ?_
      refine c_seq ?_
      refine rg ?_
      refine st (v := (I s3)) (rv_move rfl) ?_
      refine st (v := (Sl aa_0 a_0 ca_0)) (rv_move rfl) ?_
      refine st (v := (I (a_0.length : Int))) (rv_len Try.underlying23 rfl) ?_
      refine st (v := (B (decide (s3 < (a_0.length : Int))))) (rv_lss (a := s3) (b := (a_0.length : Int)) rfl rfl) ?_
      refine w_end ?_
      refine q_then ?_
      refine cd_cond (decide (s3 < (a_0.length : Int))) rfl (fun hb8 => ?_) (fun hb8 => ?_)
      · replace h := bif_t hb8 h
        refine c_skip ?_
        refine q_then ?_
        refine c_seq ?_
        refine c_blk ?_
        refine c_seq ?_
        obtain ⟨x9, hx10, h'⟩ := bind_some h
        clear h
        have h := h'; clear h'
        obtain ⟨b12, o13, hi11, -⟩ := hR6.ix hx10
        obtain ⟨x14, hx15, h'⟩ := bind_some h
        clear h
        have h := h'; clear h'
        obtain ⟨b17, o18, hi16, -⟩ := hR7.ix hx15
        refine rg_monoL (σ := σ5) 8 [eqv (Sl aa_0 a_0 ca_0), eqv (I s3), eqv (pt b12 o13), eqv (I x9), eqv (Sl ab_1 b_1 cb_1), eqv (I s3), eqv (pt b17 o18), eqv (I x14)] (by kernel_rfl) (by kernel_rfl) (mono_cons mono_eqv (mono_cons mono_eqv (mono_cons mono_eqv (mono_cons mono_eqv (mono_cons mono_eqv (mono_cons mono_eqv (mono_cons mono_eqv (mono_cons mono_eqv (mono_nil))))))))) ?_ ?_
        · refine all_cons (by
              intro ρ σm m hoff hdep
              have e0 : look 26 ρ 0 = (Sl aa_0 a_0 ca_0) := look_off (hoff 0 rfl) rfl
              exact does_v (v := (Sl aa_0 a_0 ca_0)) (wanted_none _ rfl _) (rv_move e0) rfl) ?_
          refine all_cons (by
              intro ρ σm m hoff hdep
              have e5 : look 26 ρ 5 = (I s3) := look_off (hoff 5 rfl) rfl
              exact does_v (v := (I s3)) (wanted_none _ rfl _) (rv_move e5) rfl) ?_
          refine all_cons (by
              intro ρ σm m hoff hdep
              have e17 : look 26 ρ 17 = (Sl aa_0 a_0 ca_0) := hdep 0 rfl rfl 17 rfl
              have e18 : look 26 ρ 18 = (I s3) := hdep 1 rfl rfl 18 rfl
              exact does_v (v := (pt b12 o13)) (wanted_none _ rfl _) (rv_ix Try.underlying23 ti3 e17 e18 hi11) rfl) ?_
          refine all_cons (by
              intro ρ σm m hoff hdep
              have e19 : look 26 ρ 19 = (pt b12 o13) := hdep 2 rfl rfl 19 rfl
              replace hR6 := hR6.mod m
              exact does_v (v := (I x9)) (wanted_none _ rfl _) (rv_load1 Try.underlying3 rfl e19 (hR6.at hx10 hi11).int) rfl) ?_
          refine all_cons (by
              intro ρ σm m hoff hdep
              have e1 : look 26 ρ 1 = (Sl ab_1 b_1 cb_1) := look_off (hoff 1 rfl) rfl
              exact does_v (v := (Sl ab_1 b_1 cb_1)) (wanted_none _ rfl _) (rv_move e1) rfl) ?_
          refine all_cons (by
              intro ρ σm m hoff hdep
              have e5 : look 26 ρ 5 = (I s3) := look_off (hoff 5 rfl) rfl
              exact does_v (v := (I s3)) (wanted_none _ rfl _) (rv_move e5) rfl) ?_
          refine all_cons (by
              intro ρ σm m hoff hdep
              have e21 : look 26 ρ 21 = (Sl ab_1 b_1 cb_1) := hdep 4 rfl rfl 21 rfl
              have e22 : look 26 ρ 22 = (I s3) := hdep 5 rfl rfl 22 rfl
              exact does_v (v := (pt b17 o18)) (wanted_none _ rfl _) (rv_ix Try.underlying23 ti3 e21 e22 hi16) rfl) ?_
          refine all_cons (by
              intro ρ σm m hoff hdep
              have e23 : look 26 ρ 23 = (pt b17 o18) := hdep 6 rfl rfl 23 rfl
              replace hR7 := hR7.mod m
              exact does_v (v := (I x14)) (wanted_none _ rfl _) (rv_load1 Try.underlying3 rfl e23 (hR7.at hx15 hi16).int) rfl) ?_
          exact all_nil
        · intro ρ σ19 m hoff hrel
          have e0 : look 26 ρ 0 = (Sl aa_0 a_0 ca_0) := look_off (hoff 0 rfl) rfl
          have e1 : look 26 ρ 1 = (Sl ab_1 b_1 cb_1) := look_off (hoff 1 rfl) rfl
          have e5 : look 26 ρ 5 = (I s3) := look_off (hoff 5 rfl) rfl
          have e20 : look 26 ρ 20 = (I x9) := hrel 3 rfl 20 rfl
          have e24 : look 26 ρ 24 = (I x14) := hrel 7 rfl 24 rfl
          replace hR6 := hR6.mod m
          replace hR7 := hR7.mod m
          replace hK := hK.none m
          rw [fr_lookL (L := [(0, (Sl aa_0 a_0 ca_0)), (1, (Sl ab_1 b_1 cb_1)), (5, (I s3)), (20, (I x9)), (24, (I x14))]) ⟨e0, e1, e5, e20, e24, trivial⟩]
          clear hoff hrel m e0 e1 e5 e20 e24
          refine st (v := (B (x9 != x14))) (rv_neq (a := x9) (b := x14) rfl rfl) ?_
          refine w_end ?_
          refine q_then ?_
          refine cd_cond (x9 != x14) rfl (fun hb20 => ?_) (fun hb20 => ?_)
          · replace h := bif_t hb20 h
            refine c_seq ?_
            refine rg ?_
            refine st (v := (B false)) (rv_assign rfl) ?_
            refine w_end ?_
            refine q_then ?_
            refine c_ret ?_
            refine q_blk_r ?_
            refine q_then_r ?_
            refine q_then_r ?_
            refine q_blk_r ?_
            obtain rfl := Option.some.inj h
            obtain rfl := hres _ rfl
            exact .inr (⟨_, rfl, rfl, _, σ19, fr_join ⟨rfl, trivial⟩, rfl, hK⟩)
          · replace h := bif_f hb20 h
            refine c_skip ?_
            refine q_blk ?_
            refine q_then ?_
            refine rg ?_
            refine st (v := (I s3)) (rv_move rfl) ?_
            refine st (v := (I (w64 (s3 + 1)))) (rv_add (a := s3) (b := 1) rfl rfl) ?_
            refine st (v := (I (w64 (s3 + 1)))) (rv_assign rfl) ?_
            refine w_end ?_
            refine q_then ?_
            obtain rfl := Option.some.inj h
            exact ⟨_, rfl, _, σ19, fr_join ⟨rfl, rfl, rfl, trivial⟩, rfl, hK, hR6, hR7⟩
      · replace h := bif_f hb8 h
        refine c_exit ?_
        refine q_then_x ?_
        refine q_then_x ?_
        refine q_blk_hit ?_
        obtain rfl := Option.some.inj h
        obtain rfl := hres _ rfl
        exact .inl ⟨_, rfl, rfl, _, σ5, fr_join trivial, rfl, hK⟩
    · clear hj
      have h := h'
      clear h'
      rintro e a w (⟨t21, rfl, rfl, ρ, σ22, rfl, rfl, hK⟩ | ⟨t23, rfl, rfl, ρ, σ24, rfl, rfl, hK⟩)
      · replace h := selim_l h
        refine q_then ?_
        refine c_seq ?_
        refine rg ?_
        refine st (v := (B true)) (rv_assign rfl) ?_
        refine w_end ?_
        refine q_then ?_
        refine c_ret ?_
        obtain rfl := Option.some.inj h
        exact bodyPost_ret (v := (B true)) (results_fr1 Try.results21 rfl _) rfl ⟨_, σ22, rfl, rfl, hK, rfl⟩
      · replace h := selim_r h
        refine q_then_r ?_
        obtain rfl := Option.some.inj h
        exact bodyPost_ret (v := (B t23)) (results_fr1 Try.results21 rfl _) rfl ⟨_, σ24, rfl, rfl, hK, rfl⟩

theorem c_laws_FnDistance {σ0 : St} {code_0 : List UInt8} {acode_0 : Option Addr} {ccode_0 : Nat} (hRcode_0 : RS 0 σ0 (Sl acode_0 code_0 ccode_0) code_0) {r : Bool} (h : M.laws_FnDistance code_0 = some r) :
    Cal Try.prog 4 [(Sl acode_0 code_0 ccode_0)] none σ0 (fun v σ' => v = (B r)) := by
  refine ⟨⟨_, _, Try.func4, rfl, rfl⟩, ?_⟩
  refine enter (n := 54) Try.func4 rfl rfl rfl ?_
  unfold M.laws_FnDistance at h
  have hK : Mod none σ0 σ0 := Mod.refl _ _
  refine c_seq ?_
  refine rg ?_
  refine st (v := (B false)) (rv_assign rfl) ?_
  refine w_end ?_
  refine q_then ?_
  refine c_seq ?_
  refine c_seq ?_
  refine rg ?_
  refine st (v := (Sl acode_0 code_0 ccode_0)) (rv_move rfl) ?_
  refine st (v := (I (code_0.length : Int))) (rv_len Try.underlying22 rfl) ?_
  refine st (v := (B (decide (1048576 < (code_0.length : Int))))) (rv_gtr (a := (code_0.length : Int)) (b := 1048576) rfl rfl) ?_
  refine w_end ?_
  refine q_then ?_
  refine cd_cond (decide (1048576 < (code_0.length : Int))) rfl (fun hb1 => ?_) (fun hb1 => ?_)
  · replace h := bif_t hb1 h
    refine c_seq ?_
    refine rg ?_
    refine st (v := (B true)) (rv_assign rfl) ?_
    refine w_end ?_
    refine q_then ?_
    refine c_ret ?_
    refine q_then_r ?_
    obtain rfl := Option.some.inj h
    exact bodyPost_ret (v := (B true)) (results_fr1 Try.results4 rfl _) rfl ⟨_, σ0, rfl, rfl, hK, rfl⟩
  · replace h := bif_f hb1 h
    refine c_skip ?_
    refine q_then ?_
    refine c_seq ?_
    refine rg ?_
    refine st (v := (Sl acode_0 code_0 ccode_0)) (rv_move rfl) ?_
    obtain ⟨r2, hx3, h'⟩ := bind_some h
    clear h
    have h := h'; clear h'
    refine st_call (c_spec_DrawDistance hRcode_0 hx3) rfl ?_
    have hKs := hK.size
    rintro _ σ4 m5 ⟨a6, c7, a9, c10, rfl, hO8, hO11, hd12⟩
    replace hRcode_0 := hRcode_0.mod m5
    replace hK := hK.none m5
    have hO8g := hO8.ge
    replace hO8 := hO8.lo hKs
    replace hO8 := hO8.low' hKs
    have hO11g := hO11.ge
    replace hO11 := hO11.lo hKs
    replace hO11 := hO11.low' hKs
    clear hKs m5 hO8g hO11g
    refine st (v := (.tuple #[(I r2.1), (Sl a6 r2.2.1 c7), (Sl a9 r2.2.2 c10)])) (rv_move rfl) ?_
    refine st (v := (I r2.1)) (rv_extract rfl rfl) ?_
    refine st (v := (Sl a6 r2.2.1 c7)) (rv_extract rfl rfl) ?_
    refine st (v := (Sl a9 r2.2.2 c10)) (rv_extract rfl rfl) ?_
    refine st (v := (I r2.1)) (rv_assign rfl) ?_
    refine st (v := (Sl a6 r2.2.1 c7)) (rv_assign rfl) ?_
    refine st (v := (Sl a9 r2.2.2 c10)) (rv_assign rfl) ?_
    refine w_end ?_
    refine q_then ?_
    refine c_seq ?_
    refine rg ?_
    refine st (v := (I r2.1)) (rv_move rfl) ?_
    refine st (v := (Sl a6 r2.2.1 c7)) (rv_move rfl) ?_
    refine st (v := (Sl a9 r2.2.2 c10)) (rv_move rfl) ?_
    obtain ⟨σ13, hw14, m15, hR16⟩ := hO8.pub' (Nat.le_refl _)
    obtain ⟨σ17, hw18, m19, hR20⟩ := (hO11.mod' m15 (by first | exact hd12 | exact Df.re hd12)).pub' (Nat.le_refl _)
    rw [← (hw18.trans hw14)]
    obtain ⟨r21, hx22, h'⟩ := bind_some h
    clear h
    have h := h'; clear h'
    refine st_call (c_impl_Distance ((hR16.low (Nat.zero_le _)).mod m19) (hR20.low (Nat.zero_le _)) hx22) rfl ?_
    have hd25 := ltb_size hO8.ltb (hw18.trans hw14)
    have hd26 := ltb_size hO11.ltb (hw18.trans hw14)
    have hKs := size_le hK.size (hw18.trans hw14)
    rintro _ σ23 m24 rfl
    obtain ⟨σ27, hw28, m29, hxl30, hvl31⟩ := lent (hw18.trans hw14) m24
    rw [← hw28]
    replace hO8 := hO8.mod0 m29
    replace hO11 := hO11.mod0 m29
    replace hK := hK.none m29
    clear hKs m29
    refine st (v := (I r21)) (rv_assign rfl) ?_
    refine w_end ?_
    refine q_then ?_
    refine c_seq ?_
    refine c_seq ?_
    obtain ⟨o32, hj, h'⟩ := bind_some h
    clear h
    refine c_cut (fun e a w => e = .normal ∧ ∃ (ρ : Nat → Value) (σ : St), a = fr 54 (updL ρ [(3, (I r2.1)), (4, (Sl a6 r2.2.1 c7)), (5, (Sl a9 r2.2.2 c10)), (6, (I r21)), (29, (B o32))]) ∧ w = σ.w ∧ Mod none σ0 σ ∧ Ow σ σ0.size σ0.size (Sl a6 r2.2.1 c7) r2.2.1 ∧ Ow σ σ0.size σ0.size (Sl a9 r2.2.2 c10) r2.2.2 ∧ Df (blk (Sl a9 r2.2.2 c10)) (blk (Sl a6 r2.2.1 c7))) ?_ ?_
    · clear h'
      rename _ = some o32 => h
      refine rg ?_
      refine st (v := (I r21)) (rv_move rfl) ?_
      refine st (v := (I r2.1)) (rv_move rfl) ?_
      refine st (v := (Sl a6 r2.2.1 c7)) (rv_move rfl) ?_
      refine st (v := (Sl a9 r2.2.2 c10)) (rv_move rfl) ?_
      obtain ⟨σ33, hw34, m35, hR36⟩ := hO8.pub' (Nat.le_refl _)
      obtain ⟨σ37, hw38, m39, hR40⟩ := (hO11.mod' m35 (by first | exact hd12 | exact Df.re hd12)).pub' (Nat.le_refl _)
      rw [← (hw38.trans hw34)]
      obtain ⟨r41, hx42, h'⟩ := bind_some h
      clear h
      have h := h'; clear h'
      refine st_call (c_spec_Distance ((hR36.low (Nat.zero_le _)).mod m39) (hR40.low (Nat.zero_le _)) hx42) rfl ?_
      have hd45 := ltb_size hO8.ltb (hw38.trans hw34)
      have hd46 := ltb_size hO11.ltb (hw38.trans hw34)
      have hKs := size_le hK.size (hw38.trans hw34)
      rintro _ σ43 m44 rfl
      obtain ⟨σ47, hw48, m49, hxl50, hvl51⟩ := lent (hw38.trans hw34) m44
      rw [← hw48]
      replace hO8 := hO8.mod0 m49
      replace hO11 := hO11.mod0 m49
      replace hK := hK.none m49
      clear hKs m49
      refine st (v := (B (r21 != r41))) (rv_neq (a := r21) (b := r41) rfl rfl) ?_
      refine st (v := (B (r21 != r41))) (rv_move rfl) ?_
      rcases Bool.eq_false_or_eq_true (r21 != r41) with hb52 | hb52
      · replace h := bif_t hb52 h
        refine st_skip (congrArg some hb52) ?_
        refine st_skip (congrArg some hb52) ?_
        refine st (v := (B true)) (rv_pick_t (congrArg B hb52) rfl) ?_
        refine w_end ?_
        obtain rfl := Option.some.inj h
        exact ⟨rfl, _, σ47, fr_join ⟨rfl, rfl, rfl, rfl, rfl, trivial⟩, rfl, hK, hO8, hO11, (by first | exact hd12 | exact Df.re hd12)⟩
      · replace h := bif_f hb52 h
        refine st_g (v := (I r21)) (congrArg some hb52) (rv_move rfl) ?_
        refine st_g (v := (B (decide (r21 < 0)))) (congrArg some hb52) (rv_lss (a := r21) (b := 0) rfl rfl) ?_
        refine st (v := (B (decide (r21 < 0)))) (rv_pick_f (congrArg B hb52) rfl) ?_
        refine w_end ?_
        obtain rfl := Option.some.inj h
        exact ⟨rfl, _, σ47, fr_join ⟨rfl, rfl, rfl, rfl, rfl, trivial⟩, rfl, hK, hO8, hO11, (by first | exact hd12 | exact Df.re hd12)⟩
    · clear hj
      have h := h'
      clear h'
      rintro e a w ⟨rfl, ρ, σ53, rfl, rfl, hK, hO54, hO55, hd56⟩
      refine q_then ?_
      refine cd_cond o32 rfl (fun hb57 => ?_) (fun hb57 => ?_)
      · replace h := bif_t hb57 h
        refine c_seq ?_
        refine rg ?_
        refine st (v := (I r21)) (rv_move rfl) ?_
        refine st (v := (I r2.1)) (rv_move rfl) ?_
        refine st (v := (Sl a6 r2.2.1 c7)) (rv_move rfl) ?_
        refine st (v := (Sl a9 r2.2.2 c10)) (rv_move rfl) ?_
        have hg62 := hO54.ge
        obtain ⟨σ58, hw61, m59, hR60⟩ := hO54.pub' (Nat.le_refl _)
        rw [← hw61]; clear hw61
        replace hO55 := hO55.mod' m59 (by first | exact hd56 | exact Df.re hd56)
        replace hK := hK.own m59 hg62
        have hg67 := hO55.ge
        obtain ⟨σ63, hw66, m64, hR65⟩ := hO55.pub' (Nat.le_refl _)
        rw [← hw66]; clear hw66
        replace hR60 := hR60.mod m64
        replace hK := hK.own m64 hg67
        obtain ⟨r68, hx69, h'⟩ := bind_some h
        clear h
        have h := h'; clear h'
        refine st_call (c_spec_Distance (hR60.low (Nat.zero_le _)) (hR65.low (Nat.zero_le _)) hx69) rfl ?_
        have hKs := hK.size
        rintro _ σ70 m71 rfl
        replace hR60 := hR60.mod m71
        replace hR65 := hR65.mod m71
        replace hK := hK.none m71
        clear hKs m71
        refine st (v := (B (r21 == r68))) (rv_eql (a := r21) (b := r68) rfl rfl) ?_
        refine st (v := (B (r21 == r68))) (rv_assign rfl) ?_
        refine w_end ?_
        refine q_then ?_
        refine c_ret ?_
        refine q_then_r ?_
        obtain rfl := Option.some.inj h
        exact bodyPost_ret (v := (B (r21 == r68))) (results_fr1 Try.results4 rfl _) rfl ⟨_, σ70, rfl, rfl, hK, rfl⟩
      · replace h := bif_f hb57 h
        refine c_skip ?_
        refine q_then ?_
        refine c_seq ?_
        refine rg ?_
        refine st (v := (I r2.1)) (rv_move rfl) ?_
        refine st (v := (Sl a9 r2.2.2 c10)) (rv_move rfl) ?_
        refine st (v := (Sl a6 r2.2.1 c7)) (rv_move rfl) ?_
        obtain ⟨σ72, hw73, m74, hR75⟩ := hO55.pub' (Nat.le_refl _)
        obtain ⟨σ76, hw77, m78, hR79⟩ := (hO54.mod' m74 (by first | exact (hd56).symm | exact Df.re (hd56).symm)).pub' (Nat.le_refl _)
        rw [← (hw77.trans hw73)]
        obtain ⟨r80, hx81, h'⟩ := bind_some h
        clear h
        have h := h'; clear h'
        refine st_call (c_impl_Distance ((hR75.low (Nat.zero_le _)).mod m78) (hR79.low (Nat.zero_le _)) hx81) rfl ?_
        have hd84 := ltb_size hO54.ltb (hw77.trans hw73)
        have hd85 := ltb_size hO55.ltb (hw77.trans hw73)
        have hKs := size_le hK.size (hw77.trans hw73)
        rintro _ σ82 m83 rfl
        obtain ⟨σ86, hw87, m88, hxl89, hvl90⟩ := lent (hw77.trans hw73) m83
        rw [← hw87]
        replace hO54 := hO54.mod0 m88
        replace hO55 := hO55.mod0 m88
        replace hK := hK.none m88
        clear hKs m88
        refine st (v := (I r21)) (rv_move rfl) ?_
        refine st (v := (B (r80 == r21))) (rv_eql (a := r80) (b := r21) rfl rfl) ?_
        refine st (v := (B (r80 == r21))) (rv_move rfl) ?_
        rcases Bool.eq_false_or_eq_true (r80 == r21) with hb91 | hb91
        · replace h := bif_t hb91 h
          refine st_g (v := (I r21)) (congrArg some hb91) (rv_move rfl) ?_
          refine st_g (v := (B (r21 == 0))) (congrArg some hb91) (rv_eql (a := r21) (b := 0) rfl rfl) ?_
          refine st_g (v := (Sl a6 r2.2.1 c7)) (congrArg some hb91) (rv_move rfl) ?_
          refine st_g (v := (Sl a9 r2.2.2 c10)) (congrArg some hb91) (rv_move rfl) ?_
          have hg96 := hO54.ge
          obtain ⟨σ92, hw95, m93, hR94⟩ := hO54.pub' (Nat.le_refl _)
          rw [← hw95]; clear hw95
          replace hO55 := hO55.mod' m93 (by first | exact hd56 | exact Df.re hd56)
          replace hK := hK.own m93 hg96
          have hg101 := hO55.ge
          obtain ⟨σ97, hw100, m98, hR99⟩ := hO55.pub' (Nat.le_refl _)
          rw [← hw100]; clear hw100
          replace hR94 := hR94.mod m98
          replace hK := hK.own m98 hg101
          obtain ⟨r102, hx103, h'⟩ := bind_some h
          clear h
          have h := h'; clear h'
          refine st_call_g (by exact (congrArg some hb91)) (c_laws_equalInts (hR94.low (Nat.zero_le _)) (hR99.low (Nat.zero_le _)) hx103) rfl ?_
          have hKs := hK.size
          rintro _ σ104 m105 rfl
          replace hR94 := hR94.mod m105
          replace hR99 := hR99.mod m105
          replace hK := hK.none m105
          clear hKs m105
          refine st_g (v := (B ((r21 == 0) == r102))) (congrArg some hb91) (rv_beql Try.underlying4 rfl rfl) ?_
          refine st (v := (B ((r21 == 0) == r102))) (rv_pick_t (congrArg B hb91) rfl) ?_
          refine st (v := (B ((r21 == 0) == r102))) (rv_move rfl) ?_
          rcases Bool.eq_false_or_eq_true ((r21 == 0) == r102) with hb106 | hb106
          · replace h := bif_t hb106 h
            refine st_g (v := (I r21)) (congrArg some hb106) (rv_move rfl) ?_
            refine st_g (v := (B (decide (r21 < 1000000)))) (congrArg some hb106) (rv_lss (a := r21) (b := 1000000) rfl rfl) ?_
            refine st (v := (B (decide (r21 < 1000000)))) (rv_pick_t (congrArg B hb106) rfl) ?_
            refine st (v := (B (decide (r21 < 1000000)))) (rv_assign rfl) ?_
            refine w_end ?_
            refine q_then ?_
            refine c_ret ?_
            obtain rfl := Option.some.inj h
            exact bodyPost_ret (v := (B (decide (r21 < 1000000)))) (results_fr1 Try.results4 rfl _) rfl ⟨_, σ104, rfl, rfl, hK, rfl⟩
          · replace h := bif_f hb106 h
            refine st_skip (congrArg some hb106) ?_
            refine st_skip (congrArg some hb106) ?_
            refine st (v := (B false)) (rv_pick_f (congrArg B hb106) rfl) ?_
            refine st (v := (B false)) (rv_assign rfl) ?_
            refine w_end ?_
            refine q_then ?_
            refine c_ret ?_
            obtain rfl := Option.some.inj h
            exact bodyPost_ret (v := (B false)) (results_fr1 Try.results4 rfl _) rfl ⟨_, σ104, rfl, rfl, hK, rfl⟩
        · replace h := bif_f hb91 h
          refine st_skip (congrArg some hb91) ?_
          refine st_skip (congrArg some hb91) ?_
          refine st_skip (congrArg some hb91) ?_
          refine st_skip (congrArg some hb91) ?_
          refine st_skip (congrArg some hb91) ?_
          refine st_skip (congrArg some hb91) ?_
          refine st (v := (B false)) (rv_pick_f (congrArg B hb91) rfl) ?_
          refine st (v := (B false)) (rv_move rfl) ?_
          refine st_skip rfl ?_
          refine st_skip rfl ?_
          refine st (v := (B false)) (rv_pick_f rfl rfl) ?_
          refine st (v := (B false)) (rv_assign rfl) ?_
          refine w_end ?_
          refine q_then ?_
          refine c_ret ?_
          obtain rfl := Option.some.inj h
          exact bodyPost_ret (v := (B false)) (results_fr1 Try.results4 rfl _) rfl ⟨_, σ86, rfl, rfl, hK, rfl⟩

theorem c_laws_FnDistanceKinds {σ0 : St} {code_0 : List UInt8} {acode_0 : Option Addr} {ccode_0 : Nat} (hRcode_0 : RS 0 σ0 (Sl acode_0 code_0 ccode_0) code_0) {r : Bool} (h : M.laws_FnDistanceKinds code_0 = some r) :
    Cal Try.prog 5 [(Sl acode_0 code_0 ccode_0)] none σ0 (fun v σ' => v = (B r)) := by
  refine ⟨⟨_, _, Try.func5, rfl, rfl⟩, ?_⟩
  refine enter (n := 73) Try.func5 rfl rfl rfl ?_
  unfold M.laws_FnDistanceKinds at h
  have hK : Mod none σ0 σ0 := Mod.refl _ _
  refine c_seq ?_
  refine rg ?_
  refine st (v := (B false)) (rv_assign rfl) ?_
  refine w_end ?_
  refine q_then ?_
  refine c_seq ?_
  refine c_seq ?_
  refine rg ?_
  refine st (v := (Sl acode_0 code_0 ccode_0)) (rv_move rfl) ?_
  refine st (v := (I (code_0.length : Int))) (rv_len Try.underlying22 rfl) ?_
  refine st (v := (B (decide (1048576 < (code_0.length : Int))))) (rv_gtr (a := (code_0.length : Int)) (b := 1048576) rfl rfl) ?_
  refine w_end ?_
  refine q_then ?_
  refine cd_cond (decide (1048576 < (code_0.length : Int))) rfl (fun hb1 => ?_) (fun hb1 => ?_)
  · replace h := bif_t hb1 h
    refine c_seq ?_
    refine rg ?_
    refine st (v := (B true)) (rv_assign rfl) ?_
    refine w_end ?_
    refine q_then ?_
    refine c_ret ?_
    refine q_then_r ?_
    obtain rfl := Option.some.inj h
    exact bodyPost_ret (v := (B true)) (results_fr1 Try.results5 rfl _) rfl ⟨_, σ0, rfl, rfl, hK, rfl⟩
  · replace h := bif_f hb1 h
    refine c_skip ?_
    refine q_then ?_
    refine c_seq ?_
    refine rg ?_
    refine st (v := (Sl acode_0 code_0 ccode_0)) (rv_move rfl) ?_
    obtain ⟨r2, hx3, h'⟩ := bind_some h
    clear h
    have h := h'; clear h'
    refine st_call (c_spec_DrawDistance hRcode_0 hx3) rfl ?_
    have hKs := hK.size
    rintro _ σ4 m5 ⟨a6, c7, a9, c10, rfl, hO8, hO11, hd12⟩
    replace hRcode_0 := hRcode_0.mod m5
    replace hK := hK.none m5
    have hO8g := hO8.ge
    replace hO8 := hO8.lo hKs
    replace hO8 := hO8.low' hKs
    have hO11g := hO11.ge
    replace hO11 := hO11.lo hKs
    replace hO11 := hO11.low' hKs
    clear hKs m5 hO8g hO11g
    refine st (v := (.tuple #[(I r2.1), (Sl a6 r2.2.1 c7), (Sl a9 r2.2.2 c10)])) (rv_move rfl) ?_
    refine st (v := (I r2.1)) (rv_extract rfl rfl) ?_
    refine st (v := (Sl a6 r2.2.1 c7)) (rv_extract rfl rfl) ?_
    refine st (v := (Sl a9 r2.2.2 c10)) (rv_extract rfl rfl) ?_
    refine st (v := (I r2.1)) (rv_assign rfl) ?_
    refine st (v := (Sl a6 r2.2.1 c7)) (rv_assign rfl) ?_
    refine st (v := (Sl a9 r2.2.2 c10)) (rv_assign rfl) ?_
    refine w_end ?_
    refine q_then ?_
    refine c_seq ?_
    refine rg ?_
    refine st (v := (I r2.1)) (rv_move rfl) ?_
    refine st (v := (Sl a6 r2.2.1 c7)) (rv_move rfl) ?_
    refine st (v := (Sl a9 r2.2.2 c10)) (rv_move rfl) ?_
    obtain ⟨σ13, hw14, m15, hR16⟩ := hO8.pub' (Nat.le_refl _)
    obtain ⟨σ17, hw18, m19, hR20⟩ := (hO11.mod' m15 (by first | exact hd12 | exact Df.re hd12)).pub' (Nat.le_refl _)
    rw [← (hw18.trans hw14)]
    obtain ⟨r21, hx22, h'⟩ := bind_some h
    clear h
    have h := h'; clear h'
    refine st_call (c_impl_Distance ((hR16.low (Nat.zero_le _)).mod m19) (hR20.low (Nat.zero_le _)) hx22) rfl ?_
    have hd25 := ltb_size hO8.ltb (hw18.trans hw14)
    have hd26 := ltb_size hO11.ltb (hw18.trans hw14)
    have hKs := size_le hK.size (hw18.trans hw14)
    rintro _ σ23 m24 rfl
    obtain ⟨σ27, hw28, m29, hxl30, hvl31⟩ := lent (hw18.trans hw14) m24
    rw [← hw28]
    replace hO8 := hO8.mod0 m29
    replace hO11 := hO11.mod0 m29
    replace hK := hK.none m29
    clear hKs m29
    refine st (v := (I r21)) (rv_assign rfl) ?_
    refine w_end ?_
    refine q_then ?_
    refine c_seq ?_
    refine c_seq ?_
    obtain ⟨o32, hj, h'⟩ := bind_some h
    clear h
    refine c_cut (fun e a w => e = .normal ∧ ∃ (ρ : Nat → Value) (σ : St), a = fr 73 (updL ρ [(3, (I r2.1)), (4, (Sl a6 r2.2.1 c7)), (5, (Sl a9 r2.2.2 c10)), (6, (I r21)), (32, (B o32))]) ∧ w = σ.w ∧ Mod none σ0 σ ∧ Ow σ σ0.size σ0.size (Sl a6 r2.2.1 c7) r2.2.1 ∧ Ow σ σ0.size σ0.size (Sl a9 r2.2.2 c10) r2.2.2 ∧ Df (blk (Sl a9 r2.2.2 c10)) (blk (Sl a6 r2.2.1 c7))) ?_ ?_
    · clear h'
      rename _ = some o32 => h
      refine rg ?_
      refine st (v := (I r21)) (rv_move rfl) ?_
      refine st (v := (I r2.1)) (rv_move rfl) ?_
      refine st (v := (Sl a6 r2.2.1 c7)) (rv_move rfl) ?_
      refine st (v := (Sl a9 r2.2.2 c10)) (rv_move rfl) ?_
      obtain ⟨σ33, hw34, m35, hR36⟩ := hO8.pub' (Nat.le_refl _)
      obtain ⟨σ37, hw38, m39, hR40⟩ := (hO11.mod' m35 (by first | exact hd12 | exact Df.re hd12)).pub' (Nat.le_refl _)
      rw [← (hw38.trans hw34)]
      obtain ⟨r41, hx42, h'⟩ := bind_some h
      clear h
      have h := h'; clear h'
      refine st_call (c_spec_Distance ((hR36.low (Nat.zero_le _)).mod m39) (hR40.low (Nat.zero_le _)) hx42) rfl ?_
      have hd45 := ltb_size hO8.ltb (hw38.trans hw34)
      have hd46 := ltb_size hO11.ltb (hw38.trans hw34)
      have hKs := size_le hK.size (hw38.trans hw34)
      rintro _ σ43 m44 rfl
      obtain ⟨σ47, hw48, m49, hxl50, hvl51⟩ := lent (hw38.trans hw34) m44
      rw [← hw48]
      replace hO8 := hO8.mod0 m49
      replace hO11 := hO11.mod0 m49
      replace hK := hK.none m49
      clear hKs m49
      refine st (v := (B (r21 != r41))) (rv_neq (a := r21) (b := r41) rfl rfl) ?_
      refine st (v := (B (r21 != r41))) (rv_move rfl) ?_
      rcases Bool.eq_false_or_eq_true (r21 != r41) with hb52 | hb52
      · replace h := bif_t hb52 h
        refine st_skip (congrArg some hb52) ?_
        refine st_skip (congrArg some hb52) ?_
        refine st (v := (B true)) (rv_pick_t (congrArg B hb52) rfl) ?_
        refine w_end ?_
        obtain rfl := Option.some.inj h
        exact ⟨rfl, _, σ47, fr_join ⟨rfl, rfl, rfl, rfl, rfl, trivial⟩, rfl, hK, hO8, hO11, (by first | exact hd12 | exact Df.re hd12)⟩
      · replace h := bif_f hb52 h
        refine st_g (v := (I r21)) (congrArg some hb52) (rv_move rfl) ?_
        refine st_g (v := (B (decide (r21 < 0)))) (congrArg some hb52) (rv_lss (a := r21) (b := 0) rfl rfl) ?_
        refine st (v := (B (decide (r21 < 0)))) (rv_pick_f (congrArg B hb52) rfl) ?_
        refine w_end ?_
        obtain rfl := Option.some.inj h
        exact ⟨rfl, _, σ47, fr_join ⟨rfl, rfl, rfl, rfl, rfl, trivial⟩, rfl, hK, hO8, hO11, (by first | exact hd12 | exact Df.re hd12)⟩
    · clear hj
      have h := h'
      clear h'
      rintro e a w ⟨rfl, ρ, σ53, rfl, rfl, hK, hO54, hO55, hd56⟩
      refine q_then ?_
      refine cd_cond o32 rfl (fun hb57 => ?_) (fun hb57 => ?_)
      · replace h := bif_t hb57 h
        refine c_seq ?_
        refine rg ?_
        refine st (v := (I r21)) (rv_move rfl) ?_
        refine st (v := (I r2.1)) (rv_move rfl) ?_
        refine st (v := (Sl a6 r2.2.1 c7)) (rv_move rfl) ?_
        refine st (v := (Sl a9 r2.2.2 c10)) (rv_move rfl) ?_
        have hg62 := hO54.ge
        obtain ⟨σ58, hw61, m59, hR60⟩ := hO54.pub' (Nat.le_refl _)
        rw [← hw61]; clear hw61
        replace hO55 := hO55.mod' m59 (by first | exact hd56 | exact Df.re hd56)
        replace hK := hK.own m59 hg62
        have hg67 := hO55.ge
        obtain ⟨σ63, hw66, m64, hR65⟩ := hO55.pub' (Nat.le_refl _)
        rw [← hw66]; clear hw66
        replace hR60 := hR60.mod m64
        replace hK := hK.own m64 hg67
        obtain ⟨r68, hx69, h'⟩ := bind_some h
        clear h
        have h := h'; clear h'
        refine st_call (c_spec_Distance (hR60.low (Nat.zero_le _)) (hR65.low (Nat.zero_le _)) hx69) rfl ?_
        have hKs := hK.size
        rintro _ σ70 m71 rfl
        replace hR60 := hR60.mod m71
        replace hR65 := hR65.mod m71
        replace hK := hK.none m71
        clear hKs m71
        refine st (v := (B (r21 == r68))) (rv_eql (a := r21) (b := r68) rfl rfl) ?_
        refine st (v := (B (r21 == r68))) (rv_assign rfl) ?_
        refine w_end ?_
        refine q_then ?_
        refine c_ret ?_
        refine q_then_r ?_
        obtain rfl := Option.some.inj h
        exact bodyPost_ret (v := (B (r21 == r68))) (results_fr1 Try.results5 rfl _) rfl ⟨_, σ70, rfl, rfl, hK, rfl⟩
      · replace h := bif_f hb57 h
        refine c_skip ?_
        refine q_then ?_
        refine c_seq ?_
        refine rg ?_
        refine st (v := (Sl a6 r2.2.1 c7)) (rv_move rfl) ?_
        refine st (v := (Sl a9 r2.2.2 c10)) (rv_move rfl) ?_
        obtain ⟨σ72, hw73, m74, hR75⟩ := hO54.pub' (Nat.le_refl _)
        obtain ⟨σ76, hw77, m78, hR79⟩ := (hO55.mod' m74 (by first | exact hd56 | exact Df.re hd56)).pub' (Nat.le_refl _)
        rw [← (hw77.trans hw73)]
        obtain ⟨r80, hx81, h'⟩ := bind_some h
        clear h
        have h := h'; clear h'
        refine st_call (c_impl_Distance ((hR75.low (Nat.zero_le _)).mod m78) (hR79.low (Nat.zero_le _)) hx81) rfl ?_
        have hd84 := ltb_size hO54.ltb (hw77.trans hw73)
        have hd85 := ltb_size hO55.ltb (hw77.trans hw73)
        have hKs := size_le hK.size (hw77.trans hw73)
        rintro _ σ82 m83 rfl
        obtain ⟨σ86, hw87, m88, hxl89, hvl90⟩ := lent (hw77.trans hw73) m83
        rw [← hw87]
        replace hO54 := hO54.mod0 m88
        replace hO55 := hO55.mod0 m88
        replace hK := hK.none m88
        clear hKs m88
        refine st (v := (I r80)) (rv_assign rfl) ?_
        refine w_end ?_
        refine q_then ?_
        refine c_seq ?_
        refine rg ?_
        refine st (v := (Sl a6 r2.2.1 c7)) (rv_move rfl) ?_
        refine st (v := (Sl a9 r2.2.2 c10)) (rv_move rfl) ?_
        obtain ⟨σ91, hw92, m93, hR94⟩ := hO54.pub' (Nat.le_refl _)
        obtain ⟨σ95, hw96, m97, hR98⟩ := (hO55.mod' m93 (by first | exact hd56 | exact Df.re hd56)).pub' (Nat.le_refl _)
        rw [← (hw96.trans hw92)]
        obtain ⟨r99, hx100, h'⟩ := bind_some h
        clear h
        have h := h'; clear h'
        refine st_call (c_impl_Distance ((hR94.low (Nat.zero_le _)).mod m97) (hR98.low (Nat.zero_le _)) hx100) rfl ?_
        have hd103 := ltb_size hO54.ltb (hw96.trans hw92)
        have hd104 := ltb_size hO55.ltb (hw96.trans hw92)
        have hKs := size_le hK.size (hw96.trans hw92)
        rintro _ σ101 m102 rfl
        obtain ⟨σ105, hw106, m107, hxl108, hvl109⟩ := lent (hw96.trans hw92) m102
        rw [← hw106]
        replace hO54 := hO54.mod0 m107
        replace hO55 := hO55.mod0 m107
        replace hK := hK.none m107
        clear hKs m107
        refine st (v := (I r99)) (rv_assign rfl) ?_
        refine w_end ?_
        refine q_then ?_
        refine c_seq ?_
        refine rg ?_
        refine st (v := (Sl a6 r2.2.1 c7)) (rv_move rfl) ?_
        refine st (v := (Sl a9 r2.2.2 c10)) (rv_move rfl) ?_
        obtain ⟨σ110, hw111, m112, hR113⟩ := hO54.pub' (Nat.le_refl _)
        obtain ⟨σ114, hw115, m116, hR117⟩ := (hO55.mod' m112 (by first | exact hd56 | exact Df.re hd56)).pub' (Nat.le_refl _)
        rw [← (hw115.trans hw111)]
        obtain ⟨r118, hx119, h'⟩ := bind_some h
        clear h
        have h := h'; clear h'
        refine st_call (c_impl_Distance ((hR113.low (Nat.zero_le _)).mod m116) (hR117.low (Nat.zero_le _)) hx119) rfl ?_
        have hd122 := ltb_size hO54.ltb (hw115.trans hw111)
        have hd123 := ltb_size hO55.ltb (hw115.trans hw111)
        have hKs := size_le hK.size (hw115.trans hw111)
        rintro _ σ120 m121 rfl
        obtain ⟨σ124, hw125, m126, hxl127, hvl128⟩ := lent (hw115.trans hw111) m121
        rw [← hw125]
        replace hO54 := hO54.mod0 m126
        replace hO55 := hO55.mod0 m126
        replace hK := hK.none m126
        clear hKs m126
        refine st (v := (I r118)) (rv_assign rfl) ?_
        refine w_end ?_
        refine q_then ?_
        refine c_seq ?_
        refine rg ?_
        refine st (v := (I r99)) (rv_move rfl) ?_
        refine st (v := (I r80)) (rv_move rfl) ?_
        refine st (v := (B (decide (r99 ≤ r80)))) (rv_leq (a := r99) (b := r80) rfl rfl) ?_
        refine st (v := (B (decide (r99 ≤ r80)))) (rv_move rfl) ?_
        rcases Bool.eq_false_or_eq_true (decide (r99 ≤ r80)) with hb129 | hb129
        · replace h := bif_t hb129 h
          refine st_g (v := (I r118)) (congrArg some hb129) (rv_move rfl) ?_
          refine st_g (v := (I r80)) (congrArg some hb129) (rv_move rfl) ?_
          refine st_g (v := (B (decide (r118 ≤ r80)))) (congrArg some hb129) (rv_leq (a := r118) (b := r80) rfl rfl) ?_
          refine st (v := (B (decide (r118 ≤ r80)))) (rv_pick_t (congrArg B hb129) rfl) ?_
          refine st (v := (B (decide (r118 ≤ r80)))) (rv_move rfl) ?_
          rcases Bool.eq_false_or_eq_true (decide (r118 ≤ r80)) with hb130 | hb130
          · replace h := bif_t hb130 h
            refine st_g (v := (I r80)) (congrArg some hb130) (rv_move rfl) ?_
            refine st_g (v := (Sl a6 r2.2.1 c7)) (congrArg some hb130) (rv_move rfl) ?_
            refine st_g (v := (Sl a9 r2.2.2 c10)) (congrArg some hb130) (rv_move rfl) ?_
            have hg135 := hO54.ge
            obtain ⟨σ131, hw134, m132, hR133⟩ := hO54.pub' (Nat.le_refl _)
            rw [← hw134]; clear hw134
            replace hO55 := hO55.mod' m132 (by first | exact hd56 | exact Df.re hd56)
            replace hK := hK.own m132 hg135
            have hg140 := hO55.ge
            obtain ⟨σ136, hw139, m137, hR138⟩ := hO55.pub' (Nat.le_refl _)
            rw [← hw139]; clear hw139
            replace hR133 := hR133.mod m137
            replace hK := hK.own m137 hg140
            obtain ⟨r141, hx142, h'⟩ := bind_some h
            clear h
            have h := h'; clear h'
            refine st_call_g (by exact (congrArg some hb130)) (c_impl_Distance (hR133.low (Nat.zero_le _)) (hR138.low (Nat.zero_le _)) hx142) rfl ?_
            have hKs := hK.size
            rintro _ σ143 m144 rfl
            replace hR133 := hR133.mod m144
            replace hR138 := hR138.mod m144
            replace hK := hK.none m144
            clear hKs m144
            refine st_g (v := (B (decide (r80 ≤ r141)))) (congrArg some hb130) (rv_leq (a := r80) (b := r141) rfl rfl) ?_
            refine st (v := (B (decide (r80 ≤ r141)))) (rv_pick_t (congrArg B hb130) rfl) ?_
            refine st (v := (B (decide (r80 ≤ r141)))) (rv_move rfl) ?_
            rcases Bool.eq_false_or_eq_true (decide (r80 ≤ r141)) with hb145 | hb145
            · replace h := bif_t hb145 h
              refine st_g (v := (I r80)) (congrArg some hb145) (rv_move rfl) ?_
              refine st_g (v := (I r99)) (congrArg some hb145) (rv_move rfl) ?_
              refine st_g (v := (I (w64 (4 * r99)))) (congrArg some hb145) (rv_mul (a := 4) (b := r99) rfl rfl) ?_
              refine st_g (v := (B (decide (r80 ≤ (w64 (4 * r99)))))) (congrArg some hb145) (rv_leq (a := r80) (b := (w64 (4 * r99))) rfl rfl) ?_
              refine st (v := (B (decide (r80 ≤ (w64 (4 * r99)))))) (rv_pick_t (congrArg B hb145) rfl) ?_
              refine st (v := (B (decide (r80 ≤ (w64 (4 * r99)))))) (rv_move rfl) ?_
              rcases Bool.eq_false_or_eq_true (decide (r80 ≤ (w64 (4 * r99)))) with hb146 | hb146
              · replace h := bif_t hb146 h
                refine st_g (v := (I r118)) (congrArg some hb146) (rv_move rfl) ?_
                refine st_g (v := (B (decide (r118 ≤ 4)))) (congrArg some hb146) (rv_leq (a := r118) (b := 4) rfl rfl) ?_
                refine st (v := (B (decide (r118 ≤ 4)))) (rv_pick_t (congrArg B hb146) rfl) ?_
                refine st (v := (B (decide (r118 ≤ 4)))) (rv_assign rfl) ?_
                refine w_end ?_
                refine q_then ?_
                refine c_ret ?_
                obtain rfl := Option.some.inj h
                exact bodyPost_ret (v := (B (decide (r118 ≤ 4)))) (results_fr1 Try.results5 rfl _) rfl ⟨_, σ143, rfl, rfl, hK, rfl⟩
              · replace h := bif_f hb146 h
                refine st_skip (congrArg some hb146) ?_
                refine st_skip (congrArg some hb146) ?_
                refine st (v := (B false)) (rv_pick_f (congrArg B hb146) rfl) ?_
                refine st (v := (B false)) (rv_assign rfl) ?_
                refine w_end ?_
                refine q_then ?_
                refine c_ret ?_
                obtain rfl := Option.some.inj h
                exact bodyPost_ret (v := (B false)) (results_fr1 Try.results5 rfl _) rfl ⟨_, σ143, rfl, rfl, hK, rfl⟩
            · replace h := bif_f hb145 h
              refine st_skip (congrArg some hb145) ?_
              refine st_skip (congrArg some hb145) ?_
              refine st_skip (congrArg some hb145) ?_
              refine st_skip (congrArg some hb145) ?_
              refine st (v := (B false)) (rv_pick_f (congrArg B hb145) rfl) ?_
              refine st (v := (B false)) (rv_move rfl) ?_
              refine st_skip rfl ?_
              refine st_skip rfl ?_
              refine st (v := (B false)) (rv_pick_f rfl rfl) ?_
              refine st (v := (B false)) (rv_assign rfl) ?_
              refine w_end ?_
              refine q_then ?_
              refine c_ret ?_
              obtain rfl := Option.some.inj h
              exact bodyPost_ret (v := (B false)) (results_fr1 Try.results5 rfl _) rfl ⟨_, σ143, rfl, rfl, hK, rfl⟩
          · replace h := bif_f hb130 h
            refine st_skip (congrArg some hb130) ?_
            refine st_skip (congrArg some hb130) ?_
            refine st_skip (congrArg some hb130) ?_
            refine st_skip (congrArg some hb130) ?_
            refine st_skip (congrArg some hb130) ?_
            refine st (v := (B false)) (rv_pick_f (congrArg B hb130) rfl) ?_
            refine st (v := (B false)) (rv_move rfl) ?_
            refine st_skip rfl ?_
            refine st_skip rfl ?_
            refine st_skip rfl ?_
            refine st_skip rfl ?_
            refine st (v := (B false)) (rv_pick_f rfl rfl) ?_
            refine st (v := (B false)) (rv_move rfl) ?_
            refine st_skip rfl ?_
            refine st_skip rfl ?_
            refine st (v := (B false)) (rv_pick_f rfl rfl) ?_
            refine st (v := (B false)) (rv_assign rfl) ?_
            refine w_end ?_
            refine q_then ?_
            refine c_ret ?_
            obtain rfl := Option.some.inj h
            exact bodyPost_ret (v := (B false)) (results_fr1 Try.results5 rfl _) rfl ⟨_, σ124, rfl, rfl, hK, rfl⟩
        · replace h := bif_f hb129 h
          refine st_skip (congrArg some hb129) ?_
          refine st_skip (congrArg some hb129) ?_
          refine st_skip (congrArg some hb129) ?_
          refine st (v := (B false)) (rv_pick_f (congrArg B hb129) rfl) ?_
          refine st (v := (B false)) (rv_move rfl) ?_
          refine st_skip rfl ?_
          refine st_skip rfl ?_
          refine st_skip rfl ?_
          refine st_skip rfl ?_
          refine st_skip rfl ?_
          refine st (v := (B false)) (rv_pick_f rfl rfl) ?_
          refine st (v := (B false)) (rv_move rfl) ?_
          refine st_skip rfl ?_
          refine st_skip rfl ?_
          refine st_skip rfl ?_
          refine st_skip rfl ?_
          refine st (v := (B false)) (rv_pick_f rfl rfl) ?_
          refine st (v := (B false)) (rv_move rfl) ?_
          refine st_skip rfl ?_
          refine st_skip rfl ?_
          refine st (v := (B false)) (rv_pick_f rfl rfl) ?_
          refine st (v := (B false)) (rv_assign rfl) ?_
          refine w_end ?_
          refine q_then ?_
          refine c_ret ?_
          obtain rfl := Option.some.inj h
          exact bodyPost_ret (v := (B false)) (results_fr1 Try.results5 rfl _) rfl ⟨_, σ124, rfl, rfl, hK, rfl⟩

theorem c_laws_FnDistanceTriangle {σ0 : St} {code_0 : List UInt8} {acode_0 : Option Addr} {ccode_0 : Nat} (hRcode_0 : RS 0 σ0 (Sl acode_0 code_0 ccode_0) code_0) {r : Bool} (h : M.laws_FnDistanceTriangle code_0 = some r) :
    Cal Try.prog 6 [(Sl acode_0 code_0 ccode_0)] none σ0 (fun v σ' => v = (B r)) := by
  refine ⟨⟨_, _, Try.func6, rfl, rfl⟩, ?_⟩
  refine enter (n := 53) Try.func6 rfl rfl rfl ?_
  unfold M.laws_FnDistanceTriangle at h
  have hK : Mod none σ0 σ0 := Mod.refl _ _
  refine c_seq ?_
  refine rg ?_
  refine st (v := (B false)) (rv_assign rfl) ?_
  refine w_end ?_
  refine q_then ?_
  refine c_seq ?_
  refine c_seq ?_
  refine rg ?_
  refine st (v := (Sl acode_0 code_0 ccode_0)) (rv_move rfl) ?_
  refine st (v := (I (code_0.length : Int))) (rv_len Try.underlying22 rfl) ?_
  refine st (v := (B (decide (1048576 < (code_0.length : Int))))) (rv_gtr (a := (code_0.length : Int)) (b := 1048576) rfl rfl) ?_
  refine w_end ?_
  refine q_then ?_
  refine cd_cond (decide (1048576 < (code_0.length : Int))) rfl (fun hb1 => ?_) (fun hb1 => ?_)
  · replace h := bif_t hb1 h
    refine c_seq ?_
    refine rg ?_
    refine st (v := (B true)) (rv_assign rfl) ?_
    refine w_end ?_
    refine q_then ?_
    refine c_ret ?_
    refine q_then_r ?_
    obtain rfl := Option.some.inj h
    exact bodyPost_ret (v := (B true)) (results_fr1 Try.results6 rfl _) rfl ⟨_, σ0, rfl, rfl, hK, rfl⟩
  · replace h := bif_f hb1 h
    refine c_skip ?_
    refine q_then ?_
    refine c_seq ?_
    refine rg ?_
    refine st (v := (Sl acode_0 code_0 ccode_0)) (rv_move rfl) ?_
    obtain ⟨r2, hx3, h'⟩ := bind_some h
    clear h
    have h := h'; clear h'
    refine st_call (c_spec_DrawDistance hRcode_0 hx3) rfl ?_
    have hKs := hK.size
    rintro _ σ4 m5 ⟨a6, c7, a9, c10, rfl, hO8, hO11, hd12⟩
    replace hRcode_0 := hRcode_0.mod m5
    replace hK := hK.none m5
    have hO8g := hO8.ge
    replace hO8 := hO8.lo hKs
    replace hO8 := hO8.low' hKs
    have hO11g := hO11.ge
    replace hO11 := hO11.lo hKs
    replace hO11 := hO11.low' hKs
    clear hKs m5 hO8g hO11g
    refine st (v := (.tuple #[(I r2.1), (Sl a6 r2.2.1 c7), (Sl a9 r2.2.2 c10)])) (rv_move rfl) ?_
    refine st (v := (I r2.1)) (rv_extract rfl rfl) ?_
    refine st (v := (Sl a6 r2.2.1 c7)) (rv_extract rfl rfl) ?_
    refine st (v := (Sl a9 r2.2.2 c10)) (rv_extract rfl rfl) ?_
    refine st (v := (I r2.1)) (rv_assign rfl) ?_
    refine st (v := (Sl a6 r2.2.1 c7)) (rv_assign rfl) ?_
    refine st (v := (Sl a9 r2.2.2 c10)) (rv_assign rfl) ?_
    refine w_end ?_
    refine q_then ?_
    refine c_seq ?_
    refine rg ?_
    refine st (v := (I r2.1)) (rv_move rfl) ?_
    refine st (v := (Sl a6 r2.2.1 c7)) (rv_move rfl) ?_
    refine st (v := (Sl a9 r2.2.2 c10)) (rv_move rfl) ?_
    obtain ⟨σ13, hw14, m15, hR16⟩ := hO8.pub' (Nat.le_refl _)
    obtain ⟨σ17, hw18, m19, hR20⟩ := (hO11.mod' m15 (by first | exact hd12 | exact Df.re hd12)).pub' (Nat.le_refl _)
    rw [← (hw18.trans hw14)]
    obtain ⟨r21, hx22, h'⟩ := bind_some h
    clear h
    have h := h'; clear h'
    refine st_call (c_impl_Distance ((hR16.low (Nat.zero_le _)).mod m19) (hR20.low (Nat.zero_le _)) hx22) rfl ?_
    have hd25 := ltb_size hO8.ltb (hw18.trans hw14)
    have hd26 := ltb_size hO11.ltb (hw18.trans hw14)
    have hKs := size_le hK.size (hw18.trans hw14)
    rintro _ σ23 m24 rfl
    obtain ⟨σ27, hw28, m29, hxl30, hvl31⟩ := lent (hw18.trans hw14) m24
    rw [← hw28]
    replace hO8 := hO8.mod0 m29
    replace hO11 := hO11.mod0 m29
    replace hK := hK.none m29
    clear hKs m29
    refine st (v := (I r21)) (rv_assign rfl) ?_
    refine w_end ?_
    refine q_then ?_
    refine c_seq ?_
    refine c_seq ?_
    obtain ⟨o32, hj, h'⟩ := bind_some h
    clear h
    refine c_cut (fun e a w => e = .normal ∧ ∃ (ρ : Nat → Value) (σ : St), a = fr 53 (updL ρ [(3, (I r2.1)), (4, (Sl a6 r2.2.1 c7)), (5, (Sl a9 r2.2.2 c10)), (6, (I r21)), (34, (B o32))]) ∧ w = σ.w ∧ Mod none σ0 σ ∧ Ow σ σ0.size σ0.size (Sl a6 r2.2.1 c7) r2.2.1 ∧ Ow σ σ0.size σ0.size (Sl a9 r2.2.2 c10) r2.2.2 ∧ Df (blk (Sl a9 r2.2.2 c10)) (blk (Sl a6 r2.2.1 c7))) ?_ ?_
    · clear h'
      rename _ = some o32 => h
      refine rg ?_
      refine st (v := (I r21)) (rv_move rfl) ?_
      refine st (v := (I r2.1)) (rv_move rfl) ?_
      refine st (v := (Sl a6 r2.2.1 c7)) (rv_move rfl) ?_
      refine st (v := (Sl a9 r2.2.2 c10)) (rv_move rfl) ?_
      obtain ⟨σ33, hw34, m35, hR36⟩ := hO8.pub' (Nat.le_refl _)
      obtain ⟨σ37, hw38, m39, hR40⟩ := (hO11.mod' m35 (by first | exact hd12 | exact Df.re hd12)).pub' (Nat.le_refl _)
      rw [← (hw38.trans hw34)]
      obtain ⟨r41, hx42, h'⟩ := bind_some h
      clear h
      have h := h'; clear h'
      refine st_call (c_spec_Distance ((hR36.low (Nat.zero_le _)).mod m39) (hR40.low (Nat.zero_le _)) hx42) rfl ?_
      have hd45 := ltb_size hO8.ltb (hw38.trans hw34)
      have hd46 := ltb_size hO11.ltb (hw38.trans hw34)
      have hKs := size_le hK.size (hw38.trans hw34)
      rintro _ σ43 m44 rfl
      obtain ⟨σ47, hw48, m49, hxl50, hvl51⟩ := lent (hw38.trans hw34) m44
      rw [← hw48]
      replace hO8 := hO8.mod0 m49
      replace hO11 := hO11.mod0 m49
      replace hK := hK.none m49
      clear hKs m49
      refine st (v := (B (r21 != r41))) (rv_neq (a := r21) (b := r41) rfl rfl) ?_
      refine st (v := (B (r21 != r41))) (rv_move rfl) ?_
      rcases Bool.eq_false_or_eq_true (r21 != r41) with hb52 | hb52
      · replace h := bif_t hb52 h
        refine st_skip (congrArg some hb52) ?_
        refine st_skip (congrArg some hb52) ?_
        refine st (v := (B true)) (rv_pick_t (congrArg B hb52) rfl) ?_
        refine st (v := (B true)) (rv_move rfl) ?_
        refine st_skip rfl ?_
        refine st_skip rfl ?_
        refine st (v := (B true)) (rv_pick_t rfl rfl) ?_
        refine w_end ?_
        obtain rfl := Option.some.inj h
        exact ⟨rfl, _, σ47, fr_join ⟨rfl, rfl, rfl, rfl, rfl, trivial⟩, rfl, hK, hO8, hO11, (by first | exact hd12 | exact Df.re hd12)⟩
      · replace h := bif_f hb52 h
        refine st_g (v := (I r21)) (congrArg some hb52) (rv_move rfl) ?_
        refine st_g (v := (B (decide (r21 < 0)))) (congrArg some hb52) (rv_lss (a := r21) (b := 0) rfl rfl) ?_
        refine st (v := (B (decide (r21 < 0)))) (rv_pick_f (congrArg B hb52) rfl) ?_
        refine st (v := (B (decide (r21 < 0)))) (rv_move rfl) ?_
        rcases Bool.eq_false_or_eq_true (decide (r21 < 0)) with hb53 | hb53
        · replace h := bif_t hb53 h
          refine st_skip (congrArg some hb53) ?_
          refine st_skip (congrArg some hb53) ?_
          refine st (v := (B true)) (rv_pick_t (congrArg B hb53) rfl) ?_
          refine w_end ?_
          obtain rfl := Option.some.inj h
          exact ⟨rfl, _, σ47, fr_join ⟨rfl, rfl, rfl, rfl, rfl, trivial⟩, rfl, hK, hO8, hO11, (by first | exact hd12 | exact Df.re hd12)⟩
        · replace h := bif_f hb53 h
          refine st_g (v := (I r2.1)) (congrArg some hb53) (rv_move rfl) ?_
          refine st_g (v := (B (r2.1 == 3))) (congrArg some hb53) (rv_eql (a := r2.1) (b := 3) rfl rfl) ?_
          refine st (v := (B (r2.1 == 3))) (rv_pick_f (congrArg B hb53) rfl) ?_
          refine w_end ?_
          obtain rfl := Option.some.inj h
          exact ⟨rfl, _, σ47, fr_join ⟨rfl, rfl, rfl, rfl, rfl, trivial⟩, rfl, hK, hO8, hO11, (by first | exact hd12 | exact Df.re hd12)⟩
    · clear hj
      have h := h'
      clear h'
      rintro e a w ⟨rfl, ρ, σ54, rfl, rfl, hK, hO55, hO56, hd57⟩
      refine q_then ?_
      refine cd_cond o32 rfl (fun hb58 => ?_) (fun hb58 => ?_)
      · replace h := bif_t hb58 h
        refine c_seq ?_
        refine rg ?_
        refine st (v := (I r21)) (rv_move rfl) ?_
        refine st (v := (I r2.1)) (rv_move rfl) ?_
        refine st (v := (Sl a6 r2.2.1 c7)) (rv_move rfl) ?_
        refine st (v := (Sl a9 r2.2.2 c10)) (rv_move rfl) ?_
        have hg63 := hO55.ge
        obtain ⟨σ59, hw62, m60, hR61⟩ := hO55.pub' (Nat.le_refl _)
        rw [← hw62]; clear hw62
        replace hO56 := hO56.mod' m60 (by first | exact hd57 | exact Df.re hd57)
        replace hK := hK.own m60 hg63
        have hg68 := hO56.ge
        obtain ⟨σ64, hw67, m65, hR66⟩ := hO56.pub' (Nat.le_refl _)
        rw [← hw67]; clear hw67
        replace hR61 := hR61.mod m65
        replace hK := hK.own m65 hg68
        obtain ⟨r69, hx70, h'⟩ := bind_some h
        clear h
        have h := h'; clear h'
        refine st_call (c_spec_Distance (hR61.low (Nat.zero_le _)) (hR66.low (Nat.zero_le _)) hx70) rfl ?_
        have hKs := hK.size
        rintro _ σ71 m72 rfl
        replace hR61 := hR61.mod m72
        replace hR66 := hR66.mod m72
        replace hK := hK.none m72
        clear hKs m72
        refine st (v := (B (r21 == r69))) (rv_eql (a := r21) (b := r69) rfl rfl) ?_
        refine st (v := (B (r21 == r69))) (rv_assign rfl) ?_
        refine w_end ?_
        refine q_then ?_
        refine c_ret ?_
        refine q_then_r ?_
        obtain rfl := Option.some.inj h
        exact bodyPost_ret (v := (B (r21 == r69))) (results_fr1 Try.results6 rfl _) rfl ⟨_, σ71, rfl, rfl, hK, rfl⟩
      · replace h := bif_f hb58 h
        refine c_skip ?_
        refine q_then ?_
        refine c_seq ?_
        refine rg ?_
        obtain ⟨xs73, hx74, h'⟩ := bind_some h
        clear h
        have h := h'; clear h'
        refine st_make (lo := σ0.size) (el := σ0.size) (z0 := (0 : Int)) (zs := [(I 0)]) Try.underlying23 ti3 rfl rfl rfl (by decide) hx74 rfl rfl hK.size ?_ (wanted_none _ rfl _)
        intro b76 σ78 c77 hbn80 m79 hO75
        have hd81 := hO55.df' hbn80
        have hd82 := hO56.df' hbn80
        replace hO55 := hO55.mod0 m79
        replace hO56 := hO56.mod0 m79
        replace hK := hK.none m79
        clear hbn80 m79
        refine st (v := (Sl (some ⟨b76, 0, none⟩) xs73 c77)) (rv_assign rfl) ?_
        refine w_end ?_
        refine q_then ?_
        refine c_seq ?_
        refine rg ?_
        refine st (v := (I r21)) (rv_move rfl) ?_
        refine st (v := (I r2.1)) (rv_move rfl) ?_
        refine st (v := (Sl a6 r2.2.1 c7)) (rv_move rfl) ?_
        refine st (v := (Sl (some ⟨b76, 0, none⟩) xs73 c77)) (rv_move rfl) ?_
        obtain ⟨σ83, hw84, m85, hR86⟩ := hO55.pub' (Nat.le_refl _)
        obtain ⟨σ87, hw88, m89, hR90⟩ := (hO75.mod' m85 (by first | exact (hd81).symm | exact Df.re (hd81).symm)).pub' (Nat.le_refl _)
        rw [← (hw88.trans hw84)]
        obtain ⟨r91, hx92, h'⟩ := bind_some h
        clear h
        have h := h'; clear h'
        refine st_call (c_impl_Distance ((hR86.low (Nat.zero_le _)).mod m89) (hR90.low (Nat.zero_le _)) hx92) rfl ?_
        have hd95 := ltb_size hO56.ltb (hw88.trans hw84)
        have hd96 := ltb_size hO75.ltb (hw88.trans hw84)
        have hd97 := ltb_size hO55.ltb (hw88.trans hw84)
        have hKs := size_le hK.size (hw88.trans hw84)
        rintro _ σ93 m94 rfl
        obtain ⟨σ98, hw99, m100, hxl101, hvl102⟩ := lent (hw88.trans hw84) m94
        rw [← hw99]
        replace hO56 := hO56.mod0 m100
        replace hO75 := hO75.mod0 m100
        replace hO55 := hO55.mod0 m100
        replace hK := hK.none m100
        clear hKs m100
        refine st (v := (I r2.1)) (rv_move rfl) ?_
        refine st (v := (Sl (some ⟨b76, 0, none⟩) xs73 c77)) (rv_move rfl) ?_
        refine st (v := (Sl a9 r2.2.2 c10)) (rv_move rfl) ?_
        have hg107 := hO75.ge
        obtain ⟨σ103, hw106, m104, hR105⟩ := hO75.pub' (Nat.le_refl _)
        rw [← hw106]; clear hw106
        replace hO56 := hO56.mod' m104 (by first | exact hd82 | exact Df.re hd82)
        replace hK := hK.own m104 hg107
        have hg112 := hO56.ge
        obtain ⟨σ108, hw111, m109, hR110⟩ := hO56.pub' (Nat.le_refl _)
        rw [← hw111]; clear hw111
        replace hR105 := hR105.mod m109
        replace hK := hK.own m109 hg112
        obtain ⟨r113, hx114, h'⟩ := bind_some h
        clear h
        have h := h'; clear h'
        refine st_call (c_impl_Distance (hR105.low (Nat.zero_le _)) (hR110.low (Nat.zero_le _)) hx114) rfl ?_
        have hKs := hK.size
        rintro _ σ115 m116 rfl
        replace hR105 := hR105.mod m116
        replace hR110 := hR110.mod m116
        replace hK := hK.none m116
        clear hKs m116
        refine st (v := (I (w64 (r91 + r113)))) (rv_add (a := r91) (b := r113) rfl rfl) ?_
        refine st (v := (B (decide (r21 ≤ (w64 (r91 + r113)))))) (rv_leq (a := r21) (b := (w64 (r91 + r113))) rfl rfl) ?_
        refine st (v := (B (decide (r21 ≤ (w64 (r91 + r113)))))) (rv_assign rfl) ?_
        refine w_end ?_
        refine q_then ?_
        refine c_ret ?_
        obtain rfl := Option.some.inj h
        exact bodyPost_ret (v := (B (decide (r21 ≤ (w64 (r91 + r113)))))) (results_fr1 Try.results6 rfl _) rfl ⟨_, σ115, rfl, rfl, hK, rfl⟩

theorem c_spec_DrawDotOf {σ0 : St} {code_0 : List UInt8} {acode_0 : Option Addr} {ccode_0 : Nat} (hRcode_0 : RS 0 σ0 (Sl acode_0 code_0 ccode_0) code_0) {r : (List Int) × (List Int)} (h : M.spec_DrawDotOf code_0 = some r) :
    Cal Try.prog 22 [(Sl acode_0 code_0 ccode_0)] none σ0 (fun v σ' => ∃ (a0 : Option Addr) (c0 : Nat), ∃ (a1 : Option Addr) (c1 : Nat), v = (.tuple #[(Sl a0 r.1 c0), (Sl a1 r.2 c1)]) ∧ Ow σ' σ0.size σ0.size (Sl a0 r.1 c0) r.1 ∧ Ow σ' σ0.size σ0.size (Sl a1 r.2 c1) r.2 ∧ Df (blk (Sl a1 r.2 c1)) (blk (Sl a0 r.1 c0))) := by
  refine ⟨⟨_, _, Try.func22, rfl, rfl⟩, ?_⟩
  refine enter (n := 13) Try.func22 rfl rfl rfl ?_
  unfold M.spec_DrawDotOf at h
  have hK : Mod none σ0 σ0 := Mod.refl _ _
  refine c_seq ?_
  refine rg ?_
  refine st (v := (.slice none 0 0)) (rv_assign rfl) ?_
  refine st (v := (.slice none 0 0)) (rv_assign rfl) ?_
  refine w_end ?_
  refine q_then ?_
  refine c_seq ?_
  refine rg ?_
  refine st (v := (Sl acode_0 code_0 ccode_0)) (rv_move rfl) ?_
  obtain ⟨r1, hx2, h'⟩ := bind_some h
  clear h
  have h := h'; clear h'
  refine st_call (c_spec_newReader hRcode_0 hx2) rfl ?_
  have hKs := hK.size
  rintro _ σ3 m4 ⟨b5, a8, c9, rfl, hR10, hge6, hB7⟩
  replace hRcode_0 := hRcode_0.mod m4
  replace hK := hK.none m4
  replace hge6 := Nat.le_trans hKs hge6
  clear hKs m4
  refine st (v := (pt b5 0)) (rv_assign rfl) ?_
  refine w_end ?_
  refine q_then ?_
  refine c_seq ?_
  refine rg ?_
  refine st (v := (pt b5 0)) (rv_move rfl) ?_
  obtain ⟨r11, hx12, h'⟩ := bind_some h
  clear h
  have h := h'; clear h'
  refine st_call (c_spec_anyVector hR10 hB7 hB7.lt hx12) rfl ?_
  have hd22 := hB7.ltb
  have hKs := hK.size
  rintro _ σ13 m14 ⟨a15, c16, a18, c19, rfl, hO17, hR20, hB21⟩
  replace hR10 := hR10.mod m14
  replace hK := hK.some m14 hge6
  have hO17g := hO17.ge
  replace hO17 := hO17.lo hKs
  replace hO17 := hO17.low' hKs
  have hd23 := Df.ge hd22 hO17g
  clear hKs m14 hO17g
  refine st (v := (Sl a15 r11.1 c16)) (rv_assign rfl) ?_
  refine w_end ?_
  refine q_then ?_
  refine c_seq ?_
  refine rg ?_
  refine st (v := (Sl a15 r11.1 c16)) (rv_move rfl) ?_
  refine st (v := (pt b5 0)) (rv_move rfl) ?_
  obtain ⟨r24, hx25, h'⟩ := bind_some h
  clear h
  have h := h'; clear h'
  refine st_call (c_spec_anyVector hR20 hB21 hB21.lt hx25) rfl ?_
  have hd35 := hO17.ltb
  have hd36 := hB21.ltb
  have hKs := hK.size
  rintro _ σ26 m27 ⟨a28, c29, a31, c32, rfl, hO30, hR33, hB34⟩
  replace hO17 := hO17.mod' m27 (by first | exact (hd23).symm | exact Df.reL (hd23).symm)
  replace hR20 := hR20.mod m27
  replace hK := hK.some m27 hge6
  have hO30g := hO30.ge
  replace hO30 := hO30.lo hKs
  replace hO30 := hO30.low' hKs
  have hd37 := Df.ge hd35 hO30g
  have hd38 := Df.ge hd36 hO30g
  clear hKs m27 hO30g
  refine st (v := (Sl a15 r11.1 c16)) (rv_assign rfl) ?_
  refine st (v := (Sl a28 r24.1 c29)) (rv_assign rfl) ?_
  refine w_end ?_
  refine q_then ?_
  refine c_ret ?_
  obtain rfl := Option.some.inj h
  exact bodyPost_ret (v := (.tuple #[(Sl a15 r11.1 c16), (Sl a28 r24.1 c29)])) (results_fr2 Try.results22 rfl rfl _) rfl ⟨_, σ26, rfl, rfl, hK, a15, c16, a28, c29, rfl, hO17, hO30, (by first | exact (hd37).symm | exact Df.re (hd37).symm)⟩

theorem c_impl_DotOf {σ0 : St} {a_0 : List Int} {b_1 : List Int} {aa_0 : Option Addr} {ca_0 : Nat} (hRa_0 : RS 0 σ0 (Sl aa_0 a_0 ca_0) a_0) {ab_1 : Option Addr} {cb_1 : Nat} (hRb_1 : RS 0 σ0 (Sl ab_1 b_1 cb_1) b_1) {r : Int × Bool} (h : M.impl_DotOf a_0 b_1 = some r) :
    Cal Try.prog 23 [(Sl aa_0 a_0 ca_0), (Sl ab_1 b_1 cb_1)] none σ0 (fun v σ' => v = (.tuple #[(I r.1), (B r.2)])) := by
  refine ⟨⟨_, _, Try.func23, rfl, rfl⟩, ?_⟩
  refine enter (n := 32) Try.func23 rfl rfl rfl ?_
  unfold M.impl_DotOf at h
  have hK : Mod none σ0 σ0 := Mod.refl _ _
  refine c_seq ?_
  refine rg ?_
  refine st (v := (I 0)) (rv_assign rfl) ?_
  refine st (v := (B false)) (rv_assign rfl) ?_
  refine w_end ?_
  refine q_then ?_
  refine c_seq ?_
  refine c_seq ?_
  obtain ⟨o1, hj, h'⟩ := bind_some h
  clear h
  refine c_cut (fun e a w => e = .normal ∧ ∃ (ρ : Nat → Value) (σ : St), a = fr 32 (updL ρ [(0, (Sl aa_0 a_0 ca_0)), (1, (Sl ab_1 b_1 cb_1)), (15, (B o1))]) ∧ w = σ.w ∧ Mod none σ0 σ ∧ RS 0 σ (Sl aa_0 a_0 ca_0) a_0 ∧ RS 0 σ (Sl ab_1 b_1 cb_1) b_1) ?_ ?_
  · clear h'
    rename _ = some o1 => h
    refine rg ?_
    refine st (v := (Sl aa_0 a_0 ca_0)) (rv_move rfl) ?_
    obtain ⟨r2, hx3, h'⟩ := bind_some h
    clear h
    have h := h'; clear h'
    refine st_call (c_impl_ValidVector hRa_0 hx3) rfl ?_
    have hKs := hK.size
    rintro _ σ4 m5 rfl
    replace hRa_0 := hRa_0.mod m5
    replace hRb_1 := hRb_1.mod m5
    replace hK := hK.none m5
    clear hKs m5
    refine st (v := (B (!r2))) (rv_not rfl) ?_
    refine st (v := (B (!r2))) (rv_move rfl) ?_
    rcases Bool.eq_false_or_eq_true (!r2) with hb6 | hb6
    · replace h := bif_t hb6 h
      refine st_skip (congrArg some hb6) ?_
      refine st_skip (congrArg some hb6) ?_
      refine st_skip (congrArg some hb6) ?_
      refine st (v := (B true)) (rv_pick_t (congrArg B hb6) rfl) ?_
      refine w_end ?_
      obtain rfl := Option.some.inj h
      exact ⟨rfl, _, σ4, fr_join ⟨rfl, rfl, rfl, trivial⟩, rfl, hK, hRa_0, hRb_1⟩
    · replace h := bif_f hb6 h
      refine st_g (v := (Sl ab_1 b_1 cb_1)) (congrArg some hb6) (rv_move rfl) ?_
      obtain ⟨r7, hx8, h'⟩ := bind_some h
      clear h
      have h := h'; clear h'
      refine st_call_g (by exact (congrArg some hb6)) (c_impl_ValidVector hRb_1 hx8) rfl ?_
      have hKs := hK.size
      rintro _ σ9 m10 rfl
      replace hRa_0 := hRa_0.mod m10
      replace hRb_1 := hRb_1.mod m10
      replace hK := hK.none m10
      clear hKs m10
      refine st_g (v := (B (!r7))) (congrArg some hb6) (rv_not rfl) ?_
      refine st (v := (B (!r7))) (rv_pick_f (congrArg B hb6) rfl) ?_
      refine w_end ?_
      obtain rfl := Option.some.inj h
      exact ⟨rfl, _, σ9, fr_join ⟨rfl, rfl, rfl, trivial⟩, rfl, hK, hRa_0, hRb_1⟩
  · clear hj
    have h := h'
    clear h'
    rintro e a w ⟨rfl, ρ, σ11, rfl, rfl, hK, hR12, hR13⟩
    refine q_then ?_
    refine cd_cond o1 rfl (fun hb14 => ?_) (fun hb14 => ?_)
    · replace h := bif_t hb14 h
      refine c_seq ?_
      refine rg ?_
      refine st (v := (I 0)) (rv_assign rfl) ?_
      refine st (v := (B false)) (rv_assign rfl) ?_
      refine w_end ?_
      refine q_then ?_
      refine c_ret ?_
      refine q_then_r ?_
      obtain rfl := Option.some.inj h
      exact bodyPost_ret (v := (.tuple #[(I 0), (B false)])) (results_fr2 Try.results23 rfl rfl _) rfl ⟨_, σ11, rfl, rfl, hK, rfl⟩
    · replace h := bif_f hb14 h
      refine c_skip ?_
      refine q_then ?_
      refine c_seq ?_
      refine rg ?_
      refine st (v := (I 0)) (rv_assign rfl) ?_
      refine w_end ?_
      refine q_then ?_
      refine c_seq ?_
      refine c_seq ?_
      refine rg ?_
      refine st (v := (I 0)) (rv_move rfl) ?_
      refine w_end ?_
      refine q_then ?_
      obtain ⟨o15, hj, h'⟩ := bind_some h
      clear h
      refine c_cut (fun e a w => e = .normal ∧ ∃ (ρ : Nat → Value) (σ : St), a = fr 32 (updL ρ [(6, (I o15))]) ∧ w = σ.w ∧ Mod none σ0 σ) ?_ ?_
      · clear h'
        rename _ = some o15 => h
        refine c_blk ?_
        refine wp_loopM _ h (fun s16 a w => ∃ (ρ : Nat → Value) (σ : St), a = fr 32 (updL ρ [(0, (Sl aa_0 a_0 ca_0)), (1, (Sl ab_1 b_1 cb_1)), (6, (I s16.1)), (16, (I s16.2))]) ∧ w = σ.w ∧ Mod none σ0 σ ∧ RS 0 σ (Sl aa_0 a_0 ca_0) a_0 ∧ RS 0 σ (Sl ab_1 b_1 cb_1) b_1) ⟨_, σ11, fr_join ⟨rfl, rfl, rfl, rfl, trivial⟩, rfl, hK, hR12, hR13⟩ ?_
        clear h
        rintro s16 a w o ⟨ρ, σ18, rfl, rfl, hK, hR19, hR20⟩ h hres
        refine c_seq ?_
        refine rg ?_
        refine st (v := (B (decide (s16.2 < 4)))) (rv_lss (a := s16.2) (b := 4) rfl rfl) ?_
        refine w_end ?_
        refine q_then ?_
        refine c_seq ?_
        refine cd_cond (decide (s16.2 < 4)) rfl (fun hb21 => ?_) (fun hb21 => ?_)
        · replace h := bif_t hb21 h
          refine c_skip ?_
          refine q_then ?_
          refine c_seq ?_
          refine c_blk ?_
          refine c_seq ?_
          refine rg ?_
          refine st (v := (I s16.2)) (rv_move rfl) ?_
          refine st (v := (I s16.2)) (rv_assign rfl) ?_
          refine w_end ?_
          refine q_then ?_
          obtain ⟨x22, hx23, h'⟩ := bind_some h
          clear h
          have h := h'; clear h'
          obtain ⟨b25, o26, hi24, -⟩ := hR19.ix hx23
          obtain ⟨x27, hx28, h'⟩ := bind_some h
          clear h
          have h := h'; clear h'
          obtain ⟨b30, o31, hi29, -⟩ := hR20.ix hx28
          refine rg_monoL (σ := σ18) 10 [eqv (I s16.1), eqv (Sl aa_0 a_0 ca_0), eqv (I s16.2), eqv (pt b25 o26), eqv (I x22), eqv (Sl ab_1 b_1 cb_1), eqv (I s16.2), eqv (pt b30 o31), eqv (I x27), eqv (I (w64 (x22 * x27)))] (by kernel_rfl) (by kernel_rfl) (mono_cons mono_eqv (mono_cons mono_eqv (mono_cons mono_eqv (mono_cons mono_eqv (mono_cons mono_eqv (mono_cons mono_eqv (mono_cons mono_eqv (mono_cons mono_eqv (mono_cons mono_eqv (mono_cons mono_eqv (mono_nil))))))))))) ?_ ?_
          · refine all_cons (by
                intro ρ σm m hoff hdep
                have e6 : look 32 ρ 6 = (I s16.1) := look_off (hoff 6 rfl) rfl
                exact does_v (v := (I s16.1)) (wanted_none _ rfl _) (rv_move e6) rfl) ?_
            refine all_cons (by
                intro ρ σm m hoff hdep
                have e0 : look 32 ρ 0 = (Sl aa_0 a_0 ca_0) := look_off (hoff 0 rfl) rfl
                exact does_v (v := (Sl aa_0 a_0 ca_0)) (wanted_none _ rfl _) (rv_move e0) rfl) ?_
            refine all_cons (by
                intro ρ σm m hoff hdep
                have e7 : look 32 ρ 7 = (I s16.2) := look_off (hoff 7 rfl) rfl
                exact does_v (v := (I s16.2)) (wanted_none _ rfl _) (rv_move e7) rfl) ?_
            refine all_cons (by
                intro ρ σm m hoff hdep
                have e20 : look 32 ρ 20 = (Sl aa_0 a_0 ca_0) := hdep 1 rfl rfl 20 rfl
                have e21 : look 32 ρ 21 = (I s16.2) := hdep 2 rfl rfl 21 rfl
                exact does_v (v := (pt b25 o26)) (wanted_none _ rfl _) (rv_ix Try.underlying23 ti3 e20 e21 hi24) rfl) ?_
            refine all_cons (by
                intro ρ σm m hoff hdep
                have e22 : look 32 ρ 22 = (pt b25 o26) := hdep 3 rfl rfl 22 rfl
                replace hR19 := hR19.mod m
                exact does_v (v := (I x22)) (wanted_none _ rfl _) (rv_load1 Try.underlying3 rfl e22 (hR19.at hx23 hi24).int) rfl) ?_
            refine all_cons (by
                intro ρ σm m hoff hdep
                have e1 : look 32 ρ 1 = (Sl ab_1 b_1 cb_1) := look_off (hoff 1 rfl) rfl
                exact does_v (v := (Sl ab_1 b_1 cb_1)) (wanted_none _ rfl _) (rv_move e1) rfl) ?_
            refine all_cons (by
                intro ρ σm m hoff hdep
                have e7 : look 32 ρ 7 = (I s16.2) := look_off (hoff 7 rfl) rfl
                exact does_v (v := (I s16.2)) (wanted_none _ rfl _) (rv_move e7) rfl) ?_
            refine all_cons (by
                intro ρ σm m hoff hdep
                have e24 : look 32 ρ 24 = (Sl ab_1 b_1 cb_1) := hdep 5 rfl rfl 24 rfl
                have e25 : look 32 ρ 25 = (I s16.2) := hdep 6 rfl rfl 25 rfl
                exact does_v (v := (pt b30 o31)) (wanted_none _ rfl _) (rv_ix Try.underlying23 ti3 e24 e25 hi29) rfl) ?_
            refine all_cons (by
                intro ρ σm m hoff hdep
                have e26 : look 32 ρ 26 = (pt b30 o31) := hdep 7 rfl rfl 26 rfl
                replace hR20 := hR20.mod m
                exact does_v (v := (I x27)) (wanted_none _ rfl _) (rv_load1 Try.underlying3 rfl e26 (hR20.at hx28 hi29).int) rfl) ?_
            refine all_cons (by
                intro ρ σm m hoff hdep
                have e23 : look 32 ρ 23 = (I x22) := hdep 4 rfl rfl 23 rfl
                have e27 : look 32 ρ 27 = (I x27) := hdep 8 rfl rfl 27 rfl
                exact does_v (v := (I (w64 (x22 * x27)))) (wanted_none _ rfl _) (rv_mul (a := x22) (b := x27) e23 e27) rfl) ?_
            exact all_nil
          · intro ρ σ32 m hoff hrel
            have e0 : look 32 ρ 0 = (Sl aa_0 a_0 ca_0) := look_off (hoff 0 rfl) rfl
            have e1 : look 32 ρ 1 = (Sl ab_1 b_1 cb_1) := look_off (hoff 1 rfl) rfl
            have e16 : look 32 ρ 16 = (I s16.2) := look_off (hoff 16 rfl) rfl
            have e19 : look 32 ρ 19 = (I s16.1) := hrel 0 rfl 19 rfl
            have e28 : look 32 ρ 28 = (I (w64 (x22 * x27))) := hrel 9 rfl 28 rfl
            replace hR19 := hR19.mod m
            replace hR20 := hR20.mod m
            replace hK := hK.none m
            rw [fr_lookL (L := [(0, (Sl aa_0 a_0 ca_0)), (1, (Sl ab_1 b_1 cb_1)), (16, (I s16.2)), (19, (I s16.1)), (28, (I (w64 (x22 * x27))))]) ⟨e0, e1, e16, e19, e28, trivial⟩]
            clear hoff hrel m e0 e1 e16 e19 e28
            refine st (v := (I (w64 (s16.1 + (w64 (x22 * x27)))))) (rv_add (a := s16.1) (b := (w64 (x22 * x27))) rfl rfl) ?_
            refine st (v := (I (w64 (s16.1 + (w64 (x22 * x27)))))) (rv_assign rfl) ?_
            refine w_end ?_
            refine q_blk ?_
            refine q_then ?_
            refine rg ?_
            refine st (v := (I (w64 (s16.2 + 1)))) (rv_add (a := s16.2) (b := 1) rfl rfl) ?_
            refine st (v := (I (w64 (s16.2 + 1)))) (rv_move rfl) ?_
            refine w_end ?_
            refine q_then ?_
            obtain rfl := Option.some.inj h
            exact ⟨_, rfl, _, σ32, fr_join ⟨rfl, rfl, rfl, rfl, trivial⟩, rfl, hK, hR19, hR20⟩
        · replace h := bif_f hb21 h
          refine c_exit ?_
          refine q_then_x ?_
          refine q_then_x ?_
          refine q_blk_hit ?_
          obtain rfl := Option.some.inj h
          obtain rfl := hres _ rfl
          exact ⟨rfl, _, σ18, fr_join ⟨rfl, trivial⟩, rfl, hK⟩
      · clear hj
        have h := h'
        clear h'
        rintro e a w ⟨rfl, ρ, σ33, rfl, rfl, hK⟩
        refine q_then ?_
        refine c_seq ?_
        refine rg ?_
        refine st (v := (I o15)) (rv_move rfl) ?_
        refine st (v := (I o15)) (rv_assign rfl) ?_
        refine st (v := (B true)) (rv_assign rfl) ?_
        refine w_end ?_
        refine q_then ?_
        refine c_ret ?_
        obtain rfl := Option.some.inj h
        exact bodyPost_ret (v := (.tuple #[(I o15), (B true)])) (results_fr2 Try.results23 rfl rfl _) rfl ⟨_, σ33, rfl, rfl, hK, rfl⟩

theorem c_spec_DotOf {σ0 : St} {a_0 : List Int} {b_1 : List Int} {aa_0 : Option Addr} {ca_0 : Nat} (hRa_0 : RS 0 σ0 (Sl aa_0 a_0 ca_0) a_0) {ab_1 : Option Addr} {cb_1 : Nat} (hRb_1 : RS 0 σ0 (Sl ab_1 b_1 cb_1) b_1) {r : Int × Bool} (h : M.spec_DotOf a_0 b_1 = some r) :
    Cal Try.prog 24 [(Sl aa_0 a_0 ca_0), (Sl ab_1 b_1 cb_1)] none σ0 (fun v σ' => v = (.tuple #[(I r.1), (B r.2)])) := by
  refine ⟨⟨_, _, Try.func24, rfl, rfl⟩, ?_⟩
  refine enter (n := 34) Try.func24 rfl rfl rfl ?_
  unfold M.spec_DotOf at h
  have hK : Mod none σ0 σ0 := Mod.refl _ _
  refine c_seq ?_
  refine rg ?_
  refine st (v := (I 0)) (rv_assign rfl) ?_
  refine st (v := (B false)) (rv_assign rfl) ?_
  refine w_end ?_
  refine q_then ?_
  refine c_seq ?_
  refine rg ?_
  refine st (v := (I 0)) (rv_assign rfl) ?_
  refine w_end ?_
  refine q_then ?_
  refine c_seq ?_
  refine c_seq ?_
  obtain ⟨o1, hj, h'⟩ := bind_some h
  clear h
  refine c_cut (fun e a w => e = .normal ∧ ∃ (ρ : Nat → Value) (σ : St), a = fr 34 (updL ρ [(0, (Sl aa_0 a_0 ca_0)), (1, (Sl ab_1 b_1 cb_1)), (6, (I 0)), (15, (B o1))]) ∧ w = σ.w ∧ Mod none σ0 σ ∧ RS 0 σ (Sl aa_0 a_0 ca_0) a_0 ∧ RS 0 σ (Sl ab_1 b_1 cb_1) b_1) ?_ ?_
  · clear h'
    rename _ = some o1 => h
    refine rg ?_
    refine st (v := (Sl aa_0 a_0 ca_0)) (rv_move rfl) ?_
    obtain ⟨r2, hx3, h'⟩ := bind_some h
    clear h
    have h := h'; clear h'
    refine st_call (c_spec_isVector hRa_0 hx3) rfl ?_
    have hKs := hK.size
    rintro _ σ4 m5 rfl
    replace hRa_0 := hRa_0.mod m5
    replace hRb_1 := hRb_1.mod m5
    replace hK := hK.none m5
    clear hKs m5
    refine st (v := (B (!r2))) (rv_not rfl) ?_
    refine st (v := (B (!r2))) (rv_move rfl) ?_
    rcases Bool.eq_false_or_eq_true (!r2) with hb6 | hb6
    · replace h := bif_t hb6 h
      refine st_skip (congrArg some hb6) ?_
      refine st_skip (congrArg some hb6) ?_
      refine st_skip (congrArg some hb6) ?_
      refine st (v := (B true)) (rv_pick_t (congrArg B hb6) rfl) ?_
      refine w_end ?_
      obtain rfl := Option.some.inj h
      exact ⟨rfl, _, σ4, fr_join ⟨rfl, rfl, rfl, rfl, trivial⟩, rfl, hK, hRa_0, hRb_1⟩
    · replace h := bif_f hb6 h
      refine st_g (v := (Sl ab_1 b_1 cb_1)) (congrArg some hb6) (rv_move rfl) ?_
      obtain ⟨r7, hx8, h'⟩ := bind_some h
      clear h
      have h := h'; clear h'
      refine st_call_g (by exact (congrArg some hb6)) (c_spec_isVector hRb_1 hx8) rfl ?_
      have hKs := hK.size
      rintro _ σ9 m10 rfl
      replace hRa_0 := hRa_0.mod m10
      replace hRb_1 := hRb_1.mod m10
      replace hK := hK.none m10
      clear hKs m10
      refine st_g (v := (B (!r7))) (congrArg some hb6) (rv_not rfl) ?_
      refine st (v := (B (!r7))) (rv_pick_f (congrArg B hb6) rfl) ?_
      refine w_end ?_
      obtain rfl := Option.some.inj h
      exact ⟨rfl, _, σ9, fr_join ⟨rfl, rfl, rfl, rfl, trivial⟩, rfl, hK, hRa_0, hRb_1⟩
  · clear hj
    have h := h'
    clear h'
    rintro e a w ⟨rfl, ρ, σ11, rfl, rfl, hK, hR12, hR13⟩
    refine q_then ?_
    refine cd_cond o1 rfl (fun hb14 => ?_) (fun hb14 => ?_)
    · replace h := bif_t hb14 h
      refine c_seq ?_
      refine rg ?_
      refine st (v := (I 0)) (rv_assign rfl) ?_
      refine st (v := (B false)) (rv_assign rfl) ?_
      refine w_end ?_
      refine q_then ?_
      refine c_ret ?_
      refine q_then_r ?_
      obtain rfl := Option.some.inj h
      exact bodyPost_ret (v := (.tuple #[(I 0), (B false)])) (results_fr2 Try.results24 rfl rfl _) rfl ⟨_, σ11, rfl, rfl, hK, rfl⟩
    · replace h := bif_f hb14 h
      refine c_skip ?_
      refine q_then ?_
      refine c_seq ?_
      refine c_seq ?_
      refine rg ?_
      refine st (v := (I 0)) (rv_assign rfl) ?_
      refine w_end ?_
      refine q_then ?_
      obtain ⟨o15, hj, h'⟩ := bind_some h
      clear h
      refine c_cut (fun e a w => e = .normal ∧ ∃ (ρ : Nat → Value) (σ : St), a = fr 34 (updL ρ [(6, (I o15))]) ∧ w = σ.w ∧ Mod none σ0 σ) ?_ ?_
      · clear h'
        rename _ = some o15 => h
        refine c_blk ?_
        refine wp_loopM _ h (fun s16 a w => ∃ (ρ : Nat → Value) (σ : St), a = fr 34 (updL ρ [(0, (Sl aa_0 a_0 ca_0)), (1, (Sl ab_1 b_1 cb_1)), (6, (I s16.1)), (7, (I s16.2))]) ∧ w = σ.w ∧ Mod none σ0 σ ∧ RS 0 σ (Sl aa_0 a_0 ca_0) a_0 ∧ RS 0 σ (Sl ab_1 b_1 cb_1) b_1) ⟨_, σ11, fr_join ⟨rfl, rfl, rfl, rfl, trivial⟩, rfl, hK, hR12, hR13⟩ ?_
        clear h
        rintro s16 a w o ⟨ρ, σ18, rfl, rfl, hK, hR19, hR20⟩ h hres
        refine c_seq ?_
        refine c_seq ?_
        refine rg ?_
        refine st (v := (I s16.2)) (rv_move rfl) ?_
        refine st (v := (Sl aa_0 a_0 ca_0)) (rv_move rfl) ?_
        refine st (v := (I (a_0.length : Int))) (rv_len Try.underlying23 rfl) ?_
        refine st (v := (B (decide (s16.2 < (a_0.length : Int))))) (rv_lss (a := s16.2) (b := (a_0.length : Int)) rfl rfl) ?_
        refine w_end ?_
        refine q_then ?_
        refine cd_cond (decide (s16.2 < (a_0.length : Int))) rfl (fun hb21 => ?_) (fun hb21 => ?_)
        · replace h := bif_t hb21 h
          refine c_skip ?_
          refine q_then ?_
          refine c_seq ?_
          refine c_blk ?_
          obtain ⟨x22, hx23, h'⟩ := bind_some h
          clear h
          have h := h'; clear h'
          obtain ⟨b25, o26, hi24, -⟩ := hR19.ix hx23
          obtain ⟨x27, hx28, h'⟩ := bind_some h
          clear h
          have h := h'; clear h'
          obtain ⟨b30, o31, hi29, -⟩ := hR20.ix hx28
          refine rg_monoL (σ := σ18) 10 [eqv (I s16.1), eqv (Sl aa_0 a_0 ca_0), eqv (I s16.2), eqv (pt b25 o26), eqv (I x22), eqv (Sl ab_1 b_1 cb_1), eqv (I s16.2), eqv (pt b30 o31), eqv (I x27), eqv (I (w64 (x22 * x27)))] (by kernel_rfl) (by kernel_rfl) (mono_cons mono_eqv (mono_cons mono_eqv (mono_cons mono_eqv (mono_cons mono_eqv (mono_cons mono_eqv (mono_cons mono_eqv (mono_cons mono_eqv (mono_cons mono_eqv (mono_cons mono_eqv (mono_cons mono_eqv (mono_nil))))))))))) ?_ ?_
          · refine all_cons (by
                intro ρ σm m hoff hdep
                have e6 : look 34 ρ 6 = (I s16.1) := look_off (hoff 6 rfl) rfl
                exact does_v (v := (I s16.1)) (wanted_none _ rfl _) (rv_move e6) rfl) ?_
            refine all_cons (by
                intro ρ σm m hoff hdep
                have e0 : look 34 ρ 0 = (Sl aa_0 a_0 ca_0) := look_off (hoff 0 rfl) rfl
                exact does_v (v := (Sl aa_0 a_0 ca_0)) (wanted_none _ rfl _) (rv_move e0) rfl) ?_
            refine all_cons (by
                intro ρ σm m hoff hdep
                have e7 : look 34 ρ 7 = (I s16.2) := look_off (hoff 7 rfl) rfl
                exact does_v (v := (I s16.2)) (wanted_none _ rfl _) (rv_move e7) rfl) ?_
            refine all_cons (by
                intro ρ σm m hoff hdep
                have e23 : look 34 ρ 23 = (Sl aa_0 a_0 ca_0) := hdep 1 rfl rfl 23 rfl
                have e24 : look 34 ρ 24 = (I s16.2) := hdep 2 rfl rfl 24 rfl
                exact does_v (v := (pt b25 o26)) (wanted_none _ rfl _) (rv_ix Try.underlying23 ti3 e23 e24 hi24) rfl) ?_
            refine all_cons (by
                intro ρ σm m hoff hdep
                have e25 : look 34 ρ 25 = (pt b25 o26) := hdep 3 rfl rfl 25 rfl
                replace hR19 := hR19.mod m
                exact does_v (v := (I x22)) (wanted_none _ rfl _) (rv_load1 Try.underlying3 rfl e25 (hR19.at hx23 hi24).int) rfl) ?_
            refine all_cons (by
                intro ρ σm m hoff hdep
                have e1 : look 34 ρ 1 = (Sl ab_1 b_1 cb_1) := look_off (hoff 1 rfl) rfl
                exact does_v (v := (Sl ab_1 b_1 cb_1)) (wanted_none _ rfl _) (rv_move e1) rfl) ?_
            refine all_cons (by
                intro ρ σm m hoff hdep
                have e7 : look 34 ρ 7 = (I s16.2) := look_off (hoff 7 rfl) rfl
                exact does_v (v := (I s16.2)) (wanted_none _ rfl _) (rv_move e7) rfl) ?_
            refine all_cons (by
                intro ρ σm m hoff hdep
                have e27 : look 34 ρ 27 = (Sl ab_1 b_1 cb_1) := hdep 5 rfl rfl 27 rfl
                have e28 : look 34 ρ 28 = (I s16.2) := hdep 6 rfl rfl 28 rfl
                exact does_v (v := (pt b30 o31)) (wanted_none _ rfl _) (rv_ix Try.underlying23 ti3 e27 e28 hi29) rfl) ?_
            refine all_cons (by
                intro ρ σm m hoff hdep
                have e29 : look 34 ρ 29 = (pt b30 o31) := hdep 7 rfl rfl 29 rfl
                replace hR20 := hR20.mod m
                exact does_v (v := (I x27)) (wanted_none _ rfl _) (rv_load1 Try.underlying3 rfl e29 (hR20.at hx28 hi29).int) rfl) ?_
            refine all_cons (by
                intro ρ σm m hoff hdep
                have e26 : look 34 ρ 26 = (I x22) := hdep 4 rfl rfl 26 rfl
                have e30 : look 34 ρ 30 = (I x27) := hdep 8 rfl rfl 30 rfl
                exact does_v (v := (I (w64 (x22 * x27)))) (wanted_none _ rfl _) (rv_mul (a := x22) (b := x27) e26 e30) rfl) ?_
            exact all_nil
          · intro ρ σ32 m hoff hrel
            have e0 : look 34 ρ 0 = (Sl aa_0 a_0 ca_0) := look_off (hoff 0 rfl) rfl
            have e1 : look 34 ρ 1 = (Sl ab_1 b_1 cb_1) := look_off (hoff 1 rfl) rfl
            have e7 : look 34 ρ 7 = (I s16.2) := look_off (hoff 7 rfl) rfl
            have e22 : look 34 ρ 22 = (I s16.1) := hrel 0 rfl 22 rfl
            have e31 : look 34 ρ 31 = (I (w64 (x22 * x27))) := hrel 9 rfl 31 rfl
            replace hR19 := hR19.mod m
            replace hR20 := hR20.mod m
            replace hK := hK.none m
            rw [fr_lookL (L := [(0, (Sl aa_0 a_0 ca_0)), (1, (Sl ab_1 b_1 cb_1)), (7, (I s16.2)), (22, (I s16.1)), (31, (I (w64 (x22 * x27))))]) ⟨e0, e1, e7, e22, e31, trivial⟩]
            clear hoff hrel m e0 e1 e7 e22 e31
            refine st (v := (I (w64 (s16.1 + (w64 (x22 * x27)))))) (rv_add (a := s16.1) (b := (w64 (x22 * x27))) rfl rfl) ?_
            refine st (v := (I (w64 (s16.1 + (w64 (x22 * x27)))))) (rv_assign rfl) ?_
            refine w_end ?_
            refine q_blk ?_
            refine q_then ?_
            refine rg ?_
            refine st (v := (I s16.2)) (rv_move rfl) ?_
            refine st (v := (I (w64 (s16.2 + 1)))) (rv_add (a := s16.2) (b := 1) rfl rfl) ?_
            refine st (v := (I (w64 (s16.2 + 1)))) (rv_assign rfl) ?_
            refine w_end ?_
            refine q_then ?_
            obtain rfl := Option.some.inj h
            exact ⟨_, rfl, _, σ32, fr_join ⟨rfl, rfl, rfl, rfl, trivial⟩, rfl, hK, hR19, hR20⟩
        · replace h := bif_f hb21 h
          refine c_exit ?_
          refine q_then_x ?_
          refine q_then_x ?_
          refine q_blk_hit ?_
          obtain rfl := Option.some.inj h
          obtain rfl := hres _ rfl
          exact ⟨rfl, _, σ18, fr_join ⟨rfl, trivial⟩, rfl, hK⟩
      · clear hj
        have h := h'
        clear h'
        rintro e a w ⟨rfl, ρ, σ33, rfl, rfl, hK⟩
        refine q_then ?_
        refine c_seq ?_
        refine rg ?_
        refine st (v := (I o15)) (rv_move rfl) ?_
        refine st (v := (I o15)) (rv_assign rfl) ?_
        refine st (v := (B true)) (rv_assign rfl) ?_
        refine w_end ?_
        refine q_then ?_
        refine c_ret ?_
        obtain rfl := Option.some.inj h
        exact bodyPost_ret (v := (.tuple #[(I o15), (B true)])) (results_fr2 Try.results24 rfl rfl _) rfl ⟨_, σ33, rfl, rfl, hK, rfl⟩

theorem c_laws_FnDotOf {σ0 : St} {code_0 : List UInt8} {acode_0 : Option Addr} {ccode_0 : Nat} (hRcode_0 : RS 0 σ0 (Sl acode_0 code_0 ccode_0) code_0) {r : Bool} (h : M.laws_FnDotOf code_0 = some r) :
    Cal Try.prog 7 [(Sl acode_0 code_0 ccode_0)] none σ0 (fun v σ' => v = (B r)) := by
  refine ⟨⟨_, _, Try.func7, rfl, rfl⟩, ?_⟩
  refine enter (n := 97) Try.func7 rfl rfl rfl ?_
  unfold M.laws_FnDotOf at h
  have hK : Mod none σ0 σ0 := Mod.refl _ _
  refine c_seq ?_
  refine rg ?_
  refine st (v := (B false)) (rv_assign rfl) ?_
  refine w_end ?_
  refine q_then ?_
  refine c_seq ?_
  refine c_seq ?_
  refine rg ?_
  refine st (v := (Sl acode_0 code_0 ccode_0)) (rv_move rfl) ?_
  refine st (v := (I (code_0.length : Int))) (rv_len Try.underlying22 rfl) ?_
  refine st (v := (B (decide (1048576 < (code_0.length : Int))))) (rv_gtr (a := (code_0.length : Int)) (b := 1048576) rfl rfl) ?_
  refine w_end ?_
  refine q_then ?_
  refine cd_cond (decide (1048576 < (code_0.length : Int))) rfl (fun hb1 => ?_) (fun hb1 => ?_)
  · replace h := bif_t hb1 h
    refine c_seq ?_
    refine rg ?_
    refine st (v := (B true)) (rv_assign rfl) ?_
    refine w_end ?_
    refine q_then ?_
    refine c_ret ?_
    refine q_then_r ?_
    obtain rfl := Option.some.inj h
    exact bodyPost_ret (v := (B true)) (results_fr1 Try.results7 rfl _) rfl ⟨_, σ0, rfl, rfl, hK, rfl⟩
  · replace h := bif_f hb1 h
    refine c_skip ?_
    refine q_then ?_
    refine c_seq ?_
    refine rg ?_
    refine st (v := (Sl acode_0 code_0 ccode_0)) (rv_move rfl) ?_
    obtain ⟨r2, hx3, h'⟩ := bind_some h
    clear h
    have h := h'; clear h'
    refine st_call (c_spec_DrawDotOf hRcode_0 hx3) rfl ?_
    have hKs := hK.size
    rintro _ σ4 m5 ⟨a6, c7, a9, c10, rfl, hO8, hO11, hd12⟩
    replace hRcode_0 := hRcode_0.mod m5
    replace hK := hK.none m5
    have hO8g := hO8.ge
    replace hO8 := hO8.lo hKs
    replace hO8 := hO8.low' hKs
    have hO11g := hO11.ge
    replace hO11 := hO11.lo hKs
    replace hO11 := hO11.low' hKs
    clear hKs m5 hO8g hO11g
    refine st (v := (.tuple #[(Sl a6 r2.1 c7), (Sl a9 r2.2 c10)])) (rv_move rfl) ?_
    refine st (v := (Sl a6 r2.1 c7)) (rv_extract rfl rfl) ?_
    refine st (v := (Sl a9 r2.2 c10)) (rv_extract rfl rfl) ?_
    refine st (v := (Sl a6 r2.1 c7)) (rv_assign rfl) ?_
    refine st (v := (Sl a9 r2.2 c10)) (rv_assign rfl) ?_
    refine w_end ?_
    refine q_then ?_
    refine c_seq ?_
    refine rg ?_
    refine st (v := (Sl a6 r2.1 c7)) (rv_move rfl) ?_
    refine st (v := (Sl a9 r2.2 c10)) (rv_move rfl) ?_
    obtain ⟨σ13, hw14, m15, hR16⟩ := hO8.pub' (Nat.le_refl _)
    obtain ⟨σ17, hw18, m19, hR20⟩ := (hO11.mod' m15 (by first | exact hd12 | exact Df.re hd12)).pub' (Nat.le_refl _)
    rw [← (hw18.trans hw14)]
    obtain ⟨r21, hx22, h'⟩ := bind_some h
    clear h
    have h := h'; clear h'
    refine st_call (c_impl_DotOf ((hR16.low (Nat.zero_le _)).mod m19) (hR20.low (Nat.zero_le _)) hx22) rfl ?_
    have hd25 := ltb_size hO8.ltb (hw18.trans hw14)
    have hd26 := ltb_size hO11.ltb (hw18.trans hw14)
    have hKs := size_le hK.size (hw18.trans hw14)
    rintro _ σ23 m24 rfl
    obtain ⟨σ27, hw28, m29, hxl30, hvl31⟩ := lent (hw18.trans hw14) m24
    rw [← hw28]
    replace hO8 := hO8.mod0 m29
    replace hO11 := hO11.mod0 m29
    replace hK := hK.none m29
    clear hKs m29
    refine st (v := (.tuple #[(I r21.1), (B r21.2)])) (rv_move rfl) ?_
    refine st (v := (I r21.1)) (rv_extract rfl rfl) ?_
    refine st (v := (B r21.2)) (rv_extract rfl rfl) ?_
    refine st (v := (I r21.1)) (rv_assign rfl) ?_
    refine st (v := (B r21.2)) (rv_assign rfl) ?_
    refine w_end ?_
    refine q_then ?_
    refine c_seq ?_
    refine rg ?_
    refine st (v := (Sl a6 r2.1 c7)) (rv_move rfl) ?_
    refine st (v := (Sl a9 r2.2 c10)) (rv_move rfl) ?_
    obtain ⟨σ32, hw33, m34, hR35⟩ := hO8.pub' (Nat.le_refl _)
    obtain ⟨σ36, hw37, m38, hR39⟩ := (hO11.mod' m34 (by first | exact hd12 | exact Df.re hd12)).pub' (Nat.le_refl _)
    rw [← (hw37.trans hw33)]
    obtain ⟨r40, hx41, h'⟩ := bind_some h
    clear h
    have h := h'; clear h'
    refine st_call (c_spec_DotOf ((hR35.low (Nat.zero_le _)).mod m38) (hR39.low (Nat.zero_le _)) hx41) rfl ?_
    have hd44 := ltb_size hO8.ltb (hw37.trans hw33)
    have hd45 := ltb_size hO11.ltb (hw37.trans hw33)
    have hKs := size_le hK.size (hw37.trans hw33)
    rintro _ σ42 m43 rfl
    obtain ⟨σ46, hw47, m48, hxl49, hvl50⟩ := lent (hw37.trans hw33) m43
    rw [← hw47]
    replace hO8 := hO8.mod0 m48
    replace hO11 := hO11.mod0 m48
    replace hK := hK.none m48
    clear hKs m48
    refine st (v := (.tuple #[(I r40.1), (B r40.2)])) (rv_move rfl) ?_
    refine st (v := (I r40.1)) (rv_extract rfl rfl) ?_
    refine st (v := (B r40.2)) (rv_extract rfl rfl) ?_
    refine st (v := (I r40.1)) (rv_assign rfl) ?_
    refine st (v := (B r40.2)) (rv_assign rfl) ?_
    refine w_end ?_
    refine q_then ?_
    refine c_seq ?_
    refine c_seq ?_
    obtain ⟨o51, hj, h'⟩ := bind_some h
    clear h
    refine c_cut (fun e a w => e = .normal ∧ ∃ (ρ : Nat → Value) (σ : St), a = fr 97 (updL ρ [(3, (Sl a6 r2.1 c7)), (4, (Sl a9 r2.2 c10)), (5, (I r21.1)), (6, (B r21.2)), (7, (I r40.1)), (8, (B r40.2)), (46, (B o51))]) ∧ w = σ.w ∧ Mod none σ0 σ ∧ Ow σ σ0.size σ0.size (Sl a6 r2.1 c7) r2.1 ∧ Ow σ σ0.size σ0.size (Sl a9 r2.2 c10) r2.2 ∧ Df (blk (Sl a9 r2.2 c10)) (blk (Sl a6 r2.1 c7))) ?_ ?_
    · clear h'
      rename _ = some o51 => h
      refine rg ?_
      refine st (v := (I r21.1)) (rv_move rfl) ?_
      refine st (v := (I r40.1)) (rv_move rfl) ?_
      refine st (v := (B (r21.1 != r40.1))) (rv_neq (a := r21.1) (b := r40.1) rfl rfl) ?_
      refine st (v := (B (r21.1 != r40.1))) (rv_move rfl) ?_
      rcases Bool.eq_false_or_eq_true (r21.1 != r40.1) with hb52 | hb52
      · replace h := bif_t hb52 h
        refine st_skip (congrArg some hb52) ?_
        refine st_skip (congrArg some hb52) ?_
        refine st_skip (congrArg some hb52) ?_
        refine st (v := (B true)) (rv_pick_t (congrArg B hb52) rfl) ?_
        refine st (v := (B true)) (rv_move rfl) ?_
        refine st_skip rfl ?_
        refine st_skip rfl ?_
        refine st (v := (B true)) (rv_pick_t rfl rfl) ?_
        refine w_end ?_
        obtain rfl := Option.some.inj h
        exact ⟨rfl, _, σ46, fr_join ⟨rfl, rfl, rfl, rfl, rfl, rfl, rfl, trivial⟩, rfl, hK, hO8, hO11, (by first | exact hd12 | exact Df.re hd12)⟩
      · replace h := bif_f hb52 h
        refine st_g (v := (B r21.2)) (congrArg some hb52) (rv_move rfl) ?_
        refine st_g (v := (B r40.2)) (congrArg some hb52) (rv_move rfl) ?_
        refine st_g (v := (B (r21.2 != r40.2))) (congrArg some hb52) (rv_bneq Try.underlying4 rfl rfl) ?_
        refine st (v := (B (r21.2 != r40.2))) (rv_pick_f (congrArg B hb52) rfl) ?_
        refine st (v := (B (r21.2 != r40.2))) (rv_move rfl) ?_
        rcases Bool.eq_false_or_eq_true (r21.2 != r40.2) with hb53 | hb53
        · replace h := bif_t hb53 h
          refine st_skip (congrArg some hb53) ?_
          refine st_skip (congrArg some hb53) ?_
          refine st (v := (B true)) (rv_pick_t (congrArg B hb53) rfl) ?_
          refine w_end ?_
          obtain rfl := Option.some.inj h
          exact ⟨rfl, _, σ46, fr_join ⟨rfl, rfl, rfl, rfl, rfl, rfl, rfl, trivial⟩, rfl, hK, hO8, hO11, (by first | exact hd12 | exact Df.re hd12)⟩
        · replace h := bif_f hb53 h
          refine st_g (v := (B r21.2)) (congrArg some hb53) (rv_move rfl) ?_
          refine st_g (v := (B (!r21.2))) (congrArg some hb53) (rv_not rfl) ?_
          refine st (v := (B (!r21.2))) (rv_pick_f (congrArg B hb53) rfl) ?_
          refine w_end ?_
          obtain rfl := Option.some.inj h
          exact ⟨rfl, _, σ46, fr_join ⟨rfl, rfl, rfl, rfl, rfl, rfl, rfl, trivial⟩, rfl, hK, hO8, hO11, (by first | exact hd12 | exact Df.re hd12)⟩
    · clear hj
      have h := h'
      clear h'
      rintro e a w ⟨rfl, ρ, σ54, rfl, rfl, hK, hO55, hO56, hd57⟩
      refine q_then ?_
      refine cd_cond o51 rfl (fun hb58 => ?_) (fun hb58 => ?_)
      · replace h := bif_t hb58 h
        refine c_seq ?_
        refine rg ?_
        refine st (v := (I r21.1)) (rv_move rfl) ?_
        refine st (v := (I r40.1)) (rv_move rfl) ?_
        refine st (v := (B (r21.1 == r40.1))) (rv_eql (a := r21.1) (b := r40.1) rfl rfl) ?_
        refine st (v := (B (r21.1 == r40.1))) (rv_move rfl) ?_
        rcases Bool.eq_false_or_eq_true (r21.1 == r40.1) with hb59 | hb59
        · replace h := bif_t hb59 h
          refine st_g (v := (B r21.2)) (congrArg some hb59) (rv_move rfl) ?_
          refine st_g (v := (B r40.2)) (congrArg some hb59) (rv_move rfl) ?_
          refine st_g (v := (B (r21.2 == r40.2))) (congrArg some hb59) (rv_beql Try.underlying4 rfl rfl) ?_
          refine st (v := (B (r21.2 == r40.2))) (rv_pick_t (congrArg B hb59) rfl) ?_
          refine st (v := (B (r21.2 == r40.2))) (rv_assign rfl) ?_
          refine w_end ?_
          refine q_then ?_
          refine c_ret ?_
          refine q_then_r ?_
          obtain rfl := Option.some.inj h
          exact bodyPost_ret (v := (B (r21.2 == r40.2))) (results_fr1 Try.results7 rfl _) rfl ⟨_, σ54, rfl, rfl, hK, rfl⟩
        · replace h := bif_f hb59 h
          refine st_skip (congrArg some hb59) ?_
          refine st_skip (congrArg some hb59) ?_
          refine st_skip (congrArg some hb59) ?_
          refine st (v := (B false)) (rv_pick_f (congrArg B hb59) rfl) ?_
          refine st (v := (B false)) (rv_assign rfl) ?_
          refine w_end ?_
          refine q_then ?_
          refine c_ret ?_
          refine q_then_r ?_
          obtain rfl := Option.some.inj h
          exact bodyPost_ret (v := (B false)) (results_fr1 Try.results7 rfl _) rfl ⟨_, σ54, rfl, rfl, hK, rfl⟩
      · replace h := bif_f hb58 h
        refine c_skip ?_
        refine q_then ?_
        refine c_seq ?_
        refine rg ?_
        refine st (v := (Sl a6 r2.1 c7)) (rv_move rfl) ?_
        refine st (v := (Sl a6 r2.1 c7)) (rv_move rfl) ?_
        obtain ⟨σ60, hw61, m62, hR63⟩ := hO55.pub' (Nat.le_refl _)
        rw [← hw61]
        obtain ⟨r64, hx65, h'⟩ := bind_some h
        clear h
        have h := h'; clear h'
        refine st_call (c_impl_DotOf (hR63.low (Nat.zero_le _)) (hR63.low (Nat.zero_le _)) hx65) rfl ?_
        have hd68 := ltb_size hO55.ltb hw61
        have hd69 := ltb_size hO56.ltb hw61
        have hKs := size_le hK.size hw61
        rintro _ σ66 m67 rfl
        obtain ⟨σ70, hw71, m72, hxl73, hvl74⟩ := lent hw61 m67
        rw [← hw71]
        replace hO55 := hO55.mod0 m72
        replace hO56 := hO56.mod0 m72
        replace hK := hK.none m72
        clear hKs m72
        refine st (v := (.tuple #[(I r64.1), (B r64.2)])) (rv_move rfl) ?_
        refine st (v := (I r64.1)) (rv_extract rfl rfl) ?_
        refine st (v := (B r64.2)) (rv_extract rfl rfl) ?_
        refine st (v := (I r64.1)) (rv_assign rfl) ?_
        refine st (v := (B r64.2)) (rv_assign rfl) ?_
        refine w_end ?_
        refine q_then ?_
        refine c_seq ?_
        refine rg ?_
        refine st (v := (Sl a9 r2.2 c10)) (rv_move rfl) ?_
        refine st (v := (Sl a9 r2.2 c10)) (rv_move rfl) ?_
        obtain ⟨σ75, hw76, m77, hR78⟩ := hO56.pub' (Nat.le_refl _)
        rw [← hw76]
        obtain ⟨r79, hx80, h'⟩ := bind_some h
        clear h
        have h := h'; clear h'
        refine st_call (c_impl_DotOf (hR78.low (Nat.zero_le _)) (hR78.low (Nat.zero_le _)) hx80) rfl ?_
        have hd83 := ltb_size hO55.ltb hw76
        have hd84 := ltb_size hO56.ltb hw76
        have hKs := size_le hK.size hw76
        rintro _ σ81 m82 rfl
        obtain ⟨σ85, hw86, m87, hxl88, hvl89⟩ := lent hw76 m82
        rw [← hw86]
        replace hO55 := hO55.mod0 m87
        replace hO56 := hO56.mod0 m87
        replace hK := hK.none m87
        clear hKs m87
        refine st (v := (.tuple #[(I r79.1), (B r79.2)])) (rv_move rfl) ?_
        refine st (v := (I r79.1)) (rv_extract rfl rfl) ?_
        refine st (v := (B r79.2)) (rv_extract rfl rfl) ?_
        refine st (v := (I r79.1)) (rv_assign rfl) ?_
        refine st (v := (B r79.2)) (rv_assign rfl) ?_
        refine w_end ?_
        refine q_then ?_
        refine c_seq ?_
        refine rg ?_
        refine st (v := (Sl a9 r2.2 c10)) (rv_move rfl) ?_
        refine st (v := (Sl a6 r2.1 c7)) (rv_move rfl) ?_
        obtain ⟨σ90, hw91, m92, hR93⟩ := hO56.pub' (Nat.le_refl _)
        obtain ⟨σ94, hw95, m96, hR97⟩ := (hO55.mod' m92 (by first | exact (hd57).symm | exact Df.re (hd57).symm)).pub' (Nat.le_refl _)
        rw [← (hw95.trans hw91)]
        obtain ⟨r98, hx99, h'⟩ := bind_some h
        clear h
        have h := h'; clear h'
        refine st_call (c_impl_DotOf ((hR93.low (Nat.zero_le _)).mod m96) (hR97.low (Nat.zero_le _)) hx99) rfl ?_
        have hd102 := ltb_size hO55.ltb (hw95.trans hw91)
        have hd103 := ltb_size hO56.ltb (hw95.trans hw91)
        have hKs := size_le hK.size (hw95.trans hw91)
        rintro _ σ100 m101 rfl
        obtain ⟨σ104, hw105, m106, hxl107, hvl108⟩ := lent (hw95.trans hw91) m101
        rw [← hw105]
        replace hO55 := hO55.mod0 m106
        replace hO56 := hO56.mod0 m106
        replace hK := hK.none m106
        clear hKs m106
        refine st (v := (.tuple #[(I r98.1), (B r98.2)])) (rv_move rfl) ?_
        refine st (v := (I r98.1)) (rv_extract rfl rfl) ?_
        refine st (v := (B r98.2)) (rv_extract rfl rfl) ?_
        refine st (v := (I r98.1)) (rv_assign rfl) ?_
        refine st (v := (B r98.2)) (rv_assign rfl) ?_
        refine w_end ?_
        refine q_then ?_
        refine c_seq ?_
        refine rg ?_
        refine st (v := (B r64.2)) (rv_move rfl) ?_
        refine st (v := (B r64.2)) (rv_move rfl) ?_
        rcases Bool.eq_false_or_eq_true r64.2 with hb109 | hb109
        · replace h := bif_t hb109 h
          refine st_g (v := (B r79.2)) (congrArg some hb109) (rv_move rfl) ?_
          refine st (v := (B r79.2)) (rv_pick_t (congrArg B hb109) rfl) ?_
          refine st (v := (B r79.2)) (rv_move rfl) ?_
          rcases Bool.eq_false_or_eq_true r79.2 with hb110 | hb110
          · replace h := bif_t hb110 h
            refine st_g (v := (B r98.2)) (congrArg some hb110) (rv_move rfl) ?_
            refine st (v := (B r98.2)) (rv_pick_t (congrArg B hb110) rfl) ?_
            refine st (v := (B r98.2)) (rv_move rfl) ?_
            rcases Bool.eq_false_or_eq_true r98.2 with hb111 | hb111
            · replace h := bif_t hb111 h
              refine st_g (v := (I r98.1)) (congrArg some hb111) (rv_move rfl) ?_
              refine st_g (v := (I r21.1)) (congrArg some hb111) (rv_move rfl) ?_
              refine st_g (v := (B (r98.1 == r21.1))) (congrArg some hb111) (rv_eql (a := r98.1) (b := r21.1) rfl rfl) ?_
              refine st (v := (B (r98.1 == r21.1))) (rv_pick_t (congrArg B hb111) rfl) ?_
              refine st (v := (B (r98.1 == r21.1))) (rv_move rfl) ?_
              rcases Bool.eq_false_or_eq_true (r98.1 == r21.1) with hb112 | hb112
              · replace h := bif_t hb112 h
                refine st_g (v := (Sl a6 r2.1 c7)) (congrArg some hb112) (rv_move rfl) ?_
                refine st_g (v := (Sl a9 r2.2 c10)) (congrArg some hb112) (rv_move rfl) ?_
                have hg117 := hO55.ge
                obtain ⟨σ113, hw116, m114, hR115⟩ := hO55.pub' (Nat.le_refl _)
                rw [← hw116]; clear hw116
                replace hO56 := hO56.mod' m114 (by first | exact hd57 | exact Df.re hd57)
                replace hK := hK.own m114 hg117
                have hg122 := hO56.ge
                obtain ⟨σ118, hw121, m119, hR120⟩ := hO56.pub' (Nat.le_refl _)
                rw [← hw121]; clear hw121
                replace hR115 := hR115.mod m119
                replace hK := hK.own m119 hg122
                obtain ⟨r123, hx124, h'⟩ := bind_some h
                clear h
                have h := h'; clear h'
                refine st_call_g (by exact (congrArg some hb112)) (c_impl_Distance (hR115.low (Nat.zero_le _)) (hR120.low (Nat.zero_le _)) hx124) rfl ?_
                have hKs := hK.size
                rintro _ σ125 m126 rfl
                replace hR115 := hR115.mod m126
                replace hR120 := hR120.mod m126
                replace hK := hK.none m126
                clear hKs m126
                refine st_g (v := (I r64.1)) (congrArg some hb112) (rv_move rfl) ?_
                refine st_g (v := (I r79.1)) (congrArg some hb112) (rv_move rfl) ?_
                refine st_g (v := (I (w64 (r64.1 + r79.1)))) (congrArg some hb112) (rv_add (a := r64.1) (b := r79.1) rfl rfl) ?_
                refine st_g (v := (I r21.1)) (congrArg some hb112) (rv_move rfl) ?_
                refine st_g (v := (I (w64 (2 * r21.1)))) (congrArg some hb112) (rv_mul (a := 2) (b := r21.1) rfl rfl) ?_
                refine st_g (v := (I (w64 ((w64 (r64.1 + r79.1)) - (w64 (2 * r21.1)))))) (congrArg some hb112) (rv_sub (a := (w64 (r64.1 + r79.1))) (b := (w64 (2 * r21.1))) rfl rfl) ?_
                refine st_g (v := (B (r123 == (w64 ((w64 (r64.1 + r79.1)) - (w64 (2 * r21.1))))))) (congrArg some hb112) (rv_eql (a := r123) (b := (w64 ((w64 (r64.1 + r79.1)) - (w64 (2 * r21.1))))) rfl rfl) ?_
                refine st (v := (B (r123 == (w64 ((w64 (r64.1 + r79.1)) - (w64 (2 * r21.1))))))) (rv_pick_t (congrArg B hb112) rfl) ?_
                refine st (v := (B (r123 == (w64 ((w64 (r64.1 + r79.1)) - (w64 (2 * r21.1))))))) (rv_assign rfl) ?_
                refine w_end ?_
                refine q_then ?_
                refine c_ret ?_
                obtain rfl := Option.some.inj h
                exact bodyPost_ret (v := (B (r123 == (w64 ((w64 (r64.1 + r79.1)) - (w64 (2 * r21.1))))))) (results_fr1 Try.results7 rfl _) rfl ⟨_, σ125, rfl, rfl, hK, rfl⟩
              · replace h := bif_f hb112 h
                refine st_skip (congrArg some hb112) ?_
                refine st_skip (congrArg some hb112) ?_
                refine st_skip (congrArg some hb112) ?_
                refine st_skip (congrArg some hb112) ?_
                refine st_skip (congrArg some hb112) ?_
                refine st_skip (congrArg some hb112) ?_
                refine st_skip (congrArg some hb112) ?_
                refine st_skip (congrArg some hb112) ?_
                refine st_skip (congrArg some hb112) ?_
                refine st_skip (congrArg some hb112) ?_
                refine st (v := (B false)) (rv_pick_f (congrArg B hb112) rfl) ?_
                refine st (v := (B false)) (rv_assign rfl) ?_
                refine w_end ?_
                refine q_then ?_
                refine c_ret ?_
                obtain rfl := Option.some.inj h
                exact bodyPost_ret (v := (B false)) (results_fr1 Try.results7 rfl _) rfl ⟨_, σ104, rfl, rfl, hK, rfl⟩
            · replace h := bif_f hb111 h
              refine st_skip (congrArg some hb111) ?_
              refine st_skip (congrArg some hb111) ?_
              refine st_skip (congrArg some hb111) ?_
              refine st (v := (B false)) (rv_pick_f (congrArg B hb111) rfl) ?_
              refine st (v := (B false)) (rv_move rfl) ?_
              refine st_skip rfl ?_
              refine st_skip rfl ?_
              refine st_skip rfl ?_
              refine st_skip rfl ?_
              refine st_skip rfl ?_
              refine st_skip rfl ?_
              refine st_skip rfl ?_
              refine st_skip rfl ?_
              refine st_skip rfl ?_
              refine st_skip rfl ?_
              refine st (v := (B false)) (rv_pick_f rfl rfl) ?_
              refine st (v := (B false)) (rv_assign rfl) ?_
              refine w_end ?_
              refine q_then ?_
              refine c_ret ?_
              obtain rfl := Option.some.inj h
              exact bodyPost_ret (v := (B false)) (results_fr1 Try.results7 rfl _) rfl ⟨_, σ104, rfl, rfl, hK, rfl⟩
          · replace h := bif_f hb110 h
            refine st_skip (congrArg some hb110) ?_
            refine st (v := (B false)) (rv_pick_f (congrArg B hb110) rfl) ?_
            refine st (v := (B false)) (rv_move rfl) ?_
            refine st_skip rfl ?_
            refine st_skip rfl ?_
            refine st_skip rfl ?_
            refine st (v := (B false)) (rv_pick_f rfl rfl) ?_
            refine st (v := (B false)) (rv_move rfl) ?_
            refine st_skip rfl ?_
            refine st_skip rfl ?_
            refine st_skip rfl ?_
            refine st_skip rfl ?_
            refine st_skip rfl ?_
            refine st_skip rfl ?_
            refine st_skip rfl ?_
            refine st_skip rfl ?_
            refine st_skip rfl ?_
            refine st_skip rfl ?_
            refine st (v := (B false)) (rv_pick_f rfl rfl) ?_
            refine st (v := (B false)) (rv_assign rfl) ?_
            refine w_end ?_
            refine q_then ?_
            refine c_ret ?_
            obtain rfl := Option.some.inj h
            exact bodyPost_ret (v := (B false)) (results_fr1 Try.results7 rfl _) rfl ⟨_, σ104, rfl, rfl, hK, rfl⟩
        · replace h := bif_f hb109 h
          refine st_skip (congrArg some hb109) ?_
          refine st (v := (B false)) (rv_pick_f (congrArg B hb109) rfl) ?_
          refine st (v := (B false)) (rv_move rfl) ?_
          refine st_skip rfl ?_
          refine st (v := (B false)) (rv_pick_f rfl rfl) ?_
          refine st (v := (B false)) (rv_move rfl) ?_
          refine st_skip rfl ?_
          refine st_skip rfl ?_
          refine st_skip rfl ?_
          refine st (v := (B false)) (rv_pick_f rfl rfl) ?_
          refine st (v := (B false)) (rv_move rfl) ?_
          refine st_skip rfl ?_
          refine st_skip rfl ?_
          refine st_skip rfl ?_
          refine st_skip rfl ?_
          refine st_skip rfl ?_
          refine st_skip rfl ?_
          refine st_skip rfl ?_
          refine st_skip rfl ?_
          refine st_skip rfl ?_
          refine st_skip rfl ?_
          refine st (v := (B false)) (rv_pick_f rfl rfl) ?_
          refine st (v := (B false)) (rv_assign rfl) ?_
          refine w_end ?_
          refine q_then ?_
          refine c_ret ?_
          obtain rfl := Option.some.inj h
          exact bodyPost_ret (v := (B false)) (results_fr1 Try.results7 rfl _) rfl ⟨_, σ104, rfl, rfl, hK, rfl⟩

theorem c_laws_FnDotOfBound {σ0 : St} {code_0 : List UInt8} {acode_0 : Option Addr} {ccode_0 : Nat} (hRcode_0 : RS 0 σ0 (Sl acode_0 code_0 ccode_0) code_0) {r : Bool} (h : M.laws_FnDotOfBound code_0 = some r) :
    Cal Try.prog 8 [(Sl acode_0 code_0 ccode_0)] none σ0 (fun v σ' => v = (B r)) := by
  refine ⟨⟨_, _, Try.func8, rfl, rfl⟩, ?_⟩
  refine enter (n := 76) Try.func8 rfl rfl rfl ?_
  unfold M.laws_FnDotOfBound at h
  have hK : Mod none σ0 σ0 := Mod.refl _ _
  refine c_seq ?_
  refine rg ?_
  refine st (v := (B false)) (rv_assign rfl) ?_
  refine w_end ?_
  refine q_then ?_
  refine c_seq ?_
  refine c_seq ?_
  refine rg ?_
  refine st (v := (Sl acode_0 code_0 ccode_0)) (rv_move rfl) ?_
  refine st (v := (I (code_0.length : Int))) (rv_len Try.underlying22 rfl) ?_
  refine st (v := (B (decide (1048576 < (code_0.length : Int))))) (rv_gtr (a := (code_0.length : Int)) (b := 1048576) rfl rfl) ?_
  refine w_end ?_
  refine q_then ?_
  refine cd_cond (decide (1048576 < (code_0.length : Int))) rfl (fun hb1 => ?_) (fun hb1 => ?_)
  · replace h := bif_t hb1 h
    refine c_seq ?_
    refine rg ?_
    refine st (v := (B true)) (rv_assign rfl) ?_
    refine w_end ?_
    refine q_then ?_
    refine c_ret ?_
    refine q_then_r ?_
    obtain rfl := Option.some.inj h
    exact bodyPost_ret (v := (B true)) (results_fr1 Try.results8 rfl _) rfl ⟨_, σ0, rfl, rfl, hK, rfl⟩
  · replace h := bif_f hb1 h
    refine c_skip ?_
    refine q_then ?_
    refine c_seq ?_
    refine rg ?_
    refine st (v := (Sl acode_0 code_0 ccode_0)) (rv_move rfl) ?_
    obtain ⟨r2, hx3, h'⟩ := bind_some h
    clear h
    have h := h'; clear h'
    refine st_call (c_spec_DrawDotOf hRcode_0 hx3) rfl ?_
    have hKs := hK.size
    rintro _ σ4 m5 ⟨a6, c7, a9, c10, rfl, hO8, hO11, hd12⟩
    replace hRcode_0 := hRcode_0.mod m5
    replace hK := hK.none m5
    have hO8g := hO8.ge
    replace hO8 := hO8.lo hKs
    replace hO8 := hO8.low' hKs
    have hO11g := hO11.ge
    replace hO11 := hO11.lo hKs
    replace hO11 := hO11.low' hKs
    clear hKs m5 hO8g hO11g
    refine st (v := (.tuple #[(Sl a6 r2.1 c7), (Sl a9 r2.2 c10)])) (rv_move rfl) ?_
    refine st (v := (Sl a6 r2.1 c7)) (rv_extract rfl rfl) ?_
    refine st (v := (Sl a9 r2.2 c10)) (rv_extract rfl rfl) ?_
    refine st (v := (Sl a6 r2.1 c7)) (rv_assign rfl) ?_
    refine st (v := (Sl a9 r2.2 c10)) (rv_assign rfl) ?_
    refine w_end ?_
    refine q_then ?_
    refine c_seq ?_
    refine rg ?_
    refine st (v := (Sl a6 r2.1 c7)) (rv_move rfl) ?_
    refine st (v := (Sl a9 r2.2 c10)) (rv_move rfl) ?_
    obtain ⟨σ13, hw14, m15, hR16⟩ := hO8.pub' (Nat.le_refl _)
    obtain ⟨σ17, hw18, m19, hR20⟩ := (hO11.mod' m15 (by first | exact hd12 | exact Df.re hd12)).pub' (Nat.le_refl _)
    rw [← (hw18.trans hw14)]
    obtain ⟨r21, hx22, h'⟩ := bind_some h
    clear h
    have h := h'; clear h'
    refine st_call (c_impl_DotOf ((hR16.low (Nat.zero_le _)).mod m19) (hR20.low (Nat.zero_le _)) hx22) rfl ?_
    have hd25 := ltb_size hO8.ltb (hw18.trans hw14)
    have hd26 := ltb_size hO11.ltb (hw18.trans hw14)
    have hKs := size_le hK.size (hw18.trans hw14)
    rintro _ σ23 m24 rfl
    obtain ⟨σ27, hw28, m29, hxl30, hvl31⟩ := lent (hw18.trans hw14) m24
    rw [← hw28]
    replace hO8 := hO8.mod0 m29
    replace hO11 := hO11.mod0 m29
    replace hK := hK.none m29
    clear hKs m29
    refine st (v := (.tuple #[(I r21.1), (B r21.2)])) (rv_move rfl) ?_
    refine st (v := (I r21.1)) (rv_extract rfl rfl) ?_
    refine st (v := (B r21.2)) (rv_extract rfl rfl) ?_
    refine st (v := (I r21.1)) (rv_assign rfl) ?_
    refine st (v := (B r21.2)) (rv_assign rfl) ?_
    refine w_end ?_
    refine q_then ?_
    refine c_seq ?_
    refine rg ?_
    refine st (v := (Sl a6 r2.1 c7)) (rv_move rfl) ?_
    refine st (v := (Sl a9 r2.2 c10)) (rv_move rfl) ?_
    obtain ⟨σ32, hw33, m34, hR35⟩ := hO8.pub' (Nat.le_refl _)
    obtain ⟨σ36, hw37, m38, hR39⟩ := (hO11.mod' m34 (by first | exact hd12 | exact Df.re hd12)).pub' (Nat.le_refl _)
    rw [← (hw37.trans hw33)]
    obtain ⟨r40, hx41, h'⟩ := bind_some h
    clear h
    have h := h'; clear h'
    refine st_call (c_spec_DotOf ((hR35.low (Nat.zero_le _)).mod m38) (hR39.low (Nat.zero_le _)) hx41) rfl ?_
    have hd44 := ltb_size hO8.ltb (hw37.trans hw33)
    have hd45 := ltb_size hO11.ltb (hw37.trans hw33)
    have hKs := size_le hK.size (hw37.trans hw33)
    rintro _ σ42 m43 rfl
    obtain ⟨σ46, hw47, m48, hxl49, hvl50⟩ := lent (hw37.trans hw33) m43
    rw [← hw47]
    replace hO8 := hO8.mod0 m48
    replace hO11 := hO11.mod0 m48
    replace hK := hK.none m48
    clear hKs m48
    refine st (v := (.tuple #[(I r40.1), (B r40.2)])) (rv_move rfl) ?_
    refine st (v := (I r40.1)) (rv_extract rfl rfl) ?_
    refine st (v := (B r40.2)) (rv_extract rfl rfl) ?_
    refine st (v := (I r40.1)) (rv_assign rfl) ?_
    refine st (v := (B r40.2)) (rv_assign rfl) ?_
    refine w_end ?_
    refine q_then ?_
    refine c_seq ?_
    refine c_seq ?_
    obtain ⟨o51, hj, h'⟩ := bind_some h
    clear h
    refine c_cut (fun e a w => e = .normal ∧ ∃ (ρ : Nat → Value) (σ : St), a = fr 76 (updL ρ [(3, (Sl a6 r2.1 c7)), (4, (Sl a9 r2.2 c10)), (5, (I r21.1)), (6, (B r21.2)), (7, (I r40.1)), (8, (B r40.2)), (44, (B o51))]) ∧ w = σ.w ∧ Mod none σ0 σ ∧ Ow σ σ0.size σ0.size (Sl a6 r2.1 c7) r2.1 ∧ Ow σ σ0.size σ0.size (Sl a9 r2.2 c10) r2.2 ∧ Df (blk (Sl a9 r2.2 c10)) (blk (Sl a6 r2.1 c7))) ?_ ?_
    · clear h'
      rename _ = some o51 => h
      refine rg ?_
      refine st (v := (I r21.1)) (rv_move rfl) ?_
      refine st (v := (I r40.1)) (rv_move rfl) ?_
      refine st (v := (B (r21.1 != r40.1))) (rv_neq (a := r21.1) (b := r40.1) rfl rfl) ?_
      refine st (v := (B (r21.1 != r40.1))) (rv_move rfl) ?_
      rcases Bool.eq_false_or_eq_true (r21.1 != r40.1) with hb52 | hb52
      · replace h := bif_t hb52 h
        refine st_skip (congrArg some hb52) ?_
        refine st_skip (congrArg some hb52) ?_
        refine st_skip (congrArg some hb52) ?_
        refine st (v := (B true)) (rv_pick_t (congrArg B hb52) rfl) ?_
        refine st (v := (B true)) (rv_move rfl) ?_
        refine st_skip rfl ?_
        refine st_skip rfl ?_
        refine st (v := (B true)) (rv_pick_t rfl rfl) ?_
        refine w_end ?_
        obtain rfl := Option.some.inj h
        exact ⟨rfl, _, σ46, fr_join ⟨rfl, rfl, rfl, rfl, rfl, rfl, rfl, trivial⟩, rfl, hK, hO8, hO11, (by first | exact hd12 | exact Df.re hd12)⟩
      · replace h := bif_f hb52 h
        refine st_g (v := (B r21.2)) (congrArg some hb52) (rv_move rfl) ?_
        refine st_g (v := (B r40.2)) (congrArg some hb52) (rv_move rfl) ?_
        refine st_g (v := (B (r21.2 != r40.2))) (congrArg some hb52) (rv_bneq Try.underlying4 rfl rfl) ?_
        refine st (v := (B (r21.2 != r40.2))) (rv_pick_f (congrArg B hb52) rfl) ?_
        refine st (v := (B (r21.2 != r40.2))) (rv_move rfl) ?_
        rcases Bool.eq_false_or_eq_true (r21.2 != r40.2) with hb53 | hb53
        · replace h := bif_t hb53 h
          refine st_skip (congrArg some hb53) ?_
          refine st_skip (congrArg some hb53) ?_
          refine st (v := (B true)) (rv_pick_t (congrArg B hb53) rfl) ?_
          refine w_end ?_
          obtain rfl := Option.some.inj h
          exact ⟨rfl, _, σ46, fr_join ⟨rfl, rfl, rfl, rfl, rfl, rfl, rfl, trivial⟩, rfl, hK, hO8, hO11, (by first | exact hd12 | exact Df.re hd12)⟩
        · replace h := bif_f hb53 h
          refine st_g (v := (B r21.2)) (congrArg some hb53) (rv_move rfl) ?_
          refine st_g (v := (B (!r21.2))) (congrArg some hb53) (rv_not rfl) ?_
          refine st (v := (B (!r21.2))) (rv_pick_f (congrArg B hb53) rfl) ?_
          refine w_end ?_
          obtain rfl := Option.some.inj h
          exact ⟨rfl, _, σ46, fr_join ⟨rfl, rfl, rfl, rfl, rfl, rfl, rfl, trivial⟩, rfl, hK, hO8, hO11, (by first | exact hd12 | exact Df.re hd12)⟩
    · clear hj
      have h := h'
      clear h'
      rintro e a w ⟨rfl, ρ, σ54, rfl, rfl, hK, hO55, hO56, hd57⟩
      refine q_then ?_
      refine cd_cond o51 rfl (fun hb58 => ?_) (fun hb58 => ?_)
      · replace h := bif_t hb58 h
        refine c_seq ?_
        refine rg ?_
        refine st (v := (I r21.1)) (rv_move rfl) ?_
        refine st (v := (I r40.1)) (rv_move rfl) ?_
        refine st (v := (B (r21.1 == r40.1))) (rv_eql (a := r21.1) (b := r40.1) rfl rfl) ?_
        refine st (v := (B (r21.1 == r40.1))) (rv_move rfl) ?_
        rcases Bool.eq_false_or_eq_true (r21.1 == r40.1) with hb59 | hb59
        · replace h := bif_t hb59 h
          refine st_g (v := (B r21.2)) (congrArg some hb59) (rv_move rfl) ?_
          refine st_g (v := (B r40.2)) (congrArg some hb59) (rv_move rfl) ?_
          refine st_g (v := (B (r21.2 == r40.2))) (congrArg some hb59) (rv_beql Try.underlying4 rfl rfl) ?_
          refine st (v := (B (r21.2 == r40.2))) (rv_pick_t (congrArg B hb59) rfl) ?_
          refine st (v := (B (r21.2 == r40.2))) (rv_assign rfl) ?_
          refine w_end ?_
          refine q_then ?_
          refine c_ret ?_
          refine q_then_r ?_
          obtain rfl := Option.some.inj h
          exact bodyPost_ret (v := (B (r21.2 == r40.2))) (results_fr1 Try.results8 rfl _) rfl ⟨_, σ54, rfl, rfl, hK, rfl⟩
        · replace h := bif_f hb59 h
          refine st_skip (congrArg some hb59) ?_
          refine st_skip (congrArg some hb59) ?_
          refine st_skip (congrArg some hb59) ?_
          refine st (v := (B false)) (rv_pick_f (congrArg B hb59) rfl) ?_
          refine st (v := (B false)) (rv_assign rfl) ?_
          refine w_end ?_
          refine q_then ?_
          refine c_ret ?_
          refine q_then_r ?_
          obtain rfl := Option.some.inj h
          exact bodyPost_ret (v := (B false)) (results_fr1 Try.results8 rfl _) rfl ⟨_, σ54, rfl, rfl, hK, rfl⟩
      · replace h := bif_f hb58 h
        refine c_skip ?_
        refine q_then ?_
        refine c_seq ?_
        refine rg ?_
        refine st (v := (Sl a6 r2.1 c7)) (rv_move rfl) ?_
        refine st (v := (Sl a6 r2.1 c7)) (rv_move rfl) ?_
        have hg64 := hO55.ge
        obtain ⟨σ60, hw63, m61, hR62⟩ := hO55.pub' (Nat.le_refl _)
        rw [← hw63]; clear hw63
        replace hO56 := hO56.mod' m61 (by first | exact hd57 | exact Df.re hd57)
        replace hK := hK.own m61 hg64
        obtain ⟨r65, hx66, h'⟩ := bind_some h
        clear h
        have h := h'; clear h'
        refine st_call (c_impl_DotOf (hR62.low (Nat.zero_le _)) (hR62.low (Nat.zero_le _)) hx66) rfl ?_
        have hd69 := hO56.ltb
        have hKs := hK.size
        rintro _ σ67 m68 rfl
        replace hO56 := hO56.mod0 m68
        replace hR62 := hR62.mod m68
        replace hK := hK.none m68
        clear hKs m68
        refine st (v := (.tuple #[(I r65.1), (B r65.2)])) (rv_move rfl) ?_
        refine st (v := (I r65.1)) (rv_extract rfl rfl) ?_
        refine st (v := (B r65.2)) (rv_extract rfl rfl) ?_
        refine st (v := (I r65.1)) (rv_assign rfl) ?_
        refine st (v := (B r65.2)) (rv_assign rfl) ?_
        refine w_end ?_
        refine q_then ?_
        refine c_seq ?_
        refine rg ?_
        refine st (v := (Sl a9 r2.2 c10)) (rv_move rfl) ?_
        refine st (v := (Sl a9 r2.2 c10)) (rv_move rfl) ?_
        have hg74 := hO56.ge
        obtain ⟨σ70, hw73, m71, hR72⟩ := hO56.pub' (Nat.le_refl _)
        rw [← hw73]; clear hw73
        replace hK := hK.own m71 hg74
        obtain ⟨r75, hx76, h'⟩ := bind_some h
        clear h
        have h := h'; clear h'
        refine st_call (c_impl_DotOf (hR72.low (Nat.zero_le _)) (hR72.low (Nat.zero_le _)) hx76) rfl ?_
        have hKs := hK.size
        rintro _ σ77 m78 rfl
        replace hR72 := hR72.mod m78
        replace hK := hK.none m78
        clear hKs m78
        refine st (v := (.tuple #[(I r75.1), (B r75.2)])) (rv_move rfl) ?_
        refine st (v := (I r75.1)) (rv_extract rfl rfl) ?_
        refine st (v := (B r75.2)) (rv_extract rfl rfl) ?_
        refine st (v := (I r75.1)) (rv_assign rfl) ?_
        refine st (v := (B r75.2)) (rv_assign rfl) ?_
        refine w_end ?_
        refine q_then ?_
        refine c_seq ?_
        refine rg ?_
        refine st (v := (I r21.1)) (rv_move rfl) ?_
        refine st (v := (I r21.1)) (rv_move rfl) ?_
        refine st (v := (I (w64 (r21.1 * r21.1)))) (rv_mul (a := r21.1) (b := r21.1) rfl rfl) ?_
        refine st (v := (I r65.1)) (rv_move rfl) ?_
        refine st (v := (I r75.1)) (rv_move rfl) ?_
        refine st (v := (I (w64 (r65.1 * r75.1)))) (rv_mul (a := r65.1) (b := r75.1) rfl rfl) ?_
        refine st (v := (B (decide ((w64 (r21.1 * r21.1)) ≤ (w64 (r65.1 * r75.1)))))) (rv_leq (a := (w64 (r21.1 * r21.1))) (b := (w64 (r65.1 * r75.1))) rfl rfl) ?_
        refine st (v := (B (decide ((w64 (r21.1 * r21.1)) ≤ (w64 (r65.1 * r75.1)))))) (rv_move rfl) ?_
        rcases Bool.eq_false_or_eq_true (decide ((w64 (r21.1 * r21.1)) ≤ (w64 (r65.1 * r75.1)))) with hb79 | hb79
        · replace h := bif_t hb79 h
          refine st_g (v := (I r65.1)) (congrArg some hb79) (rv_move rfl) ?_
          refine st_g (v := (B (decide (0 ≤ r65.1)))) (congrArg some hb79) (rv_geq (a := r65.1) (b := 0) rfl rfl) ?_
          refine st (v := (B (decide (0 ≤ r65.1)))) (rv_pick_t (congrArg B hb79) rfl) ?_
          refine st (v := (B (decide (0 ≤ r65.1)))) (rv_assign rfl) ?_
          refine w_end ?_
          refine q_then ?_
          refine c_ret ?_
          obtain rfl := Option.some.inj h
          exact bodyPost_ret (v := (B (decide (0 ≤ r65.1)))) (results_fr1 Try.results8 rfl _) rfl ⟨_, σ77, rfl, rfl, hK, rfl⟩
        · replace h := bif_f hb79 h
          refine st_skip (congrArg some hb79) ?_
          refine st_skip (congrArg some hb79) ?_
          refine st (v := (B false)) (rv_pick_f (congrArg B hb79) rfl) ?_
          refine st (v := (B false)) (rv_assign rfl) ?_
          refine w_end ?_
          refine q_then ?_
          refine c_ret ?_
          obtain rfl := Option.some.inj h
          exact bodyPost_ret (v := (B false)) (results_fr1 Try.results8 rfl _) rfl ⟨_, σ77, rfl, rfl, hK, rfl⟩

theorem c_spec_DrawMeanOf {σ0 : St} {code_0 : List UInt8} {acode_0 : Option Addr} {ccode_0 : Nat} (hRcode_0 : RS 0 σ0 (Sl acode_0 code_0 ccode_0) code_0) {r : (List (List Int))} (h : M.spec_DrawMeanOf code_0 = some r) :
    Cal Try.prog 25 [(Sl acode_0 code_0 ccode_0)] none σ0 (fun v σ' => ∃ (a0 : Option Addr) (c0 : Nat), v = (Sl a0 r c0) ∧ Ow σ' σ0.size σ0.size (Sl a0 r c0) r) := by
  refine ⟨⟨_, _, Try.func25, rfl, rfl⟩, ?_⟩
  refine enter (n := 30) Try.func25 rfl rfl rfl ?_
  unfold M.spec_DrawMeanOf at h
  have hK : Mod none σ0 σ0 := Mod.refl _ _
  refine c_seq ?_
  refine rg ?_
  refine st (v := (.slice none 0 0)) (rv_assign rfl) ?_
  refine w_end ?_
  refine q_then ?_
  refine c_seq ?_
  refine rg ?_
  refine st (v := (Sl acode_0 code_0 ccode_0)) (rv_move rfl) ?_
  obtain ⟨r1, hx2, h'⟩ := bind_some h
  clear h
  have h := h'; clear h'
  refine st_call (c_spec_newReader hRcode_0 hx2) rfl ?_
  have hKs := hK.size
  rintro _ σ3 m4 ⟨b5, a8, c9, rfl, hR10, hge6, hB7⟩
  replace hRcode_0 := hRcode_0.mod m4
  replace hK := hK.none m4
  replace hge6 := Nat.le_trans hKs hge6
  clear hKs m4
  refine st (v := (pt b5 0)) (rv_assign rfl) ?_
  refine w_end ?_
  refine q_then ?_
  refine c_seq ?_
  refine rg ?_
  refine st_buildSlice (lo := σ0.size) (el := σ0.size) (xs := ([] : List (List Int))) (ps := []) (cs := []) Try.underlying35 ti23 rfl rfl (by kernel_rfl) (.nil) rfl ?_ hK.size (wanted_none _ rfl _)
  intro b12 σ13 hbn15 m14 hO11
  have hd16 := hB7.df' hbn15
  replace hR10 := hR10.mod m14
  replace hB7 := hB7.mod0 m14
  replace hK := hK.none m14
  clear hbn15 m14
  refine st (v := (Sl (some ⟨b12, 0, none⟩) ([] : List (List Int)) 0)) (rv_assign rfl) ?_
  refine w_end ?_
  refine q_then ?_
  refine c_seq ?_
  refine c_seq ?_
  refine rg ?_
  refine st (v := (pt b5 0)) (rv_move rfl) ?_
  refine st_buildSlice (lo := σ0.size) (el := σ0.size) (xs := ([3, 2, 4, 1, 0, 16, 17] : List Int)) (ps := [(0, (I 3)), (1, (I 2)), (2, (I 4)), (3, (I 1)), (4, (I 0)), (5, (I 16)), (6, (I 17))]) (cs := [(I 3), (I 2), (I 4), (I 1), (I 0), (I 16), (I 17)]) Try.underlying23 ti3 rfl rfl (by kernel_rfl) (.cons (c := [(I 3)]) rfl (.cons (c := [(I 2)]) rfl (.cons (c := [(I 4)]) rfl (.cons (c := [(I 1)]) rfl (.cons (c := [(I 0)]) rfl (.cons (c := [(I 16)]) rfl (.cons (c := [(I 17)]) rfl (.nil)))))))) rfl ?_ hK.size (wanted_none _ rfl _)
  intro b18 σ19 hbn21 m20 hO17
  have hd22 := hO11.df' hbn21
  have hd23 := hB7.df' hbn21
  replace hR10 := hR10.mod m20
  replace hO11 := hO11.mod0 m20
  replace hB7 := hB7.mod0 m20
  replace hK := hK.none m20
  clear hbn21 m20
  have hg28 := hO17.ge
  obtain ⟨σ24, hw27, m25, hR26⟩ := hO17.pub' (Nat.le_refl _)
  rw [← hw27]; clear hw27
  replace hR10 := hR10.mod m25
  replace hO11 := hO11.mod' m25 (by first | exact hd22 | exact Df.re hd22)
  replace hB7 := hB7.mod' m25 (by first | exact hd23 | exact Df.reR hd23)
  replace hK := hK.own m25 hg28
  obtain ⟨r29, hx30, h'⟩ := bind_some h
  clear h
  have h := h'; clear h'
  refine st_call (c_spec_reader_one hR10 hB7 hB7.lt (hR26.low (Nat.zero_le _)) hx30) rfl ?_
  have hd37 := hO11.ltb
  have hd38 := hB7.ltb
  have hKs := hK.size
  rintro _ σ31 m32 ⟨a33, c34, rfl, hR35, hB36⟩
  replace hR10 := hR10.mod m32
  replace hO11 := hO11.mod' m32 (by first | exact (hd16).symm | exact Df.reL (hd16).symm)
  replace hR26 := hR26.mod m32
  replace hK := hK.some m32 hge6
  clear hKs m32
  refine st (v := (I r29.1)) (rv_assign rfl) ?_
  refine w_end ?_
  refine q_then ?_
  obtain ⟨o39, hj, h'⟩ := bind_some h
  clear h
  refine c_cut (fun e a w => e = .normal ∧ ∃ (ρ : Nat → Value) (σ : St) (aj1 : Option Addr) (cj2 : Nat) (aj5 : Option Addr) (cj6 : Nat), a = fr 30 (updL ρ [(3, (pt b5 0)), (4, (Sl aj5 o39.2 cj6))]) ∧ w = σ.w ∧ Mod none σ0 σ ∧ RS 0 σ (Sl aj1 o39.1.1 cj2) o39.1.1 ∧ Bx σ b5 [(Sl aj1 o39.1.1 cj2), (I o39.1.2)] ∧ Ow σ σ0.size σ0.size (Sl aj5 o39.2 cj6) o39.2 ∧ Df (blk (Sl aj5 o39.2 cj6)) (some b5)) ?_ ?_
  · clear h'
    rename _ = some o39 => h
    refine c_blk ?_
    refine wp_loopM _ h (fun s40 a w => ∃ (ρ : Nat → Value) (σ : St) (aj1 : Option Addr) (cj2 : Nat) (aj5 : Option Addr) (cj6 : Nat), a = fr 30 (updL ρ [(3, (pt b5 0)), (4, (Sl aj5 s40.2.1 cj6)), (5, (I s40.2.2))]) ∧ w = σ.w ∧ Mod none σ0 σ ∧ RS 0 σ (Sl aj1 s40.1.1 cj2) s40.1.1 ∧ Bx σ b5 [(Sl aj1 s40.1.1 cj2), (I s40.1.2)] ∧ Ow σ σ0.size σ0.size (Sl aj5 s40.2.1 cj6) s40.2.1 ∧ Df (blk (Sl aj5 s40.2.1 cj6)) (some b5)) ⟨_, σ31, a33, c34, (some ⟨b12, 0, none⟩), 0, fr_join ⟨rfl, rfl, rfl, trivial⟩, rfl, hK, hR35, hB36, hO11, (by first | exact (hd16).symm | exact Df.reL (hd16).symm)⟩ ?_
    clear h
    rintro s40 a w o ⟨ρ, σ42, a43, c44, a47, c48, rfl, rfl, hK, hR45, hB46, hO49, hd50⟩ h hres
    refine c_seq ?_
    refine c_seq ?_
    refine rg ?_
    refine st (v := (I s40.2.2)) (rv_move rfl) ?_
    refine st (v := (B (decide (0 < s40.2.2)))) (rv_gtr (a := s40.2.2) (b := 0) rfl rfl) ?_
    refine w_end ?_
    refine q_then ?_
    refine cd_cond (decide (0 < s40.2.2)) rfl (fun hb51 => ?_) (fun hb51 => ?_)
    · replace h := bif_t hb51 h
      refine c_skip ?_
      refine q_then ?_
      refine c_seq ?_
      refine c_blk ?_
      refine rg ?_
      refine st (v := (Sl a47 s40.2.1 c48)) (rv_move rfl) ?_
      refine st (v := (pt b5 0)) (rv_move rfl) ?_
      obtain ⟨r52, hx53, h'⟩ := bind_some h
      clear h
      have h := h'; clear h'
      refine st_call (c_spec_someVector hR45 hB46 hB46.lt hx53) rfl ?_
      have hd63 := hO49.ltb
      have hd64 := hB46.ltb
      have hKs := hK.size
      rintro _ σ54 m55 ⟨a56, c57, a59, c60, rfl, hO58, hR61, hB62⟩
      replace hR45 := hR45.mod m55
      replace hO49 := hO49.mod' m55 (by first | exact hd50 | exact Df.reL hd50)
      replace hK := hK.some m55 hge6
      have hO58g := hO58.ge
      replace hO58 := hO58.lo hKs
      replace hO58 := hO58.low' hKs
      have hd65 := Df.ge hd63 hO58g
      have hd66 := Df.ge hd64 hO58g
      clear hKs m55 hO58g
      have hg71 := hO58.ge
      obtain ⟨σ67, hw70, m68, hR69⟩ := hO58.pub' (Nat.le_refl _)
      rw [← hw70]; clear hw70
      replace hR61 := hR61.mod m68
      replace hO49 := hO49.mod' m68 (by first | exact hd65 | exact Df.re hd65)
      replace hB62 := hB62.mod' m68 (by first | exact hd66 | exact Df.reR hd66)
      replace hK := hK.own m68 hg71
      refine st_buildSlice (lo := σ0.size) (el := σ0.size) (xs := ([r52.1] : List (List Int))) (ps := [(0, (Sl a56 r52.1 c57))]) (cs := [(Sl a56 r52.1 c57)]) Try.underlying35 ti23 rfl rfl (by kernel_rfl) (.cons (c := [(Sl a56 r52.1 c57)]) ⟨_, rfl, hR69⟩ (.nil)) rfl ?_ hK.size (wanted_none _ rfl _)
      intro b73 σ74 hbn76 m75 hO72
      have hd77 := hO49.df' hbn76
      have hd78 := hB62.df' hbn76
      replace hR61 := hR61.mod m75
      replace hO49 := hO49.mod0 m75
      replace hR69 := hR69.mod m75
      replace hB62 := hB62.mod0 m75
      replace hK := hK.none m75
      clear hbn76 m75
      obtain ⟨xs79, hx80, h'⟩ := bind_some h
      clear h
      have h := h'; clear h'
      have hg81 := hO49.ge
      refine st_append Try.underlying35 Try.underlying35 ti23 rfl rfl (by decide) hO49 hO72.rd hx80 hK.size rfl rfl ?_ (wanted_none _ rfl _)
      have hd88 := hB62.ltb
      intro a86 c87 σ82 m83 hO84 hq85
      replace hR61 := hR61.mod m83
      replace hB62 := hB62.mod' m83 (by first | exact (hd50).symm | exact Df.reR (hd50).symm)
      replace hK := hK.own m83 hg81
      have hd89 := Df.app (hd50).symm hd88 hq85
      clear hq85 m83
      refine st (v := (Sl a86 xs79 c87)) (rv_assign rfl) ?_
      refine w_end ?_
      refine q_blk ?_
      refine q_then ?_
      refine rg ?_
      refine st (v := (I s40.2.2)) (rv_move rfl) ?_
      refine st (v := (I (w64 (s40.2.2 - 1)))) (rv_sub (a := s40.2.2) (b := 1) rfl rfl) ?_
      refine st (v := (I (w64 (s40.2.2 - 1)))) (rv_assign rfl) ?_
      refine w_end ?_
      refine q_then ?_
      obtain rfl := Option.some.inj h
      exact ⟨_, rfl, _, σ82, a59, c60, a86, c87, fr_join ⟨rfl, rfl, rfl, trivial⟩, rfl, hK, hR61, hB62, hO84, (by first | exact (hd89).symm | exact Df.reL (hd89).symm)⟩
    · replace h := bif_f hb51 h
      refine c_exit ?_
      refine q_then_x ?_
      refine q_then_x ?_
      refine q_blk_hit ?_
      obtain rfl := Option.some.inj h
      obtain rfl := hres _ rfl
      exact ⟨rfl, _, σ42, a43, c44, a47, c48, fr_join ⟨rfl, rfl, trivial⟩, rfl, hK, hR45, hB46, hO49, (by first | exact hd50 | exact Df.reL hd50)⟩
  · clear hj
    have h := h'
    clear h'
    rintro e a w ⟨rfl, ρ, σ90, a91, c92, a95, c96, rfl, rfl, hK, hR93, hB94, hO97, hd98⟩
    refine q_then ?_
    refine c_seq ?_
    refine c_seq ?_
    refine rg ?_
    refine st (v := (pt b5 0)) (rv_move rfl) ?_
    obtain ⟨r99, hx100, h'⟩ := bind_some h
    clear h
    have h := h'; clear h'
    refine st_call (c_spec_reader_pick hR93 hB94 hB94.lt hx100) rfl ?_
    have hd107 := hO97.ltb
    have hd108 := hB94.ltb
    have hKs := hK.size
    rintro _ σ101 m102 ⟨a103, c104, rfl, hR105, hB106⟩
    replace hR93 := hR93.mod m102
    replace hO97 := hO97.mod' m102 (by first | exact hd98 | exact Df.reL hd98)
    replace hK := hK.some m102 hge6
    clear hKs m102
    refine st (v := (B (r99.1 == 0))) (rv_eql (a := r99.1) (b := 0) rfl rfl) ?_
    refine w_end ?_
    refine q_then ?_
    obtain ⟨o109, hj, h'⟩ := bind_some h
    clear h
    refine c_cut (fun e a w => e = .normal ∧ ∃ (ρ : Nat → Value) (σ : St) (aj1 : Option Addr) (cj2 : Nat), a = fr 30 (updL ρ [(4, (Sl aj1 o109 cj2))]) ∧ w = σ.w ∧ Mod none σ0 σ ∧ Ow σ σ0.size σ0.size (Sl aj1 o109 cj2) o109) ?_ ?_
    · clear h'
      rename _ = some o109 => h
      refine cd_cond (r99.1 == 0) rfl (fun hb110 => ?_) (fun hb110 => ?_)
      · replace h := bif_t hb110 h
        refine rg ?_
        refine st (v := (Sl a95 o39.2 c96)) (rv_move rfl) ?_
        refine st (v := (pt b5 0)) (rv_move rfl) ?_
        obtain ⟨r111, hx112, h'⟩ := bind_some h
        clear h
        have h := h'; clear h'
        refine st_call (c_spec_anyVector hR105 hB106 hB106.lt hx112) rfl ?_
        have hd122 := hO97.ltb
        have hd123 := hB106.ltb
        have hKs := hK.size
        rintro _ σ113 m114 ⟨a115, c116, a118, c119, rfl, hO117, hR120, hB121⟩
        replace hO97 := hO97.mod' m114 (by first | exact hd98 | exact Df.reL hd98)
        replace hR105 := hR105.mod m114
        replace hK := hK.some m114 hge6
        have hO117g := hO117.ge
        replace hO117 := hO117.lo hKs
        replace hO117 := hO117.low' hKs
        have hd124 := Df.ge hd122 hO117g
        have hd125 := Df.ge hd123 hO117g
        clear hKs m114 hO117g
        have hg130 := hO117.ge
        obtain ⟨σ126, hw129, m127, hR128⟩ := hO117.pub' (Nat.le_refl _)
        rw [← hw129]; clear hw129
        replace hO97 := hO97.mod' m127 (by first | exact hd124 | exact Df.re hd124)
        replace hK := hK.own m127 hg130
        refine st_buildSlice (lo := σ0.size) (el := σ0.size) (xs := ([r111.1] : List (List Int))) (ps := [(0, (Sl a115 r111.1 c116))]) (cs := [(Sl a115 r111.1 c116)]) Try.underlying35 ti23 rfl rfl (by kernel_rfl) (.cons (c := [(Sl a115 r111.1 c116)]) ⟨_, rfl, hR128⟩ (.nil)) rfl ?_ hK.size (wanted_none _ rfl _)
        intro b132 σ133 hbn135 m134 hO131
        have hd136 := hO97.df' hbn135
        replace hO97 := hO97.mod0 m134
        replace hR128 := hR128.mod m134
        replace hK := hK.none m134
        clear hbn135 m134
        obtain ⟨xs137, hx138, h'⟩ := bind_some h
        clear h
        have h := h'; clear h'
        have hg139 := hO97.ge
        refine st_append Try.underlying35 Try.underlying35 ti23 rfl rfl (by decide) hO97 hO131.rd hx138 hK.size rfl rfl ?_ (wanted_none _ rfl _)
        intro a144 c145 σ140 m141 hO142 hq143
        replace hK := hK.own m141 hg139
        clear hq143 m141
        refine st (v := (Sl a144 xs137 c145)) (rv_assign rfl) ?_
        refine w_end ?_
        obtain rfl := Option.some.inj h
        exact ⟨rfl, _, σ140, a144, c145, fr_join ⟨rfl, trivial⟩, rfl, hK, hO142⟩
      · replace h := bif_f hb110 h
        refine c_skip ?_
        obtain rfl := Option.some.inj h
        exact ⟨rfl, _, σ101, a95, c96, fr_join ⟨rfl, trivial⟩, rfl, hK, hO97⟩
    · clear hj
      have h := h'
      clear h'
      rintro e a w ⟨rfl, ρ, σ146, a147, c148, rfl, rfl, hK, hO149⟩
      refine q_then ?_
      refine c_seq ?_
      refine rg ?_
      refine st (v := (Sl a147 o109 c148)) (rv_move rfl) ?_
      refine st (v := (Sl a147 o109 c148)) (rv_assign rfl) ?_
      refine w_end ?_
      refine q_then ?_
      refine c_ret ?_
      obtain rfl := Option.some.inj h
      exact bodyPost_ret (v := (Sl a147 o109 c148)) (results_fr1 Try.results25 rfl _) rfl ⟨_, σ146, rfl, rfl, hK, a147, c148, rfl, hO149⟩

end Go.Vs
