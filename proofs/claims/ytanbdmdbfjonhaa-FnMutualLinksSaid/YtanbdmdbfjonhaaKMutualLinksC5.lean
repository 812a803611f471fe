/- The functions compute what their models say. -/
import Derived.Test.YtanbdmdbfjonhaaKMutualLinksC4
set_option linter.unusedVariables false
set_option linter.unusedSimpArgs false
set_option maxRecDepth 20000
namespace Go.Vs
open Go Go.Proofs
attribute [local irreducible] Code.wp Code.wpIn wpList wpListIn wpQuiet Calls CallsIn

theorem c_laws_FnMutualLinks {code_0 : List UInt8} {acode_0 : Option Addr} {ccode_0 : Nat} {r : Bool} (h : M.laws_FnMutualLinks code_0 = some r) :
    Cal2 Try.prog 3 [(Sl acode_0 code_0 ccode_0)] [Ch.ro 0 (Sl acode_0 code_0 ccode_0) code_0] (fun n0 v L => v = (B r) ∧ L = []) := by
 refine cal2 (n := 123) Try.func3 rfl rfl rfl rfl ?_
 intro S0 σ0 n0 hn0 H
 unfold M.laws_FnMutualLinks at h
 refine c_seq ?_
 refine rg ?_
 refine st (v := (B false)) (rv_assign rfl) ?_
 refine w_end ?_
 refine q_then ?_
 refine c_seq ?_
 refine c_seq ?_
 refine rg ?_
 refine st (v := (Sl acode_0 code_0 ccode_0)) (rv_move rfl) ?_
 refine st (v := (I (code_0.length : Int))) (rv_len Try.underlying22 rfl) ?_
 refine st (v := (B (decide (1048576 < (code_0.length : Int))))) (rv_gtr (a := (code_0.length : Int)) (b := 1048576) rfl rfl) ?_
 refine w_end ?_
 refine q_then ?_
 refine cd_cond (decide (1048576 < (code_0.length : Int))) rfl (fun hb1 => ?_) (fun hb1 => ?_)
 ·replace h := bif_t hb1 h
  refine c_seq ?_
  refine rg ?_
  refine st (v := (B true)) (rv_assign rfl) ?_
  refine w_end ?_
  refine q_then ?_
  refine c_ret ?_
  refine q_then_r ?_
  obtain rfl := Option.some.inj h
  exact fin_ret (v := (B true)) (results_ok Try.results3 (res_tmp (v := (B true)) rfl res_nil) rfl) ⟨rfl, rfl⟩ (H.sel' [] rfl rfl)
 ·replace h := bif_f hb1 h
  refine c_skip ?_
  refine q_then ?_
  refine c_seq ?_
  refine rg ?_
  refine st (v := (Sl acode_0 code_0 ccode_0)) (rv_move rfl) ?_
  obtain ⟨r2, hx3, h'⟩ := bind_some h
  clear h
  have h := h'; clear h'
  have hc4 := c_spec_DrawMutualLinks (acode_0 := acode_0) (ccode_0 := ccode_0) hx3
  refine st_call (cx_call hc4 (ent_f hc4.fn rfl) hn0 (show Hp S0 σ0 _ ([Ch.ro 0 (Sl acode_0 code_0 ccode_0) code_0] ++ [Ch.ro 0 (Sl acode_0 code_0 ccode_0) code_0]) from (H.sel' [0, 0] rfl rfl))) wn ?_
  rintro _ σ7 ⟨_, ⟨a5, c6, rfl, rfl⟩, H, -⟩
  replace H : Hp S0 σ0 σ7 [Ch.own n0 n0 (Sl a5 r2.1 c6) r2.1, Ch.ro 0 (Sl acode_0 code_0 ccode_0) code_0] := H
  refine st (v := (.tuple #[(Sl a5 r2.1 c6), (I r2.2.1), (I r2.2.2)])) (rv_move rfl) ?_
  refine st (v := (Sl a5 r2.1 c6)) (rv_extract rfl rfl) ?_
  refine st (v := (I r2.2.1)) (rv_extract rfl rfl) ?_
  refine st (v := (I r2.2.2)) (rv_extract rfl rfl) ?_
  refine st (v := (Sl a5 r2.1 c6)) (rv_assign rfl) ?_
  refine st (v := (I r2.2.1)) (rv_assign rfl) ?_
  refine st (v := (I r2.2.2)) (rv_assign rfl) ?_
  refine w_end ?_
  refine q_then ?_
  refine c_seq ?_
  refine rg ?_
  refine st (v := (Sl a5 r2.1 c6)) (rv_move rfl) ?_
  refine st (v := (I r2.2.1)) (rv_move rfl) ?_
  refine st (v := (I r2.2.2)) (rv_move rfl) ?_
  obtain ⟨r8, hx9, h'⟩ := bind_some h
  clear h
  have h := h'; clear h'
  have hc10 := c_impl_MutualLinks (alist_0 := a5) (clist_0 := c6) hx9
  have hle := Nat.le_trans hn0 H.size
  refine st_call (cx_lend (Loan.lend Loan.nil) hc10 (ent_f hc10.fn rfl) (show Hp S0 σ0 _ ([Ch.own n0 n0 (Sl a5 r2.1 c6) r2.1] ++ ([] ++ [Ch.ro 0 (Sl acode_0 code_0 ccode_0) code_0])) from (H.sel' [0, 1] rfl rfl)) (by rintro _ _ _ ⟨_, _, rfl, rfl⟩; exact ⟨Ab.own (Nat.le_refl _), trivial⟩)) wn ?_
  rintro _ σ13 ⟨_, ⟨a11, c12, rfl, rfl⟩, H, -, -⟩
  replace H : Hp S0 σ0 σ13 [Ch.own σ7.size σ7.size (Sl a11 r8 c12) r8, Ch.own n0 n0 (Sl a5 r2.1 c6) r2.1, Ch.ro 0 (Sl acode_0 code_0 ccode_0) code_0] := H
  replace H := H.ownLow 0 n0 n0 rfl hle hle
  clear hle
  replace H : Hp S0 σ0 σ13 [Ch.own n0 n0 (Sl a11 r8 c12) r8, Ch.own n0 n0 (Sl a5 r2.1 c6) r2.1, Ch.ro 0 (Sl acode_0 code_0 ccode_0) code_0] := H
  refine st (v := (Sl a11 r8 c12)) (rv_assign rfl) ?_
  refine w_end ?_
  refine q_then ?_
  refine c_seq ?_
  refine c_seq ?_
  obtain ⟨o14, hj, h'⟩ := bind_some h
  clear h
  refine c_cut (fun e a w => e = .normal ∧ ∃ (ρ : Nat → Value) (σ : St), a = fr 123 (updL ρ [(3, (Sl a5 r2.1 c6)), (4, (I r2.2.1)), (5, (I r2.2.2)), (6, (Sl a11 r8 c12)), (35, (B o14))]) ∧ w = σ.w ∧ Hp S0 σ0 σ [Ch.own n0 n0 (Sl a5 r2.1 c6) r2.1, Ch.own n0 n0 (Sl a11 r8 c12) r8]) ?_ ?_
  ·clear h'
   rename _ = some o14 => h
   refine rg ?_
   refine st (v := (Sl a11 r8 c12)) (rv_move rfl) ?_
   refine st (v := (Sl a5 r2.1 c6)) (rv_move rfl) ?_
   refine st (v := (I r2.2.1)) (rv_move rfl) ?_
   refine st (v := (I r2.2.2)) (rv_move rfl) ?_
   obtain ⟨r15, hx16, h'⟩ := bind_some h
   clear h
   have h := h'; clear h'
   have hc17 := c_spec_MutualLinks (alist_0 := a5) (clist_0 := c6) hx16
   have hle := Nat.le_trans hn0 H.size
   refine st_call (cx_lend (Loan.lend Loan.nil) hc17 (ent_f hc17.fn rfl) (show Hp S0 σ0 _ ([Ch.own n0 n0 (Sl a5 r2.1 c6) r2.1] ++ ([] ++ [Ch.own n0 n0 (Sl a11 r8 c12) r8, Ch.ro 0 (Sl acode_0 code_0 ccode_0) code_0])) from (H.sel' [1, 0, 2] rfl rfl)) (by rintro _ _ _ ⟨_, _, rfl, rfl⟩; exact ⟨Ab.own (Nat.le_refl _), trivial⟩)) wn ?_
   rintro _ σ20 ⟨_, ⟨a18, c19, rfl, rfl⟩, H, -, -⟩
   replace H : Hp S0 σ0 σ20 [Ch.own σ13.size σ13.size (Sl a18 r15 c19) r15, Ch.own n0 n0 (Sl a5 r2.1 c6) r2.1, Ch.own n0 n0 (Sl a11 r8 c12) r8, Ch.ro 0 (Sl acode_0 code_0 ccode_0) code_0] := H
   replace H := H.ownLow 0 n0 n0 rfl hle hle
   clear hle
   replace H : Hp S0 σ0 σ20 [Ch.own n0 n0 (Sl a18 r15 c19) r15, Ch.own n0 n0 (Sl a5 r2.1 c6) r2.1, Ch.own n0 n0 (Sl a11 r8 c12) r8, Ch.ro 0 (Sl acode_0 code_0 ccode_0) code_0] := H
   obtain ⟨σ21, hw22, H, -⟩ := H.pub 0 rfl (Nat.le_refl _)
   rw [← hw22]; clear hw22
   replace H := H.roLow 0 0 rfl (Nat.zero_le _)
   obtain ⟨r23, hx24, h'⟩ := bind_some h
   clear h
   have h := h'; clear h'
   have hc25 := c_laws_equalLists (aa_0 := a11) (ca_0 := c12) (ab_1 := a18) (cb_1 := c19) hx24
   have hle := Nat.le_trans hn0 H.size
   refine st_call (cx_lend (Loan.lend (Loan.same Loan.nil)) hc25 (ent_f hc25.fn rfl) (show Hp S0 σ0 _ ([Ch.own n0 n0 (Sl a11 r8 c12) r8] ++ ([Ch.ro 0 (Sl a18 r15 c19) r15] ++ [Ch.ro 0 (Sl a18 r15 c19) r15, Ch.ro n0 (Sl a18 r15 c19) r15, Ch.own n0 n0 (Sl a5 r2.1 c6) r2.1, Ch.ro 0 (Sl acode_0 code_0 ccode_0) code_0])) from (H.sel' [3, 0, 0, 1, 2, 4] rfl rfl)) (by rintro _ _ _ ⟨rfl, rfl⟩; exact trivial)) wn ?_
   rintro _ σ26 ⟨_, ⟨rfl, rfl⟩, H, -, -⟩
   replace H : Hp S0 σ0 σ26 [Ch.own n0 n0 (Sl a11 r8 c12) r8, Ch.ro 0 (Sl a18 r15 c19) r15, Ch.ro n0 (Sl a18 r15 c19) r15, Ch.own n0 n0 (Sl a5 r2.1 c6) r2.1, Ch.ro 0 (Sl acode_0 code_0 ccode_0) code_0] := H
   clear hle
   replace H : Hp S0 σ0 σ26 [Ch.own n0 n0 (Sl a11 r8 c12) r8, Ch.ro 0 (Sl a18 r15 c19) r15, Ch.ro n0 (Sl a18 r15 c19) r15, Ch.own n0 n0 (Sl a5 r2.1 c6) r2.1, Ch.ro 0 (Sl acode_0 code_0 ccode_0) code_0] := H
   refine st (v := (B (!r23))) (rv_not rfl) ?_
   refine st (v := (B (!r23))) (rv_move rfl) ?_
   rcases Bool.eq_false_or_eq_true (!r23) with hb27 | hb27
   ·replace h := bif_t hb27 h
    refine st_skip (congrArg some hb27) ?_
    refine st_skip (congrArg some hb27) ?_
    refine st_skip (congrArg some hb27) ?_
    refine st (v := (B true)) (rv_pick_t (congrArg B hb27) rfl) ?_
    refine w_end ?_
    obtain rfl := Option.some.inj h
    exact ⟨rfl, _, σ26, fr_join ⟨rfl, rfl, rfl, rfl, rfl, trivial⟩, rfl, H.sel' [3, 0] rfl rfl⟩
   ·replace h := bif_f hb27 h
    refine st_g (v := (Sl a11 r8 c12)) (congrArg some hb27) (rv_move rfl) ?_
    refine st_g (v := (I (r8.length : Int))) (congrArg some hb27) (rv_len Try.underlying26 rfl) ?_
    refine st_g (v := (B ((r8.length : Int) == 0))) (congrArg some hb27) (rv_eql (a := (r8.length : Int)) (b := 0) rfl rfl) ?_
    refine st (v := (B ((r8.length : Int) == 0))) (rv_pick_f (congrArg B hb27) rfl) ?_
    refine w_end ?_
    obtain rfl := Option.some.inj h
    exact ⟨rfl, _, σ26, fr_join ⟨rfl, rfl, rfl, rfl, rfl, trivial⟩, rfl, H.sel' [3, 0] rfl rfl⟩
  ·clear hj
   have h := h'
   clear h' H
   rintro e a w ⟨rfl, ρ, σ28, rfl, rfl, H⟩
   refine q_then ?_
   refine cd_cond o14 rfl (fun hb29 => ?_) (fun hb29 => ?_)
   ·replace h := bif_t hb29 h
    refine c_seq ?_
    refine rg ?_
    refine st (v := (Sl a11 r8 c12)) (rv_move rfl) ?_
    refine st (v := (Sl a5 r2.1 c6)) (rv_move rfl) ?_
    refine st (v := (I r2.2.1)) (rv_move rfl) ?_
    refine st (v := (I r2.2.2)) (rv_move rfl) ?_
    obtain ⟨σ30, hw31, H, -⟩ := H.pub 0 rfl (Nat.le_refl _)
    rw [← hw31]; clear hw31
    replace H := H.roLow 0 0 rfl (Nat.zero_le _)
    obtain ⟨r32, hx33, h'⟩ := bind_some h
    clear h
    have h := h'; clear h'
    have hc34 := c_spec_MutualLinks (alist_0 := a5) (clist_0 := c6) hx33
    refine st_call (cx_call hc34 (ent_f hc34.fn rfl) hn0 (show Hp S0 σ0 _ ([Ch.ro 0 (Sl a5 r2.1 c6) r2.1] ++ [Ch.ro 0 (Sl a5 r2.1 c6) r2.1, Ch.ro n0 (Sl a5 r2.1 c6) r2.1, Ch.own n0 n0 (Sl a11 r8 c12) r8]) from (H.sel' [0, 0, 1, 2] rfl rfl))) wn ?_
    rintro _ σ37 ⟨_, ⟨a35, c36, rfl, rfl⟩, H, -⟩
    replace H : Hp S0 σ0 σ37 [Ch.own n0 n0 (Sl a35 r32 c36) r32, Ch.ro 0 (Sl a5 r2.1 c6) r2.1, Ch.ro n0 (Sl a5 r2.1 c6) r2.1, Ch.own n0 n0 (Sl a11 r8 c12) r8] := H
    obtain ⟨σ38, hw39, H, -⟩ := H.pub 3 rfl (Nat.le_refl _)
    rw [← hw39]; clear hw39
    obtain ⟨σ40, hw41, H, -⟩ := H.pub 1 rfl (Nat.le_refl _)
    rw [← hw41]; clear hw41
    replace H := H.roLow 1 0 rfl (Nat.zero_le _)
    replace H := H.roLow 1 0 rfl (Nat.zero_le _)
    obtain ⟨r42, hx43, h'⟩ := bind_some h
    clear h
    have h := h'; clear h'
    have hc44 := c_laws_equalLists (aa_0 := a11) (ca_0 := c12) (ab_1 := a35) (cb_1 := c36) hx43
    refine st_call (cx_call hc44 (ent_f hc44.fn rfl) hn0 (show Hp S0 σ0 _ ([Ch.ro 0 (Sl a11 r8 c12) r8, Ch.ro 0 (Sl a35 r32 c36) r32] ++ [Ch.ro 0 (Sl a35 r32 c36) r32, Ch.ro 0 (Sl a11 r8 c12) r8, Ch.ro n0 (Sl a35 r32 c36) r32, Ch.ro n0 (Sl a11 r8 c12) r8, Ch.ro 0 (Sl a5 r2.1 c6) r2.1, Ch.ro n0 (Sl a5 r2.1 c6) r2.1]) from (H.sel' [1, 0, 0, 1, 2, 3, 4, 5] rfl rfl))) wn ?_
    rintro _ σ45 ⟨_, ⟨rfl, rfl⟩, H, -⟩
    replace H : Hp S0 σ0 σ45 [Ch.ro 0 (Sl a35 r32 c36) r32, Ch.ro 0 (Sl a11 r8 c12) r8, Ch.ro n0 (Sl a35 r32 c36) r32, Ch.ro n0 (Sl a11 r8 c12) r8, Ch.ro 0 (Sl a5 r2.1 c6) r2.1, Ch.ro n0 (Sl a5 r2.1 c6) r2.1] := H
    refine st (v := (B r42)) (rv_assign rfl) ?_
    refine w_end ?_
    refine q_then ?_
    refine c_ret ?_
    refine q_then_r ?_
    obtain rfl := Option.some.inj h
    exact fin_ret (v := (B r42)) (results_ok Try.results3 (res_tmp (v := (B r42)) rfl res_nil) rfl) ⟨rfl, rfl⟩ (H.sel' [] rfl rfl)
   ·replace h := bif_f hb29 h
    refine c_skip ?_
    refine q_then ?_
    refine c_seq ?_
    refine rg ?_
    refine st (v := (Sl a5 r2.1 c6)) (rv_move rfl) ?_
    refine st (v := (I r2.2.1)) (rv_move rfl) ?_
    refine st (v := (I r2.2.2)) (rv_move rfl) ?_
    obtain ⟨r46, hx47, h'⟩ := bind_some h
    clear h
    have h := h'; clear h'
    have hc48 := c_impl_LinksOf (alist_0 := a5) (clist_0 := c6) hx47
    have hle := Nat.le_trans hn0 H.size
    refine st_call (cx_lend (Loan.lend Loan.nil) hc48 (ent_f hc48.fn rfl) (show Hp S0 σ0 _ ([Ch.own n0 n0 (Sl a5 r2.1 c6) r2.1] ++ ([] ++ [Ch.own n0 n0 (Sl a11 r8 c12) r8])) from (H.sel' [0, 1] rfl rfl)) (by rintro _ _ _ ⟨_, _, rfl, rfl, _⟩; exact ⟨Ab.own (Nat.le_refl _), trivial⟩)) wn ?_
    rintro _ σ52 ⟨_, ⟨a49, c50, rfl, rfl, ht51⟩, H, -, -⟩
    replace H : Hp S0 σ0 σ52 [Ch.own σ28.size σ28.size (Sl a49 r46 c50) r46, Ch.own n0 n0 (Sl a5 r2.1 c6) r2.1, Ch.own n0 n0 (Sl a11 r8 c12) r8] := H
    replace H := H.ownLow 0 n0 n0 rfl hle hle
    clear hle
    replace H : Hp S0 σ0 σ52 [Ch.own n0 n0 (Sl a49 r46 c50) r46, Ch.own n0 n0 (Sl a5 r2.1 c6) r2.1, Ch.own n0 n0 (Sl a11 r8 c12) r8] := H
    refine st (v := (Sl a49 r46 c50)) (rv_assign rfl) ?_
    refine w_end ?_
    refine q_then ?_
    refine c_seq ?_
    refine rg ?_
    refine st (v := (I 0)) (rv_assign rfl) ?_
    refine w_end ?_
    refine q_then ?_
    refine c_seq ?_
    refine c_seq ?_
    refine rg ?_
    refine st (v := (I 0)) (rv_assign rfl) ?_
    refine w_end ?_
    refine q_then ?_
    obtain ⟨o53, hj, h'⟩ := bind_some h
    clear h
    refine c_cut (fun e a w => (∃ t, o53 = (.inl t) ∧ e = .normal ∧ ∃ (ρ : Nat → Value) (σ : St), a = fr 123 (updL ρ [(6, (Sl a11 r8 c12)), (8, (I t))]) ∧ w = σ.w ∧ Hp S0 σ0 σ [Ch.own n0 n0 (Sl a11 r8 c12) r8]) ∨ (∃ t, o53 = (.inr t) ∧ e = .ret ∧ ∃ (ρ : Nat → Value) (σ : St), a = fr 123 (updL ρ [(2, (B t))]) ∧ w = σ.w ∧ Hp S0 σ0 σ [])) ?_ ?_
    ·clear h'
     rename _ = some o53 => h
     refine c_blk ?_
     refine wp_loopM _ h (fun s54 a w => ∃ (ρ : Nat → Value) (σ : St), a = fr 123 (updL ρ [(3, (Sl a5 r2.1 c6)), (6, (Sl a11 r8 c12)), (7, (Sl a49 r46 c50)), (8, (I s54.1)), (9, (I s54.2))]) ∧ w = σ.w ∧ Hp S0 σ0 σ [Ch.own n0 n0 (Sl a5 r2.1 c6) r2.1, Ch.own n0 n0 (Sl a11 r8 c12) r8, Ch.own n0 n0 (Sl a49 r46 c50) r46]) ⟨_, σ52, fr_join ⟨rfl, rfl, rfl, rfl, rfl, trivial⟩, rfl, H.sel' [1, 2, 0] rfl rfl⟩ ?_
     clear h H
     rintro s54 a w o ⟨ρ, σ55, rfl, rfl, H⟩ h hres
     refine c_seq ?_
     refine c_seq ?_
     obtain ⟨o56, hj, h'⟩ := bind_some h
     clear h
     refine c_cut (fun e a w => e = .normal ∧ ∃ (ρ : Nat → Value) (σ : St), a = fr 123 (updL ρ [(3, (Sl a5 r2.1 c6)), (6, (Sl a11 r8 c12)), (7, (Sl a49 r46 c50)), (8, (I s54.1)), (9, (I s54.2)), (55, (B o56))]) ∧ w = σ.w ∧ Hp S0 σ0 σ [Ch.own n0 n0 (Sl a5 r2.1 c6) r2.1, Ch.own n0 n0 (Sl a11 r8 c12) r8, Ch.own n0 n0 (Sl a49 r46 c50) r46]) ?_ ?_
     ·clear h'
      rename _ = some o56 => h
      refine rg ?_
      refine st (v := (I s54.2)) (rv_move rfl) ?_
      refine st (v := (Sl a49 r46 c50)) (rv_move rfl) ?_
      refine st (v := (I (r46.length : Int))) (rv_len Try.underlying26 rfl) ?_
      refine st (v := (B (decide (s54.2 < (r46.length : Int))))) (rv_lss (a := s54.2) (b := (r46.length : Int)) rfl rfl) ?_
      refine st (v := (B (decide (s54.2 < (r46.length : Int))))) (rv_move rfl) ?_
      rcases Bool.eq_false_or_eq_true (decide (s54.2 < (r46.length : Int))) with hb57 | hb57
      ·replace h := bif_t hb57 h
       refine st_g (v := (I s54.2)) (congrArg some hb57) (rv_move rfl) ?_
       refine st_g (v := (Sl a5 r2.1 c6)) (congrArg some hb57) (rv_move rfl) ?_
       refine st_g (v := (I (r2.1.length : Int))) (congrArg some hb57) (rv_len Try.underlying23 rfl) ?_
       refine st_g (v := (B (decide (s54.2 < (r2.1.length : Int))))) (congrArg some hb57) (rv_lss (a := s54.2) (b := (r2.1.length : Int)) rfl rfl) ?_
       refine st (v := (B (decide (s54.2 < (r2.1.length : Int))))) (rv_pick_t (congrArg B hb57) rfl) ?_
       refine w_end ?_
       obtain rfl := Option.some.inj h
       exact ⟨rfl, _, σ55, fr_join ⟨rfl, rfl, rfl, rfl, rfl, rfl, trivial⟩, rfl, H.sel' [0, 1, 2] rfl rfl⟩
      ·replace h := bif_f hb57 h
       refine st_skip (congrArg some hb57) ?_
       refine st_skip (congrArg some hb57) ?_
       refine st_skip (congrArg some hb57) ?_
       refine st_skip (congrArg some hb57) ?_
       refine st (v := (B false)) (rv_pick_f (congrArg B hb57) rfl) ?_
       refine w_end ?_
       obtain rfl := Option.some.inj h
       exact ⟨rfl, _, σ55, fr_join ⟨rfl, rfl, rfl, rfl, rfl, rfl, trivial⟩, rfl, H.sel' [0, 1, 2] rfl rfl⟩
     ·clear hj
      have h := h'
      clear h' H
      rintro e a w ⟨rfl, ρ, σ58, rfl, rfl, H⟩
      refine q_then ?_
      refine cd_cond o56 rfl (fun hb59 => ?_) (fun hb59 => ?_)
      ·replace h := bif_t hb59 h
       refine c_skip ?_
       refine q_then ?_
       refine c_seq ?_
       refine c_blk ?_
       refine c_seq ?_
       refine rg ?_
       refine st (v := (I s54.2)) (rv_move rfl) ?_
       refine st (v := (I (w64 (s54.2 + 1)))) (rv_add (a := s54.2) (b := 1) rfl rfl) ?_
       refine st (v := (I (w64 (s54.2 + 1)))) (rv_assign rfl) ?_
       refine w_end ?_
       refine q_then ?_
       obtain ⟨o60, hj, h'⟩ := bind_some h
       clear h
       refine c_cut (fun e a w => (∃ t, o60 = (.inl t) ∧ e = .normal ∧ ∃ (ρ : Nat → Value) (σ : St), a = fr 123 (updL ρ [(3, (Sl a5 r2.1 c6)), (6, (Sl a11 r8 c12)), (7, (Sl a49 r46 c50)), (8, (I t)), (9, (I s54.2))]) ∧ w = σ.w ∧ Hp S0 σ0 σ [Ch.own n0 n0 (Sl a5 r2.1 c6) r2.1, Ch.own n0 n0 (Sl a11 r8 c12) r8, Ch.own n0 n0 (Sl a49 r46 c50) r46]) ∨ (∃ t, o60 = (.inr t) ∧ e = .ret ∧ ∃ (ρ : Nat → Value) (σ : St), a = fr 123 (updL ρ [(2, (B t))]) ∧ w = σ.w ∧ Hp S0 σ0 σ [])) ?_ ?_
       ·clear h'
        rename _ = some o60 => h
        refine c_blk ?_
        refine wp_loopM _ h (fun s61 a w => ∃ (ρ : Nat → Value) (σ : St), a = fr 123 (updL ρ [(3, (Sl a5 r2.1 c6)), (6, (Sl a11 r8 c12)), (7, (Sl a49 r46 c50)), (8, (I s61.1)), (9, (I s54.2)), (10, (I s61.2))]) ∧ w = σ.w ∧ Hp S0 σ0 σ [Ch.own n0 n0 (Sl a5 r2.1 c6) r2.1, Ch.own n0 n0 (Sl a11 r8 c12) r8, Ch.own n0 n0 (Sl a49 r46 c50) r46]) ⟨_, σ58, fr_join ⟨rfl, rfl, rfl, rfl, rfl, rfl, trivial⟩, rfl, H.sel' [0, 1, 2] rfl rfl⟩ ?_
        clear h H
        rintro s61 a w o ⟨ρ, σ62, rfl, rfl, H⟩ h hres
        refine c_seq ?_
        refine c_seq ?_
        obtain ⟨o63, hj, h'⟩ := bind_some h
        clear h
        refine c_cut (fun e a w => e = .normal ∧ ∃ (ρ : Nat → Value) (σ : St), a = fr 123 (updL ρ [(3, (Sl a5 r2.1 c6)), (6, (Sl a11 r8 c12)), (7, (Sl a49 r46 c50)), (8, (I s61.1)), (9, (I s54.2)), (10, (I s61.2)), (69, (B o63))]) ∧ w = σ.w ∧ Hp S0 σ0 σ [Ch.own n0 n0 (Sl a5 r2.1 c6) r2.1, Ch.own n0 n0 (Sl a11 r8 c12) r8, Ch.own n0 n0 (Sl a49 r46 c50) r46]) ?_ ?_
        ·clear h'
         rename _ = some o63 => h
         refine rg ?_
         refine st (v := (I s61.2)) (rv_move rfl) ?_
         refine st (v := (Sl a49 r46 c50)) (rv_move rfl) ?_
         refine st (v := (I (r46.length : Int))) (rv_len Try.underlying26 rfl) ?_
         refine st (v := (B (decide (s61.2 < (r46.length : Int))))) (rv_lss (a := s61.2) (b := (r46.length : Int)) rfl rfl) ?_
         refine st (v := (B (decide (s61.2 < (r46.length : Int))))) (rv_move rfl) ?_
         rcases Bool.eq_false_or_eq_true (decide (s61.2 < (r46.length : Int))) with hb64 | hb64
         ·replace h := bif_t hb64 h
          refine st_g (v := (I s61.2)) (congrArg some hb64) (rv_move rfl) ?_
          refine st_g (v := (Sl a5 r2.1 c6)) (congrArg some hb64) (rv_move rfl) ?_
          refine st_g (v := (I (r2.1.length : Int))) (congrArg some hb64) (rv_len Try.underlying23 rfl) ?_
          refine st_g (v := (B (decide (s61.2 < (r2.1.length : Int))))) (congrArg some hb64) (rv_lss (a := s61.2) (b := (r2.1.length : Int)) rfl rfl) ?_
          refine st (v := (B (decide (s61.2 < (r2.1.length : Int))))) (rv_pick_t (congrArg B hb64) rfl) ?_
          refine w_end ?_
          obtain rfl := Option.some.inj h
          exact ⟨rfl, _, σ62, fr_join ⟨rfl, rfl, rfl, rfl, rfl, rfl, rfl, trivial⟩, rfl, H.sel' [0, 1, 2] rfl rfl⟩
         ·replace h := bif_f hb64 h
          refine st_skip (congrArg some hb64) ?_
          refine st_skip (congrArg some hb64) ?_
          refine st_skip (congrArg some hb64) ?_
          refine st_skip (congrArg some hb64) ?_
          refine st (v := (B false)) (rv_pick_f (congrArg B hb64) rfl) ?_
          refine w_end ?_
          obtain rfl := Option.some.inj h
          exact ⟨rfl, _, σ62, fr_join ⟨rfl, rfl, rfl, rfl, rfl, rfl, rfl, trivial⟩, rfl, H.sel' [0, 1, 2] rfl rfl⟩
        ·clear hj
         have h := h'
         clear h' H
         rintro e a w ⟨rfl, ρ, σ65, rfl, rfl, H⟩
         refine q_then ?_
         refine cd_cond o63 rfl (fun hb66 => ?_) (fun hb66 => ?_)
         ·replace h := bif_t hb66 h
          refine c_skip ?_
          refine q_then ?_
          refine c_seq ?_
          obtain ⟨o67, hj, h'⟩ := bind_some h
          clear h
          refine c_cut (fun e a w => (∃ t, o67 = (.inl t) ∧ e = .normal ∧ ∃ (ρ : Nat → Value) (σ : St), a = fr 123 (updL ρ [(3, (Sl a5 r2.1 c6)), (6, (Sl a11 r8 c12)), (7, (Sl a49 r46 c50)), (8, (I t)), (9, (I s54.2)), (10, (I s61.2))]) ∧ w = σ.w ∧ Hp S0 σ0 σ [Ch.own n0 n0 (Sl a5 r2.1 c6) r2.1, Ch.own n0 n0 (Sl a11 r8 c12) r8, Ch.own n0 n0 (Sl a49 r46 c50) r46]) ∨ (∃ t, o67 = (.inr t) ∧ e = .ret ∧ ∃ (ρ : Nat → Value) (σ : St), a = fr 123 (updL ρ [(2, (B t))]) ∧ w = σ.w ∧ Hp S0 σ0 σ [])) ?_ ?_
          ·clear h'
           rename _ = some o67 => h
           refine c_blk ?_
           refine c_seq ?_
           obtain ⟨o68, hj, h'⟩ := bind_some h
           clear h
           refine c_cut (fun e a w => e = .normal ∧ ∃ (ρ : Nat → Value) (σ : St), a = fr 123 (updL ρ [(3, (Sl a5 r2.1 c6)), (6, (Sl a11 r8 c12)), (7, (Sl a49 r46 c50)), (8, (I s61.1)), (9, (I s54.2)), (10, (I s61.2)), (93, (B o68))]) ∧ w = σ.w ∧ Hp S0 σ0 σ [Ch.own n0 n0 (Sl a5 r2.1 c6) r2.1, Ch.own n0 n0 (Sl a11 r8 c12) r8, Ch.own n0 n0 (Sl a49 r46 c50) r46]) ?_ ?_
           ·clear h'
            rename _ = some o68 => h
            obtain ⟨x69, hx70, h'⟩ := bind_some h
            clear h
            have h := h'; clear h'
            obtain ⟨b72, o73, hi71, -⟩ := (H.own 2 rfl).ix hx70
            obtain ⟨v77, hc78, hR76⟩ := ((H.own 2 rfl).at hx70 hi71).slice
            obtain ⟨a74, c75, rfl⟩ := hR76.isSl
            replace H := H.add (d := Ch.ro n0 (Sl a74 x69 c75) x69) hR76 (fun _ h => h)
            clear hR76
            obtain ⟨x79, hx80, h'⟩ := bind_some h
            clear h
            have h := h'; clear h'
            obtain ⟨b82, o83, hi81, -⟩ := (H.own 1 rfl).ix hx80
            have hc84 := ((H.own 1 rfl).at hx80 hi81).fst.int
            replace H := H.roLow 0 0 rfl (Nat.zero_le _)
            obtain ⟨r85, hx86, h'⟩ := bind_some h
            clear h
            have h := h'; clear h'
            have hc87 := c_laws_isIn (alist_0 := a74) (clist_0 := c75) hx86
            rcases Bool.eq_false_or_eq_true r85 with hb88 | hb88
            ·replace h := bif_t hb88 h
             obtain ⟨x89, hx90, h'⟩ := bind_some h
             clear h
             have h := h'; clear h'
             obtain ⟨b92, o93, hi91, -⟩ := (H.own 4 rfl).ix hx90
             obtain ⟨v97, hc98, hR96⟩ := ((H.own 4 rfl).at hx90 hi91).slice
             obtain ⟨a94, c95, rfl⟩ := hR96.isSl
             replace H := H.add (d := Ch.ro n0 (Sl a94 x89 c95) x89) hR96 (fun _ h => h)
             clear hR96
             obtain ⟨x99, hx100, h'⟩ := bind_some h
             clear h
             have h := h'; clear h'
             obtain ⟨b102, o103, hi101, -⟩ := (H.own 3 rfl).ix hx100
             have hc104 := ((H.own 3 rfl).at hx100 hi101).fst.int
             have Hs := H
             refine rg2 (σ := σ65) (Nm := Unit) 20 [9] [[false], [true]] [[(0, 0)], [(0, 0)], [(0, 0)], [(0, 0)], [(0, 0)], [(0, 0)], [(0, 0)], [(0, 0)], [(0, 0)], [(0, 1)], [(1, 1)], [(1, 1)], [(1, 1)], [(1, 1)], [(1, 1)], [(1, 1)], [(1, 1)], [(1, 1)], [(1, 1)], [(1, 1)]] 1 [fun _ => fun σm => Hp S0 σ0 σm [Ch.ro n0 (Sl a94 x89 c95) x89, Ch.ro 0 (Sl a74 x69 c75) x69, Ch.ro n0 (Sl a74 x69 c75) x69, Ch.own n0 n0 (Sl a5 r2.1 c6) r2.1, Ch.own n0 n0 (Sl a11 r8 c12) r8, Ch.own n0 n0 (Sl a49 r46 c50) r46] ∧ Md (cov []) σ65 σm, fun _ => fun σm => Hp S0 σ0 σm [Ch.ro n0 (Sl a94 x89 c95) x89, Ch.ro 0 (Sl a74 x69 c75) x69, Ch.ro n0 (Sl a74 x69 c75) x69, Ch.own n0 n0 (Sl a5 r2.1 c6) r2.1, Ch.own n0 n0 (Sl a11 r8 c12) r8, Ch.own n0 n0 (Sl a49 r46 c50) r46] ∧ Md (cov []) σ65 σm] [fun _ => (Sl a49 r46 c50), fun _ => (I s54.2), fun _ => (pt b72 o73), fun _ => (Sl a74 x69 c75), fun _ => (Sl a5 r2.1 c6), fun _ => (I s61.2), fun _ => (pt b82 o83), fun _ => (pt b82 (o83 + 0)), fun _ => (I x79.1), fun _ => (B r85), fun _ => (B r85), fun _ => (Sl a49 r46 c50), fun _ => (I s61.2), fun _ => (pt b92 o93), fun _ => (Sl a94 x89 c95), fun _ => (Sl a5 r2.1 c6), fun _ => (I s54.2), fun _ => (pt b102 o103), fun _ => (pt b102 (o103 + 0)), fun _ => (I x99.1)] () (by kernel_rfl) (by kernel_rfl) ?_ ?_ ?_
             ·intro σm m0
              exact ⟨H.grow (m0.mono fun _ h => h.elim), m0⟩
             ·refine ac rfl (by
                intro k _nm ρ σm hJ hoff hdep
                have e7 := look_off (N := 123) (hoff 7 rfl) rfl
                exact dp_v (v := (Sl a49 r46 c50)) wn (rv_move e7) rfl hJ) ?_
              refine ac rfl (by
                intro k _nm ρ σm hJ hoff hdep
                have e9 := look_off (N := 123) (hoff 9 rfl) rfl
                exact dp_v (v := (I s54.2)) wn (rv_move e9) rfl hJ) ?_
              refine ac rfl (by
                intro k _nm ρ σm hJ hoff hdep
                have e72 := hdep 0 rfl rfl 72 rfl
                have e73 := hdep 1 rfl rfl 73 rfl
                exact dp_v (v := (pt b72 o73)) wn (rv_ix Try.underlying26 ti30 e72 e73 hi71) rfl hJ) ?_
              refine all_cons (by
                refine ⟨?_, ?_⟩
                ·intro _nm ρ σm hJ hoff hdep
                 have e74 := hdep 2 rfl rfl 74 rfl
                 obtain ⟨H, m⟩ := id hJ
                 replace hc78 := m.hcell hc78 nocov
                 exact dp_v (v := (Sl a74 x69 c75)) wn (rv_load1 Try.underlying30 rfl e74 hc78) rfl hJ
                trivial) ?_
              refine ac rfl (by
                intro k _nm ρ σm hJ hoff hdep
                have e3 := look_off (N := 123) (hoff 3 rfl) rfl
                exact dp_v (v := (Sl a5 r2.1 c6)) wn (rv_move e3) rfl hJ) ?_
              refine ac rfl (by
                intro k _nm ρ σm hJ hoff hdep
                have e10 := look_off (N := 123) (hoff 10 rfl) rfl
                exact dp_v (v := (I s61.2)) wn (rv_move e10) rfl hJ) ?_
              refine ac rfl (by
                intro k _nm ρ σm hJ hoff hdep
                have e76 := hdep 4 rfl rfl 76 rfl
                have e77 := hdep 5 rfl rfl 77 rfl
                exact dp_v (v := (pt b82 o83)) wn (rv_ix Try.underlying23 ti32 e76 e77 hi81) rfl hJ) ?_
              refine ac rfl (by
                intro k _nm ρ σm hJ hoff hdep
                have e78 := hdep 6 rfl rfl 78 rfl
                exact dp_v (v := (pt b82 (o83 + 0))) wn (rv_fieldAddr (off := 0) (ft := 3) Try.underlying32 rfl ti3 rfl e78) rfl hJ) ?_
              refine all_cons (by
                refine ⟨?_, ?_⟩
                ·intro _nm ρ σm hJ hoff hdep
                 have e79 := hdep 7 rfl rfl 79 rfl
                 obtain ⟨H, m⟩ := id hJ
                 have hc84 := ((H.own 3 rfl).at hx80 hi81).fst.int
                 exact dp_v (v := (I x79.1)) wn (rv_load1 Try.underlying3 rfl e79 hc84) rfl hJ
                trivial) ?_
              refine all_cons (by
                refine ⟨?_, ?_⟩
                ·intro _nm ρ σm hJ hoff hdep
                 have e75 : look 123 ρ 75 = (Sl a74 x69 c75) := hdep 3 rfl rfl 75 rfl
                 have e80 : look 123 ρ 80 = (I x79.1) := hdep 8 rfl rfl 80 rfl
                 obtain ⟨H, m⟩ := id hJ
                 refine dp_cx wn (cx_call hc87 (ent_f hc87.fn (by show [look 123 ρ 75, look 123 ρ 80] = _; rw [e75, e80])) hn0 (show Hp S0 σ0 _ ([Ch.ro 0 (Sl a74 x69 c75) x69] ++ [Ch.ro n0 (Sl a94 x89 c95) x89, Ch.ro 0 (Sl a74 x69 c75) x69, Ch.ro n0 (Sl a74 x69 c75) x69, Ch.own n0 n0 (Sl a5 r2.1 c6) r2.1, Ch.own n0 n0 (Sl a11 r8 c12) r8, Ch.own n0 n0 (Sl a49 r46 c50) r46]) from (H.sel' [1, 0, 1, 2, 3, 4, 5] rfl rfl))) ?_
                 rintro _ σq ⟨_, ⟨rfl, rfl⟩, H2, m2⟩
                 exact ⟨_, (), rfl, rfl, ⟨H2.sel' [0, 1, 2, 3, 4, 5] rfl rfl, m.comp0 (m2.mono (fun i h => by simp [cov, Ch.ro] at h))⟩, stab [0, 1, 2, 3, 4, 5, 6, 7, 8] (by kernel_rfl) ⟨rfl, rfl, rfl, rfl, rfl, rfl, rfl, rfl, rfl, trivial⟩⟩
                trivial) ?_
              refine ac rfl (by
                intro k _nm ρ σm hJ hoff hdep
                have e81 := hdep 9 rfl rfl 81 rfl
                exact dp_v (v := (B r85)) wn (rv_move e81) rfl hJ) ?_
              refine ac rfl (by
                intro k _nm ρ σm hJ hoff hdep
                have e7 := look_off (N := 123) (hoff 7 rfl) rfl
                have e82 := hdep 10 rfl rfl 82 rfl
                exact dp_v (v := (Sl a49 r46 c50)) (wanted_yes rfl (yv_of rfl (e82.trans (congrArg B hb88)))) (rv_move e7) rfl hJ) ?_
              refine ac rfl (by
                intro k _nm ρ σm hJ hoff hdep
                have e10 := look_off (N := 123) (hoff 10 rfl) rfl
                have e82 := hdep 10 rfl rfl 82 rfl
                exact dp_v (v := (I s61.2)) (wanted_yes rfl (yv_of rfl (e82.trans (congrArg B hb88)))) (rv_move e10) rfl hJ) ?_
              refine ac rfl (by
                intro k _nm ρ σm hJ hoff hdep
                have e83 := hdep 11 rfl rfl 83 rfl
                have e84 := hdep 12 rfl rfl 84 rfl
                have e82 := hdep 10 rfl rfl 82 rfl
                exact dp_v (v := (pt b92 o93)) (wanted_yes rfl (yv_of rfl (e82.trans (congrArg B hb88)))) (rv_ix Try.underlying26 ti30 e83 e84 hi91) rfl hJ) ?_
              refine all_cons (by
                refine ⟨?_, ?_⟩
                ·intro _nm ρ σm hJ hoff hdep
                 have e85 := hdep 13 rfl rfl 85 rfl
                 have e82 := hdep 10 rfl rfl 82 rfl
                 obtain ⟨H, m⟩ := id hJ
                 replace hc98 := m.hcell hc98 nocov
                 exact dp_v (v := (Sl a94 x89 c95)) (wanted_yes rfl (yv_of rfl (e82.trans (congrArg B hb88)))) (rv_load1 Try.underlying30 rfl e85 hc98) rfl hJ
                trivial) ?_
              refine ac rfl (by
                intro k _nm ρ σm hJ hoff hdep
                have e3 := look_off (N := 123) (hoff 3 rfl) rfl
                have e82 := hdep 10 rfl rfl 82 rfl
                exact dp_v (v := (Sl a5 r2.1 c6)) (wanted_yes rfl (yv_of rfl (e82.trans (congrArg B hb88)))) (rv_move e3) rfl hJ) ?_
              refine ac rfl (by
                intro k _nm ρ σm hJ hoff hdep
                have e9 := look_off (N := 123) (hoff 9 rfl) rfl
                have e82 := hdep 10 rfl rfl 82 rfl
                exact dp_v (v := (I s54.2)) (wanted_yes rfl (yv_of rfl (e82.trans (congrArg B hb88)))) (rv_move e9) rfl hJ) ?_
              refine ac rfl (by
                intro k _nm ρ σm hJ hoff hdep
                have e87 := hdep 15 rfl rfl 87 rfl
                have e88 := hdep 16 rfl rfl 88 rfl
                have e82 := hdep 10 rfl rfl 82 rfl
                exact dp_v (v := (pt b102 o103)) (wanted_yes rfl (yv_of rfl (e82.trans (congrArg B hb88)))) (rv_ix Try.underlying23 ti32 e87 e88 hi101) rfl hJ) ?_
              refine ac rfl (by
                intro k _nm ρ σm hJ hoff hdep
                have e89 := hdep 17 rfl rfl 89 rfl
                have e82 := hdep 10 rfl rfl 82 rfl
                exact dp_v (v := (pt b102 (o103 + 0))) (wanted_yes rfl (yv_of rfl (e82.trans (congrArg B hb88)))) (rv_fieldAddr (off := 0) (ft := 3) Try.underlying32 rfl ti3 rfl e89) rfl hJ) ?_
              refine all_cons (by
                refine ⟨?_, ?_⟩
                ·intro _nm ρ σm hJ hoff hdep
                 have e90 := hdep 18 rfl rfl 90 rfl
                 have e82 := hdep 10 rfl rfl 82 rfl
                 obtain ⟨H, m⟩ := id hJ
                 have hc104 := ((H.own 3 rfl).at hx100 hi101).fst.int
                 exact dp_v (v := (I x99.1)) (wanted_yes rfl (yv_of rfl (e82.trans (congrArg B hb88)))) (rv_load1 Try.underlying3 rfl e90 hc104) rfl hJ
                trivial) ?_
              exact all_nil
             ·intro _nm ρ σ105 hJ hoff hrel
              have e3 := look_off (N := 123) (hoff 3 rfl) rfl
              have e6 := look_off (N := 123) (hoff 6 rfl) rfl
              have e7 := look_off (N := 123) (hoff 7 rfl) rfl
              have e8 := look_off (N := 123) (hoff 8 rfl) rfl
              have e9 := look_off (N := 123) (hoff 9 rfl) rfl
              have e10 := look_off (N := 123) (hoff 10 rfl) rfl
              have e82 := hrel 10 rfl 82 rfl
              have e86 := hrel 14 rfl 86 rfl
              have e91 := hrel 19 rfl 91 rfl
              obtain ⟨H, -⟩ := (show Hp S0 σ0 σ105 [Ch.ro n0 (Sl a94 x89 c95) x89, Ch.ro 0 (Sl a74 x69 c75) x69, Ch.ro n0 (Sl a74 x69 c75) x69, Ch.own n0 n0 (Sl a5 r2.1 c6) r2.1, Ch.own n0 n0 (Sl a11 r8 c12) r8, Ch.own n0 n0 (Sl a49 r46 c50) r46] ∧ Md (cov []) σ65 σ105 from hJ)
              clear hJ Hs
              rw [fr_lookL (L := [(3, (Sl a5 r2.1 c6)), (6, (Sl a11 r8 c12)), (7, (Sl a49 r46 c50)), (8, (I s61.1)), (9, (I s54.2)), (10, (I s61.2)), (82, (B r85)), (86, (Sl a94 x89 c95)), (91, (I x99.1))]) ⟨e3, e6, e7, e8, e9, e10, e82, e86, e91, trivial⟩]
              clear hoff hrel e3 e6 e7 e8 e9 e10 e82 e86 e91
              replace H := H.roLow 0 0 rfl (Nat.zero_le _)
              obtain ⟨r106, hx107, h'⟩ := bind_some h
              clear h
              have h := h'; clear h'
              have hc108 := c_laws_isIn (alist_0 := a94) (clist_0 := c95) hx107
              refine st_call (cx_call hc108 (ent_f hc108.fn rfl) hn0 (show Hp S0 σ0 _ ([Ch.ro 0 (Sl a94 x89 c95) x89] ++ [Ch.ro 0 (Sl a94 x89 c95) x89, Ch.ro n0 (Sl a94 x89 c95) x89, Ch.ro 0 (Sl a74 x69 c75) x69, Ch.ro n0 (Sl a74 x69 c75) x69, Ch.own n0 n0 (Sl a5 r2.1 c6) r2.1, Ch.own n0 n0 (Sl a11 r8 c12) r8, Ch.own n0 n0 (Sl a49 r46 c50) r46]) from (H.sel' [0, 0, 1, 2, 3, 4, 5, 6] rfl rfl))) (wanted_yes rfl (by exact (congrArg some hb88))) ?_
              rintro _ σ109 ⟨_, ⟨rfl, rfl⟩, H, -⟩
              replace H : Hp S0 σ0 σ109 [Ch.ro 0 (Sl a94 x89 c95) x89, Ch.ro n0 (Sl a94 x89 c95) x89, Ch.ro 0 (Sl a74 x69 c75) x69, Ch.ro n0 (Sl a74 x69 c75) x69, Ch.own n0 n0 (Sl a5 r2.1 c6) r2.1, Ch.own n0 n0 (Sl a11 r8 c12) r8, Ch.own n0 n0 (Sl a49 r46 c50) r46] := H
              refine st (v := (B r106)) (rv_pick_t (congrArg B hb88) rfl) ?_
              refine w_end ?_
              obtain rfl := Option.some.inj h
              exact ⟨rfl, _, σ109, fr_join ⟨rfl, rfl, rfl, rfl, rfl, rfl, rfl, trivial⟩, rfl, H.sel' [4, 5, 6] rfl rfl⟩
            ·replace h := bif_f hb88 h
             have Hs := H
             refine rg2 (σ := σ65) (Nm := Unit) 20 [9] [[false], [true]] [[(0, 0)], [(0, 0)], [(0, 0)], [(0, 0)], [(0, 0)], [(0, 0)], [(0, 0)], [(0, 0)], [(0, 0)], [(0, 1)], [(1, 1)], [(1, 1)], [(1, 1)], [(1, 1)], [(1, 1)], [(1, 1)], [(1, 1)], [(1, 1)], [(1, 1)], [(1, 1)]] 1 [fun _ => fun σm => Hp S0 σ0 σm [Ch.ro 0 (Sl a74 x69 c75) x69, Ch.ro n0 (Sl a74 x69 c75) x69, Ch.own n0 n0 (Sl a5 r2.1 c6) r2.1, Ch.own n0 n0 (Sl a11 r8 c12) r8, Ch.own n0 n0 (Sl a49 r46 c50) r46] ∧ Md (cov []) σ65 σm, fun _ => fun σm => Hp S0 σ0 σm [Ch.ro 0 (Sl a74 x69 c75) x69, Ch.ro n0 (Sl a74 x69 c75) x69, Ch.own n0 n0 (Sl a5 r2.1 c6) r2.1, Ch.own n0 n0 (Sl a11 r8 c12) r8, Ch.own n0 n0 (Sl a49 r46 c50) r46] ∧ Md (cov []) σ65 σm] [fun _ => (Sl a49 r46 c50), fun _ => (I s54.2), fun _ => (pt b72 o73), fun _ => (Sl a74 x69 c75), fun _ => (Sl a5 r2.1 c6), fun _ => (I s61.2), fun _ => (pt b82 o83), fun _ => (pt b82 (o83 + 0)), fun _ => (I x79.1), fun _ => (B r85), fun _ => (B r85), fun _ => undef, fun _ => undef, fun _ => undef, fun _ => undef, fun _ => undef, fun _ => undef, fun _ => undef, fun _ => undef, fun _ => undef] () (by kernel_rfl) (by kernel_rfl) ?_ ?_ ?_
             ·intro σm m0
              exact ⟨H.grow (m0.mono fun _ h => h.elim), m0⟩
             ·refine ac rfl (by
                intro k _nm ρ σm hJ hoff hdep
                have e7 := look_off (N := 123) (hoff 7 rfl) rfl
                exact dp_v (v := (Sl a49 r46 c50)) wn (rv_move e7) rfl hJ) ?_
              refine ac rfl (by
                intro k _nm ρ σm hJ hoff hdep
                have e9 := look_off (N := 123) (hoff 9 rfl) rfl
                exact dp_v (v := (I s54.2)) wn (rv_move e9) rfl hJ) ?_
              refine ac rfl (by
                intro k _nm ρ σm hJ hoff hdep
                have e72 := hdep 0 rfl rfl 72 rfl
                have e73 := hdep 1 rfl rfl 73 rfl
                exact dp_v (v := (pt b72 o73)) wn (rv_ix Try.underlying26 ti30 e72 e73 hi71) rfl hJ) ?_
              refine all_cons (by
                refine ⟨?_, ?_⟩
                ·intro _nm ρ σm hJ hoff hdep
                 have e74 := hdep 2 rfl rfl 74 rfl
                 obtain ⟨H, m⟩ := id hJ
                 replace hc78 := m.hcell hc78 nocov
                 exact dp_v (v := (Sl a74 x69 c75)) wn (rv_load1 Try.underlying30 rfl e74 hc78) rfl hJ
                trivial) ?_
              refine ac rfl (by
                intro k _nm ρ σm hJ hoff hdep
                have e3 := look_off (N := 123) (hoff 3 rfl) rfl
                exact dp_v (v := (Sl a5 r2.1 c6)) wn (rv_move e3) rfl hJ) ?_
              refine ac rfl (by
                intro k _nm ρ σm hJ hoff hdep
                have e10 := look_off (N := 123) (hoff 10 rfl) rfl
                exact dp_v (v := (I s61.2)) wn (rv_move e10) rfl hJ) ?_
              refine ac rfl (by
                intro k _nm ρ σm hJ hoff hdep
                have e76 := hdep 4 rfl rfl 76 rfl
                have e77 := hdep 5 rfl rfl 77 rfl
                exact dp_v (v := (pt b82 o83)) wn (rv_ix Try.underlying23 ti32 e76 e77 hi81) rfl hJ) ?_
              refine ac rfl (by
                intro k _nm ρ σm hJ hoff hdep
                have e78 := hdep 6 rfl rfl 78 rfl
                exact dp_v (v := (pt b82 (o83 + 0))) wn (rv_fieldAddr (off := 0) (ft := 3) Try.underlying32 rfl ti3 rfl e78) rfl hJ) ?_
              refine all_cons (by
                refine ⟨?_, ?_⟩
                ·intro _nm ρ σm hJ hoff hdep
                 have e79 := hdep 7 rfl rfl 79 rfl
                 obtain ⟨H, m⟩ := id hJ
                 have hc84 := ((H.own 2 rfl).at hx80 hi81).fst.int
                 exact dp_v (v := (I x79.1)) wn (rv_load1 Try.underlying3 rfl e79 hc84) rfl hJ
                trivial) ?_
              refine all_cons (by
                refine ⟨?_, ?_⟩
                ·intro _nm ρ σm hJ hoff hdep
                 have e75 : look 123 ρ 75 = (Sl a74 x69 c75) := hdep 3 rfl rfl 75 rfl
                 have e80 : look 123 ρ 80 = (I x79.1) := hdep 8 rfl rfl 80 rfl
                 obtain ⟨H, m⟩ := id hJ
                 refine dp_cx wn (cx_call hc87 (ent_f hc87.fn (by show [look 123 ρ 75, look 123 ρ 80] = _; rw [e75, e80])) hn0 (show Hp S0 σ0 _ ([Ch.ro 0 (Sl a74 x69 c75) x69] ++ [Ch.ro 0 (Sl a74 x69 c75) x69, Ch.ro n0 (Sl a74 x69 c75) x69, Ch.own n0 n0 (Sl a5 r2.1 c6) r2.1, Ch.own n0 n0 (Sl a11 r8 c12) r8, Ch.own n0 n0 (Sl a49 r46 c50) r46]) from (H.sel' [0, 0, 1, 2, 3, 4] rfl rfl))) ?_
                 rintro _ σq ⟨_, ⟨rfl, rfl⟩, H2, m2⟩
                 exact ⟨_, (), rfl, rfl, ⟨H2.sel' [0, 1, 2, 3, 4] rfl rfl, m.comp0 (m2.mono (fun i h => by simp [cov, Ch.ro] at h))⟩, stab [0, 1, 2, 3, 4, 5, 6, 7, 8] (by kernel_rfl) ⟨rfl, rfl, rfl, rfl, rfl, rfl, rfl, rfl, rfl, trivial⟩⟩
                trivial) ?_
              refine ac rfl (by
                intro k _nm ρ σm hJ hoff hdep
                have e81 := hdep 9 rfl rfl 81 rfl
                exact dp_v (v := (B r85)) wn (rv_move e81) rfl hJ) ?_
              refine ac rfl (by
                intro k _nm ρ σm hJ hoff hdep
                have e82 := hdep 10 rfl rfl 82 rfl
                exact dp_skip (wanted_no rfl (yv_of rfl (e82.trans (congrArg B hb88)))) rfl hJ) ?_
              refine ac rfl (by
                intro k _nm ρ σm hJ hoff hdep
                have e82 := hdep 10 rfl rfl 82 rfl
                exact dp_skip (wanted_no rfl (yv_of rfl (e82.trans (congrArg B hb88)))) rfl hJ) ?_
              refine ac rfl (by
                intro k _nm ρ σm hJ hoff hdep
                have e82 := hdep 10 rfl rfl 82 rfl
                exact dp_skip (wanted_no rfl (yv_of rfl (e82.trans (congrArg B hb88)))) rfl hJ) ?_
              refine ac rfl (by
                intro k _nm ρ σm hJ hoff hdep
                have e82 := hdep 10 rfl rfl 82 rfl
                exact dp_skip (wanted_no rfl (yv_of rfl (e82.trans (congrArg B hb88)))) rfl hJ) ?_
              refine ac rfl (by
                intro k _nm ρ σm hJ hoff hdep
                have e82 := hdep 10 rfl rfl 82 rfl
                exact dp_skip (wanted_no rfl (yv_of rfl (e82.trans (congrArg B hb88)))) rfl hJ) ?_
              refine ac rfl (by
                intro k _nm ρ σm hJ hoff hdep
                have e82 := hdep 10 rfl rfl 82 rfl
                exact dp_skip (wanted_no rfl (yv_of rfl (e82.trans (congrArg B hb88)))) rfl hJ) ?_
              refine ac rfl (by
                intro k _nm ρ σm hJ hoff hdep
                have e82 := hdep 10 rfl rfl 82 rfl
                exact dp_skip (wanted_no rfl (yv_of rfl (e82.trans (congrArg B hb88)))) rfl hJ) ?_
              refine ac rfl (by
                intro k _nm ρ σm hJ hoff hdep
                have e82 := hdep 10 rfl rfl 82 rfl
                exact dp_skip (wanted_no rfl (yv_of rfl (e82.trans (congrArg B hb88)))) rfl hJ) ?_
              refine ac rfl (by
                intro k _nm ρ σm hJ hoff hdep
                have e82 := hdep 10 rfl rfl 82 rfl
                exact dp_skip (wanted_no rfl (yv_of rfl (e82.trans (congrArg B hb88)))) rfl hJ) ?_
              exact all_nil
             ·intro _nm ρ σ110 hJ hoff hrel
              have e3 := look_off (N := 123) (hoff 3 rfl) rfl
              have e6 := look_off (N := 123) (hoff 6 rfl) rfl
              have e7 := look_off (N := 123) (hoff 7 rfl) rfl
              have e8 := look_off (N := 123) (hoff 8 rfl) rfl
              have e9 := look_off (N := 123) (hoff 9 rfl) rfl
              have e10 := look_off (N := 123) (hoff 10 rfl) rfl
              have e82 := hrel 10 rfl 82 rfl
              have e86 := hrel 14 rfl 86 rfl
              have e91 := hrel 19 rfl 91 rfl
              obtain ⟨H, -⟩ := (show Hp S0 σ0 σ110 [Ch.ro 0 (Sl a74 x69 c75) x69, Ch.ro n0 (Sl a74 x69 c75) x69, Ch.own n0 n0 (Sl a5 r2.1 c6) r2.1, Ch.own n0 n0 (Sl a11 r8 c12) r8, Ch.own n0 n0 (Sl a49 r46 c50) r46] ∧ Md (cov []) σ65 σ110 from hJ)
              clear hJ Hs
              rw [fr_lookL (L := [(3, (Sl a5 r2.1 c6)), (6, (Sl a11 r8 c12)), (7, (Sl a49 r46 c50)), (8, (I s61.1)), (9, (I s54.2)), (10, (I s61.2)), (82, (B r85)), (86, undef), (91, undef)]) ⟨e3, e6, e7, e8, e9, e10, e82, e86, e91, trivial⟩]
              clear hoff hrel e3 e6 e7 e8 e9 e10 e82 e86 e91
              refine st_skip (congrArg some hb88) ?_
              refine st (v := (B false)) (rv_pick_f (congrArg B hb88) rfl) ?_
              refine w_end ?_
              obtain rfl := Option.some.inj h
              exact ⟨rfl, _, σ110, fr_join ⟨rfl, rfl, rfl, rfl, rfl, rfl, rfl, trivial⟩, rfl, H.sel' [2, 3, 4] rfl rfl⟩
           ·clear hj
            have h := h'
            clear h' H
            rintro e a w ⟨rfl, ρ, σ111, rfl, rfl, H⟩
            refine q_then ?_
            refine cd_cond o68 rfl (fun hb112 => ?_) (fun hb112 => ?_)
            ·replace h := bif_t hb112 h
             refine c_seq ?_
             refine c_seq ?_
             obtain ⟨o113, hj, h'⟩ := bind_some h
             clear h
             refine c_cut (fun e a w => e = .normal ∧ ∃ (ρ : Nat → Value) (σ : St), a = fr 123 (updL ρ [(3, (Sl a5 r2.1 c6)), (6, (Sl a11 r8 c12)), (7, (Sl a49 r46 c50)), (8, (I s61.1)), (9, (I s54.2)), (10, (I s61.2)), (116, (B o113))]) ∧ w = σ.w ∧ Hp S0 σ0 σ [Ch.own n0 n0 (Sl a5 r2.1 c6) r2.1, Ch.own n0 n0 (Sl a11 r8 c12) r8, Ch.own n0 n0 (Sl a49 r46 c50) r46]) ?_ ?_
             ·clear h'
              rename _ = some o113 => h
              rcases Bool.eq_false_or_eq_true (decide ((r8.length : Int) ≤ s61.1)) with hb114 | hb114
              ·replace h := bif_t hb114 h
               have Hs := H
               refine rg2 (σ := σ111) (Nm := Unit) 20 [] [[]] [[(0, 0)], [(0, 0)], [(0, 0)], [(0, 0)], [(0, 0)], [(0, 0)], [(0, 0)], [(0, 0)], [(0, 0)], [(0, 0)], [(0, 0)], [(0, 0)], [(0, 0)], [(0, 0)], [(0, 0)], [(0, 0)], [(0, 0)], [(0, 0)], [(0, 0)], [(0, 0)]] 0 [fun _ => fun σm => Hp S0 σ0 σm [Ch.own n0 n0 (Sl a5 r2.1 c6) r2.1, Ch.own n0 n0 (Sl a11 r8 c12) r8, Ch.own n0 n0 (Sl a49 r46 c50) r46] ∧ Md (cov []) σ111 σm] [fun _ => (I s61.1), fun _ => (Sl a11 r8 c12), fun _ => (I (r8.length : Int)), fun _ => (B (decide ((r8.length : Int) ≤ s61.1))), fun _ => (B (decide ((r8.length : Int) ≤ s61.1))), fun _ => undef, fun _ => undef, fun _ => undef, fun _ => undef, fun _ => undef, fun _ => undef, fun _ => undef, fun _ => undef, fun _ => undef, fun _ => undef, fun _ => undef, fun _ => undef, fun _ => undef, fun _ => undef, fun _ => undef] () (by kernel_rfl) (by kernel_rfl) ?_ ?_ ?_
               ·intro σm m0
                exact ⟨H.grow (m0.mono fun _ h => h.elim), m0⟩
               ·refine ac rfl (by
                  intro k _nm ρ σm hJ hoff hdep
                  have e8 := look_off (N := 123) (hoff 8 rfl) rfl
                  exact dp_v (v := (I s61.1)) wn (rv_move e8) rfl hJ) ?_
                refine ac rfl (by
                  intro k _nm ρ σm hJ hoff hdep
                  have e6 := look_off (N := 123) (hoff 6 rfl) rfl
                  exact dp_v (v := (Sl a11 r8 c12)) wn (rv_move e6) rfl hJ) ?_
                refine ac rfl (by
                  intro k _nm ρ σm hJ hoff hdep
                  have e95 := hdep 1 rfl rfl 95 rfl
                  exact dp_v (v := (I (r8.length : Int))) wn (rv_len Try.underlying26 e95) rfl hJ) ?_
                refine ac rfl (by
                  intro k _nm ρ σm hJ hoff hdep
                  have e94 := hdep 0 rfl rfl 94 rfl
                  have e96 := hdep 2 rfl rfl 96 rfl
                  exact dp_v (v := (B (decide ((r8.length : Int) ≤ s61.1)))) wn (rv_geq (a := s61.1) (b := (r8.length : Int)) e94 e96) rfl hJ) ?_
                refine ac rfl (by
                  intro k _nm ρ σm hJ hoff hdep
                  have e97 := hdep 3 rfl rfl 97 rfl
                  exact dp_v (v := (B (decide ((r8.length : Int) ≤ s61.1)))) wn (rv_move e97) rfl hJ) ?_
                refine ac rfl (by
                  intro k _nm ρ σm hJ hoff hdep
                  have e98 := hdep 4 rfl rfl 98 rfl
                  exact dp_skip (wanted_no rfl (yv_of rfl (e98.trans (congrArg B hb114)))) rfl hJ) ?_
                refine ac rfl (by
                  intro k _nm ρ σm hJ hoff hdep
                  have e98 := hdep 4 rfl rfl 98 rfl
                  exact dp_skip (wanted_no rfl (yv_of rfl (e98.trans (congrArg B hb114)))) rfl hJ) ?_
                refine ac rfl (by
                  intro k _nm ρ σm hJ hoff hdep
                  have e98 := hdep 4 rfl rfl 98 rfl
                  exact dp_skip (wanted_no rfl (yv_of rfl (e98.trans (congrArg B hb114)))) rfl hJ) ?_
                refine ac rfl (by
                  intro k _nm ρ σm hJ hoff hdep
                  have e98 := hdep 4 rfl rfl 98 rfl
                  exact dp_skip (wanted_no rfl (yv_of rfl (e98.trans (congrArg B hb114)))) rfl hJ) ?_
                refine ac rfl (by
                  intro k _nm ρ σm hJ hoff hdep
                  have e98 := hdep 4 rfl rfl 98 rfl
                  exact dp_skip (wanted_no rfl (yv_of rfl (e98.trans (congrArg B hb114)))) rfl hJ) ?_
                refine ac rfl (by
                  intro k _nm ρ σm hJ hoff hdep
                  have e98 := hdep 4 rfl rfl 98 rfl
                  exact dp_skip (wanted_no rfl (yv_of rfl (e98.trans (congrArg B hb114)))) rfl hJ) ?_
                refine ac rfl (by
                  intro k _nm ρ σm hJ hoff hdep
                  have e98 := hdep 4 rfl rfl 98 rfl
                  exact dp_skip (wanted_no rfl (yv_of rfl (e98.trans (congrArg B hb114)))) rfl hJ) ?_
                refine ac rfl (by
                  intro k _nm ρ σm hJ hoff hdep
                  have e98 := hdep 4 rfl rfl 98 rfl
                  exact dp_skip (wanted_no rfl (yv_of rfl (e98.trans (congrArg B hb114)))) rfl hJ) ?_
                refine ac rfl (by
                  intro k _nm ρ σm hJ hoff hdep
                  have e98 := hdep 4 rfl rfl 98 rfl
                  exact dp_skip (wanted_no rfl (yv_of rfl (e98.trans (congrArg B hb114)))) rfl hJ) ?_
                refine ac rfl (by
                  intro k _nm ρ σm hJ hoff hdep
                  have e98 := hdep 4 rfl rfl 98 rfl
                  exact dp_skip (wanted_no rfl (yv_of rfl (e98.trans (congrArg B hb114)))) rfl hJ) ?_
                refine ac rfl (by
                  intro k _nm ρ σm hJ hoff hdep
                  have e98 := hdep 4 rfl rfl 98 rfl
                  exact dp_skip (wanted_no rfl (yv_of rfl (e98.trans (congrArg B hb114)))) rfl hJ) ?_
                refine ac rfl (by
                  intro k _nm ρ σm hJ hoff hdep
                  have e98 := hdep 4 rfl rfl 98 rfl
                  exact dp_skip (wanted_no rfl (yv_of rfl (e98.trans (congrArg B hb114)))) rfl hJ) ?_
                refine ac rfl (by
                  intro k _nm ρ σm hJ hoff hdep
                  have e98 := hdep 4 rfl rfl 98 rfl
                  exact dp_skip (wanted_no rfl (yv_of rfl (e98.trans (congrArg B hb114)))) rfl hJ) ?_
                refine ac rfl (by
                  intro k _nm ρ σm hJ hoff hdep
                  have e98 := hdep 4 rfl rfl 98 rfl
                  exact dp_skip (wanted_no rfl (yv_of rfl (e98.trans (congrArg B hb114)))) rfl hJ) ?_
                refine ac rfl (by
                  intro k _nm ρ σm hJ hoff hdep
                  have e98 := hdep 4 rfl rfl 98 rfl
                  exact dp_skip (wanted_no rfl (yv_of rfl (e98.trans (congrArg B hb114)))) rfl hJ) ?_
                exact all_nil
               ·intro _nm ρ σ115 hJ hoff hrel
                have e3 := look_off (N := 123) (hoff 3 rfl) rfl
                have e6 := look_off (N := 123) (hoff 6 rfl) rfl
                have e7 := look_off (N := 123) (hoff 7 rfl) rfl
                have e8 := look_off (N := 123) (hoff 8 rfl) rfl
                have e9 := look_off (N := 123) (hoff 9 rfl) rfl
                have e10 := look_off (N := 123) (hoff 10 rfl) rfl
                have e98 := hrel 4 rfl 98 rfl
                have e102 := hrel 8 rfl 102 rfl
                have e113 := hrel 19 rfl 113 rfl
                obtain ⟨H, -⟩ := (show Hp S0 σ0 σ115 [Ch.own n0 n0 (Sl a5 r2.1 c6) r2.1, Ch.own n0 n0 (Sl a11 r8 c12) r8, Ch.own n0 n0 (Sl a49 r46 c50) r46] ∧ Md (cov []) σ111 σ115 from hJ)
                clear hJ Hs
                rw [fr_lookL (L := [(3, (Sl a5 r2.1 c6)), (6, (Sl a11 r8 c12)), (7, (Sl a49 r46 c50)), (8, (I s61.1)), (9, (I s54.2)), (10, (I s61.2)), (98, (B (decide ((r8.length : Int) ≤ s61.1)))), (102, undef), (113, undef)]) ⟨e3, e6, e7, e8, e9, e10, e98, e102, e113, trivial⟩]
                clear hoff hrel e3 e6 e7 e8 e9 e10 e98 e102 e113
                refine st_skip (congrArg some hb114) ?_
                refine st_skip (congrArg some hb114) ?_
                refine st (v := (B true)) (rv_pick_t (congrArg B hb114) rfl) ?_
                refine w_end ?_
                obtain rfl := Option.some.inj h
                exact ⟨rfl, _, σ115, fr_join ⟨rfl, rfl, rfl, rfl, rfl, rfl, rfl, trivial⟩, rfl, H.sel' [0, 1, 2] rfl rfl⟩
              ·replace h := bif_f hb114 h
               obtain ⟨x116, hx117, h'⟩ := bind_some h
               clear h
               have h := h'; clear h'
               obtain ⟨b119, o120, hi118, -⟩ := (H.own 1 rfl).ix hx117
               obtain ⟨v124, hc125, hR123⟩ := ((H.own 1 rfl).at hx117 hi118).slice
               obtain ⟨a121, c122, rfl⟩ := hR123.isSl
               replace H := H.add (d := Ch.ro n0 (Sl a121 x116 c122) x116) hR123 (fun _ h => h)
               clear hR123
               obtain ⟨x126, hx127, h'⟩ := bind_some h
               clear h
               have h := h'; clear h'
               obtain ⟨b129, o130, hi128, -⟩ := (H.own 1 rfl).ix hx127
               have hc131 := ((H.own 1 rfl).at hx127 hi128).fst.int
               obtain ⟨x132, hx133, h'⟩ := bind_some h
               clear h
               have h := h'; clear h'
               obtain ⟨b135, o136, hi134, -⟩ := (H.own 1 rfl).ix hx133
               have hc137 := ((H.own 1 rfl).at hx133 hi134).fst.int
               have Hs := H
               refine rg2 (σ := σ111) (Nm := (Nat)) 20 [19] [[false], [true]] [[(0, 0)], [(0, 0)], [(0, 0)], [(0, 0)], [(0, 0)], [(0, 0), (1, 1)], [(0, 0), (1, 1)], [(0, 0), (1, 1)], [(0, 0), (1, 1)], [(0, 0)], [(0, 0)], [(0, 0)], [(0, 0)], [(0, 0)], [(0, 0)], [(0, 0)], [(0, 0)], [(0, 0)], [(0, 0)], [(0, 1)]] 1 [fun (b138 : (Nat)) => fun σm => Hp S0 σ0 σm [Ch.ro n0 (Sl a121 x116 c122) x116, Ch.own n0 n0 (Sl a5 r2.1 c6) r2.1, Ch.own n0 n0 (Sl a11 r8 c12) r8, Ch.own n0 n0 (Sl a49 r46 c50) r46] ∧ Md (cov []) σ111 σm, fun (b138 : (Nat)) => fun σm => Hp S0 σ0 σm [Ch.own n0 n0 (Sl (some ⟨b138, 0, none⟩) ([x126.1, x132.1] : List Int) 2) ([x126.1, x132.1] : List Int), Ch.ro n0 (Sl a121 x116 c122) x116, Ch.own n0 n0 (Sl a5 r2.1 c6) r2.1, Ch.own n0 n0 (Sl a11 r8 c12) r8, Ch.own n0 n0 (Sl a49 r46 c50) r46] ∧ Md (cov []) σ111 σm] [fun (b138 : (Nat)) => (I s61.1), fun (b138 : (Nat)) => (Sl a11 r8 c12), fun (b138 : (Nat)) => (I (r8.length : Int)), fun (b138 : (Nat)) => (B (decide ((r8.length : Int) ≤ s61.1))), fun (b138 : (Nat)) => (B (decide ((r8.length : Int) ≤ s61.1))), fun (b138 : (Nat)) => (Sl a11 r8 c12), fun (b138 : (Nat)) => (I s61.1), fun (b138 : (Nat)) => (pt b119 o120), fun (b138 : (Nat)) => (Sl a121 x116 c122), fun (b138 : (Nat)) => (Sl a5 r2.1 c6), fun (b138 : (Nat)) => (I s54.2), fun (b138 : (Nat)) => (pt b129 o130), fun (b138 : (Nat)) => (pt b129 (o130 + 0)), fun (b138 : (Nat)) => (I x126.1), fun (b138 : (Nat)) => (Sl a5 r2.1 c6), fun (b138 : (Nat)) => (I s61.2), fun (b138 : (Nat)) => (pt b135 o136), fun (b138 : (Nat)) => (pt b135 (o136 + 0)), fun (b138 : (Nat)) => (I x132.1), fun (b138 : (Nat)) => (Sl (some ⟨b138, 0, none⟩) ([x126.1, x132.1] : List Int) 2)] (0) (by kernel_rfl) (by kernel_rfl) ?_ ?_ ?_
               ·intro σm m0
                exact ⟨H.grow (m0.mono fun _ h => h.elim), m0⟩
               ·refine ac rfl (by
                  intro k b138 ρ σm hJ hoff hdep
                  have e8 := look_off (N := 123) (hoff 8 rfl) rfl
                  exact dp_v (v := (I s61.1)) wn (rv_move e8) rfl hJ) ?_
                refine ac rfl (by
                  intro k b138 ρ σm hJ hoff hdep
                  have e6 := look_off (N := 123) (hoff 6 rfl) rfl
                  exact dp_v (v := (Sl a11 r8 c12)) wn (rv_move e6) rfl hJ) ?_
                refine ac rfl (by
                  intro k b138 ρ σm hJ hoff hdep
                  have e95 := hdep 1 rfl rfl 95 rfl
                  exact dp_v (v := (I (r8.length : Int))) wn (rv_len Try.underlying26 e95) rfl hJ) ?_
                refine ac rfl (by
                  intro k b138 ρ σm hJ hoff hdep
                  have e94 := hdep 0 rfl rfl 94 rfl
                  have e96 := hdep 2 rfl rfl 96 rfl
                  exact dp_v (v := (B (decide ((r8.length : Int) ≤ s61.1)))) wn (rv_geq (a := s61.1) (b := (r8.length : Int)) e94 e96) rfl hJ) ?_
                refine ac rfl (by
                  intro k b138 ρ σm hJ hoff hdep
                  have e97 := hdep 3 rfl rfl 97 rfl
                  exact dp_v (v := (B (decide ((r8.length : Int) ≤ s61.1)))) wn (rv_move e97) rfl hJ) ?_
                refine ac rfl (by
                  intro k b138 ρ σm hJ hoff hdep
                  have e6 := look_off (N := 123) (hoff 6 rfl) rfl
                  have e98 := hdep 4 rfl rfl 98 rfl
                  exact dp_v (v := (Sl a11 r8 c12)) (wanted_yes rfl (yv_of rfl (e98.trans (congrArg B hb114)))) (rv_move e6) rfl hJ) ?_
                refine ac rfl (by
                  intro k b138 ρ σm hJ hoff hdep
                  have e8 := look_off (N := 123) (hoff 8 rfl) rfl
                  have e98 := hdep 4 rfl rfl 98 rfl
                  exact dp_v (v := (I s61.1)) (wanted_yes rfl (yv_of rfl (e98.trans (congrArg B hb114)))) (rv_move e8) rfl hJ) ?_
                refine ac rfl (by
                  intro k b138 ρ σm hJ hoff hdep
                  have e99 := hdep 5 rfl rfl 99 rfl
                  have e100 := hdep 6 rfl rfl 100 rfl
                  have e98 := hdep 4 rfl rfl 98 rfl
                  exact dp_v (v := (pt b119 o120)) (wanted_yes rfl (yv_of rfl (e98.trans (congrArg B hb114)))) (rv_ix Try.underlying26 ti30 e99 e100 hi118) rfl hJ) ?_
                refine all_cons (by
                  refine ⟨?_, ?_⟩
                  ·intro b138 ρ σm hJ hoff hdep
                   have e101 := hdep 7 rfl rfl 101 rfl
                   have e98 := hdep 4 rfl rfl 98 rfl
                   obtain ⟨H, m⟩ := id hJ
                   replace hc125 := m.hcell hc125 nocov
                   exact dp_v (v := (Sl a121 x116 c122)) (wanted_yes rfl (yv_of rfl (e98.trans (congrArg B hb114)))) (rv_load1 Try.underlying30 rfl e101 hc125) rfl hJ
                  refine ⟨?_, ?_⟩
                  ·intro b138 ρ σm hJ hoff hdep
                   have e101 := hdep 7 rfl rfl 101 rfl
                   have e98 := hdep 4 rfl rfl 98 rfl
                   obtain ⟨H, m⟩ := id hJ
                   replace hc125 := m.hcell hc125 nocov
                   exact dp_v (v := (Sl a121 x116 c122)) (wanted_yes rfl (yv_of rfl (e98.trans (congrArg B hb114)))) (rv_load1 Try.underlying30 rfl e101 hc125) rfl hJ
                  trivial) ?_
                refine ac rfl (by
                  intro k b138 ρ σm hJ hoff hdep
                  have e3 := look_off (N := 123) (hoff 3 rfl) rfl
                  have e98 := hdep 4 rfl rfl 98 rfl
                  exact dp_v (v := (Sl a5 r2.1 c6)) (wanted_yes rfl (yv_of rfl (e98.trans (congrArg B hb114)))) (rv_move e3) rfl hJ) ?_
                refine ac rfl (by
                  intro k b138 ρ σm hJ hoff hdep
                  have e9 := look_off (N := 123) (hoff 9 rfl) rfl
                  have e98 := hdep 4 rfl rfl 98 rfl
                  exact dp_v (v := (I s54.2)) (wanted_yes rfl (yv_of rfl (e98.trans (congrArg B hb114)))) (rv_move e9) rfl hJ) ?_
                refine ac rfl (by
                  intro k b138 ρ σm hJ hoff hdep
                  have e103 := hdep 9 rfl rfl 103 rfl
                  have e104 := hdep 10 rfl rfl 104 rfl
                  have e98 := hdep 4 rfl rfl 98 rfl
                  exact dp_v (v := (pt b129 o130)) (wanted_yes rfl (yv_of rfl (e98.trans (congrArg B hb114)))) (rv_ix Try.underlying23 ti32 e103 e104 hi128) rfl hJ) ?_
                refine ac rfl (by
                  intro k b138 ρ σm hJ hoff hdep
                  have e105 := hdep 11 rfl rfl 105 rfl
                  have e98 := hdep 4 rfl rfl 98 rfl
                  exact dp_v (v := (pt b129 (o130 + 0))) (wanted_yes rfl (yv_of rfl (e98.trans (congrArg B hb114)))) (rv_fieldAddr (off := 0) (ft := 3) Try.underlying32 rfl ti3 rfl e105) rfl hJ) ?_
                refine all_cons (by
                  refine ⟨?_, ?_⟩
                  ·intro b138 ρ σm hJ hoff hdep
                   have e106 := hdep 12 rfl rfl 106 rfl
                   have e98 := hdep 4 rfl rfl 98 rfl
                   obtain ⟨H, m⟩ := id hJ
                   have hc131 := ((H.own 1 rfl).at hx127 hi128).fst.int
                   exact dp_v (v := (I x126.1)) (wanted_yes rfl (yv_of rfl (e98.trans (congrArg B hb114)))) (rv_load1 Try.underlying3 rfl e106 hc131) rfl hJ
                  trivial) ?_
                refine ac rfl (by
                  intro k b138 ρ σm hJ hoff hdep
                  have e3 := look_off (N := 123) (hoff 3 rfl) rfl
                  have e98 := hdep 4 rfl rfl 98 rfl
                  exact dp_v (v := (Sl a5 r2.1 c6)) (wanted_yes rfl (yv_of rfl (e98.trans (congrArg B hb114)))) (rv_move e3) rfl hJ) ?_
                refine ac rfl (by
                  intro k b138 ρ σm hJ hoff hdep
                  have e10 := look_off (N := 123) (hoff 10 rfl) rfl
                  have e98 := hdep 4 rfl rfl 98 rfl
                  exact dp_v (v := (I s61.2)) (wanted_yes rfl (yv_of rfl (e98.trans (congrArg B hb114)))) (rv_move e10) rfl hJ) ?_
                refine ac rfl (by
                  intro k b138 ρ σm hJ hoff hdep
                  have e108 := hdep 14 rfl rfl 108 rfl
                  have e109 := hdep 15 rfl rfl 109 rfl
                  have e98 := hdep 4 rfl rfl 98 rfl
                  exact dp_v (v := (pt b135 o136)) (wanted_yes rfl (yv_of rfl (e98.trans (congrArg B hb114)))) (rv_ix Try.underlying23 ti32 e108 e109 hi134) rfl hJ) ?_
                refine ac rfl (by
                  intro k b138 ρ σm hJ hoff hdep
                  have e110 := hdep 16 rfl rfl 110 rfl
                  have e98 := hdep 4 rfl rfl 98 rfl
                  exact dp_v (v := (pt b135 (o136 + 0))) (wanted_yes rfl (yv_of rfl (e98.trans (congrArg B hb114)))) (rv_fieldAddr (off := 0) (ft := 3) Try.underlying32 rfl ti3 rfl e110) rfl hJ) ?_
                refine all_cons (by
                  refine ⟨?_, ?_⟩
                  ·intro b138 ρ σm hJ hoff hdep
                   have e111 := hdep 17 rfl rfl 111 rfl
                   have e98 := hdep 4 rfl rfl 98 rfl
                   obtain ⟨H, m⟩ := id hJ
                   have hc137 := ((H.own 1 rfl).at hx133 hi134).fst.int
                   exact dp_v (v := (I x132.1)) (wanted_yes rfl (yv_of rfl (e98.trans (congrArg B hb114)))) (rv_load1 Try.underlying3 rfl e111 hc137) rfl hJ
                  trivial) ?_
                refine all_cons (by
                  refine ⟨?_, ?_⟩
                  ·intro b138 ρ σm hJ hoff hdep
                   have e107 : look 123 ρ 107 = (I x126.1) := hdep 13 rfl rfl 107 rfl
                   have e112 : look 123 ρ 112 = (I x132.1) := hdep 18 rfl rfl 112 rfl
                   have e98 := hdep 4 rfl rfl 98 rfl
                   obtain ⟨H, m⟩ := id hJ
                   refine dp_ex (wanted_yes rfl (yv_of rfl (e98.trans (congrArg B hb114)))) (ex_buildSlice (el := n0) (xs := ([x126.1, x132.1] : List Int)) (ps := [(0, (I x126.1)), (1, (I x132.1))]) (cs := [(I x126.1), (I x132.1)]) H hn0 Try.underlying30 ti3 rfl (by show [(0, look 123 ρ 107), (1, look 123 ρ 112)] = _; rw [e107, e112]) (by kernel_rfl) (.cons (c := [(I x126.1)]) rfl (.cons (c := [(I x132.1)]) rfl (.nil))) rfl) ?_
                   rintro _ σq ⟨b138x, rfl, H2, m2⟩
                   exact ⟨_, b138x, rfl, rfl, ⟨H2.sel' [0, 1, 2, 3, 4] rfl rfl, m.comp0 m2⟩, stab [0, 1, 2, 3, 4, 5, 6, 7, 8, 9, 10, 11, 12, 13, 14, 15, 16, 17, 18] (by kernel_rfl) ⟨rfl, rfl, rfl, rfl, rfl, rfl, rfl, rfl, rfl, rfl, rfl, rfl, rfl, rfl, rfl, rfl, rfl, rfl, rfl, trivial⟩⟩
                  trivial) ?_
                exact all_nil
               ·intro b138 ρ σ139 hJ hoff hrel
                have e3 := look_off (N := 123) (hoff 3 rfl) rfl
                have e6 := look_off (N := 123) (hoff 6 rfl) rfl
                have e7 := look_off (N := 123) (hoff 7 rfl) rfl
                have e8 := look_off (N := 123) (hoff 8 rfl) rfl
                have e9 := look_off (N := 123) (hoff 9 rfl) rfl
                have e10 := look_off (N := 123) (hoff 10 rfl) rfl
                have e98 := hrel 4 rfl 98 rfl
                have e102 := hrel 8 rfl 102 rfl
                have e113 := hrel 19 rfl 113 rfl
                obtain ⟨H, -⟩ := (show Hp S0 σ0 σ139 [Ch.own n0 n0 (Sl (some ⟨b138, 0, none⟩) ([x126.1, x132.1] : List Int) 2) ([x126.1, x132.1] : List Int), Ch.ro n0 (Sl a121 x116 c122) x116, Ch.own n0 n0 (Sl a5 r2.1 c6) r2.1, Ch.own n0 n0 (Sl a11 r8 c12) r8, Ch.own n0 n0 (Sl a49 r46 c50) r46] ∧ Md (cov []) σ111 σ139 from hJ)
                clear hJ Hs
                rw [fr_lookL (L := [(3, (Sl a5 r2.1 c6)), (6, (Sl a11 r8 c12)), (7, (Sl a49 r46 c50)), (8, (I s61.1)), (9, (I s54.2)), (10, (I s61.2)), (98, (B (decide ((r8.length : Int) ≤ s61.1)))), (102, (Sl a121 x116 c122)), (113, (Sl (some ⟨b138, 0, none⟩) ([x126.1, x132.1] : List Int) 2))]) ⟨e3, e6, e7, e8, e9, e10, e98, e102, e113, trivial⟩]
                clear hoff hrel e3 e6 e7 e8 e9 e10 e98 e102 e113
                obtain ⟨σ140, hw141, H, -⟩ := H.pub 0 rfl (Nat.le_refl _)
                rw [← hw141]; clear hw141
                replace H := H.roLow 1 0 rfl (Nat.zero_le _)
                replace H := H.roLow 1 0 rfl (Nat.zero_le _)
                obtain ⟨r142, hx143, h'⟩ := bind_some h
                clear h
                have h := h'; clear h'
                have hc144 := c_laws_equalInts (aa_0 := a121) (ca_0 := c122) (ab_1 := (some ⟨b138, 0, none⟩)) (cb_1 := 2) hx143
                refine st_call (cx_call hc144 (ent_f hc144.fn rfl) hn0 (show Hp S0 σ0 _ ([Ch.ro 0 (Sl a121 x116 c122) x116, Ch.ro 0 (Sl (some ⟨b138, 0, none⟩) ([x126.1, x132.1] : List Int) 2) ([x126.1, x132.1] : List Int)] ++ [Ch.ro 0 (Sl (some ⟨b138, 0, none⟩) ([x126.1, x132.1] : List Int) 2) ([x126.1, x132.1] : List Int), Ch.ro 0 (Sl a121 x116 c122) x116, Ch.ro n0 (Sl (some ⟨b138, 0, none⟩) ([x126.1, x132.1] : List Int) 2) ([x126.1, x132.1] : List Int), Ch.ro n0 (Sl a121 x116 c122) x116, Ch.own n0 n0 (Sl a5 r2.1 c6) r2.1, Ch.own n0 n0 (Sl a11 r8 c12) r8, Ch.own n0 n0 (Sl a49 r46 c50) r46]) from (H.sel' [1, 0, 0, 1, 2, 3, 4, 5, 6] rfl rfl))) (wanted_yes rfl (by exact (congrArg some hb114))) ?_
                rintro _ σ145 ⟨_, ⟨rfl, rfl⟩, H, -⟩
                replace H : Hp S0 σ0 σ145 [Ch.ro 0 (Sl (some ⟨b138, 0, none⟩) ([x126.1, x132.1] : List Int) 2) ([x126.1, x132.1] : List Int), Ch.ro 0 (Sl a121 x116 c122) x116, Ch.ro n0 (Sl (some ⟨b138, 0, none⟩) ([x126.1, x132.1] : List Int) 2) ([x126.1, x132.1] : List Int), Ch.ro n0 (Sl a121 x116 c122) x116, Ch.own n0 n0 (Sl a5 r2.1 c6) r2.1, Ch.own n0 n0 (Sl a11 r8 c12) r8, Ch.own n0 n0 (Sl a49 r46 c50) r46] := H
                refine st_g (v := (B (!r142))) (congrArg some hb114) (rv_not rfl) ?_
                refine st (v := (B (!r142))) (rv_pick_f (congrArg B hb114) rfl) ?_
                refine w_end ?_
                obtain rfl := Option.some.inj h
                exact ⟨rfl, _, σ145, fr_join ⟨rfl, rfl, rfl, rfl, rfl, rfl, rfl, trivial⟩, rfl, H.sel' [4, 5, 6] rfl rfl⟩
             ·clear hj
              have h := h'
              clear h' H
              rintro e a w ⟨rfl, ρ, σ146, rfl, rfl, H⟩
              refine q_then ?_
              refine cd_cond o113 rfl (fun hb147 => ?_) (fun hb147 => ?_)
              ·replace h := bif_t hb147 h
               refine c_seq ?_
               refine rg ?_
               refine st (v := (B false)) (rv_assign rfl) ?_
               refine w_end ?_
               refine q_then ?_
               refine c_ret ?_
               refine q_then_r ?_
               refine q_blk_r ?_
               obtain rfl := Option.some.inj h
               exact .inr (⟨_, rfl, rfl, _, σ146, fr_join ⟨rfl, trivial⟩, rfl, H.sel' [] rfl rfl⟩)
              ·replace h := bif_f hb147 h
               refine c_skip ?_
               refine q_then ?_
               refine rg ?_
               refine st (v := (I s61.1)) (rv_move rfl) ?_
               refine st (v := (I (w64 (s61.1 + 1)))) (rv_add (a := s61.1) (b := 1) rfl rfl) ?_
               refine st (v := (I (w64 (s61.1 + 1)))) (rv_assign rfl) ?_
               refine w_end ?_
               refine q_blk ?_
               obtain rfl := Option.some.inj h
               exact .inl ⟨_, rfl, rfl, _, σ146, fr_join ⟨rfl, rfl, rfl, rfl, rfl, rfl, trivial⟩, rfl, H.sel' [0, 1, 2] rfl rfl⟩
            ·replace h := bif_f hb112 h
             refine c_skip ?_
             refine q_blk ?_
             obtain rfl := Option.some.inj h
             exact .inl ⟨_, rfl, rfl, _, σ111, fr_join ⟨rfl, rfl, rfl, rfl, rfl, rfl, trivial⟩, rfl, H.sel' [0, 1, 2] rfl rfl⟩
          ·clear hj
           have h := h'
           clear h' H
           rintro e a w (⟨t148, rfl, rfl, ρ, σ149, rfl, rfl, H⟩ | ⟨t150, rfl, rfl, ρ, σ151, rfl, rfl, H⟩)
           ·replace h := selim_l h
            refine q_then ?_
            refine rg ?_
            refine st (v := (I s61.2)) (rv_move rfl) ?_
            refine st (v := (I (w64 (s61.2 + 1)))) (rv_add (a := s61.2) (b := 1) rfl rfl) ?_
            refine st (v := (I (w64 (s61.2 + 1)))) (rv_assign rfl) ?_
            refine w_end ?_
            refine q_then ?_
            obtain rfl := Option.some.inj h
            exact ⟨_, rfl, _, σ149, fr_join ⟨rfl, rfl, rfl, rfl, rfl, rfl, trivial⟩, rfl, H.sel' [0, 1, 2] rfl rfl⟩
           ·replace h := selim_r h
            refine q_then_r ?_
            refine q_then_r ?_
            refine q_blk_r ?_
            obtain rfl := Option.some.inj h
            obtain rfl := hres _ rfl
            exact .inr (⟨_, rfl, rfl, _, σ151, fr_join ⟨rfl, trivial⟩, rfl, H.sel' [] rfl rfl⟩)
         ·replace h := bif_f hb66 h
          refine c_exit ?_
          refine q_then_x ?_
          refine q_then_x ?_
          refine q_blk_hit ?_
          obtain rfl := Option.some.inj h
          obtain rfl := hres _ rfl
          exact .inl ⟨_, rfl, rfl, _, σ65, fr_join ⟨rfl, rfl, rfl, rfl, rfl, trivial⟩, rfl, H.sel' [0, 1, 2] rfl rfl⟩
       ·clear hj
        have h := h'
        clear h' H
        rintro e a w (⟨t152, rfl, rfl, ρ, σ153, rfl, rfl, H⟩ | ⟨t154, rfl, rfl, ρ, σ155, rfl, rfl, H⟩)
        ·replace h := selim_l h
         refine q_blk ?_
         refine q_then ?_
         refine rg ?_
         refine st (v := (I s54.2)) (rv_move rfl) ?_
         refine st (v := (I (w64 (s54.2 + 1)))) (rv_add (a := s54.2) (b := 1) rfl rfl) ?_
         refine st (v := (I (w64 (s54.2 + 1)))) (rv_assign rfl) ?_
         refine w_end ?_
         refine q_then ?_
         obtain rfl := Option.some.inj h
         exact ⟨_, rfl, _, σ153, fr_join ⟨rfl, rfl, rfl, rfl, rfl, trivial⟩, rfl, H.sel' [0, 1, 2] rfl rfl⟩
        ·replace h := selim_r h
         refine q_blk_r ?_
         refine q_then_r ?_
         refine q_then_r ?_
         refine q_blk_r ?_
         obtain rfl := Option.some.inj h
         obtain rfl := hres _ rfl
         exact .inr (⟨_, rfl, rfl, _, σ155, fr_join ⟨rfl, trivial⟩, rfl, H.sel' [] rfl rfl⟩)
      ·replace h := bif_f hb59 h
       refine c_exit ?_
       refine q_then_x ?_
       refine q_then_x ?_
       refine q_blk_hit ?_
       obtain rfl := Option.some.inj h
       obtain rfl := hres _ rfl
       exact .inl ⟨_, rfl, rfl, _, σ58, fr_join ⟨rfl, rfl, trivial⟩, rfl, H.sel' [1] rfl rfl⟩
    ·clear hj
     have h := h'
     clear h' H
     rintro e a w (⟨t156, rfl, rfl, ρ, σ157, rfl, rfl, H⟩ | ⟨t158, rfl, rfl, ρ, σ159, rfl, rfl, H⟩)
     ·replace h := selim_l h
      refine q_then ?_
      refine c_seq ?_
      refine rg ?_
      refine st (v := (I t156)) (rv_move rfl) ?_
      refine st (v := (Sl a11 r8 c12)) (rv_move rfl) ?_
      refine st (v := (I (r8.length : Int))) (rv_len Try.underlying26 rfl) ?_
      refine st (v := (B (t156 == (r8.length : Int)))) (rv_eql (a := t156) (b := (r8.length : Int)) rfl rfl) ?_
      refine st (v := (B (t156 == (r8.length : Int)))) (rv_assign rfl) ?_
      refine w_end ?_
      refine q_then ?_
      refine c_ret ?_
      obtain rfl := Option.some.inj h
      exact fin_ret (v := (B (t156 == (r8.length : Int)))) (results_ok Try.results3 (res_tmp (v := (B (t156 == (r8.length : Int)))) rfl res_nil) rfl) ⟨rfl, rfl⟩ (H.sel' [] rfl rfl)
     ·replace h := selim_r h
      refine q_then_r ?_
      obtain rfl := Option.some.inj h
      exact fin_ret (v := (B t158)) (results_ok Try.results3 (res_tmp (v := (B t158)) rfl res_nil) rfl) ⟨rfl, rfl⟩ (H.sel' [] rfl rfl)

end Go.Vs
