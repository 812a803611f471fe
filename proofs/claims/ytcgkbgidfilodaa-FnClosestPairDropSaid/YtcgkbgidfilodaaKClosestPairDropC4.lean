/- The functions compute what their models say. -/
import Derived.Test.YtcgkbgidfilodaaKClosestPairDropC3
set_option linter.unusedVariables false
set_option linter.unusedSimpArgs false
set_option maxRecDepth 20000
namespace Go.Vs
open Go Go.Proofs
attribute [local irreducible] Code.wp wpList wpQuiet Calls

theorem c_laws_FnClosestPairDrop {code_0 : List UInt8} {acode_0 : Option Addr} {ccode_0 : Nat} {r : Bool} (h : M.laws_FnClosestPairDrop code_0 = some r) :
    Cal2 Try.prog 6 [(Sl acode_0 code_0 ccode_0)] [Ch.ro 0 (Sl acode_0 code_0 ccode_0) code_0] (fun n0 v L => v = (B r) ∧ L = []) := by
  refine cal2 (n := 124) Try.func6 rfl rfl rfl rfl ?_
  intro S0 σ0 n0 hn0 H
  unfold M.laws_FnClosestPairDrop at h
  refine c_seq ?_
  refine rg ?_
  refine st (v := (B false)) (rv_assign rfl) ?_
  refine w_end ?_
  refine q_then ?_
  refine c_seq ?_
  refine c_seq ?_
  refine rg ?_
  refine st (v := (Sl acode_0 code_0 ccode_0)) (rv_move rfl) ?_
  refine st (v := (I (code_0.length : Int))) (rv_len Try.underlying22 rfl) ?_
  refine st (v := (B (decide (1048576 < (code_0.length : Int))))) (rv_gtr (a := (code_0.length : Int)) (b := 1048576) rfl rfl) ?_
  refine w_end ?_
  refine q_then ?_
  refine cd_cond (decide (1048576 < (code_0.length : Int))) rfl (fun hb1 => ?_) (fun hb1 => ?_)
  · replace h := bif_t hb1 h
    refine c_seq ?_
    refine rg ?_
    refine st (v := (B true)) (rv_assign rfl) ?_
    refine w_end ?_
    refine q_then ?_
    refine c_ret ?_
    refine q_then_r ?_
    obtain rfl := Option.some.inj h
    exact fin_ret (v := (B true)) (results_ok Try.results6 (res_tmp (v := (B true)) rfl res_nil) rfl) ⟨rfl, rfl⟩ (H.sel' [] rfl rfl)
  · replace h := bif_f hb1 h
    refine c_skip ?_
    refine q_then ?_
    refine c_seq ?_
    refine rg ?_
    refine st (v := (Sl acode_0 code_0 ccode_0)) (rv_move rfl) ?_
    obtain ⟨r2, hx3, h'⟩ := bind_some h
    clear h
    have h := h'; clear h'
    have hc4 := c_spec_DrawClosestPair (acode_0 := acode_0) (ccode_0 := ccode_0) hx3
    refine st_call (cx_call hc4 (ent_f hc4.fn rfl) hn0 (show Hp S0 σ0 _ ([Ch.ro 0 (Sl acode_0 code_0 ccode_0) code_0] ++ [Ch.ro 0 (Sl acode_0 code_0 ccode_0) code_0]) from (H.sel' [0, 0] rfl rfl))) (wanted_none _ rfl _) ?_
    rintro _ σ7 ⟨_, ⟨a5, c6, rfl, rfl⟩, H, -⟩
    replace H : Hp S0 σ0 σ7 [Ch.own n0 n0 (Sl a5 r2.1 c6) r2.1, Ch.ro 0 (Sl acode_0 code_0 ccode_0) code_0] := H
    refine st (v := (.tuple #[(Sl a5 r2.1 c6), (I r2.2)])) (rv_move rfl) ?_
    refine st (v := (Sl a5 r2.1 c6)) (rv_extract rfl rfl) ?_
    refine st (v := (I r2.2)) (rv_extract rfl rfl) ?_
    refine st (v := (Sl a5 r2.1 c6)) (rv_assign rfl) ?_
    refine st (v := (I r2.2)) (rv_assign rfl) ?_
    refine w_end ?_
    refine q_then ?_
    refine c_seq ?_
    refine rg ?_
    refine st (v := (Sl a5 r2.1 c6)) (rv_move rfl) ?_
    refine st (v := (I r2.2)) (rv_move rfl) ?_
    obtain ⟨r8, hx9, h'⟩ := bind_some h
    clear h
    have h := h'; clear h'
    have hc10 := c_impl_ClosestPair (alist_0 := a5) (clist_0 := c6) hx9
    have hle := Nat.le_trans hn0 H.size
    refine st_call (cx_lend (Loan.lend Loan.nil) hc10 (ent_f hc10.fn rfl) (show Hp S0 σ0 _ ([Ch.own n0 n0 (Sl a5 r2.1 c6) r2.1] ++ ([] ++ [Ch.ro 0 (Sl acode_0 code_0 ccode_0) code_0])) from (H.sel' [0, 1] rfl rfl)) (by rintro _ _ _ ⟨rfl, rfl⟩; exact trivial)) (wanted_none _ rfl _) ?_
    rintro _ σ11 ⟨_, ⟨rfl, rfl⟩, H, -, -⟩
    replace H : Hp S0 σ0 σ11 [Ch.own n0 n0 (Sl a5 r2.1 c6) r2.1, Ch.ro 0 (Sl acode_0 code_0 ccode_0) code_0] := H
    clear hle
    replace H : Hp S0 σ0 σ11 [Ch.own n0 n0 (Sl a5 r2.1 c6) r2.1, Ch.ro 0 (Sl acode_0 code_0 ccode_0) code_0] := H
    refine st (v := (.tuple #[(I r8.1), (I r8.2.1), (B r8.2.2)])) (rv_move rfl) ?_
    refine st (v := (I r8.1)) (rv_extract rfl rfl) ?_
    refine st (v := (I r8.2.1)) (rv_extract rfl rfl) ?_
    refine st (v := (B r8.2.2)) (rv_extract rfl rfl) ?_
    refine st (v := (I r8.1)) (rv_assign rfl) ?_
    refine st (v := (I r8.2.1)) (rv_assign rfl) ?_
    refine st (v := (B r8.2.2)) (rv_assign rfl) ?_
    refine w_end ?_
    refine q_then ?_
    refine c_seq ?_
    refine rg ?_
    refine st (v := (Sl a5 r2.1 c6)) (rv_move rfl) ?_
    refine st (v := (I r2.2)) (rv_move rfl) ?_
    obtain ⟨r12, hx13, h'⟩ := bind_some h
    clear h
    have h := h'; clear h'
    have hc14 := c_spec_ClosestPair (alist_0 := a5) (clist_0 := c6) hx13
    have hle := Nat.le_trans hn0 H.size
    refine st_call (cx_lend (Loan.lend Loan.nil) hc14 (ent_f hc14.fn rfl) (show Hp S0 σ0 _ ([Ch.own n0 n0 (Sl a5 r2.1 c6) r2.1] ++ ([] ++ [Ch.ro 0 (Sl acode_0 code_0 ccode_0) code_0])) from (H.sel' [0, 1] rfl rfl)) (by rintro _ _ _ ⟨rfl, rfl⟩; exact trivial)) (wanted_none _ rfl _) ?_
    rintro _ σ15 ⟨_, ⟨rfl, rfl⟩, H, -, -⟩
    replace H : Hp S0 σ0 σ15 [Ch.own n0 n0 (Sl a5 r2.1 c6) r2.1, Ch.ro 0 (Sl acode_0 code_0 ccode_0) code_0] := H
    clear hle
    replace H : Hp S0 σ0 σ15 [Ch.own n0 n0 (Sl a5 r2.1 c6) r2.1, Ch.ro 0 (Sl acode_0 code_0 ccode_0) code_0] := H
    refine st (v := (.tuple #[(I r12.1), (I r12.2.1), (B r12.2.2)])) (rv_move rfl) ?_
    refine st (v := (I r12.1)) (rv_extract rfl rfl) ?_
    refine st (v := (I r12.2.1)) (rv_extract rfl rfl) ?_
    refine st (v := (B r12.2.2)) (rv_extract rfl rfl) ?_
    refine st (v := (I r12.1)) (rv_assign rfl) ?_
    refine st (v := (I r12.2.1)) (rv_assign rfl) ?_
    refine st (v := (B r12.2.2)) (rv_assign rfl) ?_
    refine w_end ?_
    refine q_then ?_
    refine c_seq ?_
    refine c_seq ?_
    obtain ⟨o16, hj, h'⟩ := bind_some h
    clear h
    refine c_cut (fun e a w => e = .normal ∧ ∃ (ρ : Nat → Value) (σ : St), a = fr 124 (updL ρ [(3, (Sl a5 r2.1 c6)), (4, (I r2.2)), (5, (I r8.1)), (6, (I r8.2.1)), (7, (B r8.2.2)), (8, (I r12.1)), (9, (I r12.2.1)), (10, (B r12.2.2)), (55, (B o16))]) ∧ w = σ.w ∧ Hp S0 σ0 σ [Ch.own n0 n0 (Sl a5 r2.1 c6) r2.1]) ?_ ?_
    · clear h'
      rename _ = some o16 => h
      refine rg ?_
      refine st (v := (I r8.1)) (rv_move rfl) ?_
      refine st (v := (I r12.1)) (rv_move rfl) ?_
      refine st (v := (B (r8.1 != r12.1))) (rv_neq (a := r8.1) (b := r12.1) rfl rfl) ?_
      refine st (v := (B (r8.1 != r12.1))) (rv_move rfl) ?_
      rcases Bool.eq_false_or_eq_true (r8.1 != r12.1) with hb17 | hb17
      · replace h := bif_t hb17 h
        refine st_skip (congrArg some hb17) ?_
        refine st_skip (congrArg some hb17) ?_
        refine st_skip (congrArg some hb17) ?_
        refine st (v := (B true)) (rv_pick_t (congrArg B hb17) rfl) ?_
        refine st (v := (B true)) (rv_move rfl) ?_
        refine st_skip rfl ?_
        refine st_skip rfl ?_
        refine st_skip rfl ?_
        refine st (v := (B true)) (rv_pick_t rfl rfl) ?_
        refine st (v := (B true)) (rv_move rfl) ?_
        refine st_skip rfl ?_
        refine st_skip rfl ?_
        refine st (v := (B true)) (rv_pick_t rfl rfl) ?_
        refine w_end ?_
        obtain rfl := Option.some.inj h
        exact ⟨rfl, _, σ15, fr_join ⟨rfl, rfl, rfl, rfl, rfl, rfl, rfl, rfl, rfl, trivial⟩, rfl, H.sel' [0] rfl rfl⟩
      · replace h := bif_f hb17 h
        refine st_g (v := (I r8.2.1)) (congrArg some hb17) (rv_move rfl) ?_
        refine st_g (v := (I r12.2.1)) (congrArg some hb17) (rv_move rfl) ?_
        refine st_g (v := (B (r8.2.1 != r12.2.1))) (congrArg some hb17) (rv_neq (a := r8.2.1) (b := r12.2.1) rfl rfl) ?_
        refine st (v := (B (r8.2.1 != r12.2.1))) (rv_pick_f (congrArg B hb17) rfl) ?_
        refine st (v := (B (r8.2.1 != r12.2.1))) (rv_move rfl) ?_
        rcases Bool.eq_false_or_eq_true (r8.2.1 != r12.2.1) with hb18 | hb18
        · replace h := bif_t hb18 h
          refine st_skip (congrArg some hb18) ?_
          refine st_skip (congrArg some hb18) ?_
          refine st_skip (congrArg some hb18) ?_
          refine st (v := (B true)) (rv_pick_t (congrArg B hb18) rfl) ?_
          refine st (v := (B true)) (rv_move rfl) ?_
          refine st_skip rfl ?_
          refine st_skip rfl ?_
          refine st (v := (B true)) (rv_pick_t rfl rfl) ?_
          refine w_end ?_
          obtain rfl := Option.some.inj h
          exact ⟨rfl, _, σ15, fr_join ⟨rfl, rfl, rfl, rfl, rfl, rfl, rfl, rfl, rfl, trivial⟩, rfl, H.sel' [0] rfl rfl⟩
        · replace h := bif_f hb18 h
          refine st_g (v := (B r8.2.2)) (congrArg some hb18) (rv_move rfl) ?_
          refine st_g (v := (B r12.2.2)) (congrArg some hb18) (rv_move rfl) ?_
          refine st_g (v := (B (r8.2.2 != r12.2.2))) (congrArg some hb18) (rv_bneq Try.underlying4 rfl rfl) ?_
          refine st (v := (B (r8.2.2 != r12.2.2))) (rv_pick_f (congrArg B hb18) rfl) ?_
          refine st (v := (B (r8.2.2 != r12.2.2))) (rv_move rfl) ?_
          rcases Bool.eq_false_or_eq_true (r8.2.2 != r12.2.2) with hb19 | hb19
          · replace h := bif_t hb19 h
            refine st_skip (congrArg some hb19) ?_
            refine st_skip (congrArg some hb19) ?_
            refine st (v := (B true)) (rv_pick_t (congrArg B hb19) rfl) ?_
            refine w_end ?_
            obtain rfl := Option.some.inj h
            exact ⟨rfl, _, σ15, fr_join ⟨rfl, rfl, rfl, rfl, rfl, rfl, rfl, rfl, rfl, trivial⟩, rfl, H.sel' [0] rfl rfl⟩
          · replace h := bif_f hb19 h
            refine st_g (v := (B r8.2.2)) (congrArg some hb19) (rv_move rfl) ?_
            refine st_g (v := (B (!r8.2.2))) (congrArg some hb19) (rv_not rfl) ?_
            refine st (v := (B (!r8.2.2))) (rv_pick_f (congrArg B hb19) rfl) ?_
            refine w_end ?_
            obtain rfl := Option.some.inj h
            exact ⟨rfl, _, σ15, fr_join ⟨rfl, rfl, rfl, rfl, rfl, rfl, rfl, rfl, rfl, trivial⟩, rfl, H.sel' [0] rfl rfl⟩
    · clear hj
      have h := h'
      clear h' H
      rintro e a w ⟨rfl, ρ, σ20, rfl, rfl, H⟩
      refine q_then ?_
      refine cd_cond o16 rfl (fun hb21 => ?_) (fun hb21 => ?_)
      · replace h := bif_t hb21 h
        refine c_seq ?_
        refine rg ?_
        refine st (v := (I r8.1)) (rv_move rfl) ?_
        refine st (v := (I r12.1)) (rv_move rfl) ?_
        refine st (v := (B (r8.1 == r12.1))) (rv_eql (a := r8.1) (b := r12.1) rfl rfl) ?_
        refine st (v := (B (r8.1 == r12.1))) (rv_move rfl) ?_
        rcases Bool.eq_false_or_eq_true (r8.1 == r12.1) with hb22 | hb22
        · replace h := bif_t hb22 h
          refine st_g (v := (I r8.2.1)) (congrArg some hb22) (rv_move rfl) ?_
          refine st_g (v := (I r12.2.1)) (congrArg some hb22) (rv_move rfl) ?_
          refine st_g (v := (B (r8.2.1 == r12.2.1))) (congrArg some hb22) (rv_eql (a := r8.2.1) (b := r12.2.1) rfl rfl) ?_
          refine st (v := (B (r8.2.1 == r12.2.1))) (rv_pick_t (congrArg B hb22) rfl) ?_
          refine st (v := (B (r8.2.1 == r12.2.1))) (rv_move rfl) ?_
          rcases Bool.eq_false_or_eq_true (r8.2.1 == r12.2.1) with hb23 | hb23
          · replace h := bif_t hb23 h
            refine st_g (v := (B r8.2.2)) (congrArg some hb23) (rv_move rfl) ?_
            refine st_g (v := (B r12.2.2)) (congrArg some hb23) (rv_move rfl) ?_
            refine st_g (v := (B (r8.2.2 == r12.2.2))) (congrArg some hb23) (rv_beql Try.underlying4 rfl rfl) ?_
            refine st (v := (B (r8.2.2 == r12.2.2))) (rv_pick_t (congrArg B hb23) rfl) ?_
            refine st (v := (B (r8.2.2 == r12.2.2))) (rv_assign rfl) ?_
            refine w_end ?_
            refine q_then ?_
            refine c_ret ?_
            refine q_then_r ?_
            obtain rfl := Option.some.inj h
            exact fin_ret (v := (B (r8.2.2 == r12.2.2))) (results_ok Try.results6 (res_tmp (v := (B (r8.2.2 == r12.2.2))) rfl res_nil) rfl) ⟨rfl, rfl⟩ (H.sel' [] rfl rfl)
          · replace h := bif_f hb23 h
            refine st_skip (congrArg some hb23) ?_
            refine st_skip (congrArg some hb23) ?_
            refine st_skip (congrArg some hb23) ?_
            refine st (v := (B false)) (rv_pick_f (congrArg B hb23) rfl) ?_
            refine st (v := (B false)) (rv_assign rfl) ?_
            refine w_end ?_
            refine q_then ?_
            refine c_ret ?_
            refine q_then_r ?_
            obtain rfl := Option.some.inj h
            exact fin_ret (v := (B false)) (results_ok Try.results6 (res_tmp (v := (B false)) rfl res_nil) rfl) ⟨rfl, rfl⟩ (H.sel' [] rfl rfl)
        · replace h := bif_f hb22 h
          refine st_skip (congrArg some hb22) ?_
          refine st_skip (congrArg some hb22) ?_
          refine st_skip (congrArg some hb22) ?_
          refine st (v := (B false)) (rv_pick_f (congrArg B hb22) rfl) ?_
          refine st (v := (B false)) (rv_move rfl) ?_
          refine st_skip rfl ?_
          refine st_skip rfl ?_
          refine st_skip rfl ?_
          refine st (v := (B false)) (rv_pick_f rfl rfl) ?_
          refine st (v := (B false)) (rv_assign rfl) ?_
          refine w_end ?_
          refine q_then ?_
          refine c_ret ?_
          refine q_then_r ?_
          obtain rfl := Option.some.inj h
          exact fin_ret (v := (B false)) (results_ok Try.results6 (res_tmp (v := (B false)) rfl res_nil) rfl) ⟨rfl, rfl⟩ (H.sel' [] rfl rfl)
      · replace h := bif_f hb21 h
        refine c_skip ?_
        refine q_then ?_
        refine c_seq ?_
        refine c_seq ?_
        refine rg ?_
        refine st (v := (I 0)) (rv_assign rfl) ?_
        refine w_end ?_
        refine q_then ?_
        obtain ⟨o24, hj, h'⟩ := bind_some h
        clear h
        refine c_cut (fun e a w => (∃ t, o24 = (.inl t) ∧ e = .normal ∧ ∃ (ρ : Nat → Value) (σ : St), a = fr 124 (updL ρ []) ∧ w = σ.w ∧ Hp S0 σ0 σ []) ∨ (∃ t, o24 = (.inr t) ∧ e = .ret ∧ ∃ (ρ : Nat → Value) (σ : St), a = fr 124 (updL ρ [(2, (B t))]) ∧ w = σ.w ∧ Hp S0 σ0 σ [])) ?_ ?_
        · clear h'
          rename _ = some o24 => h
          refine c_blk ?_
          obtain ⟨σ26, hw27, H, -⟩ := H.pub 0 rfl (Nat.le_refl _)
          rw [← hw27]; clear hw27
          refine wp_loopM _ h (fun s25 a w => ∃ (ρ : Nat → Value) (σ : St), a = fr 124 (updL ρ [(3, (Sl a5 r2.1 c6)), (4, (I r2.2)), (5, (I r8.1)), (6, (I r8.2.1)), (11, (I s25))]) ∧ w = σ.w ∧ Hp S0 σ0 σ [Ch.ro n0 (Sl a5 r2.1 c6) r2.1]) ⟨_, σ26, fr_join ⟨rfl, rfl, rfl, rfl, rfl, trivial⟩, rfl, H.sel' [0] rfl rfl⟩ ?_
          clear h H
          rintro s25 a w o ⟨ρ, σ28, rfl, rfl, H⟩ h hres
          refine c_seq ?_
          refine c_seq ?_
          refine rg ?_
          refine st (v := (I s25)) (rv_move rfl) ?_
          refine st (v := (Sl a5 r2.1 c6)) (rv_move rfl) ?_
          refine st (v := (I (r2.1.length : Int))) (rv_len Try.underlying23 rfl) ?_
          refine st (v := (B (decide (s25 < (r2.1.length : Int))))) (rv_lss (a := s25) (b := (r2.1.length : Int)) rfl rfl) ?_
          refine w_end ?_
          refine q_then ?_
          refine cd_cond (decide (s25 < (r2.1.length : Int))) rfl (fun hb29 => ?_) (fun hb29 => ?_)
          · replace h := bif_t hb29 h
            refine c_skip ?_
            refine q_then ?_
            refine c_seq ?_
            obtain ⟨o30, hj, h'⟩ := bind_some h
            clear h
            refine c_cut (fun e a w => (∃ t, o30 = (.inl t) ∧ e = .normal ∧ ∃ (ρ : Nat → Value) (σ : St), a = fr 124 (updL ρ [(3, (Sl a5 r2.1 c6)), (4, (I r2.2)), (5, (I r8.1)), (6, (I r8.2.1)), (11, (I s25))]) ∧ w = σ.w ∧ Hp S0 σ0 σ [Ch.ro n0 (Sl a5 r2.1 c6) r2.1]) ∨ (∃ t, o30 = (.inr t) ∧ e = .ret ∧ ∃ (ρ : Nat → Value) (σ : St), a = fr 124 (updL ρ [(2, (B t))]) ∧ w = σ.w ∧ Hp S0 σ0 σ [])) ?_ ?_
            · clear h'
              rename _ = some o30 => h
              refine c_blk ?_
              refine c_seq ?_
              refine c_seq ?_
              obtain ⟨o31, hj, h'⟩ := bind_some h
              clear h
              refine c_cut (fun e a w => e = .normal ∧ ∃ (ρ : Nat → Value) (σ : St), a = fr 124 (updL ρ [(3, (Sl a5 r2.1 c6)), (4, (I r2.2)), (5, (I r8.1)), (6, (I r8.2.1)), (11, (I s25)), (90, (B o31))]) ∧ w = σ.w ∧ Hp S0 σ0 σ [Ch.ro n0 (Sl a5 r2.1 c6) r2.1]) ?_ ?_
              · clear h'
                rename _ = some o31 => h
                refine rg ?_
                refine st (v := (Sl a5 r2.1 c6)) (rv_move rfl) ?_
                refine st (v := (I s25)) (rv_move rfl) ?_
                obtain ⟨x32, hx33, h'⟩ := bind_some h
                clear h
                have h := h'; clear h'
                obtain ⟨b35, o36, hi34, -⟩ := (H.ro 0 rfl).ix hx33
                refine st (v := (pt b35 o36)) (rv_ix Try.underlying23 ti31 rfl rfl hi34) ?_
                refine st (v := (pt b35 (o36 + 0))) (rv_fieldAddr (off := 0) (ft := 3) Try.underlying31 rfl ti3 rfl rfl) ?_
                have hc37 := ((H.ro 0 rfl).at hx33 hi34).fst.int
                refine st (v := (I x32.1)) (rv_load1 Try.underlying3 rfl rfl hc37) ?_
                refine st (v := (I r8.1)) (rv_move rfl) ?_
                refine st (v := (B (x32.1 == r8.1))) (rv_eql (a := x32.1) (b := r8.1) rfl rfl) ?_
                refine st (v := (B (x32.1 == r8.1))) (rv_move rfl) ?_
                rcases Bool.eq_false_or_eq_true (x32.1 == r8.1) with hb38 | hb38
                · replace h := bif_t hb38 h
                  refine st_skip (congrArg some hb38) ?_
                  refine st_skip (congrArg some hb38) ?_
                  refine st_skip (congrArg some hb38) ?_
                  refine st_skip (congrArg some hb38) ?_
                  refine st_skip (congrArg some hb38) ?_
                  refine st_skip (congrArg some hb38) ?_
                  refine st_skip (congrArg some hb38) ?_
                  refine st (v := (B true)) (rv_pick_t (congrArg B hb38) rfl) ?_
                  refine w_end ?_
                  obtain rfl := Option.some.inj h
                  exact ⟨rfl, _, σ28, fr_join ⟨rfl, rfl, rfl, rfl, rfl, rfl, trivial⟩, rfl, H.sel' [0] rfl rfl⟩
                · replace h := bif_f hb38 h
                  refine st_g (v := (Sl a5 r2.1 c6)) (congrArg some hb38) (rv_move rfl) ?_
                  refine st_g (v := (I s25)) (congrArg some hb38) (rv_move rfl) ?_
                  obtain ⟨x39, hx40, h'⟩ := bind_some h
                  clear h
                  have h := h'; clear h'
                  obtain ⟨b42, o43, hi41, -⟩ := (H.ro 0 rfl).ix hx40
                  refine st_g (v := (pt b42 o43)) (congrArg some hb38) (rv_ix Try.underlying23 ti31 rfl rfl hi41) ?_
                  refine st_g (v := (pt b42 (o43 + 0))) (congrArg some hb38) (rv_fieldAddr (off := 0) (ft := 3) Try.underlying31 rfl ti3 rfl rfl) ?_
                  have hc44 := ((H.ro 0 rfl).at hx40 hi41).fst.int
                  refine st_g (v := (I x39.1)) (congrArg some hb38) (rv_load1 Try.underlying3 rfl rfl hc44) ?_
                  refine st_g (v := (I r8.2.1)) (congrArg some hb38) (rv_move rfl) ?_
                  refine st_g (v := (B (x39.1 == r8.2.1))) (congrArg some hb38) (rv_eql (a := x39.1) (b := r8.2.1) rfl rfl) ?_
                  refine st (v := (B (x39.1 == r8.2.1))) (rv_pick_f (congrArg B hb38) rfl) ?_
                  refine w_end ?_
                  obtain rfl := Option.some.inj h
                  exact ⟨rfl, _, σ28, fr_join ⟨rfl, rfl, rfl, rfl, rfl, rfl, trivial⟩, rfl, H.sel' [0] rfl rfl⟩
              · clear hj
                have h := h'
                clear h' H
                rintro e a w ⟨rfl, ρ, σ45, rfl, rfl, H⟩
                refine q_then ?_
                refine cd_cond o31 rfl (fun hb46 => ?_) (fun hb46 => ?_)
                · replace h := bif_t hb46 h
                  refine c_exit ?_
                  refine q_then_x ?_
                  refine q_blk_hit ?_
                  obtain rfl := Option.some.inj h
                  exact .inl ⟨_, rfl, rfl, _, σ45, fr_join ⟨rfl, rfl, rfl, rfl, rfl, trivial⟩, rfl, H.sel' [0] rfl rfl⟩
                · replace h := bif_f hb46 h
                  refine c_skip ?_
                  refine q_then ?_
                  refine c_seq ?_
                  refine rg ?_
                  refine st (v := (Sl a5 r2.1 c6)) (rv_move rfl) ?_
                  refine st (v := (Sl a5 r2.1 c6)) (rv_move rfl) ?_
                  refine st (v := (I s25)) (rv_move rfl) ?_
                  obtain ⟨x47, hx48, h'⟩ := bind_some h
                  clear h
                  have h := h'; clear h'
                  obtain ⟨b50, o51, hi49, -⟩ := (H.ro 0 rfl).ix hx48
                  refine st (v := (pt b50 o51)) (rv_ix Try.underlying23 ti31 rfl rfl hi49) ?_
                  refine st (v := (pt b50 (o51 + 0))) (rv_fieldAddr (off := 0) (ft := 3) Try.underlying31 rfl ti3 rfl rfl) ?_
                  have hc52 := ((H.ro 0 rfl).at hx48 hi49).fst.int
                  refine st (v := (I x47.1)) (rv_load1 Try.underlying3 rfl rfl hc52) ?_
                  replace H := H.roLow 0 0 rfl (Nat.zero_le _)
                  obtain ⟨r53, hx54, h'⟩ := bind_some h
                  clear h
                  have h := h'; clear h'
                  have hc55 := c_impl_DropItem (alist_0 := a5) (clist_0 := c6) hx54
                  refine st_call (cx_call hc55 (ent_f hc55.fn rfl) hn0 (show Hp S0 σ0 _ ([Ch.ro 0 (Sl a5 r2.1 c6) r2.1] ++ [Ch.ro 0 (Sl a5 r2.1 c6) r2.1, Ch.ro n0 (Sl a5 r2.1 c6) r2.1]) from (H.sel' [0, 0, 1] rfl rfl))) (wanted_none _ rfl _) ?_
                  rintro _ σ58 ⟨_, ⟨a56, c57, rfl, rfl⟩, H, -⟩
                  replace H : Hp S0 σ0 σ58 [Ch.own 0 0 (Sl a56 r53.1 c57) r53.1, Ch.ro 0 (Sl a5 r2.1 c6) r2.1, Ch.ro n0 (Sl a5 r2.1 c6) r2.1] := H
                  refine st (v := (.tuple #[(Sl a56 r53.1 c57), (B r53.2)])) (rv_move rfl) ?_
                  refine st (v := (Sl a56 r53.1 c57)) (rv_extract rfl rfl) ?_
                  refine st (v := (B r53.2)) (rv_extract rfl rfl) ?_
                  refine st (v := (Sl a56 r53.1 c57)) (rv_assign rfl) ?_
                  refine st (v := (B r53.2)) (rv_assign rfl) ?_
                  refine w_end ?_
                  refine q_then ?_
                  refine c_seq ?_
                  refine rg ?_
                  refine st (v := (Sl a56 r53.1 c57)) (rv_move rfl) ?_
                  refine st (v := (I r2.2)) (rv_move rfl) ?_
                  obtain ⟨σ59, hw60, H, -⟩ := H.pub 0 rfl (Nat.le_refl _)
                  rw [← hw60]; clear hw60
                  obtain ⟨r61, hx62, h'⟩ := bind_some h
                  clear h
                  have h := h'; clear h'
                  have hc63 := c_impl_ClosestPair (alist_0 := a56) (clist_0 := c57) hx62
                  refine st_call (cx_call hc63 (ent_f hc63.fn rfl) hn0 (show Hp S0 σ0 _ ([Ch.ro 0 (Sl a56 r53.1 c57) r53.1] ++ [Ch.ro 0 (Sl a56 r53.1 c57) r53.1, Ch.ro 0 (Sl a5 r2.1 c6) r2.1, Ch.ro n0 (Sl a5 r2.1 c6) r2.1]) from (H.sel' [0, 0, 1, 2] rfl rfl))) (wanted_none _ rfl _) ?_
                  rintro _ σ64 ⟨_, ⟨rfl, rfl⟩, H, -⟩
                  replace H : Hp S0 σ0 σ64 [Ch.ro 0 (Sl a56 r53.1 c57) r53.1, Ch.ro 0 (Sl a5 r2.1 c6) r2.1, Ch.ro n0 (Sl a5 r2.1 c6) r2.1] := H
                  refine st (v := (.tuple #[(I r61.1), (I r61.2.1), (B r61.2.2)])) (rv_move rfl) ?_
                  refine st (v := (I r61.1)) (rv_extract rfl rfl) ?_
                  refine st (v := (I r61.2.1)) (rv_extract rfl rfl) ?_
                  refine st (v := (B r61.2.2)) (rv_extract rfl rfl) ?_
                  refine st (v := (I r61.1)) (rv_assign rfl) ?_
                  refine st (v := (I r61.2.1)) (rv_assign rfl) ?_
                  refine st (v := (B r61.2.2)) (rv_assign rfl) ?_
                  refine w_end ?_
                  refine q_then ?_
                  refine c_seq ?_
                  obtain ⟨o65, hj, h'⟩ := bind_some h
                  clear h
                  refine c_cut (fun e a w => e = .normal ∧ ∃ (ρ : Nat → Value) (σ : St), a = fr 124 (updL ρ [(3, (Sl a5 r2.1 c6)), (4, (I r2.2)), (5, (I r8.1)), (6, (I r8.2.1)), (11, (I s25)), (123, (B o65))]) ∧ w = σ.w ∧ Hp S0 σ0 σ [Ch.ro n0 (Sl a5 r2.1 c6) r2.1]) ?_ ?_
                  · clear h'
                    rename _ = some o65 => h
                    refine rg ?_
                    refine st (v := (B r53.2)) (rv_move rfl) ?_
                    refine st (v := (B (!r53.2))) (rv_not rfl) ?_
                    refine st (v := (B (!r53.2))) (rv_move rfl) ?_
                    rcases Bool.eq_false_or_eq_true (!r53.2) with hb66 | hb66
                    · replace h := bif_t hb66 h
                      refine st_skip (congrArg some hb66) ?_
                      refine st_skip (congrArg some hb66) ?_
                      refine st (v := (B true)) (rv_pick_t (congrArg B hb66) rfl) ?_
                      refine st (v := (B true)) (rv_move rfl) ?_
                      refine st_skip rfl ?_
                      refine st_skip rfl ?_
                      refine st_skip rfl ?_
                      refine st (v := (B true)) (rv_pick_t rfl rfl) ?_
                      refine st (v := (B true)) (rv_move rfl) ?_
                      refine st_skip rfl ?_
                      refine st_skip rfl ?_
                      refine st_skip rfl ?_
                      refine st (v := (B true)) (rv_pick_t rfl rfl) ?_
                      refine w_end ?_
                      obtain rfl := Option.some.inj h
                      exact ⟨rfl, _, σ64, fr_join ⟨rfl, rfl, rfl, rfl, rfl, rfl, trivial⟩, rfl, H.sel' [2] rfl rfl⟩
                    · replace h := bif_f hb66 h
                      refine st_g (v := (B r61.2.2)) (congrArg some hb66) (rv_move rfl) ?_
                      refine st_g (v := (B (!r61.2.2))) (congrArg some hb66) (rv_not rfl) ?_
                      refine st (v := (B (!r61.2.2))) (rv_pick_f (congrArg B hb66) rfl) ?_
                      refine st (v := (B (!r61.2.2))) (rv_move rfl) ?_
                      rcases Bool.eq_false_or_eq_true (!r61.2.2) with hb67 | hb67
                      · replace h := bif_t hb67 h
                        refine st_skip (congrArg some hb67) ?_
                        refine st_skip (congrArg some hb67) ?_
                        refine st_skip (congrArg some hb67) ?_
                        refine st (v := (B true)) (rv_pick_t (congrArg B hb67) rfl) ?_
                        refine st (v := (B true)) (rv_move rfl) ?_
                        refine st_skip rfl ?_
                        refine st_skip rfl ?_
                        refine st_skip rfl ?_
                        refine st (v := (B true)) (rv_pick_t rfl rfl) ?_
                        refine w_end ?_
                        obtain rfl := Option.some.inj h
                        exact ⟨rfl, _, σ64, fr_join ⟨rfl, rfl, rfl, rfl, rfl, rfl, trivial⟩, rfl, H.sel' [2] rfl rfl⟩
                      · replace h := bif_f hb67 h
                        refine st_g (v := (I r61.1)) (congrArg some hb67) (rv_move rfl) ?_
                        refine st_g (v := (I r8.1)) (congrArg some hb67) (rv_move rfl) ?_
                        refine st_g (v := (B (r61.1 != r8.1))) (congrArg some hb67) (rv_neq (a := r61.1) (b := r8.1) rfl rfl) ?_
                        refine st (v := (B (r61.1 != r8.1))) (rv_pick_f (congrArg B hb67) rfl) ?_
                        refine st (v := (B (r61.1 != r8.1))) (rv_move rfl) ?_
                        rcases Bool.eq_false_or_eq_true (r61.1 != r8.1) with hb68 | hb68
                        · replace h := bif_t hb68 h
                          refine st_skip (congrArg some hb68) ?_
                          refine st_skip (congrArg some hb68) ?_
                          refine st_skip (congrArg some hb68) ?_
                          refine st (v := (B true)) (rv_pick_t (congrArg B hb68) rfl) ?_
                          refine w_end ?_
                          obtain rfl := Option.some.inj h
                          exact ⟨rfl, _, σ64, fr_join ⟨rfl, rfl, rfl, rfl, rfl, rfl, trivial⟩, rfl, H.sel' [2] rfl rfl⟩
                        · replace h := bif_f hb68 h
                          refine st_g (v := (I r61.2.1)) (congrArg some hb68) (rv_move rfl) ?_
                          refine st_g (v := (I r8.2.1)) (congrArg some hb68) (rv_move rfl) ?_
                          refine st_g (v := (B (r61.2.1 != r8.2.1))) (congrArg some hb68) (rv_neq (a := r61.2.1) (b := r8.2.1) rfl rfl) ?_
                          refine st (v := (B (r61.2.1 != r8.2.1))) (rv_pick_f (congrArg B hb68) rfl) ?_
                          refine w_end ?_
                          obtain rfl := Option.some.inj h
                          exact ⟨rfl, _, σ64, fr_join ⟨rfl, rfl, rfl, rfl, rfl, rfl, trivial⟩, rfl, H.sel' [2] rfl rfl⟩
                  · clear hj
                    have h := h'
                    clear h' H
                    rintro e a w ⟨rfl, ρ, σ69, rfl, rfl, H⟩
                    refine q_then ?_
                    refine cd_cond o65 rfl (fun hb70 => ?_) (fun hb70 => ?_)
                    · replace h := bif_t hb70 h
                      refine c_seq ?_
                      refine rg ?_
                      refine st (v := (B false)) (rv_assign rfl) ?_
                      refine w_end ?_
                      refine q_then ?_
                      refine c_ret ?_
                      refine q_blk_r ?_
                      obtain rfl := Option.some.inj h
                      exact .inr (⟨_, rfl, rfl, _, σ69, fr_join ⟨rfl, trivial⟩, rfl, H.sel' [] rfl rfl⟩)
                    · replace h := bif_f hb70 h
                      refine c_skip ?_
                      refine q_blk ?_
                      obtain rfl := Option.some.inj h
                      exact .inl ⟨_, rfl, rfl, _, σ69, fr_join ⟨rfl, rfl, rfl, rfl, rfl, trivial⟩, rfl, H.sel' [0] rfl rfl⟩
            · clear hj
              have h := h'
              clear h' H
              rintro e a w (⟨t71, rfl, rfl, ρ, σ72, rfl, rfl, H⟩ | ⟨t73, rfl, rfl, ρ, σ74, rfl, rfl, H⟩)
              · replace h := selim_l h
                refine q_then ?_
                refine rg ?_
                refine st (v := (I s25)) (rv_move rfl) ?_
                refine st (v := (I (w64 (s25 + 1)))) (rv_add (a := s25) (b := 1) rfl rfl) ?_
                refine st (v := (I (w64 (s25 + 1)))) (rv_assign rfl) ?_
                refine w_end ?_
                refine q_then ?_
                obtain rfl := Option.some.inj h
                exact ⟨_, rfl, _, σ72, fr_join ⟨rfl, rfl, rfl, rfl, rfl, trivial⟩, rfl, H.sel' [0] rfl rfl⟩
              · replace h := selim_r h
                refine q_then_r ?_
                refine q_then_r ?_
                refine q_blk_r ?_
                obtain rfl := Option.some.inj h
                obtain rfl := hres _ rfl
                exact .inr (⟨_, rfl, rfl, _, σ74, fr_join ⟨rfl, trivial⟩, rfl, H.sel' [] rfl rfl⟩)
          · replace h := bif_f hb29 h
            refine c_exit ?_
            refine q_then_x ?_
            refine q_then_x ?_
            refine q_blk_hit ?_
            obtain rfl := Option.some.inj h
            obtain rfl := hres _ rfl
            exact .inl ⟨_, rfl, rfl, _, σ28, fr_join trivial, rfl, H.sel' [] rfl rfl⟩
        · clear hj
          have h := h'
          clear h' H
          rintro e a w (⟨t75, rfl, rfl, ρ, σ76, rfl, rfl, H⟩ | ⟨t77, rfl, rfl, ρ, σ78, rfl, rfl, H⟩)
          · replace h := selim_l h
            refine q_then ?_
            refine c_seq ?_
            refine rg ?_
            refine st (v := (B true)) (rv_assign rfl) ?_
            refine w_end ?_
            refine q_then ?_
            refine c_ret ?_
            obtain rfl := Option.some.inj h
            exact fin_ret (v := (B true)) (results_ok Try.results6 (res_tmp (v := (B true)) rfl res_nil) rfl) ⟨rfl, rfl⟩ (H.sel' [] rfl rfl)
          · replace h := selim_r h
            refine q_then_r ?_
            obtain rfl := Option.some.inj h
            exact fin_ret (v := (B t77)) (results_ok Try.results6 (res_tmp (v := (B t77)) rfl res_nil) rfl) ⟨rfl, rfl⟩ (H.sel' [] rfl rfl)

end Go.Vs
