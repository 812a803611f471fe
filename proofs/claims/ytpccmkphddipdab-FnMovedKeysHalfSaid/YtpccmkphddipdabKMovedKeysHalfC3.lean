/- The functions compute what their models say. -/
import Derived.Test.YtpccmkphddipdabKMovedKeysHalfC2
set_option linter.unusedVariables false
set_option linter.unusedSimpArgs false
set_option maxRecDepth 20000
namespace Go.Vs
open Go Go.Proofs
attribute [local irreducible] Code.wp Code.wpIn wpList wpListIn wpQuiet Calls CallsIn

theorem c_laws_FnMovedKeysHalf {code_0 : List UInt8} {acode_0 : Option Addr} {ccode_0 : Nat} {r : Bool} (h : M.laws_FnMovedKeysHalf code_0 = some r) :
    Cal2 Try.prog 7 [(Sl acode_0 code_0 ccode_0)] [Ch.ro 0 (Sl acode_0 code_0 ccode_0) code_0] (fun n0 v L => v = (B r) ∧ L = []) := by
 refine cal2 (n := 78) Try.func7 rfl rfl rfl rfl ?_
 intro S0 σ0 n0 hn0 H
 unfold M.laws_FnMovedKeysHalf at h
 refine c_seq ?_
 refine rg ?_
 refine st (v := (B false)) (rv_assign rfl) ?_
 refine w_end ?_
 refine q_then ?_
 refine c_seq ?_
 refine c_seq ?_
 refine rg ?_
 refine st (v := (Sl acode_0 code_0 ccode_0)) (rv_move rfl) ?_
 refine st (v := (I (code_0.length : Int))) (rv_len Try.underlying22 rfl) ?_
 refine st (v := (B (decide (1048576 < (code_0.length : Int))))) (rv_gtr (a := (code_0.length : Int)) (b := 1048576) rfl rfl) ?_
 refine w_end ?_
 refine q_then ?_
 refine cd_cond (decide (1048576 < (code_0.length : Int))) rfl (fun hb1 => ?_) (fun hb1 => ?_)
 ·replace h := bif_t hb1 h
  refine c_seq ?_
  refine rg ?_
  refine st (v := (B true)) (rv_assign rfl) ?_
  refine w_end ?_
  refine q_then ?_
  refine c_ret ?_
  refine q_then_r ?_
  obtain rfl := Option.some.inj h
  exact fin_ret (v := (B true)) (results_ok Try.results7 (res_tmp (v := (B true)) rfl res_nil) rfl) ⟨rfl, rfl⟩ (H.sel' [] rfl rfl)
 ·replace h := bif_f hb1 h
  refine c_skip ?_
  refine q_then ?_
  refine c_seq ?_
  refine rg ?_
  refine st (v := (Sl acode_0 code_0 ccode_0)) (rv_move rfl) ?_
  obtain ⟨r2, hx3, h'⟩ := bind_some h
  clear h
  have h := h'; clear h'
  have hc4 := c_spec_DrawMovedKeys (acode_0 := acode_0) (ccode_0 := ccode_0) hx3
  refine st_call (cx_call hc4 (ent_f hc4.fn rfl) hn0 (show Hp S0 σ0 _ ([Ch.ro 0 (Sl acode_0 code_0 ccode_0) code_0] ++ [Ch.ro 0 (Sl acode_0 code_0 ccode_0) code_0]) from (H.sel' [0, 0] rfl rfl))) wn ?_
  rintro _ σ7 ⟨_, ⟨a5, c6, rfl, rfl⟩, H, -⟩
  replace H : Hp S0 σ0 σ7 [Ch.own n0 n0 (Sl a5 r2.1 c6) r2.1, Ch.ro 0 (Sl acode_0 code_0 ccode_0) code_0] := H
  refine st (v := (.tuple #[(Sl a5 r2.1 c6), (I r2.2.1), (I r2.2.2)])) (rv_move rfl) ?_
  refine st (v := (Sl a5 r2.1 c6)) (rv_extract rfl rfl) ?_
  refine st (v := (I r2.2.1)) (rv_extract rfl rfl) ?_
  refine st (v := (I r2.2.2)) (rv_extract rfl rfl) ?_
  refine st (v := (Sl a5 r2.1 c6)) (rv_assign rfl) ?_
  refine st (v := (I r2.2.1)) (rv_assign rfl) ?_
  refine st (v := (I r2.2.2)) (rv_assign rfl) ?_
  refine w_end ?_
  refine q_then ?_
  refine c_seq ?_
  refine rg ?_
  refine st (v := (Sl a5 r2.1 c6)) (rv_move rfl) ?_
  refine st (v := (I r2.2.1)) (rv_move rfl) ?_
  refine st (v := (I r2.2.2)) (rv_move rfl) ?_
  obtain ⟨r8, hx9, h'⟩ := bind_some h
  clear h
  have h := h'; clear h'
  have hc10 := c_impl_MovedKeys (alist_0 := a5) (clist_0 := c6) hx9
  have hle := Nat.le_trans hn0 H.size
  refine st_call (cx_lend (Loan.lend Loan.nil) hc10 (ent_f hc10.fn rfl) (show Hp S0 σ0 _ ([Ch.own n0 n0 (Sl a5 r2.1 c6) r2.1] ++ ([] ++ [Ch.ro 0 (Sl acode_0 code_0 ccode_0) code_0])) from (H.sel' [0, 1] rfl rfl)) (by rintro _ _ _ ⟨_, _, rfl, rfl, _⟩; exact ⟨Ab.ownSc, trivial⟩)) wn ?_
  rintro _ σ14 ⟨_, ⟨a11, c12, rfl, rfl, ht13⟩, H, -, -⟩
  replace H : Hp S0 σ0 σ14 [Ch.own σ7.size σ7.size (Sl a11 r8 c12) r8, Ch.own n0 n0 (Sl a5 r2.1 c6) r2.1, Ch.ro 0 (Sl acode_0 code_0 ccode_0) code_0] := H
  replace H := H.ownLow 0 n0 n0 rfl hle hle
  clear hle
  replace H : Hp S0 σ0 σ14 [Ch.own n0 n0 (Sl a11 r8 c12) r8, Ch.own n0 n0 (Sl a5 r2.1 c6) r2.1, Ch.ro 0 (Sl acode_0 code_0 ccode_0) code_0] := H
  refine st (v := (Sl a11 r8 c12)) (rv_assign rfl) ?_
  refine w_end ?_
  refine q_then ?_
  refine c_seq ?_
  refine c_seq ?_
  obtain ⟨o15, hj, h'⟩ := bind_some h
  clear h
  refine c_cut (fun e a w => e = .normal ∧ ∃ (ρ : Nat → Value) (σ : St), a = fr 78 (updL ρ [(3, (Sl a5 r2.1 c6)), (4, (I r2.2.1)), (5, (I r2.2.2)), (6, (Sl a11 r8 c12)), (40, (B o15))]) ∧ w = σ.w ∧ Hp S0 σ0 σ [Ch.own n0 n0 (Sl a5 r2.1 c6) r2.1, Ch.own n0 n0 (Sl a11 r8 c12) r8]) ?_ ?_
  ·clear h'
   rename _ = some o15 => h
   refine rg ?_
   refine st (v := (Sl a11 r8 c12)) (rv_move rfl) ?_
   refine st (v := (Sl a5 r2.1 c6)) (rv_move rfl) ?_
   refine st (v := (I r2.2.1)) (rv_move rfl) ?_
   refine st (v := (I r2.2.2)) (rv_move rfl) ?_
   obtain ⟨r16, hx17, h'⟩ := bind_some h
   clear h
   have h := h'; clear h'
   have hc18 := c_spec_MovedKeys (alist_0 := a5) (clist_0 := c6) hx17
   have hle := Nat.le_trans hn0 H.size
   refine st_call (cx_lend (Loan.lend Loan.nil) hc18 (ent_f hc18.fn rfl) (show Hp S0 σ0 _ ([Ch.own n0 n0 (Sl a5 r2.1 c6) r2.1] ++ ([] ++ [Ch.own n0 n0 (Sl a11 r8 c12) r8, Ch.ro 0 (Sl acode_0 code_0 ccode_0) code_0])) from (H.sel' [1, 0, 2] rfl rfl)) (by rintro _ _ _ ⟨_, _, rfl, rfl⟩; exact ⟨Ab.ownSc, trivial⟩)) wn ?_
   rintro _ σ21 ⟨_, ⟨a19, c20, rfl, rfl⟩, H, -, -⟩
   replace H : Hp S0 σ0 σ21 [Ch.own σ14.size σ14.size (Sl a19 r16 c20) r16, Ch.own n0 n0 (Sl a5 r2.1 c6) r2.1, Ch.own n0 n0 (Sl a11 r8 c12) r8, Ch.ro 0 (Sl acode_0 code_0 ccode_0) code_0] := H
   replace H := H.ownLow 0 n0 n0 rfl hle hle
   clear hle
   replace H : Hp S0 σ0 σ21 [Ch.own n0 n0 (Sl a19 r16 c20) r16, Ch.own n0 n0 (Sl a5 r2.1 c6) r2.1, Ch.own n0 n0 (Sl a11 r8 c12) r8, Ch.ro 0 (Sl acode_0 code_0 ccode_0) code_0] := H
   obtain ⟨σ22, hw23, H, -⟩ := H.pub 0 rfl (Nat.le_refl _)
   rw [← hw23]; clear hw23
   replace H := H.roLow 0 0 rfl (Nat.zero_le _)
   obtain ⟨r24, hx25, h'⟩ := bind_some h
   clear h
   have h := h'; clear h'
   have hc26 := c_laws_equalInts (aa_0 := a11) (ca_0 := c12) (ab_1 := a19) (cb_1 := c20) hx25
   have hle := Nat.le_trans hn0 H.size
   refine st_call (cx_lend (Loan.lend (Loan.same Loan.nil)) hc26 (ent_f hc26.fn rfl) (show Hp S0 σ0 _ ([Ch.own n0 n0 (Sl a11 r8 c12) r8] ++ ([Ch.ro 0 (Sl a19 r16 c20) r16] ++ [Ch.ro 0 (Sl a19 r16 c20) r16, Ch.ro n0 (Sl a19 r16 c20) r16, Ch.own n0 n0 (Sl a5 r2.1 c6) r2.1, Ch.ro 0 (Sl acode_0 code_0 ccode_0) code_0])) from (H.sel' [3, 0, 0, 1, 2, 4] rfl rfl)) (by rintro _ _ _ ⟨rfl, rfl⟩; exact trivial)) wn ?_
   rintro _ σ27 ⟨_, ⟨rfl, rfl⟩, H, -, -⟩
   replace H : Hp S0 σ0 σ27 [Ch.own n0 n0 (Sl a11 r8 c12) r8, Ch.ro 0 (Sl a19 r16 c20) r16, Ch.ro n0 (Sl a19 r16 c20) r16, Ch.own n0 n0 (Sl a5 r2.1 c6) r2.1, Ch.ro 0 (Sl acode_0 code_0 ccode_0) code_0] := H
   clear hle
   replace H : Hp S0 σ0 σ27 [Ch.own n0 n0 (Sl a11 r8 c12) r8, Ch.ro 0 (Sl a19 r16 c20) r16, Ch.ro n0 (Sl a19 r16 c20) r16, Ch.own n0 n0 (Sl a5 r2.1 c6) r2.1, Ch.ro 0 (Sl acode_0 code_0 ccode_0) code_0] := H
   refine st (v := (B (!r24))) (rv_not rfl) ?_
   refine st (v := (B (!r24))) (rv_move rfl) ?_
   rcases Bool.eq_false_or_eq_true (!r24) with hb28 | hb28
   ·replace h := bif_t hb28 h
    refine st_skip (congrArg some hb28) ?_
    refine st_skip (congrArg some hb28) ?_
    refine st_skip (congrArg some hb28) ?_
    refine st (v := (B true)) (rv_pick_t (congrArg B hb28) rfl) ?_
    refine st (v := (B true)) (rv_move rfl) ?_
    refine st_skip rfl ?_
    refine st_skip rfl ?_
    refine st (v := (B true)) (rv_pick_t rfl rfl) ?_
    refine st (v := (B true)) (rv_move rfl) ?_
    refine st_skip rfl ?_
    refine st_skip rfl ?_
    refine st (v := (B true)) (rv_pick_t rfl rfl) ?_
    refine w_end ?_
    obtain rfl := Option.some.inj h
    exact ⟨rfl, _, σ27, fr_join ⟨rfl, rfl, rfl, rfl, rfl, trivial⟩, rfl, H.sel' [3, 0] rfl rfl⟩
   ·replace h := bif_f hb28 h
    refine st_g (v := (Sl a5 r2.1 c6)) (congrArg some hb28) (rv_move rfl) ?_
    obtain ⟨r29, hx30, h'⟩ := bind_some h
    clear h
    have h := h'; clear h'
    have hc31 := c_impl_ValidStore (alist_0 := a5) (clist_0 := c6) hx30
    have hle := Nat.le_trans hn0 H.size
    refine st_call (cx_lend (Loan.lend Loan.nil) hc31 (ent_f hc31.fn rfl) (show Hp S0 σ0 _ ([Ch.own n0 n0 (Sl a5 r2.1 c6) r2.1] ++ ([] ++ [Ch.own n0 n0 (Sl a11 r8 c12) r8, Ch.ro 0 (Sl a19 r16 c20) r16, Ch.ro n0 (Sl a19 r16 c20) r16, Ch.ro 0 (Sl acode_0 code_0 ccode_0) code_0])) from (H.sel' [3, 0, 1, 2, 4] rfl rfl)) (by rintro _ _ _ ⟨rfl, rfl⟩; exact trivial)) (wanted_yes rfl (by exact (congrArg some hb28))) ?_
    rintro _ σ32 ⟨_, ⟨rfl, rfl⟩, H, -, -⟩
    replace H : Hp S0 σ0 σ32 [Ch.own n0 n0 (Sl a5 r2.1 c6) r2.1, Ch.own n0 n0 (Sl a11 r8 c12) r8, Ch.ro 0 (Sl a19 r16 c20) r16, Ch.ro n0 (Sl a19 r16 c20) r16, Ch.ro 0 (Sl acode_0 code_0 ccode_0) code_0] := H
    clear hle
    replace H : Hp S0 σ0 σ32 [Ch.own n0 n0 (Sl a5 r2.1 c6) r2.1, Ch.own n0 n0 (Sl a11 r8 c12) r8, Ch.ro 0 (Sl a19 r16 c20) r16, Ch.ro n0 (Sl a19 r16 c20) r16, Ch.ro 0 (Sl acode_0 code_0 ccode_0) code_0] := H
    refine st_g (v := (B (!r29))) (congrArg some hb28) (rv_not rfl) ?_
    refine st (v := (B (!r29))) (rv_pick_f (congrArg B hb28) rfl) ?_
    refine st (v := (B (!r29))) (rv_move rfl) ?_
    rcases Bool.eq_false_or_eq_true (!r29) with hb33 | hb33
    ·replace h := bif_t hb33 h
     refine st_skip (congrArg some hb33) ?_
     refine st_skip (congrArg some hb33) ?_
     refine st (v := (B true)) (rv_pick_t (congrArg B hb33) rfl) ?_
     refine st (v := (B true)) (rv_move rfl) ?_
     refine st_skip rfl ?_
     refine st_skip rfl ?_
     refine st (v := (B true)) (rv_pick_t rfl rfl) ?_
     refine w_end ?_
     obtain rfl := Option.some.inj h
     exact ⟨rfl, _, σ32, fr_join ⟨rfl, rfl, rfl, rfl, rfl, trivial⟩, rfl, H.sel' [0, 1] rfl rfl⟩
    ·replace h := bif_f hb33 h
     refine st_g (v := (I r2.2.1)) (congrArg some hb33) (rv_move rfl) ?_
     refine st_g (v := (B (decide (r2.2.1 < 1)))) (congrArg some hb33) (rv_lss (a := r2.2.1) (b := 1) rfl rfl) ?_
     refine st (v := (B (decide (r2.2.1 < 1)))) (rv_pick_f (congrArg B hb33) rfl) ?_
     refine st (v := (B (decide (r2.2.1 < 1)))) (rv_move rfl) ?_
     rcases Bool.eq_false_or_eq_true (decide (r2.2.1 < 1)) with hb34 | hb34
     ·replace h := bif_t hb34 h
      refine st_skip (congrArg some hb34) ?_
      refine st_skip (congrArg some hb34) ?_
      refine st (v := (B true)) (rv_pick_t (congrArg B hb34) rfl) ?_
      refine w_end ?_
      obtain rfl := Option.some.inj h
      exact ⟨rfl, _, σ32, fr_join ⟨rfl, rfl, rfl, rfl, rfl, trivial⟩, rfl, H.sel' [0, 1] rfl rfl⟩
     ·replace h := bif_f hb34 h
      refine st_g (v := (I r2.2.1)) (congrArg some hb34) (rv_move rfl) ?_
      refine st_g (v := (B (decide (8 < r2.2.1)))) (congrArg some hb34) (rv_gtr (a := r2.2.1) (b := 8) rfl rfl) ?_
      refine st (v := (B (decide (8 < r2.2.1)))) (rv_pick_f (congrArg B hb34) rfl) ?_
      refine w_end ?_
      obtain rfl := Option.some.inj h
      exact ⟨rfl, _, σ32, fr_join ⟨rfl, rfl, rfl, rfl, rfl, trivial⟩, rfl, H.sel' [0, 1] rfl rfl⟩
  ·clear hj
   have h := h'
   clear h' H
   rintro e a w ⟨rfl, ρ, σ35, rfl, rfl, H⟩
   refine q_then ?_
   refine cd_cond o15 rfl (fun hb36 => ?_) (fun hb36 => ?_)
   ·replace h := bif_t hb36 h
    refine c_seq ?_
    refine rg ?_
    refine st (v := (Sl a11 r8 c12)) (rv_move rfl) ?_
    refine st (v := (Sl a5 r2.1 c6)) (rv_move rfl) ?_
    refine st (v := (I r2.2.1)) (rv_move rfl) ?_
    refine st (v := (I r2.2.2)) (rv_move rfl) ?_
    obtain ⟨σ37, hw38, H, -⟩ := H.pub 0 rfl (Nat.le_refl _)
    rw [← hw38]; clear hw38
    replace H := H.roLow 0 0 rfl (Nat.zero_le _)
    obtain ⟨r39, hx40, h'⟩ := bind_some h
    clear h
    have h := h'; clear h'
    have hc41 := c_spec_MovedKeys (alist_0 := a5) (clist_0 := c6) hx40
    refine st_call (cx_call hc41 (ent_f hc41.fn rfl) hn0 (show Hp S0 σ0 _ ([Ch.ro 0 (Sl a5 r2.1 c6) r2.1] ++ [Ch.ro 0 (Sl a5 r2.1 c6) r2.1, Ch.ro n0 (Sl a5 r2.1 c6) r2.1, Ch.own n0 n0 (Sl a11 r8 c12) r8]) from (H.sel' [0, 0, 1, 2] rfl rfl))) wn ?_
    rintro _ σ44 ⟨_, ⟨a42, c43, rfl, rfl⟩, H, -⟩
    replace H : Hp S0 σ0 σ44 [Ch.own n0 n0 (Sl a42 r39 c43) r39, Ch.ro 0 (Sl a5 r2.1 c6) r2.1, Ch.ro n0 (Sl a5 r2.1 c6) r2.1, Ch.own n0 n0 (Sl a11 r8 c12) r8] := H
    obtain ⟨σ45, hw46, H, -⟩ := H.pub 3 rfl (Nat.le_refl _)
    rw [← hw46]; clear hw46
    obtain ⟨σ47, hw48, H, -⟩ := H.pub 1 rfl (Nat.le_refl _)
    rw [← hw48]; clear hw48
    replace H := H.roLow 1 0 rfl (Nat.zero_le _)
    replace H := H.roLow 1 0 rfl (Nat.zero_le _)
    obtain ⟨r49, hx50, h'⟩ := bind_some h
    clear h
    have h := h'; clear h'
    have hc51 := c_laws_equalInts (aa_0 := a11) (ca_0 := c12) (ab_1 := a42) (cb_1 := c43) hx50
    refine st_call (cx_call hc51 (ent_f hc51.fn rfl) hn0 (show Hp S0 σ0 _ ([Ch.ro 0 (Sl a11 r8 c12) r8, Ch.ro 0 (Sl a42 r39 c43) r39] ++ [Ch.ro 0 (Sl a42 r39 c43) r39, Ch.ro 0 (Sl a11 r8 c12) r8, Ch.ro n0 (Sl a42 r39 c43) r39, Ch.ro n0 (Sl a11 r8 c12) r8, Ch.ro 0 (Sl a5 r2.1 c6) r2.1, Ch.ro n0 (Sl a5 r2.1 c6) r2.1]) from (H.sel' [1, 0, 0, 1, 2, 3, 4, 5] rfl rfl))) wn ?_
    rintro _ σ52 ⟨_, ⟨rfl, rfl⟩, H, -⟩
    replace H : Hp S0 σ0 σ52 [Ch.ro 0 (Sl a42 r39 c43) r39, Ch.ro 0 (Sl a11 r8 c12) r8, Ch.ro n0 (Sl a42 r39 c43) r39, Ch.ro n0 (Sl a11 r8 c12) r8, Ch.ro 0 (Sl a5 r2.1 c6) r2.1, Ch.ro n0 (Sl a5 r2.1 c6) r2.1] := H
    refine st (v := (B r49)) (rv_assign rfl) ?_
    refine w_end ?_
    refine q_then ?_
    refine c_ret ?_
    refine q_then_r ?_
    obtain rfl := Option.some.inj h
    exact fin_ret (v := (B r49)) (results_ok Try.results7 (res_tmp (v := (B r49)) rfl res_nil) rfl) ⟨rfl, rfl⟩ (H.sel' [] rfl rfl)
   ·replace h := bif_f hb36 h
    refine c_skip ?_
    refine q_then ?_
    refine c_seq ?_
    refine c_seq ?_
    refine rg ?_
    refine st (v := (I 0)) (rv_assign rfl) ?_
    refine w_end ?_
    refine q_then ?_
    obtain ⟨o53, hj, h'⟩ := bind_some h
    clear h
    refine c_cut (fun e a w => (∃ t, o53 = (.inl t) ∧ e = .normal ∧ ∃ (ρ : Nat → Value) (σ : St), a = fr 78 (updL ρ [(3, (Sl a5 r2.1 c6)), (4, (I r2.2.1))]) ∧ w = σ.w ∧ Hp S0 σ0 σ [Ch.ro n0 (Sl a5 r2.1 c6) r2.1]) ∨ (∃ t, o53 = (.inr t) ∧ e = .ret ∧ ∃ (ρ : Nat → Value) (σ : St), a = fr 78 (updL ρ [(2, (B t))]) ∧ w = σ.w ∧ Hp S0 σ0 σ [])) ?_ ?_
    ·clear h'
     rename _ = some o53 => h
     refine c_blk ?_
     obtain ⟨σ55, hw56, H, -⟩ := H.pub 0 rfl (Nat.le_refl _)
     rw [← hw56]; clear hw56
     refine wp_loopM _ h (fun s54 a w => ∃ (ρ : Nat → Value) (σ : St), a = fr 78 (updL ρ [(3, (Sl a5 r2.1 c6)), (4, (I r2.2.1)), (7, (I s54))]) ∧ w = σ.w ∧ Hp S0 σ0 σ [Ch.ro n0 (Sl a5 r2.1 c6) r2.1]) ⟨_, σ55, fr_join ⟨rfl, rfl, rfl, trivial⟩, rfl, H.sel' [0] rfl rfl⟩ ?_
     clear h H
     rintro s54 a w o ⟨ρ, σ57, rfl, rfl, H⟩ h hres
     refine c_seq ?_
     refine c_seq ?_
     refine rg ?_
     refine st (v := (I s54)) (rv_move rfl) ?_
     refine st (v := (Sl a5 r2.1 c6)) (rv_move rfl) ?_
     refine st (v := (I (r2.1.length : Int))) (rv_len Try.underlying23 rfl) ?_
     refine st (v := (B (decide (s54 < (r2.1.length : Int))))) (rv_lss (a := s54) (b := (r2.1.length : Int)) rfl rfl) ?_
     refine w_end ?_
     refine q_then ?_
     refine cd_cond (decide (s54 < (r2.1.length : Int))) rfl (fun hb58 => ?_) (fun hb58 => ?_)
     ·replace h := bif_t hb58 h
      refine c_skip ?_
      refine q_then ?_
      refine c_seq ?_
      refine c_blk ?_
      refine c_seq ?_
      obtain ⟨o59, hj, h'⟩ := bind_some h
      clear h
      refine c_cut (fun e a w => e = .normal ∧ ∃ (ρ : Nat → Value) (σ : St), a = fr 78 (updL ρ [(3, (Sl a5 r2.1 c6)), (4, (I r2.2.1)), (7, (I s54)), (71, (B o59))]) ∧ w = σ.w ∧ Hp S0 σ0 σ [Ch.ro n0 (Sl a5 r2.1 c6) r2.1]) ?_ ?_
      ·clear h'
       rename _ = some o59 => h
       obtain ⟨x60, hx61, h'⟩ := bind_some h
       clear h
       have h := h'; clear h'
       obtain ⟨b63, o64, hi62, -⟩ := (H.ro 0 rfl).ix hx61
       have hc65 := ((H.ro 0 rfl).at hx61 hi62).fst.int
       obtain ⟨r66, hx67, h'⟩ := bind_some h
       clear h
       have h := h'; clear h'
       have hc68 := c_impl_ShardOf hx67
       rcases Bool.eq_false_or_eq_true (r66 == 0) with hb69 | hb69
       ·replace h := bif_t hb69 h
        replace H := H.roLow 0 0 rfl (Nat.zero_le _)
        obtain ⟨r70, hx71, h'⟩ := bind_some h
        clear h
        have h := h'; clear h'
        have hc72 := c_impl_MovedKeys (alist_0 := a5) (clist_0 := c6) hx71
        obtain ⟨x76, hx77, h'⟩ := bind_some h
        clear h
        have h := h'; clear h'
        obtain ⟨b79, o80, hi78, -⟩ := (H.ro 1 rfl).ix hx77
        have hc81 := ((H.ro 1 rfl).at hx77 hi78).fst.int
        have Hs := H
        refine rg2 (σ := σ57) (Nm := (Option Addr) × (Nat)) 17 [6, 11] [[false, false], [true, false], [true, true]] [[(0, 0)], [(0, 0)], [(0, 0)], [(0, 0)], [(0, 0)], [(0, 0)], [(0, 1)], [(1, 1)], [(1, 1)], [(1, 1)], [(1, 1)], [(1, 2)], [(1, 1), (2, 2)], [(1, 1), (2, 2)], [(1, 1), (2, 2)], [(1, 1), (2, 2)], [(1, 1), (2, 2)]] 2 [fun ((a73, c74) : (Option Addr) × (Nat)) => fun σm => Hp S0 σ0 σm [Ch.ro 0 (Sl a5 r2.1 c6) r2.1, Ch.ro n0 (Sl a5 r2.1 c6) r2.1] ∧ Md (cov []) σ57 σm, fun ((a73, c74) : (Option Addr) × (Nat)) => fun σm => Hp S0 σ0 σm [Ch.ro 0 (Sl a5 r2.1 c6) r2.1, Ch.ro n0 (Sl a5 r2.1 c6) r2.1] ∧ Md (cov []) σ57 σm, fun ((a73, c74) : (Option Addr) × (Nat)) => fun σm => Hp S0 σ0 σm [Ch.own n0 n0 (Sl a73 r70 c74) r70, Ch.ro 0 (Sl a5 r2.1 c6) r2.1, Ch.ro n0 (Sl a5 r2.1 c6) r2.1] ∧ Md (cov []) σ57 σm ∧ c74 = r70.length] [fun ((a73, c74) : (Option Addr) × (Nat)) => (Sl a5 r2.1 c6), fun ((a73, c74) : (Option Addr) × (Nat)) => (I s54), fun ((a73, c74) : (Option Addr) × (Nat)) => (pt b63 o64), fun ((a73, c74) : (Option Addr) × (Nat)) => (pt b63 (o64 + 0)), fun ((a73, c74) : (Option Addr) × (Nat)) => (I x60.1), fun ((a73, c74) : (Option Addr) × (Nat)) => (I r2.2.1), fun ((a73, c74) : (Option Addr) × (Nat)) => (I r66), fun ((a73, c74) : (Option Addr) × (Nat)) => (B (r66 == 0)), fun ((a73, c74) : (Option Addr) × (Nat)) => (B (r66 == 0)), fun ((a73, c74) : (Option Addr) × (Nat)) => (Sl a5 r2.1 c6), fun ((a73, c74) : (Option Addr) × (Nat)) => (I r2.2.1), fun ((a73, c74) : (Option Addr) × (Nat)) => (Sl a73 r70 c74), fun ((a73, c74) : (Option Addr) × (Nat)) => (Sl a5 r2.1 c6), fun ((a73, c74) : (Option Addr) × (Nat)) => (I s54), fun ((a73, c74) : (Option Addr) × (Nat)) => (pt b79 o80), fun ((a73, c74) : (Option Addr) × (Nat)) => (pt b79 (o80 + 0)), fun ((a73, c74) : (Option Addr) × (Nat)) => (I x76.1)] (none, 0) (by kernel_rfl) (by kernel_rfl) ?_ ?_ ?_
        ·intro σm m0
         exact ⟨H.grow (m0.mono fun _ h => h.elim), m0⟩
        ·refine ac rfl (by
           intro k; rintro ⟨a73, c74⟩ ρ σm hJ hoff hdep
           have e3 := look_off (N := 78) (hoff 3 rfl) rfl
           exact dp_v (v := (Sl a5 r2.1 c6)) wn (rv_move e3) rfl hJ) ?_
         refine ac rfl (by
           intro k; rintro ⟨a73, c74⟩ ρ σm hJ hoff hdep
           have e7 := look_off (N := 78) (hoff 7 rfl) rfl
           exact dp_v (v := (I s54)) wn (rv_move e7) rfl hJ) ?_
         refine ac rfl (by
           intro k; rintro ⟨a73, c74⟩ ρ σm hJ hoff hdep
           have e53 := hdep 0 rfl rfl 53 rfl
           have e54 := hdep 1 rfl rfl 54 rfl
           exact dp_v (v := (pt b63 o64)) wn (rv_ix Try.underlying23 ti32 e53 e54 hi62) rfl hJ) ?_
         refine ac rfl (by
           intro k; rintro ⟨a73, c74⟩ ρ σm hJ hoff hdep
           have e55 := hdep 2 rfl rfl 55 rfl
           exact dp_v (v := (pt b63 (o64 + 0))) wn (rv_fieldAddr (off := 0) (ft := 3) Try.underlying32 rfl ti3 rfl e55) rfl hJ) ?_
         refine all_cons (by
           refine ⟨?_, ?_⟩
           ·rintro ⟨a73, c74⟩ ρ σm hJ hoff hdep
            have e56 := hdep 3 rfl rfl 56 rfl
            obtain ⟨H, m⟩ := id hJ
            replace hc65 := (Hs.ro 1 rfl).hmd hx61 hi62 (k := 0) (by decide) hc65 m
            exact dp_v (v := (I x60.1)) wn (rv_load1 Try.underlying3 rfl e56 hc65) rfl hJ
           trivial) ?_
         refine ac rfl (by
           intro k; rintro ⟨a73, c74⟩ ρ σm hJ hoff hdep
           have e4 := look_off (N := 78) (hoff 4 rfl) rfl
           exact dp_v (v := (I r2.2.1)) wn (rv_move e4) rfl hJ) ?_
         refine all_cons (by
           refine ⟨?_, ?_⟩
           ·rintro ⟨a73, c74⟩ ρ σm hJ hoff hdep
            have e57 : look 78 ρ 57 = (I x60.1) := hdep 4 rfl rfl 57 rfl
            have e58 : look 78 ρ 58 = (I r2.2.1) := hdep 5 rfl rfl 58 rfl
            obtain ⟨H, m⟩ := id hJ
            refine dp_cx wn (cx_call hc68 (ent_f hc68.fn (by show [look 78 ρ 57, look 78 ρ 58] = _; rw [e57, e58])) hn0 (show Hp S0 σ0 _ ([] ++ [Ch.ro 0 (Sl a5 r2.1 c6) r2.1, Ch.ro n0 (Sl a5 r2.1 c6) r2.1]) from (H.sel' [0, 1] rfl rfl))) ?_
            rintro _ σq ⟨_, ⟨rfl, rfl⟩, H2, m2⟩
            exact ⟨_, (a73, c74), rfl, rfl, ⟨H2.sel' [0, 1] rfl rfl, m.comp0 m2⟩, stab [0, 1, 2, 3, 4, 5] (by kernel_rfl) ⟨rfl, rfl, rfl, rfl, rfl, rfl, trivial⟩⟩
           trivial) ?_
         refine ac rfl (by
           intro k; rintro ⟨a73, c74⟩ ρ σm hJ hoff hdep
           have e59 := hdep 6 rfl rfl 59 rfl
           exact dp_v (v := (B (r66 == 0))) wn (rv_eql (a := r66) (b := 0) e59 rfl) rfl hJ) ?_
         refine ac rfl (by
           intro k; rintro ⟨a73, c74⟩ ρ σm hJ hoff hdep
           have e60 := hdep 7 rfl rfl 60 rfl
           exact dp_v (v := (B (r66 == 0))) wn (rv_move e60) rfl hJ) ?_
         refine ac rfl (by
           intro k; rintro ⟨a73, c74⟩ ρ σm hJ hoff hdep
           have e3 := look_off (N := 78) (hoff 3 rfl) rfl
           have e61 := hdep 8 rfl rfl 61 rfl
           exact dp_v (v := (Sl a5 r2.1 c6)) (wanted_yes rfl (yv_of rfl (e61.trans (congrArg B hb69)))) (rv_move e3) rfl hJ) ?_
         refine ac rfl (by
           intro k; rintro ⟨a73, c74⟩ ρ σm hJ hoff hdep
           have e4 := look_off (N := 78) (hoff 4 rfl) rfl
           have e61 := hdep 8 rfl rfl 61 rfl
           exact dp_v (v := (I r2.2.1)) (wanted_yes rfl (yv_of rfl (e61.trans (congrArg B hb69)))) (rv_move e4) rfl hJ) ?_
         refine all_cons (by
           refine ⟨?_, ?_⟩
           ·rintro ⟨a73, c74⟩ ρ σm hJ hoff hdep
            have e62 : look 78 ρ 62 = (Sl a5 r2.1 c6) := hdep 9 rfl rfl 62 rfl
            have e63 : look 78 ρ 63 = (I r2.2.1) := hdep 10 rfl rfl 63 rfl
            have e61 := hdep 8 rfl rfl 61 rfl
            obtain ⟨H, m⟩ := id hJ
            refine dp_cx (wanted_yes rfl (yv_of rfl (e61.trans (congrArg B hb69)))) (cx_call hc72 (ent_f hc72.fn (by show [look 78 ρ 62, look 78 ρ 63, (I 1)] = _; rw [e62, e63])) hn0 (show Hp S0 σ0 _ ([Ch.ro 0 (Sl a5 r2.1 c6) r2.1] ++ [Ch.ro 0 (Sl a5 r2.1 c6) r2.1, Ch.ro n0 (Sl a5 r2.1 c6) r2.1]) from (H.sel' [0, 0, 1] rfl rfl))) ?_
            rintro _ σq ⟨_, ⟨a73x, c74x, rfl, rfl, ht75⟩, H2, m2⟩
            exact ⟨_, (a73x, c74x), rfl, rfl, ⟨H2.sel' [0, 1, 2] rfl rfl, m.comp0 (m2.mono (fun i h => by simp [cov, Ch.ro] at h)), ht75⟩, stab [0, 1, 2, 3, 4, 5, 6, 7, 8, 9, 10, 12, 13, 14, 15, 16] (by kernel_rfl) ⟨rfl, rfl, rfl, rfl, rfl, rfl, rfl, rfl, rfl, rfl, rfl, rfl, rfl, rfl, rfl, rfl, trivial⟩⟩
           trivial) ?_
         refine ac rfl (by
           intro k; rintro ⟨a73, c74⟩ ρ σm hJ hoff hdep
           have e3 := look_off (N := 78) (hoff 3 rfl) rfl
           have e61 := hdep 8 rfl rfl 61 rfl
           exact dp_v (v := (Sl a5 r2.1 c6)) (wanted_yes rfl (yv_of rfl (e61.trans (congrArg B hb69)))) (rv_move e3) rfl hJ) ?_
         refine ac rfl (by
           intro k; rintro ⟨a73, c74⟩ ρ σm hJ hoff hdep
           have e7 := look_off (N := 78) (hoff 7 rfl) rfl
           have e61 := hdep 8 rfl rfl 61 rfl
           exact dp_v (v := (I s54)) (wanted_yes rfl (yv_of rfl (e61.trans (congrArg B hb69)))) (rv_move e7) rfl hJ) ?_
         refine ac rfl (by
           intro k; rintro ⟨a73, c74⟩ ρ σm hJ hoff hdep
           have e65 := hdep 12 rfl rfl 65 rfl
           have e66 := hdep 13 rfl rfl 66 rfl
           have e61 := hdep 8 rfl rfl 61 rfl
           exact dp_v (v := (pt b79 o80)) (wanted_yes rfl (yv_of rfl (e61.trans (congrArg B hb69)))) (rv_ix Try.underlying23 ti32 e65 e66 hi78) rfl hJ) ?_
         refine ac rfl (by
           intro k; rintro ⟨a73, c74⟩ ρ σm hJ hoff hdep
           have e67 := hdep 14 rfl rfl 67 rfl
           have e61 := hdep 8 rfl rfl 61 rfl
           exact dp_v (v := (pt b79 (o80 + 0))) (wanted_yes rfl (yv_of rfl (e61.trans (congrArg B hb69)))) (rv_fieldAddr (off := 0) (ft := 3) Try.underlying32 rfl ti3 rfl e67) rfl hJ) ?_
         refine all_cons (by
           refine ⟨?_, ?_⟩
           ·rintro ⟨a73, c74⟩ ρ σm hJ hoff hdep
            have e68 := hdep 15 rfl rfl 68 rfl
            have e61 := hdep 8 rfl rfl 61 rfl
            obtain ⟨H, m⟩ := id hJ
            replace hc81 := (Hs.ro 1 rfl).hmd hx77 hi78 (k := 0) (by decide) hc81 m
            exact dp_v (v := (I x76.1)) (wanted_yes rfl (yv_of rfl (e61.trans (congrArg B hb69)))) (rv_load1 Try.underlying3 rfl e68 hc81) rfl hJ
           refine ⟨?_, ?_⟩
           ·rintro ⟨a73, c74⟩ ρ σm hJ hoff hdep
            have e68 := hdep 15 rfl rfl 68 rfl
            have e61 := hdep 8 rfl rfl 61 rfl
            obtain ⟨H, m, ht75⟩ := id hJ
            replace hc81 := (Hs.ro 1 rfl).hmd hx77 hi78 (k := 0) (by decide) hc81 m
            exact dp_v (v := (I x76.1)) (wanted_yes rfl (yv_of rfl (e61.trans (congrArg B hb69)))) (rv_load1 Try.underlying3 rfl e68 hc81) rfl hJ
           trivial) ?_
         exact all_nil
        ·rintro ⟨a73, c74⟩ ρ σ82 hJ hoff hrel
         have e3 := look_off (N := 78) (hoff 3 rfl) rfl
         have e4 := look_off (N := 78) (hoff 4 rfl) rfl
         have e7 := look_off (N := 78) (hoff 7 rfl) rfl
         have e61 := hrel 8 rfl 61 rfl
         have e64 := hrel 11 rfl 64 rfl
         have e69 := hrel 16 rfl 69 rfl
         obtain ⟨H, -, ht75⟩ := (show Hp S0 σ0 σ82 [Ch.own n0 n0 (Sl a73 r70 c74) r70, Ch.ro 0 (Sl a5 r2.1 c6) r2.1, Ch.ro n0 (Sl a5 r2.1 c6) r2.1] ∧ Md (cov []) σ57 σ82 ∧ c74 = r70.length from hJ)
         clear hJ Hs
         rw [fr_lookL (L := [(3, (Sl a5 r2.1 c6)), (4, (I r2.2.1)), (7, (I s54)), (61, (B (r66 == 0))), (64, (Sl a73 r70 c74)), (69, (I x76.1))]) ⟨e3, e4, e7, e61, e64, e69, trivial⟩]
         clear hoff hrel e3 e4 e7 e61 e64 e69
         obtain ⟨σ83, hw84, H, -⟩ := H.pub 0 rfl (Nat.le_refl _)
         rw [← hw84]; clear hw84
         replace H := H.roLow 0 0 rfl (Nat.zero_le _)
         obtain ⟨r85, hx86, h'⟩ := bind_some h
         clear h
         have h := h'; clear h'
         have hc87 := c_laws_isIn (alist_0 := a73) (clist_0 := c74) hx86
         refine st_call (cx_call hc87 (ent_f hc87.fn rfl) hn0 (show Hp S0 σ0 _ ([Ch.ro 0 (Sl a73 r70 c74) r70] ++ [Ch.ro 0 (Sl a73 r70 c74) r70, Ch.ro n0 (Sl a73 r70 c74) r70, Ch.ro 0 (Sl a5 r2.1 c6) r2.1, Ch.ro n0 (Sl a5 r2.1 c6) r2.1]) from (H.sel' [0, 0, 1, 2, 3] rfl rfl))) (wanted_yes rfl (by exact (congrArg some hb69))) ?_
         rintro _ σ88 ⟨_, ⟨rfl, rfl⟩, H, -⟩
         replace H : Hp S0 σ0 σ88 [Ch.ro 0 (Sl a73 r70 c74) r70, Ch.ro n0 (Sl a73 r70 c74) r70, Ch.ro 0 (Sl a5 r2.1 c6) r2.1, Ch.ro n0 (Sl a5 r2.1 c6) r2.1] := H
         refine st (v := (B r85)) (rv_pick_t (congrArg B hb69) rfl) ?_
         refine w_end ?_
         obtain rfl := Option.some.inj h
         exact ⟨rfl, _, σ88, fr_join ⟨rfl, rfl, rfl, rfl, trivial⟩, rfl, H.sel' [3] rfl rfl⟩
       ·replace h := bif_f hb69 h
        have Hs := H
        refine rg2 (σ := σ57) (Nm := Unit) 17 [6] [[false], [true]] [[(0, 0)], [(0, 0)], [(0, 0)], [(0, 0)], [(0, 0)], [(0, 0)], [(0, 1)], [(1, 1)], [(1, 1)], [(1, 1)], [(1, 1)], [(1, 1)], [(1, 1)], [(1, 1)], [(1, 1)], [(1, 1)], [(1, 1)]] 1 [fun _ => fun σm => Hp S0 σ0 σm [Ch.ro n0 (Sl a5 r2.1 c6) r2.1] ∧ Md (cov []) σ57 σm, fun _ => fun σm => Hp S0 σ0 σm [Ch.ro n0 (Sl a5 r2.1 c6) r2.1] ∧ Md (cov []) σ57 σm] [fun _ => (Sl a5 r2.1 c6), fun _ => (I s54), fun _ => (pt b63 o64), fun _ => (pt b63 (o64 + 0)), fun _ => (I x60.1), fun _ => (I r2.2.1), fun _ => (I r66), fun _ => (B (r66 == 0)), fun _ => (B (r66 == 0)), fun _ => undef, fun _ => undef, fun _ => undef, fun _ => undef, fun _ => undef, fun _ => undef, fun _ => undef, fun _ => undef] () (by kernel_rfl) (by kernel_rfl) ?_ ?_ ?_
        ·intro σm m0
         exact ⟨H.grow (m0.mono fun _ h => h.elim), m0⟩
        ·refine ac rfl (by
           intro k _nm ρ σm hJ hoff hdep
           have e3 := look_off (N := 78) (hoff 3 rfl) rfl
           exact dp_v (v := (Sl a5 r2.1 c6)) wn (rv_move e3) rfl hJ) ?_
         refine ac rfl (by
           intro k _nm ρ σm hJ hoff hdep
           have e7 := look_off (N := 78) (hoff 7 rfl) rfl
           exact dp_v (v := (I s54)) wn (rv_move e7) rfl hJ) ?_
         refine ac rfl (by
           intro k _nm ρ σm hJ hoff hdep
           have e53 := hdep 0 rfl rfl 53 rfl
           have e54 := hdep 1 rfl rfl 54 rfl
           exact dp_v (v := (pt b63 o64)) wn (rv_ix Try.underlying23 ti32 e53 e54 hi62) rfl hJ) ?_
         refine ac rfl (by
           intro k _nm ρ σm hJ hoff hdep
           have e55 := hdep 2 rfl rfl 55 rfl
           exact dp_v (v := (pt b63 (o64 + 0))) wn (rv_fieldAddr (off := 0) (ft := 3) Try.underlying32 rfl ti3 rfl e55) rfl hJ) ?_
         refine all_cons (by
           refine ⟨?_, ?_⟩
           ·intro _nm ρ σm hJ hoff hdep
            have e56 := hdep 3 rfl rfl 56 rfl
            obtain ⟨H, m⟩ := id hJ
            replace hc65 := (Hs.ro 0 rfl).hmd hx61 hi62 (k := 0) (by decide) hc65 m
            exact dp_v (v := (I x60.1)) wn (rv_load1 Try.underlying3 rfl e56 hc65) rfl hJ
           trivial) ?_
         refine ac rfl (by
           intro k _nm ρ σm hJ hoff hdep
           have e4 := look_off (N := 78) (hoff 4 rfl) rfl
           exact dp_v (v := (I r2.2.1)) wn (rv_move e4) rfl hJ) ?_
         refine all_cons (by
           refine ⟨?_, ?_⟩
           ·intro _nm ρ σm hJ hoff hdep
            have e57 : look 78 ρ 57 = (I x60.1) := hdep 4 rfl rfl 57 rfl
            have e58 : look 78 ρ 58 = (I r2.2.1) := hdep 5 rfl rfl 58 rfl
            obtain ⟨H, m⟩ := id hJ
            refine dp_cx wn (cx_call hc68 (ent_f hc68.fn (by show [look 78 ρ 57, look 78 ρ 58] = _; rw [e57, e58])) hn0 (show Hp S0 σ0 _ ([] ++ [Ch.ro n0 (Sl a5 r2.1 c6) r2.1]) from (H.sel' [0] rfl rfl))) ?_
            rintro _ σq ⟨_, ⟨rfl, rfl⟩, H2, m2⟩
            exact ⟨_, (), rfl, rfl, ⟨H2.sel' [0] rfl rfl, m.comp0 m2⟩, stab [0, 1, 2, 3, 4, 5] (by kernel_rfl) ⟨rfl, rfl, rfl, rfl, rfl, rfl, trivial⟩⟩
           trivial) ?_
         refine ac rfl (by
           intro k _nm ρ σm hJ hoff hdep
           have e59 := hdep 6 rfl rfl 59 rfl
           exact dp_v (v := (B (r66 == 0))) wn (rv_eql (a := r66) (b := 0) e59 rfl) rfl hJ) ?_
         refine ac rfl (by
           intro k _nm ρ σm hJ hoff hdep
           have e60 := hdep 7 rfl rfl 60 rfl
           exact dp_v (v := (B (r66 == 0))) wn (rv_move e60) rfl hJ) ?_
         refine ac rfl (by
           intro k _nm ρ σm hJ hoff hdep
           have e61 := hdep 8 rfl rfl 61 rfl
           exact dp_skip (wanted_no rfl (yv_of rfl (e61.trans (congrArg B hb69)))) rfl hJ) ?_
         refine ac rfl (by
           intro k _nm ρ σm hJ hoff hdep
           have e61 := hdep 8 rfl rfl 61 rfl
           exact dp_skip (wanted_no rfl (yv_of rfl (e61.trans (congrArg B hb69)))) rfl hJ) ?_
         refine ac rfl (by
           intro k _nm ρ σm hJ hoff hdep
           have e61 := hdep 8 rfl rfl 61 rfl
           exact dp_skip (wanted_no rfl (yv_of rfl (e61.trans (congrArg B hb69)))) rfl hJ) ?_
         refine ac rfl (by
           intro k _nm ρ σm hJ hoff hdep
           have e61 := hdep 8 rfl rfl 61 rfl
           exact dp_skip (wanted_no rfl (yv_of rfl (e61.trans (congrArg B hb69)))) rfl hJ) ?_
         refine ac rfl (by
           intro k _nm ρ σm hJ hoff hdep
           have e61 := hdep 8 rfl rfl 61 rfl
           exact dp_skip (wanted_no rfl (yv_of rfl (e61.trans (congrArg B hb69)))) rfl hJ) ?_
         refine ac rfl (by
           intro k _nm ρ σm hJ hoff hdep
           have e61 := hdep 8 rfl rfl 61 rfl
           exact dp_skip (wanted_no rfl (yv_of rfl (e61.trans (congrArg B hb69)))) rfl hJ) ?_
         refine ac rfl (by
           intro k _nm ρ σm hJ hoff hdep
           have e61 := hdep 8 rfl rfl 61 rfl
           exact dp_skip (wanted_no rfl (yv_of rfl (e61.trans (congrArg B hb69)))) rfl hJ) ?_
         refine ac rfl (by
           intro k _nm ρ σm hJ hoff hdep
           have e61 := hdep 8 rfl rfl 61 rfl
           exact dp_skip (wanted_no rfl (yv_of rfl (e61.trans (congrArg B hb69)))) rfl hJ) ?_
         exact all_nil
        ·intro _nm ρ σ89 hJ hoff hrel
         have e3 := look_off (N := 78) (hoff 3 rfl) rfl
         have e4 := look_off (N := 78) (hoff 4 rfl) rfl
         have e7 := look_off (N := 78) (hoff 7 rfl) rfl
         have e61 := hrel 8 rfl 61 rfl
         have e64 := hrel 11 rfl 64 rfl
         have e69 := hrel 16 rfl 69 rfl
         obtain ⟨H, -⟩ := (show Hp S0 σ0 σ89 [Ch.ro n0 (Sl a5 r2.1 c6) r2.1] ∧ Md (cov []) σ57 σ89 from hJ)
         clear hJ Hs
         rw [fr_lookL (L := [(3, (Sl a5 r2.1 c6)), (4, (I r2.2.1)), (7, (I s54)), (61, (B (r66 == 0))), (64, undef), (69, undef)]) ⟨e3, e4, e7, e61, e64, e69, trivial⟩]
         clear hoff hrel e3 e4 e7 e61 e64 e69
         refine st_skip (congrArg some hb69) ?_
         refine st (v := (B false)) (rv_pick_f (congrArg B hb69) rfl) ?_
         refine w_end ?_
         obtain rfl := Option.some.inj h
         exact ⟨rfl, _, σ89, fr_join ⟨rfl, rfl, rfl, rfl, trivial⟩, rfl, H.sel' [0] rfl rfl⟩
      ·clear hj
       have h := h'
       clear h' H
       rintro e a w ⟨rfl, ρ, σ90, rfl, rfl, H⟩
       refine q_then ?_
       refine cd_cond o59 rfl (fun hb91 => ?_) (fun hb91 => ?_)
       ·replace h := bif_t hb91 h
        refine c_seq ?_
        refine rg ?_
        refine st (v := (B false)) (rv_assign rfl) ?_
        refine w_end ?_
        refine q_then ?_
        refine c_ret ?_
        refine q_blk_r ?_
        refine q_then_r ?_
        refine q_then_r ?_
        refine q_blk_r ?_
        obtain rfl := Option.some.inj h
        obtain rfl := hres _ rfl
        exact .inr (⟨_, rfl, rfl, _, σ90, fr_join ⟨rfl, trivial⟩, rfl, H.sel' [] rfl rfl⟩)
       ·replace h := bif_f hb91 h
        refine c_skip ?_
        refine q_blk ?_
        refine q_then ?_
        refine rg ?_
        refine st (v := (I s54)) (rv_move rfl) ?_
        refine st (v := (I (w64 (s54 + 1)))) (rv_add (a := s54) (b := 1) rfl rfl) ?_
        refine st (v := (I (w64 (s54 + 1)))) (rv_assign rfl) ?_
        refine w_end ?_
        refine q_then ?_
        obtain rfl := Option.some.inj h
        exact ⟨_, rfl, _, σ90, fr_join ⟨rfl, rfl, rfl, trivial⟩, rfl, H.sel' [0] rfl rfl⟩
     ·replace h := bif_f hb58 h
      refine c_exit ?_
      refine q_then_x ?_
      refine q_then_x ?_
      refine q_blk_hit ?_
      obtain rfl := Option.some.inj h
      obtain rfl := hres _ rfl
      exact .inl ⟨_, rfl, rfl, _, σ57, fr_join ⟨rfl, rfl, trivial⟩, rfl, H.sel' [0] rfl rfl⟩
    ·clear hj
     have h := h'
     clear h' H
     rintro e a w (⟨t92, rfl, rfl, ρ, σ93, rfl, rfl, H⟩ | ⟨t101, rfl, rfl, ρ, σ102, rfl, rfl, H⟩)
     ·replace h := selim_l h
      refine q_then ?_
      refine c_seq ?_
      refine rg ?_
      refine st (v := (Sl a5 r2.1 c6)) (rv_move rfl) ?_
      refine st (v := (I r2.2.1)) (rv_move rfl) ?_
      refine st (v := (I r2.2.1)) (rv_move rfl) ?_
      replace H := H.roLow 0 0 rfl (Nat.zero_le _)
      obtain ⟨r94, hx95, h'⟩ := bind_some h
      clear h
      have h := h'; clear h'
      have hc96 := c_impl_MovedKeys (alist_0 := a5) (clist_0 := c6) hx95
      refine st_call (cx_call hc96 (ent_f hc96.fn rfl) hn0 (show Hp S0 σ0 _ ([Ch.ro 0 (Sl a5 r2.1 c6) r2.1] ++ [Ch.ro 0 (Sl a5 r2.1 c6) r2.1, Ch.ro n0 (Sl a5 r2.1 c6) r2.1]) from (H.sel' [0, 0, 1] rfl rfl))) wn ?_
      rintro _ σ100 ⟨_, ⟨a97, c98, rfl, rfl, ht99⟩, H, -⟩
      replace H : Hp S0 σ0 σ100 [Ch.own n0 n0 (Sl a97 r94 c98) r94, Ch.ro 0 (Sl a5 r2.1 c6) r2.1, Ch.ro n0 (Sl a5 r2.1 c6) r2.1] := H
      refine st (v := (I (r94.length : Int))) (rv_len Try.underlying26 rfl) ?_
      refine st (v := (B ((r94.length : Int) == 0))) (rv_eql (a := (r94.length : Int)) (b := 0) rfl rfl) ?_
      refine st (v := (B ((r94.length : Int) == 0))) (rv_assign rfl) ?_
      refine w_end ?_
      refine q_then ?_
      refine c_ret ?_
      obtain rfl := Option.some.inj h
      exact fin_ret (v := (B ((r94.length : Int) == 0))) (results_ok Try.results7 (res_tmp (v := (B ((r94.length : Int) == 0))) rfl res_nil) rfl) ⟨rfl, rfl⟩ (H.sel' [] rfl rfl)
     ·replace h := selim_r h
      refine q_then_r ?_
      obtain rfl := Option.some.inj h
      exact fin_ret (v := (B t101)) (results_ok Try.results7 (res_tmp (v := (B t101)) rfl res_nil) rfl) ⟨rfl, rfl⟩ (H.sel' [] rfl rfl)

end Go.Vs
