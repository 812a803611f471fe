/- The functions compute what their models say. -/
import Derived.Test.YtgokepoinohioaaKMeanOfC1
set_option linter.unusedVariables false
set_option linter.unusedSimpArgs false
set_option maxRecDepth 20000
namespace Go.Vs
open Go Go.Proofs
attribute [local irreducible] Code.wp Code.wpIn wpList wpListIn wpQuiet Calls CallsIn

theorem c_laws_FnMeanOf {code_0 : List UInt8} {acode_0 : Option Addr} {ccode_0 : Nat} {r : Bool} (h : M.laws_FnMeanOf code_0 = some r) :
    Cal2 Try.prog 9 [(Sl acode_0 code_0 ccode_0)] [Ch.ro 0 (Sl acode_0 code_0 ccode_0) code_0] (fun n0 v L => v = (B r) ∧ L = []) := by
 refine cal2 (n := 83) Try.func9 rfl rfl rfl rfl ?_
 intro S0 σ0 n0 hn0 H
 unfold M.laws_FnMeanOf at h
 refine c_seq ?_
 refine rg ?_
 refine st (v := (B false)) (rv_assign rfl) ?_
 refine w_end ?_
 refine q_then ?_
 refine c_seq ?_
 refine c_seq ?_
 refine rg ?_
 refine st (v := (Sl acode_0 code_0 ccode_0)) (rv_move rfl) ?_
 refine st (v := (I (code_0.length : Int))) (rv_len Try.underlying22 rfl) ?_
 refine st (v := (B (decide (1048576 < (code_0.length : Int))))) (rv_gtr (a := (code_0.length : Int)) (b := 1048576) rfl rfl) ?_
 refine w_end ?_
 refine q_then ?_
 refine cd_cond (decide (1048576 < (code_0.length : Int))) rfl (fun hb1 => ?_) (fun hb1 => ?_)
 ·replace h := bif_t hb1 h
  refine c_seq ?_
  refine rg ?_
  refine st (v := (B true)) (rv_assign rfl) ?_
  refine w_end ?_
  refine q_then ?_
  refine c_ret ?_
  refine q_then_r ?_
  obtain rfl := Option.some.inj h
  exact fin_ret (v := (B true)) (results_ok Try.results9 (res_tmp (v := (B true)) rfl res_nil) rfl) ⟨rfl, rfl⟩ (H.sel' [] rfl rfl)
 ·replace h := bif_f hb1 h
  refine c_skip ?_
  refine q_then ?_
  refine c_seq ?_
  refine rg ?_
  refine st (v := (Sl acode_0 code_0 ccode_0)) (rv_move rfl) ?_
  obtain ⟨r2, hx3, h'⟩ := bind_some h
  clear h
  have h := h'; clear h'
  have hc4 := c_spec_DrawMeanOf (acode_0 := acode_0) (ccode_0 := ccode_0) hx3
  refine st_call (cx_call hc4 (ent_f hc4.fn rfl) hn0 (show Hp S0 σ0 _ ([Ch.ro 0 (Sl acode_0 code_0 ccode_0) code_0] ++ [Ch.ro 0 (Sl acode_0 code_0 ccode_0) code_0]) from (H.sel' [0, 0] rfl rfl))) wn ?_
  rintro _ σ7 ⟨_, ⟨a5, c6, rfl, rfl⟩, H, -⟩
  replace H : Hp S0 σ0 σ7 [Ch.own n0 n0 (Sl a5 r2 c6) r2, Ch.ro 0 (Sl acode_0 code_0 ccode_0) code_0] := H
  refine st (v := (Sl a5 r2 c6)) (rv_assign rfl) ?_
  refine w_end ?_
  refine q_then ?_
  refine c_seq ?_
  refine rg ?_
  refine st (v := (Sl a5 r2 c6)) (rv_move rfl) ?_
  obtain ⟨r8, hx9, h'⟩ := bind_some h
  clear h
  have h := h'; clear h'
  have hc10 := c_impl_MeanOf (alist_0 := a5) (clist_0 := c6) hx9
  have hle := Nat.le_trans hn0 H.size
  refine st_call (cx_lend (Loan.lend Loan.nil) hc10 (ent_f hc10.fn rfl) (show Hp S0 σ0 _ ([Ch.own n0 n0 (Sl a5 r2 c6) r2] ++ ([] ++ [Ch.ro 0 (Sl acode_0 code_0 ccode_0) code_0])) from (H.sel' [0, 1] rfl rfl)) (by rintro _ _ _ ⟨_, _, rfl, rfl, _⟩; exact ⟨Ab.ownSc, trivial⟩)) wn ?_
  rintro _ σ14 ⟨_, ⟨a11, c12, rfl, rfl, ht13⟩, H, -, -⟩
  replace H : Hp S0 σ0 σ14 [Ch.own σ7.size σ7.size (Sl a11 r8 c12) r8, Ch.own n0 n0 (Sl a5 r2 c6) r2, Ch.ro 0 (Sl acode_0 code_0 ccode_0) code_0] := H
  replace H := H.ownLow 0 n0 n0 rfl hle hle
  clear hle
  replace H : Hp S0 σ0 σ14 [Ch.own n0 n0 (Sl a11 r8 c12) r8, Ch.own n0 n0 (Sl a5 r2 c6) r2, Ch.ro 0 (Sl acode_0 code_0 ccode_0) code_0] := H
  refine st (v := (Sl a11 r8 c12)) (rv_assign rfl) ?_
  refine w_end ?_
  refine q_then ?_
  refine c_seq ?_
  refine c_seq ?_
  obtain ⟨o15, hj, h'⟩ := bind_some h
  clear h
  refine c_cut (fun e a w => e = .normal ∧ ∃ (ρ : Nat → Value) (σ : St), a = fr 83 (updL ρ [(3, (Sl a5 r2 c6)), (4, (Sl a11 r8 c12)), (25, (B o15))]) ∧ w = σ.w ∧ Hp S0 σ0 σ [Ch.own n0 n0 (Sl a5 r2 c6) r2, Ch.own n0 n0 (Sl a11 r8 c12) r8]) ?_ ?_
  ·clear h'
   rename _ = some o15 => h
   refine rg ?_
   refine st (v := (Sl a11 r8 c12)) (rv_move rfl) ?_
   refine st (v := (Sl a5 r2 c6)) (rv_move rfl) ?_
   obtain ⟨r16, hx17, h'⟩ := bind_some h
   clear h
   have h := h'; clear h'
   have hc18 := c_spec_MeanOf (alist_0 := a5) (clist_0 := c6) hx17
   have hle := Nat.le_trans hn0 H.size
   refine st_call (cx_lend (Loan.lend Loan.nil) hc18 (ent_f hc18.fn rfl) (show Hp S0 σ0 _ ([Ch.own n0 n0 (Sl a5 r2 c6) r2] ++ ([] ++ [Ch.own n0 n0 (Sl a11 r8 c12) r8, Ch.ro 0 (Sl acode_0 code_0 ccode_0) code_0])) from (H.sel' [1, 0, 2] rfl rfl)) (by rintro _ _ _ ⟨_, _, rfl, rfl⟩; exact ⟨Ab.ownSc, trivial⟩)) wn ?_
   rintro _ σ21 ⟨_, ⟨a19, c20, rfl, rfl⟩, H, -, -⟩
   replace H : Hp S0 σ0 σ21 [Ch.own σ14.size σ14.size (Sl a19 r16 c20) r16, Ch.own n0 n0 (Sl a5 r2 c6) r2, Ch.own n0 n0 (Sl a11 r8 c12) r8, Ch.ro 0 (Sl acode_0 code_0 ccode_0) code_0] := H
   replace H := H.ownLow 0 n0 n0 rfl hle hle
   clear hle
   replace H : Hp S0 σ0 σ21 [Ch.own n0 n0 (Sl a19 r16 c20) r16, Ch.own n0 n0 (Sl a5 r2 c6) r2, Ch.own n0 n0 (Sl a11 r8 c12) r8, Ch.ro 0 (Sl acode_0 code_0 ccode_0) code_0] := H
   obtain ⟨σ22, hw23, H, -⟩ := H.pub 0 rfl (Nat.le_refl _)
   rw [← hw23]; clear hw23
   replace H := H.roLow 0 0 rfl (Nat.zero_le _)
   obtain ⟨r24, hx25, h'⟩ := bind_some h
   clear h
   have h := h'; clear h'
   have hc26 := c_laws_equalInts (aa_0 := a11) (ca_0 := c12) (ab_1 := a19) (cb_1 := c20) hx25
   have hle := Nat.le_trans hn0 H.size
   refine st_call (cx_lend (Loan.lend (Loan.same Loan.nil)) hc26 (ent_f hc26.fn rfl) (show Hp S0 σ0 _ ([Ch.own n0 n0 (Sl a11 r8 c12) r8] ++ ([Ch.ro 0 (Sl a19 r16 c20) r16] ++ [Ch.ro 0 (Sl a19 r16 c20) r16, Ch.ro n0 (Sl a19 r16 c20) r16, Ch.own n0 n0 (Sl a5 r2 c6) r2, Ch.ro 0 (Sl acode_0 code_0 ccode_0) code_0])) from (H.sel' [3, 0, 0, 1, 2, 4] rfl rfl)) (by rintro _ _ _ ⟨rfl, rfl⟩; exact trivial)) wn ?_
   rintro _ σ27 ⟨_, ⟨rfl, rfl⟩, H, -, -⟩
   replace H : Hp S0 σ0 σ27 [Ch.own n0 n0 (Sl a11 r8 c12) r8, Ch.ro 0 (Sl a19 r16 c20) r16, Ch.ro n0 (Sl a19 r16 c20) r16, Ch.own n0 n0 (Sl a5 r2 c6) r2, Ch.ro 0 (Sl acode_0 code_0 ccode_0) code_0] := H
   clear hle
   replace H : Hp S0 σ0 σ27 [Ch.own n0 n0 (Sl a11 r8 c12) r8, Ch.ro 0 (Sl a19 r16 c20) r16, Ch.ro n0 (Sl a19 r16 c20) r16, Ch.own n0 n0 (Sl a5 r2 c6) r2, Ch.ro 0 (Sl acode_0 code_0 ccode_0) code_0] := H
   refine st (v := (B (!r24))) (rv_not rfl) ?_
   refine st (v := (B (!r24))) (rv_move rfl) ?_
   rcases Bool.eq_false_or_eq_true (!r24) with hb28 | hb28
   ·replace h := bif_t hb28 h
    refine st_skip (congrArg some hb28) ?_
    refine st_skip (congrArg some hb28) ?_
    refine st_skip (congrArg some hb28) ?_
    refine st (v := (B true)) (rv_pick_t (congrArg B hb28) rfl) ?_
    refine w_end ?_
    obtain rfl := Option.some.inj h
    exact ⟨rfl, _, σ27, fr_join ⟨rfl, rfl, rfl, trivial⟩, rfl, H.sel' [3, 0] rfl rfl⟩
   ·replace h := bif_f hb28 h
    refine st_g (v := (Sl a11 r8 c12)) (congrArg some hb28) (rv_move rfl) ?_
    refine st_g (v := (I (r8.length : Int))) (congrArg some hb28) (rv_len Try.underlying23 rfl) ?_
    refine st_g (v := (B ((r8.length : Int) == 0))) (congrArg some hb28) (rv_eql (a := (r8.length : Int)) (b := 0) rfl rfl) ?_
    refine st (v := (B ((r8.length : Int) == 0))) (rv_pick_f (congrArg B hb28) rfl) ?_
    refine w_end ?_
    obtain rfl := Option.some.inj h
    exact ⟨rfl, _, σ27, fr_join ⟨rfl, rfl, rfl, trivial⟩, rfl, H.sel' [3, 0] rfl rfl⟩
  ·clear hj
   have h := h'
   clear h' H
   rintro e a w ⟨rfl, ρ, σ29, rfl, rfl, H⟩
   refine q_then ?_
   refine cd_cond o15 rfl (fun hb30 => ?_) (fun hb30 => ?_)
   ·replace h := bif_t hb30 h
    refine c_seq ?_
    refine rg ?_
    refine st (v := (Sl a11 r8 c12)) (rv_move rfl) ?_
    refine st (v := (Sl a5 r2 c6)) (rv_move rfl) ?_
    obtain ⟨σ31, hw32, H, -⟩ := H.pub 0 rfl (Nat.le_refl _)
    rw [← hw32]; clear hw32
    replace H := H.roLow 0 0 rfl (Nat.zero_le _)
    obtain ⟨r33, hx34, h'⟩ := bind_some h
    clear h
    have h := h'; clear h'
    have hc35 := c_spec_MeanOf (alist_0 := a5) (clist_0 := c6) hx34
    refine st_call (cx_call hc35 (ent_f hc35.fn rfl) hn0 (show Hp S0 σ0 _ ([Ch.ro 0 (Sl a5 r2 c6) r2] ++ [Ch.ro 0 (Sl a5 r2 c6) r2, Ch.ro n0 (Sl a5 r2 c6) r2, Ch.own n0 n0 (Sl a11 r8 c12) r8]) from (H.sel' [0, 0, 1, 2] rfl rfl))) wn ?_
    rintro _ σ38 ⟨_, ⟨a36, c37, rfl, rfl⟩, H, -⟩
    replace H : Hp S0 σ0 σ38 [Ch.own n0 n0 (Sl a36 r33 c37) r33, Ch.ro 0 (Sl a5 r2 c6) r2, Ch.ro n0 (Sl a5 r2 c6) r2, Ch.own n0 n0 (Sl a11 r8 c12) r8] := H
    obtain ⟨σ39, hw40, H, -⟩ := H.pub 3 rfl (Nat.le_refl _)
    rw [← hw40]; clear hw40
    obtain ⟨σ41, hw42, H, -⟩ := H.pub 1 rfl (Nat.le_refl _)
    rw [← hw42]; clear hw42
    replace H := H.roLow 1 0 rfl (Nat.zero_le _)
    replace H := H.roLow 1 0 rfl (Nat.zero_le _)
    obtain ⟨r43, hx44, h'⟩ := bind_some h
    clear h
    have h := h'; clear h'
    have hc45 := c_laws_equalInts (aa_0 := a11) (ca_0 := c12) (ab_1 := a36) (cb_1 := c37) hx44
    refine st_call (cx_call hc45 (ent_f hc45.fn rfl) hn0 (show Hp S0 σ0 _ ([Ch.ro 0 (Sl a11 r8 c12) r8, Ch.ro 0 (Sl a36 r33 c37) r33] ++ [Ch.ro 0 (Sl a36 r33 c37) r33, Ch.ro 0 (Sl a11 r8 c12) r8, Ch.ro n0 (Sl a36 r33 c37) r33, Ch.ro n0 (Sl a11 r8 c12) r8, Ch.ro 0 (Sl a5 r2 c6) r2, Ch.ro n0 (Sl a5 r2 c6) r2]) from (H.sel' [1, 0, 0, 1, 2, 3, 4, 5] rfl rfl))) wn ?_
    rintro _ σ46 ⟨_, ⟨rfl, rfl⟩, H, -⟩
    replace H : Hp S0 σ0 σ46 [Ch.ro 0 (Sl a36 r33 c37) r33, Ch.ro 0 (Sl a11 r8 c12) r8, Ch.ro n0 (Sl a36 r33 c37) r33, Ch.ro n0 (Sl a11 r8 c12) r8, Ch.ro 0 (Sl a5 r2 c6) r2, Ch.ro n0 (Sl a5 r2 c6) r2] := H
    refine st (v := (B r43)) (rv_assign rfl) ?_
    refine w_end ?_
    refine q_then ?_
    refine c_ret ?_
    refine q_then_r ?_
    obtain rfl := Option.some.inj h
    exact fin_ret (v := (B r43)) (results_ok Try.results9 (res_tmp (v := (B r43)) rfl res_nil) rfl) ⟨rfl, rfl⟩ (H.sel' [] rfl rfl)
   ·replace h := bif_f hb30 h
    refine c_skip ?_
    refine q_then ?_
    refine c_seq ?_
    refine c_seq ?_
    refine rg ?_
    refine st (v := (I 0)) (rv_assign rfl) ?_
    refine w_end ?_
    refine q_then ?_
    obtain ⟨o47, hj, h'⟩ := bind_some h
    clear h
    refine c_cut (fun e a w => (∃ t, o47 = (.inl t) ∧ e = .normal ∧ ∃ (ρ : Nat → Value) (σ : St), a = fr 83 (updL ρ [(4, (Sl a11 r8 c12))]) ∧ w = σ.w ∧ Hp S0 σ0 σ [Ch.own n0 n0 (Sl a11 r8 c12) r8]) ∨ (∃ t, o47 = (.inr t) ∧ e = .ret ∧ ∃ (ρ : Nat → Value) (σ : St), a = fr 83 (updL ρ [(2, (B t))]) ∧ w = σ.w ∧ Hp S0 σ0 σ [])) ?_ ?_
    ·clear h'
     rename _ = some o47 => h
     refine c_blk ?_
     refine wp_loopM _ h (fun s48 a w => ∃ (ρ : Nat → Value) (σ : St), a = fr 83 (updL ρ [(3, (Sl a5 r2 c6)), (4, (Sl a11 r8 c12)), (5, (I s48))]) ∧ w = σ.w ∧ Hp S0 σ0 σ [Ch.own n0 n0 (Sl a5 r2 c6) r2, Ch.own n0 n0 (Sl a11 r8 c12) r8]) ⟨_, σ29, fr_join ⟨rfl, rfl, rfl, trivial⟩, rfl, H.sel' [0, 1] rfl rfl⟩ ?_
     clear h H
     rintro s48 a w o ⟨ρ, σ49, rfl, rfl, H⟩ h hres
     refine c_seq ?_
     refine c_seq ?_
     refine rg ?_
     refine st (v := (I s48)) (rv_move rfl) ?_
     refine st (v := (Sl a11 r8 c12)) (rv_move rfl) ?_
     refine st (v := (I (r8.length : Int))) (rv_len Try.underlying23 rfl) ?_
     refine st (v := (B (decide (s48 < (r8.length : Int))))) (rv_lss (a := s48) (b := (r8.length : Int)) rfl rfl) ?_
     refine w_end ?_
     refine q_then ?_
     refine cd_cond (decide (s48 < (r8.length : Int))) rfl (fun hb50 => ?_) (fun hb50 => ?_)
     ·replace h := bif_t hb50 h
      refine c_skip ?_
      refine q_then ?_
      refine c_seq ?_
      refine c_blk ?_
      refine c_seq ?_
      refine rg ?_
      refine st (v := (Sl a5 r2 c6)) (rv_move rfl) ?_
      obtain ⟨x51, hx52, h'⟩ := bind_some h
      clear h
      have h := h'; clear h'
      obtain ⟨b54, o55, hi53, -⟩ := (H.own 0 rfl).ix hx52
      refine st (v := (pt b54 o55)) (rv_ix Try.underlying35 ti23 rfl rfl hi53) ?_
      obtain ⟨v59, hc60, hR58⟩ := ((H.own 0 rfl).at hx52 hi53).slice
      obtain ⟨a56, c57, rfl⟩ := hR58.isSl
      replace H := H.add (d := Ch.ro n0 (Sl a56 x51 c57) x51) hR58 (fun _ h => h)
      clear hR58
      refine st (v := (Sl a56 x51 c57)) (rv_load1 Try.underlying23 rfl rfl hc60) ?_
      refine st (v := (I s48)) (rv_move rfl) ?_
      obtain ⟨x61, hx62, h'⟩ := bind_some h
      clear h
      have h := h'; clear h'
      obtain ⟨b64, o65, hi63, -⟩ := (H.ro 0 rfl).ix hx62
      refine st (v := (pt b64 o65)) (rv_ix Try.underlying23 ti3 rfl rfl hi63) ?_
      have hc66 := ((H.ro 0 rfl).at hx62 hi63).int
      refine st (v := (I x61)) (rv_load1 Try.underlying3 rfl rfl hc66) ?_
      refine st (v := (I x61)) (rv_assign rfl) ?_
      refine w_end ?_
      refine q_then ?_
      refine c_seq ?_
      refine rg ?_
      refine st (v := (I x61)) (rv_move rfl) ?_
      refine st (v := (I x61)) (rv_assign rfl) ?_
      refine w_end ?_
      refine q_then ?_
      refine c_seq ?_
      refine c_seq ?_
      refine rg ?_
      refine st (v := (I 0)) (rv_assign rfl) ?_
      refine w_end ?_
      refine q_then ?_
      obtain ⟨o67, hj, h'⟩ := bind_some h
      clear h
      refine c_cut (fun e a w => e = .normal ∧ ∃ (ρ : Nat → Value) (σ : St), a = fr 83 (updL ρ [(3, (Sl a5 r2 c6)), (4, (Sl a11 r8 c12)), (5, (I s48)), (6, (I o67.1)), (7, (I o67.2))]) ∧ w = σ.w ∧ Hp S0 σ0 σ [Ch.own n0 n0 (Sl a5 r2 c6) r2, Ch.own n0 n0 (Sl a11 r8 c12) r8]) ?_ ?_
      ·clear h'
       rename _ = some o67 => h
       refine c_blk ?_
       refine wp_loopM _ h (fun s68 a w => ∃ (ρ : Nat → Value) (σ : St), a = fr 83 (updL ρ [(3, (Sl a5 r2 c6)), (4, (Sl a11 r8 c12)), (5, (I s48)), (6, (I s68.1)), (7, (I s68.2.1)), (8, (I s68.2.2))]) ∧ w = σ.w ∧ Hp S0 σ0 σ [Ch.own n0 n0 (Sl a5 r2 c6) r2, Ch.own n0 n0 (Sl a11 r8 c12) r8]) ⟨_, σ49, fr_join ⟨rfl, rfl, rfl, rfl, rfl, rfl, trivial⟩, rfl, H.sel' [1, 2] rfl rfl⟩ ?_
       clear h H
       rintro s68 a w o ⟨ρ, σ69, rfl, rfl, H⟩ h hres
       refine c_seq ?_
       refine c_seq ?_
       refine rg ?_
       refine st (v := (I s68.2.2)) (rv_move rfl) ?_
       refine st (v := (Sl a5 r2 c6)) (rv_move rfl) ?_
       refine st (v := (I (r2.length : Int))) (rv_len Try.underlying35 rfl) ?_
       refine st (v := (B (decide (s68.2.2 < (r2.length : Int))))) (rv_lss (a := s68.2.2) (b := (r2.length : Int)) rfl rfl) ?_
       refine w_end ?_
       refine q_then ?_
       refine cd_cond (decide (s68.2.2 < (r2.length : Int))) rfl (fun hb70 => ?_) (fun hb70 => ?_)
       ·replace h := bif_t hb70 h
        refine c_skip ?_
        refine q_then ?_
        refine c_seq ?_
        refine c_blk ?_
        refine c_seq ?_
        refine rg ?_
        refine st (v := (I s68.1)) (rv_move rfl) ?_
        refine st (v := (Sl a5 r2 c6)) (rv_move rfl) ?_
        refine st (v := (I s68.2.2)) (rv_move rfl) ?_
        obtain ⟨x71, hx72, h'⟩ := bind_some h
        clear h
        have h := h'; clear h'
        obtain ⟨b74, o75, hi73, -⟩ := (H.own 0 rfl).ix hx72
        refine st (v := (pt b74 o75)) (rv_ix Try.underlying35 ti23 rfl rfl hi73) ?_
        obtain ⟨v79, hc80, hR78⟩ := ((H.own 0 rfl).at hx72 hi73).slice
        obtain ⟨a76, c77, rfl⟩ := hR78.isSl
        replace H := H.add (d := Ch.ro n0 (Sl a76 x71 c77) x71) hR78 (fun _ h => h)
        clear hR78
        refine st (v := (Sl a76 x71 c77)) (rv_load1 Try.underlying23 rfl rfl hc80) ?_
        refine st (v := (I s48)) (rv_move rfl) ?_
        obtain ⟨x81, hx82, h'⟩ := bind_some h
        clear h
        have h := h'; clear h'
        obtain ⟨b84, o85, hi83, -⟩ := (H.ro 0 rfl).ix hx82
        refine st (v := (pt b84 o85)) (rv_ix Try.underlying23 ti3 rfl rfl hi83) ?_
        have hc86 := ((H.ro 0 rfl).at hx82 hi83).int
        refine st (v := (I x81)) (rv_load1 Try.underlying3 rfl rfl hc86) ?_
        refine st (v := (I (min s68.1 x81))) (rv_min rfl rfl) ?_
        refine st (v := (I (min s68.1 x81))) (rv_assign rfl) ?_
        refine w_end ?_
        refine q_then ?_
        refine rg ?_
        refine st (v := (I s68.2.1)) (rv_move rfl) ?_
        refine st (v := (Sl a5 r2 c6)) (rv_move rfl) ?_
        refine st (v := (I s68.2.2)) (rv_move rfl) ?_
        obtain ⟨x87, hx88, h'⟩ := bind_some h
        clear h
        have h := h'; clear h'
        obtain ⟨b90, o91, hi89, -⟩ := (H.own 1 rfl).ix hx88
        refine st (v := (pt b90 o91)) (rv_ix Try.underlying35 ti23 rfl rfl hi89) ?_
        obtain ⟨v95, hc96, hR94⟩ := ((H.own 1 rfl).at hx88 hi89).slice
        obtain ⟨a92, c93, rfl⟩ := hR94.isSl
        replace H := H.add (d := Ch.ro n0 (Sl a92 x87 c93) x87) hR94 (fun _ h => h)
        clear hR94
        refine st (v := (Sl a92 x87 c93)) (rv_load1 Try.underlying23 rfl rfl hc96) ?_
        refine st (v := (I s48)) (rv_move rfl) ?_
        obtain ⟨x97, hx98, h'⟩ := bind_some h
        clear h
        have h := h'; clear h'
        obtain ⟨b100, o101, hi99, -⟩ := (H.ro 0 rfl).ix hx98
        refine st (v := (pt b100 o101)) (rv_ix Try.underlying23 ti3 rfl rfl hi99) ?_
        have hc102 := ((H.ro 0 rfl).at hx98 hi99).int
        refine st (v := (I x97)) (rv_load1 Try.underlying3 rfl rfl hc102) ?_
        refine st (v := (I (max s68.2.1 x97))) (rv_max rfl rfl) ?_
        refine st (v := (I (max s68.2.1 x97))) (rv_assign rfl) ?_
        refine w_end ?_
        refine q_blk ?_
        refine q_then ?_
        refine rg ?_
        refine st (v := (I s68.2.2)) (rv_move rfl) ?_
        refine st (v := (I (w64 (s68.2.2 + 1)))) (rv_add (a := s68.2.2) (b := 1) rfl rfl) ?_
        refine st (v := (I (w64 (s68.2.2 + 1)))) (rv_assign rfl) ?_
        refine w_end ?_
        refine q_then ?_
        obtain rfl := Option.some.inj h
        exact ⟨_, rfl, _, σ69, fr_join ⟨rfl, rfl, rfl, rfl, rfl, rfl, trivial⟩, rfl, H.sel' [2, 3] rfl rfl⟩
       ·replace h := bif_f hb70 h
        refine c_exit ?_
        refine q_then_x ?_
        refine q_then_x ?_
        refine q_blk_hit ?_
        obtain rfl := Option.some.inj h
        obtain rfl := hres _ rfl
        exact ⟨rfl, _, σ69, fr_join ⟨rfl, rfl, rfl, rfl, rfl, trivial⟩, rfl, H.sel' [0, 1] rfl rfl⟩
      ·clear hj
       have h := h'
       clear h' H
       rintro e a w ⟨rfl, ρ, σ103, rfl, rfl, H⟩
       refine q_then ?_
       refine c_seq ?_
       obtain ⟨o104, hj, h'⟩ := bind_some h
       clear h
       refine c_cut (fun e a w => e = .normal ∧ ∃ (ρ : Nat → Value) (σ : St), a = fr 83 (updL ρ [(3, (Sl a5 r2 c6)), (4, (Sl a11 r8 c12)), (5, (I s48)), (80, (B o104))]) ∧ w = σ.w ∧ Hp S0 σ0 σ [Ch.own n0 n0 (Sl a5 r2 c6) r2, Ch.own n0 n0 (Sl a11 r8 c12) r8]) ?_ ?_
       ·clear h'
        rename _ = some o104 => h
        refine rg ?_
        refine st (v := (Sl a11 r8 c12)) (rv_move rfl) ?_
        refine st (v := (I s48)) (rv_move rfl) ?_
        obtain ⟨x105, hx106, h'⟩ := bind_some h
        clear h
        have h := h'; clear h'
        obtain ⟨b108, o109, hi107, -⟩ := (H.own 1 rfl).ix hx106
        refine st (v := (pt b108 o109)) (rv_ix Try.underlying23 ti3 rfl rfl hi107) ?_
        have hc110 := ((H.own 1 rfl).at hx106 hi107).int
        refine st (v := (I x105)) (rv_load1 Try.underlying3 rfl rfl hc110) ?_
        refine st (v := (I o67.1)) (rv_move rfl) ?_
        refine st (v := (B (decide (x105 < o67.1)))) (rv_lss (a := x105) (b := o67.1) rfl rfl) ?_
        refine st (v := (B (decide (x105 < o67.1)))) (rv_move rfl) ?_
        rcases Bool.eq_false_or_eq_true (decide (x105 < o67.1)) with hb111 | hb111
        ·replace h := bif_t hb111 h
         refine st_skip (congrArg some hb111) ?_
         refine st_skip (congrArg some hb111) ?_
         refine st_skip (congrArg some hb111) ?_
         refine st_skip (congrArg some hb111) ?_
         refine st_skip (congrArg some hb111) ?_
         refine st_skip (congrArg some hb111) ?_
         refine st (v := (B true)) (rv_pick_t (congrArg B hb111) rfl) ?_
         refine w_end ?_
         obtain rfl := Option.some.inj h
         exact ⟨rfl, _, σ103, fr_join ⟨rfl, rfl, rfl, rfl, trivial⟩, rfl, H.sel' [0, 1] rfl rfl⟩
        ·replace h := bif_f hb111 h
         refine st_g (v := (Sl a11 r8 c12)) (congrArg some hb111) (rv_move rfl) ?_
         refine st_g (v := (I s48)) (congrArg some hb111) (rv_move rfl) ?_
         obtain ⟨x112, hx113, h'⟩ := bind_some h
         clear h
         have h := h'; clear h'
         obtain ⟨b115, o116, hi114, -⟩ := (H.own 1 rfl).ix hx113
         refine st_g (v := (pt b115 o116)) (congrArg some hb111) (rv_ix Try.underlying23 ti3 rfl rfl hi114) ?_
         have hc117 := ((H.own 1 rfl).at hx113 hi114).int
         refine st_g (v := (I x112)) (congrArg some hb111) (rv_load1 Try.underlying3 rfl rfl hc117) ?_
         refine st_g (v := (I o67.2)) (congrArg some hb111) (rv_move rfl) ?_
         refine st_g (v := (B (decide (o67.2 < x112)))) (congrArg some hb111) (rv_gtr (a := x112) (b := o67.2) rfl rfl) ?_
         refine st (v := (B (decide (o67.2 < x112)))) (rv_pick_f (congrArg B hb111) rfl) ?_
         refine w_end ?_
         obtain rfl := Option.some.inj h
         exact ⟨rfl, _, σ103, fr_join ⟨rfl, rfl, rfl, rfl, trivial⟩, rfl, H.sel' [0, 1] rfl rfl⟩
       ·clear hj
        have h := h'
        clear h' H
        rintro e a w ⟨rfl, ρ, σ118, rfl, rfl, H⟩
        refine q_then ?_
        refine cd_cond o104 rfl (fun hb119 => ?_) (fun hb119 => ?_)
        ·replace h := bif_t hb119 h
         refine c_seq ?_
         refine rg ?_
         refine st (v := (B false)) (rv_assign rfl) ?_
         refine w_end ?_
         refine q_then ?_
         refine c_ret ?_
         refine q_blk_r ?_
         refine q_then_r ?_
         refine q_then_r ?_
         refine q_blk_r ?_
         obtain rfl := Option.some.inj h
         obtain rfl := hres _ rfl
         exact .inr (⟨_, rfl, rfl, _, σ118, fr_join ⟨rfl, trivial⟩, rfl, H.sel' [] rfl rfl⟩)
        ·replace h := bif_f hb119 h
         refine c_skip ?_
         refine q_blk ?_
         refine q_then ?_
         refine rg ?_
         refine st (v := (I s48)) (rv_move rfl) ?_
         refine st (v := (I (w64 (s48 + 1)))) (rv_add (a := s48) (b := 1) rfl rfl) ?_
         refine st (v := (I (w64 (s48 + 1)))) (rv_assign rfl) ?_
         refine w_end ?_
         refine q_then ?_
         obtain rfl := Option.some.inj h
         exact ⟨_, rfl, _, σ118, fr_join ⟨rfl, rfl, rfl, trivial⟩, rfl, H.sel' [0, 1] rfl rfl⟩
     ·replace h := bif_f hb50 h
      refine c_exit ?_
      refine q_then_x ?_
      refine q_then_x ?_
      refine q_blk_hit ?_
      obtain rfl := Option.some.inj h
      obtain rfl := hres _ rfl
      exact .inl ⟨_, rfl, rfl, _, σ49, fr_join ⟨rfl, trivial⟩, rfl, H.sel' [1] rfl rfl⟩
    ·clear hj
     have h := h'
     clear h' H
     rintro e a w (⟨t120, rfl, rfl, ρ, σ121, rfl, rfl, H⟩ | ⟨t128, rfl, rfl, ρ, σ129, rfl, rfl, H⟩)
     ·replace h := selim_l h
      refine q_then ?_
      refine c_seq ?_
      refine rg ?_
      refine st (v := (Sl a11 r8 c12)) (rv_move rfl) ?_
      obtain ⟨σ122, hw123, H, -⟩ := H.pub 0 rfl (Nat.le_refl _)
      rw [← hw123]; clear hw123
      replace H := H.roLow 0 0 rfl (Nat.zero_le _)
      obtain ⟨r124, hx125, h'⟩ := bind_some h
      clear h
      have h := h'; clear h'
      have hc126 := c_impl_ValidVector (av_0 := a11) (cv_0 := c12) hx125
      refine st_call (cx_call hc126 (ent_f hc126.fn rfl) hn0 (show Hp S0 σ0 _ ([Ch.ro 0 (Sl a11 r8 c12) r8] ++ [Ch.ro 0 (Sl a11 r8 c12) r8, Ch.ro n0 (Sl a11 r8 c12) r8]) from (H.sel' [0, 0, 1] rfl rfl))) wn ?_
      rintro _ σ127 ⟨_, ⟨rfl, rfl⟩, H, -⟩
      replace H : Hp S0 σ0 σ127 [Ch.ro 0 (Sl a11 r8 c12) r8, Ch.ro n0 (Sl a11 r8 c12) r8] := H
      refine st (v := (B r124)) (rv_assign rfl) ?_
      refine w_end ?_
      refine q_then ?_
      refine c_ret ?_
      obtain rfl := Option.some.inj h
      exact fin_ret (v := (B r124)) (results_ok Try.results9 (res_tmp (v := (B r124)) rfl res_nil) rfl) ⟨rfl, rfl⟩ (H.sel' [] rfl rfl)
     ·replace h := selim_r h
      refine q_then_r ?_
      obtain rfl := Option.some.inj h
      exact fin_ret (v := (B t128)) (results_ok Try.results9 (res_tmp (v := (B t128)) rfl res_nil) rfl) ⟨rfl, rfl⟩ (H.sel' [] rfl rfl)

end Go.Vs
