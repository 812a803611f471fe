/- The functions compute what their models say. -/
import Derived.Test.YtjcaokajkkkniabKHashOfScaleC1
set_option linter.unusedVariables false
set_option linter.unusedSimpArgs false
set_option maxRecDepth 20000
namespace Go.Vs
open Go Go.Proofs
attribute [local irreducible] Code.wp Code.wpIn wpList wpListIn wpQuiet Calls CallsIn

theorem c_laws_FnHashOfScale {code_0 : List UInt8} {acode_0 : Option Addr} {ccode_0 : Nat} {r : Bool} (h : M.laws_FnHashOfScale code_0 = some r) :
    Cal2 Try.prog 9 [(Sl acode_0 code_0 ccode_0)] [Ch.ro 0 (Sl acode_0 code_0 ccode_0) code_0] (fun n0 v L => v = (B r) ∧ L = []) := by
 refine cal2 (n := 58) Try.func9 rfl rfl rfl rfl ?_
 intro S0 σ0 n0 hn0 H
 unfold M.laws_FnHashOfScale at h
 refine c_seq ?_
 refine rg ?_
 refine st (v := (B false)) (rv_assign rfl) ?_
 refine w_end ?_
 refine q_then ?_
 refine c_seq ?_
 refine c_seq ?_
 refine rg ?_
 refine st (v := (Sl acode_0 code_0 ccode_0)) (rv_move rfl) ?_
 refine st (v := (I (code_0.length : Int))) (rv_len Try.underlying22 rfl) ?_
 refine st (v := (B (decide (1048576 < (code_0.length : Int))))) (rv_gtr (a := (code_0.length : Int)) (b := 1048576) rfl rfl) ?_
 refine w_end ?_
 refine q_then ?_
 refine cd_cond (decide (1048576 < (code_0.length : Int))) rfl (fun hb1 => ?_) (fun hb1 => ?_)
 ·replace h := bif_t hb1 h
  refine c_seq ?_
  refine rg ?_
  refine st (v := (B true)) (rv_assign rfl) ?_
  refine w_end ?_
  refine q_then ?_
  refine c_ret ?_
  refine q_then_r ?_
  obtain rfl := Option.some.inj h
  exact fin_ret (v := (B true)) (results_ok Try.results9 (res_tmp (v := (B true)) rfl res_nil) rfl) ⟨rfl, rfl⟩ (H.sel' [] rfl rfl)
 ·replace h := bif_f hb1 h
  refine c_skip ?_
  refine q_then ?_
  refine c_seq ?_
  refine rg ?_
  refine st (v := (Sl acode_0 code_0 ccode_0)) (rv_move rfl) ?_
  obtain ⟨r2, hx3, h'⟩ := bind_some h
  clear h
  have h := h'; clear h'
  have hc4 := c_spec_DrawHashOf (acode_0 := acode_0) (ccode_0 := ccode_0) hx3
  refine st_call (cx_call hc4 (ent_f hc4.fn rfl) hn0 (show Hp S0 σ0 _ ([Ch.ro 0 (Sl acode_0 code_0 ccode_0) code_0] ++ [Ch.ro 0 (Sl acode_0 code_0 ccode_0) code_0]) from (H.sel' [0, 0] rfl rfl))) wn ?_
  rintro _ σ9 ⟨_, ⟨a5, c6, a7, c8, rfl, rfl⟩, H, -⟩
  replace H : Hp S0 σ0 σ9 [Ch.own n0 n0 (Sl a5 r2.1 c6) r2.1, Ch.own n0 n0 (Sl a7 r2.2 c8) r2.2, Ch.ro 0 (Sl acode_0 code_0 ccode_0) code_0] := H
  refine st (v := (.tuple #[(Sl a5 r2.1 c6), (Sl a7 r2.2 c8)])) (rv_move rfl) ?_
  refine st (v := (Sl a5 r2.1 c6)) (rv_extract rfl rfl) ?_
  refine st (v := (Sl a7 r2.2 c8)) (rv_extract rfl rfl) ?_
  refine st (v := (Sl a5 r2.1 c6)) (rv_assign rfl) ?_
  refine st (v := (Sl a7 r2.2 c8)) (rv_assign rfl) ?_
  refine w_end ?_
  refine q_then ?_
  refine c_seq ?_
  refine rg ?_
  refine st (v := (Sl a5 r2.1 c6)) (rv_move rfl) ?_
  refine st (v := (Sl a7 r2.2 c8)) (rv_move rfl) ?_
  obtain ⟨r10, hx11, h'⟩ := bind_some h
  clear h
  have h := h'; clear h'
  have hc12 := c_impl_HashOf (aplanes_0 := a5) (cplanes_0 := c6) (aat_1 := a7) (cat_1 := c8) hx11
  have hle := Nat.le_trans hn0 H.size
  refine st_call (cx_lend (Loan.lend (Loan.lend Loan.nil)) hc12 (ent_f hc12.fn rfl) (show Hp S0 σ0 _ ([Ch.own n0 n0 (Sl a5 r2.1 c6) r2.1, Ch.own n0 n0 (Sl a7 r2.2 c8) r2.2] ++ ([] ++ [Ch.ro 0 (Sl acode_0 code_0 ccode_0) code_0])) from (H.sel' [0, 1, 2] rfl rfl)) (by rintro _ _ _ ⟨rfl, rfl⟩; exact trivial)) wn ?_
  rintro _ σ13 ⟨_, ⟨rfl, rfl⟩, H, -, -⟩
  replace H : Hp S0 σ0 σ13 [Ch.own n0 n0 (Sl a5 r2.1 c6) r2.1, Ch.own n0 n0 (Sl a7 r2.2 c8) r2.2, Ch.ro 0 (Sl acode_0 code_0 ccode_0) code_0] := H
  clear hle
  replace H : Hp S0 σ0 σ13 [Ch.own n0 n0 (Sl a5 r2.1 c6) r2.1, Ch.own n0 n0 (Sl a7 r2.2 c8) r2.2, Ch.ro 0 (Sl acode_0 code_0 ccode_0) code_0] := H
  refine st (v := (I r10)) (rv_assign rfl) ?_
  refine w_end ?_
  refine q_then ?_
  refine c_seq ?_
  refine c_seq ?_
  obtain ⟨o14, hj, h'⟩ := bind_some h
  clear h
  refine c_cut (fun e a w => e = .normal ∧ ∃ (ρ : Nat → Value) (σ : St), a = fr 58 (updL ρ [(3, (Sl a5 r2.1 c6)), (4, (Sl a7 r2.2 c8)), (5, (I r10)), (27, (B o14))]) ∧ w = σ.w ∧ Hp S0 σ0 σ [Ch.own n0 n0 (Sl a5 r2.1 c6) r2.1, Ch.own n0 n0 (Sl a7 r2.2 c8) r2.2]) ?_ ?_
  ·clear h'
   rename _ = some o14 => h
   refine rg ?_
   refine st (v := (I r10)) (rv_move rfl) ?_
   refine st (v := (Sl a5 r2.1 c6)) (rv_move rfl) ?_
   refine st (v := (Sl a7 r2.2 c8)) (rv_move rfl) ?_
   obtain ⟨r15, hx16, h'⟩ := bind_some h
   clear h
   have h := h'; clear h'
   have hc17 := c_spec_HashOf (aplanes_0 := a5) (cplanes_0 := c6) (aat_1 := a7) (cat_1 := c8) hx16
   have hle := Nat.le_trans hn0 H.size
   refine st_call (cx_lend (Loan.lend (Loan.lend Loan.nil)) hc17 (ent_f hc17.fn rfl) (show Hp S0 σ0 _ ([Ch.own n0 n0 (Sl a5 r2.1 c6) r2.1, Ch.own n0 n0 (Sl a7 r2.2 c8) r2.2] ++ ([] ++ [Ch.ro 0 (Sl acode_0 code_0 ccode_0) code_0])) from (H.sel' [0, 1, 2] rfl rfl)) (by rintro _ _ _ ⟨rfl, rfl⟩; exact trivial)) wn ?_
   rintro _ σ18 ⟨_, ⟨rfl, rfl⟩, H, -, -⟩
   replace H : Hp S0 σ0 σ18 [Ch.own n0 n0 (Sl a5 r2.1 c6) r2.1, Ch.own n0 n0 (Sl a7 r2.2 c8) r2.2, Ch.ro 0 (Sl acode_0 code_0 ccode_0) code_0] := H
   clear hle
   replace H : Hp S0 σ0 σ18 [Ch.own n0 n0 (Sl a5 r2.1 c6) r2.1, Ch.own n0 n0 (Sl a7 r2.2 c8) r2.2, Ch.ro 0 (Sl acode_0 code_0 ccode_0) code_0] := H
   refine st (v := (B (r10 != r15))) (rv_neq (a := r10) (b := r15) rfl rfl) ?_
   refine st (v := (B (r10 != r15))) (rv_move rfl) ?_
   rcases Bool.eq_false_or_eq_true (r10 != r15) with hb19 | hb19
   ·replace h := bif_t hb19 h
    refine st_skip (congrArg some hb19) ?_
    refine st_skip (congrArg some hb19) ?_
    refine st (v := (B true)) (rv_pick_t (congrArg B hb19) rfl) ?_
    refine w_end ?_
    obtain rfl := Option.some.inj h
    exact ⟨rfl, _, σ18, fr_join ⟨rfl, rfl, rfl, rfl, trivial⟩, rfl, H.sel' [0, 1] rfl rfl⟩
   ·replace h := bif_f hb19 h
    refine st_g (v := (I r10)) (congrArg some hb19) (rv_move rfl) ?_
    refine st_g (v := (B (decide (r10 < 0)))) (congrArg some hb19) (rv_lss (a := r10) (b := 0) rfl rfl) ?_
    refine st (v := (B (decide (r10 < 0)))) (rv_pick_f (congrArg B hb19) rfl) ?_
    refine w_end ?_
    obtain rfl := Option.some.inj h
    exact ⟨rfl, _, σ18, fr_join ⟨rfl, rfl, rfl, rfl, trivial⟩, rfl, H.sel' [0, 1] rfl rfl⟩
  ·clear hj
   have h := h'
   clear h' H
   rintro e a w ⟨rfl, ρ, σ20, rfl, rfl, H⟩
   refine q_then ?_
   refine cd_cond o14 rfl (fun hb21 => ?_) (fun hb21 => ?_)
   ·replace h := bif_t hb21 h
    refine c_seq ?_
    refine rg ?_
    refine st (v := (I r10)) (rv_move rfl) ?_
    refine st (v := (Sl a5 r2.1 c6)) (rv_move rfl) ?_
    refine st (v := (Sl a7 r2.2 c8)) (rv_move rfl) ?_
    obtain ⟨σ22, hw23, H, -⟩ := H.pub 0 rfl (Nat.le_refl _)
    rw [← hw23]; clear hw23
    obtain ⟨σ24, hw25, H, -⟩ := H.pub 1 rfl (Nat.le_refl _)
    rw [← hw25]; clear hw25
    replace H := H.roLow 1 0 rfl (Nat.zero_le _)
    replace H := H.roLow 1 0 rfl (Nat.zero_le _)
    obtain ⟨r26, hx27, h'⟩ := bind_some h
    clear h
    have h := h'; clear h'
    have hc28 := c_spec_HashOf (aplanes_0 := a5) (cplanes_0 := c6) (aat_1 := a7) (cat_1 := c8) hx27
    refine st_call (cx_call hc28 (ent_f hc28.fn rfl) hn0 (show Hp S0 σ0 _ ([Ch.ro 0 (Sl a5 r2.1 c6) r2.1, Ch.ro 0 (Sl a7 r2.2 c8) r2.2] ++ [Ch.ro 0 (Sl a7 r2.2 c8) r2.2, Ch.ro 0 (Sl a5 r2.1 c6) r2.1, Ch.ro n0 (Sl a7 r2.2 c8) r2.2, Ch.ro n0 (Sl a5 r2.1 c6) r2.1]) from (H.sel' [1, 0, 0, 1, 2, 3] rfl rfl))) wn ?_
    rintro _ σ29 ⟨_, ⟨rfl, rfl⟩, H, -⟩
    replace H : Hp S0 σ0 σ29 [Ch.ro 0 (Sl a7 r2.2 c8) r2.2, Ch.ro 0 (Sl a5 r2.1 c6) r2.1, Ch.ro n0 (Sl a7 r2.2 c8) r2.2, Ch.ro n0 (Sl a5 r2.1 c6) r2.1] := H
    refine st (v := (B (r10 == r26))) (rv_eql (a := r10) (b := r26) rfl rfl) ?_
    refine st (v := (B (r10 == r26))) (rv_assign rfl) ?_
    refine w_end ?_
    refine q_then ?_
    refine c_ret ?_
    refine q_then_r ?_
    obtain rfl := Option.some.inj h
    exact fin_ret (v := (B (r10 == r26))) (results_ok Try.results9 (res_tmp (v := (B (r10 == r26))) rfl res_nil) rfl) ⟨rfl, rfl⟩ (H.sel' [] rfl rfl)
   ·replace h := bif_f hb21 h
    refine c_skip ?_
    refine q_then ?_
    refine c_seq ?_
    refine rg ?_
    refine st_ex (ex_buildSlice (el := n0) (xs := ([] : List Int)) (ps := []) (cs := []) H hn0 Try.underlying29 ti3 rfl rfl (by kernel_rfl) (.nil) rfl) wn ?_
    rintro _ σ31 ⟨b30, rfl, H, -⟩
    refine st (v := (Sl (some ⟨b30, 0, none⟩) ([] : List Int) 0)) (rv_assign rfl) ?_
    refine w_end ?_
    refine q_then ?_
    refine c_seq ?_
    refine c_seq ?_
    refine rg ?_
    refine st (v := (I 0)) (rv_assign rfl) ?_
    refine w_end ?_
    refine q_then ?_
    obtain ⟨o32, hj, h'⟩ := bind_some h
    clear h
    refine c_cut (fun e a w => e = .normal ∧ ∃ (ρ : Nat → Value) (σ : St) (aj1 : Option Addr) (cj2 : Nat), a = fr 58 (updL ρ [(3, (Sl a5 r2.1 c6)), (5, (I r10)), (6, (Sl aj1 o32 cj2))]) ∧ w = σ.w ∧ Hp S0 σ0 σ [Ch.own n0 n0 (Sl a5 r2.1 c6) r2.1, Ch.own n0 n0 (Sl aj1 o32 cj2) o32]) ?_ ?_
    ·clear h'
     rename _ = some o32 => h
     refine c_blk ?_
     refine wp_loopM _ h (fun s33 a w => ∃ (ρ : Nat → Value) (σ : St) (aj1 : Option Addr) (cj2 : Nat), a = fr 58 (updL ρ [(3, (Sl a5 r2.1 c6)), (4, (Sl a7 r2.2 c8)), (5, (I r10)), (6, (Sl aj1 s33.1 cj2)), (7, (I s33.2))]) ∧ w = σ.w ∧ Hp S0 σ0 σ [Ch.own n0 n0 (Sl a5 r2.1 c6) r2.1, Ch.own n0 n0 (Sl a7 r2.2 c8) r2.2, Ch.own n0 n0 (Sl aj1 s33.1 cj2) s33.1]) ⟨_, σ31, (some ⟨b30, 0, none⟩), 0, fr_join ⟨rfl, rfl, rfl, rfl, rfl, trivial⟩, rfl, H.sel' [1, 2, 0] rfl rfl⟩ ?_
     clear h H
     rintro s33 a w o ⟨ρ, σ34, a35, c36, rfl, rfl, H⟩ h hres
     refine c_seq ?_
     refine c_seq ?_
     refine rg ?_
     refine st (v := (I s33.2)) (rv_move rfl) ?_
     refine st (v := (Sl a7 r2.2 c8)) (rv_move rfl) ?_
     refine st (v := (I (r2.2.length : Int))) (rv_len Try.underlying29 rfl) ?_
     refine st (v := (B (decide (s33.2 < (r2.2.length : Int))))) (rv_lss (a := s33.2) (b := (r2.2.length : Int)) rfl rfl) ?_
     refine w_end ?_
     refine q_then ?_
     refine cd_cond (decide (s33.2 < (r2.2.length : Int))) rfl (fun hb37 => ?_) (fun hb37 => ?_)
     ·replace h := bif_t hb37 h
      refine c_skip ?_
      refine q_then ?_
      refine c_seq ?_
      refine c_blk ?_
      refine rg ?_
      refine st (v := (Sl a35 s33.1 c36)) (rv_move rfl) ?_
      refine st (v := (Sl a7 r2.2 c8)) (rv_move rfl) ?_
      refine st (v := (I s33.2)) (rv_move rfl) ?_
      obtain ⟨x38, hx39, h'⟩ := bind_some h
      clear h
      have h := h'; clear h'
      obtain ⟨b41, o42, hi40, -⟩ := (H.own 1 rfl).ix hx39
      refine st (v := (pt b41 o42)) (rv_ix Try.underlying29 ti3 rfl rfl hi40) ?_
      have hc43 := ((H.own 1 rfl).at hx39 hi40).int
      refine st (v := (I x38)) (rv_load1 Try.underlying3 rfl rfl hc43) ?_
      refine st (v := (I (w64 (2 * x38)))) (rv_mul (a := 2) (b := x38) rfl rfl) ?_
      refine st_ex (ex_buildSlice (el := n0) (xs := ([w64 (2 * x38)] : List Int)) (ps := [(0, (I (w64 (2 * x38))))]) (cs := [(I (w64 (2 * x38)))]) H hn0 Try.underlying29 ti3 rfl rfl (by kernel_rfl) (.cons (c := [(I (w64 (2 * x38)))]) rfl (.nil)) rfl) wn ?_
      rintro _ σ45 ⟨b44, rfl, H, -⟩
      obtain ⟨xs46, hx47, h'⟩ := bind_some h
      clear h
      have h := h'; clear h'
      refine st_ex (ex_append H (i := 3) rfl Try.underlying29 Try.underlying29 ti3 rfl rfl (by decide) (H.own 0 rfl).rd hx47 hn0 rfl rfl) wn ?_
      rintro _ σ50 ⟨a48, c49, rfl, H, -⟩
      refine st (v := (Sl a48 xs46 c49)) (rv_assign rfl) ?_
      refine w_end ?_
      refine q_blk ?_
      refine q_then ?_
      refine rg ?_
      refine st (v := (I s33.2)) (rv_move rfl) ?_
      refine st (v := (I (w64 (s33.2 + 1)))) (rv_add (a := s33.2) (b := 1) rfl rfl) ?_
      refine st (v := (I (w64 (s33.2 + 1)))) (rv_assign rfl) ?_
      refine w_end ?_
      refine q_then ?_
      obtain rfl := Option.some.inj h
      exact ⟨_, rfl, _, σ50, a48, c49, fr_join ⟨rfl, rfl, rfl, rfl, rfl, trivial⟩, rfl, H.sel' [2, 3, 0] rfl rfl⟩
     ·replace h := bif_f hb37 h
      refine c_exit ?_
      refine q_then_x ?_
      refine q_then_x ?_
      refine q_blk_hit ?_
      obtain rfl := Option.some.inj h
      obtain rfl := hres _ rfl
      exact ⟨rfl, _, σ34, a35, c36, fr_join ⟨rfl, rfl, rfl, trivial⟩, rfl, H.sel' [0, 2] rfl rfl⟩
    ·clear hj
     have h := h'
     clear h' H
     rintro e a w ⟨rfl, ρ, σ51, a52, c53, rfl, rfl, H⟩
     refine q_then ?_
     refine c_seq ?_
     refine rg ?_
     refine st (v := (Sl a52 o32 c53)) (rv_move rfl) ?_
     obtain ⟨r54, hx55, h'⟩ := bind_some h
     clear h
     have h := h'; clear h'
     have hc56 := c_impl_ValidVector (av_0 := a52) (cv_0 := c53) hx55
     have hle := Nat.le_trans hn0 H.size
     refine st_call (cx_lend (Loan.lend Loan.nil) hc56 (ent_f hc56.fn rfl) (show Hp S0 σ0 _ ([Ch.own n0 n0 (Sl a52 o32 c53) o32] ++ ([] ++ [Ch.own n0 n0 (Sl a5 r2.1 c6) r2.1])) from (H.sel' [1, 0] rfl rfl)) (by rintro _ _ _ ⟨rfl, rfl⟩; exact trivial)) wn ?_
     rintro _ σ57 ⟨_, ⟨rfl, rfl⟩, H, -, -⟩
     replace H : Hp S0 σ0 σ57 [Ch.own n0 n0 (Sl a52 o32 c53) o32, Ch.own n0 n0 (Sl a5 r2.1 c6) r2.1] := H
     clear hle
     replace H : Hp S0 σ0 σ57 [Ch.own n0 n0 (Sl a52 o32 c53) o32, Ch.own n0 n0 (Sl a5 r2.1 c6) r2.1] := H
     refine st (v := (B (!r54))) (rv_not rfl) ?_
     refine st (v := (B (!r54))) (rv_move rfl) ?_
     rcases Bool.eq_false_or_eq_true (!r54) with hb58 | hb58
     ·replace h := bif_t hb58 h
      refine st_skip (congrArg some hb58) ?_
      refine st_skip (congrArg some hb58) ?_
      refine st_skip (congrArg some hb58) ?_
      refine st_skip (congrArg some hb58) ?_
      refine st_skip (congrArg some hb58) ?_
      refine st (v := (B true)) (rv_pick_t (congrArg B hb58) rfl) ?_
      refine st (v := (B true)) (rv_assign rfl) ?_
      refine w_end ?_
      refine q_then ?_
      refine c_ret ?_
      obtain rfl := Option.some.inj h
      exact fin_ret (v := (B true)) (results_ok Try.results9 (res_tmp (v := (B true)) rfl res_nil) rfl) ⟨rfl, rfl⟩ (H.sel' [] rfl rfl)
     ·replace h := bif_f hb58 h
      refine st_g (v := (Sl a5 r2.1 c6)) (congrArg some hb58) (rv_move rfl) ?_
      refine st_g (v := (Sl a52 o32 c53)) (congrArg some hb58) (rv_move rfl) ?_
      obtain ⟨σ59, hw60, H, -⟩ := H.pub 1 rfl (Nat.le_refl _)
      rw [← hw60]; clear hw60
      obtain ⟨σ61, hw62, H, -⟩ := H.pub 1 rfl (Nat.le_refl _)
      rw [← hw62]; clear hw62
      replace H := H.roLow 1 0 rfl (Nat.zero_le _)
      replace H := H.roLow 1 0 rfl (Nat.zero_le _)
      obtain ⟨r63, hx64, h'⟩ := bind_some h
      clear h
      have h := h'; clear h'
      have hc65 := c_impl_HashOf (aplanes_0 := a5) (cplanes_0 := c6) (aat_1 := a52) (cat_1 := c53) hx64
      refine st_call (cx_call hc65 (ent_f hc65.fn rfl) hn0 (show Hp S0 σ0 _ ([Ch.ro 0 (Sl a5 r2.1 c6) r2.1, Ch.ro 0 (Sl a52 o32 c53) o32] ++ [Ch.ro 0 (Sl a52 o32 c53) o32, Ch.ro 0 (Sl a5 r2.1 c6) r2.1, Ch.ro n0 (Sl a52 o32 c53) o32, Ch.ro n0 (Sl a5 r2.1 c6) r2.1]) from (H.sel' [1, 0, 0, 1, 2, 3] rfl rfl))) (wanted_yes rfl (by exact (congrArg some hb58))) ?_
      rintro _ σ66 ⟨_, ⟨rfl, rfl⟩, H, -⟩
      replace H : Hp S0 σ0 σ66 [Ch.ro 0 (Sl a52 o32 c53) o32, Ch.ro 0 (Sl a5 r2.1 c6) r2.1, Ch.ro n0 (Sl a52 o32 c53) o32, Ch.ro n0 (Sl a5 r2.1 c6) r2.1] := H
      refine st_g (v := (I r10)) (congrArg some hb58) (rv_move rfl) ?_
      refine st_g (v := (B (r63 == r10))) (congrArg some hb58) (rv_eql (a := r63) (b := r10) rfl rfl) ?_
      refine st (v := (B (r63 == r10))) (rv_pick_f (congrArg B hb58) rfl) ?_
      refine st (v := (B (r63 == r10))) (rv_assign rfl) ?_
      refine w_end ?_
      refine q_then ?_
      refine c_ret ?_
      obtain rfl := Option.some.inj h
      exact fin_ret (v := (B (r63 == r10))) (results_ok Try.results9 (res_tmp (v := (B (r63 == r10))) rfl res_nil) rfl) ⟨rfl, rfl⟩ (H.sel' [] rfl rfl)

end Go.Vs
