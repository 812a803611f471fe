/- The functions compute what their models say. -/
import Derived.Test.YtjcaokajkkkniabKHashOfPlaneC1
set_option linter.unusedVariables false
set_option linter.unusedSimpArgs false
set_option maxRecDepth 20000
namespace Go.Vs
open Go Go.Proofs
attribute [local irreducible] Code.wp Code.wpIn wpList wpListIn wpQuiet Calls CallsIn

theorem c_laws_FnHashOfPlane {code_0 : List UInt8} {acode_0 : Option Addr} {ccode_0 : Nat} {r : Bool} (h : M.laws_FnHashOfPlane code_0 = some r) :
    Cal2 Try.prog 8 [(Sl acode_0 code_0 ccode_0)] [Ch.ro 0 (Sl acode_0 code_0 ccode_0) code_0] (fun n0 v L => v = (B r) ∧ L = []) := by
 refine cal2 (n := 66) Try.func8 rfl rfl rfl rfl ?_
 intro S0 σ0 n0 hn0 H
 unfold M.laws_FnHashOfPlane at h
 refine c_seq ?_
 refine rg ?_
 refine st (v := (B false)) (rv_assign rfl) ?_
 refine w_end ?_
 refine q_then ?_
 refine c_seq ?_
 refine c_seq ?_
 refine rg ?_
 refine st (v := (Sl acode_0 code_0 ccode_0)) (rv_move rfl) ?_
 refine st (v := (I (code_0.length : Int))) (rv_len Try.underlying22 rfl) ?_
 refine st (v := (B (decide (1048576 < (code_0.length : Int))))) (rv_gtr (a := (code_0.length : Int)) (b := 1048576) rfl rfl) ?_
 refine w_end ?_
 refine q_then ?_
 refine cd_cond (decide (1048576 < (code_0.length : Int))) rfl (fun hb1 => ?_) (fun hb1 => ?_)
 ·replace h := bif_t hb1 h
  refine c_seq ?_
  refine rg ?_
  refine st (v := (B true)) (rv_assign rfl) ?_
  refine w_end ?_
  refine q_then ?_
  refine c_ret ?_
  refine q_then_r ?_
  obtain rfl := Option.some.inj h
  exact fin_ret (v := (B true)) (results_ok Try.results8 (res_tmp (v := (B true)) rfl res_nil) rfl) ⟨rfl, rfl⟩ (H.sel' [] rfl rfl)
 ·replace h := bif_f hb1 h
  refine c_skip ?_
  refine q_then ?_
  refine c_seq ?_
  refine rg ?_
  refine st (v := (Sl acode_0 code_0 ccode_0)) (rv_move rfl) ?_
  obtain ⟨r2, hx3, h'⟩ := bind_some h
  clear h
  have h := h'; clear h'
  have hc4 := c_spec_DrawHashOf (acode_0 := acode_0) (ccode_0 := ccode_0) hx3
  refine st_call (cx_call hc4 (ent_f hc4.fn rfl) hn0 (show Hp S0 σ0 _ ([Ch.ro 0 (Sl acode_0 code_0 ccode_0) code_0] ++ [Ch.ro 0 (Sl acode_0 code_0 ccode_0) code_0]) from (H.sel' [0, 0] rfl rfl))) wn ?_
  rintro _ σ9 ⟨_, ⟨a5, c6, a7, c8, rfl, rfl⟩, H, -⟩
  replace H : Hp S0 σ0 σ9 [Ch.own n0 n0 (Sl a5 r2.1 c6) r2.1, Ch.own n0 n0 (Sl a7 r2.2 c8) r2.2, Ch.ro 0 (Sl acode_0 code_0 ccode_0) code_0] := H
  refine st (v := (.tuple #[(Sl a5 r2.1 c6), (Sl a7 r2.2 c8)])) (rv_move rfl) ?_
  refine st (v := (Sl a5 r2.1 c6)) (rv_extract rfl rfl) ?_
  refine st (v := (Sl a7 r2.2 c8)) (rv_extract rfl rfl) ?_
  refine st (v := (Sl a5 r2.1 c6)) (rv_assign rfl) ?_
  refine st (v := (Sl a7 r2.2 c8)) (rv_assign rfl) ?_
  refine w_end ?_
  refine q_then ?_
  refine c_seq ?_
  refine rg ?_
  refine st (v := (Sl a5 r2.1 c6)) (rv_move rfl) ?_
  refine st (v := (Sl a7 r2.2 c8)) (rv_move rfl) ?_
  obtain ⟨r10, hx11, h'⟩ := bind_some h
  clear h
  have h := h'; clear h'
  have hc12 := c_impl_HashOf (aplanes_0 := a5) (cplanes_0 := c6) (aat_1 := a7) (cat_1 := c8) hx11
  have hle := Nat.le_trans hn0 H.size
  refine st_call (cx_lend (Loan.lend (Loan.lend Loan.nil)) hc12 (ent_f hc12.fn rfl) (show Hp S0 σ0 _ ([Ch.own n0 n0 (Sl a5 r2.1 c6) r2.1, Ch.own n0 n0 (Sl a7 r2.2 c8) r2.2] ++ ([] ++ [Ch.ro 0 (Sl acode_0 code_0 ccode_0) code_0])) from (H.sel' [0, 1, 2] rfl rfl)) (by rintro _ _ _ ⟨rfl, rfl⟩; exact trivial)) wn ?_
  rintro _ σ13 ⟨_, ⟨rfl, rfl⟩, H, -, -⟩
  replace H : Hp S0 σ0 σ13 [Ch.own n0 n0 (Sl a5 r2.1 c6) r2.1, Ch.own n0 n0 (Sl a7 r2.2 c8) r2.2, Ch.ro 0 (Sl acode_0 code_0 ccode_0) code_0] := H
  clear hle
  replace H : Hp S0 σ0 σ13 [Ch.own n0 n0 (Sl a5 r2.1 c6) r2.1, Ch.own n0 n0 (Sl a7 r2.2 c8) r2.2, Ch.ro 0 (Sl acode_0 code_0 ccode_0) code_0] := H
  refine st (v := (I r10)) (rv_assign rfl) ?_
  refine w_end ?_
  refine q_then ?_
  refine c_seq ?_
  refine c_seq ?_
  obtain ⟨o14, hj, h'⟩ := bind_some h
  clear h
  refine c_cut (fun e a w => e = .normal ∧ ∃ (ρ : Nat → Value) (σ : St), a = fr 66 (updL ρ [(3, (Sl a5 r2.1 c6)), (4, (Sl a7 r2.2 c8)), (5, (I r10)), (27, (B o14))]) ∧ w = σ.w ∧ Hp S0 σ0 σ [Ch.own n0 n0 (Sl a5 r2.1 c6) r2.1, Ch.own n0 n0 (Sl a7 r2.2 c8) r2.2]) ?_ ?_
  ·clear h'
   rename _ = some o14 => h
   refine rg ?_
   refine st (v := (I r10)) (rv_move rfl) ?_
   refine st (v := (Sl a5 r2.1 c6)) (rv_move rfl) ?_
   refine st (v := (Sl a7 r2.2 c8)) (rv_move rfl) ?_
   obtain ⟨r15, hx16, h'⟩ := bind_some h
   clear h
   have h := h'; clear h'
   have hc17 := c_spec_HashOf (aplanes_0 := a5) (cplanes_0 := c6) (aat_1 := a7) (cat_1 := c8) hx16
   have hle := Nat.le_trans hn0 H.size
   refine st_call (cx_lend (Loan.lend (Loan.lend Loan.nil)) hc17 (ent_f hc17.fn rfl) (show Hp S0 σ0 _ ([Ch.own n0 n0 (Sl a5 r2.1 c6) r2.1, Ch.own n0 n0 (Sl a7 r2.2 c8) r2.2] ++ ([] ++ [Ch.ro 0 (Sl acode_0 code_0 ccode_0) code_0])) from (H.sel' [0, 1, 2] rfl rfl)) (by rintro _ _ _ ⟨rfl, rfl⟩; exact trivial)) wn ?_
   rintro _ σ18 ⟨_, ⟨rfl, rfl⟩, H, -, -⟩
   replace H : Hp S0 σ0 σ18 [Ch.own n0 n0 (Sl a5 r2.1 c6) r2.1, Ch.own n0 n0 (Sl a7 r2.2 c8) r2.2, Ch.ro 0 (Sl acode_0 code_0 ccode_0) code_0] := H
   clear hle
   replace H : Hp S0 σ0 σ18 [Ch.own n0 n0 (Sl a5 r2.1 c6) r2.1, Ch.own n0 n0 (Sl a7 r2.2 c8) r2.2, Ch.ro 0 (Sl acode_0 code_0 ccode_0) code_0] := H
   refine st (v := (B (r10 != r15))) (rv_neq (a := r10) (b := r15) rfl rfl) ?_
   refine st (v := (B (r10 != r15))) (rv_move rfl) ?_
   rcases Bool.eq_false_or_eq_true (r10 != r15) with hb19 | hb19
   ·replace h := bif_t hb19 h
    refine st_skip (congrArg some hb19) ?_
    refine st_skip (congrArg some hb19) ?_
    refine st (v := (B true)) (rv_pick_t (congrArg B hb19) rfl) ?_
    refine w_end ?_
    obtain rfl := Option.some.inj h
    exact ⟨rfl, _, σ18, fr_join ⟨rfl, rfl, rfl, rfl, trivial⟩, rfl, H.sel' [0, 1] rfl rfl⟩
   ·replace h := bif_f hb19 h
    refine st_g (v := (I r10)) (congrArg some hb19) (rv_move rfl) ?_
    refine st_g (v := (B (decide (r10 < 0)))) (congrArg some hb19) (rv_lss (a := r10) (b := 0) rfl rfl) ?_
    refine st (v := (B (decide (r10 < 0)))) (rv_pick_f (congrArg B hb19) rfl) ?_
    refine w_end ?_
    obtain rfl := Option.some.inj h
    exact ⟨rfl, _, σ18, fr_join ⟨rfl, rfl, rfl, rfl, trivial⟩, rfl, H.sel' [0, 1] rfl rfl⟩
  ·clear hj
   have h := h'
   clear h' H
   rintro e a w ⟨rfl, ρ, σ20, rfl, rfl, H⟩
   refine q_then ?_
   refine cd_cond o14 rfl (fun hb21 => ?_) (fun hb21 => ?_)
   ·replace h := bif_t hb21 h
    refine c_seq ?_
    refine rg ?_
    refine st (v := (I r10)) (rv_move rfl) ?_
    refine st (v := (Sl a5 r2.1 c6)) (rv_move rfl) ?_
    refine st (v := (Sl a7 r2.2 c8)) (rv_move rfl) ?_
    obtain ⟨σ22, hw23, H, -⟩ := H.pub 0 rfl (Nat.le_refl _)
    rw [← hw23]; clear hw23
    obtain ⟨σ24, hw25, H, -⟩ := H.pub 1 rfl (Nat.le_refl _)
    rw [← hw25]; clear hw25
    replace H := H.roLow 1 0 rfl (Nat.zero_le _)
    replace H := H.roLow 1 0 rfl (Nat.zero_le _)
    obtain ⟨r26, hx27, h'⟩ := bind_some h
    clear h
    have h := h'; clear h'
    have hc28 := c_spec_HashOf (aplanes_0 := a5) (cplanes_0 := c6) (aat_1 := a7) (cat_1 := c8) hx27
    refine st_call (cx_call hc28 (ent_f hc28.fn rfl) hn0 (show Hp S0 σ0 _ ([Ch.ro 0 (Sl a5 r2.1 c6) r2.1, Ch.ro 0 (Sl a7 r2.2 c8) r2.2] ++ [Ch.ro 0 (Sl a7 r2.2 c8) r2.2, Ch.ro 0 (Sl a5 r2.1 c6) r2.1, Ch.ro n0 (Sl a7 r2.2 c8) r2.2, Ch.ro n0 (Sl a5 r2.1 c6) r2.1]) from (H.sel' [1, 0, 0, 1, 2, 3] rfl rfl))) wn ?_
    rintro _ σ29 ⟨_, ⟨rfl, rfl⟩, H, -⟩
    replace H : Hp S0 σ0 σ29 [Ch.ro 0 (Sl a7 r2.2 c8) r2.2, Ch.ro 0 (Sl a5 r2.1 c6) r2.1, Ch.ro n0 (Sl a7 r2.2 c8) r2.2, Ch.ro n0 (Sl a5 r2.1 c6) r2.1] := H
    refine st (v := (B (r10 == r26))) (rv_eql (a := r10) (b := r26) rfl rfl) ?_
    refine st (v := (B (r10 == r26))) (rv_assign rfl) ?_
    refine w_end ?_
    refine q_then ?_
    refine c_ret ?_
    refine q_then_r ?_
    obtain rfl := Option.some.inj h
    exact fin_ret (v := (B (r10 == r26))) (results_ok Try.results8 (res_tmp (v := (B (r10 == r26))) rfl res_nil) rfl) ⟨rfl, rfl⟩ (H.sel' [] rfl rfl)
   ·replace h := bif_f hb21 h
    refine c_skip ?_
    refine q_then ?_
    refine c_seq ?_
    refine c_seq ?_
    refine rg ?_
    refine st (v := (I 0)) (rv_assign rfl) ?_
    refine w_end ?_
    refine q_then ?_
    obtain ⟨o30, hj, h'⟩ := bind_some h
    clear h
    refine c_cut (fun e a w => (∃ t, o30 = (.inl t) ∧ e = .normal ∧ ∃ (ρ : Nat → Value) (σ : St), a = fr 66 (updL ρ [(3, (Sl a5 r2.1 c6))]) ∧ w = σ.w ∧ Hp S0 σ0 σ [Ch.own n0 n0 (Sl a5 r2.1 c6) r2.1]) ∨ (∃ t, o30 = (.inr t) ∧ e = .ret ∧ ∃ (ρ : Nat → Value) (σ : St), a = fr 66 (updL ρ [(2, (B t))]) ∧ w = σ.w ∧ Hp S0 σ0 σ [])) ?_ ?_
    ·clear h'
     rename _ = some o30 => h
     refine c_blk ?_
     refine wp_loopM _ h (fun s31 a w => ∃ (ρ : Nat → Value) (σ : St), a = fr 66 (updL ρ [(3, (Sl a5 r2.1 c6)), (6, (I s31))]) ∧ w = σ.w ∧ Hp S0 σ0 σ [Ch.own n0 n0 (Sl a5 r2.1 c6) r2.1]) ⟨_, σ20, fr_join ⟨rfl, rfl, trivial⟩, rfl, H.sel' [0] rfl rfl⟩ ?_
     clear h H
     rintro s31 a w o ⟨ρ, σ32, rfl, rfl, H⟩ h hres
     refine c_seq ?_
     refine c_seq ?_
     refine rg ?_
     refine st (v := (I s31)) (rv_move rfl) ?_
     refine st (v := (Sl a5 r2.1 c6)) (rv_move rfl) ?_
     refine st (v := (I (r2.1.length : Int))) (rv_len Try.underlying27 rfl) ?_
     refine st (v := (B (decide (s31 < (r2.1.length : Int))))) (rv_lss (a := s31) (b := (r2.1.length : Int)) rfl rfl) ?_
     refine w_end ?_
     refine q_then ?_
     refine cd_cond (decide (s31 < (r2.1.length : Int))) rfl (fun hb33 => ?_) (fun hb33 => ?_)
     ·replace h := bif_t hb33 h
      refine c_skip ?_
      refine q_then ?_
      refine c_seq ?_
      refine c_blk ?_
      refine c_seq ?_
      refine rg ?_
      refine st (v := (Sl a5 r2.1 c6)) (rv_move rfl) ?_
      refine st (v := (Sl a5 r2.1 c6)) (rv_move rfl) ?_
      refine st (v := (I s31)) (rv_move rfl) ?_
      obtain ⟨x34, hx35, h'⟩ := bind_some h
      clear h
      have h := h'; clear h'
      obtain ⟨b37, o38, hi36, -⟩ := (H.own 0 rfl).ix hx35
      refine st (v := (pt b37 o38)) (rv_ix Try.underlying27 ti29 rfl rfl hi36) ?_
      obtain ⟨v42, hc43, hR41⟩ := ((H.own 0 rfl).at hx35 hi36).slice
      obtain ⟨a39, c40, rfl⟩ := hR41.isSl
      replace H := H.add (d := Ch.ro n0 (Sl a39 x34 c40) x34) hR41 (fun _ h => h)
      clear hR41
      refine st (v := (Sl a39 x34 c40)) (rv_load1 Try.underlying29 rfl rfl hc43) ?_
      replace H := H.roLow 0 0 rfl (Nat.zero_le _)
      obtain ⟨r44, hx45, h'⟩ := bind_some h
      clear h
      have h := h'; clear h'
      have hc46 := c_impl_HashOf (aplanes_0 := a5) (cplanes_0 := c6) (aat_1 := a39) (cat_1 := c40) hx45
      have hle := Nat.le_trans hn0 H.size
      refine st_call (cx_lend (Loan.lend (Loan.same Loan.nil)) hc46 (ent_f hc46.fn rfl) (show Hp S0 σ0 _ ([Ch.own n0 n0 (Sl a5 r2.1 c6) r2.1] ++ ([Ch.ro 0 (Sl a39 x34 c40) x34] ++ [Ch.ro 0 (Sl a39 x34 c40) x34, Ch.ro n0 (Sl a39 x34 c40) x34])) from (H.sel' [2, 0, 0, 1] rfl rfl)) (by rintro _ _ _ ⟨rfl, rfl⟩; exact trivial)) wn ?_
      rintro _ σ47 ⟨_, ⟨rfl, rfl⟩, H, -, -⟩
      replace H : Hp S0 σ0 σ47 [Ch.own n0 n0 (Sl a5 r2.1 c6) r2.1, Ch.ro 0 (Sl a39 x34 c40) x34, Ch.ro n0 (Sl a39 x34 c40) x34] := H
      clear hle
      replace H : Hp S0 σ0 σ47 [Ch.own n0 n0 (Sl a5 r2.1 c6) r2.1, Ch.ro 0 (Sl a39 x34 c40) x34, Ch.ro n0 (Sl a39 x34 c40) x34] := H
      refine st (v := (I r44)) (rv_assign rfl) ?_
      refine w_end ?_
      refine q_then ?_
      refine c_seq ?_
      obtain ⟨o48, hj, h'⟩ := bind_some h
      clear h
      refine c_cut (fun e a w => e = .normal ∧ ∃ (ρ : Nat → Value) (σ : St), a = fr 66 (updL ρ [(3, (Sl a5 r2.1 c6)), (6, (I s31)), (57, (B o48))]) ∧ w = σ.w ∧ Hp S0 σ0 σ [Ch.own n0 n0 (Sl a5 r2.1 c6) r2.1]) ?_ ?_
      ·clear h'
       rename _ = some o48 => h
       refine rg ?_
       refine st (v := (I r44)) (rv_move rfl) ?_
       refine st (v := (B (decide (r44 < 0)))) (rv_lss (a := r44) (b := 0) rfl rfl) ?_
       refine st (v := (B (decide (r44 < 0)))) (rv_move rfl) ?_
       rcases Bool.eq_false_or_eq_true (decide (r44 < 0)) with hb49 | hb49
       ·replace h := bif_t hb49 h
        refine st_skip (congrArg some hb49) ?_
        refine st_skip (congrArg some hb49) ?_
        refine st_skip (congrArg some hb49) ?_
        refine st_skip (congrArg some hb49) ?_
        refine st_skip (congrArg some hb49) ?_
        refine st_skip (congrArg some hb49) ?_
        refine st_skip (congrArg some hb49) ?_
        refine st_skip (congrArg some hb49) ?_
        refine st_skip (congrArg some hb49) ?_
        refine st (v := (B true)) (rv_pick_t (congrArg B hb49) rfl) ?_
        refine w_end ?_
        obtain rfl := Option.some.inj h
        exact ⟨rfl, _, σ47, fr_join ⟨rfl, rfl, rfl, trivial⟩, rfl, H.sel' [0] rfl rfl⟩
       ·replace h := bif_f hb49 h
        refine st_g (v := (I r44)) (congrArg some hb49) (rv_move rfl) ?_
        refine st_g (v := (Sl a5 r2.1 c6)) (congrArg some hb49) (rv_move rfl) ?_
        refine st_g (v := (I (r2.1.length : Int))) (congrArg some hb49) (rv_len Try.underlying27 rfl) ?_
        refine st_g (v := (I (w64 ((r2.1.length : Int) - 1)))) (congrArg some hb49) (rv_sub (a := (r2.1.length : Int)) (b := 1) rfl rfl) ?_
        refine st_g (v := (I s31)) (congrArg some hb49) (rv_move rfl) ?_
        refine st_g (v := (I (w64 ((w64 ((r2.1.length : Int) - 1)) - s31)))) (congrArg some hb49) (rv_sub (a := (w64 ((r2.1.length : Int) - 1))) (b := s31) rfl rfl) ?_
        obtain ⟨q50, hx51, h'⟩ := bind_some h
        clear h
        have h := h'; clear h'
        refine st_g (v := (I q50)) (congrArg some hb49) (rvk_shrG (k := .i64) (k' := .i64) (a := r44) (b := (w64 ((w64 ((r2.1.length : Int) - 1)) - s31))) hx51 rfl rfl) ?_
        refine st_g (v := (I (q50.tmod 2))) (congrArg some hb49) (rv_rem (a := q50) (b := 2) rfl rfl (by decide)) ?_
        refine st_g (v := (B ((q50.tmod 2) != 1))) (congrArg some hb49) (rv_neq (a := (q50.tmod 2)) (b := 1) rfl rfl) ?_
        refine st (v := (B ((q50.tmod 2) != 1))) (rv_pick_f (congrArg B hb49) rfl) ?_
        refine w_end ?_
        obtain rfl := Option.some.inj h
        exact ⟨rfl, _, σ47, fr_join ⟨rfl, rfl, rfl, trivial⟩, rfl, H.sel' [0] rfl rfl⟩
      ·clear hj
       have h := h'
       clear h' H
       rintro e a w ⟨rfl, ρ, σ52, rfl, rfl, H⟩
       refine q_then ?_
       refine cd_cond o48 rfl (fun hb53 => ?_) (fun hb53 => ?_)
       ·replace h := bif_t hb53 h
        refine c_seq ?_
        refine rg ?_
        refine st (v := (B false)) (rv_assign rfl) ?_
        refine w_end ?_
        refine q_then ?_
        refine c_ret ?_
        refine q_blk_r ?_
        refine q_then_r ?_
        refine q_then_r ?_
        refine q_blk_r ?_
        obtain rfl := Option.some.inj h
        obtain rfl := hres _ rfl
        exact .inr (⟨_, rfl, rfl, _, σ52, fr_join ⟨rfl, trivial⟩, rfl, H.sel' [] rfl rfl⟩)
       ·replace h := bif_f hb53 h
        refine c_skip ?_
        refine q_blk ?_
        refine q_then ?_
        refine rg ?_
        refine st (v := (I s31)) (rv_move rfl) ?_
        refine st (v := (I (w64 (s31 + 1)))) (rv_add (a := s31) (b := 1) rfl rfl) ?_
        refine st (v := (I (w64 (s31 + 1)))) (rv_assign rfl) ?_
        refine w_end ?_
        refine q_then ?_
        obtain rfl := Option.some.inj h
        exact ⟨_, rfl, _, σ52, fr_join ⟨rfl, rfl, trivial⟩, rfl, H.sel' [0] rfl rfl⟩
     ·replace h := bif_f hb33 h
      refine c_exit ?_
      refine q_then_x ?_
      refine q_then_x ?_
      refine q_blk_hit ?_
      obtain rfl := Option.some.inj h
      obtain rfl := hres _ rfl
      exact .inl ⟨_, rfl, rfl, _, σ32, fr_join ⟨rfl, trivial⟩, rfl, H.sel' [0] rfl rfl⟩
    ·clear hj
     have h := h'
     clear h' H
     rintro e a w (⟨t54, rfl, rfl, ρ, σ55, rfl, rfl, H⟩ | ⟨t69, rfl, rfl, ρ, σ70, rfl, rfl, H⟩)
     ·replace h := selim_l h
      refine q_then ?_
      refine c_seq ?_
      obtain ⟨σ56, hw57, H, -⟩ := H.pub 0 rfl (Nat.le_refl _)
      rw [← hw57]; clear hw57
      obtain ⟨xs58, hx59, h'⟩ := bind_some h
      clear h
      have h := h'; clear h'
      replace H := H.roLow 0 0 rfl (Nat.zero_le _)
      obtain ⟨r63, hx64, h'⟩ := bind_some h
      clear h
      have h := h'; clear h'
      have hc65 := fun (b60 : Nat) (c61 : Nat) => c_impl_HashOf (aplanes_0 := a5) (cplanes_0 := c6) (aat_1 := (some ⟨b60, 0, none⟩)) (cat_1 := c61) hx64
      obtain ⟨q66, hx67, h'⟩ := bind_some h
      clear h
      have h := h'; clear h'
      have Hs := H
      refine rg2 (σ := σ56) (Nm := (Nat) × (Nat)) 7 [1, 2] [[false, false], [true, false], [true, true]] [[(0, 0), (1, 1)], [(0, 1)], [(1, 2)], [(0, 0), (1, 1), (2, 2)], [(0, 0), (1, 1), (2, 2)], [(0, 0), (1, 1), (2, 2)], [(0, 0), (1, 1), (2, 2)]] 2 [fun ((b60, c61) : (Nat) × (Nat)) => fun σm => Hp S0 σ0 σm [Ch.ro 0 (Sl a5 r2.1 c6) r2.1, Ch.ro n0 (Sl a5 r2.1 c6) r2.1] ∧ Md (cov []) σ56 σm, fun ((b60, c61) : (Nat) × (Nat)) => fun σm => Hp S0 σ0 σm [Ch.ro 0 (Sl (some ⟨b60, 0, none⟩) xs58 c61) xs58, Ch.ro 0 (Sl a5 r2.1 c6) r2.1, Ch.ro n0 (Sl a5 r2.1 c6) r2.1] ∧ Md (fun i => (cov []) i ∨ (fun i => (cov []) i ∨ (fun b => blk (Sl (some ⟨b60, 0, none⟩) xs58 c61) = some b) i) i) σ56 σm, fun ((b60, c61) : (Nat) × (Nat)) => fun σm => Hp S0 σ0 σm [Ch.ro 0 (Sl (some ⟨b60, 0, none⟩) xs58 c61) xs58, Ch.ro 0 (Sl a5 r2.1 c6) r2.1, Ch.ro n0 (Sl a5 r2.1 c6) r2.1] ∧ Md (fun i => (cov []) i ∨ (fun i => (cov []) i ∨ (fun b => blk (Sl (some ⟨b60, 0, none⟩) xs58 c61) = some b) i) i) σ56 σm] [fun ((b60, c61) : (Nat) × (Nat)) => (Sl a5 r2.1 c6), fun ((b60, c61) : (Nat) × (Nat)) => (Sl (some ⟨b60, 0, none⟩) xs58 c61), fun ((b60, c61) : (Nat) × (Nat)) => (I r63), fun ((b60, c61) : (Nat) × (Nat)) => (Sl a5 r2.1 c6), fun ((b60, c61) : (Nat) × (Nat)) => (I (r2.1.length : Int)), fun ((b60, c61) : (Nat) × (Nat)) => (I q66), fun ((b60, c61) : (Nat) × (Nat)) => (I (w64 (q66 - 1)))] (0, 0) (by kernel_rfl) (by kernel_rfl) ?_ ?_ ?_
      ·intro σm m0
       exact ⟨H.grow (m0.mono fun _ h => h.elim), m0⟩
      ·refine ac rfl (by
         intro k; rintro ⟨b60, c61⟩ ρ σm hJ hoff hdep
         have e3 := look_off (N := 66) (hoff 3 rfl) rfl
         exact dp_v (v := (Sl a5 r2.1 c6)) wn (rv_move e3) rfl hJ) ?_
       refine all_cons (by
         refine ⟨?_, ?_⟩
         ·rintro ⟨b60, c61⟩ ρ σm hJ hoff hdep
          obtain ⟨H, m⟩ := id hJ
          refine dp_ex wn (ex_make (el := 0) (z0 := (0 : Int)) (zs := [(I 0)]) H hn0 Try.underlying29 ti3 rfl rfl rfl (by decide) hx59 rfl rfl) ?_
          rintro _ σq ⟨b60x, c61x, rfl, -, H2, m2⟩
          obtain ⟨σr0, hwr0, H2, mr0⟩ := H2.pub 0 rfl (Nat.zero_le _)
          exact ⟨_, (b60x, c61x), hwr0, rfl, ⟨H2.sel' [0, 1, 2] rfl rfl, m.comp (m2.comp mr0)⟩, stab [0, 3, 4, 5, 6] (by kernel_rfl) ⟨rfl, rfl, rfl, rfl, rfl, trivial⟩⟩
         trivial) ?_
       refine all_cons (by
         refine ⟨?_, ?_⟩
         ·rintro ⟨b60, c61⟩ ρ σm hJ hoff hdep
          have e58 : look 66 ρ 58 = (Sl a5 r2.1 c6) := hdep 0 rfl rfl 58 rfl
          have e59 : look 66 ρ 59 = (Sl (some ⟨b60, 0, none⟩) xs58 c61) := hdep 1 rfl rfl 59 rfl
          obtain ⟨H, m⟩ := id hJ
          refine dp_cx wn (cx_call (hc65 b60 c61) (ent_f (hc65 b60 c61).fn (by show [look 66 ρ 58, look 66 ρ 59] = _; rw [e58, e59])) hn0 (show Hp S0 σ0 _ ([Ch.ro 0 (Sl a5 r2.1 c6) r2.1, Ch.ro 0 (Sl (some ⟨b60, 0, none⟩) xs58 c61) xs58] ++ [Ch.ro 0 (Sl (some ⟨b60, 0, none⟩) xs58 c61) xs58, Ch.ro 0 (Sl a5 r2.1 c6) r2.1, Ch.ro n0 (Sl a5 r2.1 c6) r2.1]) from (H.sel' [1, 0, 0, 1, 2] rfl rfl))) ?_
          rintro _ σq ⟨_, ⟨rfl, rfl⟩, H2, m2⟩
          exact ⟨_, (b60, c61), rfl, rfl, ⟨H2.sel' [0, 1, 2] rfl rfl, m.comp0 (m2.mono (fun i h => by simp [cov, Ch.ro] at h))⟩, stab [0, 1, 3, 4, 5, 6] (by kernel_rfl) ⟨rfl, rfl, rfl, rfl, rfl, rfl, trivial⟩⟩
         trivial) ?_
       refine ac rfl (by
         intro k; rintro ⟨b60, c61⟩ ρ σm hJ hoff hdep
         have e3 := look_off (N := 66) (hoff 3 rfl) rfl
         exact dp_v (v := (Sl a5 r2.1 c6)) wn (rv_move e3) rfl hJ) ?_
       refine ac rfl (by
         intro k; rintro ⟨b60, c61⟩ ρ σm hJ hoff hdep
         have e61 := hdep 3 rfl rfl 61 rfl
         exact dp_v (v := (I (r2.1.length : Int))) wn (rv_len Try.underlying27 e61) rfl hJ) ?_
       refine ac rfl (by
         intro k; rintro ⟨b60, c61⟩ ρ σm hJ hoff hdep
         have e62 := hdep 4 rfl rfl 62 rfl
         exact dp_v (v := (I q66)) wn (rvk_shlG (k := .i64) (k' := .i64) (a := 1) (b := (r2.1.length : Int)) hx67 rfl e62) rfl hJ) ?_
       refine ac rfl (by
         intro k; rintro ⟨b60, c61⟩ ρ σm hJ hoff hdep
         have e63 := hdep 5 rfl rfl 63 rfl
         exact dp_v (v := (I (w64 (q66 - 1)))) wn (rv_sub (a := q66) (b := 1) e63 rfl) rfl hJ) ?_
       exact all_nil
      ·rintro ⟨b60, c61⟩ ρ σ68 hJ hoff hrel
       have e60 := hrel 2 rfl 60 rfl
       have e64 := hrel 6 rfl 64 rfl
       obtain ⟨H, -⟩ := (show Hp S0 σ0 σ68 [Ch.ro 0 (Sl (some ⟨b60, 0, none⟩) xs58 c61) xs58, Ch.ro 0 (Sl a5 r2.1 c6) r2.1, Ch.ro n0 (Sl a5 r2.1 c6) r2.1] ∧ Md (fun i => (cov []) i ∨ (fun i => (cov []) i ∨ (fun b => blk (Sl (some ⟨b60, 0, none⟩) xs58 c61) = some b) i) i) σ56 σ68 from hJ)
       clear hJ Hs
       rw [fr_lookL (L := [(60, (I r63)), (64, (I (w64 (q66 - 1))))]) ⟨e60, e64, trivial⟩]
       clear hoff hrel e60 e64
       refine st (v := (B (r63 == (w64 (q66 - 1))))) (rv_eql (a := r63) (b := (w64 (q66 - 1))) rfl rfl) ?_
       refine st (v := (B (r63 == (w64 (q66 - 1))))) (rv_assign rfl) ?_
       refine w_end ?_
       refine q_then ?_
       refine c_ret ?_
       obtain rfl := Option.some.inj h
       exact fin_ret (v := (B (r63 == (w64 (q66 - 1))))) (results_ok Try.results8 (res_tmp (v := (B (r63 == (w64 (q66 - 1))))) rfl res_nil) rfl) ⟨rfl, rfl⟩ (H.sel' [] rfl rfl)
     ·replace h := selim_r h
      refine q_then_r ?_
      obtain rfl := Option.some.inj h
      exact fin_ret (v := (B t69)) (results_ok Try.results8 (res_tmp (v := (B t69)) rfl res_nil) rfl) ⟨rfl, rfl⟩ (H.sel' [] rfl rfl)

end Go.Vs
