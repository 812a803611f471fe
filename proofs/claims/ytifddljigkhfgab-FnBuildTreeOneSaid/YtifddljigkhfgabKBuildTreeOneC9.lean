/- The functions compute what their models say. -/
import Derived.Test.YtifddljigkhfgabKBuildTreeOneC8
set_option linter.unusedVariables false
set_option linter.unusedSimpArgs false
set_option maxRecDepth 20000
namespace Go.Vs
open Go Go.Proofs
attribute [local irreducible] Code.wp Code.wpIn wpList wpListIn wpQuiet Calls CallsIn

theorem wn {d : Option Nat} {op : Op} {ty : TypeId} {pos : String} {af : Array Edge} {y} : Region.wanted ⟨d, op, ty, pos, af, none⟩ y = true := wanted_none _ rfl _

theorem c_laws_FnBuildTreeOne {code_0 : List UInt8} {acode_0 : Option Addr} {ccode_0 : Nat} {r : Bool} (h : M.laws_FnBuildTreeOne code_0 = some r) :
    Cal2 Try.prog 4 [(Sl acode_0 code_0 ccode_0)] [Ch.ro 0 (Sl acode_0 code_0 ccode_0) code_0] (fun n0 v L => v = (B r) ∧ L = []) := by
 refine cal2 (n := 92) Try.func4 rfl rfl rfl rfl ?_
 intro S0 σ0 n0 hn0 H
 unfold M.laws_FnBuildTreeOne at h
 refine c_seq ?_
 refine rg ?_
 refine st (v := (B false)) (rv_assign rfl) ?_
 refine w_end ?_
 refine q_then ?_
 refine c_seq ?_
 refine c_seq ?_
 refine rg ?_
 refine st (v := (Sl acode_0 code_0 ccode_0)) (rv_move rfl) ?_
 refine st (v := (I (code_0.length : Int))) (rv_len Try.underlying22 rfl) ?_
 refine st (v := (B (decide (1048576 < (code_0.length : Int))))) (rv_gtr (a := (code_0.length : Int)) (b := 1048576) rfl rfl) ?_
 refine w_end ?_
 refine q_then ?_
 refine cd_cond (decide (1048576 < (code_0.length : Int))) rfl (fun hb1 => ?_) (fun hb1 => ?_)
 ·replace h := bif_t hb1 h
  refine c_seq ?_
  refine rg ?_
  refine st (v := (B true)) (rv_assign rfl) ?_
  refine w_end ?_
  refine q_then ?_
  refine c_ret ?_
  refine q_then_r ?_
  obtain rfl := Option.some.inj h
  exact fin_ret (v := (B true)) (results_ok Try.results4 (res_tmp (v := (B true)) rfl res_nil) rfl) ⟨rfl, rfl⟩ (H.sel' [] rfl rfl)
 ·replace h := bif_f hb1 h
  refine c_skip ?_
  refine q_then ?_
  refine c_seq ?_
  refine rg ?_
  refine st (v := (Sl acode_0 code_0 ccode_0)) (rv_move rfl) ?_
  obtain ⟨r2, hx3, h'⟩ := bind_some h
  clear h
  have h := h'; clear h'
  have hc4 := c_spec_DrawBuildTree (acode_0 := acode_0) (ccode_0 := ccode_0) hx3
  refine st_call (cx_call hc4 (ent_f hc4.fn rfl) hn0 (H.sel' [0, 0] rfl rfl : Hp S0 σ0 _ ([_] ++ _))) wn ?_
  rintro _ σ7 ⟨_, ⟨a5, c6, rfl, rfl⟩, H, -⟩
  replace H : Hp S0 σ0 σ7 [Ch.own n0 n0 (Sl a5 r2.1 c6) r2.1, Ch.ro 0 (Sl acode_0 code_0 ccode_0) code_0] := H
  refine st (v := (.tuple #[(Sl a5 r2.1 c6), (I r2.2)])) (rv_move rfl) ?_
  refine st (v := (Sl a5 r2.1 c6)) (rv_extract rfl rfl) ?_
  refine st (v := (I r2.2)) (rv_extract rfl rfl) ?_
  refine st (v := (Sl a5 r2.1 c6)) (rv_assign rfl) ?_
  refine st (v := (I r2.2)) (rv_assign rfl) ?_
  refine w_end ?_
  refine q_then ?_
  refine c_seq ?_
  refine rg ?_
  refine st (v := (Sl a5 r2.1 c6)) (rv_move rfl) ?_
  refine st (v := (I r2.2)) (rv_move rfl) ?_
  obtain ⟨r8, hx9, h'⟩ := bind_some h
  clear h
  have h := h'; clear h'
  have hc10 := c_impl_BuildTree (alist_0 := a5) (clist_0 := c6) hx9
  have hle := Nat.le_trans hn0 H.size
  refine st_call (cx_lend (Loan.lend Loan.nil) hc10 (ent_f hc10.fn rfl) (show Hp S0 σ0 _ ([Ch.own n0 n0 (Sl a5 r2.1 c6) r2.1] ++ ([] ++ [Ch.ro 0 (Sl acode_0 code_0 ccode_0) code_0])) from (H.sel' [0, 1] rfl rfl)) (by rintro _ _ _ ⟨_, _, rfl, rfl⟩; exact ⟨Ab.ownSc, trivial⟩)) wn ?_
  rintro _ σ13 ⟨_, ⟨a11, c12, rfl, rfl⟩, H, -, -⟩
  replace H : Hp S0 σ0 σ13 [Ch.own 0 σ7.size (Sl a11 r8 c12) r8, Ch.own n0 n0 (Sl a5 r2.1 c6) r2.1, Ch.ro 0 (Sl acode_0 code_0 ccode_0) code_0] := H
  replace H := H.ownLow 0 0 n0 rfl (Nat.le_refl _) hle
  clear hle
  replace H : Hp S0 σ0 σ13 [Ch.own 0 n0 (Sl a11 r8 c12) r8, Ch.own n0 n0 (Sl a5 r2.1 c6) r2.1, Ch.ro 0 (Sl acode_0 code_0 ccode_0) code_0] := H
  refine st (v := (Sl a11 r8 c12)) (rv_assign rfl) ?_
  refine w_end ?_
  refine q_then ?_
  refine c_seq ?_
  refine c_seq ?_
  obtain ⟨o14, hj, h'⟩ := bind_some h
  clear h
  refine c_cut (fun e a w => e = .normal ∧ ∃ (ρ : Nat → Value) (σ : St), a = fr 92 (updL ρ [(3, (Sl a5 r2.1 c6)), (4, (I r2.2)), (5, (Sl a11 r8 c12)), (34, (B o14))]) ∧ w = σ.w ∧ Hp S0 σ0 σ [Ch.own n0 n0 (Sl a5 r2.1 c6) r2.1, Ch.own 0 n0 (Sl a11 r8 c12) r8]) ?_ ?_
  ·clear h'
   rename _ = some o14 => h
   refine rg ?_
   refine st (v := (Sl a11 r8 c12)) (rv_move rfl) ?_
   refine st (v := (Sl a5 r2.1 c6)) (rv_move rfl) ?_
   refine st (v := (I r2.2)) (rv_move rfl) ?_
   obtain ⟨r15, hx16, h'⟩ := bind_some h
   clear h
   have h := h'; clear h'
   have hc17 := c_spec_BuildTree (alist_0 := a5) (clist_0 := c6) hx16
   have hle := Nat.le_trans hn0 H.size
   refine st_call (cx_lend (Loan.lend Loan.nil) hc17 (ent_f hc17.fn rfl) (show Hp S0 σ0 _ ([Ch.own n0 n0 (Sl a5 r2.1 c6) r2.1] ++ ([] ++ [Ch.own 0 n0 (Sl a11 r8 c12) r8, Ch.ro 0 (Sl acode_0 code_0 ccode_0) code_0])) from (H.sel' [1, 0, 2] rfl rfl)) (by rintro _ _ _ ⟨_, _, rfl, rfl⟩; exact ⟨Ab.ownSc, trivial⟩)) wn ?_
   rintro _ σ20 ⟨_, ⟨a18, c19, rfl, rfl⟩, H, -, -⟩
   replace H : Hp S0 σ0 σ20 [Ch.own 0 σ13.size (Sl a18 r15 c19) r15, Ch.own n0 n0 (Sl a5 r2.1 c6) r2.1, Ch.own 0 n0 (Sl a11 r8 c12) r8, Ch.ro 0 (Sl acode_0 code_0 ccode_0) code_0] := H
   replace H := H.ownLow 0 0 n0 rfl (Nat.le_refl _) hle
   clear hle
   replace H : Hp S0 σ0 σ20 [Ch.own 0 n0 (Sl a18 r15 c19) r15, Ch.own n0 n0 (Sl a5 r2.1 c6) r2.1, Ch.own 0 n0 (Sl a11 r8 c12) r8, Ch.ro 0 (Sl acode_0 code_0 ccode_0) code_0] := H
   replace H := H.ownLow 0 0 0 rfl (Nat.le_refl _) (Nat.zero_le _)
   obtain ⟨σ21, hw22, H, -⟩ := H.pub 0 rfl (Nat.le_refl _)
   rw [← hw22]; clear hw22
   obtain ⟨r23, hx24, h'⟩ := bind_some h
   clear h
   have h := h'; clear h'
   have hc25 := c_laws_equalNodes (aa_0 := a11) (ca_0 := c12) (ab_1 := a18) (cb_1 := c19) hx24
   have hle := Nat.le_trans hn0 H.size
   refine st_call (cx_lend (Loan.lend (Loan.same Loan.nil)) hc25 (ent_f hc25.fn rfl) (show Hp S0 σ0 _ ([Ch.own 0 n0 (Sl a11 r8 c12) r8] ++ ([Ch.ro 0 (Sl a18 r15 c19) r15] ++ [Ch.ro 0 (Sl a18 r15 c19) r15, Ch.own n0 n0 (Sl a5 r2.1 c6) r2.1, Ch.ro 0 (Sl acode_0 code_0 ccode_0) code_0])) from (H.sel' [2, 0, 0, 1, 3] rfl rfl)) (by rintro _ _ _ ⟨rfl, rfl⟩; exact trivial)) wn ?_
   rintro _ σ26 ⟨_, ⟨rfl, rfl⟩, H, -, -⟩
   replace H : Hp S0 σ0 σ26 [Ch.own 0 n0 (Sl a11 r8 c12) r8, Ch.ro 0 (Sl a18 r15 c19) r15, Ch.own n0 n0 (Sl a5 r2.1 c6) r2.1, Ch.ro 0 (Sl acode_0 code_0 ccode_0) code_0] := H
   clear hle
   replace H : Hp S0 σ0 σ26 [Ch.own 0 n0 (Sl a11 r8 c12) r8, Ch.ro 0 (Sl a18 r15 c19) r15, Ch.own n0 n0 (Sl a5 r2.1 c6) r2.1, Ch.ro 0 (Sl acode_0 code_0 ccode_0) code_0] := H
   refine st (v := (B (!r23))) (rv_not rfl) ?_
   refine st (v := (B (!r23))) (rv_move rfl) ?_
   rcases Bool.eq_false_or_eq_true (!r23) with hb27 | hb27
   ·replace h := bif_t hb27 h
    refine st_skip (congrArg some hb27) ?_
    refine st_skip (congrArg some hb27) ?_
    refine st_skip (congrArg some hb27) ?_
    refine st (v := (B true)) (rv_pick_t (congrArg B hb27) rfl) ?_
    refine st (v := (B true)) (rv_move rfl) ?_
    refine st_skip rfl ?_
    refine st_skip rfl ?_
    refine st_skip rfl ?_
    refine st (v := (B true)) (rv_pick_t rfl rfl) ?_
    refine w_end ?_
    obtain rfl := Option.some.inj h
    exact ⟨rfl, _, σ26, fr_join ⟨rfl, rfl, rfl, rfl, trivial⟩, rfl, H.sel' [2, 0] rfl rfl⟩
   ·replace h := bif_f hb27 h
    refine st_g (v := (Sl a5 r2.1 c6)) (congrArg some hb27) (rv_move rfl) ?_
    refine st_g (v := (I (r2.1.length : Int))) (congrArg some hb27) (rv_len Try.underlying23 rfl) ?_
    refine st_g (v := (B (decide ((r2.1.length : Int) < 2)))) (congrArg some hb27) (rv_lss (a := (r2.1.length : Int)) (b := 2) rfl rfl) ?_
    refine st (v := (B (decide ((r2.1.length : Int) < 2)))) (rv_pick_f (congrArg B hb27) rfl) ?_
    refine st (v := (B (decide ((r2.1.length : Int) < 2)))) (rv_move rfl) ?_
    rcases Bool.eq_false_or_eq_true (decide ((r2.1.length : Int) < 2)) with hb28 | hb28
    ·replace h := bif_t hb28 h
     refine st_skip (congrArg some hb28) ?_
     refine st_skip (congrArg some hb28) ?_
     refine st_skip (congrArg some hb28) ?_
     refine st (v := (B true)) (rv_pick_t (congrArg B hb28) rfl) ?_
     refine w_end ?_
     obtain rfl := Option.some.inj h
     exact ⟨rfl, _, σ26, fr_join ⟨rfl, rfl, rfl, rfl, trivial⟩, rfl, H.sel' [2, 0] rfl rfl⟩
    ·replace h := bif_f hb28 h
     refine st_g (v := (Sl a11 r8 c12)) (congrArg some hb28) (rv_move rfl) ?_
     refine st_g (v := (I (r8.length : Int))) (congrArg some hb28) (rv_len Try.underlying33 rfl) ?_
     refine st_g (v := (B ((r8.length : Int) == 0))) (congrArg some hb28) (rv_eql (a := (r8.length : Int)) (b := 0) rfl rfl) ?_
     refine st (v := (B ((r8.length : Int) == 0))) (rv_pick_f (congrArg B hb28) rfl) ?_
     refine w_end ?_
     obtain rfl := Option.some.inj h
     exact ⟨rfl, _, σ26, fr_join ⟨rfl, rfl, rfl, rfl, trivial⟩, rfl, H.sel' [2, 0] rfl rfl⟩
  ·clear hj
   have h := h'
   clear h' H
   rintro e a w ⟨rfl, ρ, σ29, rfl, rfl, H⟩
   refine q_then ?_
   refine cd_cond o14 rfl (fun hb30 => ?_) (fun hb30 => ?_)
   ·replace h := bif_t hb30 h
    refine c_seq ?_
    refine rg ?_
    refine st (v := (Sl a11 r8 c12)) (rv_move rfl) ?_
    refine st (v := (Sl a5 r2.1 c6)) (rv_move rfl) ?_
    refine st (v := (I r2.2)) (rv_move rfl) ?_
    obtain ⟨σ31, hw32, H, -⟩ := H.pub 0 rfl (Nat.le_refl _)
    rw [← hw32]; clear hw32
    replace H := H.roLow 0 0 rfl (Nat.zero_le _)
    obtain ⟨r33, hx34, h'⟩ := bind_some h
    clear h
    have h := h'; clear h'
    have hc35 := c_spec_BuildTree (alist_0 := a5) (clist_0 := c6) hx34
    refine st_call (cx_call hc35 (ent_f hc35.fn rfl) hn0 (H.sel' [0, 0, 1, 2] rfl rfl : Hp S0 σ0 _ ([_] ++ _))) wn ?_
    rintro _ σ38 ⟨_, ⟨a36, c37, rfl, rfl⟩, H, -⟩
    replace H : Hp S0 σ0 σ38 [Ch.own 0 n0 (Sl a36 r33 c37) r33, Ch.ro 0 (Sl a5 r2.1 c6) r2.1, Ch.ro n0 (Sl a5 r2.1 c6) r2.1, Ch.own 0 n0 (Sl a11 r8 c12) r8] := H
    replace H := H.ownLow 3 0 0 rfl (Nat.le_refl _) (Nat.zero_le _)
    obtain ⟨σ39, hw40, H, -⟩ := H.pub 0 rfl (Nat.le_refl _)
    rw [← hw40]; clear hw40
    replace H := H.ownLow 1 0 0 rfl (Nat.le_refl _) (Nat.zero_le _)
    obtain ⟨σ41, hw42, H, -⟩ := H.pub 0 rfl (Nat.le_refl _)
    rw [← hw42]; clear hw42
    obtain ⟨r43, hx44, h'⟩ := bind_some h
    clear h
    have h := h'; clear h'
    have hc45 := c_laws_equalNodes (aa_0 := a11) (ca_0 := c12) (ab_1 := a36) (cb_1 := c37) hx44
    refine st_call (cx_call hc45 (ent_f hc45.fn rfl) hn0 (H.sel' [1, 0, 0, 1, 2, 3] rfl rfl : Hp S0 σ0 _ ([_, _] ++ _))) wn ?_
    rintro _ σ46 ⟨_, ⟨rfl, rfl⟩, H, -⟩
    replace H : Hp S0 σ0 σ46 [Ch.ro 0 (Sl a36 r33 c37) r33, Ch.ro 0 (Sl a11 r8 c12) r8, Ch.ro 0 (Sl a5 r2.1 c6) r2.1, Ch.ro n0 (Sl a5 r2.1 c6) r2.1] := H
    refine st (v := (B r43)) (rv_assign rfl) ?_
    refine w_end ?_
    refine q_then ?_
    refine c_ret ?_
    refine q_then_r ?_
    obtain rfl := Option.some.inj h
    exact fin_ret (v := (B r43)) (results_ok Try.results4 (res_tmp (v := (B r43)) rfl res_nil) rfl) ⟨rfl, rfl⟩ (H.sel' [] rfl rfl)
   ·replace h := bif_f hb30 h
    refine c_skip ?_
    refine q_then ?_
    refine c_seq ?_
    refine rg ?_
    refine st (v := (Sl a5 r2.1 c6)) (rv_move rfl) ?_
    obtain ⟨xs47, hx48, h'⟩ := bind_some h
    clear h
    have h := h'; clear h'
    obtain ⟨σ53, hw54, H, -⟩ := H.pub 0 rfl (Nat.le_refl _)
    rw [← hw54]; clear hw54
    obtain ⟨a49, c50, hs51, hR52⟩ := (H.ro 0 rfl).slice hx48
    replace H := H.add (d := Ch.ro n0 (Sl a49 xs47 c50) xs47) hR52 (fun _ h => h)
    clear hR52
    refine st (v := (Sl a49 xs47 c50)) (rv_slice_h Try.underlying23 ti37 hs51 rfl rfl) ?_
    refine st (v := (I r2.2)) (rv_move rfl) ?_
    replace H := H.roLow 0 0 rfl (Nat.zero_le _)
    obtain ⟨r55, hx56, h'⟩ := bind_some h
    clear h
    have h := h'; clear h'
    have hc57 := c_impl_BuildTree (alist_0 := a49) (clist_0 := c50) hx56
    refine st_call (cx_call hc57 (ent_f hc57.fn rfl) hn0 (H.sel' [0, 0, 1, 2, 3] rfl rfl : Hp S0 σ0 _ ([_] ++ _))) wn ?_
    rintro _ σ60 ⟨_, ⟨a58, c59, rfl, rfl⟩, H, -⟩
    replace H : Hp S0 σ0 σ60 [Ch.own 0 n0 (Sl a58 r55 c59) r55, Ch.ro 0 (Sl a49 xs47 c50) xs47, Ch.ro n0 (Sl a49 xs47 c50) xs47, Ch.ro n0 (Sl a5 r2.1 c6) r2.1, Ch.own 0 n0 (Sl a11 r8 c12) r8] := H
    refine st (v := (Sl a58 r55 c59)) (rv_assign rfl) ?_
    refine w_end ?_
    refine q_then ?_
    refine c_seq ?_
    refine rg ?_
    refine st (v := (Sl a5 r2.1 c6)) (rv_move rfl) ?_
    obtain ⟨xs61, hx62, h'⟩ := bind_some h
    clear h
    have h := h'; clear h'
    obtain ⟨a63, c64, hs65, hR66⟩ := (H.ro 3 rfl).slice hx62
    replace H := H.add (d := Ch.ro n0 (Sl a63 xs61 c64) xs61) hR66 (fun _ h => h)
    clear hR66
    refine st (v := (Sl a63 xs61 c64)) (rv_slice_h Try.underlying23 ti37 hs65 rfl rfl) ?_
    refine st (v := (I r2.2)) (rv_move rfl) ?_
    replace H := H.roLow 0 0 rfl (Nat.zero_le _)
    obtain ⟨r67, hx68, h'⟩ := bind_some h
    clear h
    have h := h'; clear h'
    have hc69 := c_impl_BuildTree (alist_0 := a63) (clist_0 := c64) hx68
    refine st_call (cx_call hc69 (ent_f hc69.fn rfl) hn0 (H.sel' [0, 0, 1, 2, 3, 4, 5, 6] rfl rfl : Hp S0 σ0 _ ([_] ++ _))) wn ?_
    rintro _ σ72 ⟨_, ⟨a70, c71, rfl, rfl⟩, H, -⟩
    replace H : Hp S0 σ0 σ72 [Ch.own 0 n0 (Sl a70 r67 c71) r67, Ch.ro 0 (Sl a63 xs61 c64) xs61, Ch.ro n0 (Sl a63 xs61 c64) xs61, Ch.own 0 n0 (Sl a58 r55 c59) r55, Ch.ro 0 (Sl a49 xs47 c50) xs47, Ch.ro n0 (Sl a49 xs47 c50) xs47, Ch.ro n0 (Sl a5 r2.1 c6) r2.1, Ch.own 0 n0 (Sl a11 r8 c12) r8] := H
    replace H : Hp S0 σ0 σ72 [Ch.own 0 n0 (Sl a70 r67 c71) r67, Ch.own 0 n0 (Sl a58 r55 c59) r55, Ch.ro n0 (Sl a5 r2.1 c6) r2.1] := H.sel' [0, 3, 6] rfl rfl
    refine st (v := (Sl a70 r67 c71)) (rv_assign rfl) ?_
    refine w_end ?_
    refine q_then ?_
    refine c_seq ?_
    replace H := H.ownLow 1 0 0 rfl (Nat.le_refl _) (Nat.zero_le _)
    obtain ⟨σ73, hw74, H, -⟩ := H.pub 0 rfl (Nat.le_refl _)
    rw [← hw74]; clear hw74
    obtain ⟨x75, hx76, h'⟩ := bind_some h
    clear h
    have h := h'; clear h'
    obtain ⟨b78, o79, hi77, -⟩ := (H.ro 2 rfl).ix hx76
    have hc80 := ((H.ro 2 rfl).at hx76 hi77).fst.int
    obtain ⟨r82, hx83, h'⟩ := bind_some h
    clear h
    have h := h'; clear h'
    have hc84 := fun (b81 : Nat) => c_laws_equalNodes (aa_0 := a58) (ca_0 := c59) (ab_1 := (some ⟨b81, 0, none⟩)) (cb_1 := 1) hx83
    rcases Bool.eq_false_or_eq_true r82 with hb85 | hb85
    ·replace h := bif_t hb85 h
     rcases Bool.eq_false_or_eq_true ((r67.length : Int) == 2) with hb86 | hb86
     ·replace h := bif_t hb86 h
      obtain ⟨x87, hx88, h'⟩ := bind_some h
      clear h
      have h := h'; clear h'
      obtain ⟨b90, o91, hi89, -⟩ := (H.own 1 rfl).ix hx88
      have hc92 := ((H.own 1 rfl).at hx88 hi89).snd.snd.fst.int
      rcases Bool.eq_false_or_eq_true (x87.2.2.1 == 1) with hb93 | hb93
      ·replace h := bif_t hb93 h
       obtain ⟨x94, hx95, h'⟩ := bind_some h
       clear h
       have h := h'; clear h'
       obtain ⟨b97, o98, hi96, -⟩ := (H.own 1 rfl).ix hx95
       have hc99 := ((H.own 1 rfl).at hx95 hi96).snd.snd.snd.int
       rcases Bool.eq_false_or_eq_true (x94.2.2.2 == (-1)) with hb100 | hb100
       ·replace h := bif_t hb100 h
        obtain ⟨x101, hx102, h'⟩ := bind_some h
        clear h
        have h := h'; clear h'
        obtain ⟨b104, o105, hi103, -⟩ := (H.own 1 rfl).ix hx102
        have hc106 := ((H.own 1 rfl).at hx102 hi103).snd.fst.int
        obtain ⟨x107, hx108, h'⟩ := bind_some h
        clear h
        have h := h'; clear h'
        obtain ⟨b110, o111, hi109, -⟩ := (H.ro 2 rfl).ix hx108
        obtain ⟨v115, hc116, hR114⟩ := ((H.ro 2 rfl).at hx108 hi109).snd.fst.slice
        obtain ⟨a112, c113, rfl⟩ := hR114.isSl
        replace H := H.add (d := Ch.ro n0 (Sl a112 x107.2.1 c113) x107.2.1) hR114 (fun _ h => h)
        clear hR114
        obtain ⟨x117, hx118, h'⟩ := bind_some h
        clear h
        have h := h'; clear h'
        obtain ⟨b120, o121, hi119, -⟩ := (H.ro 3 rfl).ix hx118
        obtain ⟨v125, hc126, hR124⟩ := ((H.ro 3 rfl).at hx118 hi119).snd.fst.slice
        obtain ⟨a122, c123, rfl⟩ := hR124.isSl
        replace H := H.add (d := Ch.ro n0 (Sl a122 x117.2.1 c123) x117.2.1) hR124 (fun _ h => h)
        clear hR124
        replace H := H.roLow 1 0 rfl (Nat.zero_le _)
        replace H := H.roLow 1 0 rfl (Nat.zero_le _)
        obtain ⟨r127, hx128, h'⟩ := bind_some h
        clear h
        have h := h'; clear h'
        have hc129 := c_impl_Distance (aa_1 := a112) (ca_1 := c113) (ab_2 := a122) (cb_2 := c123) hx128
        have Hs := H
        refine rg2 (σ := σ73) (Nm := (Nat)) 42 [6, 7, 41] [[false, false, false], [true, false, false], [true, true, false], [true, true, true]] [[(0, 0), (1, 1)], [(0, 0)], [(0, 0)], [(0, 0)], [(0, 0)], [(0, 0)], [(0, 1)], [(1, 2)], [(2, 2)], [(2, 2)], [(2, 2)], [(2, 2)], [(2, 2)], [(2, 2)], [(2, 2)], [(2, 2)], [(2, 2)], [(2, 2)], [(2, 2)], [(2, 2)], [(2, 2)], [(2, 2)], [(2, 2)], [(2, 2)], [(2, 2)], [(2, 2)], [(2, 2)], [(2, 2)], [(2, 2), (3, 3)], [(2, 2), (3, 3)], [(2, 2), (3, 3)], [(2, 2), (3, 3)], [(2, 2)], [(2, 2)], [(2, 2)], [(2, 2)], [(2, 2)], [(2, 2)], [(2, 2)], [(2, 2)], [(2, 2)], [(2, 3)]] 3 [fun (b81 : (Nat)) => fun σm => Hp S0 σ0 σm [Ch.ro 0 (Sl a122 x117.2.1 c123) x117.2.1, Ch.ro 0 (Sl a112 x107.2.1 c113) x107.2.1, Ch.ro n0 (Sl a122 x117.2.1 c123) x117.2.1, Ch.ro n0 (Sl a112 x107.2.1 c113) x107.2.1, Ch.ro 0 (Sl a58 r55 c59) r55, Ch.own 0 n0 (Sl a70 r67 c71) r67, Ch.ro n0 (Sl a5 r2.1 c6) r2.1] ∧ Md (cov []) σ73 σm, fun (b81 : (Nat)) => fun σm => Hp S0 σ0 σm [Ch.ro 0 (Sl (some ⟨b81, 0, none⟩) ([(x75.1, 0, -1, -1)] : List (Int × Int × Int × Int)) 1) ([(x75.1, 0, -1, -1)] : List (Int × Int × Int × Int)), Ch.ro 0 (Sl a122 x117.2.1 c123) x117.2.1, Ch.ro 0 (Sl a112 x107.2.1 c113) x107.2.1, Ch.ro n0 (Sl a122 x117.2.1 c123) x117.2.1, Ch.ro n0 (Sl a112 x107.2.1 c113) x107.2.1, Ch.ro 0 (Sl a58 r55 c59) r55, Ch.own 0 n0 (Sl a70 r67 c71) r67, Ch.ro n0 (Sl a5 r2.1 c6) r2.1] ∧ Md (fun i => (cov []) i ∨ (fun i => (cov []) i ∨ (fun b => blk (Sl (some ⟨b81, 0, none⟩) ([(x75.1, 0, -1, -1)] : List (Int × Int × Int × Int)) 1) = some b) i) i) σ73 σm, fun (b81 : (Nat)) => fun σm => Hp S0 σ0 σm [Ch.ro 0 (Sl (some ⟨b81, 0, none⟩) ([(x75.1, 0, -1, -1)] : List (Int × Int × Int × Int)) 1) ([(x75.1, 0, -1, -1)] : List (Int × Int × Int × Int)), Ch.ro 0 (Sl a122 x117.2.1 c123) x117.2.1, Ch.ro 0 (Sl a112 x107.2.1 c113) x107.2.1, Ch.ro n0 (Sl a122 x117.2.1 c123) x117.2.1, Ch.ro n0 (Sl a112 x107.2.1 c113) x107.2.1, Ch.ro 0 (Sl a58 r55 c59) r55, Ch.own 0 n0 (Sl a70 r67 c71) r67, Ch.ro n0 (Sl a5 r2.1 c6) r2.1] ∧ Md (fun i => (cov []) i ∨ (fun i => (cov []) i ∨ (fun b => blk (Sl (some ⟨b81, 0, none⟩) ([(x75.1, 0, -1, -1)] : List (Int × Int × Int × Int)) 1) = some b) i) i) σ73 σm, fun (b81 : (Nat)) => fun σm => Hp S0 σ0 σm [Ch.ro 0 (Sl (some ⟨b81, 0, none⟩) ([(x75.1, 0, -1, -1)] : List (Int × Int × Int × Int)) 1) ([(x75.1, 0, -1, -1)] : List (Int × Int × Int × Int)), Ch.ro 0 (Sl a122 x117.2.1 c123) x117.2.1, Ch.ro 0 (Sl a112 x107.2.1 c113) x107.2.1, Ch.ro n0 (Sl a122 x117.2.1 c123) x117.2.1, Ch.ro n0 (Sl a112 x107.2.1 c113) x107.2.1, Ch.ro 0 (Sl a58 r55 c59) r55, Ch.own 0 n0 (Sl a70 r67 c71) r67, Ch.ro n0 (Sl a5 r2.1 c6) r2.1] ∧ Md (fun i => (cov []) i ∨ (fun i => (cov []) i ∨ (fun b => blk (Sl (some ⟨b81, 0, none⟩) ([(x75.1, 0, -1, -1)] : List (Int × Int × Int × Int)) 1) = some b) i) i) σ73 σm] [fun (b81 : (Nat)) => (Sl a58 r55 c59), fun (b81 : (Nat)) => (Sl a5 r2.1 c6), fun (b81 : (Nat)) => (pt b78 o79), fun (b81 : (Nat)) => (pt b78 (o79 + 0)), fun (b81 : (Nat)) => (I x75.1), fun (b81 : (Nat)) => (.agg #[(I x75.1), (I 0), (I (-1)), (I (-1))]), fun (b81 : (Nat)) => (Sl (some ⟨b81, 0, none⟩) ([(x75.1, 0, -1, -1)] : List (Int × Int × Int × Int)) 1), fun (b81 : (Nat)) => (B r82), fun (b81 : (Nat)) => (B r82), fun (b81 : (Nat)) => (Sl a70 r67 c71), fun (b81 : (Nat)) => (I (r67.length : Int)), fun (b81 : (Nat)) => (B ((r67.length : Int) == 2)), fun (b81 : (Nat)) => (B ((r67.length : Int) == 2)), fun (b81 : (Nat)) => (B ((r67.length : Int) == 2)), fun (b81 : (Nat)) => (Sl a70 r67 c71), fun (b81 : (Nat)) => (pt b90 o91), fun (b81 : (Nat)) => (pt b90 (o91 + 2)), fun (b81 : (Nat)) => (I x87.2.2.1), fun (b81 : (Nat)) => (B (x87.2.2.1 == 1)), fun (b81 : (Nat)) => (B (x87.2.2.1 == 1)), fun (b81 : (Nat)) => (B (x87.2.2.1 == 1)), fun (b81 : (Nat)) => (Sl a70 r67 c71), fun (b81 : (Nat)) => (pt b97 o98), fun (b81 : (Nat)) => (pt b97 (o98 + 3)), fun (b81 : (Nat)) => (I x94.2.2.2), fun (b81 : (Nat)) => (B (x94.2.2.2 == (-1))), fun (b81 : (Nat)) => (B (x94.2.2.2 == (-1))), fun (b81 : (Nat)) => (B (x94.2.2.2 == (-1))), fun (b81 : (Nat)) => (Sl a70 r67 c71), fun (b81 : (Nat)) => (pt b104 o105), fun (b81 : (Nat)) => (pt b104 (o105 + 1)), fun (b81 : (Nat)) => (I x101.2.1), fun (b81 : (Nat)) => (I r2.2), fun (b81 : (Nat)) => (Sl a5 r2.1 c6), fun (b81 : (Nat)) => (pt b110 o111), fun (b81 : (Nat)) => (pt b110 (o111 + 1)), fun (b81 : (Nat)) => (Sl a112 x107.2.1 c113), fun (b81 : (Nat)) => (Sl a5 r2.1 c6), fun (b81 : (Nat)) => (pt b120 o121), fun (b81 : (Nat)) => (pt b120 (o121 + 1)), fun (b81 : (Nat)) => (Sl a122 x117.2.1 c123), fun (b81 : (Nat)) => (I r127)] (0) (by kernel_rfl) (by kernel_rfl) ?_ ?_ ?_
        ·intro σm m0
         exact ⟨H.grow (m0.mono fun _ h => h.elim), m0⟩
        ·refine all_cons (obs_v rfl (by
           intro k; intro b81 ρ σm hJ hoff hdep
           have e6 : look 92 ρ 6 = (Sl a58 r55 c59) := look_off (hoff 6 rfl) rfl
           exact dp_v (v := (Sl a58 r55 c59)) wn (rv_move e6) rfl hJ)) ?_
         refine all_cons (obs_v rfl (by
           intro k; intro b81 ρ σm hJ hoff hdep
           have e3 : look 92 ρ 3 = (Sl a5 r2.1 c6) := look_off (hoff 3 rfl) rfl
           exact dp_v (v := (Sl a5 r2.1 c6)) wn (rv_move e3) rfl hJ)) ?_
         refine all_cons (obs_v rfl (by
           intro k; intro b81 ρ σm hJ hoff hdep
           have e49 : look 92 ρ 49 = (Sl a5 r2.1 c6) := hdep 1 rfl rfl 49 rfl
           exact dp_v (v := (pt b78 o79)) wn (rv_ix Try.underlying23 ti37 e49 rfl hi77) rfl hJ)) ?_
         refine all_cons (obs_v rfl (by
           intro k; intro b81 ρ σm hJ hoff hdep
           have e50 : look 92 ρ 50 = (pt b78 o79) := hdep 2 rfl rfl 50 rfl
           exact dp_v (v := (pt b78 (o79 + 0))) wn (rv_fieldAddr (off := 0) (ft := 3) Try.underlying37 rfl ti3 rfl e50) rfl hJ)) ?_
         refine all_cons (by
           refine ⟨?_, ?_⟩
           ·intro b81 ρ σm hJ hoff hdep
            have e51 : look 92 ρ 51 = (pt b78 (o79 + 0)) := hdep 3 rfl rfl 51 rfl
            obtain ⟨H, m⟩ := id hJ
            replace hc80 := (Hs.ro 6 rfl).hmd hx76 hi77 (k := 0) (by decide) hc80 m
            exact dp_v (v := (I x75.1)) wn (rv_load1 Try.underlying3 rfl e51 hc80) rfl hJ
           trivial) ?_
         refine all_cons (obs_v rfl (by
           intro k; intro b81 ρ σm hJ hoff hdep
           have e52 : look 92 ρ 52 = (I x75.1) := hdep 4 rfl rfl 52 rfl
           exact dp_v (v := (.agg #[(I x75.1), (I 0), (I (-1)), (I (-1))])) wn (rv_build (ps := [(0, (I x75.1)), (2, (I (-1))), (3, (I (-1)))]) Try.underlying39 ti39 (bp39 Try.underlying39) (by show [(0, look 92 ρ 52), (2, (I (-1))), (3, (I (-1)))] = _; rw [e52]) (by kernel_rfl)) rfl hJ)) ?_
         refine all_cons (by
           refine ⟨?_, ?_⟩
           ·intro b81 ρ σm hJ hoff hdep
            have e53 : look 92 ρ 53 = (.agg #[(I x75.1), (I 0), (I (-1)), (I (-1))]) := hdep 5 rfl rfl 53 rfl
            obtain ⟨H, m⟩ := id hJ
            refine dp_ex wn (ex_buildSlice (el := 0) (xs := ([(x75.1, 0, -1, -1)] : List (Int × Int × Int × Int))) (ps := [(0, (.agg #[(I x75.1), (I 0), (I (-1)), (I (-1))]))]) (cs := [(I x75.1), (I 0), (I (-1)), (I (-1))]) H hn0 Try.underlying33 ti39 rfl (by show [(0, look 92 ρ 53)] = _; rw [e53]) (by kernel_rfl) (.cons (c := [(I x75.1), (I 0), (I (-1)), (I (-1))]) ⟨[(I x75.1)], [(I 0), (I (-1)), (I (-1))], rfl, rfl, ⟨[(I 0)], [(I (-1)), (I (-1))], rfl, rfl, ⟨[(I (-1))], [(I (-1))], rfl, rfl, rfl⟩⟩⟩ (.nil)) rfl) ?_
            rintro _ σq ⟨b81x, rfl, H2, m2⟩
            obtain ⟨σr0, hwr0, H2, mr0⟩ := H2.pub 0 rfl (Nat.zero_le _)
            exact ⟨_, b81x, hwr0, rfl, ⟨H2.sel' [0, 1, 2, 3, 4, 5, 6, 7] rfl rfl, m.comp (m2.comp mr0)⟩, stab [0, 1, 2, 3, 4, 5] (by kernel_rfl) ⟨rfl, rfl, rfl, rfl, rfl, rfl, trivial⟩⟩
           trivial) ?_
         refine all_cons (by
           refine ⟨?_, ?_⟩
           ·intro b81 ρ σm hJ hoff hdep
            have e48 : look 92 ρ 48 = (Sl a58 r55 c59) := hdep 0 rfl rfl 48 rfl
            have e54 : look 92 ρ 54 = (Sl (some ⟨b81, 0, none⟩) ([(x75.1, 0, -1, -1)] : List (Int × Int × Int × Int)) 1) := hdep 6 rfl rfl 54 rfl
            obtain ⟨H, m⟩ := id hJ
            refine dp_cx wn (cx_call (hc84 b81) (ent_f (hc84 b81).fn (by show [look 92 ρ 48, look 92 ρ 54] = _; rw [e48, e54])) hn0 (H.sel' [5, 0, 0, 1, 2, 3, 4, 5, 6, 7] rfl rfl : Hp S0 σ0 _ ([_, _] ++ _))) ?_
            rintro _ σq ⟨_, ⟨rfl, rfl⟩, H2, m2⟩
            exact ⟨_, b81, rfl, rfl, ⟨H2.sel' [0, 1, 2, 3, 4, 5, 6, 7] rfl rfl, m.comp0 (m2.mono (fun i h => by simp [cov, Ch.ro] at h))⟩, stab [0, 1, 2, 3, 4, 5, 6] (by kernel_rfl) ⟨rfl, rfl, rfl, rfl, rfl, rfl, rfl, trivial⟩⟩
           trivial) ?_
         refine all_cons (obs_v rfl (by
           intro k; intro b81 ρ σm hJ hoff hdep
           have e55 : look 92 ρ 55 = (B r82) := hdep 7 rfl rfl 55 rfl
           exact dp_v (v := (B r82)) wn (rv_move e55) rfl hJ)) ?_
         refine all_cons (obs_v rfl (by
           intro k; intro b81 ρ σm hJ hoff hdep
           have e7 : look 92 ρ 7 = (Sl a70 r67 c71) := look_off (hoff 7 rfl) rfl
           have e56 : look 92 ρ 56 = (B r82) := hdep 8 rfl rfl 56 rfl
           exact dp_v (v := (Sl a70 r67 c71)) (wanted_yes rfl (yv_of rfl (e56.trans (congrArg B hb85)))) (rv_move e7) rfl hJ)) ?_
         refine all_cons (obs_v rfl (by
           intro k; intro b81 ρ σm hJ hoff hdep
           have e57 : look 92 ρ 57 = (Sl a70 r67 c71) := hdep 9 rfl rfl 57 rfl
           have e56 : look 92 ρ 56 = (B r82) := hdep 8 rfl rfl 56 rfl
           exact dp_v (v := (I (r67.length : Int))) (wanted_yes rfl (yv_of rfl (e56.trans (congrArg B hb85)))) (rv_len Try.underlying33 e57) rfl hJ)) ?_
         refine all_cons (obs_v rfl (by
           intro k; intro b81 ρ σm hJ hoff hdep
           have e58 : look 92 ρ 58 = (I (r67.length : Int)) := hdep 10 rfl rfl 58 rfl
           have e56 : look 92 ρ 56 = (B r82) := hdep 8 rfl rfl 56 rfl
           exact dp_v (v := (B ((r67.length : Int) == 2))) (wanted_yes rfl (yv_of rfl (e56.trans (congrArg B hb85)))) (rv_eql (a := (r67.length : Int)) (b := 2) e58 rfl) rfl hJ)) ?_
         refine all_cons (obs_v rfl (by
           intro k; intro b81 ρ σm hJ hoff hdep
           have e56 : look 92 ρ 56 = (B r82) := hdep 8 rfl rfl 56 rfl
           have e59 : look 92 ρ 59 = (B ((r67.length : Int) == 2)) := hdep 11 rfl rfl 59 rfl
           exact dp_v (v := (B ((r67.length : Int) == 2))) wn (rv_pick_t (e56.trans (congrArg B hb85)) e59) rfl hJ)) ?_
         refine all_cons (obs_v rfl (by
           intro k; intro b81 ρ σm hJ hoff hdep
           have e60 : look 92 ρ 60 = (B ((r67.length : Int) == 2)) := hdep 12 rfl rfl 60 rfl
           exact dp_v (v := (B ((r67.length : Int) == 2))) wn (rv_move e60) rfl hJ)) ?_
         refine all_cons (obs_v rfl (by
           intro k; intro b81 ρ σm hJ hoff hdep
           have e7 : look 92 ρ 7 = (Sl a70 r67 c71) := look_off (hoff 7 rfl) rfl
           have e61 : look 92 ρ 61 = (B ((r67.length : Int) == 2)) := hdep 13 rfl rfl 61 rfl
           exact dp_v (v := (Sl a70 r67 c71)) (wanted_yes rfl (yv_of rfl (e61.trans (congrArg B hb86)))) (rv_move e7) rfl hJ)) ?_
         refine all_cons (obs_v rfl (by
           intro k; intro b81 ρ σm hJ hoff hdep
           have e62 : look 92 ρ 62 = (Sl a70 r67 c71) := hdep 14 rfl rfl 62 rfl
           have e61 : look 92 ρ 61 = (B ((r67.length : Int) == 2)) := hdep 13 rfl rfl 61 rfl
           exact dp_v (v := (pt b90 o91)) (wanted_yes rfl (yv_of rfl (e61.trans (congrArg B hb86)))) (rv_ix Try.underlying33 ti39 e62 rfl hi89) rfl hJ)) ?_
         refine all_cons (obs_v rfl (by
           intro k; intro b81 ρ σm hJ hoff hdep
           have e63 : look 92 ρ 63 = (pt b90 o91) := hdep 15 rfl rfl 63 rfl
           have e61 : look 92 ρ 61 = (B ((r67.length : Int) == 2)) := hdep 13 rfl rfl 61 rfl
           exact dp_v (v := (pt b90 (o91 + 2))) (wanted_yes rfl (yv_of rfl (e61.trans (congrArg B hb86)))) (rv_fieldAddr (off := 2) (ft := 3) Try.underlying39 rfl ti3 rfl e63) rfl hJ)) ?_
         refine all_cons (by
           refine ⟨?_, ?_⟩
           ·intro b81 ρ σm hJ hoff hdep
            have e64 : look 92 ρ 64 = (pt b90 (o91 + 2)) := hdep 16 rfl rfl 64 rfl
            have e61 : look 92 ρ 61 = (B ((r67.length : Int) == 2)) := hdep 13 rfl rfl 61 rfl
            obtain ⟨H, m⟩ := id hJ
            have hc92 := ((H.own 6 rfl).at hx88 hi89).snd.snd.fst.int
            exact dp_v (v := (I x87.2.2.1)) (wanted_yes rfl (yv_of rfl (e61.trans (congrArg B hb86)))) (rv_load1 Try.underlying3 rfl e64 hc92) rfl hJ
           trivial) ?_
         refine all_cons (obs_v rfl (by
           intro k; intro b81 ρ σm hJ hoff hdep
           have e65 : look 92 ρ 65 = (I x87.2.2.1) := hdep 17 rfl rfl 65 rfl
           have e61 : look 92 ρ 61 = (B ((r67.length : Int) == 2)) := hdep 13 rfl rfl 61 rfl
           exact dp_v (v := (B (x87.2.2.1 == 1))) (wanted_yes rfl (yv_of rfl (e61.trans (congrArg B hb86)))) (rv_eql (a := x87.2.2.1) (b := 1) e65 rfl) rfl hJ)) ?_
         refine all_cons (obs_v rfl (by
           intro k; intro b81 ρ σm hJ hoff hdep
           have e61 : look 92 ρ 61 = (B ((r67.length : Int) == 2)) := hdep 13 rfl rfl 61 rfl
           have e66 : look 92 ρ 66 = (B (x87.2.2.1 == 1)) := hdep 18 rfl rfl 66 rfl
           exact dp_v (v := (B (x87.2.2.1 == 1))) wn (rv_pick_t (e61.trans (congrArg B hb86)) e66) rfl hJ)) ?_
         refine all_cons (obs_v rfl (by
           intro k; intro b81 ρ σm hJ hoff hdep
           have e67 : look 92 ρ 67 = (B (x87.2.2.1 == 1)) := hdep 19 rfl rfl 67 rfl
           exact dp_v (v := (B (x87.2.2.1 == 1))) wn (rv_move e67) rfl hJ)) ?_
         refine all_cons (obs_v rfl (by
           intro k; intro b81 ρ σm hJ hoff hdep
           have e7 : look 92 ρ 7 = (Sl a70 r67 c71) := look_off (hoff 7 rfl) rfl
           have e68 : look 92 ρ 68 = (B (x87.2.2.1 == 1)) := hdep 20 rfl rfl 68 rfl
           exact dp_v (v := (Sl a70 r67 c71)) (wanted_yes rfl (yv_of rfl (e68.trans (congrArg B hb93)))) (rv_move e7) rfl hJ)) ?_
         refine all_cons (obs_v rfl (by
           intro k; intro b81 ρ σm hJ hoff hdep
           have e69 : look 92 ρ 69 = (Sl a70 r67 c71) := hdep 21 rfl rfl 69 rfl
           have e68 : look 92 ρ 68 = (B (x87.2.2.1 == 1)) := hdep 20 rfl rfl 68 rfl
           exact dp_v (v := (pt b97 o98)) (wanted_yes rfl (yv_of rfl (e68.trans (congrArg B hb93)))) (rv_ix Try.underlying33 ti39 e69 rfl hi96) rfl hJ)) ?_
         refine all_cons (obs_v rfl (by
           intro k; intro b81 ρ σm hJ hoff hdep
           have e70 : look 92 ρ 70 = (pt b97 o98) := hdep 22 rfl rfl 70 rfl
           have e68 : look 92 ρ 68 = (B (x87.2.2.1 == 1)) := hdep 20 rfl rfl 68 rfl
           exact dp_v (v := (pt b97 (o98 + 3))) (wanted_yes rfl (yv_of rfl (e68.trans (congrArg B hb93)))) (rv_fieldAddr (off := 3) (ft := 3) Try.underlying39 rfl ti3 rfl e70) rfl hJ)) ?_
         refine all_cons (by
           refine ⟨?_, ?_⟩
           ·intro b81 ρ σm hJ hoff hdep
            have e71 : look 92 ρ 71 = (pt b97 (o98 + 3)) := hdep 23 rfl rfl 71 rfl
            have e68 : look 92 ρ 68 = (B (x87.2.2.1 == 1)) := hdep 20 rfl rfl 68 rfl
            obtain ⟨H, m⟩ := id hJ
            have hc99 := ((H.own 6 rfl).at hx95 hi96).snd.snd.snd.int
            exact dp_v (v := (I x94.2.2.2)) (wanted_yes rfl (yv_of rfl (e68.trans (congrArg B hb93)))) (rv_load1 Try.underlying3 rfl e71 hc99) rfl hJ
           trivial) ?_
         refine all_cons (obs_v rfl (by
           intro k; intro b81 ρ σm hJ hoff hdep
           have e72 : look 92 ρ 72 = (I x94.2.2.2) := hdep 24 rfl rfl 72 rfl
           have e68 : look 92 ρ 68 = (B (x87.2.2.1 == 1)) := hdep 20 rfl rfl 68 rfl
           exact dp_v (v := (B (x94.2.2.2 == (-1)))) (wanted_yes rfl (yv_of rfl (e68.trans (congrArg B hb93)))) (rv_eql (a := x94.2.2.2) (b := (-1)) e72 rfl) rfl hJ)) ?_
         refine all_cons (obs_v rfl (by
           intro k; intro b81 ρ σm hJ hoff hdep
           have e68 : look 92 ρ 68 = (B (x87.2.2.1 == 1)) := hdep 20 rfl rfl 68 rfl
           have e73 : look 92 ρ 73 = (B (x94.2.2.2 == (-1))) := hdep 25 rfl rfl 73 rfl
           exact dp_v (v := (B (x94.2.2.2 == (-1)))) wn (rv_pick_t (e68.trans (congrArg B hb93)) e73) rfl hJ)) ?_
         refine all_cons (obs_v rfl (by
           intro k; intro b81 ρ σm hJ hoff hdep
           have e74 : look 92 ρ 74 = (B (x94.2.2.2 == (-1))) := hdep 26 rfl rfl 74 rfl
           exact dp_v (v := (B (x94.2.2.2 == (-1)))) wn (rv_move e74) rfl hJ)) ?_
         refine all_cons (obs_v rfl (by
           intro k; intro b81 ρ σm hJ hoff hdep
           have e7 : look 92 ρ 7 = (Sl a70 r67 c71) := look_off (hoff 7 rfl) rfl
           have e75 : look 92 ρ 75 = (B (x94.2.2.2 == (-1))) := hdep 27 rfl rfl 75 rfl
           exact dp_v (v := (Sl a70 r67 c71)) (wanted_yes rfl (yv_of rfl (e75.trans (congrArg B hb100)))) (rv_move e7) rfl hJ)) ?_
         refine all_cons (obs_v rfl (by
           intro k; intro b81 ρ σm hJ hoff hdep
           have e76 : look 92 ρ 76 = (Sl a70 r67 c71) := hdep 28 rfl rfl 76 rfl
           have e75 : look 92 ρ 75 = (B (x94.2.2.2 == (-1))) := hdep 27 rfl rfl 75 rfl
           exact dp_v (v := (pt b104 o105)) (wanted_yes rfl (yv_of rfl (e75.trans (congrArg B hb100)))) (rv_ix Try.underlying33 ti39 e76 rfl hi103) rfl hJ)) ?_
         refine all_cons (obs_v rfl (by
           intro k; intro b81 ρ σm hJ hoff hdep
           have e77 : look 92 ρ 77 = (pt b104 o105) := hdep 29 rfl rfl 77 rfl
           have e75 : look 92 ρ 75 = (B (x94.2.2.2 == (-1))) := hdep 27 rfl rfl 75 rfl
           exact dp_v (v := (pt b104 (o105 + 1))) (wanted_yes rfl (yv_of rfl (e75.trans (congrArg B hb100)))) (rv_fieldAddr (off := 1) (ft := 3) Try.underlying39 rfl ti3 rfl e77) rfl hJ)) ?_
         refine all_cons (by
           refine ⟨?_, ?_⟩
           ·intro b81 ρ σm hJ hoff hdep
            have e78 : look 92 ρ 78 = (pt b104 (o105 + 1)) := hdep 30 rfl rfl 78 rfl
            have e75 : look 92 ρ 75 = (B (x94.2.2.2 == (-1))) := hdep 27 rfl rfl 75 rfl
            obtain ⟨H, m⟩ := id hJ
            have hc106 := ((H.own 6 rfl).at hx102 hi103).snd.fst.int
            exact dp_v (v := (I x101.2.1)) (wanted_yes rfl (yv_of rfl (e75.trans (congrArg B hb100)))) (rv_load1 Try.underlying3 rfl e78 hc106) rfl hJ
           refine ⟨?_, ?_⟩
           ·intro b81 ρ σm hJ hoff hdep
            have e78 : look 92 ρ 78 = (pt b104 (o105 + 1)) := hdep 30 rfl rfl 78 rfl
            have e75 : look 92 ρ 75 = (B (x94.2.2.2 == (-1))) := hdep 27 rfl rfl 75 rfl
            obtain ⟨H, m⟩ := id hJ
            have hc106 := ((H.own 6 rfl).at hx102 hi103).snd.fst.int
            exact dp_v (v := (I x101.2.1)) (wanted_yes rfl (yv_of rfl (e75.trans (congrArg B hb100)))) (rv_load1 Try.underlying3 rfl e78 hc106) rfl hJ
           trivial) ?_
         refine all_cons (obs_v rfl (by
           intro k; intro b81 ρ σm hJ hoff hdep
           have e4 : look 92 ρ 4 = (I r2.2) := look_off (hoff 4 rfl) rfl
           have e75 : look 92 ρ 75 = (B (x94.2.2.2 == (-1))) := hdep 27 rfl rfl 75 rfl
           exact dp_v (v := (I r2.2)) (wanted_yes rfl (yv_of rfl (e75.trans (congrArg B hb100)))) (rv_move e4) rfl hJ)) ?_
         refine all_cons (obs_v rfl (by
           intro k; intro b81 ρ σm hJ hoff hdep
           have e3 : look 92 ρ 3 = (Sl a5 r2.1 c6) := look_off (hoff 3 rfl) rfl
           have e75 : look 92 ρ 75 = (B (x94.2.2.2 == (-1))) := hdep 27 rfl rfl 75 rfl
           exact dp_v (v := (Sl a5 r2.1 c6)) (wanted_yes rfl (yv_of rfl (e75.trans (congrArg B hb100)))) (rv_move e3) rfl hJ)) ?_
         refine all_cons (obs_v rfl (by
           intro k; intro b81 ρ σm hJ hoff hdep
           have e81 : look 92 ρ 81 = (Sl a5 r2.1 c6) := hdep 33 rfl rfl 81 rfl
           have e75 : look 92 ρ 75 = (B (x94.2.2.2 == (-1))) := hdep 27 rfl rfl 75 rfl
           exact dp_v (v := (pt b110 o111)) (wanted_yes rfl (yv_of rfl (e75.trans (congrArg B hb100)))) (rv_ix Try.underlying23 ti37 e81 rfl hi109) rfl hJ)) ?_
         refine all_cons (obs_v rfl (by
           intro k; intro b81 ρ σm hJ hoff hdep
           have e82 : look 92 ρ 82 = (pt b110 o111) := hdep 34 rfl rfl 82 rfl
           have e75 : look 92 ρ 75 = (B (x94.2.2.2 == (-1))) := hdep 27 rfl rfl 75 rfl
           exact dp_v (v := (pt b110 (o111 + 1))) (wanted_yes rfl (yv_of rfl (e75.trans (congrArg B hb100)))) (rv_fieldAddr (off := 1) (ft := 24) Try.underlying37 rfl ti24 rfl e82) rfl hJ)) ?_
         refine all_cons (by
           refine ⟨?_, ?_⟩
           ·intro b81 ρ σm hJ hoff hdep
            have e83 : look 92 ρ 83 = (pt b110 (o111 + 1)) := hdep 35 rfl rfl 83 rfl
            have e75 : look 92 ρ 75 = (B (x94.2.2.2 == (-1))) := hdep 27 rfl rfl 75 rfl
            obtain ⟨H, m⟩ := id hJ
            replace hc116 := (Hs.ro 6 rfl).hmd hx108 hi109 (k := 1) (by decide) hc116 m
            exact dp_v (v := (Sl a112 x107.2.1 c113)) (wanted_yes rfl (yv_of rfl (e75.trans (congrArg B hb100)))) (rv_load1 Try.underlying24 rfl e83 hc116) rfl hJ
           trivial) ?_
         refine all_cons (obs_v rfl (by
           intro k; intro b81 ρ σm hJ hoff hdep
           have e3 : look 92 ρ 3 = (Sl a5 r2.1 c6) := look_off (hoff 3 rfl) rfl
           have e75 : look 92 ρ 75 = (B (x94.2.2.2 == (-1))) := hdep 27 rfl rfl 75 rfl
           exact dp_v (v := (Sl a5 r2.1 c6)) (wanted_yes rfl (yv_of rfl (e75.trans (congrArg B hb100)))) (rv_move e3) rfl hJ)) ?_
         refine all_cons (obs_v rfl (by
           intro k; intro b81 ρ σm hJ hoff hdep
           have e85 : look 92 ρ 85 = (Sl a5 r2.1 c6) := hdep 37 rfl rfl 85 rfl
           have e75 : look 92 ρ 75 = (B (x94.2.2.2 == (-1))) := hdep 27 rfl rfl 75 rfl
           exact dp_v (v := (pt b120 o121)) (wanted_yes rfl (yv_of rfl (e75.trans (congrArg B hb100)))) (rv_ix Try.underlying23 ti37 e85 rfl hi119) rfl hJ)) ?_
         refine all_cons (obs_v rfl (by
           intro k; intro b81 ρ σm hJ hoff hdep
           have e86 : look 92 ρ 86 = (pt b120 o121) := hdep 38 rfl rfl 86 rfl
           have e75 : look 92 ρ 75 = (B (x94.2.2.2 == (-1))) := hdep 27 rfl rfl 75 rfl
           exact dp_v (v := (pt b120 (o121 + 1))) (wanted_yes rfl (yv_of rfl (e75.trans (congrArg B hb100)))) (rv_fieldAddr (off := 1) (ft := 24) Try.underlying37 rfl ti24 rfl e86) rfl hJ)) ?_
         refine all_cons (by
           refine ⟨?_, ?_⟩
           ·intro b81 ρ σm hJ hoff hdep
            have e87 : look 92 ρ 87 = (pt b120 (o121 + 1)) := hdep 39 rfl rfl 87 rfl
            have e75 : look 92 ρ 75 = (B (x94.2.2.2 == (-1))) := hdep 27 rfl rfl 75 rfl
            obtain ⟨H, m⟩ := id hJ
            replace hc126 := (Hs.ro 6 rfl).hmd hx118 hi119 (k := 1) (by decide) hc126 m
            exact dp_v (v := (Sl a122 x117.2.1 c123)) (wanted_yes rfl (yv_of rfl (e75.trans (congrArg B hb100)))) (rv_load1 Try.underlying24 rfl e87 hc126) rfl hJ
           trivial) ?_
         refine all_cons (by
           refine ⟨?_, ?_⟩
           ·intro b81 ρ σm hJ hoff hdep
            have e80 : look 92 ρ 80 = (I r2.2) := hdep 32 rfl rfl 80 rfl
            have e84 : look 92 ρ 84 = (Sl a112 x107.2.1 c113) := hdep 36 rfl rfl 84 rfl
            have e88 : look 92 ρ 88 = (Sl a122 x117.2.1 c123) := hdep 40 rfl rfl 88 rfl
            have e75 : look 92 ρ 75 = (B (x94.2.2.2 == (-1))) := hdep 27 rfl rfl 75 rfl
            obtain ⟨H, m⟩ := id hJ
            refine dp_cx (wanted_yes rfl (yv_of rfl (e75.trans (congrArg B hb100)))) (cx_call hc129 (ent_f hc129.fn (by show [look 92 ρ 80, look 92 ρ 84, look 92 ρ 88] = _; rw [e80, e84, e88])) hn0 (H.sel' [2, 1, 0, 1, 2, 3, 4, 5, 6, 7] rfl rfl : Hp S0 σ0 _ ([_, _] ++ _))) ?_
            rintro _ σq ⟨_, ⟨rfl, rfl⟩, H2, m2⟩
            exact ⟨_, b81, rfl, rfl, ⟨H2.sel' [0, 1, 2, 3, 4, 5, 6, 7] rfl rfl, m.comp0 (m2.mono (fun i h => by simp [cov, Ch.ro] at h))⟩, stab [0, 1, 2, 3, 4, 5, 6, 7, 8, 9, 10, 11, 12, 13, 14, 15, 16, 17, 18, 19, 20, 21, 22, 23, 24, 25, 26, 27, 28, 29, 30, 31, 32, 33, 34, 35, 36, 37, 38, 39, 40] (by kernel_rfl) ⟨rfl, rfl, rfl, rfl, rfl, rfl, rfl, rfl, rfl, rfl, rfl, rfl, rfl, rfl, rfl, rfl, rfl, rfl, rfl, rfl, rfl, rfl, rfl, rfl, rfl, rfl, rfl, rfl, rfl, rfl, rfl, rfl, rfl, rfl, rfl, rfl, rfl, rfl, rfl, rfl, rfl, trivial⟩⟩
           trivial) ?_
         exact all_nil
        ·intro b81 ρ σ130 hJ hoff hrel
         have e75 : look 92 ρ 75 = (B (x94.2.2.2 == (-1))) := hrel 27 rfl 75 rfl
         have e79 : look 92 ρ 79 = (I x101.2.1) := hrel 31 rfl 79 rfl
         have e89 : look 92 ρ 89 = (I r127) := hrel 41 rfl 89 rfl
         obtain ⟨H, -⟩ := (show Hp S0 σ0 σ130 [Ch.ro 0 (Sl (some ⟨b81, 0, none⟩) ([(x75.1, 0, -1, -1)] : List (Int × Int × Int × Int)) 1) ([(x75.1, 0, -1, -1)] : List (Int × Int × Int × Int)), Ch.ro 0 (Sl a122 x117.2.1 c123) x117.2.1, Ch.ro 0 (Sl a112 x107.2.1 c113) x107.2.1, Ch.ro n0 (Sl a122 x117.2.1 c123) x117.2.1, Ch.ro n0 (Sl a112 x107.2.1 c113) x107.2.1, Ch.ro 0 (Sl a58 r55 c59) r55, Ch.own 0 n0 (Sl a70 r67 c71) r67, Ch.ro n0 (Sl a5 r2.1 c6) r2.1] ∧ Md (fun i => (cov []) i ∨ (fun i => (cov []) i ∨ (fun b => blk (Sl (some ⟨b81, 0, none⟩) ([(x75.1, 0, -1, -1)] : List (Int × Int × Int × Int)) 1) = some b) i) i) σ73 σ130 from hJ)
         clear hJ Hs
         rw [fr_lookL (L := [(75, (B (x94.2.2.2 == (-1)))), (79, (I x101.2.1)), (89, (I r127))]) ⟨e75, e79, e89, trivial⟩]
         clear hoff hrel e75 e79 e89
         refine st_g (v := (B (x101.2.1 == r127))) (congrArg some hb100) (rv_eql (a := x101.2.1) (b := r127) rfl rfl) ?_
         refine st (v := (B (x101.2.1 == r127))) (rv_pick_t (congrArg B hb100) rfl) ?_
         refine st (v := (B (x101.2.1 == r127))) (rv_assign rfl) ?_
         refine w_end ?_
         refine q_then ?_
         refine c_ret ?_
         obtain rfl := Option.some.inj h
         exact fin_ret (v := (B (x101.2.1 == r127))) (results_ok Try.results4 (res_tmp (v := (B (x101.2.1 == r127))) rfl res_nil) rfl) ⟨rfl, rfl⟩ (H.sel' [] rfl rfl)
       ·replace h := bif_f hb100 h
        have Hs := H
        refine rg2 (σ := σ73) (Nm := (Nat)) 42 [6, 7] [[false, false], [true, false], [true, true]] [[(0, 0), (1, 1)], [(0, 0)], [(0, 0)], [(0, 0)], [(0, 0)], [(0, 0)], [(0, 1)], [(1, 2)], [(2, 2)], [(2, 2)], [(2, 2)], [(2, 2)], [(2, 2)], [(2, 2)], [(2, 2)], [(2, 2)], [(2, 2)], [(2, 2)], [(2, 2)], [(2, 2)], [(2, 2)], [(2, 2)], [(2, 2)], [(2, 2)], [(2, 2)], [(2, 2)], [(2, 2)], [(2, 2)], [(2, 2)], [(2, 2)], [(2, 2)], [(2, 2)], [(2, 2)], [(2, 2)], [(2, 2)], [(2, 2)], [(2, 2)], [(2, 2)], [(2, 2)], [(2, 2)], [(2, 2)], [(2, 2)]] 2 [fun (b81 : (Nat)) => fun σm => Hp S0 σ0 σm [Ch.ro 0 (Sl a58 r55 c59) r55, Ch.own 0 n0 (Sl a70 r67 c71) r67, Ch.ro n0 (Sl a5 r2.1 c6) r2.1] ∧ Md (cov []) σ73 σm, fun (b81 : (Nat)) => fun σm => Hp S0 σ0 σm [Ch.ro 0 (Sl (some ⟨b81, 0, none⟩) ([(x75.1, 0, -1, -1)] : List (Int × Int × Int × Int)) 1) ([(x75.1, 0, -1, -1)] : List (Int × Int × Int × Int)), Ch.ro 0 (Sl a58 r55 c59) r55, Ch.own 0 n0 (Sl a70 r67 c71) r67, Ch.ro n0 (Sl a5 r2.1 c6) r2.1] ∧ Md (fun i => (cov []) i ∨ (fun i => (cov []) i ∨ (fun b => blk (Sl (some ⟨b81, 0, none⟩) ([(x75.1, 0, -1, -1)] : List (Int × Int × Int × Int)) 1) = some b) i) i) σ73 σm, fun (b81 : (Nat)) => fun σm => Hp S0 σ0 σm [Ch.ro 0 (Sl (some ⟨b81, 0, none⟩) ([(x75.1, 0, -1, -1)] : List (Int × Int × Int × Int)) 1) ([(x75.1, 0, -1, -1)] : List (Int × Int × Int × Int)), Ch.ro 0 (Sl a58 r55 c59) r55, Ch.own 0 n0 (Sl a70 r67 c71) r67, Ch.ro n0 (Sl a5 r2.1 c6) r2.1] ∧ Md (fun i => (cov []) i ∨ (fun i => (cov []) i ∨ (fun b => blk (Sl (some ⟨b81, 0, none⟩) ([(x75.1, 0, -1, -1)] : List (Int × Int × Int × Int)) 1) = some b) i) i) σ73 σm] [fun (b81 : (Nat)) => (Sl a58 r55 c59), fun (b81 : (Nat)) => (Sl a5 r2.1 c6), fun (b81 : (Nat)) => (pt b78 o79), fun (b81 : (Nat)) => (pt b78 (o79 + 0)), fun (b81 : (Nat)) => (I x75.1), fun (b81 : (Nat)) => (.agg #[(I x75.1), (I 0), (I (-1)), (I (-1))]), fun (b81 : (Nat)) => (Sl (some ⟨b81, 0, none⟩) ([(x75.1, 0, -1, -1)] : List (Int × Int × Int × Int)) 1), fun (b81 : (Nat)) => (B r82), fun (b81 : (Nat)) => (B r82), fun (b81 : (Nat)) => (Sl a70 r67 c71), fun (b81 : (Nat)) => (I (r67.length : Int)), fun (b81 : (Nat)) => (B ((r67.length : Int) == 2)), fun (b81 : (Nat)) => (B ((r67.length : Int) == 2)), fun (b81 : (Nat)) => (B ((r67.length : Int) == 2)), fun (b81 : (Nat)) => (Sl a70 r67 c71), fun (b81 : (Nat)) => (pt b90 o91), fun (b81 : (Nat)) => (pt b90 (o91 + 2)), fun (b81 : (Nat)) => (I x87.2.2.1), fun (b81 : (Nat)) => (B (x87.2.2.1 == 1)), fun (b81 : (Nat)) => (B (x87.2.2.1 == 1)), fun (b81 : (Nat)) => (B (x87.2.2.1 == 1)), fun (b81 : (Nat)) => (Sl a70 r67 c71), fun (b81 : (Nat)) => (pt b97 o98), fun (b81 : (Nat)) => (pt b97 (o98 + 3)), fun (b81 : (Nat)) => (I x94.2.2.2), fun (b81 : (Nat)) => (B (x94.2.2.2 == (-1))), fun (b81 : (Nat)) => (B (x94.2.2.2 == (-1))), fun (b81 : (Nat)) => (B (x94.2.2.2 == (-1))), fun (b81 : (Nat)) => undef, fun (b81 : (Nat)) => undef, fun (b81 : (Nat)) => undef, fun (b81 : (Nat)) => undef, fun (b81 : (Nat)) => undef, fun (b81 : (Nat)) => undef, fun (b81 : (Nat)) => undef, fun (b81 : (Nat)) => undef, fun (b81 : (Nat)) => undef, fun (b81 : (Nat)) => undef, fun (b81 : (Nat)) => undef, fun (b81 : (Nat)) => undef, fun (b81 : (Nat)) => undef, fun (b81 : (Nat)) => undef] (0) (by kernel_rfl) (by kernel_rfl) ?_ ?_ ?_
        ·intro σm m0
         exact ⟨H.grow (m0.mono fun _ h => h.elim), m0⟩
        ·refine all_cons (obs_v rfl (by
           intro k; intro b81 ρ σm hJ hoff hdep
           have e6 : look 92 ρ 6 = (Sl a58 r55 c59) := look_off (hoff 6 rfl) rfl
           exact dp_v (v := (Sl a58 r55 c59)) wn (rv_move e6) rfl hJ)) ?_
         refine all_cons (obs_v rfl (by
           intro k; intro b81 ρ σm hJ hoff hdep
           have e3 : look 92 ρ 3 = (Sl a5 r2.1 c6) := look_off (hoff 3 rfl) rfl
           exact dp_v (v := (Sl a5 r2.1 c6)) wn (rv_move e3) rfl hJ)) ?_
         refine all_cons (obs_v rfl (by
           intro k; intro b81 ρ σm hJ hoff hdep
           have e49 : look 92 ρ 49 = (Sl a5 r2.1 c6) := hdep 1 rfl rfl 49 rfl
           exact dp_v (v := (pt b78 o79)) wn (rv_ix Try.underlying23 ti37 e49 rfl hi77) rfl hJ)) ?_
         refine all_cons (obs_v rfl (by
           intro k; intro b81 ρ σm hJ hoff hdep
           have e50 : look 92 ρ 50 = (pt b78 o79) := hdep 2 rfl rfl 50 rfl
           exact dp_v (v := (pt b78 (o79 + 0))) wn (rv_fieldAddr (off := 0) (ft := 3) Try.underlying37 rfl ti3 rfl e50) rfl hJ)) ?_
         refine all_cons (by
           refine ⟨?_, ?_⟩
           ·intro b81 ρ σm hJ hoff hdep
            have e51 : look 92 ρ 51 = (pt b78 (o79 + 0)) := hdep 3 rfl rfl 51 rfl
            obtain ⟨H, m⟩ := id hJ
            replace hc80 := (Hs.ro 2 rfl).hmd hx76 hi77 (k := 0) (by decide) hc80 m
            exact dp_v (v := (I x75.1)) wn (rv_load1 Try.underlying3 rfl e51 hc80) rfl hJ
           trivial) ?_
         refine all_cons (obs_v rfl (by
           intro k; intro b81 ρ σm hJ hoff hdep
           have e52 : look 92 ρ 52 = (I x75.1) := hdep 4 rfl rfl 52 rfl
           exact dp_v (v := (.agg #[(I x75.1), (I 0), (I (-1)), (I (-1))])) wn (rv_build (ps := [(0, (I x75.1)), (2, (I (-1))), (3, (I (-1)))]) Try.underlying39 ti39 (bp39 Try.underlying39) (by show [(0, look 92 ρ 52), (2, (I (-1))), (3, (I (-1)))] = _; rw [e52]) (by kernel_rfl)) rfl hJ)) ?_
         refine all_cons (by
           refine ⟨?_, ?_⟩
           ·intro b81 ρ σm hJ hoff hdep
            have e53 : look 92 ρ 53 = (.agg #[(I x75.1), (I 0), (I (-1)), (I (-1))]) := hdep 5 rfl rfl 53 rfl
            obtain ⟨H, m⟩ := id hJ
            refine dp_ex wn (ex_buildSlice (el := 0) (xs := ([(x75.1, 0, -1, -1)] : List (Int × Int × Int × Int))) (ps := [(0, (.agg #[(I x75.1), (I 0), (I (-1)), (I (-1))]))]) (cs := [(I x75.1), (I 0), (I (-1)), (I (-1))]) H hn0 Try.underlying33 ti39 rfl (by show [(0, look 92 ρ 53)] = _; rw [e53]) (by kernel_rfl) (.cons (c := [(I x75.1), (I 0), (I (-1)), (I (-1))]) ⟨[(I x75.1)], [(I 0), (I (-1)), (I (-1))], rfl, rfl, ⟨[(I 0)], [(I (-1)), (I (-1))], rfl, rfl, ⟨[(I (-1))], [(I (-1))], rfl, rfl, rfl⟩⟩⟩ (.nil)) rfl) ?_
            rintro _ σq ⟨b81x, rfl, H2, m2⟩
            obtain ⟨σr0, hwr0, H2, mr0⟩ := H2.pub 0 rfl (Nat.zero_le _)
            exact ⟨_, b81x, hwr0, rfl, ⟨H2.sel' [0, 1, 2, 3] rfl rfl, m.comp (m2.comp mr0)⟩, stab [0, 1, 2, 3, 4, 5] (by kernel_rfl) ⟨rfl, rfl, rfl, rfl, rfl, rfl, trivial⟩⟩
           trivial) ?_
         refine all_cons (by
           refine ⟨?_, ?_⟩
           ·intro b81 ρ σm hJ hoff hdep
            have e48 : look 92 ρ 48 = (Sl a58 r55 c59) := hdep 0 rfl rfl 48 rfl
            have e54 : look 92 ρ 54 = (Sl (some ⟨b81, 0, none⟩) ([(x75.1, 0, -1, -1)] : List (Int × Int × Int × Int)) 1) := hdep 6 rfl rfl 54 rfl
            obtain ⟨H, m⟩ := id hJ
            refine dp_cx wn (cx_call (hc84 b81) (ent_f (hc84 b81).fn (by show [look 92 ρ 48, look 92 ρ 54] = _; rw [e48, e54])) hn0 (H.sel' [1, 0, 0, 1, 2, 3] rfl rfl : Hp S0 σ0 _ ([_, _] ++ _))) ?_
            rintro _ σq ⟨_, ⟨rfl, rfl⟩, H2, m2⟩
            exact ⟨_, b81, rfl, rfl, ⟨H2.sel' [0, 1, 2, 3] rfl rfl, m.comp0 (m2.mono (fun i h => by simp [cov, Ch.ro] at h))⟩, stab [0, 1, 2, 3, 4, 5, 6] (by kernel_rfl) ⟨rfl, rfl, rfl, rfl, rfl, rfl, rfl, trivial⟩⟩
           trivial) ?_
         refine all_cons (obs_v rfl (by
           intro k; intro b81 ρ σm hJ hoff hdep
           have e55 : look 92 ρ 55 = (B r82) := hdep 7 rfl rfl 55 rfl
           exact dp_v (v := (B r82)) wn (rv_move e55) rfl hJ)) ?_
         refine all_cons (obs_v rfl (by
           intro k; intro b81 ρ σm hJ hoff hdep
           have e7 : look 92 ρ 7 = (Sl a70 r67 c71) := look_off (hoff 7 rfl) rfl
           have e56 : look 92 ρ 56 = (B r82) := hdep 8 rfl rfl 56 rfl
           exact dp_v (v := (Sl a70 r67 c71)) (wanted_yes rfl (yv_of rfl (e56.trans (congrArg B hb85)))) (rv_move e7) rfl hJ)) ?_
         refine all_cons (obs_v rfl (by
           intro k; intro b81 ρ σm hJ hoff hdep
           have e57 : look 92 ρ 57 = (Sl a70 r67 c71) := hdep 9 rfl rfl 57 rfl
           have e56 : look 92 ρ 56 = (B r82) := hdep 8 rfl rfl 56 rfl
           exact dp_v (v := (I (r67.length : Int))) (wanted_yes rfl (yv_of rfl (e56.trans (congrArg B hb85)))) (rv_len Try.underlying33 e57) rfl hJ)) ?_
         refine all_cons (obs_v rfl (by
           intro k; intro b81 ρ σm hJ hoff hdep
           have e58 : look 92 ρ 58 = (I (r67.length : Int)) := hdep 10 rfl rfl 58 rfl
           have e56 : look 92 ρ 56 = (B r82) := hdep 8 rfl rfl 56 rfl
           exact dp_v (v := (B ((r67.length : Int) == 2))) (wanted_yes rfl (yv_of rfl (e56.trans (congrArg B hb85)))) (rv_eql (a := (r67.length : Int)) (b := 2) e58 rfl) rfl hJ)) ?_
         refine all_cons (obs_v rfl (by
           intro k; intro b81 ρ σm hJ hoff hdep
           have e56 : look 92 ρ 56 = (B r82) := hdep 8 rfl rfl 56 rfl
           have e59 : look 92 ρ 59 = (B ((r67.length : Int) == 2)) := hdep 11 rfl rfl 59 rfl
           exact dp_v (v := (B ((r67.length : Int) == 2))) wn (rv_pick_t (e56.trans (congrArg B hb85)) e59) rfl hJ)) ?_
         refine all_cons (obs_v rfl (by
           intro k; intro b81 ρ σm hJ hoff hdep
           have e60 : look 92 ρ 60 = (B ((r67.length : Int) == 2)) := hdep 12 rfl rfl 60 rfl
           exact dp_v (v := (B ((r67.length : Int) == 2))) wn (rv_move e60) rfl hJ)) ?_
         refine all_cons (obs_v rfl (by
           intro k; intro b81 ρ σm hJ hoff hdep
           have e7 : look 92 ρ 7 = (Sl a70 r67 c71) := look_off (hoff 7 rfl) rfl
           have e61 : look 92 ρ 61 = (B ((r67.length : Int) == 2)) := hdep 13 rfl rfl 61 rfl
           exact dp_v (v := (Sl a70 r67 c71)) (wanted_yes rfl (yv_of rfl (e61.trans (congrArg B hb86)))) (rv_move e7) rfl hJ)) ?_
         refine all_cons (obs_v rfl (by
           intro k; intro b81 ρ σm hJ hoff hdep
           have e62 : look 92 ρ 62 = (Sl a70 r67 c71) := hdep 14 rfl rfl 62 rfl
           have e61 : look 92 ρ 61 = (B ((r67.length : Int) == 2)) := hdep 13 rfl rfl 61 rfl
           exact dp_v (v := (pt b90 o91)) (wanted_yes rfl (yv_of rfl (e61.trans (congrArg B hb86)))) (rv_ix Try.underlying33 ti39 e62 rfl hi89) rfl hJ)) ?_
         refine all_cons (obs_v rfl (by
           intro k; intro b81 ρ σm hJ hoff hdep
           have e63 : look 92 ρ 63 = (pt b90 o91) := hdep 15 rfl rfl 63 rfl
           have e61 : look 92 ρ 61 = (B ((r67.length : Int) == 2)) := hdep 13 rfl rfl 61 rfl
           exact dp_v (v := (pt b90 (o91 + 2))) (wanted_yes rfl (yv_of rfl (e61.trans (congrArg B hb86)))) (rv_fieldAddr (off := 2) (ft := 3) Try.underlying39 rfl ti3 rfl e63) rfl hJ)) ?_
         refine all_cons (by
           refine ⟨?_, ?_⟩
           ·intro b81 ρ σm hJ hoff hdep
            have e64 : look 92 ρ 64 = (pt b90 (o91 + 2)) := hdep 16 rfl rfl 64 rfl
            have e61 : look 92 ρ 61 = (B ((r67.length : Int) == 2)) := hdep 13 rfl rfl 61 rfl
            obtain ⟨H, m⟩ := id hJ
            have hc92 := ((H.own 2 rfl).at hx88 hi89).snd.snd.fst.int
            exact dp_v (v := (I x87.2.2.1)) (wanted_yes rfl (yv_of rfl (e61.trans (congrArg B hb86)))) (rv_load1 Try.underlying3 rfl e64 hc92) rfl hJ
           trivial) ?_
         refine all_cons (obs_v rfl (by
           intro k; intro b81 ρ σm hJ hoff hdep
           have e65 : look 92 ρ 65 = (I x87.2.2.1) := hdep 17 rfl rfl 65 rfl
           have e61 : look 92 ρ 61 = (B ((r67.length : Int) == 2)) := hdep 13 rfl rfl 61 rfl
           exact dp_v (v := (B (x87.2.2.1 == 1))) (wanted_yes rfl (yv_of rfl (e61.trans (congrArg B hb86)))) (rv_eql (a := x87.2.2.1) (b := 1) e65 rfl) rfl hJ)) ?_
         refine all_cons (obs_v rfl (by
           intro k; intro b81 ρ σm hJ hoff hdep
           have e61 : look 92 ρ 61 = (B ((r67.length : Int) == 2)) := hdep 13 rfl rfl 61 rfl
           have e66 : look 92 ρ 66 = (B (x87.2.2.1 == 1)) := hdep 18 rfl rfl 66 rfl
           exact dp_v (v := (B (x87.2.2.1 == 1))) wn (rv_pick_t (e61.trans (congrArg B hb86)) e66) rfl hJ)) ?_
         refine all_cons (obs_v rfl (by
           intro k; intro b81 ρ σm hJ hoff hdep
           have e67 : look 92 ρ 67 = (B (x87.2.2.1 == 1)) := hdep 19 rfl rfl 67 rfl
           exact dp_v (v := (B (x87.2.2.1 == 1))) wn (rv_move e67) rfl hJ)) ?_
         refine all_cons (obs_v rfl (by
           intro k; intro b81 ρ σm hJ hoff hdep
           have e7 : look 92 ρ 7 = (Sl a70 r67 c71) := look_off (hoff 7 rfl) rfl
           have e68 : look 92 ρ 68 = (B (x87.2.2.1 == 1)) := hdep 20 rfl rfl 68 rfl
           exact dp_v (v := (Sl a70 r67 c71)) (wanted_yes rfl (yv_of rfl (e68.trans (congrArg B hb93)))) (rv_move e7) rfl hJ)) ?_
         refine all_cons (obs_v rfl (by
           intro k; intro b81 ρ σm hJ hoff hdep
           have e69 : look 92 ρ 69 = (Sl a70 r67 c71) := hdep 21 rfl rfl 69 rfl
           have e68 : look 92 ρ 68 = (B (x87.2.2.1 == 1)) := hdep 20 rfl rfl 68 rfl
           exact dp_v (v := (pt b97 o98)) (wanted_yes rfl (yv_of rfl (e68.trans (congrArg B hb93)))) (rv_ix Try.underlying33 ti39 e69 rfl hi96) rfl hJ)) ?_
         refine all_cons (obs_v rfl (by
           intro k; intro b81 ρ σm hJ hoff hdep
           have e70 : look 92 ρ 70 = (pt b97 o98) := hdep 22 rfl rfl 70 rfl
           have e68 : look 92 ρ 68 = (B (x87.2.2.1 == 1)) := hdep 20 rfl rfl 68 rfl
           exact dp_v (v := (pt b97 (o98 + 3))) (wanted_yes rfl (yv_of rfl (e68.trans (congrArg B hb93)))) (rv_fieldAddr (off := 3) (ft := 3) Try.underlying39 rfl ti3 rfl e70) rfl hJ)) ?_
         refine all_cons (by
           refine ⟨?_, ?_⟩
           ·intro b81 ρ σm hJ hoff hdep
            have e71 : look 92 ρ 71 = (pt b97 (o98 + 3)) := hdep 23 rfl rfl 71 rfl
            have e68 : look 92 ρ 68 = (B (x87.2.2.1 == 1)) := hdep 20 rfl rfl 68 rfl
            obtain ⟨H, m⟩ := id hJ
            have hc99 := ((H.own 2 rfl).at hx95 hi96).snd.snd.snd.int
            exact dp_v (v := (I x94.2.2.2)) (wanted_yes rfl (yv_of rfl (e68.trans (congrArg B hb93)))) (rv_load1 Try.underlying3 rfl e71 hc99) rfl hJ
           trivial) ?_
         refine all_cons (obs_v rfl (by
           intro k; intro b81 ρ σm hJ hoff hdep
           have e72 : look 92 ρ 72 = (I x94.2.2.2) := hdep 24 rfl rfl 72 rfl
           have e68 : look 92 ρ 68 = (B (x87.2.2.1 == 1)) := hdep 20 rfl rfl 68 rfl
           exact dp_v (v := (B (x94.2.2.2 == (-1)))) (wanted_yes rfl (yv_of rfl (e68.trans (congrArg B hb93)))) (rv_eql (a := x94.2.2.2) (b := (-1)) e72 rfl) rfl hJ)) ?_
         refine all_cons (obs_v rfl (by
           intro k; intro b81 ρ σm hJ hoff hdep
           have e68 : look 92 ρ 68 = (B (x87.2.2.1 == 1)) := hdep 20 rfl rfl 68 rfl
           have e73 : look 92 ρ 73 = (B (x94.2.2.2 == (-1))) := hdep 25 rfl rfl 73 rfl
           exact dp_v (v := (B (x94.2.2.2 == (-1)))) wn (rv_pick_t (e68.trans (congrArg B hb93)) e73) rfl hJ)) ?_
         refine all_cons (obs_v rfl (by
           intro k; intro b81 ρ σm hJ hoff hdep
           have e74 : look 92 ρ 74 = (B (x94.2.2.2 == (-1))) := hdep 26 rfl rfl 74 rfl
           exact dp_v (v := (B (x94.2.2.2 == (-1)))) wn (rv_move e74) rfl hJ)) ?_
         refine all_cons (obs_v rfl (by
           intro k; intro b81 ρ σm hJ hoff hdep
           have e75 : look 92 ρ 75 = (B (x94.2.2.2 == (-1))) := hdep 27 rfl rfl 75 rfl
           exact dp_skip (wanted_no rfl (yv_of rfl (e75.trans (congrArg B hb100)))) rfl hJ)) ?_
         refine all_cons (obs_v rfl (by
           intro k; intro b81 ρ σm hJ hoff hdep
           have e75 : look 92 ρ 75 = (B (x94.2.2.2 == (-1))) := hdep 27 rfl rfl 75 rfl
           exact dp_skip (wanted_no rfl (yv_of rfl (e75.trans (congrArg B hb100)))) rfl hJ)) ?_
         refine all_cons (obs_v rfl (by
           intro k; intro b81 ρ σm hJ hoff hdep
           have e75 : look 92 ρ 75 = (B (x94.2.2.2 == (-1))) := hdep 27 rfl rfl 75 rfl
           exact dp_skip (wanted_no rfl (yv_of rfl (e75.trans (congrArg B hb100)))) rfl hJ)) ?_
         refine all_cons (obs_v rfl (by
           intro k; intro b81 ρ σm hJ hoff hdep
           have e75 : look 92 ρ 75 = (B (x94.2.2.2 == (-1))) := hdep 27 rfl rfl 75 rfl
           exact dp_skip (wanted_no rfl (yv_of rfl (e75.trans (congrArg B hb100)))) rfl hJ)) ?_
         refine all_cons (obs_v rfl (by
           intro k; intro b81 ρ σm hJ hoff hdep
           have e75 : look 92 ρ 75 = (B (x94.2.2.2 == (-1))) := hdep 27 rfl rfl 75 rfl
           exact dp_skip (wanted_no rfl (yv_of rfl (e75.trans (congrArg B hb100)))) rfl hJ)) ?_
         refine all_cons (obs_v rfl (by
           intro k; intro b81 ρ σm hJ hoff hdep
           have e75 : look 92 ρ 75 = (B (x94.2.2.2 == (-1))) := hdep 27 rfl rfl 75 rfl
           exact dp_skip (wanted_no rfl (yv_of rfl (e75.trans (congrArg B hb100)))) rfl hJ)) ?_
         refine all_cons (obs_v rfl (by
           intro k; intro b81 ρ σm hJ hoff hdep
           have e75 : look 92 ρ 75 = (B (x94.2.2.2 == (-1))) := hdep 27 rfl rfl 75 rfl
           exact dp_skip (wanted_no rfl (yv_of rfl (e75.trans (congrArg B hb100)))) rfl hJ)) ?_
         refine all_cons (obs_v rfl (by
           intro k; intro b81 ρ σm hJ hoff hdep
           have e75 : look 92 ρ 75 = (B (x94.2.2.2 == (-1))) := hdep 27 rfl rfl 75 rfl
           exact dp_skip (wanted_no rfl (yv_of rfl (e75.trans (congrArg B hb100)))) rfl hJ)) ?_
         refine all_cons (obs_v rfl (by
           intro k; intro b81 ρ σm hJ hoff hdep
           have e75 : look 92 ρ 75 = (B (x94.2.2.2 == (-1))) := hdep 27 rfl rfl 75 rfl
           exact dp_skip (wanted_no rfl (yv_of rfl (e75.trans (congrArg B hb100)))) rfl hJ)) ?_
         refine all_cons (obs_v rfl (by
           intro k; intro b81 ρ σm hJ hoff hdep
           have e75 : look 92 ρ 75 = (B (x94.2.2.2 == (-1))) := hdep 27 rfl rfl 75 rfl
           exact dp_skip (wanted_no rfl (yv_of rfl (e75.trans (congrArg B hb100)))) rfl hJ)) ?_
         refine all_cons (obs_v rfl (by
           intro k; intro b81 ρ σm hJ hoff hdep
           have e75 : look 92 ρ 75 = (B (x94.2.2.2 == (-1))) := hdep 27 rfl rfl 75 rfl
           exact dp_skip (wanted_no rfl (yv_of rfl (e75.trans (congrArg B hb100)))) rfl hJ)) ?_
         refine all_cons (obs_v rfl (by
           intro k; intro b81 ρ σm hJ hoff hdep
           have e75 : look 92 ρ 75 = (B (x94.2.2.2 == (-1))) := hdep 27 rfl rfl 75 rfl
           exact dp_skip (wanted_no rfl (yv_of rfl (e75.trans (congrArg B hb100)))) rfl hJ)) ?_
         refine all_cons (obs_v rfl (by
           intro k; intro b81 ρ σm hJ hoff hdep
           have e75 : look 92 ρ 75 = (B (x94.2.2.2 == (-1))) := hdep 27 rfl rfl 75 rfl
           exact dp_skip (wanted_no rfl (yv_of rfl (e75.trans (congrArg B hb100)))) rfl hJ)) ?_
         refine all_cons (obs_v rfl (by
           intro k; intro b81 ρ σm hJ hoff hdep
           have e75 : look 92 ρ 75 = (B (x94.2.2.2 == (-1))) := hdep 27 rfl rfl 75 rfl
           exact dp_skip (wanted_no rfl (yv_of rfl (e75.trans (congrArg B hb100)))) rfl hJ)) ?_
         exact all_nil
        ·intro b81 ρ σ131 hJ hoff hrel
         have e75 : look 92 ρ 75 = (B (x94.2.2.2 == (-1))) := hrel 27 rfl 75 rfl
         have e79 : look 92 ρ 79 = undef := hrel 31 rfl 79 rfl
         have e89 : look 92 ρ 89 = undef := hrel 41 rfl 89 rfl
         obtain ⟨H, -⟩ := (show Hp S0 σ0 σ131 [Ch.ro 0 (Sl (some ⟨b81, 0, none⟩) ([(x75.1, 0, -1, -1)] : List (Int × Int × Int × Int)) 1) ([(x75.1, 0, -1, -1)] : List (Int × Int × Int × Int)), Ch.ro 0 (Sl a58 r55 c59) r55, Ch.own 0 n0 (Sl a70 r67 c71) r67, Ch.ro n0 (Sl a5 r2.1 c6) r2.1] ∧ Md (fun i => (cov []) i ∨ (fun i => (cov []) i ∨ (fun b => blk (Sl (some ⟨b81, 0, none⟩) ([(x75.1, 0, -1, -1)] : List (Int × Int × Int × Int)) 1) = some b) i) i) σ73 σ131 from hJ)
         clear hJ Hs
         rw [fr_lookL (L := [(75, (B (x94.2.2.2 == (-1)))), (79, undef), (89, undef)]) ⟨e75, e79, e89, trivial⟩]
         clear hoff hrel e75 e79 e89
         refine st_skip (congrArg some hb100) ?_
         refine st (v := (B false)) (rv_pick_f (congrArg B hb100) rfl) ?_
         refine st (v := (B false)) (rv_assign rfl) ?_
         refine w_end ?_
         refine q_then ?_
         refine c_ret ?_
         obtain rfl := Option.some.inj h
         exact fin_ret (v := (B false)) (results_ok Try.results4 (res_tmp (v := (B false)) rfl res_nil) rfl) ⟨rfl, rfl⟩ (H.sel' [] rfl rfl)
      ·replace h := bif_f hb93 h
       have Hs := H
       refine rg2 (σ := σ73) (Nm := (Nat)) 42 [6, 7] [[false, false], [true, false], [true, true]] [[(0, 0), (1, 1)], [(0, 0)], [(0, 0)], [(0, 0)], [(0, 0)], [(0, 0)], [(0, 1)], [(1, 2)], [(2, 2)], [(2, 2)], [(2, 2)], [(2, 2)], [(2, 2)], [(2, 2)], [(2, 2)], [(2, 2)], [(2, 2)], [(2, 2)], [(2, 2)], [(2, 2)], [(2, 2)], [(2, 2)], [(2, 2)], [(2, 2)], [(2, 2)], [(2, 2)], [(2, 2)], [(2, 2)], [(2, 2)], [(2, 2)], [(2, 2)], [(2, 2)], [(2, 2)], [(2, 2)], [(2, 2)], [(2, 2)], [(2, 2)], [(2, 2)], [(2, 2)], [(2, 2)], [(2, 2)], [(2, 2)]] 2 [fun (b81 : (Nat)) => fun σm => Hp S0 σ0 σm [Ch.ro 0 (Sl a58 r55 c59) r55, Ch.own 0 n0 (Sl a70 r67 c71) r67, Ch.ro n0 (Sl a5 r2.1 c6) r2.1] ∧ Md (cov []) σ73 σm, fun (b81 : (Nat)) => fun σm => Hp S0 σ0 σm [Ch.ro 0 (Sl (some ⟨b81, 0, none⟩) ([(x75.1, 0, -1, -1)] : List (Int × Int × Int × Int)) 1) ([(x75.1, 0, -1, -1)] : List (Int × Int × Int × Int)), Ch.ro 0 (Sl a58 r55 c59) r55, Ch.own 0 n0 (Sl a70 r67 c71) r67, Ch.ro n0 (Sl a5 r2.1 c6) r2.1] ∧ Md (fun i => (cov []) i ∨ (fun i => (cov []) i ∨ (fun b => blk (Sl (some ⟨b81, 0, none⟩) ([(x75.1, 0, -1, -1)] : List (Int × Int × Int × Int)) 1) = some b) i) i) σ73 σm, fun (b81 : (Nat)) => fun σm => Hp S0 σ0 σm [Ch.ro 0 (Sl (some ⟨b81, 0, none⟩) ([(x75.1, 0, -1, -1)] : List (Int × Int × Int × Int)) 1) ([(x75.1, 0, -1, -1)] : List (Int × Int × Int × Int)), Ch.ro 0 (Sl a58 r55 c59) r55, Ch.own 0 n0 (Sl a70 r67 c71) r67, Ch.ro n0 (Sl a5 r2.1 c6) r2.1] ∧ Md (fun i => (cov []) i ∨ (fun i => (cov []) i ∨ (fun b => blk (Sl (some ⟨b81, 0, none⟩) ([(x75.1, 0, -1, -1)] : List (Int × Int × Int × Int)) 1) = some b) i) i) σ73 σm] [fun (b81 : (Nat)) => (Sl a58 r55 c59), fun (b81 : (Nat)) => (Sl a5 r2.1 c6), fun (b81 : (Nat)) => (pt b78 o79), fun (b81 : (Nat)) => (pt b78 (o79 + 0)), fun (b81 : (Nat)) => (I x75.1), fun (b81 : (Nat)) => (.agg #[(I x75.1), (I 0), (I (-1)), (I (-1))]), fun (b81 : (Nat)) => (Sl (some ⟨b81, 0, none⟩) ([(x75.1, 0, -1, -1)] : List (Int × Int × Int × Int)) 1), fun (b81 : (Nat)) => (B r82), fun (b81 : (Nat)) => (B r82), fun (b81 : (Nat)) => (Sl a70 r67 c71), fun (b81 : (Nat)) => (I (r67.length : Int)), fun (b81 : (Nat)) => (B ((r67.length : Int) == 2)), fun (b81 : (Nat)) => (B ((r67.length : Int) == 2)), fun (b81 : (Nat)) => (B ((r67.length : Int) == 2)), fun (b81 : (Nat)) => (Sl a70 r67 c71), fun (b81 : (Nat)) => (pt b90 o91), fun (b81 : (Nat)) => (pt b90 (o91 + 2)), fun (b81 : (Nat)) => (I x87.2.2.1), fun (b81 : (Nat)) => (B (x87.2.2.1 == 1)), fun (b81 : (Nat)) => (B (x87.2.2.1 == 1)), fun (b81 : (Nat)) => (B (x87.2.2.1 == 1)), fun (b81 : (Nat)) => undef, fun (b81 : (Nat)) => undef, fun (b81 : (Nat)) => undef, fun (b81 : (Nat)) => undef, fun (b81 : (Nat)) => undef, fun (b81 : (Nat)) => (B false), fun (b81 : (Nat)) => (B false), fun (b81 : (Nat)) => undef, fun (b81 : (Nat)) => undef, fun (b81 : (Nat)) => undef, fun (b81 : (Nat)) => undef, fun (b81 : (Nat)) => undef, fun (b81 : (Nat)) => undef, fun (b81 : (Nat)) => undef, fun (b81 : (Nat)) => undef, fun (b81 : (Nat)) => undef, fun (b81 : (Nat)) => undef, fun (b81 : (Nat)) => undef, fun (b81 : (Nat)) => undef, fun (b81 : (Nat)) => undef, fun (b81 : (Nat)) => undef] (0) (by kernel_rfl) (by kernel_rfl) ?_ ?_ ?_
       ·intro σm m0
        exact ⟨H.grow (m0.mono fun _ h => h.elim), m0⟩
       ·refine all_cons (obs_v rfl (by
          intro k; intro b81 ρ σm hJ hoff hdep
          have e6 : look 92 ρ 6 = (Sl a58 r55 c59) := look_off (hoff 6 rfl) rfl
          exact dp_v (v := (Sl a58 r55 c59)) wn (rv_move e6) rfl hJ)) ?_
        refine all_cons (obs_v rfl (by
          intro k; intro b81 ρ σm hJ hoff hdep
          have e3 : look 92 ρ 3 = (Sl a5 r2.1 c6) := look_off (hoff 3 rfl) rfl
          exact dp_v (v := (Sl a5 r2.1 c6)) wn (rv_move e3) rfl hJ)) ?_
        refine all_cons (obs_v rfl (by
          intro k; intro b81 ρ σm hJ hoff hdep
          have e49 : look 92 ρ 49 = (Sl a5 r2.1 c6) := hdep 1 rfl rfl 49 rfl
          exact dp_v (v := (pt b78 o79)) wn (rv_ix Try.underlying23 ti37 e49 rfl hi77) rfl hJ)) ?_
        refine all_cons (obs_v rfl (by
          intro k; intro b81 ρ σm hJ hoff hdep
          have e50 : look 92 ρ 50 = (pt b78 o79) := hdep 2 rfl rfl 50 rfl
          exact dp_v (v := (pt b78 (o79 + 0))) wn (rv_fieldAddr (off := 0) (ft := 3) Try.underlying37 rfl ti3 rfl e50) rfl hJ)) ?_
        refine all_cons (by
          refine ⟨?_, ?_⟩
          ·intro b81 ρ σm hJ hoff hdep
           have e51 : look 92 ρ 51 = (pt b78 (o79 + 0)) := hdep 3 rfl rfl 51 rfl
           obtain ⟨H, m⟩ := id hJ
           replace hc80 := (Hs.ro 2 rfl).hmd hx76 hi77 (k := 0) (by decide) hc80 m
           exact dp_v (v := (I x75.1)) wn (rv_load1 Try.underlying3 rfl e51 hc80) rfl hJ
          trivial) ?_
        refine all_cons (obs_v rfl (by
          intro k; intro b81 ρ σm hJ hoff hdep
          have e52 : look 92 ρ 52 = (I x75.1) := hdep 4 rfl rfl 52 rfl
          exact dp_v (v := (.agg #[(I x75.1), (I 0), (I (-1)), (I (-1))])) wn (rv_build (ps := [(0, (I x75.1)), (2, (I (-1))), (3, (I (-1)))]) Try.underlying39 ti39 (bp39 Try.underlying39) (by show [(0, look 92 ρ 52), (2, (I (-1))), (3, (I (-1)))] = _; rw [e52]) (by kernel_rfl)) rfl hJ)) ?_
        refine all_cons (by
          refine ⟨?_, ?_⟩
          ·intro b81 ρ σm hJ hoff hdep
           have e53 : look 92 ρ 53 = (.agg #[(I x75.1), (I 0), (I (-1)), (I (-1))]) := hdep 5 rfl rfl 53 rfl
           obtain ⟨H, m⟩ := id hJ
           refine dp_ex wn (ex_buildSlice (el := 0) (xs := ([(x75.1, 0, -1, -1)] : List (Int × Int × Int × Int))) (ps := [(0, (.agg #[(I x75.1), (I 0), (I (-1)), (I (-1))]))]) (cs := [(I x75.1), (I 0), (I (-1)), (I (-1))]) H hn0 Try.underlying33 ti39 rfl (by show [(0, look 92 ρ 53)] = _; rw [e53]) (by kernel_rfl) (.cons (c := [(I x75.1), (I 0), (I (-1)), (I (-1))]) ⟨[(I x75.1)], [(I 0), (I (-1)), (I (-1))], rfl, rfl, ⟨[(I 0)], [(I (-1)), (I (-1))], rfl, rfl, ⟨[(I (-1))], [(I (-1))], rfl, rfl, rfl⟩⟩⟩ (.nil)) rfl) ?_
           rintro _ σq ⟨b81x, rfl, H2, m2⟩
           obtain ⟨σr0, hwr0, H2, mr0⟩ := H2.pub 0 rfl (Nat.zero_le _)
           exact ⟨_, b81x, hwr0, rfl, ⟨H2.sel' [0, 1, 2, 3] rfl rfl, m.comp (m2.comp mr0)⟩, stab [0, 1, 2, 3, 4, 5] (by kernel_rfl) ⟨rfl, rfl, rfl, rfl, rfl, rfl, trivial⟩⟩
          trivial) ?_
        refine all_cons (by
          refine ⟨?_, ?_⟩
          ·intro b81 ρ σm hJ hoff hdep
           have e48 : look 92 ρ 48 = (Sl a58 r55 c59) := hdep 0 rfl rfl 48 rfl
           have e54 : look 92 ρ 54 = (Sl (some ⟨b81, 0, none⟩) ([(x75.1, 0, -1, -1)] : List (Int × Int × Int × Int)) 1) := hdep 6 rfl rfl 54 rfl
           obtain ⟨H, m⟩ := id hJ
           refine dp_cx wn (cx_call (hc84 b81) (ent_f (hc84 b81).fn (by show [look 92 ρ 48, look 92 ρ 54] = _; rw [e48, e54])) hn0 (H.sel' [1, 0, 0, 1, 2, 3] rfl rfl : Hp S0 σ0 _ ([_, _] ++ _))) ?_
           rintro _ σq ⟨_, ⟨rfl, rfl⟩, H2, m2⟩
           exact ⟨_, b81, rfl, rfl, ⟨H2.sel' [0, 1, 2, 3] rfl rfl, m.comp0 (m2.mono (fun i h => by simp [cov, Ch.ro] at h))⟩, stab [0, 1, 2, 3, 4, 5, 6] (by kernel_rfl) ⟨rfl, rfl, rfl, rfl, rfl, rfl, rfl, trivial⟩⟩
          trivial) ?_
        refine all_cons (obs_v rfl (by
          intro k; intro b81 ρ σm hJ hoff hdep
          have e55 : look 92 ρ 55 = (B r82) := hdep 7 rfl rfl 55 rfl
          exact dp_v (v := (B r82)) wn (rv_move e55) rfl hJ)) ?_
        refine all_cons (obs_v rfl (by
          intro k; intro b81 ρ σm hJ hoff hdep
          have e7 : look 92 ρ 7 = (Sl a70 r67 c71) := look_off (hoff 7 rfl) rfl
          have e56 : look 92 ρ 56 = (B r82) := hdep 8 rfl rfl 56 rfl
          exact dp_v (v := (Sl a70 r67 c71)) (wanted_yes rfl (yv_of rfl (e56.trans (congrArg B hb85)))) (rv_move e7) rfl hJ)) ?_
        refine all_cons (obs_v rfl (by
          intro k; intro b81 ρ σm hJ hoff hdep
          have e57 : look 92 ρ 57 = (Sl a70 r67 c71) := hdep 9 rfl rfl 57 rfl
          have e56 : look 92 ρ 56 = (B r82) := hdep 8 rfl rfl 56 rfl
          exact dp_v (v := (I (r67.length : Int))) (wanted_yes rfl (yv_of rfl (e56.trans (congrArg B hb85)))) (rv_len Try.underlying33 e57) rfl hJ)) ?_
        refine all_cons (obs_v rfl (by
          intro k; intro b81 ρ σm hJ hoff hdep
          have e58 : look 92 ρ 58 = (I (r67.length : Int)) := hdep 10 rfl rfl 58 rfl
          have e56 : look 92 ρ 56 = (B r82) := hdep 8 rfl rfl 56 rfl
          exact dp_v (v := (B ((r67.length : Int) == 2))) (wanted_yes rfl (yv_of rfl (e56.trans (congrArg B hb85)))) (rv_eql (a := (r67.length : Int)) (b := 2) e58 rfl) rfl hJ)) ?_
        refine all_cons (obs_v rfl (by
          intro k; intro b81 ρ σm hJ hoff hdep
          have e56 : look 92 ρ 56 = (B r82) := hdep 8 rfl rfl 56 rfl
          have e59 : look 92 ρ 59 = (B ((r67.length : Int) == 2)) := hdep 11 rfl rfl 59 rfl
          exact dp_v (v := (B ((r67.length : Int) == 2))) wn (rv_pick_t (e56.trans (congrArg B hb85)) e59) rfl hJ)) ?_
        refine all_cons (obs_v rfl (by
          intro k; intro b81 ρ σm hJ hoff hdep
          have e60 : look 92 ρ 60 = (B ((r67.length : Int) == 2)) := hdep 12 rfl rfl 60 rfl
          exact dp_v (v := (B ((r67.length : Int) == 2))) wn (rv_move e60) rfl hJ)) ?_
        refine all_cons (obs_v rfl (by
          intro k; intro b81 ρ σm hJ hoff hdep
          have e7 : look 92 ρ 7 = (Sl a70 r67 c71) := look_off (hoff 7 rfl) rfl
          have e61 : look 92 ρ 61 = (B ((r67.length : Int) == 2)) := hdep 13 rfl rfl 61 rfl
          exact dp_v (v := (Sl a70 r67 c71)) (wanted_yes rfl (yv_of rfl (e61.trans (congrArg B hb86)))) (rv_move e7) rfl hJ)) ?_
        refine all_cons (obs_v rfl (by
          intro k; intro b81 ρ σm hJ hoff hdep
          have e62 : look 92 ρ 62 = (Sl a70 r67 c71) := hdep 14 rfl rfl 62 rfl
          have e61 : look 92 ρ 61 = (B ((r67.length : Int) == 2)) := hdep 13 rfl rfl 61 rfl
          exact dp_v (v := (pt b90 o91)) (wanted_yes rfl (yv_of rfl (e61.trans (congrArg B hb86)))) (rv_ix Try.underlying33 ti39 e62 rfl hi89) rfl hJ)) ?_
        refine all_cons (obs_v rfl (by
          intro k; intro b81 ρ σm hJ hoff hdep
          have e63 : look 92 ρ 63 = (pt b90 o91) := hdep 15 rfl rfl 63 rfl
          have e61 : look 92 ρ 61 = (B ((r67.length : Int) == 2)) := hdep 13 rfl rfl 61 rfl
          exact dp_v (v := (pt b90 (o91 + 2))) (wanted_yes rfl (yv_of rfl (e61.trans (congrArg B hb86)))) (rv_fieldAddr (off := 2) (ft := 3) Try.underlying39 rfl ti3 rfl e63) rfl hJ)) ?_
        refine all_cons (by
          refine ⟨?_, ?_⟩
          ·intro b81 ρ σm hJ hoff hdep
           have e64 : look 92 ρ 64 = (pt b90 (o91 + 2)) := hdep 16 rfl rfl 64 rfl
           have e61 : look 92 ρ 61 = (B ((r67.length : Int) == 2)) := hdep 13 rfl rfl 61 rfl
           obtain ⟨H, m⟩ := id hJ
           have hc92 := ((H.own 2 rfl).at hx88 hi89).snd.snd.fst.int
           exact dp_v (v := (I x87.2.2.1)) (wanted_yes rfl (yv_of rfl (e61.trans (congrArg B hb86)))) (rv_load1 Try.underlying3 rfl e64 hc92) rfl hJ
          trivial) ?_
        refine all_cons (obs_v rfl (by
          intro k; intro b81 ρ σm hJ hoff hdep
          have e65 : look 92 ρ 65 = (I x87.2.2.1) := hdep 17 rfl rfl 65 rfl
          have e61 : look 92 ρ 61 = (B ((r67.length : Int) == 2)) := hdep 13 rfl rfl 61 rfl
          exact dp_v (v := (B (x87.2.2.1 == 1))) (wanted_yes rfl (yv_of rfl (e61.trans (congrArg B hb86)))) (rv_eql (a := x87.2.2.1) (b := 1) e65 rfl) rfl hJ)) ?_
        refine all_cons (obs_v rfl (by
          intro k; intro b81 ρ σm hJ hoff hdep
          have e61 : look 92 ρ 61 = (B ((r67.length : Int) == 2)) := hdep 13 rfl rfl 61 rfl
          have e66 : look 92 ρ 66 = (B (x87.2.2.1 == 1)) := hdep 18 rfl rfl 66 rfl
          exact dp_v (v := (B (x87.2.2.1 == 1))) wn (rv_pick_t (e61.trans (congrArg B hb86)) e66) rfl hJ)) ?_
        refine all_cons (obs_v rfl (by
          intro k; intro b81 ρ σm hJ hoff hdep
          have e67 : look 92 ρ 67 = (B (x87.2.2.1 == 1)) := hdep 19 rfl rfl 67 rfl
          exact dp_v (v := (B (x87.2.2.1 == 1))) wn (rv_move e67) rfl hJ)) ?_
        refine all_cons (obs_v rfl (by
          intro k; intro b81 ρ σm hJ hoff hdep
          have e68 : look 92 ρ 68 = (B (x87.2.2.1 == 1)) := hdep 20 rfl rfl 68 rfl
          exact dp_skip (wanted_no rfl (yv_of rfl (e68.trans (congrArg B hb93)))) rfl hJ)) ?_
        refine all_cons (obs_v rfl (by
          intro k; intro b81 ρ σm hJ hoff hdep
          have e68 : look 92 ρ 68 = (B (x87.2.2.1 == 1)) := hdep 20 rfl rfl 68 rfl
          exact dp_skip (wanted_no rfl (yv_of rfl (e68.trans (congrArg B hb93)))) rfl hJ)) ?_
        refine all_cons (obs_v rfl (by
          intro k; intro b81 ρ σm hJ hoff hdep
          have e68 : look 92 ρ 68 = (B (x87.2.2.1 == 1)) := hdep 20 rfl rfl 68 rfl
          exact dp_skip (wanted_no rfl (yv_of rfl (e68.trans (congrArg B hb93)))) rfl hJ)) ?_
        refine all_cons (obs_v rfl (by
          intro k; intro b81 ρ σm hJ hoff hdep
          have e68 : look 92 ρ 68 = (B (x87.2.2.1 == 1)) := hdep 20 rfl rfl 68 rfl
          exact dp_skip (wanted_no rfl (yv_of rfl (e68.trans (congrArg B hb93)))) rfl hJ)) ?_
        refine all_cons (obs_v rfl (by
          intro k; intro b81 ρ σm hJ hoff hdep
          have e68 : look 92 ρ 68 = (B (x87.2.2.1 == 1)) := hdep 20 rfl rfl 68 rfl
          exact dp_skip (wanted_no rfl (yv_of rfl (e68.trans (congrArg B hb93)))) rfl hJ)) ?_
        refine all_cons (obs_v rfl (by
          intro k; intro b81 ρ σm hJ hoff hdep
          have e68 : look 92 ρ 68 = (B (x87.2.2.1 == 1)) := hdep 20 rfl rfl 68 rfl
          exact dp_v (v := (B false)) wn (rv_pick_f (e68.trans (congrArg B hb93)) rfl) rfl hJ)) ?_
        refine all_cons (obs_v rfl (by
          intro k; intro b81 ρ σm hJ hoff hdep
          have e74 : look 92 ρ 74 = (B false) := hdep 26 rfl rfl 74 rfl
          exact dp_v (v := (B false)) wn (rv_move e74) rfl hJ)) ?_
        refine all_cons (obs_v rfl (by
          intro k; intro b81 ρ σm hJ hoff hdep
          have e75 : look 92 ρ 75 = (B false) := hdep 27 rfl rfl 75 rfl
          exact dp_skip (wanted_no rfl (yv_of rfl e75)) rfl hJ)) ?_
        refine all_cons (obs_v rfl (by
          intro k; intro b81 ρ σm hJ hoff hdep
          have e75 : look 92 ρ 75 = (B false) := hdep 27 rfl rfl 75 rfl
          exact dp_skip (wanted_no rfl (yv_of rfl e75)) rfl hJ)) ?_
        refine all_cons (obs_v rfl (by
          intro k; intro b81 ρ σm hJ hoff hdep
          have e75 : look 92 ρ 75 = (B false) := hdep 27 rfl rfl 75 rfl
          exact dp_skip (wanted_no rfl (yv_of rfl e75)) rfl hJ)) ?_
        refine all_cons (obs_v rfl (by
          intro k; intro b81 ρ σm hJ hoff hdep
          have e75 : look 92 ρ 75 = (B false) := hdep 27 rfl rfl 75 rfl
          exact dp_skip (wanted_no rfl (yv_of rfl e75)) rfl hJ)) ?_
        refine all_cons (obs_v rfl (by
          intro k; intro b81 ρ σm hJ hoff hdep
          have e75 : look 92 ρ 75 = (B false) := hdep 27 rfl rfl 75 rfl
          exact dp_skip (wanted_no rfl (yv_of rfl e75)) rfl hJ)) ?_
        refine all_cons (obs_v rfl (by
          intro k; intro b81 ρ σm hJ hoff hdep
          have e75 : look 92 ρ 75 = (B false) := hdep 27 rfl rfl 75 rfl
          exact dp_skip (wanted_no rfl (yv_of rfl e75)) rfl hJ)) ?_
        refine all_cons (obs_v rfl (by
          intro k; intro b81 ρ σm hJ hoff hdep
          have e75 : look 92 ρ 75 = (B false) := hdep 27 rfl rfl 75 rfl
          exact dp_skip (wanted_no rfl (yv_of rfl e75)) rfl hJ)) ?_
        refine all_cons (obs_v rfl (by
          intro k; intro b81 ρ σm hJ hoff hdep
          have e75 : look 92 ρ 75 = (B false) := hdep 27 rfl rfl 75 rfl
          exact dp_skip (wanted_no rfl (yv_of rfl e75)) rfl hJ)) ?_
        refine all_cons (obs_v rfl (by
          intro k; intro b81 ρ σm hJ hoff hdep
          have e75 : look 92 ρ 75 = (B false) := hdep 27 rfl rfl 75 rfl
          exact dp_skip (wanted_no rfl (yv_of rfl e75)) rfl hJ)) ?_
        refine all_cons (obs_v rfl (by
          intro k; intro b81 ρ σm hJ hoff hdep
          have e75 : look 92 ρ 75 = (B false) := hdep 27 rfl rfl 75 rfl
          exact dp_skip (wanted_no rfl (yv_of rfl e75)) rfl hJ)) ?_
        refine all_cons (obs_v rfl (by
          intro k; intro b81 ρ σm hJ hoff hdep
          have e75 : look 92 ρ 75 = (B false) := hdep 27 rfl rfl 75 rfl
          exact dp_skip (wanted_no rfl (yv_of rfl e75)) rfl hJ)) ?_
        refine all_cons (obs_v rfl (by
          intro k; intro b81 ρ σm hJ hoff hdep
          have e75 : look 92 ρ 75 = (B false) := hdep 27 rfl rfl 75 rfl
          exact dp_skip (wanted_no rfl (yv_of rfl e75)) rfl hJ)) ?_
        refine all_cons (obs_v rfl (by
          intro k; intro b81 ρ σm hJ hoff hdep
          have e75 : look 92 ρ 75 = (B false) := hdep 27 rfl rfl 75 rfl
          exact dp_skip (wanted_no rfl (yv_of rfl e75)) rfl hJ)) ?_
        refine all_cons (obs_v rfl (by
          intro k; intro b81 ρ σm hJ hoff hdep
          have e75 : look 92 ρ 75 = (B false) := hdep 27 rfl rfl 75 rfl
          exact dp_skip (wanted_no rfl (yv_of rfl e75)) rfl hJ)) ?_
        exact all_nil
       ·intro b81 ρ σ132 hJ hoff hrel
        have e75 : look 92 ρ 75 = (B false) := hrel 27 rfl 75 rfl
        have e79 : look 92 ρ 79 = undef := hrel 31 rfl 79 rfl
        have e89 : look 92 ρ 89 = undef := hrel 41 rfl 89 rfl
        obtain ⟨H, -⟩ := (show Hp S0 σ0 σ132 [Ch.ro 0 (Sl (some ⟨b81, 0, none⟩) ([(x75.1, 0, -1, -1)] : List (Int × Int × Int × Int)) 1) ([(x75.1, 0, -1, -1)] : List (Int × Int × Int × Int)), Ch.ro 0 (Sl a58 r55 c59) r55, Ch.own 0 n0 (Sl a70 r67 c71) r67, Ch.ro n0 (Sl a5 r2.1 c6) r2.1] ∧ Md (fun i => (cov []) i ∨ (fun i => (cov []) i ∨ (fun b => blk (Sl (some ⟨b81, 0, none⟩) ([(x75.1, 0, -1, -1)] : List (Int × Int × Int × Int)) 1) = some b) i) i) σ73 σ132 from hJ)
        clear hJ Hs
        rw [fr_lookL (L := [(75, (B false)), (79, undef), (89, undef)]) ⟨e75, e79, e89, trivial⟩]
        clear hoff hrel e75 e79 e89
        refine st_skip rfl ?_
        refine st (v := (B false)) (rv_pick_f rfl rfl) ?_
        refine st (v := (B false)) (rv_assign rfl) ?_
        refine w_end ?_
        refine q_then ?_
        refine c_ret ?_
        obtain rfl := Option.some.inj h
        exact fin_ret (v := (B false)) (results_ok Try.results4 (res_tmp (v := (B false)) rfl res_nil) rfl) ⟨rfl, rfl⟩ (H.sel' [] rfl rfl)
     ·replace h := bif_f hb86 h
      have Hs := H
      refine rg2 (σ := σ73) (Nm := (Nat)) 42 [6, 7] [[false, false], [true, false], [true, true]] [[(0, 0), (1, 1)], [(0, 0)], [(0, 0)], [(0, 0)], [(0, 0)], [(0, 0)], [(0, 1)], [(1, 2)], [(2, 2)], [(2, 2)], [(2, 2)], [(2, 2)], [(2, 2)], [(2, 2)], [(2, 2)], [(2, 2)], [(2, 2)], [(2, 2)], [(2, 2)], [(2, 2)], [(2, 2)], [(2, 2)], [(2, 2)], [(2, 2)], [(2, 2)], [(2, 2)], [(2, 2)], [(2, 2)], [(2, 2)], [(2, 2)], [(2, 2)], [(2, 2)], [(2, 2)], [(2, 2)], [(2, 2)], [(2, 2)], [(2, 2)], [(2, 2)], [(2, 2)], [(2, 2)], [(2, 2)], [(2, 2)]] 2 [fun (b81 : (Nat)) => fun σm => Hp S0 σ0 σm [Ch.ro 0 (Sl a58 r55 c59) r55, Ch.own 0 n0 (Sl a70 r67 c71) r67, Ch.ro n0 (Sl a5 r2.1 c6) r2.1] ∧ Md (cov []) σ73 σm, fun (b81 : (Nat)) => fun σm => Hp S0 σ0 σm [Ch.ro 0 (Sl (some ⟨b81, 0, none⟩) ([(x75.1, 0, -1, -1)] : List (Int × Int × Int × Int)) 1) ([(x75.1, 0, -1, -1)] : List (Int × Int × Int × Int)), Ch.ro 0 (Sl a58 r55 c59) r55, Ch.own 0 n0 (Sl a70 r67 c71) r67, Ch.ro n0 (Sl a5 r2.1 c6) r2.1] ∧ Md (fun i => (cov []) i ∨ (fun i => (cov []) i ∨ (fun b => blk (Sl (some ⟨b81, 0, none⟩) ([(x75.1, 0, -1, -1)] : List (Int × Int × Int × Int)) 1) = some b) i) i) σ73 σm, fun (b81 : (Nat)) => fun σm => Hp S0 σ0 σm [Ch.ro 0 (Sl (some ⟨b81, 0, none⟩) ([(x75.1, 0, -1, -1)] : List (Int × Int × Int × Int)) 1) ([(x75.1, 0, -1, -1)] : List (Int × Int × Int × Int)), Ch.ro 0 (Sl a58 r55 c59) r55, Ch.own 0 n0 (Sl a70 r67 c71) r67, Ch.ro n0 (Sl a5 r2.1 c6) r2.1] ∧ Md (fun i => (cov []) i ∨ (fun i => (cov []) i ∨ (fun b => blk (Sl (some ⟨b81, 0, none⟩) ([(x75.1, 0, -1, -1)] : List (Int × Int × Int × Int)) 1) = some b) i) i) σ73 σm] [fun (b81 : (Nat)) => (Sl a58 r55 c59), fun (b81 : (Nat)) => (Sl a5 r2.1 c6), fun (b81 : (Nat)) => (pt b78 o79), fun (b81 : (Nat)) => (pt b78 (o79 + 0)), fun (b81 : (Nat)) => (I x75.1), fun (b81 : (Nat)) => (.agg #[(I x75.1), (I 0), (I (-1)), (I (-1))]), fun (b81 : (Nat)) => (Sl (some ⟨b81, 0, none⟩) ([(x75.1, 0, -1, -1)] : List (Int × Int × Int × Int)) 1), fun (b81 : (Nat)) => (B r82), fun (b81 : (Nat)) => (B r82), fun (b81 : (Nat)) => (Sl a70 r67 c71), fun (b81 : (Nat)) => (I (r67.length : Int)), fun (b81 : (Nat)) => (B ((r67.length : Int) == 2)), fun (b81 : (Nat)) => (B ((r67.length : Int) == 2)), fun (b81 : (Nat)) => (B ((r67.length : Int) == 2)), fun (b81 : (Nat)) => undef, fun (b81 : (Nat)) => undef, fun (b81 : (Nat)) => undef, fun (b81 : (Nat)) => undef, fun (b81 : (Nat)) => undef, fun (b81 : (Nat)) => (B false), fun (b81 : (Nat)) => (B false), fun (b81 : (Nat)) => undef, fun (b81 : (Nat)) => undef, fun (b81 : (Nat)) => undef, fun (b81 : (Nat)) => undef, fun (b81 : (Nat)) => undef, fun (b81 : (Nat)) => (B false), fun (b81 : (Nat)) => (B false), fun (b81 : (Nat)) => undef, fun (b81 : (Nat)) => undef, fun (b81 : (Nat)) => undef, fun (b81 : (Nat)) => undef, fun (b81 : (Nat)) => undef, fun (b81 : (Nat)) => undef, fun (b81 : (Nat)) => undef, fun (b81 : (Nat)) => undef, fun (b81 : (Nat)) => undef, fun (b81 : (Nat)) => undef, fun (b81 : (Nat)) => undef, fun (b81 : (Nat)) => undef, fun (b81 : (Nat)) => undef, fun (b81 : (Nat)) => undef] (0) (by kernel_rfl) (by kernel_rfl) ?_ ?_ ?_
      ·intro σm m0
       exact ⟨H.grow (m0.mono fun _ h => h.elim), m0⟩
      ·refine all_cons (obs_v rfl (by
         intro k; intro b81 ρ σm hJ hoff hdep
         have e6 : look 92 ρ 6 = (Sl a58 r55 c59) := look_off (hoff 6 rfl) rfl
         exact dp_v (v := (Sl a58 r55 c59)) wn (rv_move e6) rfl hJ)) ?_
       refine all_cons (obs_v rfl (by
         intro k; intro b81 ρ σm hJ hoff hdep
         have e3 : look 92 ρ 3 = (Sl a5 r2.1 c6) := look_off (hoff 3 rfl) rfl
         exact dp_v (v := (Sl a5 r2.1 c6)) wn (rv_move e3) rfl hJ)) ?_
       refine all_cons (obs_v rfl (by
         intro k; intro b81 ρ σm hJ hoff hdep
         have e49 : look 92 ρ 49 = (Sl a5 r2.1 c6) := hdep 1 rfl rfl 49 rfl
         exact dp_v (v := (pt b78 o79)) wn (rv_ix Try.underlying23 ti37 e49 rfl hi77) rfl hJ)) ?_
       refine all_cons (obs_v rfl (by
         intro k; intro b81 ρ σm hJ hoff hdep
         have e50 : look 92 ρ 50 = (pt b78 o79) := hdep 2 rfl rfl 50 rfl
         exact dp_v (v := (pt b78 (o79 + 0))) wn (rv_fieldAddr (off := 0) (ft := 3) Try.underlying37 rfl ti3 rfl e50) rfl hJ)) ?_
       refine all_cons (by
         refine ⟨?_, ?_⟩
         ·intro b81 ρ σm hJ hoff hdep
          have e51 : look 92 ρ 51 = (pt b78 (o79 + 0)) := hdep 3 rfl rfl 51 rfl
          obtain ⟨H, m⟩ := id hJ
          replace hc80 := (Hs.ro 2 rfl).hmd hx76 hi77 (k := 0) (by decide) hc80 m
          exact dp_v (v := (I x75.1)) wn (rv_load1 Try.underlying3 rfl e51 hc80) rfl hJ
         trivial) ?_
       refine all_cons (obs_v rfl (by
         intro k; intro b81 ρ σm hJ hoff hdep
         have e52 : look 92 ρ 52 = (I x75.1) := hdep 4 rfl rfl 52 rfl
         exact dp_v (v := (.agg #[(I x75.1), (I 0), (I (-1)), (I (-1))])) wn (rv_build (ps := [(0, (I x75.1)), (2, (I (-1))), (3, (I (-1)))]) Try.underlying39 ti39 (bp39 Try.underlying39) (by show [(0, look 92 ρ 52), (2, (I (-1))), (3, (I (-1)))] = _; rw [e52]) (by kernel_rfl)) rfl hJ)) ?_
       refine all_cons (by
         refine ⟨?_, ?_⟩
         ·intro b81 ρ σm hJ hoff hdep
          have e53 : look 92 ρ 53 = (.agg #[(I x75.1), (I 0), (I (-1)), (I (-1))]) := hdep 5 rfl rfl 53 rfl
          obtain ⟨H, m⟩ := id hJ
          refine dp_ex wn (ex_buildSlice (el := 0) (xs := ([(x75.1, 0, -1, -1)] : List (Int × Int × Int × Int))) (ps := [(0, (.agg #[(I x75.1), (I 0), (I (-1)), (I (-1))]))]) (cs := [(I x75.1), (I 0), (I (-1)), (I (-1))]) H hn0 Try.underlying33 ti39 rfl (by show [(0, look 92 ρ 53)] = _; rw [e53]) (by kernel_rfl) (.cons (c := [(I x75.1), (I 0), (I (-1)), (I (-1))]) ⟨[(I x75.1)], [(I 0), (I (-1)), (I (-1))], rfl, rfl, ⟨[(I 0)], [(I (-1)), (I (-1))], rfl, rfl, ⟨[(I (-1))], [(I (-1))], rfl, rfl, rfl⟩⟩⟩ (.nil)) rfl) ?_
          rintro _ σq ⟨b81x, rfl, H2, m2⟩
          obtain ⟨σr0, hwr0, H2, mr0⟩ := H2.pub 0 rfl (Nat.zero_le _)
          exact ⟨_, b81x, hwr0, rfl, ⟨H2.sel' [0, 1, 2, 3] rfl rfl, m.comp (m2.comp mr0)⟩, stab [0, 1, 2, 3, 4, 5] (by kernel_rfl) ⟨rfl, rfl, rfl, rfl, rfl, rfl, trivial⟩⟩
         trivial) ?_
       refine all_cons (by
         refine ⟨?_, ?_⟩
         ·intro b81 ρ σm hJ hoff hdep
          have e48 : look 92 ρ 48 = (Sl a58 r55 c59) := hdep 0 rfl rfl 48 rfl
          have e54 : look 92 ρ 54 = (Sl (some ⟨b81, 0, none⟩) ([(x75.1, 0, -1, -1)] : List (Int × Int × Int × Int)) 1) := hdep 6 rfl rfl 54 rfl
          obtain ⟨H, m⟩ := id hJ
          refine dp_cx wn (cx_call (hc84 b81) (ent_f (hc84 b81).fn (by show [look 92 ρ 48, look 92 ρ 54] = _; rw [e48, e54])) hn0 (H.sel' [1, 0, 0, 1, 2, 3] rfl rfl : Hp S0 σ0 _ ([_, _] ++ _))) ?_
          rintro _ σq ⟨_, ⟨rfl, rfl⟩, H2, m2⟩
          exact ⟨_, b81, rfl, rfl, ⟨H2.sel' [0, 1, 2, 3] rfl rfl, m.comp0 (m2.mono (fun i h => by simp [cov, Ch.ro] at h))⟩, stab [0, 1, 2, 3, 4, 5, 6] (by kernel_rfl) ⟨rfl, rfl, rfl, rfl, rfl, rfl, rfl, trivial⟩⟩
         trivial) ?_
       refine all_cons (obs_v rfl (by
         intro k; intro b81 ρ σm hJ hoff hdep
         have e55 : look 92 ρ 55 = (B r82) := hdep 7 rfl rfl 55 rfl
         exact dp_v (v := (B r82)) wn (rv_move e55) rfl hJ)) ?_
       refine all_cons (obs_v rfl (by
         intro k; intro b81 ρ σm hJ hoff hdep
         have e7 : look 92 ρ 7 = (Sl a70 r67 c71) := look_off (hoff 7 rfl) rfl
         have e56 : look 92 ρ 56 = (B r82) := hdep 8 rfl rfl 56 rfl
         exact dp_v (v := (Sl a70 r67 c71)) (wanted_yes rfl (yv_of rfl (e56.trans (congrArg B hb85)))) (rv_move e7) rfl hJ)) ?_
       refine all_cons (obs_v rfl (by
         intro k; intro b81 ρ σm hJ hoff hdep
         have e57 : look 92 ρ 57 = (Sl a70 r67 c71) := hdep 9 rfl rfl 57 rfl
         have e56 : look 92 ρ 56 = (B r82) := hdep 8 rfl rfl 56 rfl
         exact dp_v (v := (I (r67.length : Int))) (wanted_yes rfl (yv_of rfl (e56.trans (congrArg B hb85)))) (rv_len Try.underlying33 e57) rfl hJ)) ?_
       refine all_cons (obs_v rfl (by
         intro k; intro b81 ρ σm hJ hoff hdep
         have e58 : look 92 ρ 58 = (I (r67.length : Int)) := hdep 10 rfl rfl 58 rfl
         have e56 : look 92 ρ 56 = (B r82) := hdep 8 rfl rfl 56 rfl
         exact dp_v (v := (B ((r67.length : Int) == 2))) (wanted_yes rfl (yv_of rfl (e56.trans (congrArg B hb85)))) (rv_eql (a := (r67.length : Int)) (b := 2) e58 rfl) rfl hJ)) ?_
       refine all_cons (obs_v rfl (by
         intro k; intro b81 ρ σm hJ hoff hdep
         have e56 : look 92 ρ 56 = (B r82) := hdep 8 rfl rfl 56 rfl
         have e59 : look 92 ρ 59 = (B ((r67.length : Int) == 2)) := hdep 11 rfl rfl 59 rfl
         exact dp_v (v := (B ((r67.length : Int) == 2))) wn (rv_pick_t (e56.trans (congrArg B hb85)) e59) rfl hJ)) ?_
       refine all_cons (obs_v rfl (by
         intro k; intro b81 ρ σm hJ hoff hdep
         have e60 : look 92 ρ 60 = (B ((r67.length : Int) == 2)) := hdep 12 rfl rfl 60 rfl
         exact dp_v (v := (B ((r67.length : Int) == 2))) wn (rv_move e60) rfl hJ)) ?_
       refine all_cons (obs_v rfl (by
         intro k; intro b81 ρ σm hJ hoff hdep
         have e61 : look 92 ρ 61 = (B ((r67.length : Int) == 2)) := hdep 13 rfl rfl 61 rfl
         exact dp_skip (wanted_no rfl (yv_of rfl (e61.trans (congrArg B hb86)))) rfl hJ)) ?_
       refine all_cons (obs_v rfl (by
         intro k; intro b81 ρ σm hJ hoff hdep
         have e61 : look 92 ρ 61 = (B ((r67.length : Int) == 2)) := hdep 13 rfl rfl 61 rfl
         exact dp_skip (wanted_no rfl (yv_of rfl (e61.trans (congrArg B hb86)))) rfl hJ)) ?_
       refine all_cons (obs_v rfl (by
         intro k; intro b81 ρ σm hJ hoff hdep
         have e61 : look 92 ρ 61 = (B ((r67.length : Int) == 2)) := hdep 13 rfl rfl 61 rfl
         exact dp_skip (wanted_no rfl (yv_of rfl (e61.trans (congrArg B hb86)))) rfl hJ)) ?_
       refine all_cons (obs_v rfl (by
         intro k; intro b81 ρ σm hJ hoff hdep
         have e61 : look 92 ρ 61 = (B ((r67.length : Int) == 2)) := hdep 13 rfl rfl 61 rfl
         exact dp_skip (wanted_no rfl (yv_of rfl (e61.trans (congrArg B hb86)))) rfl hJ)) ?_
       refine all_cons (obs_v rfl (by
         intro k; intro b81 ρ σm hJ hoff hdep
         have e61 : look 92 ρ 61 = (B ((r67.length : Int) == 2)) := hdep 13 rfl rfl 61 rfl
         exact dp_skip (wanted_no rfl (yv_of rfl (e61.trans (congrArg B hb86)))) rfl hJ)) ?_
       refine all_cons (obs_v rfl (by
         intro k; intro b81 ρ σm hJ hoff hdep
         have e61 : look 92 ρ 61 = (B ((r67.length : Int) == 2)) := hdep 13 rfl rfl 61 rfl
         exact dp_v (v := (B false)) wn (rv_pick_f (e61.trans (congrArg B hb86)) rfl) rfl hJ)) ?_
       refine all_cons (obs_v rfl (by
         intro k; intro b81 ρ σm hJ hoff hdep
         have e67 : look 92 ρ 67 = (B false) := hdep 19 rfl rfl 67 rfl
         exact dp_v (v := (B false)) wn (rv_move e67) rfl hJ)) ?_
       refine all_cons (obs_v rfl (by
         intro k; intro b81 ρ σm hJ hoff hdep
         have e68 : look 92 ρ 68 = (B false) := hdep 20 rfl rfl 68 rfl
         exact dp_skip (wanted_no rfl (yv_of rfl e68)) rfl hJ)) ?_
       refine all_cons (obs_v rfl (by
         intro k; intro b81 ρ σm hJ hoff hdep
         have e68 : look 92 ρ 68 = (B false) := hdep 20 rfl rfl 68 rfl
         exact dp_skip (wanted_no rfl (yv_of rfl e68)) rfl hJ)) ?_
       refine all_cons (obs_v rfl (by
         intro k; intro b81 ρ σm hJ hoff hdep
         have e68 : look 92 ρ 68 = (B false) := hdep 20 rfl rfl 68 rfl
         exact dp_skip (wanted_no rfl (yv_of rfl e68)) rfl hJ)) ?_
       refine all_cons (obs_v rfl (by
         intro k; intro b81 ρ σm hJ hoff hdep
         have e68 : look 92 ρ 68 = (B false) := hdep 20 rfl rfl 68 rfl
         exact dp_skip (wanted_no rfl (yv_of rfl e68)) rfl hJ)) ?_
       refine all_cons (obs_v rfl (by
         intro k; intro b81 ρ σm hJ hoff hdep
         have e68 : look 92 ρ 68 = (B false) := hdep 20 rfl rfl 68 rfl
         exact dp_skip (wanted_no rfl (yv_of rfl e68)) rfl hJ)) ?_
       refine all_cons (obs_v rfl (by
         intro k; intro b81 ρ σm hJ hoff hdep
         have e68 : look 92 ρ 68 = (B false) := hdep 20 rfl rfl 68 rfl
         exact dp_v (v := (B false)) wn (rv_pick_f e68 rfl) rfl hJ)) ?_
       refine all_cons (obs_v rfl (by
         intro k; intro b81 ρ σm hJ hoff hdep
         have e74 : look 92 ρ 74 = (B false) := hdep 26 rfl rfl 74 rfl
         exact dp_v (v := (B false)) wn (rv_move e74) rfl hJ)) ?_
       refine all_cons (obs_v rfl (by
         intro k; intro b81 ρ σm hJ hoff hdep
         have e75 : look 92 ρ 75 = (B false) := hdep 27 rfl rfl 75 rfl
         exact dp_skip (wanted_no rfl (yv_of rfl e75)) rfl hJ)) ?_
       refine all_cons (obs_v rfl (by
         intro k; intro b81 ρ σm hJ hoff hdep
         have e75 : look 92 ρ 75 = (B false) := hdep 27 rfl rfl 75 rfl
         exact dp_skip (wanted_no rfl (yv_of rfl e75)) rfl hJ)) ?_
       refine all_cons (obs_v rfl (by
         intro k; intro b81 ρ σm hJ hoff hdep
         have e75 : look 92 ρ 75 = (B false) := hdep 27 rfl rfl 75 rfl
         exact dp_skip (wanted_no rfl (yv_of rfl e75)) rfl hJ)) ?_
       refine all_cons (obs_v rfl (by
         intro k; intro b81 ρ σm hJ hoff hdep
         have e75 : look 92 ρ 75 = (B false) := hdep 27 rfl rfl 75 rfl
         exact dp_skip (wanted_no rfl (yv_of rfl e75)) rfl hJ)) ?_
       refine all_cons (obs_v rfl (by
         intro k; intro b81 ρ σm hJ hoff hdep
         have e75 : look 92 ρ 75 = (B false) := hdep 27 rfl rfl 75 rfl
         exact dp_skip (wanted_no rfl (yv_of rfl e75)) rfl hJ)) ?_
       refine all_cons (obs_v rfl (by
         intro k; intro b81 ρ σm hJ hoff hdep
         have e75 : look 92 ρ 75 = (B false) := hdep 27 rfl rfl 75 rfl
         exact dp_skip (wanted_no rfl (yv_of rfl e75)) rfl hJ)) ?_
       refine all_cons (obs_v rfl (by
         intro k; intro b81 ρ σm hJ hoff hdep
         have e75 : look 92 ρ 75 = (B false) := hdep 27 rfl rfl 75 rfl
         exact dp_skip (wanted_no rfl (yv_of rfl e75)) rfl hJ)) ?_
       refine all_cons (obs_v rfl (by
         intro k; intro b81 ρ σm hJ hoff hdep
         have e75 : look 92 ρ 75 = (B false) := hdep 27 rfl rfl 75 rfl
         exact dp_skip (wanted_no rfl (yv_of rfl e75)) rfl hJ)) ?_
       refine all_cons (obs_v rfl (by
         intro k; intro b81 ρ σm hJ hoff hdep
         have e75 : look 92 ρ 75 = (B false) := hdep 27 rfl rfl 75 rfl
         exact dp_skip (wanted_no rfl (yv_of rfl e75)) rfl hJ)) ?_
       refine all_cons (obs_v rfl (by
         intro k; intro b81 ρ σm hJ hoff hdep
         have e75 : look 92 ρ 75 = (B false) := hdep 27 rfl rfl 75 rfl
         exact dp_skip (wanted_no rfl (yv_of rfl e75)) rfl hJ)) ?_
       refine all_cons (obs_v rfl (by
         intro k; intro b81 ρ σm hJ hoff hdep
         have e75 : look 92 ρ 75 = (B false) := hdep 27 rfl rfl 75 rfl
         exact dp_skip (wanted_no rfl (yv_of rfl e75)) rfl hJ)) ?_
       refine all_cons (obs_v rfl (by
         intro k; intro b81 ρ σm hJ hoff hdep
         have e75 : look 92 ρ 75 = (B false) := hdep 27 rfl rfl 75 rfl
         exact dp_skip (wanted_no rfl (yv_of rfl e75)) rfl hJ)) ?_
       refine all_cons (obs_v rfl (by
         intro k; intro b81 ρ σm hJ hoff hdep
         have e75 : look 92 ρ 75 = (B false) := hdep 27 rfl rfl 75 rfl
         exact dp_skip (wanted_no rfl (yv_of rfl e75)) rfl hJ)) ?_
       refine all_cons (obs_v rfl (by
         intro k; intro b81 ρ σm hJ hoff hdep
         have e75 : look 92 ρ 75 = (B false) := hdep 27 rfl rfl 75 rfl
         exact dp_skip (wanted_no rfl (yv_of rfl e75)) rfl hJ)) ?_
       exact all_nil
      ·intro b81 ρ σ133 hJ hoff hrel
       have e75 : look 92 ρ 75 = (B false) := hrel 27 rfl 75 rfl
       have e79 : look 92 ρ 79 = undef := hrel 31 rfl 79 rfl
       have e89 : look 92 ρ 89 = undef := hrel 41 rfl 89 rfl
       obtain ⟨H, -⟩ := (show Hp S0 σ0 σ133 [Ch.ro 0 (Sl (some ⟨b81, 0, none⟩) ([(x75.1, 0, -1, -1)] : List (Int × Int × Int × Int)) 1) ([(x75.1, 0, -1, -1)] : List (Int × Int × Int × Int)), Ch.ro 0 (Sl a58 r55 c59) r55, Ch.own 0 n0 (Sl a70 r67 c71) r67, Ch.ro n0 (Sl a5 r2.1 c6) r2.1] ∧ Md (fun i => (cov []) i ∨ (fun i => (cov []) i ∨ (fun b => blk (Sl (some ⟨b81, 0, none⟩) ([(x75.1, 0, -1, -1)] : List (Int × Int × Int × Int)) 1) = some b) i) i) σ73 σ133 from hJ)
       clear hJ Hs
       rw [fr_lookL (L := [(75, (B false)), (79, undef), (89, undef)]) ⟨e75, e79, e89, trivial⟩]
       clear hoff hrel e75 e79 e89
       refine st_skip rfl ?_
       refine st (v := (B false)) (rv_pick_f rfl rfl) ?_
       refine st (v := (B false)) (rv_assign rfl) ?_
       refine w_end ?_
       refine q_then ?_
       refine c_ret ?_
       obtain rfl := Option.some.inj h
       exact fin_ret (v := (B false)) (results_ok Try.results4 (res_tmp (v := (B false)) rfl res_nil) rfl) ⟨rfl, rfl⟩ (H.sel' [] rfl rfl)
    ·replace h := bif_f hb85 h
     have Hs := H
     refine rg2 (σ := σ73) (Nm := (Nat)) 42 [6, 7] [[false, false], [true, false], [true, true]] [[(0, 0), (1, 1)], [(0, 0)], [(0, 0)], [(0, 0)], [(0, 0)], [(0, 0)], [(0, 1)], [(1, 2)], [(2, 2)], [(2, 2)], [(2, 2)], [(2, 2)], [(2, 2)], [(2, 2)], [(2, 2)], [(2, 2)], [(2, 2)], [(2, 2)], [(2, 2)], [(2, 2)], [(2, 2)], [(2, 2)], [(2, 2)], [(2, 2)], [(2, 2)], [(2, 2)], [(2, 2)], [(2, 2)], [(2, 2)], [(2, 2)], [(2, 2)], [(2, 2)], [(2, 2)], [(2, 2)], [(2, 2)], [(2, 2)], [(2, 2)], [(2, 2)], [(2, 2)], [(2, 2)], [(2, 2)], [(2, 2)]] 2 [fun (b81 : (Nat)) => fun σm => Hp S0 σ0 σm [Ch.ro 0 (Sl a58 r55 c59) r55, Ch.own 0 n0 (Sl a70 r67 c71) r67, Ch.ro n0 (Sl a5 r2.1 c6) r2.1] ∧ Md (cov []) σ73 σm, fun (b81 : (Nat)) => fun σm => Hp S0 σ0 σm [Ch.ro 0 (Sl (some ⟨b81, 0, none⟩) ([(x75.1, 0, -1, -1)] : List (Int × Int × Int × Int)) 1) ([(x75.1, 0, -1, -1)] : List (Int × Int × Int × Int)), Ch.ro 0 (Sl a58 r55 c59) r55, Ch.own 0 n0 (Sl a70 r67 c71) r67, Ch.ro n0 (Sl a5 r2.1 c6) r2.1] ∧ Md (fun i => (cov []) i ∨ (fun i => (cov []) i ∨ (fun b => blk (Sl (some ⟨b81, 0, none⟩) ([(x75.1, 0, -1, -1)] : List (Int × Int × Int × Int)) 1) = some b) i) i) σ73 σm, fun (b81 : (Nat)) => fun σm => Hp S0 σ0 σm [Ch.ro 0 (Sl (some ⟨b81, 0, none⟩) ([(x75.1, 0, -1, -1)] : List (Int × Int × Int × Int)) 1) ([(x75.1, 0, -1, -1)] : List (Int × Int × Int × Int)), Ch.ro 0 (Sl a58 r55 c59) r55, Ch.own 0 n0 (Sl a70 r67 c71) r67, Ch.ro n0 (Sl a5 r2.1 c6) r2.1] ∧ Md (fun i => (cov []) i ∨ (fun i => (cov []) i ∨ (fun b => blk (Sl (some ⟨b81, 0, none⟩) ([(x75.1, 0, -1, -1)] : List (Int × Int × Int × Int)) 1) = some b) i) i) σ73 σm] [fun (b81 : (Nat)) => (Sl a58 r55 c59), fun (b81 : (Nat)) => (Sl a5 r2.1 c6), fun (b81 : (Nat)) => (pt b78 o79), fun (b81 : (Nat)) => (pt b78 (o79 + 0)), fun (b81 : (Nat)) => (I x75.1), fun (b81 : (Nat)) => (.agg #[(I x75.1), (I 0), (I (-1)), (I (-1))]), fun (b81 : (Nat)) => (Sl (some ⟨b81, 0, none⟩) ([(x75.1, 0, -1, -1)] : List (Int × Int × Int × Int)) 1), fun (b81 : (Nat)) => (B r82), fun (b81 : (Nat)) => (B r82), fun (b81 : (Nat)) => undef, fun (b81 : (Nat)) => undef, fun (b81 : (Nat)) => undef, fun (b81 : (Nat)) => (B false), fun (b81 : (Nat)) => (B false), fun (b81 : (Nat)) => undef, fun (b81 : (Nat)) => undef, fun (b81 : (Nat)) => undef, fun (b81 : (Nat)) => undef, fun (b81 : (Nat)) => undef, fun (b81 : (Nat)) => (B false), fun (b81 : (Nat)) => (B false), fun (b81 : (Nat)) => undef, fun (b81 : (Nat)) => undef, fun (b81 : (Nat)) => undef, fun (b81 : (Nat)) => undef, fun (b81 : (Nat)) => undef, fun (b81 : (Nat)) => (B false), fun (b81 : (Nat)) => (B false), fun (b81 : (Nat)) => undef, fun (b81 : (Nat)) => undef, fun (b81 : (Nat)) => undef, fun (b81 : (Nat)) => undef, fun (b81 : (Nat)) => undef, fun (b81 : (Nat)) => undef, fun (b81 : (Nat)) => undef, fun (b81 : (Nat)) => undef, fun (b81 : (Nat)) => undef, fun (b81 : (Nat)) => undef, fun (b81 : (Nat)) => undef, fun (b81 : (Nat)) => undef, fun (b81 : (Nat)) => undef, fun (b81 : (Nat)) => undef] (0) (by kernel_rfl) (by kernel_rfl) ?_ ?_ ?_
     ·intro σm m0
      exact ⟨H.grow (m0.mono fun _ h => h.elim), m0⟩
     ·refine all_cons (obs_v rfl (by
        intro k; intro b81 ρ σm hJ hoff hdep
        have e6 : look 92 ρ 6 = (Sl a58 r55 c59) := look_off (hoff 6 rfl) rfl
        exact dp_v (v := (Sl a58 r55 c59)) wn (rv_move e6) rfl hJ)) ?_
      refine all_cons (obs_v rfl (by
        intro k; intro b81 ρ σm hJ hoff hdep
        have e3 : look 92 ρ 3 = (Sl a5 r2.1 c6) := look_off (hoff 3 rfl) rfl
        exact dp_v (v := (Sl a5 r2.1 c6)) wn (rv_move e3) rfl hJ)) ?_
      refine all_cons (obs_v rfl (by
        intro k; intro b81 ρ σm hJ hoff hdep
        have e49 : look 92 ρ 49 = (Sl a5 r2.1 c6) := hdep 1 rfl rfl 49 rfl
        exact dp_v (v := (pt b78 o79)) wn (rv_ix Try.underlying23 ti37 e49 rfl hi77) rfl hJ)) ?_
      refine all_cons (obs_v rfl (by
        intro k; intro b81 ρ σm hJ hoff hdep
        have e50 : look 92 ρ 50 = (pt b78 o79) := hdep 2 rfl rfl 50 rfl
        exact dp_v (v := (pt b78 (o79 + 0))) wn (rv_fieldAddr (off := 0) (ft := 3) Try.underlying37 rfl ti3 rfl e50) rfl hJ)) ?_
      refine all_cons (by
        refine ⟨?_, ?_⟩
        ·intro b81 ρ σm hJ hoff hdep
         have e51 : look 92 ρ 51 = (pt b78 (o79 + 0)) := hdep 3 rfl rfl 51 rfl
         obtain ⟨H, m⟩ := id hJ
         replace hc80 := (Hs.ro 2 rfl).hmd hx76 hi77 (k := 0) (by decide) hc80 m
         exact dp_v (v := (I x75.1)) wn (rv_load1 Try.underlying3 rfl e51 hc80) rfl hJ
        trivial) ?_
      refine all_cons (obs_v rfl (by
        intro k; intro b81 ρ σm hJ hoff hdep
        have e52 : look 92 ρ 52 = (I x75.1) := hdep 4 rfl rfl 52 rfl
        exact dp_v (v := (.agg #[(I x75.1), (I 0), (I (-1)), (I (-1))])) wn (rv_build (ps := [(0, (I x75.1)), (2, (I (-1))), (3, (I (-1)))]) Try.underlying39 ti39 (bp39 Try.underlying39) (by show [(0, look 92 ρ 52), (2, (I (-1))), (3, (I (-1)))] = _; rw [e52]) (by kernel_rfl)) rfl hJ)) ?_
      refine all_cons (by
        refine ⟨?_, ?_⟩
        ·intro b81 ρ σm hJ hoff hdep
         have e53 : look 92 ρ 53 = (.agg #[(I x75.1), (I 0), (I (-1)), (I (-1))]) := hdep 5 rfl rfl 53 rfl
         obtain ⟨H, m⟩ := id hJ
         refine dp_ex wn (ex_buildSlice (el := 0) (xs := ([(x75.1, 0, -1, -1)] : List (Int × Int × Int × Int))) (ps := [(0, (.agg #[(I x75.1), (I 0), (I (-1)), (I (-1))]))]) (cs := [(I x75.1), (I 0), (I (-1)), (I (-1))]) H hn0 Try.underlying33 ti39 rfl (by show [(0, look 92 ρ 53)] = _; rw [e53]) (by kernel_rfl) (.cons (c := [(I x75.1), (I 0), (I (-1)), (I (-1))]) ⟨[(I x75.1)], [(I 0), (I (-1)), (I (-1))], rfl, rfl, ⟨[(I 0)], [(I (-1)), (I (-1))], rfl, rfl, ⟨[(I (-1))], [(I (-1))], rfl, rfl, rfl⟩⟩⟩ (.nil)) rfl) ?_
         rintro _ σq ⟨b81x, rfl, H2, m2⟩
         obtain ⟨σr0, hwr0, H2, mr0⟩ := H2.pub 0 rfl (Nat.zero_le _)
         exact ⟨_, b81x, hwr0, rfl, ⟨H2.sel' [0, 1, 2, 3] rfl rfl, m.comp (m2.comp mr0)⟩, stab [0, 1, 2, 3, 4, 5] (by kernel_rfl) ⟨rfl, rfl, rfl, rfl, rfl, rfl, trivial⟩⟩
        trivial) ?_
      refine all_cons (by
        refine ⟨?_, ?_⟩
        ·intro b81 ρ σm hJ hoff hdep
         have e48 : look 92 ρ 48 = (Sl a58 r55 c59) := hdep 0 rfl rfl 48 rfl
         have e54 : look 92 ρ 54 = (Sl (some ⟨b81, 0, none⟩) ([(x75.1, 0, -1, -1)] : List (Int × Int × Int × Int)) 1) := hdep 6 rfl rfl 54 rfl
         obtain ⟨H, m⟩ := id hJ
         refine dp_cx wn (cx_call (hc84 b81) (ent_f (hc84 b81).fn (by show [look 92 ρ 48, look 92 ρ 54] = _; rw [e48, e54])) hn0 (H.sel' [1, 0, 0, 1, 2, 3] rfl rfl : Hp S0 σ0 _ ([_, _] ++ _))) ?_
         rintro _ σq ⟨_, ⟨rfl, rfl⟩, H2, m2⟩
         exact ⟨_, b81, rfl, rfl, ⟨H2.sel' [0, 1, 2, 3] rfl rfl, m.comp0 (m2.mono (fun i h => by simp [cov, Ch.ro] at h))⟩, stab [0, 1, 2, 3, 4, 5, 6] (by kernel_rfl) ⟨rfl, rfl, rfl, rfl, rfl, rfl, rfl, trivial⟩⟩
        trivial) ?_
      refine all_cons (obs_v rfl (by
        intro k; intro b81 ρ σm hJ hoff hdep
        have e55 : look 92 ρ 55 = (B r82) := hdep 7 rfl rfl 55 rfl
        exact dp_v (v := (B r82)) wn (rv_move e55) rfl hJ)) ?_
      refine all_cons (obs_v rfl (by
        intro k; intro b81 ρ σm hJ hoff hdep
        have e56 : look 92 ρ 56 = (B r82) := hdep 8 rfl rfl 56 rfl
        exact dp_skip (wanted_no rfl (yv_of rfl (e56.trans (congrArg B hb85)))) rfl hJ)) ?_
      refine all_cons (obs_v rfl (by
        intro k; intro b81 ρ σm hJ hoff hdep
        have e56 : look 92 ρ 56 = (B r82) := hdep 8 rfl rfl 56 rfl
        exact dp_skip (wanted_no rfl (yv_of rfl (e56.trans (congrArg B hb85)))) rfl hJ)) ?_
      refine all_cons (obs_v rfl (by
        intro k; intro b81 ρ σm hJ hoff hdep
        have e56 : look 92 ρ 56 = (B r82) := hdep 8 rfl rfl 56 rfl
        exact dp_skip (wanted_no rfl (yv_of rfl (e56.trans (congrArg B hb85)))) rfl hJ)) ?_
      refine all_cons (obs_v rfl (by
        intro k; intro b81 ρ σm hJ hoff hdep
        have e56 : look 92 ρ 56 = (B r82) := hdep 8 rfl rfl 56 rfl
        exact dp_v (v := (B false)) wn (rv_pick_f (e56.trans (congrArg B hb85)) rfl) rfl hJ)) ?_
      refine all_cons (obs_v rfl (by
        intro k; intro b81 ρ σm hJ hoff hdep
        have e60 : look 92 ρ 60 = (B false) := hdep 12 rfl rfl 60 rfl
        exact dp_v (v := (B false)) wn (rv_move e60) rfl hJ)) ?_
      refine all_cons (obs_v rfl (by
        intro k; intro b81 ρ σm hJ hoff hdep
        have e61 : look 92 ρ 61 = (B false) := hdep 13 rfl rfl 61 rfl
        exact dp_skip (wanted_no rfl (yv_of rfl e61)) rfl hJ)) ?_
      refine all_cons (obs_v rfl (by
        intro k; intro b81 ρ σm hJ hoff hdep
        have e61 : look 92 ρ 61 = (B false) := hdep 13 rfl rfl 61 rfl
        exact dp_skip (wanted_no rfl (yv_of rfl e61)) rfl hJ)) ?_
      refine all_cons (obs_v rfl (by
        intro k; intro b81 ρ σm hJ hoff hdep
        have e61 : look 92 ρ 61 = (B false) := hdep 13 rfl rfl 61 rfl
        exact dp_skip (wanted_no rfl (yv_of rfl e61)) rfl hJ)) ?_
      refine all_cons (obs_v rfl (by
        intro k; intro b81 ρ σm hJ hoff hdep
        have e61 : look 92 ρ 61 = (B false) := hdep 13 rfl rfl 61 rfl
        exact dp_skip (wanted_no rfl (yv_of rfl e61)) rfl hJ)) ?_
      refine all_cons (obs_v rfl (by
        intro k; intro b81 ρ σm hJ hoff hdep
        have e61 : look 92 ρ 61 = (B false) := hdep 13 rfl rfl 61 rfl
        exact dp_skip (wanted_no rfl (yv_of rfl e61)) rfl hJ)) ?_
      refine all_cons (obs_v rfl (by
        intro k; intro b81 ρ σm hJ hoff hdep
        have e61 : look 92 ρ 61 = (B false) := hdep 13 rfl rfl 61 rfl
        exact dp_v (v := (B false)) wn (rv_pick_f e61 rfl) rfl hJ)) ?_
      refine all_cons (obs_v rfl (by
        intro k; intro b81 ρ σm hJ hoff hdep
        have e67 : look 92 ρ 67 = (B false) := hdep 19 rfl rfl 67 rfl
        exact dp_v (v := (B false)) wn (rv_move e67) rfl hJ)) ?_
      refine all_cons (obs_v rfl (by
        intro k; intro b81 ρ σm hJ hoff hdep
        have e68 : look 92 ρ 68 = (B false) := hdep 20 rfl rfl 68 rfl
        exact dp_skip (wanted_no rfl (yv_of rfl e68)) rfl hJ)) ?_
      refine all_cons (obs_v rfl (by
        intro k; intro b81 ρ σm hJ hoff hdep
        have e68 : look 92 ρ 68 = (B false) := hdep 20 rfl rfl 68 rfl
        exact dp_skip (wanted_no rfl (yv_of rfl e68)) rfl hJ)) ?_
      refine all_cons (obs_v rfl (by
        intro k; intro b81 ρ σm hJ hoff hdep
        have e68 : look 92 ρ 68 = (B false) := hdep 20 rfl rfl 68 rfl
        exact dp_skip (wanted_no rfl (yv_of rfl e68)) rfl hJ)) ?_
      refine all_cons (obs_v rfl (by
        intro k; intro b81 ρ σm hJ hoff hdep
        have e68 : look 92 ρ 68 = (B false) := hdep 20 rfl rfl 68 rfl
        exact dp_skip (wanted_no rfl (yv_of rfl e68)) rfl hJ)) ?_
      refine all_cons (obs_v rfl (by
        intro k; intro b81 ρ σm hJ hoff hdep
        have e68 : look 92 ρ 68 = (B false) := hdep 20 rfl rfl 68 rfl
        exact dp_skip (wanted_no rfl (yv_of rfl e68)) rfl hJ)) ?_
      refine all_cons (obs_v rfl (by
        intro k; intro b81 ρ σm hJ hoff hdep
        have e68 : look 92 ρ 68 = (B false) := hdep 20 rfl rfl 68 rfl
        exact dp_v (v := (B false)) wn (rv_pick_f e68 rfl) rfl hJ)) ?_
      refine all_cons (obs_v rfl (by
        intro k; intro b81 ρ σm hJ hoff hdep
        have e74 : look 92 ρ 74 = (B false) := hdep 26 rfl rfl 74 rfl
        exact dp_v (v := (B false)) wn (rv_move e74) rfl hJ)) ?_
      refine all_cons (obs_v rfl (by
        intro k; intro b81 ρ σm hJ hoff hdep
        have e75 : look 92 ρ 75 = (B false) := hdep 27 rfl rfl 75 rfl
        exact dp_skip (wanted_no rfl (yv_of rfl e75)) rfl hJ)) ?_
      refine all_cons (obs_v rfl (by
        intro k; intro b81 ρ σm hJ hoff hdep
        have e75 : look 92 ρ 75 = (B false) := hdep 27 rfl rfl 75 rfl
        exact dp_skip (wanted_no rfl (yv_of rfl e75)) rfl hJ)) ?_
      refine all_cons (obs_v rfl (by
        intro k; intro b81 ρ σm hJ hoff hdep
        have e75 : look 92 ρ 75 = (B false) := hdep 27 rfl rfl 75 rfl
        exact dp_skip (wanted_no rfl (yv_of rfl e75)) rfl hJ)) ?_
      refine all_cons (obs_v rfl (by
        intro k; intro b81 ρ σm hJ hoff hdep
        have e75 : look 92 ρ 75 = (B false) := hdep 27 rfl rfl 75 rfl
        exact dp_skip (wanted_no rfl (yv_of rfl e75)) rfl hJ)) ?_
      refine all_cons (obs_v rfl (by
        intro k; intro b81 ρ σm hJ hoff hdep
        have e75 : look 92 ρ 75 = (B false) := hdep 27 rfl rfl 75 rfl
        exact dp_skip (wanted_no rfl (yv_of rfl e75)) rfl hJ)) ?_
      refine all_cons (obs_v rfl (by
        intro k; intro b81 ρ σm hJ hoff hdep
        have e75 : look 92 ρ 75 = (B false) := hdep 27 rfl rfl 75 rfl
        exact dp_skip (wanted_no rfl (yv_of rfl e75)) rfl hJ)) ?_
      refine all_cons (obs_v rfl (by
        intro k; intro b81 ρ σm hJ hoff hdep
        have e75 : look 92 ρ 75 = (B false) := hdep 27 rfl rfl 75 rfl
        exact dp_skip (wanted_no rfl (yv_of rfl e75)) rfl hJ)) ?_
      refine all_cons (obs_v rfl (by
        intro k; intro b81 ρ σm hJ hoff hdep
        have e75 : look 92 ρ 75 = (B false) := hdep 27 rfl rfl 75 rfl
        exact dp_skip (wanted_no rfl (yv_of rfl e75)) rfl hJ)) ?_
      refine all_cons (obs_v rfl (by
        intro k; intro b81 ρ σm hJ hoff hdep
        have e75 : look 92 ρ 75 = (B false) := hdep 27 rfl rfl 75 rfl
        exact dp_skip (wanted_no rfl (yv_of rfl e75)) rfl hJ)) ?_
      refine all_cons (obs_v rfl (by
        intro k; intro b81 ρ σm hJ hoff hdep
        have e75 : look 92 ρ 75 = (B false) := hdep 27 rfl rfl 75 rfl
        exact dp_skip (wanted_no rfl (yv_of rfl e75)) rfl hJ)) ?_
      refine all_cons (obs_v rfl (by
        intro k; intro b81 ρ σm hJ hoff hdep
        have e75 : look 92 ρ 75 = (B false) := hdep 27 rfl rfl 75 rfl
        exact dp_skip (wanted_no rfl (yv_of rfl e75)) rfl hJ)) ?_
      refine all_cons (obs_v rfl (by
        intro k; intro b81 ρ σm hJ hoff hdep
        have e75 : look 92 ρ 75 = (B false) := hdep 27 rfl rfl 75 rfl
        exact dp_skip (wanted_no rfl (yv_of rfl e75)) rfl hJ)) ?_
      refine all_cons (obs_v rfl (by
        intro k; intro b81 ρ σm hJ hoff hdep
        have e75 : look 92 ρ 75 = (B false) := hdep 27 rfl rfl 75 rfl
        exact dp_skip (wanted_no rfl (yv_of rfl e75)) rfl hJ)) ?_
      refine all_cons (obs_v rfl (by
        intro k; intro b81 ρ σm hJ hoff hdep
        have e75 : look 92 ρ 75 = (B false) := hdep 27 rfl rfl 75 rfl
        exact dp_skip (wanted_no rfl (yv_of rfl e75)) rfl hJ)) ?_
      exact all_nil
     ·intro b81 ρ σ134 hJ hoff hrel
      have e75 : look 92 ρ 75 = (B false) := hrel 27 rfl 75 rfl
      have e79 : look 92 ρ 79 = undef := hrel 31 rfl 79 rfl
      have e89 : look 92 ρ 89 = undef := hrel 41 rfl 89 rfl
      obtain ⟨H, -⟩ := (show Hp S0 σ0 σ134 [Ch.ro 0 (Sl (some ⟨b81, 0, none⟩) ([(x75.1, 0, -1, -1)] : List (Int × Int × Int × Int)) 1) ([(x75.1, 0, -1, -1)] : List (Int × Int × Int × Int)), Ch.ro 0 (Sl a58 r55 c59) r55, Ch.own 0 n0 (Sl a70 r67 c71) r67, Ch.ro n0 (Sl a5 r2.1 c6) r2.1] ∧ Md (fun i => (cov []) i ∨ (fun i => (cov []) i ∨ (fun b => blk (Sl (some ⟨b81, 0, none⟩) ([(x75.1, 0, -1, -1)] : List (Int × Int × Int × Int)) 1) = some b) i) i) σ73 σ134 from hJ)
      clear hJ Hs
      rw [fr_lookL (L := [(75, (B false)), (79, undef), (89, undef)]) ⟨e75, e79, e89, trivial⟩]
      clear hoff hrel e75 e79 e89
      refine st_skip rfl ?_
      refine st (v := (B false)) (rv_pick_f rfl rfl) ?_
      refine st (v := (B false)) (rv_assign rfl) ?_
      refine w_end ?_
      refine q_then ?_
      refine c_ret ?_
      obtain rfl := Option.some.inj h
      exact fin_ret (v := (B false)) (results_ok Try.results4 (res_tmp (v := (B false)) rfl res_nil) rfl) ⟨rfl, rfl⟩ (H.sel' [] rfl rfl)

end Go.Vs
