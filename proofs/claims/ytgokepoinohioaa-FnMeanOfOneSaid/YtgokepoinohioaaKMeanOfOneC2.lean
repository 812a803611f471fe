/- The functions compute what their models say. -/
import Derived.Test.YtgokepoinohioaaKMeanOfOneC1
set_option linter.unusedVariables false
set_option linter.unusedSimpArgs false
set_option maxRecDepth 20000
namespace Go.Vs
open Go Go.Proofs
attribute [local irreducible] Code.wp Code.wpIn wpList wpListIn wpQuiet Calls CallsIn

theorem c_laws_FnMeanOfOne {code_0 : List UInt8} {acode_0 : Option Addr} {ccode_0 : Nat} {r : Bool} (h : M.laws_FnMeanOfOne code_0 = some r) :
    Cal2 Try.prog 10 [(Sl acode_0 code_0 ccode_0)] [Ch.ro 0 (Sl acode_0 code_0 ccode_0) code_0] (fun n0 v L => v = (B r) ∧ L = []) := by
 refine cal2 (n := 50) Try.func10 rfl rfl rfl rfl ?_
 intro S0 σ0 n0 hn0 H
 unfold M.laws_FnMeanOfOne at h
 refine c_seq ?_
 refine rg ?_
 refine st (v := (B false)) (rv_assign rfl) ?_
 refine w_end ?_
 refine q_then ?_
 refine c_seq ?_
 refine c_seq ?_
 refine rg ?_
 refine st (v := (Sl acode_0 code_0 ccode_0)) (rv_move rfl) ?_
 refine st (v := (I (code_0.length : Int))) (rv_len Try.underlying22 rfl) ?_
 refine st (v := (B (decide (1048576 < (code_0.length : Int))))) (rv_gtr (a := (code_0.length : Int)) (b := 1048576) rfl rfl) ?_
 refine w_end ?_
 refine q_then ?_
 refine cd_cond (decide (1048576 < (code_0.length : Int))) rfl (fun hb1 => ?_) (fun hb1 => ?_)
 ·replace h := bif_t hb1 h
  refine c_seq ?_
  refine rg ?_
  refine st (v := (B true)) (rv_assign rfl) ?_
  refine w_end ?_
  refine q_then ?_
  refine c_ret ?_
  refine q_then_r ?_
  obtain rfl := Option.some.inj h
  exact fin_ret (v := (B true)) (results_ok Try.results10 (res_tmp (v := (B true)) rfl res_nil) rfl) ⟨rfl, rfl⟩ (H.sel' [] rfl rfl)
 ·replace h := bif_f hb1 h
  refine c_skip ?_
  refine q_then ?_
  refine c_seq ?_
  refine rg ?_
  refine st (v := (Sl acode_0 code_0 ccode_0)) (rv_move rfl) ?_
  obtain ⟨r2, hx3, h'⟩ := bind_some h
  clear h
  have h := h'; clear h'
  have hc4 := c_spec_DrawMeanOf (acode_0 := acode_0) (ccode_0 := ccode_0) hx3
  refine st_call (cx_call hc4 (ent_f hc4.fn rfl) hn0 (show Hp S0 σ0 _ ([Ch.ro 0 (Sl acode_0 code_0 ccode_0) code_0] ++ [Ch.ro 0 (Sl acode_0 code_0 ccode_0) code_0]) from (H.sel' [0, 0] rfl rfl))) wn ?_
  rintro _ σ7 ⟨_, ⟨a5, c6, rfl, rfl⟩, H, -⟩
  replace H : Hp S0 σ0 σ7 [Ch.own n0 n0 (Sl a5 r2 c6) r2, Ch.ro 0 (Sl acode_0 code_0 ccode_0) code_0] := H
  refine st (v := (Sl a5 r2 c6)) (rv_assign rfl) ?_
  refine w_end ?_
  refine q_then ?_
  refine c_seq ?_
  refine rg ?_
  refine st (v := (Sl a5 r2 c6)) (rv_move rfl) ?_
  obtain ⟨r8, hx9, h'⟩ := bind_some h
  clear h
  have h := h'; clear h'
  have hc10 := c_impl_MeanOf (alist_0 := a5) (clist_0 := c6) hx9
  have hle := Nat.le_trans hn0 H.size
  refine st_call (cx_lend (Loan.lend Loan.nil) hc10 (ent_f hc10.fn rfl) (show Hp S0 σ0 _ ([Ch.own n0 n0 (Sl a5 r2 c6) r2] ++ ([] ++ [Ch.ro 0 (Sl acode_0 code_0 ccode_0) code_0])) from (H.sel' [0, 1] rfl rfl)) (by rintro _ _ _ ⟨_, _, rfl, rfl, _⟩; exact ⟨Ab.ownSc, trivial⟩)) wn ?_
  rintro _ σ14 ⟨_, ⟨a11, c12, rfl, rfl, ht13⟩, H, -, -⟩
  replace H : Hp S0 σ0 σ14 [Ch.own σ7.size σ7.size (Sl a11 r8 c12) r8, Ch.own n0 n0 (Sl a5 r2 c6) r2, Ch.ro 0 (Sl acode_0 code_0 ccode_0) code_0] := H
  replace H := H.ownLow 0 n0 n0 rfl hle hle
  clear hle
  replace H : Hp S0 σ0 σ14 [Ch.own n0 n0 (Sl a11 r8 c12) r8, Ch.own n0 n0 (Sl a5 r2 c6) r2, Ch.ro 0 (Sl acode_0 code_0 ccode_0) code_0] := H
  refine st (v := (Sl a11 r8 c12)) (rv_assign rfl) ?_
  refine w_end ?_
  refine q_then ?_
  refine c_seq ?_
  refine c_seq ?_
  obtain ⟨o15, hj, h'⟩ := bind_some h
  clear h
  refine c_cut (fun e a w => e = .normal ∧ ∃ (ρ : Nat → Value) (σ : St), a = fr 50 (updL ρ [(3, (Sl a5 r2 c6)), (4, (Sl a11 r8 c12)), (21, (B o15))]) ∧ w = σ.w ∧ Hp S0 σ0 σ [Ch.own n0 n0 (Sl a5 r2 c6) r2, Ch.own n0 n0 (Sl a11 r8 c12) r8]) ?_ ?_
  ·clear h'
   rename _ = some o15 => h
   refine rg ?_
   refine st (v := (Sl a11 r8 c12)) (rv_move rfl) ?_
   refine st (v := (Sl a5 r2 c6)) (rv_move rfl) ?_
   obtain ⟨r16, hx17, h'⟩ := bind_some h
   clear h
   have h := h'; clear h'
   have hc18 := c_spec_MeanOf (alist_0 := a5) (clist_0 := c6) hx17
   have hle := Nat.le_trans hn0 H.size
   refine st_call (cx_lend (Loan.lend Loan.nil) hc18 (ent_f hc18.fn rfl) (show Hp S0 σ0 _ ([Ch.own n0 n0 (Sl a5 r2 c6) r2] ++ ([] ++ [Ch.own n0 n0 (Sl a11 r8 c12) r8, Ch.ro 0 (Sl acode_0 code_0 ccode_0) code_0])) from (H.sel' [1, 0, 2] rfl rfl)) (by rintro _ _ _ ⟨_, _, rfl, rfl⟩; exact ⟨Ab.ownSc, trivial⟩)) wn ?_
   rintro _ σ21 ⟨_, ⟨a19, c20, rfl, rfl⟩, H, -, -⟩
   replace H : Hp S0 σ0 σ21 [Ch.own σ14.size σ14.size (Sl a19 r16 c20) r16, Ch.own n0 n0 (Sl a5 r2 c6) r2, Ch.own n0 n0 (Sl a11 r8 c12) r8, Ch.ro 0 (Sl acode_0 code_0 ccode_0) code_0] := H
   replace H := H.ownLow 0 n0 n0 rfl hle hle
   clear hle
   replace H : Hp S0 σ0 σ21 [Ch.own n0 n0 (Sl a19 r16 c20) r16, Ch.own n0 n0 (Sl a5 r2 c6) r2, Ch.own n0 n0 (Sl a11 r8 c12) r8, Ch.ro 0 (Sl acode_0 code_0 ccode_0) code_0] := H
   obtain ⟨σ22, hw23, H, -⟩ := H.pub 0 rfl (Nat.le_refl _)
   rw [← hw23]; clear hw23
   replace H := H.roLow 0 0 rfl (Nat.zero_le _)
   obtain ⟨r24, hx25, h'⟩ := bind_some h
   clear h
   have h := h'; clear h'
   have hc26 := c_laws_equalInts (aa_0 := a11) (ca_0 := c12) (ab_1 := a19) (cb_1 := c20) hx25
   have hle := Nat.le_trans hn0 H.size
   refine st_call (cx_lend (Loan.lend (Loan.same Loan.nil)) hc26 (ent_f hc26.fn rfl) (show Hp S0 σ0 _ ([Ch.own n0 n0 (Sl a11 r8 c12) r8] ++ ([Ch.ro 0 (Sl a19 r16 c20) r16] ++ [Ch.ro 0 (Sl a19 r16 c20) r16, Ch.ro n0 (Sl a19 r16 c20) r16, Ch.own n0 n0 (Sl a5 r2 c6) r2, Ch.ro 0 (Sl acode_0 code_0 ccode_0) code_0])) from (H.sel' [3, 0, 0, 1, 2, 4] rfl rfl)) (by rintro _ _ _ ⟨rfl, rfl⟩; exact trivial)) wn ?_
   rintro _ σ27 ⟨_, ⟨rfl, rfl⟩, H, -, -⟩
   replace H : Hp S0 σ0 σ27 [Ch.own n0 n0 (Sl a11 r8 c12) r8, Ch.ro 0 (Sl a19 r16 c20) r16, Ch.ro n0 (Sl a19 r16 c20) r16, Ch.own n0 n0 (Sl a5 r2 c6) r2, Ch.ro 0 (Sl acode_0 code_0 ccode_0) code_0] := H
   clear hle
   replace H : Hp S0 σ0 σ27 [Ch.own n0 n0 (Sl a11 r8 c12) r8, Ch.ro 0 (Sl a19 r16 c20) r16, Ch.ro n0 (Sl a19 r16 c20) r16, Ch.own n0 n0 (Sl a5 r2 c6) r2, Ch.ro 0 (Sl acode_0 code_0 ccode_0) code_0] := H
   refine st (v := (B (!r24))) (rv_not rfl) ?_
   refine st (v := (B (!r24))) (rv_move rfl) ?_
   rcases Bool.eq_false_or_eq_true (!r24) with hb28 | hb28
   ·replace h := bif_t hb28 h
    refine st_skip (congrArg some hb28) ?_
    refine st_skip (congrArg some hb28) ?_
    refine st_skip (congrArg some hb28) ?_
    refine st (v := (B true)) (rv_pick_t (congrArg B hb28) rfl) ?_
    refine w_end ?_
    obtain rfl := Option.some.inj h
    exact ⟨rfl, _, σ27, fr_join ⟨rfl, rfl, rfl, trivial⟩, rfl, H.sel' [3, 0] rfl rfl⟩
   ·replace h := bif_f hb28 h
    refine st_g (v := (Sl a11 r8 c12)) (congrArg some hb28) (rv_move rfl) ?_
    refine st_g (v := (I (r8.length : Int))) (congrArg some hb28) (rv_len Try.underlying23 rfl) ?_
    refine st_g (v := (B ((r8.length : Int) == 0))) (congrArg some hb28) (rv_eql (a := (r8.length : Int)) (b := 0) rfl rfl) ?_
    refine st (v := (B ((r8.length : Int) == 0))) (rv_pick_f (congrArg B hb28) rfl) ?_
    refine w_end ?_
    obtain rfl := Option.some.inj h
    exact ⟨rfl, _, σ27, fr_join ⟨rfl, rfl, rfl, trivial⟩, rfl, H.sel' [3, 0] rfl rfl⟩
  ·clear hj
   have h := h'
   clear h' H
   rintro e a w ⟨rfl, ρ, σ29, rfl, rfl, H⟩
   refine q_then ?_
   refine cd_cond o15 rfl (fun hb30 => ?_) (fun hb30 => ?_)
   ·replace h := bif_t hb30 h
    refine c_seq ?_
    refine rg ?_
    refine st (v := (Sl a11 r8 c12)) (rv_move rfl) ?_
    refine st (v := (Sl a5 r2 c6)) (rv_move rfl) ?_
    obtain ⟨σ31, hw32, H, -⟩ := H.pub 0 rfl (Nat.le_refl _)
    rw [← hw32]; clear hw32
    replace H := H.roLow 0 0 rfl (Nat.zero_le _)
    obtain ⟨r33, hx34, h'⟩ := bind_some h
    clear h
    have h := h'; clear h'
    have hc35 := c_spec_MeanOf (alist_0 := a5) (clist_0 := c6) hx34
    refine st_call (cx_call hc35 (ent_f hc35.fn rfl) hn0 (show Hp S0 σ0 _ ([Ch.ro 0 (Sl a5 r2 c6) r2] ++ [Ch.ro 0 (Sl a5 r2 c6) r2, Ch.ro n0 (Sl a5 r2 c6) r2, Ch.own n0 n0 (Sl a11 r8 c12) r8]) from (H.sel' [0, 0, 1, 2] rfl rfl))) wn ?_
    rintro _ σ38 ⟨_, ⟨a36, c37, rfl, rfl⟩, H, -⟩
    replace H : Hp S0 σ0 σ38 [Ch.own n0 n0 (Sl a36 r33 c37) r33, Ch.ro 0 (Sl a5 r2 c6) r2, Ch.ro n0 (Sl a5 r2 c6) r2, Ch.own n0 n0 (Sl a11 r8 c12) r8] := H
    obtain ⟨σ39, hw40, H, -⟩ := H.pub 3 rfl (Nat.le_refl _)
    rw [← hw40]; clear hw40
    obtain ⟨σ41, hw42, H, -⟩ := H.pub 1 rfl (Nat.le_refl _)
    rw [← hw42]; clear hw42
    replace H := H.roLow 1 0 rfl (Nat.zero_le _)
    replace H := H.roLow 1 0 rfl (Nat.zero_le _)
    obtain ⟨r43, hx44, h'⟩ := bind_some h
    clear h
    have h := h'; clear h'
    have hc45 := c_laws_equalInts (aa_0 := a11) (ca_0 := c12) (ab_1 := a36) (cb_1 := c37) hx44
    refine st_call (cx_call hc45 (ent_f hc45.fn rfl) hn0 (show Hp S0 σ0 _ ([Ch.ro 0 (Sl a11 r8 c12) r8, Ch.ro 0 (Sl a36 r33 c37) r33] ++ [Ch.ro 0 (Sl a36 r33 c37) r33, Ch.ro 0 (Sl a11 r8 c12) r8, Ch.ro n0 (Sl a36 r33 c37) r33, Ch.ro n0 (Sl a11 r8 c12) r8, Ch.ro 0 (Sl a5 r2 c6) r2, Ch.ro n0 (Sl a5 r2 c6) r2]) from (H.sel' [1, 0, 0, 1, 2, 3, 4, 5] rfl rfl))) wn ?_
    rintro _ σ46 ⟨_, ⟨rfl, rfl⟩, H, -⟩
    replace H : Hp S0 σ0 σ46 [Ch.ro 0 (Sl a36 r33 c37) r33, Ch.ro 0 (Sl a11 r8 c12) r8, Ch.ro n0 (Sl a36 r33 c37) r33, Ch.ro n0 (Sl a11 r8 c12) r8, Ch.ro 0 (Sl a5 r2 c6) r2, Ch.ro n0 (Sl a5 r2 c6) r2] := H
    refine st (v := (B r43)) (rv_assign rfl) ?_
    refine w_end ?_
    refine q_then ?_
    refine c_ret ?_
    refine q_then_r ?_
    obtain rfl := Option.some.inj h
    exact fin_ret (v := (B r43)) (results_ok Try.results10 (res_tmp (v := (B r43)) rfl res_nil) rfl) ⟨rfl, rfl⟩ (H.sel' [] rfl rfl)
   ·replace h := bif_f hb30 h
    refine c_skip ?_
    refine q_then ?_
    refine c_seq ?_
    obtain ⟨σ47, hw48, H, -⟩ := H.pub 0 rfl (Nat.le_refl _)
    rw [← hw48]; clear hw48
    obtain ⟨xs49, hx50, h'⟩ := bind_some h
    clear h
    have h := h'; clear h'
    obtain ⟨a51, c52, hs53, hR54⟩ := (H.ro 0 rfl).slice hx50
    replace H := H.add (d := Ch.ro n0 (Sl a51 xs49 c52) xs49) hR54 (fun _ h => h)
    clear hR54
    replace H := H.roLow 0 0 rfl (Nat.zero_le _)
    obtain ⟨r55, hx56, h'⟩ := bind_some h
    clear h
    have h := h'; clear h'
    have hc57 := c_impl_MeanOf (alist_0 := a51) (clist_0 := c52) hx56
    obtain ⟨x61, hx62, h'⟩ := bind_some h
    clear h
    have h := h'; clear h'
    obtain ⟨b64, o65, hi63, -⟩ := (H.ro 2 rfl).ix hx62
    obtain ⟨v69, hc70, hR68⟩ := ((H.ro 2 rfl).at hx62 hi63).slice
    obtain ⟨a66, c67, rfl⟩ := hR68.isSl
    replace H := H.add (d := Ch.ro n0 (Sl a66 x61 c67) x61) hR68 (fun _ h => h)
    clear hR68
    replace H := H.roLow 0 0 rfl (Nat.zero_le _)
    obtain ⟨r71, hx72, h'⟩ := bind_some h
    clear h
    have h := h'; clear h'
    have hc73 := fun (a58 : Option Addr) (c59 : Nat) => c_laws_equalInts (aa_0 := a58) (ca_0 := c59) (ab_1 := a66) (cb_1 := c67) hx72
    rcases Bool.eq_false_or_eq_true r71 with hb74 | hb74
    ·replace h := bif_t hb74 h
     obtain ⟨x75, hx76, h'⟩ := bind_some h
     clear h
     have h := h'; clear h'
     obtain ⟨b78, o79, hi77, -⟩ := (H.ro 4 rfl).ix hx76
     obtain ⟨v83, hc84, hR82⟩ := ((H.ro 4 rfl).at hx76 hi77).slice
     obtain ⟨a80, c81, rfl⟩ := hR82.isSl
     replace H := H.add (d := Ch.ro n0 (Sl a80 x75 c81) x75) hR82 (fun _ h => h)
     clear hR82
     obtain ⟨x85, hx86, h'⟩ := bind_some h
     clear h
     have h := h'; clear h'
     obtain ⟨b88, o89, hi87, -⟩ := (H.ro 5 rfl).ix hx86
     obtain ⟨v93, hc94, hR92⟩ := ((H.ro 5 rfl).at hx86 hi87).slice
     obtain ⟨a90, c91, rfl⟩ := hR92.isSl
     replace H := H.add (d := Ch.ro n0 (Sl a90 x85 c91) x85) hR92 (fun _ h => h)
     clear hR92
     obtain ⟨x95, hx96, h'⟩ := bind_some h
     clear h
     have h := h'; clear h'
     obtain ⟨b98, o99, hi97, -⟩ := (H.ro 6 rfl).ix hx96
     obtain ⟨v103, hc104, hR102⟩ := ((H.ro 6 rfl).at hx96 hi97).slice
     obtain ⟨a100, c101, rfl⟩ := hR102.isSl
     replace H := H.add (d := Ch.ro n0 (Sl a100 x95 c101) x95) hR102 (fun _ h => h)
     clear hR102
     obtain ⟨r106, hx107, h'⟩ := bind_some h
     clear h
     have h := h'; clear h'
     have hc108 := fun (b105 : Nat) => c_impl_MeanOf (alist_0 := (some ⟨b105, 0, none⟩)) (clist_0 := 3) hx107
     obtain ⟨x112, hx113, h'⟩ := bind_some h
     clear h
     have h := h'; clear h'
     obtain ⟨b115, o116, hi114, -⟩ := (H.ro 7 rfl).ix hx113
     obtain ⟨v120, hc121, hR119⟩ := ((H.ro 7 rfl).at hx113 hi114).slice
     obtain ⟨a117, c118, rfl⟩ := hR119.isSl
     replace H := H.add (d := Ch.ro n0 (Sl a117 x112 c118) x112) hR119 (fun _ h => h)
     clear hR119
     have Hs := H
     refine rg2 (σ := σ47) (Nm := (Option Addr) × (Nat) × (Nat) × (Option Addr) × (Nat)) 22 [2, 6, 17, 18] [[false, false, false, false], [true, false, false, false], [true, true, false, false], [true, true, true, false], [true, true, true, true]] [[(0, 0)], [(0, 0)], [(0, 1)], [(0, 0), (1, 1)], [(0, 0), (1, 1)], [(0, 0), (1, 1)], [(1, 2)], [(2, 2)], [(2, 2)], [(2, 2)], [(2, 2)], [(2, 2)], [(2, 2)], [(2, 2)], [(2, 2)], [(2, 2)], [(2, 2)], [(2, 3)], [(3, 4)], [(2, 2), (3, 3), (4, 4)], [(2, 2), (3, 3), (4, 4)], [(2, 2), (3, 3), (4, 4)]] 4 [fun ((a58, c59, b105, a109, c110) : (Option Addr) × (Nat) × (Nat) × (Option Addr) × (Nat)) => fun σm => Hp S0 σ0 σm [Ch.ro n0 (Sl a117 x112 c118) x112, Ch.ro n0 (Sl a100 x95 c101) x95, Ch.ro n0 (Sl a90 x85 c91) x85, Ch.ro n0 (Sl a80 x75 c81) x75, Ch.ro 0 (Sl a66 x61 c67) x61, Ch.ro n0 (Sl a66 x61 c67) x61, Ch.ro 0 (Sl a51 xs49 c52) xs49, Ch.ro n0 (Sl a51 xs49 c52) xs49, Ch.ro n0 (Sl a5 r2 c6) r2, Ch.own n0 n0 (Sl a11 r8 c12) r8] ∧ Md (cov []) σ47 σm, fun ((a58, c59, b105, a109, c110) : (Option Addr) × (Nat) × (Nat) × (Option Addr) × (Nat)) => fun σm => Hp S0 σ0 σm [Ch.ro 0 (Sl a58 r55 c59) r55, Ch.ro n0 (Sl a117 x112 c118) x112, Ch.ro n0 (Sl a100 x95 c101) x95, Ch.ro n0 (Sl a90 x85 c91) x85, Ch.ro n0 (Sl a80 x75 c81) x75, Ch.ro 0 (Sl a66 x61 c67) x61, Ch.ro n0 (Sl a66 x61 c67) x61, Ch.ro 0 (Sl a51 xs49 c52) xs49, Ch.ro n0 (Sl a51 xs49 c52) xs49, Ch.ro n0 (Sl a5 r2 c6) r2, Ch.own n0 n0 (Sl a11 r8 c12) r8] ∧ Md (fun i => (cov []) i ∨ (fun i => (cov [Ch.ro 0 (Sl a51 xs49 c52) xs49]) i ∨ (fun b => blk (Sl a58 r55 c59) = some b) i) i) σ47 σm ∧ c59 = r55.length, fun ((a58, c59, b105, a109, c110) : (Option Addr) × (Nat) × (Nat) × (Option Addr) × (Nat)) => fun σm => Hp S0 σ0 σm [Ch.ro 0 (Sl a58 r55 c59) r55, Ch.ro n0 (Sl a117 x112 c118) x112, Ch.ro n0 (Sl a100 x95 c101) x95, Ch.ro n0 (Sl a90 x85 c91) x85, Ch.ro n0 (Sl a80 x75 c81) x75, Ch.ro 0 (Sl a66 x61 c67) x61, Ch.ro n0 (Sl a66 x61 c67) x61, Ch.ro 0 (Sl a51 xs49 c52) xs49, Ch.ro n0 (Sl a51 xs49 c52) xs49, Ch.ro n0 (Sl a5 r2 c6) r2, Ch.own n0 n0 (Sl a11 r8 c12) r8] ∧ Md (fun i => (cov []) i ∨ (fun i => (cov [Ch.ro 0 (Sl a51 xs49 c52) xs49]) i ∨ (fun b => blk (Sl a58 r55 c59) = some b) i) i) σ47 σm ∧ c59 = r55.length, fun ((a58, c59, b105, a109, c110) : (Option Addr) × (Nat) × (Nat) × (Option Addr) × (Nat)) => fun σm => Hp S0 σ0 σm [Ch.ro 0 (Sl (some ⟨b105, 0, none⟩) ([x75, x85, x95] : List (List Int)) 3) ([x75, x85, x95] : List (List Int)), Ch.ro 0 (Sl a58 r55 c59) r55, Ch.ro n0 (Sl a117 x112 c118) x112, Ch.ro n0 (Sl a100 x95 c101) x95, Ch.ro n0 (Sl a90 x85 c91) x85, Ch.ro n0 (Sl a80 x75 c81) x75, Ch.ro 0 (Sl a66 x61 c67) x61, Ch.ro n0 (Sl a66 x61 c67) x61, Ch.ro 0 (Sl a51 xs49 c52) xs49, Ch.ro n0 (Sl a51 xs49 c52) xs49, Ch.ro n0 (Sl a5 r2 c6) r2, Ch.own n0 n0 (Sl a11 r8 c12) r8] ∧ Md (fun i => (fun i => (cov []) i ∨ (fun i => (cov [Ch.ro 0 (Sl a51 xs49 c52) xs49]) i ∨ (fun b => blk (Sl a58 r55 c59) = some b) i) i) i ∨ (fun i => (cov []) i ∨ (fun b => blk (Sl (some ⟨b105, 0, none⟩) ([x75, x85, x95] : List (List Int)) 3) = some b) i) i) σ47 σm ∧ c59 = r55.length, fun ((a58, c59, b105, a109, c110) : (Option Addr) × (Nat) × (Nat) × (Option Addr) × (Nat)) => fun σm => Hp S0 σ0 σm [Ch.own n0 n0 (Sl a109 r106 c110) r106, Ch.ro 0 (Sl (some ⟨b105, 0, none⟩) ([x75, x85, x95] : List (List Int)) 3) ([x75, x85, x95] : List (List Int)), Ch.ro 0 (Sl a58 r55 c59) r55, Ch.ro n0 (Sl a117 x112 c118) x112, Ch.ro n0 (Sl a100 x95 c101) x95, Ch.ro n0 (Sl a90 x85 c91) x85, Ch.ro n0 (Sl a80 x75 c81) x75, Ch.ro 0 (Sl a66 x61 c67) x61, Ch.ro n0 (Sl a66 x61 c67) x61, Ch.ro 0 (Sl a51 xs49 c52) xs49, Ch.ro n0 (Sl a51 xs49 c52) xs49, Ch.ro n0 (Sl a5 r2 c6) r2, Ch.own n0 n0 (Sl a11 r8 c12) r8] ∧ Md (fun i => (fun i => (cov []) i ∨ (fun i => (cov [Ch.ro 0 (Sl a51 xs49 c52) xs49]) i ∨ (fun b => blk (Sl a58 r55 c59) = some b) i) i) i ∨ (fun i => (cov []) i ∨ (fun b => blk (Sl (some ⟨b105, 0, none⟩) ([x75, x85, x95] : List (List Int)) 3) = some b) i) i) σ47 σm ∧ c59 = r55.length ∧ c110 = r106.length] [fun ((a58, c59, b105, a109, c110) : (Option Addr) × (Nat) × (Nat) × (Option Addr) × (Nat)) => (Sl a5 r2 c6), fun ((a58, c59, b105, a109, c110) : (Option Addr) × (Nat) × (Nat) × (Option Addr) × (Nat)) => (Sl a51 xs49 c52), fun ((a58, c59, b105, a109, c110) : (Option Addr) × (Nat) × (Nat) × (Option Addr) × (Nat)) => (Sl a58 r55 c59), fun ((a58, c59, b105, a109, c110) : (Option Addr) × (Nat) × (Nat) × (Option Addr) × (Nat)) => (Sl a5 r2 c6), fun ((a58, c59, b105, a109, c110) : (Option Addr) × (Nat) × (Nat) × (Option Addr) × (Nat)) => (pt b64 o65), fun ((a58, c59, b105, a109, c110) : (Option Addr) × (Nat) × (Nat) × (Option Addr) × (Nat)) => (Sl a66 x61 c67), fun ((a58, c59, b105, a109, c110) : (Option Addr) × (Nat) × (Nat) × (Option Addr) × (Nat)) => (B r71), fun ((a58, c59, b105, a109, c110) : (Option Addr) × (Nat) × (Nat) × (Option Addr) × (Nat)) => (B r71), fun ((a58, c59, b105, a109, c110) : (Option Addr) × (Nat) × (Nat) × (Option Addr) × (Nat)) => (Sl a5 r2 c6), fun ((a58, c59, b105, a109, c110) : (Option Addr) × (Nat) × (Nat) × (Option Addr) × (Nat)) => (pt b78 o79), fun ((a58, c59, b105, a109, c110) : (Option Addr) × (Nat) × (Nat) × (Option Addr) × (Nat)) => (Sl a80 x75 c81), fun ((a58, c59, b105, a109, c110) : (Option Addr) × (Nat) × (Nat) × (Option Addr) × (Nat)) => (Sl a5 r2 c6), fun ((a58, c59, b105, a109, c110) : (Option Addr) × (Nat) × (Nat) × (Option Addr) × (Nat)) => (pt b88 o89), fun ((a58, c59, b105, a109, c110) : (Option Addr) × (Nat) × (Nat) × (Option Addr) × (Nat)) => (Sl a90 x85 c91), fun ((a58, c59, b105, a109, c110) : (Option Addr) × (Nat) × (Nat) × (Option Addr) × (Nat)) => (Sl a5 r2 c6), fun ((a58, c59, b105, a109, c110) : (Option Addr) × (Nat) × (Nat) × (Option Addr) × (Nat)) => (pt b98 o99), fun ((a58, c59, b105, a109, c110) : (Option Addr) × (Nat) × (Nat) × (Option Addr) × (Nat)) => (Sl a100 x95 c101), fun ((a58, c59, b105, a109, c110) : (Option Addr) × (Nat) × (Nat) × (Option Addr) × (Nat)) => (Sl (some ⟨b105, 0, none⟩) ([x75, x85, x95] : List (List Int)) 3), fun ((a58, c59, b105, a109, c110) : (Option Addr) × (Nat) × (Nat) × (Option Addr) × (Nat)) => (Sl a109 r106 c110), fun ((a58, c59, b105, a109, c110) : (Option Addr) × (Nat) × (Nat) × (Option Addr) × (Nat)) => (Sl a5 r2 c6), fun ((a58, c59, b105, a109, c110) : (Option Addr) × (Nat) × (Nat) × (Option Addr) × (Nat)) => (pt b115 o116), fun ((a58, c59, b105, a109, c110) : (Option Addr) × (Nat) × (Nat) × (Option Addr) × (Nat)) => (Sl a117 x112 c118)] (none, 0, 0, none, 0) (by kernel_rfl) (by kernel_rfl) ?_ ?_ ?_
     ·intro σm m0
      exact ⟨H.grow (m0.mono fun _ h => h.elim), m0⟩
     ·refine ac rfl (by
        intro k; rintro ⟨a58, c59, b105, a109, c110⟩ ρ σm hJ hoff hdep
        have e3 := look_off (N := 50) (hoff 3 rfl) rfl
        exact dp_v (v := (Sl a5 r2 c6)) wn (rv_move e3) rfl hJ) ?_
      refine ac rfl (by
        intro k; rintro ⟨a58, c59, b105, a109, c110⟩ ρ σm hJ hoff hdep
        have e26 := hdep 0 rfl rfl 26 rfl
        exact dp_v (v := (Sl a51 xs49 c52)) wn (rv_slice_h Try.underlying35 ti23 hs53 e26 rfl) rfl hJ) ?_
      refine all_cons (by
        refine ⟨?_, ?_⟩
        ·rintro ⟨a58, c59, b105, a109, c110⟩ ρ σm hJ hoff hdep
         have e27 : look 50 ρ 27 = (Sl a51 xs49 c52) := hdep 1 rfl rfl 27 rfl
         obtain ⟨H, m⟩ := id hJ
         refine dp_cx wn (cx_call hc57 (ent_f hc57.fn (by show [look 50 ρ 27] = _; rw [e27])) hn0 (show Hp S0 σ0 _ ([Ch.ro 0 (Sl a51 xs49 c52) xs49] ++ [Ch.ro n0 (Sl a117 x112 c118) x112, Ch.ro n0 (Sl a100 x95 c101) x95, Ch.ro n0 (Sl a90 x85 c91) x85, Ch.ro n0 (Sl a80 x75 c81) x75, Ch.ro 0 (Sl a66 x61 c67) x61, Ch.ro n0 (Sl a66 x61 c67) x61, Ch.ro 0 (Sl a51 xs49 c52) xs49, Ch.ro n0 (Sl a51 xs49 c52) xs49, Ch.ro n0 (Sl a5 r2 c6) r2, Ch.own n0 n0 (Sl a11 r8 c12) r8]) from (H.sel' [6, 0, 1, 2, 3, 4, 5, 6, 7, 8, 9] rfl rfl))) ?_
         rintro _ σq ⟨_, ⟨a58x, c59x, rfl, rfl, ht60⟩, H2, m2⟩
         obtain ⟨σr0, hwr0, H2, mr0⟩ := H2.pubSc 0 rfl
         exact ⟨_, (a58x, c59x, b105, a109, c110), hwr0, rfl, ⟨H2.sel' [0, 1, 2, 3, 4, 5, 6, 7, 8, 9, 10] rfl rfl, m.comp (m2.comp mr0), ht60⟩, stab [0, 1, 3, 4, 5] (by kernel_rfl) ⟨rfl, rfl, rfl, rfl, rfl, trivial⟩⟩
        trivial) ?_
      refine ac rfl (by
        intro k; rintro ⟨a58, c59, b105, a109, c110⟩ ρ σm hJ hoff hdep
        have e3 := look_off (N := 50) (hoff 3 rfl) rfl
        exact dp_v (v := (Sl a5 r2 c6)) wn (rv_move e3) rfl hJ) ?_
      refine ac rfl (by
        intro k; rintro ⟨a58, c59, b105, a109, c110⟩ ρ σm hJ hoff hdep
        have e29 := hdep 3 rfl rfl 29 rfl
        exact dp_v (v := (pt b64 o65)) wn (rv_ix Try.underlying35 ti23 e29 rfl hi63) rfl hJ) ?_
      refine all_cons (by
        refine ⟨?_, ?_⟩
        ·rintro ⟨a58, c59, b105, a109, c110⟩ ρ σm hJ hoff hdep
         have e30 := hdep 4 rfl rfl 30 rfl
         obtain ⟨H, m⟩ := id hJ
         replace hc70 := (Hs.ro 8 rfl).hmd hx62 hi63 (k := 0) (by decide) hc70 m
         exact dp_v (v := (Sl a66 x61 c67)) wn (rv_load1 Try.underlying23 rfl e30 hc70) rfl hJ
        refine ⟨?_, ?_⟩
        ·rintro ⟨a58, c59, b105, a109, c110⟩ ρ σm hJ hoff hdep
         have e30 := hdep 4 rfl rfl 30 rfl
         obtain ⟨H, m, ht60⟩ := id hJ
         replace hc70 := (Hs.ro 8 rfl).hmd hx62 hi63 (k := 0) (by decide) hc70 m
         exact dp_v (v := (Sl a66 x61 c67)) wn (rv_load1 Try.underlying23 rfl e30 hc70) rfl hJ
        trivial) ?_
      refine all_cons (by
        refine ⟨?_, ?_⟩
        ·rintro ⟨a58, c59, b105, a109, c110⟩ ρ σm hJ hoff hdep
         have e28 : look 50 ρ 28 = (Sl a58 r55 c59) := hdep 2 rfl rfl 28 rfl
         have e31 : look 50 ρ 31 = (Sl a66 x61 c67) := hdep 5 rfl rfl 31 rfl
         obtain ⟨H, m, ht60⟩ := id hJ
         refine dp_cx wn (cx_call (hc73 a58 c59) (ent_f (hc73 a58 c59).fn (by show [look 50 ρ 28, look 50 ρ 31] = _; rw [e28, e31])) hn0 (show Hp S0 σ0 _ ([Ch.ro 0 (Sl a58 r55 c59) r55, Ch.ro 0 (Sl a66 x61 c67) x61] ++ [Ch.ro 0 (Sl a58 r55 c59) r55, Ch.ro n0 (Sl a117 x112 c118) x112, Ch.ro n0 (Sl a100 x95 c101) x95, Ch.ro n0 (Sl a90 x85 c91) x85, Ch.ro n0 (Sl a80 x75 c81) x75, Ch.ro 0 (Sl a66 x61 c67) x61, Ch.ro n0 (Sl a66 x61 c67) x61, Ch.ro 0 (Sl a51 xs49 c52) xs49, Ch.ro n0 (Sl a51 xs49 c52) xs49, Ch.ro n0 (Sl a5 r2 c6) r2, Ch.own n0 n0 (Sl a11 r8 c12) r8]) from (H.sel' [0, 5, 0, 1, 2, 3, 4, 5, 6, 7, 8, 9, 10] rfl rfl))) ?_
         rintro _ σq ⟨_, ⟨rfl, rfl⟩, H2, m2⟩
         exact ⟨_, (a58, c59, b105, a109, c110), rfl, rfl, ⟨H2.sel' [0, 1, 2, 3, 4, 5, 6, 7, 8, 9, 10] rfl rfl, m.comp0 (m2.mono (fun i h => by simp [cov, Ch.ro] at h)), ht60⟩, stab [0, 1, 2, 3, 4, 5] (by kernel_rfl) ⟨rfl, rfl, rfl, rfl, rfl, rfl, trivial⟩⟩
        trivial) ?_
      refine ac rfl (by
        intro k; rintro ⟨a58, c59, b105, a109, c110⟩ ρ σm hJ hoff hdep
        have e32 := hdep 6 rfl rfl 32 rfl
        exact dp_v (v := (B r71)) wn (rv_move e32) rfl hJ) ?_
      refine ac rfl (by
        intro k; rintro ⟨a58, c59, b105, a109, c110⟩ ρ σm hJ hoff hdep
        have e3 := look_off (N := 50) (hoff 3 rfl) rfl
        have e33 := hdep 7 rfl rfl 33 rfl
        exact dp_v (v := (Sl a5 r2 c6)) (wanted_yes rfl (yv_of rfl (e33.trans (congrArg B hb74)))) (rv_move e3) rfl hJ) ?_
      refine ac rfl (by
        intro k; rintro ⟨a58, c59, b105, a109, c110⟩ ρ σm hJ hoff hdep
        have e34 := hdep 8 rfl rfl 34 rfl
        have e33 := hdep 7 rfl rfl 33 rfl
        exact dp_v (v := (pt b78 o79)) (wanted_yes rfl (yv_of rfl (e33.trans (congrArg B hb74)))) (rv_ix Try.underlying35 ti23 e34 rfl hi77) rfl hJ) ?_
      refine all_cons (by
        refine ⟨?_, ?_⟩
        ·rintro ⟨a58, c59, b105, a109, c110⟩ ρ σm hJ hoff hdep
         have e35 := hdep 9 rfl rfl 35 rfl
         have e33 := hdep 7 rfl rfl 33 rfl
         obtain ⟨H, m, ht60⟩ := id hJ
         replace hc84 := (Hs.ro 8 rfl).hmd hx76 hi77 (k := 0) (by decide) hc84 m
         exact dp_v (v := (Sl a80 x75 c81)) (wanted_yes rfl (yv_of rfl (e33.trans (congrArg B hb74)))) (rv_load1 Try.underlying23 rfl e35 hc84) rfl hJ
        trivial) ?_
      refine ac rfl (by
        intro k; rintro ⟨a58, c59, b105, a109, c110⟩ ρ σm hJ hoff hdep
        have e3 := look_off (N := 50) (hoff 3 rfl) rfl
        have e33 := hdep 7 rfl rfl 33 rfl
        exact dp_v (v := (Sl a5 r2 c6)) (wanted_yes rfl (yv_of rfl (e33.trans (congrArg B hb74)))) (rv_move e3) rfl hJ) ?_
      refine ac rfl (by
        intro k; rintro ⟨a58, c59, b105, a109, c110⟩ ρ σm hJ hoff hdep
        have e37 := hdep 11 rfl rfl 37 rfl
        have e33 := hdep 7 rfl rfl 33 rfl
        exact dp_v (v := (pt b88 o89)) (wanted_yes rfl (yv_of rfl (e33.trans (congrArg B hb74)))) (rv_ix Try.underlying35 ti23 e37 rfl hi87) rfl hJ) ?_
      refine all_cons (by
        refine ⟨?_, ?_⟩
        ·rintro ⟨a58, c59, b105, a109, c110⟩ ρ σm hJ hoff hdep
         have e38 := hdep 12 rfl rfl 38 rfl
         have e33 := hdep 7 rfl rfl 33 rfl
         obtain ⟨H, m, ht60⟩ := id hJ
         replace hc94 := (Hs.ro 8 rfl).hmd hx86 hi87 (k := 0) (by decide) hc94 m
         exact dp_v (v := (Sl a90 x85 c91)) (wanted_yes rfl (yv_of rfl (e33.trans (congrArg B hb74)))) (rv_load1 Try.underlying23 rfl e38 hc94) rfl hJ
        trivial) ?_
      refine ac rfl (by
        intro k; rintro ⟨a58, c59, b105, a109, c110⟩ ρ σm hJ hoff hdep
        have e3 := look_off (N := 50) (hoff 3 rfl) rfl
        have e33 := hdep 7 rfl rfl 33 rfl
        exact dp_v (v := (Sl a5 r2 c6)) (wanted_yes rfl (yv_of rfl (e33.trans (congrArg B hb74)))) (rv_move e3) rfl hJ) ?_
      refine ac rfl (by
        intro k; rintro ⟨a58, c59, b105, a109, c110⟩ ρ σm hJ hoff hdep
        have e40 := hdep 14 rfl rfl 40 rfl
        have e33 := hdep 7 rfl rfl 33 rfl
        exact dp_v (v := (pt b98 o99)) (wanted_yes rfl (yv_of rfl (e33.trans (congrArg B hb74)))) (rv_ix Try.underlying35 ti23 e40 rfl hi97) rfl hJ) ?_
      refine all_cons (by
        refine ⟨?_, ?_⟩
        ·rintro ⟨a58, c59, b105, a109, c110⟩ ρ σm hJ hoff hdep
         have e41 := hdep 15 rfl rfl 41 rfl
         have e33 := hdep 7 rfl rfl 33 rfl
         obtain ⟨H, m, ht60⟩ := id hJ
         replace hc104 := (Hs.ro 8 rfl).hmd hx96 hi97 (k := 0) (by decide) hc104 m
         exact dp_v (v := (Sl a100 x95 c101)) (wanted_yes rfl (yv_of rfl (e33.trans (congrArg B hb74)))) (rv_load1 Try.underlying23 rfl e41 hc104) rfl hJ
        trivial) ?_
      refine all_cons (by
        refine ⟨?_, ?_⟩
        ·rintro ⟨a58, c59, b105, a109, c110⟩ ρ σm hJ hoff hdep
         have e36 : look 50 ρ 36 = (Sl a80 x75 c81) := hdep 10 rfl rfl 36 rfl
         have e39 : look 50 ρ 39 = (Sl a90 x85 c91) := hdep 13 rfl rfl 39 rfl
         have e42 : look 50 ρ 42 = (Sl a100 x95 c101) := hdep 16 rfl rfl 42 rfl
         have e33 := hdep 7 rfl rfl 33 rfl
         obtain ⟨H, m, ht60⟩ := id hJ
         refine dp_ex (wanted_yes rfl (yv_of rfl (e33.trans (congrArg B hb74)))) (ex_buildSlice (el := 0) (xs := ([x75, x85, x95] : List (List Int))) (ps := [(0, (Sl a80 x75 c81)), (1, (Sl a90 x85 c91)), (2, (Sl a100 x95 c101))]) (cs := [(Sl a80 x75 c81), (Sl a90 x85 c91), (Sl a100 x95 c101)]) H hn0 Try.underlying35 ti23 rfl (by show [(0, look 50 ρ 36), (1, look 50 ρ 39), (2, look 50 ρ 42)] = _; rw [e36, e39, e42]) (by kernel_rfl) (.cons (c := [(Sl a80 x75 c81)]) ⟨_, rfl, ((H.ro 4 rfl).low (Nat.zero_le _))⟩ (.cons (c := [(Sl a90 x85 c91)]) ⟨_, rfl, ((H.ro 3 rfl).low (Nat.zero_le _))⟩ (.cons (c := [(Sl a100 x95 c101)]) ⟨_, rfl, ((H.ro 2 rfl).low (Nat.zero_le _))⟩ (.nil)))) rfl) ?_
         rintro _ σq ⟨b105x, rfl, H2, m2⟩
         obtain ⟨σr0, hwr0, H2, mr0⟩ := H2.pub 0 rfl (Nat.zero_le _)
         exact ⟨_, (a58, c59, b105x, a109, c110), hwr0, rfl, ⟨H2.sel' [0, 1, 2, 3, 4, 5, 6, 7, 8, 9, 10, 11] rfl rfl, m.comp (m2.comp mr0), ht60⟩, stab [0, 1, 2, 3, 4, 5, 6, 7, 8, 9, 10, 11, 12, 13, 14, 15, 16, 19, 20, 21] (by kernel_rfl) ⟨rfl, rfl, rfl, rfl, rfl, rfl, rfl, rfl, rfl, rfl, rfl, rfl, rfl, rfl, rfl, rfl, rfl, rfl, rfl, rfl, trivial⟩⟩
        trivial) ?_
      refine all_cons (by
        refine ⟨?_, ?_⟩
        ·rintro ⟨a58, c59, b105, a109, c110⟩ ρ σm hJ hoff hdep
         have e43 : look 50 ρ 43 = (Sl (some ⟨b105, 0, none⟩) ([x75, x85, x95] : List (List Int)) 3) := hdep 17 rfl rfl 43 rfl
         have e33 := hdep 7 rfl rfl 33 rfl
         obtain ⟨H, m, ht60⟩ := id hJ
         refine dp_cx (wanted_yes rfl (yv_of rfl (e33.trans (congrArg B hb74)))) (cx_call (hc108 b105) (ent_f (hc108 b105).fn (by show [look 50 ρ 43] = _; rw [e43])) hn0 (show Hp S0 σ0 _ ([Ch.ro 0 (Sl (some ⟨b105, 0, none⟩) ([x75, x85, x95] : List (List Int)) 3) ([x75, x85, x95] : List (List Int))] ++ [Ch.ro 0 (Sl (some ⟨b105, 0, none⟩) ([x75, x85, x95] : List (List Int)) 3) ([x75, x85, x95] : List (List Int)), Ch.ro 0 (Sl a58 r55 c59) r55, Ch.ro n0 (Sl a117 x112 c118) x112, Ch.ro n0 (Sl a100 x95 c101) x95, Ch.ro n0 (Sl a90 x85 c91) x85, Ch.ro n0 (Sl a80 x75 c81) x75, Ch.ro 0 (Sl a66 x61 c67) x61, Ch.ro n0 (Sl a66 x61 c67) x61, Ch.ro 0 (Sl a51 xs49 c52) xs49, Ch.ro n0 (Sl a51 xs49 c52) xs49, Ch.ro n0 (Sl a5 r2 c6) r2, Ch.own n0 n0 (Sl a11 r8 c12) r8]) from (H.sel' [0, 0, 1, 2, 3, 4, 5, 6, 7, 8, 9, 10, 11] rfl rfl))) ?_
         rintro _ σq ⟨_, ⟨a109x, c110x, rfl, rfl, ht111⟩, H2, m2⟩
         exact ⟨_, (a58, c59, b105, a109x, c110x), rfl, rfl, ⟨H2.sel' [0, 1, 2, 3, 4, 5, 6, 7, 8, 9, 10, 11, 12] rfl rfl, m.comp0 (m2.mono (fun i h => by simp [cov, Ch.ro] at h)), ht60, ht111⟩, stab [0, 1, 2, 3, 4, 5, 6, 7, 8, 9, 10, 11, 12, 13, 14, 15, 16, 17, 19, 20, 21] (by kernel_rfl) ⟨rfl, rfl, rfl, rfl, rfl, rfl, rfl, rfl, rfl, rfl, rfl, rfl, rfl, rfl, rfl, rfl, rfl, rfl, rfl, rfl, rfl, trivial⟩⟩
        trivial) ?_
      refine ac rfl (by
        intro k; rintro ⟨a58, c59, b105, a109, c110⟩ ρ σm hJ hoff hdep
        have e3 := look_off (N := 50) (hoff 3 rfl) rfl
        have e33 := hdep 7 rfl rfl 33 rfl
        exact dp_v (v := (Sl a5 r2 c6)) (wanted_yes rfl (yv_of rfl (e33.trans (congrArg B hb74)))) (rv_move e3) rfl hJ) ?_
      refine ac rfl (by
        intro k; rintro ⟨a58, c59, b105, a109, c110⟩ ρ σm hJ hoff hdep
        have e45 := hdep 19 rfl rfl 45 rfl
        have e33 := hdep 7 rfl rfl 33 rfl
        exact dp_v (v := (pt b115 o116)) (wanted_yes rfl (yv_of rfl (e33.trans (congrArg B hb74)))) (rv_ix Try.underlying35 ti23 e45 rfl hi114) rfl hJ) ?_
      refine all_cons (by
        refine ⟨?_, ?_⟩
        ·rintro ⟨a58, c59, b105, a109, c110⟩ ρ σm hJ hoff hdep
         have e46 := hdep 20 rfl rfl 46 rfl
         have e33 := hdep 7 rfl rfl 33 rfl
         obtain ⟨H, m, ht60⟩ := id hJ
         replace hc121 := (Hs.ro 8 rfl).hmd hx113 hi114 (k := 0) (by decide) hc121 m
         exact dp_v (v := (Sl a117 x112 c118)) (wanted_yes rfl (yv_of rfl (e33.trans (congrArg B hb74)))) (rv_load1 Try.underlying23 rfl e46 hc121) rfl hJ
        refine ⟨?_, ?_⟩
        ·rintro ⟨a58, c59, b105, a109, c110⟩ ρ σm hJ hoff hdep
         have e46 := hdep 20 rfl rfl 46 rfl
         have e33 := hdep 7 rfl rfl 33 rfl
         obtain ⟨H, m, ht60⟩ := id hJ
         replace hc121 := (Hs.ro 8 rfl).hmd hx113 hi114 (k := 0) (by decide) hc121 m
         exact dp_v (v := (Sl a117 x112 c118)) (wanted_yes rfl (yv_of rfl (e33.trans (congrArg B hb74)))) (rv_load1 Try.underlying23 rfl e46 hc121) rfl hJ
        refine ⟨?_, ?_⟩
        ·rintro ⟨a58, c59, b105, a109, c110⟩ ρ σm hJ hoff hdep
         have e46 := hdep 20 rfl rfl 46 rfl
         have e33 := hdep 7 rfl rfl 33 rfl
         obtain ⟨H, m, ht60, ht111⟩ := id hJ
         replace hc121 := (Hs.ro 8 rfl).hmd hx113 hi114 (k := 0) (by decide) hc121 m
         exact dp_v (v := (Sl a117 x112 c118)) (wanted_yes rfl (yv_of rfl (e33.trans (congrArg B hb74)))) (rv_load1 Try.underlying23 rfl e46 hc121) rfl hJ
        trivial) ?_
      exact all_nil
     ·rintro ⟨a58, c59, b105, a109, c110⟩ ρ σ122 hJ hoff hrel
      have e33 := hrel 7 rfl 33 rfl
      have e44 := hrel 18 rfl 44 rfl
      have e47 := hrel 21 rfl 47 rfl
      obtain ⟨H, -, ht60, ht111⟩ := (show Hp S0 σ0 σ122 [Ch.own n0 n0 (Sl a109 r106 c110) r106, Ch.ro 0 (Sl (some ⟨b105, 0, none⟩) ([x75, x85, x95] : List (List Int)) 3) ([x75, x85, x95] : List (List Int)), Ch.ro 0 (Sl a58 r55 c59) r55, Ch.ro n0 (Sl a117 x112 c118) x112, Ch.ro n0 (Sl a100 x95 c101) x95, Ch.ro n0 (Sl a90 x85 c91) x85, Ch.ro n0 (Sl a80 x75 c81) x75, Ch.ro 0 (Sl a66 x61 c67) x61, Ch.ro n0 (Sl a66 x61 c67) x61, Ch.ro 0 (Sl a51 xs49 c52) xs49, Ch.ro n0 (Sl a51 xs49 c52) xs49, Ch.ro n0 (Sl a5 r2 c6) r2, Ch.own n0 n0 (Sl a11 r8 c12) r8] ∧ Md (fun i => (fun i => (cov []) i ∨ (fun i => (cov [Ch.ro 0 (Sl a51 xs49 c52) xs49]) i ∨ (fun b => blk (Sl a58 r55 c59) = some b) i) i) i ∨ (fun i => (cov []) i ∨ (fun b => blk (Sl (some ⟨b105, 0, none⟩) ([x75, x85, x95] : List (List Int)) 3) = some b) i) i) σ47 σ122 ∧ c59 = r55.length ∧ c110 = r106.length from hJ)
      clear hJ Hs
      rw [fr_lookL (L := [(33, (B r71)), (44, (Sl a109 r106 c110)), (47, (Sl a117 x112 c118))]) ⟨e33, e44, e47, trivial⟩]
      clear hoff hrel e33 e44 e47
      obtain ⟨σ123, hw124, H, -⟩ := H.pub 0 rfl (Nat.le_refl _)
      rw [← hw124]; clear hw124
      replace H := H.roLow 0 0 rfl (Nat.zero_le _)
      replace H := H.roLow 4 0 rfl (Nat.zero_le _)
      obtain ⟨r125, hx126, h'⟩ := bind_some h
      clear h
      have h := h'; clear h'
      have hc127 := c_laws_equalInts (aa_0 := a109) (ca_0 := c110) (ab_1 := a117) (cb_1 := c118) hx126
      refine st_call (cx_call hc127 (ent_f hc127.fn rfl) hn0 (show Hp S0 σ0 _ ([Ch.ro 0 (Sl a109 r106 c110) r106, Ch.ro 0 (Sl a117 x112 c118) x112] ++ [Ch.ro 0 (Sl a117 x112 c118) x112, Ch.ro 0 (Sl a109 r106 c110) r106, Ch.ro n0 (Sl a109 r106 c110) r106, Ch.ro 0 (Sl (some ⟨b105, 0, none⟩) ([x75, x85, x95] : List (List Int)) 3) ([x75, x85, x95] : List (List Int)), Ch.ro 0 (Sl a58 r55 c59) r55, Ch.ro n0 (Sl a117 x112 c118) x112, Ch.ro n0 (Sl a100 x95 c101) x95, Ch.ro n0 (Sl a90 x85 c91) x85, Ch.ro n0 (Sl a80 x75 c81) x75, Ch.ro 0 (Sl a66 x61 c67) x61, Ch.ro n0 (Sl a66 x61 c67) x61, Ch.ro 0 (Sl a51 xs49 c52) xs49, Ch.ro n0 (Sl a51 xs49 c52) xs49, Ch.ro n0 (Sl a5 r2 c6) r2, Ch.own n0 n0 (Sl a11 r8 c12) r8]) from (H.sel' [1, 0, 0, 1, 2, 3, 4, 5, 6, 7, 8, 9, 10, 11, 12, 13, 14] rfl rfl))) (wanted_yes rfl (by exact (congrArg some hb74))) ?_
      rintro _ σ128 ⟨_, ⟨rfl, rfl⟩, H, -⟩
      replace H : Hp S0 σ0 σ128 [Ch.ro 0 (Sl a117 x112 c118) x112, Ch.ro 0 (Sl a109 r106 c110) r106, Ch.ro n0 (Sl a109 r106 c110) r106, Ch.ro 0 (Sl (some ⟨b105, 0, none⟩) ([x75, x85, x95] : List (List Int)) 3) ([x75, x85, x95] : List (List Int)), Ch.ro 0 (Sl a58 r55 c59) r55, Ch.ro n0 (Sl a117 x112 c118) x112, Ch.ro n0 (Sl a100 x95 c101) x95, Ch.ro n0 (Sl a90 x85 c91) x85, Ch.ro n0 (Sl a80 x75 c81) x75, Ch.ro 0 (Sl a66 x61 c67) x61, Ch.ro n0 (Sl a66 x61 c67) x61, Ch.ro 0 (Sl a51 xs49 c52) xs49, Ch.ro n0 (Sl a51 xs49 c52) xs49, Ch.ro n0 (Sl a5 r2 c6) r2, Ch.own n0 n0 (Sl a11 r8 c12) r8] := H
      replace H : Hp S0 σ0 σ128 [] := H.sel' [] rfl rfl
      refine st (v := (B r125)) (rv_pick_t (congrArg B hb74) rfl) ?_
      refine st (v := (B r125)) (rv_assign rfl) ?_
      refine w_end ?_
      refine q_then ?_
      refine c_ret ?_
      obtain rfl := Option.some.inj h
      exact fin_ret (v := (B r125)) (results_ok Try.results10 (res_tmp (v := (B r125)) rfl res_nil) rfl) ⟨rfl, rfl⟩ (H.sel' [] rfl rfl)
    ·replace h := bif_f hb74 h
     have Hs := H
     refine rg2 (σ := σ47) (Nm := (Option Addr) × (Nat)) 22 [2, 6] [[false, false], [true, false], [true, true]] [[(0, 0)], [(0, 0)], [(0, 1)], [(0, 0), (1, 1)], [(0, 0), (1, 1)], [(0, 0), (1, 1)], [(1, 2)], [(2, 2)], [(2, 2)], [(2, 2)], [(2, 2)], [(2, 2)], [(2, 2)], [(2, 2)], [(2, 2)], [(2, 2)], [(2, 2)], [(2, 2)], [(2, 2)], [(2, 2)], [(2, 2)], [(2, 2)]] 2 [fun ((a58, c59) : (Option Addr) × (Nat)) => fun σm => Hp S0 σ0 σm [Ch.ro 0 (Sl a66 x61 c67) x61, Ch.ro n0 (Sl a66 x61 c67) x61, Ch.ro 0 (Sl a51 xs49 c52) xs49, Ch.ro n0 (Sl a51 xs49 c52) xs49, Ch.ro n0 (Sl a5 r2 c6) r2, Ch.own n0 n0 (Sl a11 r8 c12) r8] ∧ Md (cov []) σ47 σm, fun ((a58, c59) : (Option Addr) × (Nat)) => fun σm => Hp S0 σ0 σm [Ch.ro 0 (Sl a58 r55 c59) r55, Ch.ro 0 (Sl a66 x61 c67) x61, Ch.ro n0 (Sl a66 x61 c67) x61, Ch.ro 0 (Sl a51 xs49 c52) xs49, Ch.ro n0 (Sl a51 xs49 c52) xs49, Ch.ro n0 (Sl a5 r2 c6) r2, Ch.own n0 n0 (Sl a11 r8 c12) r8] ∧ Md (fun i => (cov []) i ∨ (fun i => (cov [Ch.ro 0 (Sl a51 xs49 c52) xs49]) i ∨ (fun b => blk (Sl a58 r55 c59) = some b) i) i) σ47 σm ∧ c59 = r55.length, fun ((a58, c59) : (Option Addr) × (Nat)) => fun σm => Hp S0 σ0 σm [Ch.ro 0 (Sl a58 r55 c59) r55, Ch.ro 0 (Sl a66 x61 c67) x61, Ch.ro n0 (Sl a66 x61 c67) x61, Ch.ro 0 (Sl a51 xs49 c52) xs49, Ch.ro n0 (Sl a51 xs49 c52) xs49, Ch.ro n0 (Sl a5 r2 c6) r2, Ch.own n0 n0 (Sl a11 r8 c12) r8] ∧ Md (fun i => (cov []) i ∨ (fun i => (cov [Ch.ro 0 (Sl a51 xs49 c52) xs49]) i ∨ (fun b => blk (Sl a58 r55 c59) = some b) i) i) σ47 σm ∧ c59 = r55.length] [fun ((a58, c59) : (Option Addr) × (Nat)) => (Sl a5 r2 c6), fun ((a58, c59) : (Option Addr) × (Nat)) => (Sl a51 xs49 c52), fun ((a58, c59) : (Option Addr) × (Nat)) => (Sl a58 r55 c59), fun ((a58, c59) : (Option Addr) × (Nat)) => (Sl a5 r2 c6), fun ((a58, c59) : (Option Addr) × (Nat)) => (pt b64 o65), fun ((a58, c59) : (Option Addr) × (Nat)) => (Sl a66 x61 c67), fun ((a58, c59) : (Option Addr) × (Nat)) => (B r71), fun ((a58, c59) : (Option Addr) × (Nat)) => (B r71), fun ((a58, c59) : (Option Addr) × (Nat)) => undef, fun ((a58, c59) : (Option Addr) × (Nat)) => undef, fun ((a58, c59) : (Option Addr) × (Nat)) => undef, fun ((a58, c59) : (Option Addr) × (Nat)) => undef, fun ((a58, c59) : (Option Addr) × (Nat)) => undef, fun ((a58, c59) : (Option Addr) × (Nat)) => undef, fun ((a58, c59) : (Option Addr) × (Nat)) => undef, fun ((a58, c59) : (Option Addr) × (Nat)) => undef, fun ((a58, c59) : (Option Addr) × (Nat)) => undef, fun ((a58, c59) : (Option Addr) × (Nat)) => undef, fun ((a58, c59) : (Option Addr) × (Nat)) => undef, fun ((a58, c59) : (Option Addr) × (Nat)) => undef, fun ((a58, c59) : (Option Addr) × (Nat)) => undef, fun ((a58, c59) : (Option Addr) × (Nat)) => undef] (none, 0) (by kernel_rfl) (by kernel_rfl) ?_ ?_ ?_
     ·intro σm m0
      exact ⟨H.grow (m0.mono fun _ h => h.elim), m0⟩
     ·refine ac rfl (by
        intro k; rintro ⟨a58, c59⟩ ρ σm hJ hoff hdep
        have e3 := look_off (N := 50) (hoff 3 rfl) rfl
        exact dp_v (v := (Sl a5 r2 c6)) wn (rv_move e3) rfl hJ) ?_
      refine ac rfl (by
        intro k; rintro ⟨a58, c59⟩ ρ σm hJ hoff hdep
        have e26 := hdep 0 rfl rfl 26 rfl
        exact dp_v (v := (Sl a51 xs49 c52)) wn (rv_slice_h Try.underlying35 ti23 hs53 e26 rfl) rfl hJ) ?_
      refine all_cons (by
        refine ⟨?_, ?_⟩
        ·rintro ⟨a58, c59⟩ ρ σm hJ hoff hdep
         have e27 : look 50 ρ 27 = (Sl a51 xs49 c52) := hdep 1 rfl rfl 27 rfl
         obtain ⟨H, m⟩ := id hJ
         refine dp_cx wn (cx_call hc57 (ent_f hc57.fn (by show [look 50 ρ 27] = _; rw [e27])) hn0 (show Hp S0 σ0 _ ([Ch.ro 0 (Sl a51 xs49 c52) xs49] ++ [Ch.ro 0 (Sl a66 x61 c67) x61, Ch.ro n0 (Sl a66 x61 c67) x61, Ch.ro 0 (Sl a51 xs49 c52) xs49, Ch.ro n0 (Sl a51 xs49 c52) xs49, Ch.ro n0 (Sl a5 r2 c6) r2, Ch.own n0 n0 (Sl a11 r8 c12) r8]) from (H.sel' [2, 0, 1, 2, 3, 4, 5] rfl rfl))) ?_
         rintro _ σq ⟨_, ⟨a58x, c59x, rfl, rfl, ht60⟩, H2, m2⟩
         obtain ⟨σr0, hwr0, H2, mr0⟩ := H2.pubSc 0 rfl
         exact ⟨_, (a58x, c59x), hwr0, rfl, ⟨H2.sel' [0, 1, 2, 3, 4, 5, 6] rfl rfl, m.comp (m2.comp mr0), ht60⟩, stab [0, 1, 3, 4, 5] (by kernel_rfl) ⟨rfl, rfl, rfl, rfl, rfl, trivial⟩⟩
        trivial) ?_
      refine ac rfl (by
        intro k; rintro ⟨a58, c59⟩ ρ σm hJ hoff hdep
        have e3 := look_off (N := 50) (hoff 3 rfl) rfl
        exact dp_v (v := (Sl a5 r2 c6)) wn (rv_move e3) rfl hJ) ?_
      refine ac rfl (by
        intro k; rintro ⟨a58, c59⟩ ρ σm hJ hoff hdep
        have e29 := hdep 3 rfl rfl 29 rfl
        exact dp_v (v := (pt b64 o65)) wn (rv_ix Try.underlying35 ti23 e29 rfl hi63) rfl hJ) ?_
      refine all_cons (by
        refine ⟨?_, ?_⟩
        ·rintro ⟨a58, c59⟩ ρ σm hJ hoff hdep
         have e30 := hdep 4 rfl rfl 30 rfl
         obtain ⟨H, m⟩ := id hJ
         replace hc70 := (Hs.ro 4 rfl).hmd hx62 hi63 (k := 0) (by decide) hc70 m
         exact dp_v (v := (Sl a66 x61 c67)) wn (rv_load1 Try.underlying23 rfl e30 hc70) rfl hJ
        refine ⟨?_, ?_⟩
        ·rintro ⟨a58, c59⟩ ρ σm hJ hoff hdep
         have e30 := hdep 4 rfl rfl 30 rfl
         obtain ⟨H, m, ht60⟩ := id hJ
         replace hc70 := (Hs.ro 4 rfl).hmd hx62 hi63 (k := 0) (by decide) hc70 m
         exact dp_v (v := (Sl a66 x61 c67)) wn (rv_load1 Try.underlying23 rfl e30 hc70) rfl hJ
        trivial) ?_
      refine all_cons (by
        refine ⟨?_, ?_⟩
        ·rintro ⟨a58, c59⟩ ρ σm hJ hoff hdep
         have e28 : look 50 ρ 28 = (Sl a58 r55 c59) := hdep 2 rfl rfl 28 rfl
         have e31 : look 50 ρ 31 = (Sl a66 x61 c67) := hdep 5 rfl rfl 31 rfl
         obtain ⟨H, m, ht60⟩ := id hJ
         refine dp_cx wn (cx_call (hc73 a58 c59) (ent_f (hc73 a58 c59).fn (by show [look 50 ρ 28, look 50 ρ 31] = _; rw [e28, e31])) hn0 (show Hp S0 σ0 _ ([Ch.ro 0 (Sl a58 r55 c59) r55, Ch.ro 0 (Sl a66 x61 c67) x61] ++ [Ch.ro 0 (Sl a58 r55 c59) r55, Ch.ro 0 (Sl a66 x61 c67) x61, Ch.ro n0 (Sl a66 x61 c67) x61, Ch.ro 0 (Sl a51 xs49 c52) xs49, Ch.ro n0 (Sl a51 xs49 c52) xs49, Ch.ro n0 (Sl a5 r2 c6) r2, Ch.own n0 n0 (Sl a11 r8 c12) r8]) from (H.sel' [0, 1, 0, 1, 2, 3, 4, 5, 6] rfl rfl))) ?_
         rintro _ σq ⟨_, ⟨rfl, rfl⟩, H2, m2⟩
         exact ⟨_, (a58, c59), rfl, rfl, ⟨H2.sel' [0, 1, 2, 3, 4, 5, 6] rfl rfl, m.comp0 (m2.mono (fun i h => by simp [cov, Ch.ro] at h)), ht60⟩, stab [0, 1, 2, 3, 4, 5] (by kernel_rfl) ⟨rfl, rfl, rfl, rfl, rfl, rfl, trivial⟩⟩
        trivial) ?_
      refine ac rfl (by
        intro k; rintro ⟨a58, c59⟩ ρ σm hJ hoff hdep
        have e32 := hdep 6 rfl rfl 32 rfl
        exact dp_v (v := (B r71)) wn (rv_move e32) rfl hJ) ?_
      refine ac rfl (by
        intro k; rintro ⟨a58, c59⟩ ρ σm hJ hoff hdep
        have e33 := hdep 7 rfl rfl 33 rfl
        exact dp_skip (wanted_no rfl (yv_of rfl (e33.trans (congrArg B hb74)))) rfl hJ) ?_
      refine ac rfl (by
        intro k; rintro ⟨a58, c59⟩ ρ σm hJ hoff hdep
        have e33 := hdep 7 rfl rfl 33 rfl
        exact dp_skip (wanted_no rfl (yv_of rfl (e33.trans (congrArg B hb74)))) rfl hJ) ?_
      refine ac rfl (by
        intro k; rintro ⟨a58, c59⟩ ρ σm hJ hoff hdep
        have e33 := hdep 7 rfl rfl 33 rfl
        exact dp_skip (wanted_no rfl (yv_of rfl (e33.trans (congrArg B hb74)))) rfl hJ) ?_
      refine ac rfl (by
        intro k; rintro ⟨a58, c59⟩ ρ σm hJ hoff hdep
        have e33 := hdep 7 rfl rfl 33 rfl
        exact dp_skip (wanted_no rfl (yv_of rfl (e33.trans (congrArg B hb74)))) rfl hJ) ?_
      refine ac rfl (by
        intro k; rintro ⟨a58, c59⟩ ρ σm hJ hoff hdep
        have e33 := hdep 7 rfl rfl 33 rfl
        exact dp_skip (wanted_no rfl (yv_of rfl (e33.trans (congrArg B hb74)))) rfl hJ) ?_
      refine ac rfl (by
        intro k; rintro ⟨a58, c59⟩ ρ σm hJ hoff hdep
        have e33 := hdep 7 rfl rfl 33 rfl
        exact dp_skip (wanted_no rfl (yv_of rfl (e33.trans (congrArg B hb74)))) rfl hJ) ?_
      refine ac rfl (by
        intro k; rintro ⟨a58, c59⟩ ρ σm hJ hoff hdep
        have e33 := hdep 7 rfl rfl 33 rfl
        exact dp_skip (wanted_no rfl (yv_of rfl (e33.trans (congrArg B hb74)))) rfl hJ) ?_
      refine ac rfl (by
        intro k; rintro ⟨a58, c59⟩ ρ σm hJ hoff hdep
        have e33 := hdep 7 rfl rfl 33 rfl
        exact dp_skip (wanted_no rfl (yv_of rfl (e33.trans (congrArg B hb74)))) rfl hJ) ?_
      refine ac rfl (by
        intro k; rintro ⟨a58, c59⟩ ρ σm hJ hoff hdep
        have e33 := hdep 7 rfl rfl 33 rfl
        exact dp_skip (wanted_no rfl (yv_of rfl (e33.trans (congrArg B hb74)))) rfl hJ) ?_
      refine ac rfl (by
        intro k; rintro ⟨a58, c59⟩ ρ σm hJ hoff hdep
        have e33 := hdep 7 rfl rfl 33 rfl
        exact dp_skip (wanted_no rfl (yv_of rfl (e33.trans (congrArg B hb74)))) rfl hJ) ?_
      refine ac rfl (by
        intro k; rintro ⟨a58, c59⟩ ρ σm hJ hoff hdep
        have e33 := hdep 7 rfl rfl 33 rfl
        exact dp_skip (wanted_no rfl (yv_of rfl (e33.trans (congrArg B hb74)))) rfl hJ) ?_
      refine ac rfl (by
        intro k; rintro ⟨a58, c59⟩ ρ σm hJ hoff hdep
        have e33 := hdep 7 rfl rfl 33 rfl
        exact dp_skip (wanted_no rfl (yv_of rfl (e33.trans (congrArg B hb74)))) rfl hJ) ?_
      refine ac rfl (by
        intro k; rintro ⟨a58, c59⟩ ρ σm hJ hoff hdep
        have e33 := hdep 7 rfl rfl 33 rfl
        exact dp_skip (wanted_no rfl (yv_of rfl (e33.trans (congrArg B hb74)))) rfl hJ) ?_
      refine ac rfl (by
        intro k; rintro ⟨a58, c59⟩ ρ σm hJ hoff hdep
        have e33 := hdep 7 rfl rfl 33 rfl
        exact dp_skip (wanted_no rfl (yv_of rfl (e33.trans (congrArg B hb74)))) rfl hJ) ?_
      exact all_nil
     ·rintro ⟨a58, c59⟩ ρ σ129 hJ hoff hrel
      have e33 := hrel 7 rfl 33 rfl
      have e44 := hrel 18 rfl 44 rfl
      have e47 := hrel 21 rfl 47 rfl
      obtain ⟨H, -, ht60⟩ := (show Hp S0 σ0 σ129 [Ch.ro 0 (Sl a58 r55 c59) r55, Ch.ro 0 (Sl a66 x61 c67) x61, Ch.ro n0 (Sl a66 x61 c67) x61, Ch.ro 0 (Sl a51 xs49 c52) xs49, Ch.ro n0 (Sl a51 xs49 c52) xs49, Ch.ro n0 (Sl a5 r2 c6) r2, Ch.own n0 n0 (Sl a11 r8 c12) r8] ∧ Md (fun i => (cov []) i ∨ (fun i => (cov [Ch.ro 0 (Sl a51 xs49 c52) xs49]) i ∨ (fun b => blk (Sl a58 r55 c59) = some b) i) i) σ47 σ129 ∧ c59 = r55.length from hJ)
      clear hJ Hs
      rw [fr_lookL (L := [(33, (B r71)), (44, undef), (47, undef)]) ⟨e33, e44, e47, trivial⟩]
      clear hoff hrel e33 e44 e47
      refine st_skip (congrArg some hb74) ?_
      refine st (v := (B false)) (rv_pick_f (congrArg B hb74) rfl) ?_
      refine st (v := (B false)) (rv_assign rfl) ?_
      refine w_end ?_
      refine q_then ?_
      refine c_ret ?_
      obtain rfl := Option.some.inj h
      exact fin_ret (v := (B false)) (results_ok Try.results10 (res_tmp (v := (B false)) rfl res_nil) rfl) ⟨rfl, rfl⟩ (H.sel' [] rfl rfl)

end Go.Vs
