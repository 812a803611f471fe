/- The functions compute what their models say. -/
import Derived.Test.YtdjjikmfkejdiaaKBuildTreeRadiusC4
set_option linter.unusedVariables false
set_option linter.unusedSimpArgs false
set_option maxRecDepth 20000
namespace Go.Vs
open Go Go.Proofs
attribute [local irreducible] Code.wp Code.wpIn wpList wpListIn wpQuiet Calls CallsIn

theorem c_laws_FnBuildTreeRadius {code_0 : List UInt8} {acode_0 : Option Addr} {ccode_0 : Nat} {r : Bool} (h : M.laws_FnBuildTreeRadius code_0 = some r) :
    Cal2 Try.prog 12 [(Sl acode_0 code_0 ccode_0)] [Ch.ro 0 (Sl acode_0 code_0 ccode_0) code_0] (fun n0 v L => v = (B r) ∧ L = []) := by
 refine cal2 (n := 121) Try.func12 rfl rfl rfl rfl ?_
 intro S0 σ0 n0 hn0 H
 unfold M.laws_FnBuildTreeRadius at h
 refine c_seq ?_
 refine rg ?_
 refine st (v := (B false)) (rv_assign rfl) ?_
 refine w_end ?_
 refine q_then ?_
 refine c_seq ?_
 refine c_seq ?_
 refine rg ?_
 refine st (v := (Sl acode_0 code_0 ccode_0)) (rv_move rfl) ?_
 refine st (v := (I (code_0.length : Int))) (rv_len Try.underlying22 rfl) ?_
 refine st (v := (B (decide (1048576 < (code_0.length : Int))))) (rv_gtr (a := (code_0.length : Int)) (b := 1048576) rfl rfl) ?_
 refine w_end ?_
 refine q_then ?_
 refine cd_cond (decide (1048576 < (code_0.length : Int))) rfl (fun hb1 => ?_) (fun hb1 => ?_)
 ·replace h := bif_t hb1 h
  refine c_seq ?_
  refine rg ?_
  refine st (v := (B true)) (rv_assign rfl) ?_
  refine w_end ?_
  refine q_then ?_
  refine c_ret ?_
  refine q_then_r ?_
  obtain rfl := Option.some.inj h
  exact fin_ret (v := (B true)) (results_ok Try.results12 (res_tmp (v := (B true)) rfl res_nil) rfl) ⟨rfl, rfl⟩ (H.sel' [] rfl rfl)
 ·replace h := bif_f hb1 h
  refine c_skip ?_
  refine q_then ?_
  refine c_seq ?_
  refine rg ?_
  refine st (v := (Sl acode_0 code_0 ccode_0)) (rv_move rfl) ?_
  obtain ⟨r2, hx3, h'⟩ := bind_some h
  clear h
  have h := h'; clear h'
  have hc4 := c_spec_DrawBuildTree (acode_0 := acode_0) (ccode_0 := ccode_0) hx3
  refine st_call (cx_call hc4 (ent_f hc4.fn rfl) hn0 (show Hp S0 σ0 _ ([Ch.ro 0 (Sl acode_0 code_0 ccode_0) code_0] ++ [Ch.ro 0 (Sl acode_0 code_0 ccode_0) code_0]) from (H.sel' [0, 0] rfl rfl))) wn ?_
  rintro _ σ7 ⟨_, ⟨a5, c6, rfl, rfl⟩, H, -⟩
  replace H : Hp S0 σ0 σ7 [Ch.own n0 n0 (Sl a5 r2.1 c6) r2.1, Ch.ro 0 (Sl acode_0 code_0 ccode_0) code_0] := H
  refine st (v := (.tuple #[(Sl a5 r2.1 c6), (I r2.2)])) (rv_move rfl) ?_
  refine st (v := (Sl a5 r2.1 c6)) (rv_extract rfl rfl) ?_
  refine st (v := (I r2.2)) (rv_extract rfl rfl) ?_
  refine st (v := (Sl a5 r2.1 c6)) (rv_assign rfl) ?_
  refine st (v := (I r2.2)) (rv_assign rfl) ?_
  refine w_end ?_
  refine q_then ?_
  refine c_seq ?_
  refine rg ?_
  refine st (v := (Sl a5 r2.1 c6)) (rv_move rfl) ?_
  refine st (v := (I r2.2)) (rv_move rfl) ?_
  obtain ⟨r8, hx9, h'⟩ := bind_some h
  clear h
  have h := h'; clear h'
  have hc10 := c_impl_BuildTree (alist_0 := a5) (clist_0 := c6) hx9
  have hle := Nat.le_trans hn0 H.size
  refine st_call (cx_lend (Loan.lend Loan.nil) hc10 (ent_f hc10.fn rfl) (show Hp S0 σ0 _ ([Ch.own n0 n0 (Sl a5 r2.1 c6) r2.1] ++ ([] ++ [Ch.ro 0 (Sl acode_0 code_0 ccode_0) code_0])) from (H.sel' [0, 1] rfl rfl)) (by rintro _ _ _ ⟨_, _, rfl, rfl⟩; exact ⟨Ab.ownSc, trivial⟩)) wn ?_
  rintro _ σ13 ⟨_, ⟨a11, c12, rfl, rfl⟩, H, -, -⟩
  replace H : Hp S0 σ0 σ13 [Ch.own 0 σ7.size (Sl a11 r8 c12) r8, Ch.own n0 n0 (Sl a5 r2.1 c6) r2.1, Ch.ro 0 (Sl acode_0 code_0 ccode_0) code_0] := H
  replace H := H.ownLow 0 0 n0 rfl (Nat.le_refl _) hle
  clear hle
  replace H : Hp S0 σ0 σ13 [Ch.own 0 n0 (Sl a11 r8 c12) r8, Ch.own n0 n0 (Sl a5 r2.1 c6) r2.1, Ch.ro 0 (Sl acode_0 code_0 ccode_0) code_0] := H
  refine st (v := (Sl a11 r8 c12)) (rv_assign rfl) ?_
  refine w_end ?_
  refine q_then ?_
  refine c_seq ?_
  refine c_seq ?_
  refine rg ?_
  refine st (v := (Sl a11 r8 c12)) (rv_move rfl) ?_
  refine st (v := (Sl a5 r2.1 c6)) (rv_move rfl) ?_
  refine st (v := (I r2.2)) (rv_move rfl) ?_
  obtain ⟨r14, hx15, h'⟩ := bind_some h
  clear h
  have h := h'; clear h'
  have hc16 := c_spec_BuildTree (alist_0 := a5) (clist_0 := c6) hx15
  have hle := Nat.le_trans hn0 H.size
  refine st_call (cx_lend (Loan.lend Loan.nil) hc16 (ent_f hc16.fn rfl) (show Hp S0 σ0 _ ([Ch.own n0 n0 (Sl a5 r2.1 c6) r2.1] ++ ([] ++ [Ch.own 0 n0 (Sl a11 r8 c12) r8, Ch.ro 0 (Sl acode_0 code_0 ccode_0) code_0])) from (H.sel' [1, 0, 2] rfl rfl)) (by rintro _ _ _ ⟨_, _, rfl, rfl⟩; exact ⟨Ab.ownSc, trivial⟩)) wn ?_
  rintro _ σ19 ⟨_, ⟨a17, c18, rfl, rfl⟩, H, -, -⟩
  replace H : Hp S0 σ0 σ19 [Ch.own 0 σ13.size (Sl a17 r14 c18) r14, Ch.own n0 n0 (Sl a5 r2.1 c6) r2.1, Ch.own 0 n0 (Sl a11 r8 c12) r8, Ch.ro 0 (Sl acode_0 code_0 ccode_0) code_0] := H
  replace H := H.ownLow 0 0 n0 rfl (Nat.le_refl _) hle
  clear hle
  replace H : Hp S0 σ0 σ19 [Ch.own 0 n0 (Sl a17 r14 c18) r14, Ch.own n0 n0 (Sl a5 r2.1 c6) r2.1, Ch.own 0 n0 (Sl a11 r8 c12) r8, Ch.ro 0 (Sl acode_0 code_0 ccode_0) code_0] := H
  replace H := H.ownLow 0 0 0 rfl (Nat.le_refl _) (Nat.zero_le _)
  obtain ⟨σ20, hw21, H, -⟩ := H.pub 0 rfl (Nat.le_refl _)
  rw [← hw21]; clear hw21
  obtain ⟨r22, hx23, h'⟩ := bind_some h
  clear h
  have h := h'; clear h'
  have hc24 := c_laws_equalNodes (aa_0 := a11) (ca_0 := c12) (ab_1 := a17) (cb_1 := c18) hx23
  have hle := Nat.le_trans hn0 H.size
  refine st_call (cx_lend (Loan.lend (Loan.same Loan.nil)) hc24 (ent_f hc24.fn rfl) (show Hp S0 σ0 _ ([Ch.own 0 n0 (Sl a11 r8 c12) r8] ++ ([Ch.ro 0 (Sl a17 r14 c18) r14] ++ [Ch.ro 0 (Sl a17 r14 c18) r14, Ch.own n0 n0 (Sl a5 r2.1 c6) r2.1, Ch.ro 0 (Sl acode_0 code_0 ccode_0) code_0])) from (H.sel' [2, 0, 0, 1, 3] rfl rfl)) (by rintro _ _ _ ⟨rfl, rfl⟩; exact trivial)) wn ?_
  rintro _ σ25 ⟨_, ⟨rfl, rfl⟩, H, -, -⟩
  replace H : Hp S0 σ0 σ25 [Ch.own 0 n0 (Sl a11 r8 c12) r8, Ch.ro 0 (Sl a17 r14 c18) r14, Ch.own n0 n0 (Sl a5 r2.1 c6) r2.1, Ch.ro 0 (Sl acode_0 code_0 ccode_0) code_0] := H
  clear hle
  replace H : Hp S0 σ0 σ25 [Ch.own 0 n0 (Sl a11 r8 c12) r8, Ch.ro 0 (Sl a17 r14 c18) r14, Ch.own n0 n0 (Sl a5 r2.1 c6) r2.1, Ch.ro 0 (Sl acode_0 code_0 ccode_0) code_0] := H
  refine st (v := (B (!r22))) (rv_not rfl) ?_
  refine w_end ?_
  refine q_then ?_
  refine cd_cond (!r22) rfl (fun hb26 => ?_) (fun hb26 => ?_)
  ·replace h := bif_t hb26 h
   refine c_seq ?_
   refine rg ?_
   refine st (v := (B false)) (rv_assign rfl) ?_
   refine w_end ?_
   refine q_then ?_
   refine c_ret ?_
   refine q_then_r ?_
   obtain rfl := Option.some.inj h
   exact fin_ret (v := (B false)) (results_ok Try.results12 (res_tmp (v := (B false)) rfl res_nil) rfl) ⟨rfl, rfl⟩ (H.sel' [] rfl rfl)
  ·replace h := bif_f hb26 h
   refine c_skip ?_
   refine q_then ?_
   refine c_seq ?_
   refine c_seq ?_
   refine rg ?_
   refine st (v := (I 0)) (rv_assign rfl) ?_
   refine w_end ?_
   refine q_then ?_
   obtain ⟨o27, hj, h'⟩ := bind_some h
   clear h
   refine c_cut (fun e a w => (∃ t, o27 = (.inl t) ∧ e = .normal ∧ ∃ (ρ : Nat → Value) (σ : St), a = fr 121 (updL ρ []) ∧ w = σ.w ∧ Hp S0 σ0 σ []) ∨ (∃ t, o27 = (.inr t) ∧ e = .ret ∧ ∃ (ρ : Nat → Value) (σ : St), a = fr 121 (updL ρ [(2, (B t))]) ∧ w = σ.w ∧ Hp S0 σ0 σ [])) ?_ ?_
   ·clear h'
    rename _ = some o27 => h
    refine c_blk ?_
    obtain ⟨σ29, hw30, H, -⟩ := H.pub 2 rfl (Nat.le_refl _)
    rw [← hw30]; clear hw30
    refine wp_loopM _ h (fun s28 a w => ∃ (ρ : Nat → Value) (σ : St), a = fr 121 (updL ρ [(3, (Sl a5 r2.1 c6)), (4, (I r2.2)), (5, (Sl a11 r8 c12)), (6, (I s28))]) ∧ w = σ.w ∧ Hp S0 σ0 σ [Ch.ro n0 (Sl a5 r2.1 c6) r2.1, Ch.own 0 n0 (Sl a11 r8 c12) r8]) ⟨_, σ29, fr_join ⟨rfl, rfl, rfl, rfl, trivial⟩, rfl, H.sel' [0, 1] rfl rfl⟩ ?_
    clear h H
    rintro s28 a w o ⟨ρ, σ31, rfl, rfl, H⟩ h hres
    refine c_seq ?_
    refine c_seq ?_
    refine rg ?_
    refine st (v := (I s28)) (rv_move rfl) ?_
    refine st (v := (Sl a11 r8 c12)) (rv_move rfl) ?_
    refine st (v := (I (r8.length : Int))) (rv_len Try.underlying54 rfl) ?_
    refine st (v := (B (decide (s28 < (r8.length : Int))))) (rv_lss (a := s28) (b := (r8.length : Int)) rfl rfl) ?_
    refine w_end ?_
    refine q_then ?_
    refine cd_cond (decide (s28 < (r8.length : Int))) rfl (fun hb32 => ?_) (fun hb32 => ?_)
    ·replace h := bif_t hb32 h
     refine c_skip ?_
     refine q_then ?_
     refine c_seq ?_
     refine c_blk ?_
     refine c_seq ?_
     refine rg ?_
     refine st (v := (Sl a11 r8 c12)) (rv_move rfl) ?_
     refine st (v := (I s28)) (rv_move rfl) ?_
     obtain ⟨x33, hx34, h'⟩ := bind_some h
     clear h
     have h := h'; clear h'
     obtain ⟨b36, o37, hi35, -⟩ := (H.own 1 rfl).ix hx34
     refine st (v := (pt b36 o37)) (rv_ix Try.underlying54 ti58 rfl rfl hi35) ?_
     obtain ⟨_, ⟨_, _, rfl, rfl, ⟨_, _, rfl, rfl, ⟨_, _, rfl, rfl, rfl⟩⟩⟩, hl38, hc39⟩ := ((H.own 1 rfl).at hx34 hi35).cells
     refine st (v := (.agg #[(I x33.1), (I x33.2.1), (I x33.2.2.1), (I x33.2.2.2)])) (rv_load Try.underlying58 rfl ti58 rfl hl38 hc39) ?_
     refine st_ex (ex_alloc (cs := [(I 0), (I 0), (I 0), (I 0)]) H hn0 ti58 rfl) wn ?_
     rintro _ σ41 ⟨b40, rfl, H, -⟩
     refine st_exS (ex_store_box (k := 0) (cs := [(I 0), (I 0), (I 0), (I 0)]) (vs := [(I x33.1), (I x33.2.1), (I x33.2.2.1), (I x33.2.2.2)]) (cs' := [(I x33.1), (I x33.2.1), (I x33.2.2.1), (I x33.2.2.2)]) H (i := 0) rfl ti58 rfl rfl rfl rfl rfl (Nat.le_of_ble_eq_true rfl) (by simp [plain]) rfl) wn ?_
     rintro σ42 ⟨H, -⟩
     refine w_end ?_
     refine q_then ?_
     refine c_seq ?_
     refine rg ?_
     refine st (v := (Sl a5 r2.1 c6)) (rv_move rfl) ?_
     refine st (v := (pt b40 0)) (rv_fieldAddr (off := 0) (ft := 3) Try.underlying58 rfl ti3 rfl rfl) ?_
     have hc43 := H.cell (u := (I x33.1)) (o' := 0) 0 0 rfl rfl rfl
     refine st (v := (I x33.1)) (rv_load1 Try.underlying3 rfl rfl hc43) ?_
     replace H := H.roLow 1 0 rfl (Nat.zero_le _)
     obtain ⟨r44, hx45, h'⟩ := bind_some h
     clear h
     have h := h'; clear h'
     have hc46 := c_laws_itemOf (alist_0 := a5) (clist_0 := c6) hx45
     refine st_call (cx_call hc46 (ent_f hc46.fn rfl) hn0 (show Hp S0 σ0 _ ([Ch.ro 0 (Sl a5 r2.1 c6) r2.1] ++ [Ch.ro 0 (Sl a5 r2.1 c6) r2.1, Ch.bx n0 b40 0 [(I x33.1), (I x33.2.1), (I x33.2.2.1), (I x33.2.2.2)] [] [], Ch.ro n0 (Sl a5 r2.1 c6) r2.1, Ch.own 0 n0 (Sl a11 r8 c12) r8]) from (H.sel' [0, 0, 1, 2, 3] rfl rfl))) wn ?_
     rintro _ σ49 ⟨_, ⟨a47, c48, rfl, rfl⟩, H, -⟩
     replace H : Hp S0 σ0 σ49 [Ch.ro 0 (Sl a47 r44.2.1 c48) r44.2.1, Ch.ro 0 (Sl a5 r2.1 c6) r2.1, Ch.bx n0 b40 0 [(I x33.1), (I x33.2.1), (I x33.2.2.1), (I x33.2.2.2)] [] [], Ch.ro n0 (Sl a5 r2.1 c6) r2.1, Ch.own 0 n0 (Sl a11 r8 c12) r8] := H
     refine st (v := (Sl a47 r44.2.1 c48)) (rv_field (off := 1) (ft := 25) Try.underlying38 rfl Try.underlying25 rfl rfl rfl) ?_
     refine st (v := (Sl a47 r44.2.1 c48)) (rv_assign rfl) ?_
     refine w_end ?_
     refine q_then ?_
     refine c_seq ?_
     refine c_seq ?_
     obtain ⟨o50, hj, h'⟩ := bind_some h
     clear h
     refine c_cut (fun e a w => e = .normal ∧ ∃ (ρ : Nat → Value) (σ : St), a = fr 121 (updL ρ [(3, (Sl a5 r2.1 c6)), (4, (I r2.2)), (5, (Sl a11 r8 c12)), (6, (I s28)), (7, (pt b40 0)), (8, (Sl a47 r44.2.1 c48)), (74, (B o50))]) ∧ w = σ.w ∧ Hp S0 σ0 σ [Ch.ro n0 (Sl a5 r2.1 c6) r2.1, Ch.own 0 n0 (Sl a11 r8 c12) r8, Ch.bx n0 b40 0 [(I x33.1), (I x33.2.1), (I x33.2.2.1), (I x33.2.2.2)] [] [], Ch.ro 0 (Sl a47 r44.2.1 c48) r44.2.1]) ?_ ?_
     ·clear h'
      rename _ = some o50 => h
      have hc51 := H.cell (u := (I x33.2.2.1)) (o' := 2) 2 2 rfl rfl rfl
      rcases Bool.eq_false_or_eq_true (decide (0 ≤ x33.2.2.1)) with hb52 | hb52
      ·replace h := bif_t hb52 h
       have hc53 := H.cell (u := (I x33.2.2.1)) (o' := 2) 2 2 rfl rfl rfl
       rcases Bool.eq_false_or_eq_true (x33.2.2.1 != (w64 (s28 + 1))) with hb54 | hb54
       ·replace h := bif_t hb54 h
        have Hs := H
        refine rg2 (σ := σ49) (Nm := Unit) 31 [] [[]] [[(0, 0)], [(0, 0)], [(0, 0)], [(0, 0)], [(0, 0)], [(0, 0)], [(0, 0)], [(0, 0)], [(0, 0)], [(0, 0)], [(0, 0)], [(0, 0)], [(0, 0)], [(0, 0)], [(0, 0)], [(0, 0)], [(0, 0)], [(0, 0)], [(0, 0)], [(0, 0)], [(0, 0)], [(0, 0)], [(0, 0)], [(0, 0)], [(0, 0)], [(0, 0)], [(0, 0)], [(0, 0)], [(0, 0)], [(0, 0)], [(0, 0)]] 0 [fun _ => fun σm => Hp S0 σ0 σm [Ch.ro 0 (Sl a47 r44.2.1 c48) r44.2.1, Ch.ro 0 (Sl a5 r2.1 c6) r2.1, Ch.bx n0 b40 0 [(I x33.1), (I x33.2.1), (I x33.2.2.1), (I x33.2.2.2)] [] [], Ch.ro n0 (Sl a5 r2.1 c6) r2.1, Ch.own 0 n0 (Sl a11 r8 c12) r8] ∧ Md (cov []) σ49 σm] [fun _ => (pt b40 2), fun _ => (I x33.2.2.1), fun _ => (B (decide (0 ≤ x33.2.2.1))), fun _ => (B (decide (0 ≤ x33.2.2.1))), fun _ => (pt b40 2), fun _ => (I x33.2.2.1), fun _ => (I s28), fun _ => (I (w64 (s28 + 1))), fun _ => (B (x33.2.2.1 != (w64 (s28 + 1)))), fun _ => (B (x33.2.2.1 != (w64 (s28 + 1)))), fun _ => undef, fun _ => undef, fun _ => undef, fun _ => undef, fun _ => undef, fun _ => (B true), fun _ => (B true), fun _ => undef, fun _ => undef, fun _ => undef, fun _ => undef, fun _ => undef, fun _ => undef, fun _ => undef, fun _ => undef, fun _ => undef, fun _ => undef, fun _ => undef, fun _ => undef, fun _ => undef, fun _ => undef] () (by kernel_rfl) (by kernel_rfl) ?_ ?_ ?_
        ·intro σm m0
         exact ⟨H.grow (m0.mono fun _ h => h.elim), m0⟩
        ·refine ac rfl (by
           intro k _nm ρ σm hJ hoff hdep
           have e7 := look_off (N := 121) (hoff 7 rfl) rfl
           exact dp_v (v := (pt b40 2)) wn (rv_fieldAddr (off := 2) (ft := 3) Try.underlying58 rfl ti3 rfl e7) rfl hJ) ?_
         refine all_cons (by
           refine ⟨?_, ?_⟩
           ·intro _nm ρ σm hJ hoff hdep
            have e41 := hdep 0 rfl rfl 41 rfl
            obtain ⟨H, m⟩ := id hJ
            have hc51 := H.cell (u := (I x33.2.2.1)) (o' := 2) 2 2 rfl rfl rfl
            exact dp_v (v := (I x33.2.2.1)) wn (rv_load1 Try.underlying3 rfl e41 hc51) rfl hJ
           trivial) ?_
         refine ac rfl (by
           intro k _nm ρ σm hJ hoff hdep
           have e42 := hdep 1 rfl rfl 42 rfl
           exact dp_v (v := (B (decide (0 ≤ x33.2.2.1)))) wn (rv_geq (a := x33.2.2.1) (b := 0) e42 rfl) rfl hJ) ?_
         refine ac rfl (by
           intro k _nm ρ σm hJ hoff hdep
           have e43 := hdep 2 rfl rfl 43 rfl
           exact dp_v (v := (B (decide (0 ≤ x33.2.2.1)))) wn (rv_move e43) rfl hJ) ?_
         refine ac rfl (by
           intro k _nm ρ σm hJ hoff hdep
           have e7 := look_off (N := 121) (hoff 7 rfl) rfl
           have e44 := hdep 3 rfl rfl 44 rfl
           exact dp_v (v := (pt b40 2)) (wanted_yes rfl (yv_of rfl (e44.trans (congrArg B hb52)))) (rv_fieldAddr (off := 2) (ft := 3) Try.underlying58 rfl ti3 rfl e7) rfl hJ) ?_
         refine all_cons (by
           refine ⟨?_, ?_⟩
           ·intro _nm ρ σm hJ hoff hdep
            have e45 := hdep 4 rfl rfl 45 rfl
            have e44 := hdep 3 rfl rfl 44 rfl
            obtain ⟨H, m⟩ := id hJ
            have hc53 := H.cell (u := (I x33.2.2.1)) (o' := 2) 2 2 rfl rfl rfl
            exact dp_v (v := (I x33.2.2.1)) (wanted_yes rfl (yv_of rfl (e44.trans (congrArg B hb52)))) (rv_load1 Try.underlying3 rfl e45 hc53) rfl hJ
           trivial) ?_
         refine ac rfl (by
           intro k _nm ρ σm hJ hoff hdep
           have e6 := look_off (N := 121) (hoff 6 rfl) rfl
           have e44 := hdep 3 rfl rfl 44 rfl
           exact dp_v (v := (I s28)) (wanted_yes rfl (yv_of rfl (e44.trans (congrArg B hb52)))) (rv_move e6) rfl hJ) ?_
         refine ac rfl (by
           intro k _nm ρ σm hJ hoff hdep
           have e47 := hdep 6 rfl rfl 47 rfl
           have e44 := hdep 3 rfl rfl 44 rfl
           exact dp_v (v := (I (w64 (s28 + 1)))) (wanted_yes rfl (yv_of rfl (e44.trans (congrArg B hb52)))) (rv_add (a := s28) (b := 1) e47 rfl) rfl hJ) ?_
         refine ac rfl (by
           intro k _nm ρ σm hJ hoff hdep
           have e46 := hdep 5 rfl rfl 46 rfl
           have e48 := hdep 7 rfl rfl 48 rfl
           have e44 := hdep 3 rfl rfl 44 rfl
           exact dp_v (v := (B (x33.2.2.1 != (w64 (s28 + 1))))) (wanted_yes rfl (yv_of rfl (e44.trans (congrArg B hb52)))) (rv_neq (a := x33.2.2.1) (b := (w64 (s28 + 1))) e46 e48) rfl hJ) ?_
         refine ac rfl (by
           intro k _nm ρ σm hJ hoff hdep
           have e49 := hdep 8 rfl rfl 49 rfl
           have e44 := hdep 3 rfl rfl 44 rfl
           exact dp_v (v := (B (x33.2.2.1 != (w64 (s28 + 1))))) (wanted_yes rfl (yv_of rfl (e44.trans (congrArg B hb52)))) (rv_move e49) rfl hJ) ?_
         refine ac rfl (by
           intro k _nm ρ σm hJ hoff hdep
           have e50 := hdep 9 rfl rfl 50 rfl
           exact dp_skip (wanted_no rfl (yv_of rfl (e50.trans (congrArg B hb54)))) rfl hJ) ?_
         refine ac rfl (by
           intro k _nm ρ σm hJ hoff hdep
           have e50 := hdep 9 rfl rfl 50 rfl
           exact dp_skip (wanted_no rfl (yv_of rfl (e50.trans (congrArg B hb54)))) rfl hJ) ?_
         refine ac rfl (by
           intro k _nm ρ σm hJ hoff hdep
           have e50 := hdep 9 rfl rfl 50 rfl
           exact dp_skip (wanted_no rfl (yv_of rfl (e50.trans (congrArg B hb54)))) rfl hJ) ?_
         refine ac rfl (by
           intro k _nm ρ σm hJ hoff hdep
           have e50 := hdep 9 rfl rfl 50 rfl
           exact dp_skip (wanted_no rfl (yv_of rfl (e50.trans (congrArg B hb54)))) rfl hJ) ?_
         refine ac rfl (by
           intro k _nm ρ σm hJ hoff hdep
           have e50 := hdep 9 rfl rfl 50 rfl
           exact dp_skip (wanted_no rfl (yv_of rfl (e50.trans (congrArg B hb54)))) rfl hJ) ?_
         refine ac rfl (by
           intro k _nm ρ σm hJ hoff hdep
           have e50 := hdep 9 rfl rfl 50 rfl
           have e44 := hdep 3 rfl rfl 44 rfl
           exact dp_v (v := (B true)) (wanted_yes rfl (yv_of rfl (e44.trans (congrArg B hb52)))) (rv_pick_t (e50.trans (congrArg B hb54)) rfl) rfl hJ) ?_
         refine ac rfl (by
           intro k _nm ρ σm hJ hoff hdep
           have e56 := hdep 15 rfl rfl 56 rfl
           have e44 := hdep 3 rfl rfl 44 rfl
           exact dp_v (v := (B true)) (wanted_yes rfl (yv_of rfl (e44.trans (congrArg B hb52)))) (rv_move e56) rfl hJ) ?_
         refine ac rfl (by
           intro k _nm ρ σm hJ hoff hdep
           have e57 := hdep 16 rfl rfl 57 rfl
           exact dp_skip (wanted_no rfl (yv_of rfl e57)) rfl hJ) ?_
         refine ac rfl (by
           intro k _nm ρ σm hJ hoff hdep
           have e57 := hdep 16 rfl rfl 57 rfl
           exact dp_skip (wanted_no rfl (yv_of rfl e57)) rfl hJ) ?_
         refine ac rfl (by
           intro k _nm ρ σm hJ hoff hdep
           have e57 := hdep 16 rfl rfl 57 rfl
           exact dp_skip (wanted_no rfl (yv_of rfl e57)) rfl hJ) ?_
         refine ac rfl (by
           intro k _nm ρ σm hJ hoff hdep
           have e57 := hdep 16 rfl rfl 57 rfl
           exact dp_skip (wanted_no rfl (yv_of rfl e57)) rfl hJ) ?_
         refine ac rfl (by
           intro k _nm ρ σm hJ hoff hdep
           have e57 := hdep 16 rfl rfl 57 rfl
           exact dp_skip (wanted_no rfl (yv_of rfl e57)) rfl hJ) ?_
         refine ac rfl (by
           intro k _nm ρ σm hJ hoff hdep
           have e57 := hdep 16 rfl rfl 57 rfl
           exact dp_skip (wanted_no rfl (yv_of rfl e57)) rfl hJ) ?_
         refine ac rfl (by
           intro k _nm ρ σm hJ hoff hdep
           have e57 := hdep 16 rfl rfl 57 rfl
           exact dp_skip (wanted_no rfl (yv_of rfl e57)) rfl hJ) ?_
         refine ac rfl (by
           intro k _nm ρ σm hJ hoff hdep
           have e57 := hdep 16 rfl rfl 57 rfl
           exact dp_skip (wanted_no rfl (yv_of rfl e57)) rfl hJ) ?_
         refine ac rfl (by
           intro k _nm ρ σm hJ hoff hdep
           have e57 := hdep 16 rfl rfl 57 rfl
           exact dp_skip (wanted_no rfl (yv_of rfl e57)) rfl hJ) ?_
         refine ac rfl (by
           intro k _nm ρ σm hJ hoff hdep
           have e57 := hdep 16 rfl rfl 57 rfl
           exact dp_skip (wanted_no rfl (yv_of rfl e57)) rfl hJ) ?_
         refine ac rfl (by
           intro k _nm ρ σm hJ hoff hdep
           have e57 := hdep 16 rfl rfl 57 rfl
           exact dp_skip (wanted_no rfl (yv_of rfl e57)) rfl hJ) ?_
         refine ac rfl (by
           intro k _nm ρ σm hJ hoff hdep
           have e57 := hdep 16 rfl rfl 57 rfl
           exact dp_skip (wanted_no rfl (yv_of rfl e57)) rfl hJ) ?_
         refine ac rfl (by
           intro k _nm ρ σm hJ hoff hdep
           have e57 := hdep 16 rfl rfl 57 rfl
           exact dp_skip (wanted_no rfl (yv_of rfl e57)) rfl hJ) ?_
         refine ac rfl (by
           intro k _nm ρ σm hJ hoff hdep
           have e57 := hdep 16 rfl rfl 57 rfl
           exact dp_skip (wanted_no rfl (yv_of rfl e57)) rfl hJ) ?_
         exact all_nil
        ·intro _nm ρ σ55 hJ hoff hrel
         have e3 := look_off (N := 121) (hoff 3 rfl) rfl
         have e4 := look_off (N := 121) (hoff 4 rfl) rfl
         have e5 := look_off (N := 121) (hoff 5 rfl) rfl
         have e6 := look_off (N := 121) (hoff 6 rfl) rfl
         have e7 := look_off (N := 121) (hoff 7 rfl) rfl
         have e8 := look_off (N := 121) (hoff 8 rfl) rfl
         have e44 := hrel 3 rfl 44 rfl
         have e57 := hrel 16 rfl 57 rfl
         have e69 := hrel 28 rfl 69 rfl
         have e71 := hrel 30 rfl 71 rfl
         obtain ⟨H, -⟩ := (show Hp S0 σ0 σ55 [Ch.ro 0 (Sl a47 r44.2.1 c48) r44.2.1, Ch.ro 0 (Sl a5 r2.1 c6) r2.1, Ch.bx n0 b40 0 [(I x33.1), (I x33.2.1), (I x33.2.2.1), (I x33.2.2.2)] [] [], Ch.ro n0 (Sl a5 r2.1 c6) r2.1, Ch.own 0 n0 (Sl a11 r8 c12) r8] ∧ Md (cov []) σ49 σ55 from hJ)
         clear hJ Hs
         rw [fr_lookL (L := [(3, (Sl a5 r2.1 c6)), (4, (I r2.2)), (5, (Sl a11 r8 c12)), (6, (I s28)), (7, (pt b40 0)), (8, (Sl a47 r44.2.1 c48)), (44, (B (decide (0 ≤ x33.2.2.1)))), (57, (B true)), (69, undef), (71, undef)]) ⟨e3, e4, e5, e6, e7, e8, e44, e57, e69, e71, trivial⟩]
         clear hoff hrel e3 e4 e5 e6 e7 e8 e44 e57 e69 e71
         refine st_skip rfl ?_
         refine st_g (v := (B true)) (congrArg some hb52) (rv_pick_t rfl rfl) ?_
         refine st (v := (B true)) (rv_pick_t (congrArg B hb52) rfl) ?_
         refine w_end ?_
         obtain rfl := Option.some.inj h
         exact ⟨rfl, _, σ55, fr_join ⟨rfl, rfl, rfl, rfl, rfl, rfl, rfl, trivial⟩, rfl, H.sel' [3, 4, 2, 0] rfl rfl⟩
       ·replace h := bif_f hb54 h
        have hc56 := H.cell (u := (I x33.2.2.1)) (o' := 2) 2 2 rfl rfl rfl
        rcases Bool.eq_false_or_eq_true (decide ((r8.length : Int) ≤ x33.2.2.1)) with hb57 | hb57
        ·replace h := bif_t hb57 h
         have Hs := H
         refine rg2 (σ := σ49) (Nm := Unit) 31 [] [[]] [[(0, 0)], [(0, 0)], [(0, 0)], [(0, 0)], [(0, 0)], [(0, 0)], [(0, 0)], [(0, 0)], [(0, 0)], [(0, 0)], [(0, 0)], [(0, 0)], [(0, 0)], [(0, 0)], [(0, 0)], [(0, 0)], [(0, 0)], [(0, 0)], [(0, 0)], [(0, 0)], [(0, 0)], [(0, 0)], [(0, 0)], [(0, 0)], [(0, 0)], [(0, 0)], [(0, 0)], [(0, 0)], [(0, 0)], [(0, 0)], [(0, 0)]] 0 [fun _ => fun σm => Hp S0 σ0 σm [Ch.ro 0 (Sl a47 r44.2.1 c48) r44.2.1, Ch.ro 0 (Sl a5 r2.1 c6) r2.1, Ch.bx n0 b40 0 [(I x33.1), (I x33.2.1), (I x33.2.2.1), (I x33.2.2.2)] [] [], Ch.ro n0 (Sl a5 r2.1 c6) r2.1, Ch.own 0 n0 (Sl a11 r8 c12) r8] ∧ Md (cov []) σ49 σm] [fun _ => (pt b40 2), fun _ => (I x33.2.2.1), fun _ => (B (decide (0 ≤ x33.2.2.1))), fun _ => (B (decide (0 ≤ x33.2.2.1))), fun _ => (pt b40 2), fun _ => (I x33.2.2.1), fun _ => (I s28), fun _ => (I (w64 (s28 + 1))), fun _ => (B (x33.2.2.1 != (w64 (s28 + 1)))), fun _ => (B (x33.2.2.1 != (w64 (s28 + 1)))), fun _ => (pt b40 2), fun _ => (I x33.2.2.1), fun _ => (Sl a11 r8 c12), fun _ => (I (r8.length : Int)), fun _ => (B (decide ((r8.length : Int) ≤ x33.2.2.1))), fun _ => (B (decide ((r8.length : Int) ≤ x33.2.2.1))), fun _ => (B (decide ((r8.length : Int) ≤ x33.2.2.1))), fun _ => undef, fun _ => undef, fun _ => undef, fun _ => undef, fun _ => undef, fun _ => undef, fun _ => undef, fun _ => undef, fun _ => undef, fun _ => undef, fun _ => undef, fun _ => undef, fun _ => undef, fun _ => undef] () (by kernel_rfl) (by kernel_rfl) ?_ ?_ ?_
         ·intro σm m0
          exact ⟨H.grow (m0.mono fun _ h => h.elim), m0⟩
         ·refine ac rfl (by
            intro k _nm ρ σm hJ hoff hdep
            have e7 := look_off (N := 121) (hoff 7 rfl) rfl
            exact dp_v (v := (pt b40 2)) wn (rv_fieldAddr (off := 2) (ft := 3) Try.underlying58 rfl ti3 rfl e7) rfl hJ) ?_
          refine all_cons (by
            refine ⟨?_, ?_⟩
            ·intro _nm ρ σm hJ hoff hdep
             have e41 := hdep 0 rfl rfl 41 rfl
             obtain ⟨H, m⟩ := id hJ
             have hc51 := H.cell (u := (I x33.2.2.1)) (o' := 2) 2 2 rfl rfl rfl
             exact dp_v (v := (I x33.2.2.1)) wn (rv_load1 Try.underlying3 rfl e41 hc51) rfl hJ
            trivial) ?_
          refine ac rfl (by
            intro k _nm ρ σm hJ hoff hdep
            have e42 := hdep 1 rfl rfl 42 rfl
            exact dp_v (v := (B (decide (0 ≤ x33.2.2.1)))) wn (rv_geq (a := x33.2.2.1) (b := 0) e42 rfl) rfl hJ) ?_
          refine ac rfl (by
            intro k _nm ρ σm hJ hoff hdep
            have e43 := hdep 2 rfl rfl 43 rfl
            exact dp_v (v := (B (decide (0 ≤ x33.2.2.1)))) wn (rv_move e43) rfl hJ) ?_
          refine ac rfl (by
            intro k _nm ρ σm hJ hoff hdep
            have e7 := look_off (N := 121) (hoff 7 rfl) rfl
            have e44 := hdep 3 rfl rfl 44 rfl
            exact dp_v (v := (pt b40 2)) (wanted_yes rfl (yv_of rfl (e44.trans (congrArg B hb52)))) (rv_fieldAddr (off := 2) (ft := 3) Try.underlying58 rfl ti3 rfl e7) rfl hJ) ?_
          refine all_cons (by
            refine ⟨?_, ?_⟩
            ·intro _nm ρ σm hJ hoff hdep
             have e45 := hdep 4 rfl rfl 45 rfl
             have e44 := hdep 3 rfl rfl 44 rfl
             obtain ⟨H, m⟩ := id hJ
             have hc53 := H.cell (u := (I x33.2.2.1)) (o' := 2) 2 2 rfl rfl rfl
             exact dp_v (v := (I x33.2.2.1)) (wanted_yes rfl (yv_of rfl (e44.trans (congrArg B hb52)))) (rv_load1 Try.underlying3 rfl e45 hc53) rfl hJ
            trivial) ?_
          refine ac rfl (by
            intro k _nm ρ σm hJ hoff hdep
            have e6 := look_off (N := 121) (hoff 6 rfl) rfl
            have e44 := hdep 3 rfl rfl 44 rfl
            exact dp_v (v := (I s28)) (wanted_yes rfl (yv_of rfl (e44.trans (congrArg B hb52)))) (rv_move e6) rfl hJ) ?_
          refine ac rfl (by
            intro k _nm ρ σm hJ hoff hdep
            have e47 := hdep 6 rfl rfl 47 rfl
            have e44 := hdep 3 rfl rfl 44 rfl
            exact dp_v (v := (I (w64 (s28 + 1)))) (wanted_yes rfl (yv_of rfl (e44.trans (congrArg B hb52)))) (rv_add (a := s28) (b := 1) e47 rfl) rfl hJ) ?_
          refine ac rfl (by
            intro k _nm ρ σm hJ hoff hdep
            have e46 := hdep 5 rfl rfl 46 rfl
            have e48 := hdep 7 rfl rfl 48 rfl
            have e44 := hdep 3 rfl rfl 44 rfl
            exact dp_v (v := (B (x33.2.2.1 != (w64 (s28 + 1))))) (wanted_yes rfl (yv_of rfl (e44.trans (congrArg B hb52)))) (rv_neq (a := x33.2.2.1) (b := (w64 (s28 + 1))) e46 e48) rfl hJ) ?_
          refine ac rfl (by
            intro k _nm ρ σm hJ hoff hdep
            have e49 := hdep 8 rfl rfl 49 rfl
            have e44 := hdep 3 rfl rfl 44 rfl
            exact dp_v (v := (B (x33.2.2.1 != (w64 (s28 + 1))))) (wanted_yes rfl (yv_of rfl (e44.trans (congrArg B hb52)))) (rv_move e49) rfl hJ) ?_
          refine ac rfl (by
            intro k _nm ρ σm hJ hoff hdep
            have e7 := look_off (N := 121) (hoff 7 rfl) rfl
            have e50 := hdep 9 rfl rfl 50 rfl
            exact dp_v (v := (pt b40 2)) (wanted_yes rfl (yv_of rfl (e50.trans (congrArg B hb54)))) (rv_fieldAddr (off := 2) (ft := 3) Try.underlying58 rfl ti3 rfl e7) rfl hJ) ?_
          refine all_cons (by
            refine ⟨?_, ?_⟩
            ·intro _nm ρ σm hJ hoff hdep
             have e51 := hdep 10 rfl rfl 51 rfl
             have e50 := hdep 9 rfl rfl 50 rfl
             obtain ⟨H, m⟩ := id hJ
             have hc56 := H.cell (u := (I x33.2.2.1)) (o' := 2) 2 2 rfl rfl rfl
             exact dp_v (v := (I x33.2.2.1)) (wanted_yes rfl (yv_of rfl (e50.trans (congrArg B hb54)))) (rv_load1 Try.underlying3 rfl e51 hc56) rfl hJ
            trivial) ?_
          refine ac rfl (by
            intro k _nm ρ σm hJ hoff hdep
            have e5 := look_off (N := 121) (hoff 5 rfl) rfl
            have e50 := hdep 9 rfl rfl 50 rfl
            exact dp_v (v := (Sl a11 r8 c12)) (wanted_yes rfl (yv_of rfl (e50.trans (congrArg B hb54)))) (rv_move e5) rfl hJ) ?_
          refine ac rfl (by
            intro k _nm ρ σm hJ hoff hdep
            have e53 := hdep 12 rfl rfl 53 rfl
            have e50 := hdep 9 rfl rfl 50 rfl
            exact dp_v (v := (I (r8.length : Int))) (wanted_yes rfl (yv_of rfl (e50.trans (congrArg B hb54)))) (rv_len Try.underlying54 e53) rfl hJ) ?_
          refine ac rfl (by
            intro k _nm ρ σm hJ hoff hdep
            have e52 := hdep 11 rfl rfl 52 rfl
            have e54 := hdep 13 rfl rfl 54 rfl
            have e50 := hdep 9 rfl rfl 50 rfl
            exact dp_v (v := (B (decide ((r8.length : Int) ≤ x33.2.2.1)))) (wanted_yes rfl (yv_of rfl (e50.trans (congrArg B hb54)))) (rv_geq (a := x33.2.2.1) (b := (r8.length : Int)) e52 e54) rfl hJ) ?_
          refine ac rfl (by
            intro k _nm ρ σm hJ hoff hdep
            have e50 := hdep 9 rfl rfl 50 rfl
            have e55 := hdep 14 rfl rfl 55 rfl
            have e44 := hdep 3 rfl rfl 44 rfl
            exact dp_v (v := (B (decide ((r8.length : Int) ≤ x33.2.2.1)))) (wanted_yes rfl (yv_of rfl (e44.trans (congrArg B hb52)))) (rv_pick_f (e50.trans (congrArg B hb54)) e55) rfl hJ) ?_
          refine ac rfl (by
            intro k _nm ρ σm hJ hoff hdep
            have e56 := hdep 15 rfl rfl 56 rfl
            have e44 := hdep 3 rfl rfl 44 rfl
            exact dp_v (v := (B (decide ((r8.length : Int) ≤ x33.2.2.1)))) (wanted_yes rfl (yv_of rfl (e44.trans (congrArg B hb52)))) (rv_move e56) rfl hJ) ?_
          refine ac rfl (by
            intro k _nm ρ σm hJ hoff hdep
            have e57 := hdep 16 rfl rfl 57 rfl
            exact dp_skip (wanted_no rfl (yv_of rfl (e57.trans (congrArg B hb57)))) rfl hJ) ?_
          refine ac rfl (by
            intro k _nm ρ σm hJ hoff hdep
            have e57 := hdep 16 rfl rfl 57 rfl
            exact dp_skip (wanted_no rfl (yv_of rfl (e57.trans (congrArg B hb57)))) rfl hJ) ?_
          refine ac rfl (by
            intro k _nm ρ σm hJ hoff hdep
            have e57 := hdep 16 rfl rfl 57 rfl
            exact dp_skip (wanted_no rfl (yv_of rfl (e57.trans (congrArg B hb57)))) rfl hJ) ?_
          refine ac rfl (by
            intro k _nm ρ σm hJ hoff hdep
            have e57 := hdep 16 rfl rfl 57 rfl
            exact dp_skip (wanted_no rfl (yv_of rfl (e57.trans (congrArg B hb57)))) rfl hJ) ?_
          refine ac rfl (by
            intro k _nm ρ σm hJ hoff hdep
            have e57 := hdep 16 rfl rfl 57 rfl
            exact dp_skip (wanted_no rfl (yv_of rfl (e57.trans (congrArg B hb57)))) rfl hJ) ?_
          refine ac rfl (by
            intro k _nm ρ σm hJ hoff hdep
            have e57 := hdep 16 rfl rfl 57 rfl
            exact dp_skip (wanted_no rfl (yv_of rfl (e57.trans (congrArg B hb57)))) rfl hJ) ?_
          refine ac rfl (by
            intro k _nm ρ σm hJ hoff hdep
            have e57 := hdep 16 rfl rfl 57 rfl
            exact dp_skip (wanted_no rfl (yv_of rfl (e57.trans (congrArg B hb57)))) rfl hJ) ?_
          refine ac rfl (by
            intro k _nm ρ σm hJ hoff hdep
            have e57 := hdep 16 rfl rfl 57 rfl
            exact dp_skip (wanted_no rfl (yv_of rfl (e57.trans (congrArg B hb57)))) rfl hJ) ?_
          refine ac rfl (by
            intro k _nm ρ σm hJ hoff hdep
            have e57 := hdep 16 rfl rfl 57 rfl
            exact dp_skip (wanted_no rfl (yv_of rfl (e57.trans (congrArg B hb57)))) rfl hJ) ?_
          refine ac rfl (by
            intro k _nm ρ σm hJ hoff hdep
            have e57 := hdep 16 rfl rfl 57 rfl
            exact dp_skip (wanted_no rfl (yv_of rfl (e57.trans (congrArg B hb57)))) rfl hJ) ?_
          refine ac rfl (by
            intro k _nm ρ σm hJ hoff hdep
            have e57 := hdep 16 rfl rfl 57 rfl
            exact dp_skip (wanted_no rfl (yv_of rfl (e57.trans (congrArg B hb57)))) rfl hJ) ?_
          refine ac rfl (by
            intro k _nm ρ σm hJ hoff hdep
            have e57 := hdep 16 rfl rfl 57 rfl
            exact dp_skip (wanted_no rfl (yv_of rfl (e57.trans (congrArg B hb57)))) rfl hJ) ?_
          refine ac rfl (by
            intro k _nm ρ σm hJ hoff hdep
            have e57 := hdep 16 rfl rfl 57 rfl
            exact dp_skip (wanted_no rfl (yv_of rfl (e57.trans (congrArg B hb57)))) rfl hJ) ?_
          refine ac rfl (by
            intro k _nm ρ σm hJ hoff hdep
            have e57 := hdep 16 rfl rfl 57 rfl
            exact dp_skip (wanted_no rfl (yv_of rfl (e57.trans (congrArg B hb57)))) rfl hJ) ?_
          exact all_nil
         ·intro _nm ρ σ58 hJ hoff hrel
          have e3 := look_off (N := 121) (hoff 3 rfl) rfl
          have e4 := look_off (N := 121) (hoff 4 rfl) rfl
          have e5 := look_off (N := 121) (hoff 5 rfl) rfl
          have e6 := look_off (N := 121) (hoff 6 rfl) rfl
          have e7 := look_off (N := 121) (hoff 7 rfl) rfl
          have e8 := look_off (N := 121) (hoff 8 rfl) rfl
          have e44 := hrel 3 rfl 44 rfl
          have e57 := hrel 16 rfl 57 rfl
          have e69 := hrel 28 rfl 69 rfl
          have e71 := hrel 30 rfl 71 rfl
          obtain ⟨H, -⟩ := (show Hp S0 σ0 σ58 [Ch.ro 0 (Sl a47 r44.2.1 c48) r44.2.1, Ch.ro 0 (Sl a5 r2.1 c6) r2.1, Ch.bx n0 b40 0 [(I x33.1), (I x33.2.1), (I x33.2.2.1), (I x33.2.2.2)] [] [], Ch.ro n0 (Sl a5 r2.1 c6) r2.1, Ch.own 0 n0 (Sl a11 r8 c12) r8] ∧ Md (cov []) σ49 σ58 from hJ)
          clear hJ Hs
          rw [fr_lookL (L := [(3, (Sl a5 r2.1 c6)), (4, (I r2.2)), (5, (Sl a11 r8 c12)), (6, (I s28)), (7, (pt b40 0)), (8, (Sl a47 r44.2.1 c48)), (44, (B (decide (0 ≤ x33.2.2.1)))), (57, (B (decide ((r8.length : Int) ≤ x33.2.2.1)))), (69, undef), (71, undef)]) ⟨e3, e4, e5, e6, e7, e8, e44, e57, e69, e71, trivial⟩]
          clear hoff hrel e3 e4 e5 e6 e7 e8 e44 e57 e69 e71
          refine st_skip (congrArg some hb57) ?_
          refine st_g (v := (B true)) (congrArg some hb52) (rv_pick_t (congrArg B hb57) rfl) ?_
          refine st (v := (B true)) (rv_pick_t (congrArg B hb52) rfl) ?_
          refine w_end ?_
          obtain rfl := Option.some.inj h
          exact ⟨rfl, _, σ58, fr_join ⟨rfl, rfl, rfl, rfl, rfl, rfl, rfl, trivial⟩, rfl, H.sel' [3, 4, 2, 0] rfl rfl⟩
        ·replace h := bif_f hb57 h
         have hc59 := H.cell (u := (I x33.2.2.1)) (o' := 2) 2 2 rfl rfl rfl
         obtain ⟨x60, hx61, h'⟩ := bind_some h
         clear h
         have h := h'; clear h'
         obtain ⟨b63, o64, hi62, -⟩ := (H.own 4 rfl).ix hx61
         have hc65 := ((H.own 4 rfl).at hx61 hi62).fst.int
         replace H := H.roLow 3 0 rfl (Nat.zero_le _)
         obtain ⟨r66, hx67, h'⟩ := bind_some h
         clear h
         have h := h'; clear h'
         have hc68 := c_laws_itemOf (alist_0 := a5) (clist_0 := c6) hx67
         obtain ⟨r71, hx72, h'⟩ := bind_some h
         clear h
         have h := h'; clear h'
         have hc73 := fun (a69 : Option Addr) (c70 : Nat) => c_impl_Distance (aa_1 := a69) (ca_1 := c70) (ab_2 := a47) (cb_2 := c48) hx72
         have hc74 := H.cell (u := (I x33.2.1)) (o' := 1) 3 1 rfl rfl rfl
         have Hs := H
         refine rg2 (σ := σ49) (Nm := (Option Addr) × (Nat)) 31 [25, 28] [[false, false], [true, false], [true, true]] [[(0, 0)], [(0, 0)], [(0, 0)], [(0, 0)], [(0, 0)], [(0, 0)], [(0, 0)], [(0, 0)], [(0, 0)], [(0, 0)], [(0, 0)], [(0, 0)], [(0, 0)], [(0, 0)], [(0, 0)], [(0, 0)], [(0, 0)], [(0, 0), (1, 1)], [(0, 0)], [(0, 0)], [(0, 0)], [(0, 0)], [(0, 0)], [(0, 0)], [(0, 0)], [(0, 1)], [(1, 1)], [(0, 0), (1, 1)], [(1, 2)], [(0, 0), (1, 1), (2, 2)], [(0, 0), (1, 1), (2, 2)]] 2 [fun ((a69, c70) : (Option Addr) × (Nat)) => fun σm => Hp S0 σ0 σm [Ch.ro 0 (Sl a5 r2.1 c6) r2.1, Ch.ro 0 (Sl a47 r44.2.1 c48) r44.2.1, Ch.ro 0 (Sl a5 r2.1 c6) r2.1, Ch.bx n0 b40 0 [(I x33.1), (I x33.2.1), (I x33.2.2.1), (I x33.2.2.2)] [] [], Ch.ro n0 (Sl a5 r2.1 c6) r2.1, Ch.own 0 n0 (Sl a11 r8 c12) r8] ∧ Md (cov []) σ49 σm, fun ((a69, c70) : (Option Addr) × (Nat)) => fun σm => Hp S0 σ0 σm [Ch.ro 0 (Sl a69 r66.2.1 c70) r66.2.1, Ch.ro 0 (Sl a5 r2.1 c6) r2.1, Ch.ro 0 (Sl a47 r44.2.1 c48) r44.2.1, Ch.ro 0 (Sl a5 r2.1 c6) r2.1, Ch.bx n0 b40 0 [(I x33.1), (I x33.2.1), (I x33.2.2.1), (I x33.2.2.2)] [] [], Ch.ro n0 (Sl a5 r2.1 c6) r2.1, Ch.own 0 n0 (Sl a11 r8 c12) r8] ∧ Md (cov []) σ49 σm, fun ((a69, c70) : (Option Addr) × (Nat)) => fun σm => Hp S0 σ0 σm [Ch.ro 0 (Sl a69 r66.2.1 c70) r66.2.1, Ch.ro 0 (Sl a5 r2.1 c6) r2.1, Ch.ro 0 (Sl a47 r44.2.1 c48) r44.2.1, Ch.ro 0 (Sl a5 r2.1 c6) r2.1, Ch.bx n0 b40 0 [(I x33.1), (I x33.2.1), (I x33.2.2.1), (I x33.2.2.2)] [] [], Ch.ro n0 (Sl a5 r2.1 c6) r2.1, Ch.own 0 n0 (Sl a11 r8 c12) r8] ∧ Md (cov []) σ49 σm] [fun ((a69, c70) : (Option Addr) × (Nat)) => (pt b40 2), fun ((a69, c70) : (Option Addr) × (Nat)) => (I x33.2.2.1), fun ((a69, c70) : (Option Addr) × (Nat)) => (B (decide (0 ≤ x33.2.2.1))), fun ((a69, c70) : (Option Addr) × (Nat)) => (B (decide (0 ≤ x33.2.2.1))), fun ((a69, c70) : (Option Addr) × (Nat)) => (pt b40 2), fun ((a69, c70) : (Option Addr) × (Nat)) => (I x33.2.2.1), fun ((a69, c70) : (Option Addr) × (Nat)) => (I s28), fun ((a69, c70) : (Option Addr) × (Nat)) => (I (w64 (s28 + 1))), fun ((a69, c70) : (Option Addr) × (Nat)) => (B (x33.2.2.1 != (w64 (s28 + 1)))), fun ((a69, c70) : (Option Addr) × (Nat)) => (B (x33.2.2.1 != (w64 (s28 + 1)))), fun ((a69, c70) : (Option Addr) × (Nat)) => (pt b40 2), fun ((a69, c70) : (Option Addr) × (Nat)) => (I x33.2.2.1), fun ((a69, c70) : (Option Addr) × (Nat)) => (Sl a11 r8 c12), fun ((a69, c70) : (Option Addr) × (Nat)) => (I (r8.length : Int)), fun ((a69, c70) : (Option Addr) × (Nat)) => (B (decide ((r8.length : Int) ≤ x33.2.2.1))), fun ((a69, c70) : (Option Addr) × (Nat)) => (B (decide ((r8.length : Int) ≤ x33.2.2.1))), fun ((a69, c70) : (Option Addr) × (Nat)) => (B (decide ((r8.length : Int) ≤ x33.2.2.1))), fun ((a69, c70) : (Option Addr) × (Nat)) => (I r2.2), fun ((a69, c70) : (Option Addr) × (Nat)) => (Sl a5 r2.1 c6), fun ((a69, c70) : (Option Addr) × (Nat)) => (Sl a11 r8 c12), fun ((a69, c70) : (Option Addr) × (Nat)) => (pt b40 2), fun ((a69, c70) : (Option Addr) × (Nat)) => (I x33.2.2.1), fun ((a69, c70) : (Option Addr) × (Nat)) => (pt b63 o64), fun ((a69, c70) : (Option Addr) × (Nat)) => (pt b63 (o64 + 0)), fun ((a69, c70) : (Option Addr) × (Nat)) => (I x60.1), fun ((a69, c70) : (Option Addr) × (Nat)) => (.agg #[(I r66.1), (Sl a69 r66.2.1 c70), (I r66.2.2)]), fun ((a69, c70) : (Option Addr) × (Nat)) => (Sl a69 r66.2.1 c70), fun ((a69, c70) : (Option Addr) × (Nat)) => (Sl a47 r44.2.1 c48), fun ((a69, c70) : (Option Addr) × (Nat)) => (I r71), fun ((a69, c70) : (Option Addr) × (Nat)) => (pt b40 1), fun ((a69, c70) : (Option Addr) × (Nat)) => (I x33.2.1)] (none, 0) (by kernel_rfl) (by kernel_rfl) ?_ ?_ ?_
         ·intro σm m0
          exact ⟨H.grow (m0.mono fun _ h => h.elim), m0⟩
         ·refine ac rfl (by
            intro k; rintro ⟨a69, c70⟩ ρ σm hJ hoff hdep
            have e7 := look_off (N := 121) (hoff 7 rfl) rfl
            exact dp_v (v := (pt b40 2)) wn (rv_fieldAddr (off := 2) (ft := 3) Try.underlying58 rfl ti3 rfl e7) rfl hJ) ?_
          refine all_cons (by
            refine ⟨?_, ?_⟩
            ·rintro ⟨a69, c70⟩ ρ σm hJ hoff hdep
             have e41 := hdep 0 rfl rfl 41 rfl
             obtain ⟨H, m⟩ := id hJ
             have hc51 := H.cell (u := (I x33.2.2.1)) (o' := 2) 3 2 rfl rfl rfl
             exact dp_v (v := (I x33.2.2.1)) wn (rv_load1 Try.underlying3 rfl e41 hc51) rfl hJ
            trivial) ?_
          refine ac rfl (by
            intro k; rintro ⟨a69, c70⟩ ρ σm hJ hoff hdep
            have e42 := hdep 1 rfl rfl 42 rfl
            exact dp_v (v := (B (decide (0 ≤ x33.2.2.1)))) wn (rv_geq (a := x33.2.2.1) (b := 0) e42 rfl) rfl hJ) ?_
          refine ac rfl (by
            intro k; rintro ⟨a69, c70⟩ ρ σm hJ hoff hdep
            have e43 := hdep 2 rfl rfl 43 rfl
            exact dp_v (v := (B (decide (0 ≤ x33.2.2.1)))) wn (rv_move e43) rfl hJ) ?_
          refine ac rfl (by
            intro k; rintro ⟨a69, c70⟩ ρ σm hJ hoff hdep
            have e7 := look_off (N := 121) (hoff 7 rfl) rfl
            have e44 := hdep 3 rfl rfl 44 rfl
            exact dp_v (v := (pt b40 2)) (wanted_yes rfl (yv_of rfl (e44.trans (congrArg B hb52)))) (rv_fieldAddr (off := 2) (ft := 3) Try.underlying58 rfl ti3 rfl e7) rfl hJ) ?_
          refine all_cons (by
            refine ⟨?_, ?_⟩
            ·rintro ⟨a69, c70⟩ ρ σm hJ hoff hdep
             have e45 := hdep 4 rfl rfl 45 rfl
             have e44 := hdep 3 rfl rfl 44 rfl
             obtain ⟨H, m⟩ := id hJ
             have hc53 := H.cell (u := (I x33.2.2.1)) (o' := 2) 3 2 rfl rfl rfl
             exact dp_v (v := (I x33.2.2.1)) (wanted_yes rfl (yv_of rfl (e44.trans (congrArg B hb52)))) (rv_load1 Try.underlying3 rfl e45 hc53) rfl hJ
            trivial) ?_
          refine ac rfl (by
            intro k; rintro ⟨a69, c70⟩ ρ σm hJ hoff hdep
            have e6 := look_off (N := 121) (hoff 6 rfl) rfl
            have e44 := hdep 3 rfl rfl 44 rfl
            exact dp_v (v := (I s28)) (wanted_yes rfl (yv_of rfl (e44.trans (congrArg B hb52)))) (rv_move e6) rfl hJ) ?_
          refine ac rfl (by
            intro k; rintro ⟨a69, c70⟩ ρ σm hJ hoff hdep
            have e47 := hdep 6 rfl rfl 47 rfl
            have e44 := hdep 3 rfl rfl 44 rfl
            exact dp_v (v := (I (w64 (s28 + 1)))) (wanted_yes rfl (yv_of rfl (e44.trans (congrArg B hb52)))) (rv_add (a := s28) (b := 1) e47 rfl) rfl hJ) ?_
          refine ac rfl (by
            intro k; rintro ⟨a69, c70⟩ ρ σm hJ hoff hdep
            have e46 := hdep 5 rfl rfl 46 rfl
            have e48 := hdep 7 rfl rfl 48 rfl
            have e44 := hdep 3 rfl rfl 44 rfl
            exact dp_v (v := (B (x33.2.2.1 != (w64 (s28 + 1))))) (wanted_yes rfl (yv_of rfl (e44.trans (congrArg B hb52)))) (rv_neq (a := x33.2.2.1) (b := (w64 (s28 + 1))) e46 e48) rfl hJ) ?_
          refine ac rfl (by
            intro k; rintro ⟨a69, c70⟩ ρ σm hJ hoff hdep
            have e49 := hdep 8 rfl rfl 49 rfl
            have e44 := hdep 3 rfl rfl 44 rfl
            exact dp_v (v := (B (x33.2.2.1 != (w64 (s28 + 1))))) (wanted_yes rfl (yv_of rfl (e44.trans (congrArg B hb52)))) (rv_move e49) rfl hJ) ?_
          refine ac rfl (by
            intro k; rintro ⟨a69, c70⟩ ρ σm hJ hoff hdep
            have e7 := look_off (N := 121) (hoff 7 rfl) rfl
            have e50 := hdep 9 rfl rfl 50 rfl
            exact dp_v (v := (pt b40 2)) (wanted_yes rfl (yv_of rfl (e50.trans (congrArg B hb54)))) (rv_fieldAddr (off := 2) (ft := 3) Try.underlying58 rfl ti3 rfl e7) rfl hJ) ?_
          refine all_cons (by
            refine ⟨?_, ?_⟩
            ·rintro ⟨a69, c70⟩ ρ σm hJ hoff hdep
             have e51 := hdep 10 rfl rfl 51 rfl
             have e50 := hdep 9 rfl rfl 50 rfl
             obtain ⟨H, m⟩ := id hJ
             have hc56 := H.cell (u := (I x33.2.2.1)) (o' := 2) 3 2 rfl rfl rfl
             exact dp_v (v := (I x33.2.2.1)) (wanted_yes rfl (yv_of rfl (e50.trans (congrArg B hb54)))) (rv_load1 Try.underlying3 rfl e51 hc56) rfl hJ
            trivial) ?_
          refine ac rfl (by
            intro k; rintro ⟨a69, c70⟩ ρ σm hJ hoff hdep
            have e5 := look_off (N := 121) (hoff 5 rfl) rfl
            have e50 := hdep 9 rfl rfl 50 rfl
            exact dp_v (v := (Sl a11 r8 c12)) (wanted_yes rfl (yv_of rfl (e50.trans (congrArg B hb54)))) (rv_move e5) rfl hJ) ?_
          refine ac rfl (by
            intro k; rintro ⟨a69, c70⟩ ρ σm hJ hoff hdep
            have e53 := hdep 12 rfl rfl 53 rfl
            have e50 := hdep 9 rfl rfl 50 rfl
            exact dp_v (v := (I (r8.length : Int))) (wanted_yes rfl (yv_of rfl (e50.trans (congrArg B hb54)))) (rv_len Try.underlying54 e53) rfl hJ) ?_
          refine ac rfl (by
            intro k; rintro ⟨a69, c70⟩ ρ σm hJ hoff hdep
            have e52 := hdep 11 rfl rfl 52 rfl
            have e54 := hdep 13 rfl rfl 54 rfl
            have e50 := hdep 9 rfl rfl 50 rfl
            exact dp_v (v := (B (decide ((r8.length : Int) ≤ x33.2.2.1)))) (wanted_yes rfl (yv_of rfl (e50.trans (congrArg B hb54)))) (rv_geq (a := x33.2.2.1) (b := (r8.length : Int)) e52 e54) rfl hJ) ?_
          refine ac rfl (by
            intro k; rintro ⟨a69, c70⟩ ρ σm hJ hoff hdep
            have e50 := hdep 9 rfl rfl 50 rfl
            have e55 := hdep 14 rfl rfl 55 rfl
            have e44 := hdep 3 rfl rfl 44 rfl
            exact dp_v (v := (B (decide ((r8.length : Int) ≤ x33.2.2.1)))) (wanted_yes rfl (yv_of rfl (e44.trans (congrArg B hb52)))) (rv_pick_f (e50.trans (congrArg B hb54)) e55) rfl hJ) ?_
          refine ac rfl (by
            intro k; rintro ⟨a69, c70⟩ ρ σm hJ hoff hdep
            have e56 := hdep 15 rfl rfl 56 rfl
            have e44 := hdep 3 rfl rfl 44 rfl
            exact dp_v (v := (B (decide ((r8.length : Int) ≤ x33.2.2.1)))) (wanted_yes rfl (yv_of rfl (e44.trans (congrArg B hb52)))) (rv_move e56) rfl hJ) ?_
          refine ac rfl (by
            intro k; rintro ⟨a69, c70⟩ ρ σm hJ hoff hdep
            have e4 := look_off (N := 121) (hoff 4 rfl) rfl
            have e57 := hdep 16 rfl rfl 57 rfl
            exact dp_v (v := (I r2.2)) (wanted_yes rfl (yv_of rfl (e57.trans (congrArg B hb57)))) (rv_move e4) rfl hJ) ?_
          refine ac rfl (by
            intro k; rintro ⟨a69, c70⟩ ρ σm hJ hoff hdep
            have e3 := look_off (N := 121) (hoff 3 rfl) rfl
            have e57 := hdep 16 rfl rfl 57 rfl
            exact dp_v (v := (Sl a5 r2.1 c6)) (wanted_yes rfl (yv_of rfl (e57.trans (congrArg B hb57)))) (rv_move e3) rfl hJ) ?_
          refine ac rfl (by
            intro k; rintro ⟨a69, c70⟩ ρ σm hJ hoff hdep
            have e5 := look_off (N := 121) (hoff 5 rfl) rfl
            have e57 := hdep 16 rfl rfl 57 rfl
            exact dp_v (v := (Sl a11 r8 c12)) (wanted_yes rfl (yv_of rfl (e57.trans (congrArg B hb57)))) (rv_move e5) rfl hJ) ?_
          refine ac rfl (by
            intro k; rintro ⟨a69, c70⟩ ρ σm hJ hoff hdep
            have e7 := look_off (N := 121) (hoff 7 rfl) rfl
            have e57 := hdep 16 rfl rfl 57 rfl
            exact dp_v (v := (pt b40 2)) (wanted_yes rfl (yv_of rfl (e57.trans (congrArg B hb57)))) (rv_fieldAddr (off := 2) (ft := 3) Try.underlying58 rfl ti3 rfl e7) rfl hJ) ?_
          refine all_cons (by
            refine ⟨?_, ?_⟩
            ·rintro ⟨a69, c70⟩ ρ σm hJ hoff hdep
             have e61 := hdep 20 rfl rfl 61 rfl
             have e57 := hdep 16 rfl rfl 57 rfl
             obtain ⟨H, m⟩ := id hJ
             have hc59 := H.cell (u := (I x33.2.2.1)) (o' := 2) 3 2 rfl rfl rfl
             exact dp_v (v := (I x33.2.2.1)) (wanted_yes rfl (yv_of rfl (e57.trans (congrArg B hb57)))) (rv_load1 Try.underlying3 rfl e61 hc59) rfl hJ
            trivial) ?_
          refine ac rfl (by
            intro k; rintro ⟨a69, c70⟩ ρ σm hJ hoff hdep
            have e60 := hdep 19 rfl rfl 60 rfl
            have e62 := hdep 21 rfl rfl 62 rfl
            have e57 := hdep 16 rfl rfl 57 rfl
            exact dp_v (v := (pt b63 o64)) (wanted_yes rfl (yv_of rfl (e57.trans (congrArg B hb57)))) (rv_ix Try.underlying54 ti58 e60 e62 hi62) rfl hJ) ?_
          refine ac rfl (by
            intro k; rintro ⟨a69, c70⟩ ρ σm hJ hoff hdep
            have e63 := hdep 22 rfl rfl 63 rfl
            have e57 := hdep 16 rfl rfl 57 rfl
            exact dp_v (v := (pt b63 (o64 + 0))) (wanted_yes rfl (yv_of rfl (e57.trans (congrArg B hb57)))) (rv_fieldAddr (off := 0) (ft := 3) Try.underlying58 rfl ti3 rfl e63) rfl hJ) ?_
          refine all_cons (by
            refine ⟨?_, ?_⟩
            ·rintro ⟨a69, c70⟩ ρ σm hJ hoff hdep
             have e64 := hdep 23 rfl rfl 64 rfl
             have e57 := hdep 16 rfl rfl 57 rfl
             obtain ⟨H, m⟩ := id hJ
             have hc65 := ((H.own 5 rfl).at hx61 hi62).fst.int
             exact dp_v (v := (I x60.1)) (wanted_yes rfl (yv_of rfl (e57.trans (congrArg B hb57)))) (rv_load1 Try.underlying3 rfl e64 hc65) rfl hJ
            trivial) ?_
          refine all_cons (by
            refine ⟨?_, ?_⟩
            ·rintro ⟨a69, c70⟩ ρ σm hJ hoff hdep
             have e59 : look 121 ρ 59 = (Sl a5 r2.1 c6) := hdep 18 rfl rfl 59 rfl
             have e65 : look 121 ρ 65 = (I x60.1) := hdep 24 rfl rfl 65 rfl
             have e57 := hdep 16 rfl rfl 57 rfl
             obtain ⟨H, m⟩ := id hJ
             refine dp_cx (wanted_yes rfl (yv_of rfl (e57.trans (congrArg B hb57)))) (cx_call hc68 (ent_f hc68.fn (by show [look 121 ρ 59, look 121 ρ 65] = _; rw [e59, e65])) hn0 (show Hp S0 σ0 _ ([Ch.ro 0 (Sl a5 r2.1 c6) r2.1] ++ [Ch.ro 0 (Sl a5 r2.1 c6) r2.1, Ch.ro 0 (Sl a47 r44.2.1 c48) r44.2.1, Ch.ro 0 (Sl a5 r2.1 c6) r2.1, Ch.bx n0 b40 0 [(I x33.1), (I x33.2.1), (I x33.2.2.1), (I x33.2.2.2)] [] [], Ch.ro n0 (Sl a5 r2.1 c6) r2.1, Ch.own 0 n0 (Sl a11 r8 c12) r8]) from (H.sel' [0, 0, 1, 2, 3, 4, 5] rfl rfl))) ?_
             rintro _ σq ⟨_, ⟨a69x, c70x, rfl, rfl⟩, H2, m2⟩
             exact ⟨_, (a69x, c70x), rfl, rfl, ⟨H2.sel' [0, 1, 2, 3, 4, 5, 6] rfl rfl, m.comp0 (m2.mono (fun i h => by simp [cov, Ch.ro] at h))⟩, stab [0, 1, 2, 3, 4, 5, 6, 7, 8, 9, 10, 11, 12, 13, 14, 15, 16, 17, 18, 19, 20, 21, 22, 23, 24, 27, 29, 30] (by kernel_rfl) ⟨rfl, rfl, rfl, rfl, rfl, rfl, rfl, rfl, rfl, rfl, rfl, rfl, rfl, rfl, rfl, rfl, rfl, rfl, rfl, rfl, rfl, rfl, rfl, rfl, rfl, rfl, rfl, rfl, trivial⟩⟩
            trivial) ?_
          refine ac rfl (by
            intro k; rintro ⟨a69, c70⟩ ρ σm hJ hoff hdep
            have e66 := hdep 25 rfl rfl 66 rfl
            have e57 := hdep 16 rfl rfl 57 rfl
            exact dp_v (v := (Sl a69 r66.2.1 c70)) (wanted_yes rfl (yv_of rfl (e57.trans (congrArg B hb57)))) (rv_field (off := 1) (ft := 25) Try.underlying38 rfl Try.underlying25 rfl e66 rfl) rfl hJ) ?_
          refine ac rfl (by
            intro k; rintro ⟨a69, c70⟩ ρ σm hJ hoff hdep
            have e8 := look_off (N := 121) (hoff 8 rfl) rfl
            have e57 := hdep 16 rfl rfl 57 rfl
            exact dp_v (v := (Sl a47 r44.2.1 c48)) (wanted_yes rfl (yv_of rfl (e57.trans (congrArg B hb57)))) (rv_move e8) rfl hJ) ?_
          refine all_cons (by
            refine ⟨?_, ?_⟩
            ·rintro ⟨a69, c70⟩ ρ σm hJ hoff hdep
             have e58 : look 121 ρ 58 = (I r2.2) := hdep 17 rfl rfl 58 rfl
             have e67 : look 121 ρ 67 = (Sl a69 r66.2.1 c70) := hdep 26 rfl rfl 67 rfl
             have e68 : look 121 ρ 68 = (Sl a47 r44.2.1 c48) := hdep 27 rfl rfl 68 rfl
             have e57 := hdep 16 rfl rfl 57 rfl
             obtain ⟨H, m⟩ := id hJ
             refine dp_cx (wanted_yes rfl (yv_of rfl (e57.trans (congrArg B hb57)))) (cx_call (hc73 a69 c70) (ent_f (hc73 a69 c70).fn (by show [look 121 ρ 58, look 121 ρ 67, look 121 ρ 68] = _; rw [e58, e67, e68])) hn0 (show Hp S0 σ0 _ ([Ch.ro 0 (Sl a69 r66.2.1 c70) r66.2.1, Ch.ro 0 (Sl a47 r44.2.1 c48) r44.2.1] ++ [Ch.ro 0 (Sl a69 r66.2.1 c70) r66.2.1, Ch.ro 0 (Sl a5 r2.1 c6) r2.1, Ch.ro 0 (Sl a47 r44.2.1 c48) r44.2.1, Ch.ro 0 (Sl a5 r2.1 c6) r2.1, Ch.bx n0 b40 0 [(I x33.1), (I x33.2.1), (I x33.2.2.1), (I x33.2.2.2)] [] [], Ch.ro n0 (Sl a5 r2.1 c6) r2.1, Ch.own 0 n0 (Sl a11 r8 c12) r8]) from (H.sel' [0, 2, 0, 1, 2, 3, 4, 5, 6] rfl rfl))) ?_
             rintro _ σq ⟨_, ⟨rfl, rfl⟩, H2, m2⟩
             exact ⟨_, (a69, c70), rfl, rfl, ⟨H2.sel' [0, 1, 2, 3, 4, 5, 6] rfl rfl, m.comp0 (m2.mono (fun i h => by simp [cov, Ch.ro] at h))⟩, stab [0, 1, 2, 3, 4, 5, 6, 7, 8, 9, 10, 11, 12, 13, 14, 15, 16, 17, 18, 19, 20, 21, 22, 23, 24, 25, 26, 27, 29, 30] (by kernel_rfl) ⟨rfl, rfl, rfl, rfl, rfl, rfl, rfl, rfl, rfl, rfl, rfl, rfl, rfl, rfl, rfl, rfl, rfl, rfl, rfl, rfl, rfl, rfl, rfl, rfl, rfl, rfl, rfl, rfl, rfl, rfl, trivial⟩⟩
            trivial) ?_
          refine ac rfl (by
            intro k; rintro ⟨a69, c70⟩ ρ σm hJ hoff hdep
            have e7 := look_off (N := 121) (hoff 7 rfl) rfl
            have e57 := hdep 16 rfl rfl 57 rfl
            exact dp_v (v := (pt b40 1)) (wanted_yes rfl (yv_of rfl (e57.trans (congrArg B hb57)))) (rv_fieldAddr (off := 1) (ft := 3) Try.underlying58 rfl ti3 rfl e7) rfl hJ) ?_
          refine all_cons (by
            refine ⟨?_, ?_⟩
            ·rintro ⟨a69, c70⟩ ρ σm hJ hoff hdep
             have e70 := hdep 29 rfl rfl 70 rfl
             have e57 := hdep 16 rfl rfl 57 rfl
             obtain ⟨H, m⟩ := id hJ
             have hc74 := H.cell (u := (I x33.2.1)) (o' := 1) 3 1 rfl rfl rfl
             exact dp_v (v := (I x33.2.1)) (wanted_yes rfl (yv_of rfl (e57.trans (congrArg B hb57)))) (rv_load1 Try.underlying3 rfl e70 hc74) rfl hJ
            refine ⟨?_, ?_⟩
            ·rintro ⟨a69, c70⟩ ρ σm hJ hoff hdep
             have e70 := hdep 29 rfl rfl 70 rfl
             have e57 := hdep 16 rfl rfl 57 rfl
             obtain ⟨H, m⟩ := id hJ
             have hc74 := H.cell (u := (I x33.2.1)) (o' := 1) 4 1 rfl rfl rfl
             exact dp_v (v := (I x33.2.1)) (wanted_yes rfl (yv_of rfl (e57.trans (congrArg B hb57)))) (rv_load1 Try.underlying3 rfl e70 hc74) rfl hJ
            refine ⟨?_, ?_⟩
            ·rintro ⟨a69, c70⟩ ρ σm hJ hoff hdep
             have e70 := hdep 29 rfl rfl 70 rfl
             have e57 := hdep 16 rfl rfl 57 rfl
             obtain ⟨H, m⟩ := id hJ
             have hc74 := H.cell (u := (I x33.2.1)) (o' := 1) 4 1 rfl rfl rfl
             exact dp_v (v := (I x33.2.1)) (wanted_yes rfl (yv_of rfl (e57.trans (congrArg B hb57)))) (rv_load1 Try.underlying3 rfl e70 hc74) rfl hJ
            trivial) ?_
          exact all_nil
         ·rintro ⟨a69, c70⟩ ρ σ75 hJ hoff hrel
          have e3 := look_off (N := 121) (hoff 3 rfl) rfl
          have e4 := look_off (N := 121) (hoff 4 rfl) rfl
          have e5 := look_off (N := 121) (hoff 5 rfl) rfl
          have e6 := look_off (N := 121) (hoff 6 rfl) rfl
          have e7 := look_off (N := 121) (hoff 7 rfl) rfl
          have e8 := look_off (N := 121) (hoff 8 rfl) rfl
          have e44 := hrel 3 rfl 44 rfl
          have e57 := hrel 16 rfl 57 rfl
          have e69 := hrel 28 rfl 69 rfl
          have e71 := hrel 30 rfl 71 rfl
          obtain ⟨H, -⟩ := (show Hp S0 σ0 σ75 [Ch.ro 0 (Sl a69 r66.2.1 c70) r66.2.1, Ch.ro 0 (Sl a5 r2.1 c6) r2.1, Ch.ro 0 (Sl a47 r44.2.1 c48) r44.2.1, Ch.ro 0 (Sl a5 r2.1 c6) r2.1, Ch.bx n0 b40 0 [(I x33.1), (I x33.2.1), (I x33.2.2.1), (I x33.2.2.2)] [] [], Ch.ro n0 (Sl a5 r2.1 c6) r2.1, Ch.own 0 n0 (Sl a11 r8 c12) r8] ∧ Md (cov []) σ49 σ75 from hJ)
          clear hJ Hs
          rw [fr_lookL (L := [(3, (Sl a5 r2.1 c6)), (4, (I r2.2)), (5, (Sl a11 r8 c12)), (6, (I s28)), (7, (pt b40 0)), (8, (Sl a47 r44.2.1 c48)), (44, (B (decide (0 ≤ x33.2.2.1)))), (57, (B (decide ((r8.length : Int) ≤ x33.2.2.1)))), (69, (I r71)), (71, (I x33.2.1))]) ⟨e3, e4, e5, e6, e7, e8, e44, e57, e69, e71, trivial⟩]
          clear hoff hrel e3 e4 e5 e6 e7 e8 e44 e57 e69 e71
          refine st_g (v := (B (decide (x33.2.1 < r71)))) (congrArg some hb57) (rv_gtr (a := r71) (b := x33.2.1) rfl rfl) ?_
          refine st_g (v := (B (decide (x33.2.1 < r71)))) (congrArg some hb52) (rv_pick_f (congrArg B hb57) rfl) ?_
          refine st (v := (B (decide (x33.2.1 < r71)))) (rv_pick_t (congrArg B hb52) rfl) ?_
          refine w_end ?_
          obtain rfl := Option.some.inj h
          exact ⟨rfl, _, σ75, fr_join ⟨rfl, rfl, rfl, rfl, rfl, rfl, rfl, trivial⟩, rfl, H.sel' [5, 6, 4, 2] rfl rfl⟩
      ·replace h := bif_f hb52 h
       have Hs := H
       refine rg2 (σ := σ49) (Nm := Unit) 31 [] [[]] [[(0, 0)], [(0, 0)], [(0, 0)], [(0, 0)], [(0, 0)], [(0, 0)], [(0, 0)], [(0, 0)], [(0, 0)], [(0, 0)], [(0, 0)], [(0, 0)], [(0, 0)], [(0, 0)], [(0, 0)], [(0, 0)], [(0, 0)], [(0, 0)], [(0, 0)], [(0, 0)], [(0, 0)], [(0, 0)], [(0, 0)], [(0, 0)], [(0, 0)], [(0, 0)], [(0, 0)], [(0, 0)], [(0, 0)], [(0, 0)], [(0, 0)]] 0 [fun _ => fun σm => Hp S0 σ0 σm [Ch.ro 0 (Sl a47 r44.2.1 c48) r44.2.1, Ch.ro 0 (Sl a5 r2.1 c6) r2.1, Ch.bx n0 b40 0 [(I x33.1), (I x33.2.1), (I x33.2.2.1), (I x33.2.2.2)] [] [], Ch.ro n0 (Sl a5 r2.1 c6) r2.1, Ch.own 0 n0 (Sl a11 r8 c12) r8] ∧ Md (cov []) σ49 σm] [fun _ => (pt b40 2), fun _ => (I x33.2.2.1), fun _ => (B (decide (0 ≤ x33.2.2.1))), fun _ => (B (decide (0 ≤ x33.2.2.1))), fun _ => undef, fun _ => undef, fun _ => undef, fun _ => undef, fun _ => undef, fun _ => undef, fun _ => undef, fun _ => undef, fun _ => undef, fun _ => undef, fun _ => undef, fun _ => undef, fun _ => undef, fun _ => undef, fun _ => undef, fun _ => undef, fun _ => undef, fun _ => undef, fun _ => undef, fun _ => undef, fun _ => undef, fun _ => undef, fun _ => undef, fun _ => undef, fun _ => undef, fun _ => undef, fun _ => undef] () (by kernel_rfl) (by kernel_rfl) ?_ ?_ ?_
       ·intro σm m0
        exact ⟨H.grow (m0.mono fun _ h => h.elim), m0⟩
       ·refine ac rfl (by
          intro k _nm ρ σm hJ hoff hdep
          have e7 := look_off (N := 121) (hoff 7 rfl) rfl
          exact dp_v (v := (pt b40 2)) wn (rv_fieldAddr (off := 2) (ft := 3) Try.underlying58 rfl ti3 rfl e7) rfl hJ) ?_
        refine all_cons (by
          refine ⟨?_, ?_⟩
          ·intro _nm ρ σm hJ hoff hdep
           have e41 := hdep 0 rfl rfl 41 rfl
           obtain ⟨H, m⟩ := id hJ
           have hc51 := H.cell (u := (I x33.2.2.1)) (o' := 2) 2 2 rfl rfl rfl
           exact dp_v (v := (I x33.2.2.1)) wn (rv_load1 Try.underlying3 rfl e41 hc51) rfl hJ
          trivial) ?_
        refine ac rfl (by
          intro k _nm ρ σm hJ hoff hdep
          have e42 := hdep 1 rfl rfl 42 rfl
          exact dp_v (v := (B (decide (0 ≤ x33.2.2.1)))) wn (rv_geq (a := x33.2.2.1) (b := 0) e42 rfl) rfl hJ) ?_
        refine ac rfl (by
          intro k _nm ρ σm hJ hoff hdep
          have e43 := hdep 2 rfl rfl 43 rfl
          exact dp_v (v := (B (decide (0 ≤ x33.2.2.1)))) wn (rv_move e43) rfl hJ) ?_
        refine ac rfl (by
          intro k _nm ρ σm hJ hoff hdep
          have e44 := hdep 3 rfl rfl 44 rfl
          exact dp_skip (wanted_no rfl (yv_of rfl (e44.trans (congrArg B hb52)))) rfl hJ) ?_
        refine ac rfl (by
          intro k _nm ρ σm hJ hoff hdep
          have e44 := hdep 3 rfl rfl 44 rfl
          exact dp_skip (wanted_no rfl (yv_of rfl (e44.trans (congrArg B hb52)))) rfl hJ) ?_
        refine ac rfl (by
          intro k _nm ρ σm hJ hoff hdep
          have e44 := hdep 3 rfl rfl 44 rfl
          exact dp_skip (wanted_no rfl (yv_of rfl (e44.trans (congrArg B hb52)))) rfl hJ) ?_
        refine ac rfl (by
          intro k _nm ρ σm hJ hoff hdep
          have e44 := hdep 3 rfl rfl 44 rfl
          exact dp_skip (wanted_no rfl (yv_of rfl (e44.trans (congrArg B hb52)))) rfl hJ) ?_
        refine ac rfl (by
          intro k _nm ρ σm hJ hoff hdep
          have e44 := hdep 3 rfl rfl 44 rfl
          exact dp_skip (wanted_no rfl (yv_of rfl (e44.trans (congrArg B hb52)))) rfl hJ) ?_
        refine ac rfl (by
          intro k _nm ρ σm hJ hoff hdep
          have e44 := hdep 3 rfl rfl 44 rfl
          exact dp_skip (wanted_no rfl (yv_of rfl (e44.trans (congrArg B hb52)))) rfl hJ) ?_
        refine ac rfl (by
          intro k _nm ρ σm hJ hoff hdep
          have e50 := hdep 9 rfl rfl 50 rfl
          exact dp_skip (wanted_u rfl (yv_undef rfl e50)) rfl hJ) ?_
        refine ac rfl (by
          intro k _nm ρ σm hJ hoff hdep
          have e50 := hdep 9 rfl rfl 50 rfl
          exact dp_skip (wanted_u rfl (yv_undef rfl e50)) rfl hJ) ?_
        refine ac rfl (by
          intro k _nm ρ σm hJ hoff hdep
          have e50 := hdep 9 rfl rfl 50 rfl
          exact dp_skip (wanted_u rfl (yv_undef rfl e50)) rfl hJ) ?_
        refine ac rfl (by
          intro k _nm ρ σm hJ hoff hdep
          have e50 := hdep 9 rfl rfl 50 rfl
          exact dp_skip (wanted_u rfl (yv_undef rfl e50)) rfl hJ) ?_
        refine ac rfl (by
          intro k _nm ρ σm hJ hoff hdep
          have e50 := hdep 9 rfl rfl 50 rfl
          exact dp_skip (wanted_u rfl (yv_undef rfl e50)) rfl hJ) ?_
        refine ac rfl (by
          intro k _nm ρ σm hJ hoff hdep
          have e44 := hdep 3 rfl rfl 44 rfl
          exact dp_skip (wanted_no rfl (yv_of rfl (e44.trans (congrArg B hb52)))) rfl hJ) ?_
        refine ac rfl (by
          intro k _nm ρ σm hJ hoff hdep
          have e44 := hdep 3 rfl rfl 44 rfl
          exact dp_skip (wanted_no rfl (yv_of rfl (e44.trans (congrArg B hb52)))) rfl hJ) ?_
        refine ac rfl (by
          intro k _nm ρ σm hJ hoff hdep
          have e57 := hdep 16 rfl rfl 57 rfl
          exact dp_skip (wanted_u rfl (yv_undef rfl e57)) rfl hJ) ?_
        refine ac rfl (by
          intro k _nm ρ σm hJ hoff hdep
          have e57 := hdep 16 rfl rfl 57 rfl
          exact dp_skip (wanted_u rfl (yv_undef rfl e57)) rfl hJ) ?_
        refine ac rfl (by
          intro k _nm ρ σm hJ hoff hdep
          have e57 := hdep 16 rfl rfl 57 rfl
          exact dp_skip (wanted_u rfl (yv_undef rfl e57)) rfl hJ) ?_
        refine ac rfl (by
          intro k _nm ρ σm hJ hoff hdep
          have e57 := hdep 16 rfl rfl 57 rfl
          exact dp_skip (wanted_u rfl (yv_undef rfl e57)) rfl hJ) ?_
        refine ac rfl (by
          intro k _nm ρ σm hJ hoff hdep
          have e57 := hdep 16 rfl rfl 57 rfl
          exact dp_skip (wanted_u rfl (yv_undef rfl e57)) rfl hJ) ?_
        refine ac rfl (by
          intro k _nm ρ σm hJ hoff hdep
          have e57 := hdep 16 rfl rfl 57 rfl
          exact dp_skip (wanted_u rfl (yv_undef rfl e57)) rfl hJ) ?_
        refine ac rfl (by
          intro k _nm ρ σm hJ hoff hdep
          have e57 := hdep 16 rfl rfl 57 rfl
          exact dp_skip (wanted_u rfl (yv_undef rfl e57)) rfl hJ) ?_
        refine ac rfl (by
          intro k _nm ρ σm hJ hoff hdep
          have e57 := hdep 16 rfl rfl 57 rfl
          exact dp_skip (wanted_u rfl (yv_undef rfl e57)) rfl hJ) ?_
        refine ac rfl (by
          intro k _nm ρ σm hJ hoff hdep
          have e57 := hdep 16 rfl rfl 57 rfl
          exact dp_skip (wanted_u rfl (yv_undef rfl e57)) rfl hJ) ?_
        refine ac rfl (by
          intro k _nm ρ σm hJ hoff hdep
          have e57 := hdep 16 rfl rfl 57 rfl
          exact dp_skip (wanted_u rfl (yv_undef rfl e57)) rfl hJ) ?_
        refine ac rfl (by
          intro k _nm ρ σm hJ hoff hdep
          have e57 := hdep 16 rfl rfl 57 rfl
          exact dp_skip (wanted_u rfl (yv_undef rfl e57)) rfl hJ) ?_
        refine ac rfl (by
          intro k _nm ρ σm hJ hoff hdep
          have e57 := hdep 16 rfl rfl 57 rfl
          exact dp_skip (wanted_u rfl (yv_undef rfl e57)) rfl hJ) ?_
        refine ac rfl (by
          intro k _nm ρ σm hJ hoff hdep
          have e57 := hdep 16 rfl rfl 57 rfl
          exact dp_skip (wanted_u rfl (yv_undef rfl e57)) rfl hJ) ?_
        refine ac rfl (by
          intro k _nm ρ σm hJ hoff hdep
          have e57 := hdep 16 rfl rfl 57 rfl
          exact dp_skip (wanted_u rfl (yv_undef rfl e57)) rfl hJ) ?_
        exact all_nil
       ·intro _nm ρ σ76 hJ hoff hrel
        have e3 := look_off (N := 121) (hoff 3 rfl) rfl
        have e4 := look_off (N := 121) (hoff 4 rfl) rfl
        have e5 := look_off (N := 121) (hoff 5 rfl) rfl
        have e6 := look_off (N := 121) (hoff 6 rfl) rfl
        have e7 := look_off (N := 121) (hoff 7 rfl) rfl
        have e8 := look_off (N := 121) (hoff 8 rfl) rfl
        have e44 := hrel 3 rfl 44 rfl
        have e57 := hrel 16 rfl 57 rfl
        have e69 := hrel 28 rfl 69 rfl
        have e71 := hrel 30 rfl 71 rfl
        obtain ⟨H, -⟩ := (show Hp S0 σ0 σ76 [Ch.ro 0 (Sl a47 r44.2.1 c48) r44.2.1, Ch.ro 0 (Sl a5 r2.1 c6) r2.1, Ch.bx n0 b40 0 [(I x33.1), (I x33.2.1), (I x33.2.2.1), (I x33.2.2.2)] [] [], Ch.ro n0 (Sl a5 r2.1 c6) r2.1, Ch.own 0 n0 (Sl a11 r8 c12) r8] ∧ Md (cov []) σ49 σ76 from hJ)
        clear hJ Hs
        rw [fr_lookL (L := [(3, (Sl a5 r2.1 c6)), (4, (I r2.2)), (5, (Sl a11 r8 c12)), (6, (I s28)), (7, (pt b40 0)), (8, (Sl a47 r44.2.1 c48)), (44, (B (decide (0 ≤ x33.2.2.1)))), (57, undef), (69, undef), (71, undef)]) ⟨e3, e4, e5, e6, e7, e8, e44, e57, e69, e71, trivial⟩]
        clear hoff hrel e3 e4 e5 e6 e7 e8 e44 e57 e69 e71
        refine st_skip_u rfl ?_
        refine st_skip (congrArg some hb52) ?_
        refine st (v := (B false)) (rv_pick_f (congrArg B hb52) rfl) ?_
        refine w_end ?_
        obtain rfl := Option.some.inj h
        exact ⟨rfl, _, σ76, fr_join ⟨rfl, rfl, rfl, rfl, rfl, rfl, rfl, trivial⟩, rfl, H.sel' [3, 4, 2, 0] rfl rfl⟩
     ·clear hj
      have h := h'
      clear h' H
      rintro e a w ⟨rfl, ρ, σ77, rfl, rfl, H⟩
      refine q_then ?_
      refine cd_cond o50 rfl (fun hb78 => ?_) (fun hb78 => ?_)
      ·replace h := bif_t hb78 h
       refine c_seq ?_
       refine rg ?_
       refine st (v := (B false)) (rv_assign rfl) ?_
       refine w_end ?_
       refine q_then ?_
       refine c_ret ?_
       refine q_then_r ?_
       refine q_blk_r ?_
       refine q_then_r ?_
       refine q_then_r ?_
       refine q_blk_r ?_
       obtain rfl := Option.some.inj h
       obtain rfl := hres _ rfl
       exact .inr (⟨_, rfl, rfl, _, σ77, fr_join ⟨rfl, trivial⟩, rfl, H.sel' [] rfl rfl⟩)
      ·replace h := bif_f hb78 h
       refine c_skip ?_
       refine q_then ?_
       refine c_seq ?_
       refine c_seq ?_
       obtain ⟨o79, hj, h'⟩ := bind_some h
       clear h
       refine c_cut (fun e a w => e = .normal ∧ ∃ (ρ : Nat → Value) (σ : St), a = fr 121 (updL ρ [(3, (Sl a5 r2.1 c6)), (4, (I r2.2)), (5, (Sl a11 r8 c12)), (6, (I s28)), (7, (pt b40 0)), (107, (B o79))]) ∧ w = σ.w ∧ Hp S0 σ0 σ [Ch.ro n0 (Sl a5 r2.1 c6) r2.1, Ch.own 0 n0 (Sl a11 r8 c12) r8, Ch.bx n0 b40 0 [(I x33.1), (I x33.2.1), (I x33.2.2.1), (I x33.2.2.2)] [] []]) ?_ ?_
       ·clear h'
        rename _ = some o79 => h
        have hc80 := H.cell (u := (I x33.2.2.2)) (o' := 3) 2 3 rfl rfl rfl
        rcases Bool.eq_false_or_eq_true (decide (0 ≤ x33.2.2.2)) with hb81 | hb81
        ·replace h := bif_t hb81 h
         have hc82 := H.cell (u := (I x33.2.2.2)) (o' := 3) 2 3 rfl rfl rfl
         rcases Bool.eq_false_or_eq_true (decide (x33.2.2.2 ≤ s28)) with hb83 | hb83
         ·replace h := bif_t hb83 h
          have Hs := H
          refine rg2 (σ := σ77) (Nm := Unit) 30 [] [[]] [[(0, 0)], [(0, 0)], [(0, 0)], [(0, 0)], [(0, 0)], [(0, 0)], [(0, 0)], [(0, 0)], [(0, 0)], [(0, 0)], [(0, 0)], [(0, 0)], [(0, 0)], [(0, 0)], [(0, 0)], [(0, 0)], [(0, 0)], [(0, 0)], [(0, 0)], [(0, 0)], [(0, 0)], [(0, 0)], [(0, 0)], [(0, 0)], [(0, 0)], [(0, 0)], [(0, 0)], [(0, 0)], [(0, 0)], [(0, 0)]] 0 [fun _ => fun σm => Hp S0 σ0 σm [Ch.ro n0 (Sl a5 r2.1 c6) r2.1, Ch.own 0 n0 (Sl a11 r8 c12) r8, Ch.bx n0 b40 0 [(I x33.1), (I x33.2.1), (I x33.2.2.1), (I x33.2.2.2)] [] [], Ch.ro 0 (Sl a47 r44.2.1 c48) r44.2.1] ∧ Md (cov []) σ77 σm] [fun _ => (pt b40 3), fun _ => (I x33.2.2.2), fun _ => (B (decide (0 ≤ x33.2.2.2))), fun _ => (B (decide (0 ≤ x33.2.2.2))), fun _ => (pt b40 3), fun _ => (I x33.2.2.2), fun _ => (I s28), fun _ => (B (decide (x33.2.2.2 ≤ s28))), fun _ => (B (decide (x33.2.2.2 ≤ s28))), fun _ => undef, fun _ => undef, fun _ => undef, fun _ => undef, fun _ => undef, fun _ => (B true), fun _ => (B true), fun _ => undef, fun _ => undef, fun _ => undef, fun _ => undef, fun _ => undef, fun _ => undef, fun _ => undef, fun _ => undef, fun _ => undef, fun _ => undef, fun _ => undef, fun _ => undef, fun _ => undef, fun _ => undef] () (by kernel_rfl) (by kernel_rfl) ?_ ?_ ?_
          ·intro σm m0
           exact ⟨H.grow (m0.mono fun _ h => h.elim), m0⟩
          ·refine ac rfl (by
             intro k _nm ρ σm hJ hoff hdep
             have e7 := look_off (N := 121) (hoff 7 rfl) rfl
             exact dp_v (v := (pt b40 3)) wn (rv_fieldAddr (off := 3) (ft := 3) Try.underlying58 rfl ti3 rfl e7) rfl hJ) ?_
           refine all_cons (by
             refine ⟨?_, ?_⟩
             ·intro _nm ρ σm hJ hoff hdep
              have e75 := hdep 0 rfl rfl 75 rfl
              obtain ⟨H, m⟩ := id hJ
              have hc80 := H.cell (u := (I x33.2.2.2)) (o' := 3) 2 3 rfl rfl rfl
              exact dp_v (v := (I x33.2.2.2)) wn (rv_load1 Try.underlying3 rfl e75 hc80) rfl hJ
             trivial) ?_
           refine ac rfl (by
             intro k _nm ρ σm hJ hoff hdep
             have e76 := hdep 1 rfl rfl 76 rfl
             exact dp_v (v := (B (decide (0 ≤ x33.2.2.2)))) wn (rv_geq (a := x33.2.2.2) (b := 0) e76 rfl) rfl hJ) ?_
           refine ac rfl (by
             intro k _nm ρ σm hJ hoff hdep
             have e77 := hdep 2 rfl rfl 77 rfl
             exact dp_v (v := (B (decide (0 ≤ x33.2.2.2)))) wn (rv_move e77) rfl hJ) ?_
           refine ac rfl (by
             intro k _nm ρ σm hJ hoff hdep
             have e7 := look_off (N := 121) (hoff 7 rfl) rfl
             have e78 := hdep 3 rfl rfl 78 rfl
             exact dp_v (v := (pt b40 3)) (wanted_yes rfl (yv_of rfl (e78.trans (congrArg B hb81)))) (rv_fieldAddr (off := 3) (ft := 3) Try.underlying58 rfl ti3 rfl e7) rfl hJ) ?_
           refine all_cons (by
             refine ⟨?_, ?_⟩
             ·intro _nm ρ σm hJ hoff hdep
              have e79 := hdep 4 rfl rfl 79 rfl
              have e78 := hdep 3 rfl rfl 78 rfl
              obtain ⟨H, m⟩ := id hJ
              have hc82 := H.cell (u := (I x33.2.2.2)) (o' := 3) 2 3 rfl rfl rfl
              exact dp_v (v := (I x33.2.2.2)) (wanted_yes rfl (yv_of rfl (e78.trans (congrArg B hb81)))) (rv_load1 Try.underlying3 rfl e79 hc82) rfl hJ
             trivial) ?_
           refine ac rfl (by
             intro k _nm ρ σm hJ hoff hdep
             have e6 := look_off (N := 121) (hoff 6 rfl) rfl
             have e78 := hdep 3 rfl rfl 78 rfl
             exact dp_v (v := (I s28)) (wanted_yes rfl (yv_of rfl (e78.trans (congrArg B hb81)))) (rv_move e6) rfl hJ) ?_
           refine ac rfl (by
             intro k _nm ρ σm hJ hoff hdep
             have e80 := hdep 5 rfl rfl 80 rfl
             have e81 := hdep 6 rfl rfl 81 rfl
             have e78 := hdep 3 rfl rfl 78 rfl
             exact dp_v (v := (B (decide (x33.2.2.2 ≤ s28)))) (wanted_yes rfl (yv_of rfl (e78.trans (congrArg B hb81)))) (rv_leq (a := x33.2.2.2) (b := s28) e80 e81) rfl hJ) ?_
           refine ac rfl (by
             intro k _nm ρ σm hJ hoff hdep
             have e82 := hdep 7 rfl rfl 82 rfl
             have e78 := hdep 3 rfl rfl 78 rfl
             exact dp_v (v := (B (decide (x33.2.2.2 ≤ s28)))) (wanted_yes rfl (yv_of rfl (e78.trans (congrArg B hb81)))) (rv_move e82) rfl hJ) ?_
           refine ac rfl (by
             intro k _nm ρ σm hJ hoff hdep
             have e83 := hdep 8 rfl rfl 83 rfl
             exact dp_skip (wanted_no rfl (yv_of rfl (e83.trans (congrArg B hb83)))) rfl hJ) ?_
           refine ac rfl (by
             intro k _nm ρ σm hJ hoff hdep
             have e83 := hdep 8 rfl rfl 83 rfl
             exact dp_skip (wanted_no rfl (yv_of rfl (e83.trans (congrArg B hb83)))) rfl hJ) ?_
           refine ac rfl (by
             intro k _nm ρ σm hJ hoff hdep
             have e83 := hdep 8 rfl rfl 83 rfl
             exact dp_skip (wanted_no rfl (yv_of rfl (e83.trans (congrArg B hb83)))) rfl hJ) ?_
           refine ac rfl (by
             intro k _nm ρ σm hJ hoff hdep
             have e83 := hdep 8 rfl rfl 83 rfl
             exact dp_skip (wanted_no rfl (yv_of rfl (e83.trans (congrArg B hb83)))) rfl hJ) ?_
           refine ac rfl (by
             intro k _nm ρ σm hJ hoff hdep
             have e83 := hdep 8 rfl rfl 83 rfl
             exact dp_skip (wanted_no rfl (yv_of rfl (e83.trans (congrArg B hb83)))) rfl hJ) ?_
           refine ac rfl (by
             intro k _nm ρ σm hJ hoff hdep
             have e83 := hdep 8 rfl rfl 83 rfl
             have e78 := hdep 3 rfl rfl 78 rfl
             exact dp_v (v := (B true)) (wanted_yes rfl (yv_of rfl (e78.trans (congrArg B hb81)))) (rv_pick_t (e83.trans (congrArg B hb83)) rfl) rfl hJ) ?_
           refine ac rfl (by
             intro k _nm ρ σm hJ hoff hdep
             have e89 := hdep 14 rfl rfl 89 rfl
             have e78 := hdep 3 rfl rfl 78 rfl
             exact dp_v (v := (B true)) (wanted_yes rfl (yv_of rfl (e78.trans (congrArg B hb81)))) (rv_move e89) rfl hJ) ?_
           refine ac rfl (by
             intro k _nm ρ σm hJ hoff hdep
             have e90 := hdep 15 rfl rfl 90 rfl
             exact dp_skip (wanted_no rfl (yv_of rfl e90)) rfl hJ) ?_
           refine ac rfl (by
             intro k _nm ρ σm hJ hoff hdep
             have e90 := hdep 15 rfl rfl 90 rfl
             exact dp_skip (wanted_no rfl (yv_of rfl e90)) rfl hJ) ?_
           refine ac rfl (by
             intro k _nm ρ σm hJ hoff hdep
             have e90 := hdep 15 rfl rfl 90 rfl
             exact dp_skip (wanted_no rfl (yv_of rfl e90)) rfl hJ) ?_
           refine ac rfl (by
             intro k _nm ρ σm hJ hoff hdep
             have e90 := hdep 15 rfl rfl 90 rfl
             exact dp_skip (wanted_no rfl (yv_of rfl e90)) rfl hJ) ?_
           refine ac rfl (by
             intro k _nm ρ σm hJ hoff hdep
             have e90 := hdep 15 rfl rfl 90 rfl
             exact dp_skip (wanted_no rfl (yv_of rfl e90)) rfl hJ) ?_
           refine ac rfl (by
             intro k _nm ρ σm hJ hoff hdep
             have e90 := hdep 15 rfl rfl 90 rfl
             exact dp_skip (wanted_no rfl (yv_of rfl e90)) rfl hJ) ?_
           refine ac rfl (by
             intro k _nm ρ σm hJ hoff hdep
             have e90 := hdep 15 rfl rfl 90 rfl
             exact dp_skip (wanted_no rfl (yv_of rfl e90)) rfl hJ) ?_
           refine ac rfl (by
             intro k _nm ρ σm hJ hoff hdep
             have e90 := hdep 15 rfl rfl 90 rfl
             exact dp_skip (wanted_no rfl (yv_of rfl e90)) rfl hJ) ?_
           refine ac rfl (by
             intro k _nm ρ σm hJ hoff hdep
             have e90 := hdep 15 rfl rfl 90 rfl
             exact dp_skip (wanted_no rfl (yv_of rfl e90)) rfl hJ) ?_
           refine ac rfl (by
             intro k _nm ρ σm hJ hoff hdep
             have e90 := hdep 15 rfl rfl 90 rfl
             exact dp_skip (wanted_no rfl (yv_of rfl e90)) rfl hJ) ?_
           refine ac rfl (by
             intro k _nm ρ σm hJ hoff hdep
             have e90 := hdep 15 rfl rfl 90 rfl
             exact dp_skip (wanted_no rfl (yv_of rfl e90)) rfl hJ) ?_
           refine ac rfl (by
             intro k _nm ρ σm hJ hoff hdep
             have e90 := hdep 15 rfl rfl 90 rfl
             exact dp_skip (wanted_no rfl (yv_of rfl e90)) rfl hJ) ?_
           refine ac rfl (by
             intro k _nm ρ σm hJ hoff hdep
             have e90 := hdep 15 rfl rfl 90 rfl
             exact dp_skip (wanted_no rfl (yv_of rfl e90)) rfl hJ) ?_
           refine ac rfl (by
             intro k _nm ρ σm hJ hoff hdep
             have e90 := hdep 15 rfl rfl 90 rfl
             exact dp_skip (wanted_no rfl (yv_of rfl e90)) rfl hJ) ?_
           exact all_nil
          ·intro _nm ρ σ84 hJ hoff hrel
           have e3 := look_off (N := 121) (hoff 3 rfl) rfl
           have e4 := look_off (N := 121) (hoff 4 rfl) rfl
           have e5 := look_off (N := 121) (hoff 5 rfl) rfl
           have e6 := look_off (N := 121) (hoff 6 rfl) rfl
           have e7 := look_off (N := 121) (hoff 7 rfl) rfl
           have e78 := hrel 3 rfl 78 rfl
           have e90 := hrel 15 rfl 90 rfl
           have e102 := hrel 27 rfl 102 rfl
           have e104 := hrel 29 rfl 104 rfl
           obtain ⟨H, -⟩ := (show Hp S0 σ0 σ84 [Ch.ro n0 (Sl a5 r2.1 c6) r2.1, Ch.own 0 n0 (Sl a11 r8 c12) r8, Ch.bx n0 b40 0 [(I x33.1), (I x33.2.1), (I x33.2.2.1), (I x33.2.2.2)] [] [], Ch.ro 0 (Sl a47 r44.2.1 c48) r44.2.1] ∧ Md (cov []) σ77 σ84 from hJ)
           clear hJ Hs
           rw [fr_lookL (L := [(3, (Sl a5 r2.1 c6)), (4, (I r2.2)), (5, (Sl a11 r8 c12)), (6, (I s28)), (7, (pt b40 0)), (78, (B (decide (0 ≤ x33.2.2.2)))), (90, (B true)), (102, undef), (104, undef)]) ⟨e3, e4, e5, e6, e7, e78, e90, e102, e104, trivial⟩]
           clear hoff hrel e3 e4 e5 e6 e7 e78 e90 e102 e104
           refine st_skip rfl ?_
           refine st_g (v := (B true)) (congrArg some hb81) (rv_pick_t rfl rfl) ?_
           refine st (v := (B true)) (rv_pick_t (congrArg B hb81) rfl) ?_
           refine w_end ?_
           obtain rfl := Option.some.inj h
           exact ⟨rfl, _, σ84, fr_join ⟨rfl, rfl, rfl, rfl, rfl, rfl, trivial⟩, rfl, H.sel' [0, 1, 2] rfl rfl⟩
         ·replace h := bif_f hb83 h
          have hc85 := H.cell (u := (I x33.2.2.2)) (o' := 3) 2 3 rfl rfl rfl
          rcases Bool.eq_false_or_eq_true (decide ((r8.length : Int) ≤ x33.2.2.2)) with hb86 | hb86
          ·replace h := bif_t hb86 h
           have Hs := H
           refine rg2 (σ := σ77) (Nm := Unit) 30 [] [[]] [[(0, 0)], [(0, 0)], [(0, 0)], [(0, 0)], [(0, 0)], [(0, 0)], [(0, 0)], [(0, 0)], [(0, 0)], [(0, 0)], [(0, 0)], [(0, 0)], [(0, 0)], [(0, 0)], [(0, 0)], [(0, 0)], [(0, 0)], [(0, 0)], [(0, 0)], [(0, 0)], [(0, 0)], [(0, 0)], [(0, 0)], [(0, 0)], [(0, 0)], [(0, 0)], [(0, 0)], [(0, 0)], [(0, 0)], [(0, 0)]] 0 [fun _ => fun σm => Hp S0 σ0 σm [Ch.ro n0 (Sl a5 r2.1 c6) r2.1, Ch.own 0 n0 (Sl a11 r8 c12) r8, Ch.bx n0 b40 0 [(I x33.1), (I x33.2.1), (I x33.2.2.1), (I x33.2.2.2)] [] [], Ch.ro 0 (Sl a47 r44.2.1 c48) r44.2.1] ∧ Md (cov []) σ77 σm] [fun _ => (pt b40 3), fun _ => (I x33.2.2.2), fun _ => (B (decide (0 ≤ x33.2.2.2))), fun _ => (B (decide (0 ≤ x33.2.2.2))), fun _ => (pt b40 3), fun _ => (I x33.2.2.2), fun _ => (I s28), fun _ => (B (decide (x33.2.2.2 ≤ s28))), fun _ => (B (decide (x33.2.2.2 ≤ s28))), fun _ => (pt b40 3), fun _ => (I x33.2.2.2), fun _ => (Sl a11 r8 c12), fun _ => (I (r8.length : Int)), fun _ => (B (decide ((r8.length : Int) ≤ x33.2.2.2))), fun _ => (B (decide ((r8.length : Int) ≤ x33.2.2.2))), fun _ => (B (decide ((r8.length : Int) ≤ x33.2.2.2))), fun _ => undef, fun _ => undef, fun _ => undef, fun _ => undef, fun _ => undef, fun _ => undef, fun _ => undef, fun _ => undef, fun _ => undef, fun _ => undef, fun _ => undef, fun _ => undef, fun _ => undef, fun _ => undef] () (by kernel_rfl) (by kernel_rfl) ?_ ?_ ?_
           ·intro σm m0
            exact ⟨H.grow (m0.mono fun _ h => h.elim), m0⟩
           ·refine ac rfl (by
              intro k _nm ρ σm hJ hoff hdep
              have e7 := look_off (N := 121) (hoff 7 rfl) rfl
              exact dp_v (v := (pt b40 3)) wn (rv_fieldAddr (off := 3) (ft := 3) Try.underlying58 rfl ti3 rfl e7) rfl hJ) ?_
            refine all_cons (by
              refine ⟨?_, ?_⟩
              ·intro _nm ρ σm hJ hoff hdep
               have e75 := hdep 0 rfl rfl 75 rfl
               obtain ⟨H, m⟩ := id hJ
               have hc80 := H.cell (u := (I x33.2.2.2)) (o' := 3) 2 3 rfl rfl rfl
               exact dp_v (v := (I x33.2.2.2)) wn (rv_load1 Try.underlying3 rfl e75 hc80) rfl hJ
              trivial) ?_
            refine ac rfl (by
              intro k _nm ρ σm hJ hoff hdep
              have e76 := hdep 1 rfl rfl 76 rfl
              exact dp_v (v := (B (decide (0 ≤ x33.2.2.2)))) wn (rv_geq (a := x33.2.2.2) (b := 0) e76 rfl) rfl hJ) ?_
            refine ac rfl (by
              intro k _nm ρ σm hJ hoff hdep
              have e77 := hdep 2 rfl rfl 77 rfl
              exact dp_v (v := (B (decide (0 ≤ x33.2.2.2)))) wn (rv_move e77) rfl hJ) ?_
            refine ac rfl (by
              intro k _nm ρ σm hJ hoff hdep
              have e7 := look_off (N := 121) (hoff 7 rfl) rfl
              have e78 := hdep 3 rfl rfl 78 rfl
              exact dp_v (v := (pt b40 3)) (wanted_yes rfl (yv_of rfl (e78.trans (congrArg B hb81)))) (rv_fieldAddr (off := 3) (ft := 3) Try.underlying58 rfl ti3 rfl e7) rfl hJ) ?_
            refine all_cons (by
              refine ⟨?_, ?_⟩
              ·intro _nm ρ σm hJ hoff hdep
               have e79 := hdep 4 rfl rfl 79 rfl
               have e78 := hdep 3 rfl rfl 78 rfl
               obtain ⟨H, m⟩ := id hJ
               have hc82 := H.cell (u := (I x33.2.2.2)) (o' := 3) 2 3 rfl rfl rfl
               exact dp_v (v := (I x33.2.2.2)) (wanted_yes rfl (yv_of rfl (e78.trans (congrArg B hb81)))) (rv_load1 Try.underlying3 rfl e79 hc82) rfl hJ
              trivial) ?_
            refine ac rfl (by
              intro k _nm ρ σm hJ hoff hdep
              have e6 := look_off (N := 121) (hoff 6 rfl) rfl
              have e78 := hdep 3 rfl rfl 78 rfl
              exact dp_v (v := (I s28)) (wanted_yes rfl (yv_of rfl (e78.trans (congrArg B hb81)))) (rv_move e6) rfl hJ) ?_
            refine ac rfl (by
              intro k _nm ρ σm hJ hoff hdep
              have e80 := hdep 5 rfl rfl 80 rfl
              have e81 := hdep 6 rfl rfl 81 rfl
              have e78 := hdep 3 rfl rfl 78 rfl
              exact dp_v (v := (B (decide (x33.2.2.2 ≤ s28)))) (wanted_yes rfl (yv_of rfl (e78.trans (congrArg B hb81)))) (rv_leq (a := x33.2.2.2) (b := s28) e80 e81) rfl hJ) ?_
            refine ac rfl (by
              intro k _nm ρ σm hJ hoff hdep
              have e82 := hdep 7 rfl rfl 82 rfl
              have e78 := hdep 3 rfl rfl 78 rfl
              exact dp_v (v := (B (decide (x33.2.2.2 ≤ s28)))) (wanted_yes rfl (yv_of rfl (e78.trans (congrArg B hb81)))) (rv_move e82) rfl hJ) ?_
            refine ac rfl (by
              intro k _nm ρ σm hJ hoff hdep
              have e7 := look_off (N := 121) (hoff 7 rfl) rfl
              have e83 := hdep 8 rfl rfl 83 rfl
              exact dp_v (v := (pt b40 3)) (wanted_yes rfl (yv_of rfl (e83.trans (congrArg B hb83)))) (rv_fieldAddr (off := 3) (ft := 3) Try.underlying58 rfl ti3 rfl e7) rfl hJ) ?_
            refine all_cons (by
              refine ⟨?_, ?_⟩
              ·intro _nm ρ σm hJ hoff hdep
               have e84 := hdep 9 rfl rfl 84 rfl
               have e83 := hdep 8 rfl rfl 83 rfl
               obtain ⟨H, m⟩ := id hJ
               have hc85 := H.cell (u := (I x33.2.2.2)) (o' := 3) 2 3 rfl rfl rfl
               exact dp_v (v := (I x33.2.2.2)) (wanted_yes rfl (yv_of rfl (e83.trans (congrArg B hb83)))) (rv_load1 Try.underlying3 rfl e84 hc85) rfl hJ
              trivial) ?_
            refine ac rfl (by
              intro k _nm ρ σm hJ hoff hdep
              have e5 := look_off (N := 121) (hoff 5 rfl) rfl
              have e83 := hdep 8 rfl rfl 83 rfl
              exact dp_v (v := (Sl a11 r8 c12)) (wanted_yes rfl (yv_of rfl (e83.trans (congrArg B hb83)))) (rv_move e5) rfl hJ) ?_
            refine ac rfl (by
              intro k _nm ρ σm hJ hoff hdep
              have e86 := hdep 11 rfl rfl 86 rfl
              have e83 := hdep 8 rfl rfl 83 rfl
              exact dp_v (v := (I (r8.length : Int))) (wanted_yes rfl (yv_of rfl (e83.trans (congrArg B hb83)))) (rv_len Try.underlying54 e86) rfl hJ) ?_
            refine ac rfl (by
              intro k _nm ρ σm hJ hoff hdep
              have e85 := hdep 10 rfl rfl 85 rfl
              have e87 := hdep 12 rfl rfl 87 rfl
              have e83 := hdep 8 rfl rfl 83 rfl
              exact dp_v (v := (B (decide ((r8.length : Int) ≤ x33.2.2.2)))) (wanted_yes rfl (yv_of rfl (e83.trans (congrArg B hb83)))) (rv_geq (a := x33.2.2.2) (b := (r8.length : Int)) e85 e87) rfl hJ) ?_
            refine ac rfl (by
              intro k _nm ρ σm hJ hoff hdep
              have e83 := hdep 8 rfl rfl 83 rfl
              have e88 := hdep 13 rfl rfl 88 rfl
              have e78 := hdep 3 rfl rfl 78 rfl
              exact dp_v (v := (B (decide ((r8.length : Int) ≤ x33.2.2.2)))) (wanted_yes rfl (yv_of rfl (e78.trans (congrArg B hb81)))) (rv_pick_f (e83.trans (congrArg B hb83)) e88) rfl hJ) ?_
            refine ac rfl (by
              intro k _nm ρ σm hJ hoff hdep
              have e89 := hdep 14 rfl rfl 89 rfl
              have e78 := hdep 3 rfl rfl 78 rfl
              exact dp_v (v := (B (decide ((r8.length : Int) ≤ x33.2.2.2)))) (wanted_yes rfl (yv_of rfl (e78.trans (congrArg B hb81)))) (rv_move e89) rfl hJ) ?_
            refine ac rfl (by
              intro k _nm ρ σm hJ hoff hdep
              have e90 := hdep 15 rfl rfl 90 rfl
              exact dp_skip (wanted_no rfl (yv_of rfl (e90.trans (congrArg B hb86)))) rfl hJ) ?_
            refine ac rfl (by
              intro k _nm ρ σm hJ hoff hdep
              have e90 := hdep 15 rfl rfl 90 rfl
              exact dp_skip (wanted_no rfl (yv_of rfl (e90.trans (congrArg B hb86)))) rfl hJ) ?_
            refine ac rfl (by
              intro k _nm ρ σm hJ hoff hdep
              have e90 := hdep 15 rfl rfl 90 rfl
              exact dp_skip (wanted_no rfl (yv_of rfl (e90.trans (congrArg B hb86)))) rfl hJ) ?_
            refine ac rfl (by
              intro k _nm ρ σm hJ hoff hdep
              have e90 := hdep 15 rfl rfl 90 rfl
              exact dp_skip (wanted_no rfl (yv_of rfl (e90.trans (congrArg B hb86)))) rfl hJ) ?_
            refine ac rfl (by
              intro k _nm ρ σm hJ hoff hdep
              have e90 := hdep 15 rfl rfl 90 rfl
              exact dp_skip (wanted_no rfl (yv_of rfl (e90.trans (congrArg B hb86)))) rfl hJ) ?_
            refine ac rfl (by
              intro k _nm ρ σm hJ hoff hdep
              have e90 := hdep 15 rfl rfl 90 rfl
              exact dp_skip (wanted_no rfl (yv_of rfl (e90.trans (congrArg B hb86)))) rfl hJ) ?_
            refine ac rfl (by
              intro k _nm ρ σm hJ hoff hdep
              have e90 := hdep 15 rfl rfl 90 rfl
              exact dp_skip (wanted_no rfl (yv_of rfl (e90.trans (congrArg B hb86)))) rfl hJ) ?_
            refine ac rfl (by
              intro k _nm ρ σm hJ hoff hdep
              have e90 := hdep 15 rfl rfl 90 rfl
              exact dp_skip (wanted_no rfl (yv_of rfl (e90.trans (congrArg B hb86)))) rfl hJ) ?_
            refine ac rfl (by
              intro k _nm ρ σm hJ hoff hdep
              have e90 := hdep 15 rfl rfl 90 rfl
              exact dp_skip (wanted_no rfl (yv_of rfl (e90.trans (congrArg B hb86)))) rfl hJ) ?_
            refine ac rfl (by
              intro k _nm ρ σm hJ hoff hdep
              have e90 := hdep 15 rfl rfl 90 rfl
              exact dp_skip (wanted_no rfl (yv_of rfl (e90.trans (congrArg B hb86)))) rfl hJ) ?_
            refine ac rfl (by
              intro k _nm ρ σm hJ hoff hdep
              have e90 := hdep 15 rfl rfl 90 rfl
              exact dp_skip (wanted_no rfl (yv_of rfl (e90.trans (congrArg B hb86)))) rfl hJ) ?_
            refine ac rfl (by
              intro k _nm ρ σm hJ hoff hdep
              have e90 := hdep 15 rfl rfl 90 rfl
              exact dp_skip (wanted_no rfl (yv_of rfl (e90.trans (congrArg B hb86)))) rfl hJ) ?_
            refine ac rfl (by
              intro k _nm ρ σm hJ hoff hdep
              have e90 := hdep 15 rfl rfl 90 rfl
              exact dp_skip (wanted_no rfl (yv_of rfl (e90.trans (congrArg B hb86)))) rfl hJ) ?_
            refine ac rfl (by
              intro k _nm ρ σm hJ hoff hdep
              have e90 := hdep 15 rfl rfl 90 rfl
              exact dp_skip (wanted_no rfl (yv_of rfl (e90.trans (congrArg B hb86)))) rfl hJ) ?_
            exact all_nil
           ·intro _nm ρ σ87 hJ hoff hrel
            have e3 := look_off (N := 121) (hoff 3 rfl) rfl
            have e4 := look_off (N := 121) (hoff 4 rfl) rfl
            have e5 := look_off (N := 121) (hoff 5 rfl) rfl
            have e6 := look_off (N := 121) (hoff 6 rfl) rfl
            have e7 := look_off (N := 121) (hoff 7 rfl) rfl
            have e78 := hrel 3 rfl 78 rfl
            have e90 := hrel 15 rfl 90 rfl
            have e102 := hrel 27 rfl 102 rfl
            have e104 := hrel 29 rfl 104 rfl
            obtain ⟨H, -⟩ := (show Hp S0 σ0 σ87 [Ch.ro n0 (Sl a5 r2.1 c6) r2.1, Ch.own 0 n0 (Sl a11 r8 c12) r8, Ch.bx n0 b40 0 [(I x33.1), (I x33.2.1), (I x33.2.2.1), (I x33.2.2.2)] [] [], Ch.ro 0 (Sl a47 r44.2.1 c48) r44.2.1] ∧ Md (cov []) σ77 σ87 from hJ)
            clear hJ Hs
            rw [fr_lookL (L := [(3, (Sl a5 r2.1 c6)), (4, (I r2.2)), (5, (Sl a11 r8 c12)), (6, (I s28)), (7, (pt b40 0)), (78, (B (decide (0 ≤ x33.2.2.2)))), (90, (B (decide ((r8.length : Int) ≤ x33.2.2.2)))), (102, undef), (104, undef)]) ⟨e3, e4, e5, e6, e7, e78, e90, e102, e104, trivial⟩]
            clear hoff hrel e3 e4 e5 e6 e7 e78 e90 e102 e104
            refine st_skip (congrArg some hb86) ?_
            refine st_g (v := (B true)) (congrArg some hb81) (rv_pick_t (congrArg B hb86) rfl) ?_
            refine st (v := (B true)) (rv_pick_t (congrArg B hb81) rfl) ?_
            refine w_end ?_
            obtain rfl := Option.some.inj h
            exact ⟨rfl, _, σ87, fr_join ⟨rfl, rfl, rfl, rfl, rfl, rfl, trivial⟩, rfl, H.sel' [0, 1, 2] rfl rfl⟩
          ·replace h := bif_f hb86 h
           have hc88 := H.cell (u := (I x33.2.2.2)) (o' := 3) 2 3 rfl rfl rfl
           obtain ⟨x89, hx90, h'⟩ := bind_some h
           clear h
           have h := h'; clear h'
           obtain ⟨b92, o93, hi91, -⟩ := (H.own 1 rfl).ix hx90
           have hc94 := ((H.own 1 rfl).at hx90 hi91).fst.int
           replace H := H.roLow 0 0 rfl (Nat.zero_le _)
           obtain ⟨r95, hx96, h'⟩ := bind_some h
           clear h
           have h := h'; clear h'
           have hc97 := c_laws_itemOf (alist_0 := a5) (clist_0 := c6) hx96
           obtain ⟨r100, hx101, h'⟩ := bind_some h
           clear h
           have h := h'; clear h'
           have hc102 := fun (a98 : Option Addr) (c99 : Nat) => c_impl_Distance (aa_1 := a98) (ca_1 := c99) (ab_2 := a47) (cb_2 := c48) hx101
           have hc103 := H.cell (u := (I x33.2.1)) (o' := 1) 3 1 rfl rfl rfl
           have Hs := H
           refine rg2 (σ := σ77) (Nm := (Option Addr) × (Nat)) 30 [24, 27] [[false, false], [true, false], [true, true]] [[(0, 0)], [(0, 0)], [(0, 0)], [(0, 0)], [(0, 0)], [(0, 0)], [(0, 0)], [(0, 0)], [(0, 0)], [(0, 0)], [(0, 0)], [(0, 0)], [(0, 0)], [(0, 0)], [(0, 0)], [(0, 0)], [(0, 0), (1, 1)], [(0, 0)], [(0, 0)], [(0, 0)], [(0, 0)], [(0, 0)], [(0, 0)], [(0, 0)], [(0, 1)], [(1, 1)], [(0, 0), (1, 1)], [(1, 2)], [(0, 0), (1, 1), (2, 2)], [(0, 0), (1, 1), (2, 2)]] 2 [fun ((a98, c99) : (Option Addr) × (Nat)) => fun σm => Hp S0 σ0 σm [Ch.ro 0 (Sl a5 r2.1 c6) r2.1, Ch.ro n0 (Sl a5 r2.1 c6) r2.1, Ch.own 0 n0 (Sl a11 r8 c12) r8, Ch.bx n0 b40 0 [(I x33.1), (I x33.2.1), (I x33.2.2.1), (I x33.2.2.2)] [] [], Ch.ro 0 (Sl a47 r44.2.1 c48) r44.2.1] ∧ Md (cov []) σ77 σm, fun ((a98, c99) : (Option Addr) × (Nat)) => fun σm => Hp S0 σ0 σm [Ch.ro 0 (Sl a98 r95.2.1 c99) r95.2.1, Ch.ro 0 (Sl a5 r2.1 c6) r2.1, Ch.ro n0 (Sl a5 r2.1 c6) r2.1, Ch.own 0 n0 (Sl a11 r8 c12) r8, Ch.bx n0 b40 0 [(I x33.1), (I x33.2.1), (I x33.2.2.1), (I x33.2.2.2)] [] [], Ch.ro 0 (Sl a47 r44.2.1 c48) r44.2.1] ∧ Md (cov []) σ77 σm, fun ((a98, c99) : (Option Addr) × (Nat)) => fun σm => Hp S0 σ0 σm [Ch.ro 0 (Sl a98 r95.2.1 c99) r95.2.1, Ch.ro 0 (Sl a5 r2.1 c6) r2.1, Ch.ro n0 (Sl a5 r2.1 c6) r2.1, Ch.own 0 n0 (Sl a11 r8 c12) r8, Ch.bx n0 b40 0 [(I x33.1), (I x33.2.1), (I x33.2.2.1), (I x33.2.2.2)] [] [], Ch.ro 0 (Sl a47 r44.2.1 c48) r44.2.1] ∧ Md (cov []) σ77 σm] [fun ((a98, c99) : (Option Addr) × (Nat)) => (pt b40 3), fun ((a98, c99) : (Option Addr) × (Nat)) => (I x33.2.2.2), fun ((a98, c99) : (Option Addr) × (Nat)) => (B (decide (0 ≤ x33.2.2.2))), fun ((a98, c99) : (Option Addr) × (Nat)) => (B (decide (0 ≤ x33.2.2.2))), fun ((a98, c99) : (Option Addr) × (Nat)) => (pt b40 3), fun ((a98, c99) : (Option Addr) × (Nat)) => (I x33.2.2.2), fun ((a98, c99) : (Option Addr) × (Nat)) => (I s28), fun ((a98, c99) : (Option Addr) × (Nat)) => (B (decide (x33.2.2.2 ≤ s28))), fun ((a98, c99) : (Option Addr) × (Nat)) => (B (decide (x33.2.2.2 ≤ s28))), fun ((a98, c99) : (Option Addr) × (Nat)) => (pt b40 3), fun ((a98, c99) : (Option Addr) × (Nat)) => (I x33.2.2.2), fun ((a98, c99) : (Option Addr) × (Nat)) => (Sl a11 r8 c12), fun ((a98, c99) : (Option Addr) × (Nat)) => (I (r8.length : Int)), fun ((a98, c99) : (Option Addr) × (Nat)) => (B (decide ((r8.length : Int) ≤ x33.2.2.2))), fun ((a98, c99) : (Option Addr) × (Nat)) => (B (decide ((r8.length : Int) ≤ x33.2.2.2))), fun ((a98, c99) : (Option Addr) × (Nat)) => (B (decide ((r8.length : Int) ≤ x33.2.2.2))), fun ((a98, c99) : (Option Addr) × (Nat)) => (I r2.2), fun ((a98, c99) : (Option Addr) × (Nat)) => (Sl a5 r2.1 c6), fun ((a98, c99) : (Option Addr) × (Nat)) => (Sl a11 r8 c12), fun ((a98, c99) : (Option Addr) × (Nat)) => (pt b40 3), fun ((a98, c99) : (Option Addr) × (Nat)) => (I x33.2.2.2), fun ((a98, c99) : (Option Addr) × (Nat)) => (pt b92 o93), fun ((a98, c99) : (Option Addr) × (Nat)) => (pt b92 (o93 + 0)), fun ((a98, c99) : (Option Addr) × (Nat)) => (I x89.1), fun ((a98, c99) : (Option Addr) × (Nat)) => (.agg #[(I r95.1), (Sl a98 r95.2.1 c99), (I r95.2.2)]), fun ((a98, c99) : (Option Addr) × (Nat)) => (Sl a98 r95.2.1 c99), fun ((a98, c99) : (Option Addr) × (Nat)) => (Sl a47 r44.2.1 c48), fun ((a98, c99) : (Option Addr) × (Nat)) => (I r100), fun ((a98, c99) : (Option Addr) × (Nat)) => (pt b40 1), fun ((a98, c99) : (Option Addr) × (Nat)) => (I x33.2.1)] (none, 0) (by kernel_rfl) (by kernel_rfl) ?_ ?_ ?_
           ·intro σm m0
            exact ⟨H.grow (m0.mono fun _ h => h.elim), m0⟩
           ·refine ac rfl (by
              intro k; rintro ⟨a98, c99⟩ ρ σm hJ hoff hdep
              have e7 := look_off (N := 121) (hoff 7 rfl) rfl
              exact dp_v (v := (pt b40 3)) wn (rv_fieldAddr (off := 3) (ft := 3) Try.underlying58 rfl ti3 rfl e7) rfl hJ) ?_
            refine all_cons (by
              refine ⟨?_, ?_⟩
              ·rintro ⟨a98, c99⟩ ρ σm hJ hoff hdep
               have e75 := hdep 0 rfl rfl 75 rfl
               obtain ⟨H, m⟩ := id hJ
               have hc80 := H.cell (u := (I x33.2.2.2)) (o' := 3) 3 3 rfl rfl rfl
               exact dp_v (v := (I x33.2.2.2)) wn (rv_load1 Try.underlying3 rfl e75 hc80) rfl hJ
              trivial) ?_
            refine ac rfl (by
              intro k; rintro ⟨a98, c99⟩ ρ σm hJ hoff hdep
              have e76 := hdep 1 rfl rfl 76 rfl
              exact dp_v (v := (B (decide (0 ≤ x33.2.2.2)))) wn (rv_geq (a := x33.2.2.2) (b := 0) e76 rfl) rfl hJ) ?_
            refine ac rfl (by
              intro k; rintro ⟨a98, c99⟩ ρ σm hJ hoff hdep
              have e77 := hdep 2 rfl rfl 77 rfl
              exact dp_v (v := (B (decide (0 ≤ x33.2.2.2)))) wn (rv_move e77) rfl hJ) ?_
            refine ac rfl (by
              intro k; rintro ⟨a98, c99⟩ ρ σm hJ hoff hdep
              have e7 := look_off (N := 121) (hoff 7 rfl) rfl
              have e78 := hdep 3 rfl rfl 78 rfl
              exact dp_v (v := (pt b40 3)) (wanted_yes rfl (yv_of rfl (e78.trans (congrArg B hb81)))) (rv_fieldAddr (off := 3) (ft := 3) Try.underlying58 rfl ti3 rfl e7) rfl hJ) ?_
            refine all_cons (by
              refine ⟨?_, ?_⟩
              ·rintro ⟨a98, c99⟩ ρ σm hJ hoff hdep
               have e79 := hdep 4 rfl rfl 79 rfl
               have e78 := hdep 3 rfl rfl 78 rfl
               obtain ⟨H, m⟩ := id hJ
               have hc82 := H.cell (u := (I x33.2.2.2)) (o' := 3) 3 3 rfl rfl rfl
               exact dp_v (v := (I x33.2.2.2)) (wanted_yes rfl (yv_of rfl (e78.trans (congrArg B hb81)))) (rv_load1 Try.underlying3 rfl e79 hc82) rfl hJ
              trivial) ?_
            refine ac rfl (by
              intro k; rintro ⟨a98, c99⟩ ρ σm hJ hoff hdep
              have e6 := look_off (N := 121) (hoff 6 rfl) rfl
              have e78 := hdep 3 rfl rfl 78 rfl
              exact dp_v (v := (I s28)) (wanted_yes rfl (yv_of rfl (e78.trans (congrArg B hb81)))) (rv_move e6) rfl hJ) ?_
            refine ac rfl (by
              intro k; rintro ⟨a98, c99⟩ ρ σm hJ hoff hdep
              have e80 := hdep 5 rfl rfl 80 rfl
              have e81 := hdep 6 rfl rfl 81 rfl
              have e78 := hdep 3 rfl rfl 78 rfl
              exact dp_v (v := (B (decide (x33.2.2.2 ≤ s28)))) (wanted_yes rfl (yv_of rfl (e78.trans (congrArg B hb81)))) (rv_leq (a := x33.2.2.2) (b := s28) e80 e81) rfl hJ) ?_
            refine ac rfl (by
              intro k; rintro ⟨a98, c99⟩ ρ σm hJ hoff hdep
              have e82 := hdep 7 rfl rfl 82 rfl
              have e78 := hdep 3 rfl rfl 78 rfl
              exact dp_v (v := (B (decide (x33.2.2.2 ≤ s28)))) (wanted_yes rfl (yv_of rfl (e78.trans (congrArg B hb81)))) (rv_move e82) rfl hJ) ?_
            refine ac rfl (by
              intro k; rintro ⟨a98, c99⟩ ρ σm hJ hoff hdep
              have e7 := look_off (N := 121) (hoff 7 rfl) rfl
              have e83 := hdep 8 rfl rfl 83 rfl
              exact dp_v (v := (pt b40 3)) (wanted_yes rfl (yv_of rfl (e83.trans (congrArg B hb83)))) (rv_fieldAddr (off := 3) (ft := 3) Try.underlying58 rfl ti3 rfl e7) rfl hJ) ?_
            refine all_cons (by
              refine ⟨?_, ?_⟩
              ·rintro ⟨a98, c99⟩ ρ σm hJ hoff hdep
               have e84 := hdep 9 rfl rfl 84 rfl
               have e83 := hdep 8 rfl rfl 83 rfl
               obtain ⟨H, m⟩ := id hJ
               have hc85 := H.cell (u := (I x33.2.2.2)) (o' := 3) 3 3 rfl rfl rfl
               exact dp_v (v := (I x33.2.2.2)) (wanted_yes rfl (yv_of rfl (e83.trans (congrArg B hb83)))) (rv_load1 Try.underlying3 rfl e84 hc85) rfl hJ
              trivial) ?_
            refine ac rfl (by
              intro k; rintro ⟨a98, c99⟩ ρ σm hJ hoff hdep
              have e5 := look_off (N := 121) (hoff 5 rfl) rfl
              have e83 := hdep 8 rfl rfl 83 rfl
              exact dp_v (v := (Sl a11 r8 c12)) (wanted_yes rfl (yv_of rfl (e83.trans (congrArg B hb83)))) (rv_move e5) rfl hJ) ?_
            refine ac rfl (by
              intro k; rintro ⟨a98, c99⟩ ρ σm hJ hoff hdep
              have e86 := hdep 11 rfl rfl 86 rfl
              have e83 := hdep 8 rfl rfl 83 rfl
              exact dp_v (v := (I (r8.length : Int))) (wanted_yes rfl (yv_of rfl (e83.trans (congrArg B hb83)))) (rv_len Try.underlying54 e86) rfl hJ) ?_
            refine ac rfl (by
              intro k; rintro ⟨a98, c99⟩ ρ σm hJ hoff hdep
              have e85 := hdep 10 rfl rfl 85 rfl
              have e87 := hdep 12 rfl rfl 87 rfl
              have e83 := hdep 8 rfl rfl 83 rfl
              exact dp_v (v := (B (decide ((r8.length : Int) ≤ x33.2.2.2)))) (wanted_yes rfl (yv_of rfl (e83.trans (congrArg B hb83)))) (rv_geq (a := x33.2.2.2) (b := (r8.length : Int)) e85 e87) rfl hJ) ?_
            refine ac rfl (by
              intro k; rintro ⟨a98, c99⟩ ρ σm hJ hoff hdep
              have e83 := hdep 8 rfl rfl 83 rfl
              have e88 := hdep 13 rfl rfl 88 rfl
              have e78 := hdep 3 rfl rfl 78 rfl
              exact dp_v (v := (B (decide ((r8.length : Int) ≤ x33.2.2.2)))) (wanted_yes rfl (yv_of rfl (e78.trans (congrArg B hb81)))) (rv_pick_f (e83.trans (congrArg B hb83)) e88) rfl hJ) ?_
            refine ac rfl (by
              intro k; rintro ⟨a98, c99⟩ ρ σm hJ hoff hdep
              have e89 := hdep 14 rfl rfl 89 rfl
              have e78 := hdep 3 rfl rfl 78 rfl
              exact dp_v (v := (B (decide ((r8.length : Int) ≤ x33.2.2.2)))) (wanted_yes rfl (yv_of rfl (e78.trans (congrArg B hb81)))) (rv_move e89) rfl hJ) ?_
            refine ac rfl (by
              intro k; rintro ⟨a98, c99⟩ ρ σm hJ hoff hdep
              have e4 := look_off (N := 121) (hoff 4 rfl) rfl
              have e90 := hdep 15 rfl rfl 90 rfl
              exact dp_v (v := (I r2.2)) (wanted_yes rfl (yv_of rfl (e90.trans (congrArg B hb86)))) (rv_move e4) rfl hJ) ?_
            refine ac rfl (by
              intro k; rintro ⟨a98, c99⟩ ρ σm hJ hoff hdep
              have e3 := look_off (N := 121) (hoff 3 rfl) rfl
              have e90 := hdep 15 rfl rfl 90 rfl
              exact dp_v (v := (Sl a5 r2.1 c6)) (wanted_yes rfl (yv_of rfl (e90.trans (congrArg B hb86)))) (rv_move e3) rfl hJ) ?_
            refine ac rfl (by
              intro k; rintro ⟨a98, c99⟩ ρ σm hJ hoff hdep
              have e5 := look_off (N := 121) (hoff 5 rfl) rfl
              have e90 := hdep 15 rfl rfl 90 rfl
              exact dp_v (v := (Sl a11 r8 c12)) (wanted_yes rfl (yv_of rfl (e90.trans (congrArg B hb86)))) (rv_move e5) rfl hJ) ?_
            refine ac rfl (by
              intro k; rintro ⟨a98, c99⟩ ρ σm hJ hoff hdep
              have e7 := look_off (N := 121) (hoff 7 rfl) rfl
              have e90 := hdep 15 rfl rfl 90 rfl
              exact dp_v (v := (pt b40 3)) (wanted_yes rfl (yv_of rfl (e90.trans (congrArg B hb86)))) (rv_fieldAddr (off := 3) (ft := 3) Try.underlying58 rfl ti3 rfl e7) rfl hJ) ?_
            refine all_cons (by
              refine ⟨?_, ?_⟩
              ·rintro ⟨a98, c99⟩ ρ σm hJ hoff hdep
               have e94 := hdep 19 rfl rfl 94 rfl
               have e90 := hdep 15 rfl rfl 90 rfl
               obtain ⟨H, m⟩ := id hJ
               have hc88 := H.cell (u := (I x33.2.2.2)) (o' := 3) 3 3 rfl rfl rfl
               exact dp_v (v := (I x33.2.2.2)) (wanted_yes rfl (yv_of rfl (e90.trans (congrArg B hb86)))) (rv_load1 Try.underlying3 rfl e94 hc88) rfl hJ
              trivial) ?_
            refine ac rfl (by
              intro k; rintro ⟨a98, c99⟩ ρ σm hJ hoff hdep
              have e93 := hdep 18 rfl rfl 93 rfl
              have e95 := hdep 20 rfl rfl 95 rfl
              have e90 := hdep 15 rfl rfl 90 rfl
              exact dp_v (v := (pt b92 o93)) (wanted_yes rfl (yv_of rfl (e90.trans (congrArg B hb86)))) (rv_ix Try.underlying54 ti58 e93 e95 hi91) rfl hJ) ?_
            refine ac rfl (by
              intro k; rintro ⟨a98, c99⟩ ρ σm hJ hoff hdep
              have e96 := hdep 21 rfl rfl 96 rfl
              have e90 := hdep 15 rfl rfl 90 rfl
              exact dp_v (v := (pt b92 (o93 + 0))) (wanted_yes rfl (yv_of rfl (e90.trans (congrArg B hb86)))) (rv_fieldAddr (off := 0) (ft := 3) Try.underlying58 rfl ti3 rfl e96) rfl hJ) ?_
            refine all_cons (by
              refine ⟨?_, ?_⟩
              ·rintro ⟨a98, c99⟩ ρ σm hJ hoff hdep
               have e97 := hdep 22 rfl rfl 97 rfl
               have e90 := hdep 15 rfl rfl 90 rfl
               obtain ⟨H, m⟩ := id hJ
               have hc94 := ((H.own 2 rfl).at hx90 hi91).fst.int
               exact dp_v (v := (I x89.1)) (wanted_yes rfl (yv_of rfl (e90.trans (congrArg B hb86)))) (rv_load1 Try.underlying3 rfl e97 hc94) rfl hJ
              trivial) ?_
            refine all_cons (by
              refine ⟨?_, ?_⟩
              ·rintro ⟨a98, c99⟩ ρ σm hJ hoff hdep
               have e92 : look 121 ρ 92 = (Sl a5 r2.1 c6) := hdep 17 rfl rfl 92 rfl
               have e98 : look 121 ρ 98 = (I x89.1) := hdep 23 rfl rfl 98 rfl
               have e90 := hdep 15 rfl rfl 90 rfl
               obtain ⟨H, m⟩ := id hJ
               refine dp_cx (wanted_yes rfl (yv_of rfl (e90.trans (congrArg B hb86)))) (cx_call hc97 (ent_f hc97.fn (by show [look 121 ρ 92, look 121 ρ 98] = _; rw [e92, e98])) hn0 (show Hp S0 σ0 _ ([Ch.ro 0 (Sl a5 r2.1 c6) r2.1] ++ [Ch.ro 0 (Sl a5 r2.1 c6) r2.1, Ch.ro n0 (Sl a5 r2.1 c6) r2.1, Ch.own 0 n0 (Sl a11 r8 c12) r8, Ch.bx n0 b40 0 [(I x33.1), (I x33.2.1), (I x33.2.2.1), (I x33.2.2.2)] [] [], Ch.ro 0 (Sl a47 r44.2.1 c48) r44.2.1]) from (H.sel' [0, 0, 1, 2, 3, 4] rfl rfl))) ?_
               rintro _ σq ⟨_, ⟨a98x, c99x, rfl, rfl⟩, H2, m2⟩
               exact ⟨_, (a98x, c99x), rfl, rfl, ⟨H2.sel' [0, 1, 2, 3, 4, 5] rfl rfl, m.comp0 (m2.mono (fun i h => by simp [cov, Ch.ro] at h))⟩, stab [0, 1, 2, 3, 4, 5, 6, 7, 8, 9, 10, 11, 12, 13, 14, 15, 16, 17, 18, 19, 20, 21, 22, 23, 26, 28, 29] (by kernel_rfl) ⟨rfl, rfl, rfl, rfl, rfl, rfl, rfl, rfl, rfl, rfl, rfl, rfl, rfl, rfl, rfl, rfl, rfl, rfl, rfl, rfl, rfl, rfl, rfl, rfl, rfl, rfl, rfl, trivial⟩⟩
              trivial) ?_
            refine ac rfl (by
              intro k; rintro ⟨a98, c99⟩ ρ σm hJ hoff hdep
              have e99 := hdep 24 rfl rfl 99 rfl
              have e90 := hdep 15 rfl rfl 90 rfl
              exact dp_v (v := (Sl a98 r95.2.1 c99)) (wanted_yes rfl (yv_of rfl (e90.trans (congrArg B hb86)))) (rv_field (off := 1) (ft := 25) Try.underlying38 rfl Try.underlying25 rfl e99 rfl) rfl hJ) ?_
            refine ac rfl (by
              intro k; rintro ⟨a98, c99⟩ ρ σm hJ hoff hdep
              have e8 := look_off (N := 121) (hoff 8 rfl) rfl
              have e90 := hdep 15 rfl rfl 90 rfl
              exact dp_v (v := (Sl a47 r44.2.1 c48)) (wanted_yes rfl (yv_of rfl (e90.trans (congrArg B hb86)))) (rv_move e8) rfl hJ) ?_
            refine all_cons (by
              refine ⟨?_, ?_⟩
              ·rintro ⟨a98, c99⟩ ρ σm hJ hoff hdep
               have e91 : look 121 ρ 91 = (I r2.2) := hdep 16 rfl rfl 91 rfl
               have e100 : look 121 ρ 100 = (Sl a98 r95.2.1 c99) := hdep 25 rfl rfl 100 rfl
               have e101 : look 121 ρ 101 = (Sl a47 r44.2.1 c48) := hdep 26 rfl rfl 101 rfl
               have e90 := hdep 15 rfl rfl 90 rfl
               obtain ⟨H, m⟩ := id hJ
               refine dp_cx (wanted_yes rfl (yv_of rfl (e90.trans (congrArg B hb86)))) (cx_call (hc102 a98 c99) (ent_f (hc102 a98 c99).fn (by show [look 121 ρ 91, look 121 ρ 100, look 121 ρ 101] = _; rw [e91, e100, e101])) hn0 (show Hp S0 σ0 _ ([Ch.ro 0 (Sl a98 r95.2.1 c99) r95.2.1, Ch.ro 0 (Sl a47 r44.2.1 c48) r44.2.1] ++ [Ch.ro 0 (Sl a98 r95.2.1 c99) r95.2.1, Ch.ro 0 (Sl a5 r2.1 c6) r2.1, Ch.ro n0 (Sl a5 r2.1 c6) r2.1, Ch.own 0 n0 (Sl a11 r8 c12) r8, Ch.bx n0 b40 0 [(I x33.1), (I x33.2.1), (I x33.2.2.1), (I x33.2.2.2)] [] [], Ch.ro 0 (Sl a47 r44.2.1 c48) r44.2.1]) from (H.sel' [0, 5, 0, 1, 2, 3, 4, 5] rfl rfl))) ?_
               rintro _ σq ⟨_, ⟨rfl, rfl⟩, H2, m2⟩
               exact ⟨_, (a98, c99), rfl, rfl, ⟨H2.sel' [0, 1, 2, 3, 4, 5] rfl rfl, m.comp0 (m2.mono (fun i h => by simp [cov, Ch.ro] at h))⟩, stab [0, 1, 2, 3, 4, 5, 6, 7, 8, 9, 10, 11, 12, 13, 14, 15, 16, 17, 18, 19, 20, 21, 22, 23, 24, 25, 26, 28, 29] (by kernel_rfl) ⟨rfl, rfl, rfl, rfl, rfl, rfl, rfl, rfl, rfl, rfl, rfl, rfl, rfl, rfl, rfl, rfl, rfl, rfl, rfl, rfl, rfl, rfl, rfl, rfl, rfl, rfl, rfl, rfl, rfl, trivial⟩⟩
              trivial) ?_
            refine ac rfl (by
              intro k; rintro ⟨a98, c99⟩ ρ σm hJ hoff hdep
              have e7 := look_off (N := 121) (hoff 7 rfl) rfl
              have e90 := hdep 15 rfl rfl 90 rfl
              exact dp_v (v := (pt b40 1)) (wanted_yes rfl (yv_of rfl (e90.trans (congrArg B hb86)))) (rv_fieldAddr (off := 1) (ft := 3) Try.underlying58 rfl ti3 rfl e7) rfl hJ) ?_
            refine all_cons (by
              refine ⟨?_, ?_⟩
              ·rintro ⟨a98, c99⟩ ρ σm hJ hoff hdep
               have e103 := hdep 28 rfl rfl 103 rfl
               have e90 := hdep 15 rfl rfl 90 rfl
               obtain ⟨H, m⟩ := id hJ
               have hc103 := H.cell (u := (I x33.2.1)) (o' := 1) 3 1 rfl rfl rfl
               exact dp_v (v := (I x33.2.1)) (wanted_yes rfl (yv_of rfl (e90.trans (congrArg B hb86)))) (rv_load1 Try.underlying3 rfl e103 hc103) rfl hJ
              refine ⟨?_, ?_⟩
              ·rintro ⟨a98, c99⟩ ρ σm hJ hoff hdep
               have e103 := hdep 28 rfl rfl 103 rfl
               have e90 := hdep 15 rfl rfl 90 rfl
               obtain ⟨H, m⟩ := id hJ
               have hc103 := H.cell (u := (I x33.2.1)) (o' := 1) 4 1 rfl rfl rfl
               exact dp_v (v := (I x33.2.1)) (wanted_yes rfl (yv_of rfl (e90.trans (congrArg B hb86)))) (rv_load1 Try.underlying3 rfl e103 hc103) rfl hJ
              refine ⟨?_, ?_⟩
              ·rintro ⟨a98, c99⟩ ρ σm hJ hoff hdep
               have e103 := hdep 28 rfl rfl 103 rfl
               have e90 := hdep 15 rfl rfl 90 rfl
               obtain ⟨H, m⟩ := id hJ
               have hc103 := H.cell (u := (I x33.2.1)) (o' := 1) 4 1 rfl rfl rfl
               exact dp_v (v := (I x33.2.1)) (wanted_yes rfl (yv_of rfl (e90.trans (congrArg B hb86)))) (rv_load1 Try.underlying3 rfl e103 hc103) rfl hJ
              trivial) ?_
            exact all_nil
           ·rintro ⟨a98, c99⟩ ρ σ104 hJ hoff hrel
            have e3 := look_off (N := 121) (hoff 3 rfl) rfl
            have e4 := look_off (N := 121) (hoff 4 rfl) rfl
            have e5 := look_off (N := 121) (hoff 5 rfl) rfl
            have e6 := look_off (N := 121) (hoff 6 rfl) rfl
            have e7 := look_off (N := 121) (hoff 7 rfl) rfl
            have e78 := hrel 3 rfl 78 rfl
            have e90 := hrel 15 rfl 90 rfl
            have e102 := hrel 27 rfl 102 rfl
            have e104 := hrel 29 rfl 104 rfl
            obtain ⟨H, -⟩ := (show Hp S0 σ0 σ104 [Ch.ro 0 (Sl a98 r95.2.1 c99) r95.2.1, Ch.ro 0 (Sl a5 r2.1 c6) r2.1, Ch.ro n0 (Sl a5 r2.1 c6) r2.1, Ch.own 0 n0 (Sl a11 r8 c12) r8, Ch.bx n0 b40 0 [(I x33.1), (I x33.2.1), (I x33.2.2.1), (I x33.2.2.2)] [] [], Ch.ro 0 (Sl a47 r44.2.1 c48) r44.2.1] ∧ Md (cov []) σ77 σ104 from hJ)
            clear hJ Hs
            rw [fr_lookL (L := [(3, (Sl a5 r2.1 c6)), (4, (I r2.2)), (5, (Sl a11 r8 c12)), (6, (I s28)), (7, (pt b40 0)), (78, (B (decide (0 ≤ x33.2.2.2)))), (90, (B (decide ((r8.length : Int) ≤ x33.2.2.2)))), (102, (I r100)), (104, (I x33.2.1))]) ⟨e3, e4, e5, e6, e7, e78, e90, e102, e104, trivial⟩]
            clear hoff hrel e3 e4 e5 e6 e7 e78 e90 e102 e104
            refine st_g (v := (B (decide (r100 < x33.2.1)))) (congrArg some hb86) (rv_lss (a := r100) (b := x33.2.1) rfl rfl) ?_
            refine st_g (v := (B (decide (r100 < x33.2.1)))) (congrArg some hb81) (rv_pick_f (congrArg B hb86) rfl) ?_
            refine st (v := (B (decide (r100 < x33.2.1)))) (rv_pick_t (congrArg B hb81) rfl) ?_
            refine w_end ?_
            obtain rfl := Option.some.inj h
            exact ⟨rfl, _, σ104, fr_join ⟨rfl, rfl, rfl, rfl, rfl, rfl, trivial⟩, rfl, H.sel' [2, 3, 4] rfl rfl⟩
        ·replace h := bif_f hb81 h
         have Hs := H
         refine rg2 (σ := σ77) (Nm := Unit) 30 [] [[]] [[(0, 0)], [(0, 0)], [(0, 0)], [(0, 0)], [(0, 0)], [(0, 0)], [(0, 0)], [(0, 0)], [(0, 0)], [(0, 0)], [(0, 0)], [(0, 0)], [(0, 0)], [(0, 0)], [(0, 0)], [(0, 0)], [(0, 0)], [(0, 0)], [(0, 0)], [(0, 0)], [(0, 0)], [(0, 0)], [(0, 0)], [(0, 0)], [(0, 0)], [(0, 0)], [(0, 0)], [(0, 0)], [(0, 0)], [(0, 0)]] 0 [fun _ => fun σm => Hp S0 σ0 σm [Ch.ro n0 (Sl a5 r2.1 c6) r2.1, Ch.own 0 n0 (Sl a11 r8 c12) r8, Ch.bx n0 b40 0 [(I x33.1), (I x33.2.1), (I x33.2.2.1), (I x33.2.2.2)] [] [], Ch.ro 0 (Sl a47 r44.2.1 c48) r44.2.1] ∧ Md (cov []) σ77 σm] [fun _ => (pt b40 3), fun _ => (I x33.2.2.2), fun _ => (B (decide (0 ≤ x33.2.2.2))), fun _ => (B (decide (0 ≤ x33.2.2.2))), fun _ => undef, fun _ => undef, fun _ => undef, fun _ => undef, fun _ => undef, fun _ => undef, fun _ => undef, fun _ => undef, fun _ => undef, fun _ => undef, fun _ => undef, fun _ => undef, fun _ => undef, fun _ => undef, fun _ => undef, fun _ => undef, fun _ => undef, fun _ => undef, fun _ => undef, fun _ => undef, fun _ => undef, fun _ => undef, fun _ => undef, fun _ => undef, fun _ => undef, fun _ => undef] () (by kernel_rfl) (by kernel_rfl) ?_ ?_ ?_
         ·intro σm m0
          exact ⟨H.grow (m0.mono fun _ h => h.elim), m0⟩
         ·refine ac rfl (by
            intro k _nm ρ σm hJ hoff hdep
            have e7 := look_off (N := 121) (hoff 7 rfl) rfl
            exact dp_v (v := (pt b40 3)) wn (rv_fieldAddr (off := 3) (ft := 3) Try.underlying58 rfl ti3 rfl e7) rfl hJ) ?_
          refine all_cons (by
            refine ⟨?_, ?_⟩
            ·intro _nm ρ σm hJ hoff hdep
             have e75 := hdep 0 rfl rfl 75 rfl
             obtain ⟨H, m⟩ := id hJ
             have hc80 := H.cell (u := (I x33.2.2.2)) (o' := 3) 2 3 rfl rfl rfl
             exact dp_v (v := (I x33.2.2.2)) wn (rv_load1 Try.underlying3 rfl e75 hc80) rfl hJ
            trivial) ?_
          refine ac rfl (by
            intro k _nm ρ σm hJ hoff hdep
            have e76 := hdep 1 rfl rfl 76 rfl
            exact dp_v (v := (B (decide (0 ≤ x33.2.2.2)))) wn (rv_geq (a := x33.2.2.2) (b := 0) e76 rfl) rfl hJ) ?_
          refine ac rfl (by
            intro k _nm ρ σm hJ hoff hdep
            have e77 := hdep 2 rfl rfl 77 rfl
            exact dp_v (v := (B (decide (0 ≤ x33.2.2.2)))) wn (rv_move e77) rfl hJ) ?_
          refine ac rfl (by
            intro k _nm ρ σm hJ hoff hdep
            have e78 := hdep 3 rfl rfl 78 rfl
            exact dp_skip (wanted_no rfl (yv_of rfl (e78.trans (congrArg B hb81)))) rfl hJ) ?_
          refine ac rfl (by
            intro k _nm ρ σm hJ hoff hdep
            have e78 := hdep 3 rfl rfl 78 rfl
            exact dp_skip (wanted_no rfl (yv_of rfl (e78.trans (congrArg B hb81)))) rfl hJ) ?_
          refine ac rfl (by
            intro k _nm ρ σm hJ hoff hdep
            have e78 := hdep 3 rfl rfl 78 rfl
            exact dp_skip (wanted_no rfl (yv_of rfl (e78.trans (congrArg B hb81)))) rfl hJ) ?_
          refine ac rfl (by
            intro k _nm ρ σm hJ hoff hdep
            have e78 := hdep 3 rfl rfl 78 rfl
            exact dp_skip (wanted_no rfl (yv_of rfl (e78.trans (congrArg B hb81)))) rfl hJ) ?_
          refine ac rfl (by
            intro k _nm ρ σm hJ hoff hdep
            have e78 := hdep 3 rfl rfl 78 rfl
            exact dp_skip (wanted_no rfl (yv_of rfl (e78.trans (congrArg B hb81)))) rfl hJ) ?_
          refine ac rfl (by
            intro k _nm ρ σm hJ hoff hdep
            have e83 := hdep 8 rfl rfl 83 rfl
            exact dp_skip (wanted_u rfl (yv_undef rfl e83)) rfl hJ) ?_
          refine ac rfl (by
            intro k _nm ρ σm hJ hoff hdep
            have e83 := hdep 8 rfl rfl 83 rfl
            exact dp_skip (wanted_u rfl (yv_undef rfl e83)) rfl hJ) ?_
          refine ac rfl (by
            intro k _nm ρ σm hJ hoff hdep
            have e83 := hdep 8 rfl rfl 83 rfl
            exact dp_skip (wanted_u rfl (yv_undef rfl e83)) rfl hJ) ?_
          refine ac rfl (by
            intro k _nm ρ σm hJ hoff hdep
            have e83 := hdep 8 rfl rfl 83 rfl
            exact dp_skip (wanted_u rfl (yv_undef rfl e83)) rfl hJ) ?_
          refine ac rfl (by
            intro k _nm ρ σm hJ hoff hdep
            have e83 := hdep 8 rfl rfl 83 rfl
            exact dp_skip (wanted_u rfl (yv_undef rfl e83)) rfl hJ) ?_
          refine ac rfl (by
            intro k _nm ρ σm hJ hoff hdep
            have e78 := hdep 3 rfl rfl 78 rfl
            exact dp_skip (wanted_no rfl (yv_of rfl (e78.trans (congrArg B hb81)))) rfl hJ) ?_
          refine ac rfl (by
            intro k _nm ρ σm hJ hoff hdep
            have e78 := hdep 3 rfl rfl 78 rfl
            exact dp_skip (wanted_no rfl (yv_of rfl (e78.trans (congrArg B hb81)))) rfl hJ) ?_
          refine ac rfl (by
            intro k _nm ρ σm hJ hoff hdep
            have e90 := hdep 15 rfl rfl 90 rfl
            exact dp_skip (wanted_u rfl (yv_undef rfl e90)) rfl hJ) ?_
          refine ac rfl (by
            intro k _nm ρ σm hJ hoff hdep
            have e90 := hdep 15 rfl rfl 90 rfl
            exact dp_skip (wanted_u rfl (yv_undef rfl e90)) rfl hJ) ?_
          refine ac rfl (by
            intro k _nm ρ σm hJ hoff hdep
            have e90 := hdep 15 rfl rfl 90 rfl
            exact dp_skip (wanted_u rfl (yv_undef rfl e90)) rfl hJ) ?_
          refine ac rfl (by
            intro k _nm ρ σm hJ hoff hdep
            have e90 := hdep 15 rfl rfl 90 rfl
            exact dp_skip (wanted_u rfl (yv_undef rfl e90)) rfl hJ) ?_
          refine ac rfl (by
            intro k _nm ρ σm hJ hoff hdep
            have e90 := hdep 15 rfl rfl 90 rfl
            exact dp_skip (wanted_u rfl (yv_undef rfl e90)) rfl hJ) ?_
          refine ac rfl (by
            intro k _nm ρ σm hJ hoff hdep
            have e90 := hdep 15 rfl rfl 90 rfl
            exact dp_skip (wanted_u rfl (yv_undef rfl e90)) rfl hJ) ?_
          refine ac rfl (by
            intro k _nm ρ σm hJ hoff hdep
            have e90 := hdep 15 rfl rfl 90 rfl
            exact dp_skip (wanted_u rfl (yv_undef rfl e90)) rfl hJ) ?_
          refine ac rfl (by
            intro k _nm ρ σm hJ hoff hdep
            have e90 := hdep 15 rfl rfl 90 rfl
            exact dp_skip (wanted_u rfl (yv_undef rfl e90)) rfl hJ) ?_
          refine ac rfl (by
            intro k _nm ρ σm hJ hoff hdep
            have e90 := hdep 15 rfl rfl 90 rfl
            exact dp_skip (wanted_u rfl (yv_undef rfl e90)) rfl hJ) ?_
          refine ac rfl (by
            intro k _nm ρ σm hJ hoff hdep
            have e90 := hdep 15 rfl rfl 90 rfl
            exact dp_skip (wanted_u rfl (yv_undef rfl e90)) rfl hJ) ?_
          refine ac rfl (by
            intro k _nm ρ σm hJ hoff hdep
            have e90 := hdep 15 rfl rfl 90 rfl
            exact dp_skip (wanted_u rfl (yv_undef rfl e90)) rfl hJ) ?_
          refine ac rfl (by
            intro k _nm ρ σm hJ hoff hdep
            have e90 := hdep 15 rfl rfl 90 rfl
            exact dp_skip (wanted_u rfl (yv_undef rfl e90)) rfl hJ) ?_
          refine ac rfl (by
            intro k _nm ρ σm hJ hoff hdep
            have e90 := hdep 15 rfl rfl 90 rfl
            exact dp_skip (wanted_u rfl (yv_undef rfl e90)) rfl hJ) ?_
          refine ac rfl (by
            intro k _nm ρ σm hJ hoff hdep
            have e90 := hdep 15 rfl rfl 90 rfl
            exact dp_skip (wanted_u rfl (yv_undef rfl e90)) rfl hJ) ?_
          exact all_nil
         ·intro _nm ρ σ105 hJ hoff hrel
          have e3 := look_off (N := 121) (hoff 3 rfl) rfl
          have e4 := look_off (N := 121) (hoff 4 rfl) rfl
          have e5 := look_off (N := 121) (hoff 5 rfl) rfl
          have e6 := look_off (N := 121) (hoff 6 rfl) rfl
          have e7 := look_off (N := 121) (hoff 7 rfl) rfl
          have e78 := hrel 3 rfl 78 rfl
          have e90 := hrel 15 rfl 90 rfl
          have e102 := hrel 27 rfl 102 rfl
          have e104 := hrel 29 rfl 104 rfl
          obtain ⟨H, -⟩ := (show Hp S0 σ0 σ105 [Ch.ro n0 (Sl a5 r2.1 c6) r2.1, Ch.own 0 n0 (Sl a11 r8 c12) r8, Ch.bx n0 b40 0 [(I x33.1), (I x33.2.1), (I x33.2.2.1), (I x33.2.2.2)] [] [], Ch.ro 0 (Sl a47 r44.2.1 c48) r44.2.1] ∧ Md (cov []) σ77 σ105 from hJ)
          clear hJ Hs
          rw [fr_lookL (L := [(3, (Sl a5 r2.1 c6)), (4, (I r2.2)), (5, (Sl a11 r8 c12)), (6, (I s28)), (7, (pt b40 0)), (78, (B (decide (0 ≤ x33.2.2.2)))), (90, undef), (102, undef), (104, undef)]) ⟨e3, e4, e5, e6, e7, e78, e90, e102, e104, trivial⟩]
          clear hoff hrel e3 e4 e5 e6 e7 e78 e90 e102 e104
          refine st_skip_u rfl ?_
          refine st_skip (congrArg some hb81) ?_
          refine st (v := (B false)) (rv_pick_f (congrArg B hb81) rfl) ?_
          refine w_end ?_
          obtain rfl := Option.some.inj h
          exact ⟨rfl, _, σ105, fr_join ⟨rfl, rfl, rfl, rfl, rfl, rfl, trivial⟩, rfl, H.sel' [0, 1, 2] rfl rfl⟩
       ·clear hj
        have h := h'
        clear h' H
        rintro e a w ⟨rfl, ρ, σ106, rfl, rfl, H⟩
        refine q_then ?_
        refine cd_cond o79 rfl (fun hb107 => ?_) (fun hb107 => ?_)
        ·replace h := bif_t hb107 h
         refine c_seq ?_
         refine rg ?_
         refine st (v := (B false)) (rv_assign rfl) ?_
         refine w_end ?_
         refine q_then ?_
         refine c_ret ?_
         refine q_then_r ?_
         refine q_blk_r ?_
         refine q_then_r ?_
         refine q_then_r ?_
         refine q_blk_r ?_
         obtain rfl := Option.some.inj h
         obtain rfl := hres _ rfl
         exact .inr (⟨_, rfl, rfl, _, σ106, fr_join ⟨rfl, trivial⟩, rfl, H.sel' [] rfl rfl⟩)
        ·replace h := bif_f hb107 h
         refine c_skip ?_
         refine q_then ?_
         refine c_seq ?_
         obtain ⟨o108, hj, h'⟩ := bind_some h
         clear h
         refine c_cut (fun e a w => e = .normal ∧ ∃ (ρ : Nat → Value) (σ : St), a = fr 121 (updL ρ [(3, (Sl a5 r2.1 c6)), (4, (I r2.2)), (5, (Sl a11 r8 c12)), (6, (I s28)), (120, (B o108))]) ∧ w = σ.w ∧ Hp S0 σ0 σ [Ch.ro n0 (Sl a5 r2.1 c6) r2.1, Ch.own 0 n0 (Sl a11 r8 c12) r8]) ?_ ?_
         ·clear h'
          rename _ = some o108 => h
          refine rg ?_
          refine st (v := (pt b40 2)) (rv_fieldAddr (off := 2) (ft := 3) Try.underlying58 rfl ti3 rfl rfl) ?_
          have hc109 := H.cell (u := (I x33.2.2.1)) (o' := 2) 2 2 rfl rfl rfl
          refine st (v := (I x33.2.2.1)) (rv_load1 Try.underlying3 rfl rfl hc109) ?_
          refine st (v := (B (decide (x33.2.2.1 < 0)))) (rv_lss (a := x33.2.2.1) (b := 0) rfl rfl) ?_
          refine st (v := (B (decide (x33.2.2.1 < 0)))) (rv_move rfl) ?_
          rcases Bool.eq_false_or_eq_true (decide (x33.2.2.1 < 0)) with hb110 | hb110
          ·replace h := bif_t hb110 h
           refine st_g (v := (pt b40 3)) (congrArg some hb110) (rv_fieldAddr (off := 3) (ft := 3) Try.underlying58 rfl ti3 rfl rfl) ?_
           have hc111 := H.cell (u := (I x33.2.2.2)) (o' := 3) 2 3 rfl rfl rfl
           refine st_g (v := (I x33.2.2.2)) (congrArg some hb110) (rv_load1 Try.underlying3 rfl rfl hc111) ?_
           refine st_g (v := (B (decide (0 ≤ x33.2.2.2)))) (congrArg some hb110) (rv_geq (a := x33.2.2.2) (b := 0) rfl rfl) ?_
           refine st_g (v := (B (decide (0 ≤ x33.2.2.2)))) (congrArg some hb110) (rv_move rfl) ?_
           rcases Bool.eq_false_or_eq_true (decide (0 ≤ x33.2.2.2)) with hb112 | hb112
           ·replace h := bif_t hb112 h
            refine st_skip (congrArg some hb112) ?_
            refine st_skip (congrArg some hb112) ?_
            refine st_skip (congrArg some hb112) ?_
            refine st_g (v := (B true)) (congrArg some hb110) (rv_pick_t (congrArg B hb112) rfl) ?_
            refine st (v := (B true)) (rv_pick_t (congrArg B hb110) rfl) ?_
            refine w_end ?_
            obtain rfl := Option.some.inj h
            exact ⟨rfl, _, σ106, fr_join ⟨rfl, rfl, rfl, rfl, rfl, trivial⟩, rfl, H.sel' [0, 1] rfl rfl⟩
           ·replace h := bif_f hb112 h
            refine st_g (v := (pt b40 1)) (congrArg some hb112) (rv_fieldAddr (off := 1) (ft := 3) Try.underlying58 rfl ti3 rfl rfl) ?_
            have hc113 := H.cell (u := (I x33.2.1)) (o' := 1) 2 1 rfl rfl rfl
            refine st_g (v := (I x33.2.1)) (congrArg some hb112) (rv_load1 Try.underlying3 rfl rfl hc113) ?_
            refine st_g (v := (B (x33.2.1 != 0))) (congrArg some hb112) (rv_neq (a := x33.2.1) (b := 0) rfl rfl) ?_
            refine st_g (v := (B (x33.2.1 != 0))) (congrArg some hb110) (rv_pick_f (congrArg B hb112) rfl) ?_
            refine st (v := (B (x33.2.1 != 0))) (rv_pick_t (congrArg B hb110) rfl) ?_
            refine w_end ?_
            obtain rfl := Option.some.inj h
            exact ⟨rfl, _, σ106, fr_join ⟨rfl, rfl, rfl, rfl, rfl, trivial⟩, rfl, H.sel' [0, 1] rfl rfl⟩
          ·replace h := bif_f hb110 h
           refine st_skip (congrArg some hb110) ?_
           refine st_skip (congrArg some hb110) ?_
           refine st_skip (congrArg some hb110) ?_
           refine st_skip (congrArg some hb110) ?_
           refine st_skip_u rfl ?_
           refine st_skip_u rfl ?_
           refine st_skip_u rfl ?_
           refine st_skip (congrArg some hb110) ?_
           refine st (v := (B false)) (rv_pick_f (congrArg B hb110) rfl) ?_
           refine w_end ?_
           obtain rfl := Option.some.inj h
           exact ⟨rfl, _, σ106, fr_join ⟨rfl, rfl, rfl, rfl, rfl, trivial⟩, rfl, H.sel' [0, 1] rfl rfl⟩
         ·clear hj
          have h := h'
          clear h' H
          rintro e a w ⟨rfl, ρ, σ114, rfl, rfl, H⟩
          refine q_then ?_
          refine cd_cond o108 rfl (fun hb115 => ?_) (fun hb115 => ?_)
          ·replace h := bif_t hb115 h
           refine c_seq ?_
           refine rg ?_
           refine st (v := (B false)) (rv_assign rfl) ?_
           refine w_end ?_
           refine q_then ?_
           refine c_ret ?_
           refine q_blk_r ?_
           refine q_then_r ?_
           refine q_then_r ?_
           refine q_blk_r ?_
           obtain rfl := Option.some.inj h
           obtain rfl := hres _ rfl
           exact .inr (⟨_, rfl, rfl, _, σ114, fr_join ⟨rfl, trivial⟩, rfl, H.sel' [] rfl rfl⟩)
          ·replace h := bif_f hb115 h
           refine c_skip ?_
           refine q_blk ?_
           refine q_then ?_
           refine rg ?_
           refine st (v := (I s28)) (rv_move rfl) ?_
           refine st (v := (I (w64 (s28 + 1)))) (rv_add (a := s28) (b := 1) rfl rfl) ?_
           refine st (v := (I (w64 (s28 + 1)))) (rv_assign rfl) ?_
           refine w_end ?_
           refine q_then ?_
           obtain rfl := Option.some.inj h
           exact ⟨_, rfl, _, σ114, fr_join ⟨rfl, rfl, rfl, rfl, trivial⟩, rfl, H.sel' [0, 1] rfl rfl⟩
    ·replace h := bif_f hb32 h
     refine c_exit ?_
     refine q_then_x ?_
     refine q_then_x ?_
     refine q_blk_hit ?_
     obtain rfl := Option.some.inj h
     obtain rfl := hres _ rfl
     exact .inl ⟨_, rfl, rfl, _, σ31, fr_join trivial, rfl, H.sel' [] rfl rfl⟩
   ·clear hj
    have h := h'
    clear h' H
    rintro e a w (⟨t116, rfl, rfl, ρ, σ117, rfl, rfl, H⟩ | ⟨t118, rfl, rfl, ρ, σ119, rfl, rfl, H⟩)
    ·replace h := selim_l h
     refine q_then ?_
     refine c_seq ?_
     refine rg ?_
     refine st (v := (B true)) (rv_assign rfl) ?_
     refine w_end ?_
     refine q_then ?_
     refine c_ret ?_
     obtain rfl := Option.some.inj h
     exact fin_ret (v := (B true)) (results_ok Try.results12 (res_tmp (v := (B true)) rfl res_nil) rfl) ⟨rfl, rfl⟩ (H.sel' [] rfl rfl)
    ·replace h := selim_r h
     refine q_then_r ?_
     obtain rfl := Option.some.inj h
     exact fin_ret (v := (B t118)) (results_ok Try.results12 (res_tmp (v := (B t118)) rfl res_nil) rfl) ⟨rfl, rfl⟩ (H.sel' [] rfl rfl)

end Go.Vs
